import Derived.Test.YtnpfcnolmkanfaaGreatDoorCD8
import Derived.Conc.CompanyMem
import Derived.Conc.TokenWalk
import Derived.Conc.DeferLaws
namespace Go.Co
open Go.Conc
section
variable {P : Program}{Low : Nat}{Stop : Goroutine -> World -> Prop}
theorem Aln {O:Nat->Prop}{g:Goroutine}{w:World}(D:∀b,O b->Low<=b/\b<w.heap.size)(hl:Low<=w.heap.size)(V:∀g w,Stop g w->OkG g)(h:Rcv P Low Stop ⟨O,[],g,w⟩):Comes P g w Stop:=by
 intro m sl t ⟨y,⟨q,A⟩,B,L⟩ _;have C:=(Array.getElem?_eq_some_iff.1 y).1;have S:PhI P Low m.size t ⟨O,[],g,w⟩ (λk b=>k=0/\O b) ((List.range m.size).map λi=>.inr (if i=0 then 0 else q i)) m w t:=by
  refine⟨C,spz,by simp[C],spz,h.inv.1,Keep.refl _ _ _, .inl y,λi hi v=>?_,λj c W seen n=>by simp at n,λb I=>⟨rfl,I⟩,λj s u=>?_,λj c W seen n=>by simp at n,λj k c r s Z Y n=>by simp at n,⟨λk l b e X=>e.1.trans X.1.symm,λk b e=>(D b e.2).1,λk b e=>(D b e.2).2⟩,hl,Tr.begin L A⟩
  ·refine⟨q i,m[i],?_,A7v v,A.old i _ hi (A7v v)⟩
   have:i≠0:=omz
   simp[v,this]
  ·simp at u
 obtain⟨N,M,H,T,U,E,J,hF,R,u⟩:=phase w.tape h _ _ m w t sl S rfl;exact⟨N,M,H,T,U,E,J,hF,V _ _ u,R,u⟩
end
theorem Jg (O:Nat->Prop)(w:World):grown O w w=O:=by
 funext b;apply propext;constructor
 ·rintro(h | ⟨e,g⟩)
  ·exact h
  ·omega
 ·exact .inl
structure OkL {τ:Type}(P:Program)(main:Bool)(Low:Nat)(pre:τ->World->Prop)(ok:τ->(Nat->Prop)->World->Goroutine->Prop):Prop where
 rely:∀{x O w w₁ g},ok x O w g->Keep Low O w w₁->ok x O w₁ g
 own:∀{x O w g},g.status=.running->(∀w₁,Keep Low O w w₁->pre x w₁->∃g' w' es,stepG P main g w₁=.go g' w' es/\g'.status=.running/\Ao1 Low O w₁ w' es/\ok x (grown O w₁ w') w' g')->ok x O w g
theorem Ao1.none (Low:Nat)(O:Nat->Prop)(w:World):Ao1 Low O w w #[]:=⟨λ_ _ _=>rfl,A57 _,rfl,rfl,rfl,spz⟩
section
variable {τ : Type}{P : Program}{main : Bool}{Low : Nat}{pre : τ -> World -> Prop}{ok : τ -> (Nat -> Prop) -> World -> Goroutine -> Prop}
theorem OkL.ctl (T:OkL P main Low pre ok){x:τ}{O:Nat->Prop}{w:World}{g g':Goroutine}(hr:g.status=.running)(k:g'.status=.running)(j:∀w₁,stepG P main g w₁=.go g' w₁ #[])(h:ok x O w g'):ok x O w g:=
 T.own hr λw₁ e _=>⟨g',w₁,#[],j w₁,k,Ao1.none _ _ _,by rw[Jg];exact T.rely h e⟩
end
section
variable {τ : Type}(P : Program)(ok : τ -> (Nat -> Prop) -> World -> Goroutine -> Prop)
def Amh (b:Frame)(k:List Item)(cs:List Frame):Exit->Act->τ->(Nat->Prop)->World->Prop
 | .normal,a,x,O,w=>ok x O w (G (b.at a k) cs)
 | .exit id,a,x,O,w=>∃e,exitTo id k=some e/\ok x O w (G (b.at a e) cs)
 | .ret,a,x,O,w=>∀g,ok x O w (G {b.at a g with mode:=.returning} cs)
 | _,_,_,_,_=>False
abbrev Vq (τ:Type):=Exit->Act->τ->(Nat->Prop)->World->Prop
def WpK (fn:FuncId)(c:Code)(Q:Vq τ)(a:Act)(x:τ)(O:Nat->Prop)(w:World):Prop:=
 ∀(b:Frame) (k:List Item) (h:List Frame),b.fn=fn->b.kind≠.early->(∀e l m g j,Q e l m g j->Amh ok b k h e l m g j)->ok x O w (G (b.at a (.code c::k)) h)
def Uc (fn:FuncId)(ops:Array Oper)(todo:List Nat)(Q:Vq τ)(a:Act)(x:τ)(O:Nat->Prop)(w:World):Prop:=
 ∀(b:Frame) (k:List Item) (h:List Frame),b.fn=fn->b.kind≠.early->(∀e l m g j,Q e l m g j->Amh ok b k h e l m g j)->ok x O w (G (b.at a (.inRegion ops todo::k)) h)
def U4 (N:Act->τ->(Nat->Prop)->World->Prop)(Q:Vq τ):Vq τ
 | .normal=>N
 | e=>Q e
def Lj (id:Nat)(Q:Vq τ):Vq τ
 | .exit g=>if g=id then Q .normal else Q (.exit g)
 | e=>Q e
def Al4 (fn:Func)(Post:Value->τ->(Nat->Prop)->World->Prop):Vq τ
 | .normal,a,x,O,w | .ret,a,x,O,w=>a.defers=[]/\∃v,ResultsC P fn a.tmps v/\Post v x O w
 | _,_,_,_,_=>False
def Lc (f:FuncId)(args:Array Value)(x:τ)(O:Nat->Prop)(w:World)(Post:Value->τ->(Nat->Prop)->World->Prop):Prop:=
 ∃fn c,P.funcs[f]?=some fn/\(fn.name== "runtime.NumGoroutine")=false/\fn.body=some c/\
  WpK ok f c (Al4 P fn Post) {tmps:=args++Array.replicate (fn.ntmps - args.size) undef,defers:=[]} x O w
end
section
variable {c d:Code}{f:FuncId}{i id:Nat}{o:Oper}{ops:Array Oper}{rest:List Nat}
variable {τ : Type}{P : Program}{main : Bool}{Low : Nat}{pre : τ -> World -> Prop}{ok : τ -> (Nat -> Prop) -> World -> Goroutine -> Prop}{fn : FuncId}{Q Q' : Vq τ}{a : Act}{x : τ}{O : Nat -> Prop}{w w₁ : World}
theorem Amh.push {b:Frame}{y:Item}{k:List Item}{cs:List Frame}{e:Exit}(hx:y.plain=true)(g:e≠.normal)(h:Amh ok b k cs e a x O w):Amh ok b (y::k) cs e a x O w:=by
 cases e with
 | normal=>exact absurd rfl g
 | exit id=>obtain⟨j,p,m⟩:=h;exact⟨j,by cases y<;>simp_all[exitTo,Item.plain],m⟩
 | ret=>exact h
 | goto l=>exact h
 | panic n=>exact h
 | outgrown=>exact h
theorem WpK.mono (h:WpK ok fn c Q a x O w)(l:∀e a x O w,Q e a x O w->Q' e a x O w):WpK ok fn c Q' a x O w:=
 λb k p m j s=>h b k p m j λe n t g r q=>s e n t g r (l _ _ _ _ _ q)
theorem Uc.rely (T:OkL P main Low pre ok){todo:List Nat}(h:Uc ok fn ops todo Q a x O w)(hr:Keep Low O w w₁):Uc ok fn ops todo Q a x O w₁:=
 λb k j g e l=>T.rely (h b k j g e l) hr
theorem U2 (T:OkL P main Low pre ok)(h:Q .normal a x O w):WpK ok fn .skip Q a x O w:=λ_b _k _cs _ _ e=>T.ctl rfl rfl (λ_=>stepG_skip) (e _ _ _ _ _ h)
theorem Rn (T:OkL P main Low pre ok){l:Nat}(h:Q .normal a x O w):WpK ok fn (.label l) Q a x O w:=λ_b _k _cs _ _ e=>T.ctl rfl rfl (λ_=>stepG_label) (e _ _ _ _ _ h)
theorem Y7 (T:OkL P main Low pre ok)(h:Q .ret a x O w):WpK ok fn .ret Q a x O w:=λ_b _k _cs _ _ e=>T.ctl rfl rfl (λ_=>stepG_ret') (e _ _ _ _ _ h _)
theorem U3 (T:OkL P main Low pre ok)(h:Q (.exit id) a x O w):WpK ok fn (.exit id) Q a x O w:=λb k m _ _ j=>by
 obtain⟨l,e,g⟩:=j _ _ _ _ _ h;exact T.ctl rfl rfl (λ_=>stepG_exit e) g
theorem Jz (T:OkL P main Low pre ok)(h:WpK ok fn c (U4 (λm t j u=>WpK ok fn d Q m t j u) Q) a x O w):WpK ok fn (.seq c d) Q a x O w:=by
 intro b k s r n g;refine T.ctl rfl rfl (λ_=>stepG_seq) (h b (.code d::k) s r n λe m t j u q=>?_);cases e with
 | normal=>exact q b k s r n g
 | exit id=>exact(g _ _ _ _ _ q).push rfl spz
 | ret=>exact(g _ _ _ _ _ q).push (y:=.code d) rfl spz
 | goto l=>exact g _ _ _ _ _ q
 | panic v=>exact g _ _ _ _ _ q
 | outgrown=>exact g _ _ _ _ _ q
theorem Ac2 (T:OkL P main Low pre ok){c:Operand}{e:Code}{t:Bool}(n:a.eval c=.bool t)(h:WpK ok fn (if t then d else e) Q a x O w):WpK ok fn (.cond c d e) Q a x O w:=
 λb k m l g j=>T.ctl rfl rfl (λ_=>stepG_cond n) (h b k m l g j)
theorem Ro (T:OkL P main Low pre ok)(h:WpK ok fn c (Lj id Q) a x O w):WpK ok fn (.block id c) Q a x O w:=by
 intro b k p n m g;refine T.ctl rfl rfl (λ_=>stepG_block) (h b (.inBlock id::k) p n m λe y B v C q=>?_);cases e with
 | normal=>exact T.ctl rfl rfl (λ_=>stepG_inBlock) (g _ _ _ _ _ q)
 | exit j=>
  by_cases hid:j=id
  ·simp only[Lj,hid,if_true] at q
   exact⟨k,by simp[exitTo,hid],g _ _ _ _ _ q⟩
  ·simp only[Lj,hid,A7k] at q
   obtain⟨s,t,u⟩:=g _ _ _ _ _ q;have:(id==j)=false:=by simp;exact λh=>hid h.symm
   exact⟨s,by simp[exitTo,this,t],u⟩
 | ret=>exact λr=>g _ _ _ _ _ q r
 | goto l=>exact g _ _ _ _ _ q
 | panic A=>exact g _ _ _ _ _ q
 | outgrown=>exact g _ _ _ _ _ q
theorem Xv (T:OkL P main Low pre ok)(I:Nat->Act->τ->(Nat->Prop)->World->Prop)(N:Nat)(C:I N a x O w)
  (round:∀n a x O w,I n a x O w->WpK ok fn c (U4 (λr t j u=>∃m,m<n/\I m r t j u) Q) a x O w):WpK ok fn (.loop c) Q a x O w:=by
 intro b k s B A g;have key:∀n a x O w,I n a x O w->ok x O w (G (b.at a (.code c::.inLoop c::k)) s):=by
  intro n;induction n using Nat.strongRecOn with
  | ind n E=>
   intro a x O w D;refine round n a x O w D b (.inLoop c::k) s B A λe r t j u q=>?_
   cases e with
   | normal=>obtain⟨m,H,v⟩:=q;exact T.ctl rfl rfl (λ_=>stepG_inLoop) (E m H _ _ _ _ v)
   | exit id=>exact(g _ _ _ _ _ q).push rfl spz
   | ret=>exact(g _ _ _ _ _ q).push (y:=.inLoop c) rfl spz
   | goto l=>exact g _ _ _ _ _ q
   | panic J=>exact g _ _ _ _ _ q
   | outgrown=>exact g _ _ _ _ _ q
 exact T.ctl rfl rfl (λ_=>stepG_loop) (key N _ _ _ _ C)
theorem Fa (T:OkL P main Low pre ok)(h:Uc ok fn ops (List.range ops.size) Q a x O w):WpK ok fn (.region id ops false) Q a x O w:=
 λb k j g e l=>T.ctl rfl rfl (λ_=>stepG_region) (h b k j g e l)
theorem Pm (T:OkL P main Low pre ok)(h:Q .normal a x O w):Uc ok fn ops [] Q a x O w:=
 λ_b _k _cs _ _ e=>T.ctl rfl rfl (λ_=>stepG_region_end) (e _ _ _ _ _ h)
theorem U9 (T:OkL P main Low pre ok)(g:ops[i]?=some o)(m:Region.wanted o (yielded ops a.tmps)=false)(h:Uc ok fn ops rest Q (a.put o.dst undef) x O w):Uc ok fn ops (i::rest) Q a x O w:=
 λb k l j e n=>T.ctl rfl rfl (λ_=>stepG_unwanted g m) (h b k l j e n)
theorem Xb (T:OkL P main Low pre ok)(s:ops[i]?=some o)(q:Region.wanted o (yielded ops a.tmps)=true)
  (h:∀w₁,Keep Low O w w₁->pre x w₁->∀K:Act->World->Prop,(∀j e,Ao1 Low O w₁ e (listed P fn a o w₁)/\Uc ok fn ops rest Q j x (grown O w₁ e) e->K j e)->uponK o a K ((execOp a.eval o).run P w₁)):Uc ok fn ops (i::rest) Q a x O w:=by
 intro b k p m l r;refine T.own rfl λw₁ u t=>?_
 have:=h w₁ u t (λj e=>Ao1 Low O w₁ e (listed P fn a o w₁)/\Uc ok fn ops rest Q j x (grown O w₁ e) e) λ_ _ z=>z
 revert this
 cases n:(execOp a.eval o).run P w₁ with
 | ok y e=>
  cases y with
  | value v=>rintro⟨d,g⟩;exact⟨_,_,_,stepG_value s q l n,rfl,by rw[m];exact d,g b k p m l r⟩
  | skip=>rintro⟨d,g⟩;exact⟨_,_,_,stepG_none s q l n,rfl,by rw[m];exact d,g b k p m l r⟩
  | _=>exact λz=>z.elim
 | halt _ _=>exact λz=>z.elim
theorem Awf (T:OkL P main Low pre ok){args:Array Operand}{C:Array TypeId}{Post:Value->τ->(Nat->Prop)->World->Prop}
  (A:ops[i]?=some o) (L:Region.wanted o (yielded ops a.tmps)=true) (R:o.op=.call {callee:=.value (.func f),args,argTypes:=C})
  (W:Lc P ok f (args.map a.eval) x O w Post) (N:∀v m j g,Post v m j g->Uc ok fn ops rest Q (a.put o.dst v) m j g):Uc ok fn ops (i::rest) Q a x O w:=by
 intro b k cs J s U;obtain⟨F,c,u,M,X,H⟩:=W;have I:∀v,(b.at a (.inRegion ops (i::rest)::k)).finish v=b.at (a.put o.dst v) (.inRegion ops rest::k):=λv=>by rw[Frame.finish_at,A];rfl
 have y:∀(n:Act) (m:τ) (j:Nat->Prop) (g:World) (r:List Item),(n.defers=[]/\∃v,ResultsC P F n.tmps v/\Post v m j g)->
   ok m j g (G {(base f).at n r with mode:=.returning} (b.at a (.inRegion ops (i::rest)::k)::cs)):=by
  rintro n m j g r ⟨hd,v,t,S⟩;refine T.ctl rfl (g':=G (b.at (a.put o.dst v) (.inRegion ops rest::k)) cs) rfl (λw₁=>?_) (N v m j g S b k cs J s U);rw[stepG_leave (b:=base f) rfl hd u (t w₁).1 (t w₁).2,I]
 have E:ok x O w (G ((base f).at {tmps:=args.map a.eval++Array.replicate (F.ntmps - (args.map a.eval).size) undef,defers:=[]} [.code c]) (b.at a (.inRegion ops (i::rest)::k)::cs)):=by
  refine H (base f) [] _ rfl yDg λe n m j g q=>?_
  cases e with
  | normal=>exact T.ctl rfl rfl (λ_=>stepG_end) (y n m j g [] q)
  | ret=>exact λr=>y n m j g r q
  | exit id=>exact q.elim
  | goto l=>exact q.elim
  | panic Y=>exact q.elim
  | outgrown=>exact q.elim
 refine T.ctl rfl (g':=G ((base f).at {tmps:=args.map a.eval++Array.replicate (F.ntmps - (args.map a.eval).size) undef,defers:=[]} [.code c]) (b.at a (.inRegion ops (i::rest)::k)::cs)) rfl (λw₁=>?_) E;obtain⟨g',g,B,D,V⟩:=goes_elim (goes_call (P:=P) (main:=main) (w:=w₁) (cs:=cs) (k:=k) (rest:=rest) (K:=λg' g B=>g'=G ((base f).at {tmps:=args.map a.eval++Array.replicate (F.ntmps - (args.map a.eval).size) undef,defers:=[]} [.code c]) (b.at a (.inRegion ops (i::rest)::k)::cs)/\g=w₁/\B=#[]) A L s R u M X ⟨rfl,rfl,rfl⟩);obtain⟨rfl,rfl,rfl⟩:=V;exact D
theorem Lc.mono {args:Array Value}{Post g:Value->τ->(Nat->Prop)->World->Prop}(h:Lc P ok f args x O w Post)(m:∀v x O w,Post v x O w->g v x O w):Lc P ok f args x O w g:=by
 obtain⟨F,c,j,n,k,l⟩:=h;refine⟨F,c,j,n,k,l.mono λe a x O w q=>?_⟩;cases e<;>first | exact⟨q.1,q.2.choose,q.2.choose_spec.1,m _ _ _ _ q.2.choose_spec.2⟩ | exact q
end
section
variable {P : Program}{Low : Nat}
def okS (P:Program)(Low c:Nat):List Value->(Nat->Prop)->World->Goroutine->Prop:=λvs O w g=>Snd P Low ⟨c,O,vs,g,w⟩
theorem Bd (P:Program)(Low c:Nat):OkL P false Low (λ_ w=>Yn c w) (okS P Low c):=by
 refine⟨fun {x O w w₁ g} h l=>?_,fun {x O w g} p h=>?_⟩
 ·have hi:=Snd.inv h
  refine Snd.mk ⟨hi.1,?_⟩;rcases hi.2 with h | ⟨v,m,e,h⟩ | ⟨n,q,h⟩
  ·exact .inl λj k o=>h j (l.trans k) o
  ·exact .inr (.inl ⟨v,m,e,λj k o=>h j (l.trans k) o⟩)
  ·exact .inr (.inr ⟨n,q,λj s r k o=>h j s r (l.trans k) o⟩)
 ·exact Snd.mk ⟨p, .inl λw₁ k o=>h w₁ k o⟩
def okR (P:Program)(Low:Nat)(Stop:Goroutine->World->Prop):List (Nat × List Value × Bool)->(Nat->Prop)->World->Goroutine->Prop:=λL O w g=>Rcv P Low Stop ⟨O,L,g,w⟩
theorem Bh (P:Program)(Low:Nat)(Stop:Goroutine->World->Prop):OkL P true Low (λ_ _=>True) (okR P Low Stop):=by
 refine⟨fun {x O w w₁ g} h l=>?_,fun {x O w g} p h=>?_⟩
 ·have hi:=Rcv.inv h
  refine Rcv.mk ⟨hi.1,?_⟩;rcases hi.2 with⟨m,h⟩ | h | ⟨c,q,h⟩ | ⟨j,c,vs,z,n,h⟩
  ·exact .inl ⟨m,λe k=>h e (l.trans k)⟩
  ·exact .inr (.inl λe k=>h e (l.trans k))
  ·exact .inr (.inr (.inl ⟨c,q,λe k=>h e (l.trans k)⟩))
  ·exact .inr (.inr (.inr ⟨j,c,vs,z,n,λe k=>h e (l.trans k)⟩))
 ·exact Rcv.mk ⟨p, .inr (.inl λw₁ k=>h w₁ k trivial)⟩
section
variable {F:Func}{args:Array Value}{cd:Code}{f:FuncId}{vs:List Value}{z:Value}
variable {fn : FuncId}{a : Act}{O : Nat -> Prop}{w : World}{c : Nat}{ops : Array Oper}{i : Nat}{rest : List Nat}{o : Oper}
theorem Akj {Q:Vq (List Value)}{v:Value}(l:ops[i]?=some o)(r:Region.wanted o (yielded ops a.tmps)=true)(hr:∀w₁:World,(execOp a.eval o).run P w₁=.ok (.comm #[scase c v z] true .send) w₁)
  (p:∀w₁:World,(execOp a.eval o).events P w₁ #[]=#[]) (h:Uc (okS P Low c) fn ops rest Q (a.put o.dst undef) vs O w):Uc (okS P Low c) fn ops (i::rest) Q a (v::vs) O w:=by
 intro b k g n j s;refine Snd.mk ⟨rfl, .inr (.inl ⟨v,vs,rfl,λw₁ q _=>⟨⟨z,?_⟩,?_⟩⟩)⟩
 ·show stepG P false (G (b.at a (.inRegion ops (i::rest)::k)) g) w₁=_
  rw[stepG_comm l r j (hr w₁)];unfold listed;rw[p,seen_none]
 ·have m:(b.at a (.inRegion ops (i::rest)::k)).finish undef=b.at (a.put o.dst undef) (.inRegion ops rest::k):=by rw[Frame.finish_at,l];rfl
  have e:Conc.served (G (b.at a (.inRegion ops (i::rest)::k)) g) undef=G (b.at (a.put o.dst undef) (.inRegion ops rest::k)) g:=by rw[<-m];rfl
  show Snd P Low ⟨c,O,vs,Conc.served (G (b.at a (.inRegion ops (i::rest)::k)) g) undef,w₁⟩
  rw[e];exact(Bd P Low c).rely (h b k g n j s) q
theorem Awg {b:Frame}{k:List Item}{cs:List Frame}{y:Operand}{e:Array TypeId}{n:Nat}(p:ops[i]?=some o)(t:Region.wanted o (yielded ops a.tmps)=true)(m:b.kind≠.early)
  (g:o.op=.call {callee:=.builtin .close,args:=#[y],argTypes:=e}) (j:a.eval y=.chan (some c)) (q:(P.funcs[b.fn]?).any (·.norace)=false) (u:mayWake P (G (b.at a (.inRegion ops (i::rest)::k)) cs)=true)
  (h:QuitsIn P n (G (b.at (a.put o.dst (.tuple #[])) (.inRegion ops rest::k)) cs)):okS P Low c [] O w (G (b.at a (.inRegion ops (i::rest)::k)) cs):=by
 refine Snd.mk ⟨rfl, .inr (.inr ⟨rfl,u,λw₁ s r _ l=>⟨_,n,?_,rfl,h⟩⟩)⟩;exact stepG_close p t m g j l q
def A18 (P:Program):Frame:={(default:Frame) with fn:=P.funcs.size,defers:=[],mode:=.panicking [goexitEntry]}
theorem Aor (e:P.funcs[f]?=some F)(g:(F.name== "runtime.NumGoroutine")=false)(h:F.body=some cd)(w:World):
  stepG P false (born P (dcall f args)) w=.go (G ((baseD f).at {tmps:=args++Array.replicate (F.ntmps - args.size) undef,defers:=[]} [.code cd]) [A18 P]) w #[]:=by
 have j:¬F.name= "runtime.NumGoroutine" :=by simpa using g
 simp[born,dcall,stepG,unwind,callDeferred,invoke,callFunc,e,j,h,seen,GStep.after,G,Frame.enter,Frame.at,baseD,A18]
theorem Av1 {a:Act}{ops:Array Oper}(e:P.funcs[f]?=some F)(hr:F.results=#[])(hd:a.defers=[]):QuitsIn P 4 (G ((baseD f).at a [.inRegion ops []]) [A18 P]):=by
 refine .inr ⟨rfl,_,λw=>stepG_region_end,?_⟩;refine .inr ⟨rfl,_,λw=>stepG_end,?_⟩;refine .inr ⟨rfl,G (A18 P) [],λw=>?_,?_⟩
 ·simp[G,stepG,unwind,doReturn,results,Frame.at,baseD,A18,e,hr,hd,seen,GStep.after,goexitEntry]
 refine .inr ⟨rfl,{G (A18 P) [] with status:=.finished},λw=>?_,rfl⟩;simp[G,stepG,unwind,A18,goexitEntry,Frame.catches];rfl
theorem Az1 (e:P.funcs[f]?=some F)(j:(F.name== "runtime.NumGoroutine")=false)(g:F.body=some cd)
  (h:okS P Low c vs O w (G ((baseD f).at {tmps:=args++Array.replicate (F.ntmps - args.size) undef,defers:=[]} [.code cd]) [A18 P])):okS P Low c vs O w (born P (dcall f args)):=
 (Bd P Low c).ctl rfl rfl (Aor e j g) h
theorem Akk {Stop:Goroutine->World->Prop}{Q:Vq (List (Nat × List Value × Bool))}{L:List (Nat × List Value × Bool)}{j:Nat}(p:ops[i]?=some o)(y:Region.wanted o (yielded ops a.tmps)=true)
  (u:L[j]?=some (c,vs,false)) (hr:∀w₁:World,(execOp a.eval o).run P w₁=.ok (.comm #[rcase c z] true (.recv true)) w₁) (s:∀w₁:World,(execOp a.eval o).events P w₁ #[]=#[])
  (h1:∀v h,vs=v::h->Uc (okR P Low Stop) fn ops rest Q (a.put o.dst (.tuple #[v, .bool true])) (L.set j (c,h,false)) O w)
  (A:vs=[]->Uc (okR P Low Stop) fn ops rest Q (a.put o.dst (.tuple #[z, .bool false])) (L.set j (c,[],true)) O w):Uc (okR P Low Stop) fn ops (i::rest) Q a L O w:=by
 intro b k g q l n;have t:∀v,(b.at a (.inRegion ops (i::rest)::k)).finish v=b.at (a.put o.dst v) (.inRegion ops rest::k):=λv=>by rw[Frame.finish_at,p];rfl
 have e:∀v,Conc.served (G (b.at a (.inRegion ops (i::rest)::k)) g) v=G (b.at (a.put o.dst v) (.inRegion ops rest::k)) g:=λv=>by rw[<-t];rfl
 refine Rcv.mk ⟨rfl, .inr (.inr (.inr ⟨j,c,vs,z,u,λw₁ r=>⟨?_,λv h m=>?_,λm=>?_⟩⟩))⟩
 ·show stepG P true (G (b.at a (.inRegion ops (i::rest)::k)) g) w₁=_
  rw[stepG_comm p y l (hr w₁)];unfold listed;rw[s,seen_none]
 ·show Rcv P Low Stop ⟨O,_,Conc.served (G (b.at a (.inRegion ops (i::rest)::k)) g) (.tuple #[v, .bool true]),w₁⟩
  rw[e];exact(Bh P Low Stop).rely (h1 v h m b k g q l n) r
 ·show Rcv P Low Stop ⟨O,_,Conc.served (G (b.at a (.inRegion ops (i::rest)::k)) g) (.tuple #[z, .bool false]),w₁⟩
  rw[e];exact(Bh P Low Stop).rely (A m b k g q l n) r
theorem A2x {Stop:Goroutine->World->Prop}{Q:Vq (List (Nat × List Value × Bool))}{L:List (Nat × List Value × Bool)}(t:ops[i]?=some o)(A:Region.wanted o (yielded ops a.tmps)=true)
  (hr:∀w₁:World,(execOp a.eval o).run P w₁=.ok (.spawn (dcall f args)) w₁) (p:∀w₁:World,(execOp a.eval o).events P w₁ #[]=#[]) (m:O c) (y:Yn c w)
  (v:okS P Low c vs (λ_=>False) w (born P (dcall f args))) (h:Uc (okR P Low Stop) fn ops rest Q (a.put o.dst undef) (L++[(c,vs,false)]) (λb=>O b/\b≠c) w):Uc (okR P Low Stop) fn ops (i::rest) Q a L O w:=by
 intro b k j u n q;refine Rcv.mk ⟨rfl, .inr (.inr (.inl ⟨c,m,λw₁ l=>⟨G (b.at (a.put o.dst undef) (.inRegion ops rest::k)) j,born P (dcall f args),vs,?_,rfl,rfl,?_,?_,?_⟩⟩))⟩
 ·show stepG P true (G (b.at a (.inRegion ops (i::rest)::k)) j) w₁=_
  rw[stepG_spawn t A n (hr w₁) rfl];unfold listed;rw[p,seen_none]
 ·obtain⟨s,r,e⟩:=y
  exact⟨s,r,(l.mine c m).trans e⟩
 ·exact(Bd P Low c).rely v (l.sub λ_ g=>g.elim)
 ·exact(Bh P Low Stop).rely (h b k j u n q) (l.sub λ_ g=>g.1)
theorem Az2 {Stop:Goroutine->World->Prop}{L:List (Nat × List Value × Bool)}{g:Goroutine}(hr:g.status=.running)(j:∀e∈L,e.2.2=true)(h:∀w₁,Keep Low O w w₁->Stop g w₁):okR P Low Stop L O w g:=
 Rcv.mk ⟨hr, .inl ⟨j,h⟩⟩
end
end
section
variable {τ : Type}{P : Program}{main : Bool}{Low : Nat}{pre : τ -> World -> Prop}{ok : τ -> (Nat -> Prop) -> World -> Goroutine -> Prop}{fn : FuncId}{Q : Vq τ}{a : Act}{x : τ}{O : Nat -> Prop}{w : World}
variable {ops : Array Oper}{i : Nat}{rest : List Nat}{o : Oper}
theorem Abn (T:OkL P main Low pre ok)(l:ops[i]?=some o)(n:Region.wanted o (yielded ops a.tmps)=true)
  (m:∀w₁,Keep Low O w w₁->∀e∈(execOp a.eval o).events P w₁ #[],EvO Low O e)
  (h:∀w₁,Keep Low O w w₁->∀K:Act->World->Prop,(∀g,Uc ok fn ops rest Q g x O w->K g w₁)->uponK o a K ((execOp a.eval o).run P w₁)):Uc ok fn ops (i::rest) Q a x O w:=by
 refine Xb T l n λw₁ j _ K p=>?_
 have:=h w₁ j (λg k=>k=w₁/\Uc ok fn ops rest Q g x O w) λg h=>⟨rfl,h⟩
 refine uponK_mono (λg k h=>?_) this;obtain⟨rfl,h⟩:=h;refine p _ _ ⟨⟨λ_ _ _=>rfl,A57 _,rfl,rfl,rfl,λe q=>?_⟩,?_⟩
 ·rw[Jg];exact .inl (m _ j e (mem_listed q))
 ·rw[Jg];exact h.rely T j
theorem Ov (T:OkL P main Low pre ok)(g:ops[i]?=some o)(k:Region.wanted o (yielded ops a.tmps)=true)(j:∀w₁:World,(execOp a.eval o).events P w₁ #[]=#[])
  (h:∀(w₁:World) (K:Act->World->Prop),(∀e,Uc ok fn ops rest Q e x O w->K e w₁)->uponK o a K ((execOp a.eval o).run P w₁)):Uc ok fn ops (i::rest) Q a x O w:=
 Abn T g k (λw₁ _=>by rw[j];simp) λw₁ _=>h w₁
theorem Md (T:OkL P main Low pre ok)(r:ops[i]?=some o)(s:Region.wanted o (yielded ops a.tmps)=true)(m:∀w₁:World,(execOp a.eval o).events P w₁ #[]=#[])
  (h:∀w₁,Keep Low O w w₁->∀K:Act->World->Prop,(∀j g,Uc ok fn ops rest Q j x (λb=>O b\/b=w₁.heap.size) (w₁.alloc g)->K j (w₁.alloc g))->uponK o a K ((execOp a.eval o).run P w₁)):Uc ok fn ops (i::rest) Q a x O w:=by
 refine Xb T r s λw₁ q _ K n=>?_
 have:=h w₁ q (λj k=>∃g,k=w₁.alloc g/\Uc ok fn ops rest Q j x (λb=>O b\/b=w₁.heap.size) k) λj g h=>⟨g,rfl,h⟩
 refine uponK_mono (λj k h=>?_) this;obtain⟨g,rfl,h⟩:=h;refine n _ _ ⟨⟨λb l _=>?_,by simp only[World.alloc,A84];omega,rfl,rfl,rfl,λe t=>?_⟩,?_⟩
 ·simp only[World.alloc]
  rw[A81 l,A7v l]
 ·have:=mem_listed t
  rw[m] at this;simp at this
 ·have e:grown O w₁ (w₁.alloc g)=λb=>O b\/b=w₁.heap.size:=by
   funext b;apply propext;simp only[grown,World.alloc,A84];constructor
   ·rintro(h | h)
    ·exact .inl h
    ·exact .inr omz
   ·rintro(h | h)
    ·exact .inl h
    ·exact .inr omz
  rw[e];exact h
end
section
variable {Low : Nat}{w₀ : World}{bs : List (Nat × Obj)}{O : Nat -> Prop}{w w₁ : World}
end
variable {G G':Prop}
structure Wr (p:Prop):Prop where
 out:p
theorem kW (k:G')(f:Wr G'->G:=by(intro hZ;(repeat (first | (refine Fa (Bd _ _ _) ?_;simp only[A55,A53,A54,Nat.reduceAdd,A6b,List.range,List.range.loop]) | (refine Ov (Bd _ _ _) rfl rrz ?_ ?_;(focus (intro _;first | (simp[go_sem];done) | (simp[go_sem, *];done)));intro _ K hK;go_simp;refine hK _ ?_;clear hK K;try walk_nrm) | (refine Abn (Bd _ _ _) rfl rrz ?_ ?_;(focus (intro W1 hR e he;have hy:=_Y _ hR;simp[go_sem, *] at he;(first | (subst he;(first | (refine⟨_,_,rfl, .inl ?_⟩;assumption) | (refine⟨_,_,rfl, .inr ⟨?_,rfl⟩⟩;assumption) | exact⟨_,_,rfl,_B.imp id (λh=>⟨h,rfl⟩)⟩)) | (rcases he with rfl | rfl<;>(first | (refine⟨_,_,rfl, .inl ?_⟩;assumption) | (refine⟨_,_,rfl, .inr ⟨?_,rfl⟩⟩;assumption) | exact⟨_,_,rfl,_B.imp id (λh=>⟨h,rfl⟩)⟩)) | (rcases he with rfl | rfl | rfl | rfl<;>(first | (refine⟨_,_,rfl, .inl ?_⟩;assumption) | (refine⟨_,_,rfl, .inr ⟨?_,rfl⟩⟩;assumption) | exact⟨_,_,rfl,_B.imp id (λh=>⟨h,rfl⟩)⟩)) | (rcases he with rfl | rfl | rfl | rfl | rfl | rfl<;>(first | (refine⟨_,_,rfl, .inl ?_⟩;assumption) | (refine⟨_,_,rfl, .inr ⟨?_,rfl⟩⟩;assumption) | exact⟨_,_,rfl,_B.imp id (λh=>⟨h,rfl⟩)⟩)));done));intro W1 hR K hK;have hy:=_Y _ hR;go_simp;refine hK _ ?_;clear hK K hR hy W1;try walk_nrm) | (refine U9 (Bd _ _ _) rfl ?_ ?_;(focus (rfl;done));try walk_nrm) | (refine Akj (z:=.tuple #[]) rfl rrz ?_ ?_ ?_;(focus (intro _;simp[execOp,scase,Act.eval];done));(focus (intro _;simp[execOp];done));try walk_nrm) | (refine Ac2 (Bd _ _ _) (t:=true) ?_ ?_;(focus (simp[Act.eval, *];done));simp only[if_true,reduceIte]) | (refine Ac2 (Bd _ _ _) (t:=false) ?_ ?_;(focus (simp[Act.eval, *];done));simp only[A58,A7k,reduceIte]) | ((first | refine Jz (Bd _ _ _) ?_ | refine Ro (Bd _ _ _) ?_ | refine U2 (Bd _ _ _) ?_ | refine Rn (Bd _ _ _) ?_ | refine Y7 (Bd _ _ _) ?_ | refine U3 (Bd _ _ _) ?_ | refine Pm (Bd _ _ _) ?_);try (simp only[U4,Lj,if_true,A7k,reduceIte,Nat.reduceEqDiff]))));exact hZ.out)):G:=f ⟨k⟩
theorem kV (k:G')(f:Wr G'->G:=by(intro hZ;(repeat (first | (refine Fa (Bh _ _ _) ?_;simp only[A55,A53,A54,Nat.reduceAdd,A6b,List.range,List.range.loop]) | (refine Ov (Bh _ _ _) rfl rrz ?_ ?_;(focus (intro _;first | (simp[go_sem];done) | (simp[go_sem, *];done)));intro _ K hK;go_simp;refine hK _ ?_;clear hK K;try walk_nrm) | (refine Abn (Bh _ _ _) rfl rrz ?_ ?_;(focus (intro W1 hR e he;have hy:=_Y _ hR;simp[go_sem, *] at he;(first | (subst he;(first | (refine⟨_,_,rfl, .inl ?_⟩;assumption) | (refine⟨_,_,rfl, .inr ⟨?_,rfl⟩⟩;assumption) | exact⟨_,_,rfl,_B.imp id (λh=>⟨h,rfl⟩)⟩)) | (rcases he with rfl | rfl<;>(first | (refine⟨_,_,rfl, .inl ?_⟩;assumption) | (refine⟨_,_,rfl, .inr ⟨?_,rfl⟩⟩;assumption) | exact⟨_,_,rfl,_B.imp id (λh=>⟨h,rfl⟩)⟩)) | (rcases he with rfl | rfl | rfl | rfl<;>(first | (refine⟨_,_,rfl, .inl ?_⟩;assumption) | (refine⟨_,_,rfl, .inr ⟨?_,rfl⟩⟩;assumption) | exact⟨_,_,rfl,_B.imp id (λh=>⟨h,rfl⟩)⟩)) | (rcases he with rfl | rfl | rfl | rfl | rfl | rfl<;>(first | (refine⟨_,_,rfl, .inl ?_⟩;assumption) | (refine⟨_,_,rfl, .inr ⟨?_,rfl⟩⟩;assumption) | exact⟨_,_,rfl,_B.imp id (λh=>⟨h,rfl⟩)⟩)));done));intro W1 hR K hK;have hy:=_Y _ hR;go_simp;refine hK _ ?_;clear hK K hR hy W1;try walk_nrm) | (refine U9 (Bh _ _ _) rfl ?_ ?_;(focus (rfl;done));try walk_nrm) | (refine Akj (z:=.tuple #[]) rfl rrz ?_ ?_ ?_;(focus (intro _;simp[execOp,scase,Act.eval];done));(focus (intro _;simp[execOp];done));try walk_nrm) | (refine Ac2 (Bh _ _ _) (t:=true) ?_ ?_;(focus (simp[Act.eval, *];done));simp only[if_true,reduceIte]) | (refine Ac2 (Bh _ _ _) (t:=false) ?_ ?_;(focus (simp[Act.eval, *];done));simp only[A58,A7k,reduceIte]) | ((first | refine Jz (Bh _ _ _) ?_ | refine Ro (Bh _ _ _) ?_ | refine U2 (Bh _ _ _) ?_ | refine Rn (Bh _ _ _) ?_ | refine Y7 (Bh _ _ _) ?_ | refine U3 (Bh _ _ _) ?_ | refine Pm (Bh _ _ _) ?_);try (simp only[U4,Lj,if_true,A7k,reduceIte,Nat.reduceEqDiff]))));exact hZ.out)):G:=f ⟨k⟩
section
variable {K : World -> Prop}{b : Nat}{v0 v1 v2 v3 v4 v5 : Value}
theorem cs2 (h:∀W,K W->∀e,W.cell? ⟨b,e,none⟩=(#[v0,v1]:Array Value)[e]?)(W:World)(k:K W):W.cell? ⟨b,0,none⟩=some v0/\W.cell? ⟨b,1,none⟩=some v1:=⟨h W k 0,h W k 1⟩
theorem cs3 (h:∀W,K W->∀e,W.cell? ⟨b,e,none⟩=(#[v0,v1,v2]:Array Value)[e]?)(W:World)(k:K W):W.cell? ⟨b,0,none⟩=some v0/\W.cell? ⟨b,1,none⟩=some v1/\W.cell? ⟨b,2,none⟩=some v2:=⟨h W k 0,h W k 1,h W k 2⟩
theorem cs4 (h:∀W,K W->∀e,W.cell? ⟨b,e,none⟩=(#[v0,v1,v2,v3]:Array Value)[e]?)(W:World)(k:K W):W.cell? ⟨b,0,none⟩=some v0/\W.cell? ⟨b,1,none⟩=some v1/\W.cell? ⟨b,2,none⟩=some v2/\W.cell? ⟨b,3,none⟩=some v3:=⟨h W k 0,h W k 1,h W k 2,h W k 3⟩
theorem cs6 (h:∀W,K W->∀e,W.cell? ⟨b,e,none⟩=(#[v0,v1,v2,v3,v4,v5]:Array Value)[e]?)(W:World)(k:K W):W.cell? ⟨b,0,none⟩=some v0/\W.cell? ⟨b,1,none⟩=some v1/\W.cell? ⟨b,2,none⟩=some v2/\W.cell? ⟨b,3,none⟩=some v3/\W.cell? ⟨b,4,none⟩=some v4/\W.cell? ⟨b,5,none⟩=some v5:=⟨h W k 0,h W k 1,h W k 2,h W k 3,h W k 4,h W k 5⟩
end
end Go.Co
