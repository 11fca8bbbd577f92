import Derived.Test.YtgnkpbhknkinoaaGreatDoorCD8
import Derived.Conc.CompanyMem
import Derived.Conc.TokenWalk
set_option linter.defProp false
namespace Go.Co
open Go.Conc
section
variable {P : AY}{Low : Nat}{Stop : AX -> AU -> Prop}
theorem uM{O:Nat->Prop}{g:AX}{w:AU}(A:∀b,O b->Low<=b/\b<w.heap.size)(hl:Low<=w.heap.size)(V:∀g w,Stop g w->OkG g)(h:FP P Low Stop ⟨O,[],g,w⟩):Comes P g w Stop:=by
 intro f sl t ⟨y,⟨q,C⟩,B,H⟩ _;have v:=(BF.1 y).1;have M:PhI P Low f.size t ⟨O,[],g,w⟩ (λk b=>k=0/\O b) ((List.range f.size).map λi=>.inr (if i=0 then 0 else q i)) f w t:=by refine⟨v,BU,by simp[v],BU,h.inv.1,Keep.refl _ _ _,.inl y,λi hi u=>?_,λj c D seen e=>by simp at e,λb S=>⟨rfl,S⟩,λj s n=>?_,λj c D seen e=>by simp at e,λj k c r s X Y e=>by simp at e,⟨λk l b m J=>m.1.tr J.1.symm,λk b m=>(A b m.2).1,λk b m=>(A b m.2).2⟩,hl,Tr.begin H C⟩;{refine⟨q i,f[i],?_,J2 u,C.old i _ hi (J2 u)⟩;have:i≠0:=BS;simp[u,this]};simp at n
 have⟨N,T,U,w',I,L,E,hF,R,n⟩:=phase w.tape h _ _ f w t sl M rfl;exact⟨N,T,U,w',I,L,E,hF,V _ _ n,R,n⟩
end
def Jw(O:Nat->Prop)(w:AU):grown O w w=O:=by
 funext b;apply propext;constructor
 .rintro(h|⟨e,f⟩);{exact h};omega
 exact .inl
structure OkL{τ:Type}(P:AY)(main:Bool)(Low:Nat)(pre:τ->World->Prop)(ok:τ->(Nat->Prop)->World->Goroutine->Prop):Prop where
 rely:∀{x O w w₁ g},ok x O w g->Keep Low O w w₁->ok x O w₁ g
 own:∀{x O w g},g.status=.running->(∀w₁,Keep Low O w w₁->pre x w₁->∃g' w' es,stepG P main g w₁=.go g' w' es/\g'.status=.running/\F4 Low O w₁ w' es/\ok x (grown O w₁ w') w' g')->ok x O w g
def F4.none(Low:Nat)(O:Nat->Prop)(w:AU):F4 Low O w w #[]:=⟨λ_ _ _=>rfl,DK _,rfl,rfl,rfl,BU⟩
section
variable {τ : Type}{P : AY}{main : Bool}{Low : Nat}{pre : τ -> AU -> Prop}{ok : τ -> (Nat -> Prop) -> AU -> AX -> Prop}
def OkL.ctl(T:OkL P main Low pre ok){x:τ}{O:Nat->Prop}{w:AU}{g g':AX}(hr:g.status=.running)(f:g'.status=.running)(j:∀w₁,stepG P main g w₁=.go g' w₁ #[])(h:ok x O w g'):ok x O w g:=
 T.own hr λw₁ e _=>⟨g',w₁,#[],j w₁,f,F4.none _ _ _,by rw[Jw];exact T.rely h e⟩
end
section
variable {τ : Type}(P : AY)(ok : τ -> (Nat -> Prop) -> AU -> AX -> Prop)
def MP(b:Frame)(k:List Item)(cs:List Frame):Exit->Act->τ->(Nat->Prop)->World->Prop
 |.normal,a,x,O,w=>ok x O w (G (b.at a k) cs)
 |.exit id,a,x,O,w=>∃e,exitTo id k=some e/\ok x O w (G (b.at a e) cs)
 |.ret,a,x,O,w=>∀f,ok x O w (G {b.at a f with mode:=.returning} cs)
 |_,_,_,_,_=>False
abbrev Xi(τ:Type):=Exit->Act->τ->(Nat->Prop)->World->Prop
def WpK(fn:FuncId)(c:Code)(Q:Xi τ)(a:Act)(x:τ)(O:Nat->Prop)(w:AU):Prop:=
 ∀(b:Frame)(k:List Item)(cs:List Frame),b.fn=fn->b.kind≠.early->(∀e f g O' w',Q e f g O' w'->MP ok b k cs e f g O' w')->ok x O w (G (b.at a (.code c::k)) cs)
def Va(fn:FuncId)(ops:Array Oper)(todo:List Nat)(Q:Xi τ)(a:Act)(x:τ)(O:Nat->Prop)(w:AU):Prop:=
 ∀(b:Frame)(k:List Item)(cs:List Frame),b.fn=fn->b.kind≠.early->(∀e f g O' w',Q e f g O' w'->MP ok b k cs e f g O' w')->ok x O w (G (b.at a (.inRegion ops todo::k)) cs)
def Wp(N:Act->τ->(Nat->Prop)->World->Prop)(Q:Xi τ):Xi τ
 |.normal=>N
 |e=>Q e
def Np(id:Nat)(Q:Xi τ):Xi τ
 |.exit f=>if f=id then Q .normal else Q (.exit f)
 |e=>Q e
def cA(fn:Func)(Post:AW->τ->(Nat->Prop)->World->Prop):Xi τ
 |.normal,a,x,O,w|.ret,a,x,O,w=>a.defers=[]/\∃v,ResultsC P fn a.tmps v/\Post v x O w
 |_,_,_,_,_=>False
def Ky(f:FuncId)(args:Array AW)(x:τ)(O:Nat->Prop)(w:AU)(Post:AW->τ->(Nat->Prop)->World->Prop):Prop:=
 ∃fn c,P.funcs[f]?=some fn/\(fn.name== "runtime.NumGoroutine")=false/\fn.body=some c/\
  WpK ok f c (cA P fn Post) {tmps:=args++Array.replicate (fn.ntmps - args.size) AQ,defers:=[]} x O w
end
section
variable {c d:Code}{i id:Nat}{o:Oper}{ops:Array Oper}{rest:List Nat}
variable {τ : Type}{P : AY}{main : Bool}{Low : Nat}{pre : τ -> AU -> Prop}{ok : τ -> (Nat -> Prop) -> AU -> AX -> Prop}{fn : FuncId}{Q Q' : Xi τ}{a : Act}{x : τ}{O : Nat -> Prop}{w w₁ : AU}
theorem MP.push{b:Frame}{y:Item}{k:List Item}{cs:List Frame}{e:Exit}(hx:y.plain=true)(f:e≠.normal)(h:MP ok b k cs e a x O w):MP ok b (y::k) cs e a x O w:=by
 cases e with
 |normal=>exact absurd rfl f|exit id=>obtain⟨j,m,g⟩:=h;exact⟨j,by cases y<;>simp_all[exitTo,Item.plain],g⟩
 |ret=>exact h|goto l=>exact h|panic n=>exact h|outgrown=>exact h
def WpK.mono(h:WpK ok fn c Q a x O w)(n:∀e a x O w,Q e a x O w->Q' e a x O w):WpK ok fn c Q' a x O w:=
 λb k cs f g j=>h b k cs f g λe l m O' w' q=>j e l m O' w' (n _ _ _ _ _ q)
abbrev WpK.mo:=@WpK.mono
def Va.rely(T:OkL P main Low pre ok){todo:List Nat}(h:Va ok fn ops todo Q a x O w)(hr:Keep Low O w w₁):Va ok fn ops todo Q a x O w₁:=
 λb k cs e f g=>T.rely (h b k cs e f g) hr
def Wl(T:OkL P main Low pre ok)(h:Q .normal a x O w):WpK ok fn .skip Q a x O w:=λ_b _k _cs _ _ e=>T.ctl rfl rfl (λ_=>stepG_skip) (e _ _ _ _ _ h)
def Tc(T:OkL P main Low pre ok){l:Nat}(h:Q .normal a x O w):WpK ok fn (.label l) Q a x O w:=λ_b _k _cs _ _ e=>T.ctl rfl rfl (λ_=>stepG_label) (e _ _ _ _ _ h)
def Zw(T:OkL P main Low pre ok)(h:Q .ret a x O w):WpK ok fn .ret Q a x O w:=λ_b _k _cs _ _ e=>T.ctl rfl rfl (λ_=>stepG_ret') (e _ _ _ _ _ h _)
def Wn(T:OkL P main Low pre ok)(h:Q (.exit id) a x O w):WpK ok fn (.exit id) Q a x O w:=λb k cs _ _ g=>by
 have⟨j,e,f⟩:=g _ _ _ _ _ h;exact T.ctl rfl rfl (λ_=>stepG_exit e) f
theorem Lj(T:OkL P main Low pre ok)(h:WpK ok fn c (Wp (λm g O' w'=>WpK ok fn d Q m g O' w') Q) a x O w):WpK ok fn (.seq c d) Q a x O w:=by
 intro b k cs n j f;refine T.ctl rfl rfl (λ_=>stepG_seq) (h b (.code d::k) cs n j λe m g O' w' q=>?_);cases e with
 |normal=>exact q b k cs n j f|exit id=>exact(f _ _ _ _ _ q).push rfl BU|ret=>exact(f _ _ _ _ _ q).push (y:=.code d) rfl BU|goto l=>exact f _ _ _ _ _ q|panic r=>exact f _ _ _ _ _ q|outgrown=>exact f _ _ _ _ _ q
def Nn(T:OkL P main Low pre ok){c:Operand}{e:Code}{t:Bool}(j:a.eval c=.bool t)(h:WpK ok fn (if t then d else e) Q a x O w):WpK ok fn (.cond c d e) Q a x O w:=
 λb k cs f g l=>T.ctl rfl rfl (λ_=>stepG_cond j) (h b k cs f g l)
theorem Td(T:OkL P main Low pre ok)(h:WpK ok fn c (Np id Q) a x O w):WpK ok fn (.block id c) Q a x O w:=by
 intro b k cs r n f;refine T.ctl rfl rfl (λ_=>stepG_block) (h b (.inBlock id::k) cs r n λe u t O' w' q=>?_);cases e with
 |normal=>exact T.ctl rfl rfl (λ_=>stepG_inBlock) (f _ _ _ _ _ q)
 |exit g=>
  by_cases BX:g=id;{simp only[Np,BX,if_true]at q;exact⟨k,by simp[exitTo,BX],f _ _ _ _ _ q⟩};simp only[Np,BX,EH]at q;have⟨m,j,p⟩:=f _ _ _ _ _ q;have:(id==g)=false:=by simp;exact λh=>BX h.symm
  exact⟨m,by simp[exitTo,this,j],p⟩
 |ret=>exact λs=>f _ _ _ _ _ q s|goto l=>exact f _ _ _ _ _ q|panic v=>exact f _ _ _ _ _ q|outgrown=>exact f _ _ _ _ _ q
theorem Yr(T:OkL P main Low pre ok)(I:Nat->Act->τ->(Nat->Prop)->World->Prop)(N:Nat)(B:I N a x O w)
  (round:∀n a x O w,I n a x O w->WpK ok fn c (Wp (λj g O' w'=>∃m,m<n/\I m j g O' w') Q) a x O w):WpK ok fn (.loop c) Q a x O w:=by
 intro b k cs v s f;have key:∀n a x O w,I n a x O w->ok x O w (G (b.at a (.code c::.inLoop c::k)) cs):=by
  intro n;induction n using Nat.strongRecOn with
  |ind n A=>
   intro a x O w t;refine round n a x O w t b (.inLoop c::k) cs v s λe j g O' w' q=>?_;cases e with
   |normal=>obtain⟨m,r,u⟩:=q;exact T.ctl rfl rfl (λ_=>stepG_inLoop) (A m r _ _ _ _ u)
   |exit id=>exact(f _ _ _ _ _ q).push rfl BU|ret=>exact(f _ _ _ _ _ q).push (y:=.inLoop c) rfl BU|goto l=>exact f _ _ _ _ _ q|panic C=>exact f _ _ _ _ _ q|outgrown=>exact f _ _ _ _ _ q
 exact T.ctl rfl rfl (λ_=>stepG_loop) (key N _ _ _ _ B)
def Gq(T:OkL P main Low pre ok)(h:Va ok fn ops (List.range ops.size) Q a x O w):WpK ok fn (.region id ops false) Q a x O w:=
 λb k cs e f g=>T.ctl rfl rfl (λ_=>stepG_region) (h b k cs e f g)
def Qp(T:OkL P main Low pre ok)(h:Q .normal a x O w):Va ok fn ops [] Q a x O w:=
 λ_b _k _cs _ _ e=>T.ctl rfl rfl (λ_=>stepG_region_end) (e _ _ _ _ _ h)
def Wx(T:OkL P main Low pre ok)(j:ops[i]?=some o)(g:Region.wanted o (yielded ops a.tmps)=false)(h:Va ok fn ops rest Q (a.put o.dst AQ) x O w):Va ok fn ops (i::rest) Q a x O w:=
 λb k cs e f l=>T.ctl rfl rfl (λ_=>stepG_unwanted j g) (h b k cs e f l)
theorem Ya(T:OkL P main Low pre ok)(m:ops[i]?=some o)(p:Region.wanted o (yielded ops a.tmps)=true)
  (h:∀w₁,Keep Low O w w₁->pre x w₁->∀K:Act->World->Prop,(∀f w',F4 Low O w₁ w' (listed P fn a o w₁)/\Va ok fn ops rest Q f x (grown O w₁ w') w'->K f w')->uponK o a K ((execOp a.eval o).run P w₁)):Va ok fn ops (i::rest) Q a x O w:=by
 intro b k cs j e n;refine T.own rfl λw₁ r q=>?_;have:=h w₁ r q (λf w'=>F4 Low O w₁ w' (listed P fn a o w₁)/\Va ok fn ops rest Q f x (grown O w₁ w') w') λ_ _ z=>z
 revert this
 cases l:(execOp a.eval o).run P w₁ with
 |ok y w'=>
  cases y with
  |value v=>rintro⟨d,g⟩;exact⟨_,_,_,stepG_value m p e l,rfl,by rwa[j],g b k cs j e n⟩
  |skip=>rintro⟨d,g⟩;exact⟨_,_,_,stepG_none m p e l,rfl,by rwa[j],g b k cs j e n⟩
  |_=>exact λz=>z.elim
 |halt _ _=>exact λz=>z.elim
theorem Aym(T:OkL P main Low pre ok){f:FuncId}{args:Array Operand}{D:Array AZ}{Post:AW->τ->(Nat->Prop)->World->Prop}
  (t:ops[i]?=some o) (S:Region.wanted o (yielded ops a.tmps)=true) (M:o.op=.call {callee:=.value (.func f),args,argTypes:=D})
  (V:Ky P ok f (args.map a.eval) x O w Post) (U:∀v g O' w',Post v g O' w'->Va ok fn ops rest Q (a.put o.dst v) g O' w'):Va ok fn ops (i::rest) Q a x O w:=by
 intro b k cs R s N;obtain⟨F,c,y,L,E,C⟩:=V;have I:∀v,(b.at a (.inRegion ops (i::rest)::k)).finish v=b.at (a.put o.dst v) (.inRegion ops rest::k):=λv=>by rw[Frame.finish_at,t];rfl
 have u:∀(j:Act)(g:τ)(O':Nat->Prop)(w':AU)(m:List Item),(j.defers=[]/\∃v,ResultsC P F j.tmps v/\Post v g O' w')->
   ok g O' w' (G {(base f).at j m with mode:=.returning} (b.at a (.inRegion ops (i::rest)::k)::cs)):=by
  rintro j g O' w' m⟨hd,v,r,J⟩;refine T.ctl rfl (g':=G (b.at (a.put o.dst v) (.inRegion ops rest::k)) cs) rfl (λw₁=>?_) (U v g O' w' J b k cs R s N);rw[stepG_leave (b:=base f) rfl hd y (r w₁).1 (r w₁).2,I]
 have H:ok x O w (G ((base f).at {tmps:=args.map a.eval++Array.replicate (F.ntmps - (args.map a.eval).size) AQ,defers:=[]} [.code c]) (b.at a (.inRegion ops (i::rest)::k)::cs)):=by refine C (base f) [] _ rfl DF λe j g O' w' q=>?_;cases e with|normal=>exact T.ctl rfl rfl (λ_=>stepG_end) (u j g O' w' [] q)|ret=>exact λm=>u j g O' w' m q|exit id=>exact q.elim|goto l=>exact q.elim|panic X=>exact q.elim|outgrown=>exact q.elim
 refine T.ctl rfl (g':=G ((base f).at {tmps:=args.map a.eval++Array.replicate (F.ntmps - (args.map a.eval).size) AQ,defers:=[]} [.code c]) (b.at a (.inRegion ops (i::rest)::k)::cs)) rfl (λw₁=>?_) H;have⟨g',w',n,B,A⟩:=goes_elim (goes_call (P:=P) (main:=main) (w:=w₁) (cs:=cs) (k:=k) (rest:=rest) (K:=λg' w' n=>g'=G ((base f).at {tmps:=args.map a.eval++Array.replicate (F.ntmps - (args.map a.eval).size) AQ,defers:=[]} [.code c]) (b.at a (.inRegion ops (i::rest)::k)::cs)/\w'=w₁/\n=#[]) t S s M y L E ⟨rfl,rfl,rfl⟩);obtain⟨rfl,rfl,rfl⟩:=A;exact B
theorem Ky.mono{f:FuncId}{args:Array AW}{Post g:AW->τ->(Nat->Prop)->World->Prop}(h:Ky P ok f args x O w Post)(n:∀v x O w,Post v x O w->g v x O w):Ky P ok f args x O w g:=by obtain⟨F,c,l,j,k,m⟩:=h;refine⟨F,c,l,j,k,m.mo λe a x O w q=>?_⟩;cases e<;>first|exact⟨q.1,q.2.choose,q.2.choose_spec.1,n _ _ _ _ q.2.choose_spec.2⟩|exact q
end
section
variable {P : AY}{Low : Nat}
abbrev Ky.mo:=@Ky.mono
def okS(P:AY)(Low c:Nat):List AW->(Nat->Prop)->World->Goroutine->Prop:=λvs O w g=>FA P Low ⟨c,O,vs,g,w⟩
theorem Bg(P:AY)(Low c:Nat):OkL P false Low (λ_ w=>Zc c w) (okS P Low c):=by
 refine⟨fun {x O w w₁ g} h j=>?_,fun {x O w g} m h=>?_⟩
 .have hi:=FA.inv h;refine FA.mk ⟨hi.1,?_⟩;rcases hi.2 with h|⟨v,p,e,h⟩|⟨l,n,h⟩;{exact .inl λf k o=>h f (j.tr k) o};{exact .inr (.inl ⟨v,p,e,λf k o=>h f (j.tr k) o⟩)};exact .inr (.inr ⟨l,n,λf s r k o=>h f s r (j.tr k) o⟩)
 exact FA.mk ⟨m,.inl λw₁ k o=>h w₁ k o⟩
def okR(P:AY)(Low:Nat)(Stop:AX->World->Prop):List (Nat × List AW × Bool)->(Nat->Prop)->World->Goroutine->Prop:=λL O w g=>FP P Low Stop ⟨O,L,g,w⟩
theorem Bl(P:AY)(Low:Nat)(Stop:AX->World->Prop):OkL P true Low (λ_ _=>True) (okR P Low Stop):=by
 refine⟨fun {x O w w₁ g} h f=>?_,fun {x O w g} m h=>?_⟩
 .have hi:=FP.inv h;refine FP.mk ⟨hi.1,?_⟩;rcases hi.2 with⟨l,h⟩|h|⟨c,n,h⟩|⟨j,c,vs,z,p,h⟩;{exact .inl ⟨l,λe k=>h e (f.tr k)⟩};{exact .inr (.inl λe k=>h e (f.tr k))};{exact .inr (.inr (.inl ⟨c,n,λe k=>h e (f.tr k)⟩))};exact .inr (.inr (.inr ⟨j,c,vs,z,p,λe k=>h e (f.tr k)⟩))
 exact FP.mk ⟨m,.inr (.inl λw₁ k=>h w₁ k trivial)⟩
section
variable {F:Func}{args:Array AW}{cd:Code}{vs:List AW}{z:AW}
variable {fn : FuncId}{a : Act}{O : Nat -> Prop}{w : AU}{c : Nat}{ops : Array Oper}{i : Nat}{rest : List Nat}{o : Oper}
theorem Z0{Q:Xi (List AW)}{v:AW}(g:ops[i]?=some o)(p:Region.wanted o (yielded ops a.tmps)=true)(hr:∀w₁:AU,(execOp a.eval o).run P w₁=.ok (.comm #[scase c v z] true .send) w₁)
  (j:∀w₁:AU,(execOp a.eval o).events P w₁ #[]=#[]) (h:Va (okS P Low c) fn ops rest Q (a.put o.dst AQ) vs O w):Va (okS P Low c) fn ops (i::rest) Q a (v::vs) O w:=by
 intro b k cs l f q;refine FA.mk ⟨rfl,.inr (.inl ⟨v,vs,rfl,λw₁ m _=>⟨⟨z,?_⟩,?_⟩⟩)⟩
 .show stepG P false (G (b.at a (.inRegion ops (i::rest)::k)) cs) w₁=_;rw[stepG_comm g p f (hr w₁)];unfold listed;rw[j,seen_none]
 have n:(b.at a (.inRegion ops (i::rest)::k)).finish AQ=b.at (a.put o.dst AQ) (.inRegion ops rest::k):=by rw[Frame.finish_at,g];rfl
 have e:Conc.served (G (b.at a (.inRegion ops (i::rest)::k)) cs) AQ=G (b.at (a.put o.dst AQ) (.inRegion ops rest::k)) cs:=by rw[<-n];rfl
 show FA P Low ⟨c,O,vs,Conc.served (G (b.at a (.inRegion ops (i::rest)::k)) cs) AQ,w₁⟩;rw[e];exact(Bg P Low c).rely (h b k cs l f q) m
theorem Ayn{b:Frame}{k:List Item}{cs:List Frame}{y:Operand}{g:Array AZ}{n:Nat}(f:ops[i]?=some o)(q:Region.wanted o (yielded ops a.tmps)=true)(p:b.kind≠.early)
  (e:o.op=.call {callee:=.builtin .close,args:=#[y],argTypes:=g}) (t:a.eval y=.chan (some c)) (j:(P.funcs[b.fn]?).any (·.norace)=false) (m:mayWake P (G (b.at a (.inRegion ops (i::rest)::k)) cs)=true)
  (h:QuitsIn P n (G (b.at (a.put o.dst (.tuple #[])) (.inRegion ops rest::k)) cs)):okS P Low c [] O w (G (b.at a (.inRegion ops (i::rest)::k)) cs):=by refine FA.mk ⟨rfl,.inr (.inr ⟨rfl,m,λw₁ s r _ l=>⟨_,n,?_,rfl,h⟩⟩)⟩;exact stepG_close f q p e t l j
def JP(P:AY):Frame:={(default:Frame) with fn:=P.funcs.size,defers:=[],mode:=.panicking [goexitEntry]}
def xT{f:FuncId}(g:P.funcs[f]?=some F)(j:(F.name== "runtime.NumGoroutine")=false)(h:F.body=some cd)(w:AU):
  stepG P false (born P (dcall f args)) w=.go (G ((baseD f).at {tmps:=args++Array.replicate (F.ntmps - args.size) AQ,defers:=[]} [.code cd]) [JP P]) w #[]:=by
 have e:¬F.name= "runtime.NumGoroutine" :=by simpa using j
 simp[born,dcall,stepG,unwind,callDeferred,invoke,callFunc,g,e,h,seen,GStep.after,G,Frame.enter,Frame.at,baseD,JP]
theorem Ax7{f:FuncId}{a:Act}{ops:Array Oper}(e:P.funcs[f]?=some F)(hr:F.results=#[])(hd:a.defers=[]):QuitsIn P 4 (G ((baseD f).at a [.inRegion ops []]) [JP P]):=by
 refine .inr ⟨rfl,_,λw=>stepG_region_end,?_⟩;refine .inr ⟨rfl,_,λw=>stepG_end,?_⟩;refine .inr ⟨rfl,G (JP P) [],λw=>?_,?_⟩
 .simp[G,stepG,unwind,doReturn,results,Frame.at,baseD,JP,e,hr,hd,seen,GStep.after,goexitEntry]
 refine .inr ⟨rfl,{G (JP P) [] with status:=.finished},λw=>?_,rfl⟩;simp[G,stepG,unwind,JP,goexitEntry,Frame.catches];rfl
def hU{f:FuncId}(e:P.funcs[f]?=some F)(j:(F.name== "runtime.NumGoroutine")=false)(g:F.body=some cd)
  (h:okS P Low c vs O w (G ((baseD f).at {tmps:=args++Array.replicate (F.ntmps - args.size) AQ,defers:=[]} [.code cd]) [JP P])):okS P Low c vs O w (born P (dcall f args)):=
 (Bg P Low c).ctl rfl rfl (xT e j g) h
theorem Z1{Stop:AX->World->Prop}{Q:Xi (List (Nat × List AW × Bool))}{L:List (Nat × List AW × Bool)}{j:Nat}(m:ops[i]?=some o)(u:Region.wanted o (yielded ops a.tmps)=true)
  (r:L[j]?=some (c,vs,false)) (hr:∀w₁:AU,(execOp a.eval o).run P w₁=.ok (.comm #[rcase c z] true (.recv true)) w₁) (q:∀w₁:AU,(execOp a.eval o).events P w₁ #[]=#[])
  (h1:∀v f,vs=v::f->Va (okR P Low Stop) fn ops rest Q (a.put o.dst (.tuple #[v,.bool true])) (L.set j (c,f,false)) O w)
  (s:vs=[]->Va (okR P Low Stop) fn ops rest Q (a.put o.dst (.tuple #[z,.bool false])) (L.set j (c,[],true)) O w):Va (okR P Low Stop) fn ops (i::rest) Q a L O w:=by
 intro b k cs p h n;have t:∀v,(b.at a (.inRegion ops (i::rest)::k)).finish v=b.at (a.put o.dst v) (.inRegion ops rest::k):=λv=>by rw[Frame.finish_at,m];rfl
 have e:∀v,Conc.served (G (b.at a (.inRegion ops (i::rest)::k)) cs) v=G (b.at (a.put o.dst v) (.inRegion ops rest::k)) cs:=λv=>by rw[<-t];rfl
 refine FP.mk ⟨rfl,.inr (.inr (.inr ⟨j,c,vs,z,r,λw₁ l=>⟨?_,λv f g=>?_,λg=>?_⟩⟩))⟩
 .show stepG P true (G (b.at a (.inRegion ops (i::rest)::k)) cs) w₁=_;rw[stepG_comm m u h (hr w₁)];unfold listed;rw[q,seen_none]
 .show FP P Low Stop ⟨O,_,Conc.served (G (b.at a (.inRegion ops (i::rest)::k)) cs) (.tuple #[v,.bool true]),w₁⟩;rw[e];exact(Bl P Low Stop).rely (h1 v f g b k cs p h n) l
 show FP P Low Stop ⟨O,_,Conc.served (G (b.at a (.inRegion ops (i::rest)::k)) cs) (.tuple #[z,.bool false]),w₁⟩;rw[e];exact(Bl P Low Stop).rely (s g b k cs p h n) l
theorem me{Stop:AX->World->Prop}{Q:Xi (List (Nat × List AW × Bool))}{L:List (Nat × List AW × Bool)}{f:FuncId}(q:ops[i]?=some o)(y:Region.wanted o (yielded ops a.tmps)=true)
  (hr:∀w₁:AU,(execOp a.eval o).run P w₁=.ok (.spawn (dcall f args)) w₁) (n:∀w₁:AU,(execOp a.eval o).events P w₁ #[]=#[]) (l:O c) (t:Zc c w)
  (p:okS P Low c vs (λ_=>False) w (born P (dcall f args))) (h:Va (okR P Low Stop) fn ops rest Q (a.put o.dst AQ) (L++[(c,vs,false)]) (λb=>O b/\b≠c) w):Va (okR P Low Stop) fn ops (i::rest) Q a L O w:=by
 intro b k cs v m u;refine FP.mk ⟨rfl,.inr (.inr (.inl ⟨c,l,λw₁ g=>⟨G (b.at (a.put o.dst AQ) (.inRegion ops rest::k)) cs,born P (dcall f args),vs,?_,rfl,rfl,?_,?_,?_⟩⟩))⟩
 .show stepG P true (G (b.at a (.inRegion ops (i::rest)::k)) cs) w₁=_;rw[stepG_spawn q y m (hr w₁) rfl];unfold listed;rw[n,seen_none]
 .obtain⟨s,r,e⟩:=t;exact⟨s,r,(g.mine c l).tr e⟩
 .exact(Bg P Low c).rely p (g.sub λ_ j=>j.elim)
 exact(Bl P Low Stop).rely (h b k cs v m u) (g.sub λ_ j=>j.1)
theorem iH{Stop:AX->World->Prop}{L:List (Nat × List AW × Bool)}{g:AX}(hr:g.status=.running)(f:∀e∈L,e.2.2=true)(h:∀w₁,Keep Low O w w₁->Stop g w₁):okR P Low Stop L O w g:=
 FP.mk ⟨hr,.inl ⟨f,h⟩⟩
end
end
section
variable {τ : Type}{P : AY}{main : Bool}{Low : Nat}{pre : τ -> AU -> Prop}{ok : τ -> (Nat -> Prop) -> AU -> AX -> Prop}{fn : FuncId}{Q : Xi τ}{a : Act}{x : τ}{O : Nat -> Prop}{w : AU}
variable {ops : Array Oper}{i : Nat}{rest : List Nat}{o : Oper}
theorem QJ(T:OkL P main Low pre ok)(n:ops[i]?=some o)(m:Region.wanted o (yielded ops a.tmps)=true)
  (k:∀w₁,Keep Low O w w₁->∀e∈(execOp a.eval o).events P w₁ #[],EvO Low O e)
  (h:∀w₁,Keep Low O w w₁->∀K:Act->World->Prop,(∀f,Va ok fn ops rest Q f x O w->K f w₁)->uponK o a K ((execOp a.eval o).run P w₁)):Va ok fn ops (i::rest) Q a x O w:=by
 refine Ya T n m λw₁ g _ K j=>?_;have:=h w₁ g (λf w'=>w'=w₁/\Va ok fn ops rest Q f x O w) λf h=>⟨rfl,h⟩;refine uponK_mono (λf w' h=>?_) this;obtain⟨rfl,h⟩:=h;refine j _ _ ⟨⟨λ_ _ _=>rfl,DK _,rfl,rfl,rfl,λe l=>?_⟩,?_⟩
 .rw[Jw];exact .inl (k _ g e (mem_listed l))
 rw[Jw];exact h.rely T g
def Qa(T:OkL P main Low pre ok)(j:ops[i]?=some o)(g:Region.wanted o (yielded ops a.tmps)=true)(f:∀w₁:AU,(execOp a.eval o).events P w₁ #[]=#[])
  (h:∀(w₁:AU)(K:Act->World->Prop),(∀e,Va ok fn ops rest Q e x O w->K e w₁)->uponK o a K ((execOp a.eval o).run P w₁)):Va ok fn ops (i::rest) Q a x O w:=
 QJ T j g (λw₁ _=>by rw[f];simp) λw₁ _=>h w₁
theorem Nz(T:OkL P main Low pre ok)(k:ops[i]?=some o)(q:Region.wanted o (yielded ops a.tmps)=true)(j:∀w₁:AU,(execOp a.eval o).events P w₁ #[]=#[])
  (h:∀w₁,Keep Low O w w₁->∀K:Act->World->Prop,(∀f ob,Va ok fn ops rest Q f x (λb=>O b\/b=w₁.heap.size) (w₁.alloc ob)->K f (w₁.alloc ob))->uponK o a K ((execOp a.eval o).run P w₁)):Va ok fn ops (i::rest) Q a x O w:=by
 refine Ya T k q λw₁ n _ K l=>?_;have:=h w₁ n (λf w'=>∃ob,w'=w₁.alloc ob/\Va ok fn ops rest Q f x (λb=>O b\/b=w₁.z) w') λf ob h=>⟨ob,rfl,h⟩;refine uponK_mono (λf w' h=>?_) this;obtain⟨ob,rfl,h⟩:=h;refine l _ _ ⟨⟨λb g _=>?_,by simp only[World.alloc,PD];omega,rfl,rfl,rfl,λe m=>?_⟩,?_⟩
 .simp only[World.alloc];rw[TG g,J2 g]
 .have:=mem_listed m;rw[j]at this;simp at this
 .have e:grown O w₁ (w₁.alloc ob)=λb=>O b\/b=w₁.z:=by
   funext b;apply propext;simp only[grown,World.alloc,PD];constructor
   .rintro(h|h)
    .exact .inl h
    .exact .inr BS
   .rintro(h|h)
    .exact .inl h
    .exact .inr BS
  rwa[e]
end
open Go.RowKit
structure Dm(Low:Nat)(O O':Nat->Prop)(w w':AU):Prop where
 own:∀b,O b->O' b
 still:∀b,b<Low->w'.heap[b]?=w.heap[b]?
 mine:∀b,O b->w'.heap[b]?=w.heap[b]?
 size:w.heap.size<=w'.heap.size
section
variable {Low : Nat}{w₀ w w' w'' : AU}{bs : List (Nat × Obj)}{O O' qV : Nat -> Prop}
def Dm.refl(Low:Nat)(O:Nat->Prop)(w:AU):Dm Low O O w w:=⟨λ_ h=>h,λ_ _=>rfl,λ_ _=>rfl,DK _⟩
def Dm.trans(h:Dm Low O O' w w')(k:Dm Low O' qV w' w''):Dm Low O qV w w'':=
 ⟨λb e=>k.own b (h.own b e),λb e=>(k.still b e).tr (h.still b e),λb e=>(k.mine b (h.own b e)).tr (h.mine b e),DR h.size k.size⟩
abbrev Dm.tr:=@Dm.trans
def Keep.ext(h:Keep Low O w w'):Dm Low O O w w':=⟨λ_ h=>h,h.still,h.mine,h.size⟩
def RJ{w:AU}{b:Nat}(e:b<w.heap.size)(ob:Obj):(w.alloc ob).heap[b]?=w.heap[b]?:=by simp only[World.alloc];rw[TG e,J2 e]
def Dm.new(hl:Low<=w.heap.size)(f:∀b,O b->b<w.heap.size)(ob:Obj):Dm Low O (λb=>O b\/b=w.heap.size) w (w.alloc ob):=
 ⟨λ_ h=>.inl h,λb e=>RJ (DL e hl) ob,λb e=>RJ (f b e) ob,by simp only[World.alloc,PD];omega⟩
end
structure Held(Low:Nat)(w₀:AU)(O:Nat->Prop)(w:AU):Prop where
 still:∀b,b<Low->w.heap[b]?=w₀.heap[b]?
 low:Low<=w.heap.size
 up:∀b,O b->b<w.heap.size
 os:w.os=w₀.os
 out:w.output=w₀.output
section
variable {Low : Nat}{w₀ w w' : AU}{O O' : Nat -> Prop}
def Held.rely(h:Held Low w₀ O w)(e:Keep Low O w w'):Held Low w₀ O w':=⟨λb f=>(e.still b f).tr (h.still b f),DR h.low e.size,λb f=>DL (h.up b f) e.size,e.os.tr h.os,e.out.tr h.out⟩
theorem Held.new(h:Held Low w₀ O w)(ob:Obj):Held Low w₀ (λb=>O b\/b=w.heap.size) (w.alloc ob):=
 ⟨λb e=>(RJ (DL e h.low) ob).tr (h.still b e),by simp only[World.alloc,PD];have:=h.low;omega,λb e=>by
  simp only[World.alloc,PD];rcases e with e|e
  .have:=h.up b e;omega
  .omega,h.os,h.out⟩
def Held.down(h:Held Low w₀ O w){b:Nat}(e:b<Low)(k:Nat):w.cell? (AK b k)=w₀.cell? (AK b k):=by simp only[World.cell?,h.still b e]
def Held.ext(h:Held Low w₀ O w)(ob:Obj):Dm Low O (λb=>O b\/b=w.heap.size) w (w.alloc ob):=Dm.new h.low h.up ob
def Dm.cell(h:Dm Low O O' w w'){b:Nat}(e:O b\/b<Low)(k:Nat):w'.cell? (AK b k)=w.cell? (AK b k):=by have :=e.elim (h.mine b) (h.still b);simp only[World.cell?,this]
def rq(w:AU)(cs:Array AW)(ty:AZ)(k:Nat):(w.alloc (.cells cs ty)).cell? (AL w k)=cs[k]?:=by
 have:(w.alloc (.cells cs ty)).heap[w.z]?=some (.cells cs ty):=by simp only[World.alloc];exact TB
 simp only[World.cell?,this];rfl
theorem Hf{τ:Type}{P:AY}{main:Bool}{pre:τ->World->Prop}{ok:τ->(Nat->Prop)->World->Goroutine->Prop}{fn:FuncId}{Q:Xi τ}{a:Act}{x:τ}(T:OkL P main Low pre ok){ops:Array Oper}{i:Nat}{rest:List Nat}{o:Oper}{f:FuncId}{args:Array Operand}{h:Array AZ}{vals:Array AW}{Post:AW->τ->(Nat->Prop)->World->Prop}
  (j:ops[i]?=some o) (l:Region.wanted o (yielded ops a.tmps)=true) (g:o.op=.call {callee:=.value (.func f),args,argTypes:=h})
  (n:Ky P ok f vals x O w Post) (k:args.map a.eval=vals) (m:∀v e O' w',Post v e O' w'->Va ok fn ops rest Q (a.put o.dst v) e O' w'):Va ok fn ops (i::rest) Q a x O w:=
 Aym T j l g (by rwa[k]) m
theorem boxed{w₁:World}(hF:Held Low w₀ O w)(f:Keep Low O w w₁)(cs:Array Value)(ty:TypeId):
  ∃e,e=(λb=>O b\/b=w₁.heap.size)/\Dm Low O e w (w₁.alloc (.cells cs ty))/\Held Low w₀ e (w₁.alloc (.cells cs ty))/\e w₁.heap.size/\Low<=w₁.heap.size/\
   ∀W,Keep Low e (w₁.alloc (.cells cs ty)) W->∀k,W.cell? ⟨w₁.heap.size,k,none⟩=cs[k]?:=
 ⟨_,rfl,f.ext.trans ((hF.rely f).ext _),(hF.rely f).new _,.inr rfl,(hF.rely f).low,λ_W g k=>(g.ext.cell (.inl (.inr rfl)) k).trans (rq _ _ _ _)⟩
end
section
variable {τ : Type}{P : Program}{main : Bool}{Low : Nat}{pre : τ -> World -> Prop}{ok : τ -> (Nat -> Prop) -> World -> Goroutine -> Prop}{fn : FuncId}{Q : Xi τ}{a : Act}{x : τ}{O : Nat -> Prop}{w w₀ : World}{ops : Array Oper}{i : Nat}{rest : List Nat}{o : Oper}
theorem kB(hF:Held Low w₀ O w)(cs:Array AW)(ty:AZ)
  (h:∀O1 W1 b,Dm Low O O1 w W1->Held Low w₀ O1 W1->O1 b->Low<=b->Hid (∀W,Keep Low O1 W1 W->∀k,W.cell? (AK b k)=cs[k]?)->Va ok fn ops rest Q (a.put o.dst (AH b)) x O1 W1)
  (ho:ops[i]?=some o:=by rfl) (hw:Region.wanted o (yielded ops a.tmps)=true:=by rfl) (T:OkL P main Low pre ok:=by first|exact Bg _ _ _|exact Bl _ _ _) (he:∀w₁:AU,(execOp a.eval o).events P w₁ #[]=#[]:=by(intro _;simp[go_sem]))
  (hr:∀(w₁:AU)(K:Act->World->Prop),K (a.put o.dst (AH w₁.heap.size)) (w₁.alloc (.cells cs ty))->uponK o a K ((execOp a.eval o).run P w₁):=by(intro w₁ K hK;go_simp;exact hK)):Va ok fn ops (i::rest) Q a x O w:=by refine Nz T ho hw he λw₁ hR K hK=>hr w₁ K (hK _ _ ?_);have⟨O1,eO,h1,h2,h3,h4,h5⟩:=boxed hF hR cs ty;rw[<-eO];exact h O1 _ _ h1 h2 h3 h4 h5
def JF{e l:Nat->Prop}{g j:AU}{b:Nat}{f:Nat->Option AW}(H:Hid (∀W,Keep Low e g W->∀k,W.cell? (AK b k)=f k))(m:Dm Low e l g j)(h:e b):Hid (∀W,Keep Low l j W->∀k,W.cell? (AK b k)=f k):=λ_ n k=>(n.ext.cell (.inl (m.own _ h)) k).tr ((m.cell (.inl h) k).tr (H _ (Keep.refl _ _ _) k))
end
structure FO(b:Nat)(w w':AU):Prop where
 rest:∀x,x≠b->w'.heap[x]?=w.heap[x]?
 size:w'.heap.size=w.heap.size
 tape:w'.tape=w.tape
 os:w'.os=w.os
 out:w'.output=w.output
def FO.refl(b:Nat)(w:AU):FO b w w:=⟨λ_ _=>rfl,rfl,rfl,rfl,rfl⟩
def FO.set{b:Nat}{w w':AU}(h:FO b w w')(o:Nat)(v:AW):FO b w (w'.setCell (AK b o) v):=by
 refine⟨λx f=>?_,?_,h.tape,h.os,h.out⟩
 .rw[<-h.rest x f];simp only[World.setCell];rw[JK];have:¬b=x:=λe=>f e.symm;simp[this]
 rw[<-h.size];simp[World.setCell]
section
variable {τ : Type}{P : AY}{main : Bool}{Low : Nat}{pre : τ -> AU -> Prop}{ok : τ -> (Nat -> Prop) -> AU -> AX -> Prop}{fn : FuncId}{Q : Xi τ}{a : Act}{x : τ}{O : Nat -> Prop}{w : AU}
variable {ops : Array Oper}{i : Nat}{rest : List Nat}{o : Oper}
theorem X9(T:OkL P main Low pre ok)(b:Nat)(q:O b)(l:ops[i]?=some o)(r:Region.wanted o (yielded ops a.tmps)=true)
  (k:∀w₁,Keep Low O w w₁->∀e∈(execOp a.eval o).events P w₁ #[],EvO Low O e)
  (h:∀w₁,Keep Low O w w₁->∀K:Act->World->Prop,(∀g w',FO b w₁ w'->Va ok fn ops rest Q g x O w'->K g w')->uponK o a K ((execOp a.eval o).run P w₁)):Va ok fn ops (i::rest) Q a x O w:=by
 refine Ya T l r λw₁ j _ K m=>?_;have:=h w₁ j (λg w'=>FO b w₁ w'/\Va ok fn ops rest Q g x O w') λg w' f h=>⟨f,h⟩;refine uponK_mono (λg w' h=>?_) this;obtain⟨f,h⟩:=h;have e:grown O w₁ w'=O:=by funext y;apply propext;simp only[grown,f.size];constructor;{rintro(h|h);{exact h};omega};exact .inl
 refine m _ _ ⟨⟨λy _ p=>f.rest y (λe=>p (e ▸ q)),Nat.le_of_eq f.size.symm,f.tape,f.os,f.out,λs n=>?_⟩,?_⟩
 .rw[e];exact .inl (k _ j s (mem_listed n))
 rwa[e]
end
def lj{τ:Type}{ok:τ->(Nat->Prop)->World->Goroutine->Prop}{fn:FuncId}{Q:Xi τ}{a:Act}{x:τ}{O:Nat->Prop}{w:AU}{c:Code}{N:Act->τ->(Nat->Prop)->World->Prop}(M:Act->τ->(Nat->Prop)->World->Prop)
  (h:WpK ok fn c (Wp M Q) a x O w) (j:∀g f O' w',M g f O' w'->N g f O' w'):WpK ok fn c (Wp N Q) a x O w:=
 h.mo λe g f O' w' q=>by cases e<;>first|exact j _ _ _ _ q|exact q
def events_store_slice{P:AY}{w:AU}{es:Array Event}{a:Ab}{m:Mode}(p:Option Ab)(n c:Nat):(store a (AE p n c) m).events P w es=storedEv P w es a (AE p n c) m:=events_store P w es a _ m rfl
section
variable {cs:Array AW}{ty:AZ}{w₁:AU}
variable {Low b : Nat}{w₀ w w' W : AU}{O O' : Nat -> Prop}
def Dm.put(h:Dm Low O O' W w)(f:FO b w w')(hl:Low<=b)(g:∀x,O x->x≠b):Dm Low O O' W w':=
 ⟨h.own,λx e=>(f.rest x BS).tr (h.still x e),λx e=>(f.rest x (g x e)).tr (h.mine x e),DR h.size (Nat.le_of_eq f.size.symm)⟩
def Held.put(h:Held Low w₀ O w)(e:FO b w w')(hl:Low<=b):Held Low w₀ O w':=
 ⟨λx f=>(e.rest x BS).tr (h.still x f),by rw[e.size];exact h.low,λx f=>by rw[e.size];exact h.up x f,e.os.tr h.os,e.out.tr h.out⟩
def Dm.rely(h:Dm Low O O' w W)(e:Keep Low O' W w₁):Dm Low O O' w w₁:=h.tr e.ext
def MN(hF:Held Low w₀ O w)(g:Keep Low O w w₁)(cs:Array AW)(ty:AZ):
  ∃f,f=(λb=>O b\/b=w₁.heap.size)/\Dm Low O f w (w₁.alloc (.cells cs ty))/\Held Low w₀ f (w₁.alloc (.cells cs ty))/\f w₁.heap.size/\Low<=w₁.heap.size/\(∀x,O x->x≠w₁.heap.size)/\
   (w₁.alloc (.cells cs ty)).heap[w₁.heap.size]?=some (.cells cs ty):=by
 have⟨f,e,h,j,m,l,_⟩:=boxed hF g cs ty;refine⟨f,e,h,j,m,l,λx k=>?_,?_⟩
 .have:=(hF.rely g).up x k;omega
 simp only[World.alloc];exact TB
def cell_of_heap{w:AU}{b:Nat}{e:Nat × Nat}(h:w.heap[b]?=some (.cells cs ty e))(k:Nat):w.cell? (AK b k)=cs[k]?:=by simp only[World.cell?,h];rfl
def frozen_of_heap{w:AU}{b:Nat}(h:w.heap[b]?=some (.cells cs ty))(k:Nat):w.frozen? (AK b k)=false:=by simp[World.frozen?,h]
def heap_setCell{w:AU}{b:Nat}{e:Nat × Nat}(h:w.heap[b]?=some (.cells cs ty e))(o:Nat)(v:AW):(w.setCell (AK b o) v).heap[b]?=some (.cells (cs.setIfInBounds o v) ty e):=by simp only[World.setCell];rw[JK,BR rfl,h];rfl
end
variable {G G':Prop}
structure Wr(p:Prop):Prop where
 out:p
theorem kW(k:G')(f:Wr G'->G:=by(intro hZ;(repeat(first|(refine Gq (Bg _ _ _) ?_;simp only[Db,DO,DU,Nat.reduceAdd,ED,List.range,List.range.loop])|(refine Qa (Bg _ _ _) rfl Bn ?_ ?_;(focus (intro _;first|(simp[go_sem];done)|(simp[go_sem, *];done)));intro _ K hK;go_simp;refine hK _ ?_;clear hK K;try walk_nrm)|(refine QJ (Bg _ _ _) rfl Bn ?_ ?_;(focus (intro W1 hR e he;have hy:=_Y _ hR;simp[go_sem, *]at he;(first|(subst he;(first|(refine⟨_,_,rfl,.inl ?_⟩;assumption)|(refine⟨_,_,rfl,.inr ⟨?_,rfl⟩⟩;assumption)|exact⟨_,_,rfl,_B.imp id (λh=>⟨h,rfl⟩)⟩))|(rcases he with rfl|rfl<;>(first|(refine⟨_,_,rfl,.inl ?_⟩;assumption)|(refine⟨_,_,rfl,.inr ⟨?_,rfl⟩⟩;assumption)|exact⟨_,_,rfl,_B.imp id (λh=>⟨h,rfl⟩)⟩))|(rcases he with rfl|rfl|rfl|rfl<;>(first|(refine⟨_,_,rfl,.inl ?_⟩;assumption)|(refine⟨_,_,rfl,.inr ⟨?_,rfl⟩⟩;assumption)|exact⟨_,_,rfl,_B.imp id (λh=>⟨h,rfl⟩)⟩))|(rcases he with rfl|rfl|rfl|rfl|rfl|rfl<;>(first|(refine⟨_,_,rfl,.inl ?_⟩;assumption)|(refine⟨_,_,rfl,.inr ⟨?_,rfl⟩⟩;assumption)|exact⟨_,_,rfl,_B.imp id (λh=>⟨h,rfl⟩)⟩)));done));intro W1 hR K hK;have hy:=_Y _ hR;go_simp;refine hK _ ?_;clear hK K hR hy W1;try walk_nrm)|(refine Wx (Bg _ _ _) rfl ?_ ?_;(focus (rfl;done));try walk_nrm)|(refine Z0 (z:=.tuple #[]) rfl Bn ?_ ?_ ?_;(focus (intro _;simp[execOp,scase,Act.eval];done));(focus (intro _;simp[execOp];done));try walk_nrm)|(refine Nn (Bg _ _ _) (t:=true) ?_ ?_;(focus (simp[Act.eval, *];done));simp only[if_true,reduceIte])|(refine Nn (Bg _ _ _) (t:=false) ?_ ?_;(focus (simp[Act.eval, *];done));simp only[EZ,EH,reduceIte])|((first|refine Lj (Bg _ _ _) ?_|refine Td (Bg _ _ _) ?_|refine Wl (Bg _ _ _) ?_|refine Tc (Bg _ _ _) ?_|refine Zw (Bg _ _ _) ?_|refine Wn (Bg _ _ _) ?_|refine Qp (Bg _ _ _) ?_);try(simp only[Wp,Np,if_true,EH,reduceIte,Nat.reduceEqDiff]))));exact hZ.out)):G:=f ⟨k⟩
theorem kV(k:G')(f:Wr G'->G:=by(intro hZ;(repeat(first|(refine Gq (Bl _ _ _) ?_;simp only[Db,DO,DU,Nat.reduceAdd,ED,List.range,List.range.loop])|(refine Qa (Bl _ _ _) rfl Bn ?_ ?_;(focus (intro _;first|(simp[go_sem];done)|(simp[go_sem, *];done)));intro _ K hK;go_simp;refine hK _ ?_;clear hK K;try walk_nrm)|(refine QJ (Bl _ _ _) rfl Bn ?_ ?_;(focus (intro W1 hR e he;have hy:=_Y _ hR;simp[go_sem, *]at he;(first|(subst he;(first|(refine⟨_,_,rfl,.inl ?_⟩;assumption)|(refine⟨_,_,rfl,.inr ⟨?_,rfl⟩⟩;assumption)|exact⟨_,_,rfl,_B.imp id (λh=>⟨h,rfl⟩)⟩))|(rcases he with rfl|rfl<;>(first|(refine⟨_,_,rfl,.inl ?_⟩;assumption)|(refine⟨_,_,rfl,.inr ⟨?_,rfl⟩⟩;assumption)|exact⟨_,_,rfl,_B.imp id (λh=>⟨h,rfl⟩)⟩))|(rcases he with rfl|rfl|rfl|rfl<;>(first|(refine⟨_,_,rfl,.inl ?_⟩;assumption)|(refine⟨_,_,rfl,.inr ⟨?_,rfl⟩⟩;assumption)|exact⟨_,_,rfl,_B.imp id (λh=>⟨h,rfl⟩)⟩))|(rcases he with rfl|rfl|rfl|rfl|rfl|rfl<;>(first|(refine⟨_,_,rfl,.inl ?_⟩;assumption)|(refine⟨_,_,rfl,.inr ⟨?_,rfl⟩⟩;assumption)|exact⟨_,_,rfl,_B.imp id (λh=>⟨h,rfl⟩)⟩)));done));intro W1 hR K hK;have hy:=_Y _ hR;go_simp;refine hK _ ?_;clear hK K hR hy W1;try walk_nrm)|(refine Wx (Bl _ _ _) rfl ?_ ?_;(focus (rfl;done));try walk_nrm)|(refine Z0 (z:=.tuple #[]) rfl Bn ?_ ?_ ?_;(focus (intro _;simp[execOp,scase,Act.eval];done));(focus (intro _;simp[execOp];done));try walk_nrm)|(refine Nn (Bl _ _ _) (t:=true) ?_ ?_;(focus (simp[Act.eval, *];done));simp only[if_true,reduceIte])|(refine Nn (Bl _ _ _) (t:=false) ?_ ?_;(focus (simp[Act.eval, *];done));simp only[EZ,EH,reduceIte])|((first|refine Lj (Bl _ _ _) ?_|refine Td (Bl _ _ _) ?_|refine Wl (Bl _ _ _) ?_|refine Tc (Bl _ _ _) ?_|refine Zw (Bl _ _ _) ?_|refine Wn (Bl _ _ _) ?_|refine Qp (Bl _ _ _) ?_);try(simp only[Wp,Np,if_true,EH,reduceIte,Nat.reduceEqDiff]))));exact hZ.out)):G:=f ⟨k⟩
section
variable {K : AU -> Prop}{b : Nat}{v0 v1 v2 v3 v4 v5 : AW}
def cs2(h:∀W,K W->∀e,W.cell? (AK b e)=(#[v0,v1]:Array AW)[e]?)(W:AU)(k:K W):W.cell? (AK b 0)=some v0/\W.cell? (AK b 1)=some v1:=⟨h W k 0,h W k 1⟩
def cs3(h:∀W,K W->∀e,W.cell? (AK b e)=(#[v0,v1,v2]:Array AW)[e]?)(W:AU)(k:K W):W.cell? (AK b 0)=some v0/\W.cell? (AK b 1)=some v1/\W.cell? (AK b 2)=some v2:=⟨h W k 0,h W k 1,h W k 2⟩
def cs4(h:∀W,K W->∀e,W.cell? (AK b e)=(#[v0,v1,v2,v3]:Array AW)[e]?)(W:AU)(k:K W):W.cell? (AK b 0)=some v0/\W.cell? (AK b 1)=some v1/\W.cell? (AK b 2)=some v2/\W.cell? (AK b 3)=some v3:=⟨h W k 0,h W k 1,h W k 2,h W k 3⟩
def cs6(h:∀W,K W->∀e,W.cell? (AK b e)=(#[v0,v1,v2,v3,v4,v5]:Array AW)[e]?)(W:AU)(k:K W):W.cell? (AK b 0)=some v0/\W.cell? (AK b 1)=some v1/\W.cell? (AK b 2)=some v2/\W.cell? (AK b 3)=some v3/\W.cell? (AK b 4)=some v4/\W.cell? (AK b 5)=some v5:=⟨h W k 0,h W k 1,h W k 2,h W k 3,h W k 4,h W k 5⟩
end
