import Derived.Test.YthdogflpbpkbeaaGreatDoorCD8
import Derived.Conc.CompanyMem
import Derived.Conc.TokenWalk
set_option linter.defProp false
namespace Go.Co
open Go.Conc
section
variable {P : AY}{Low : Nat}{Stop : AX -> AU -> Prop}
theorem vd{O:Φ}{g:AX}{w:AU}(y:∀b,O b->Low<=b/\b<w.heap.size)(hl:Low<=w.heap.size)(E:∀g w,Stop g w->OkG g)(h:FR P Low Stop ⟨O,[],g,w⟩):Comes P g w Stop:=by
 intro m sl t ⟨A,⟨q,v⟩,B,L⟩ _;have C:=(BF.1 A).1;have S:PhI P Low m.size t ⟨O,[],g,w⟩ (λk b=>k=0/\O b) ((List.range m.size).map λi=>.inr (if i=0 then 0 else q i)) m w t:=by refine⟨C,BU,by simp[C],BU,h.inv.1,Keep.refl _ _ _,.inl A,λi hi u=>?_,λj c R seen f=>by simp at f,λb I=>⟨rfl,I⟩,λj s n=>?_,λj c R seen f=>by simp at f,λj k c r s X Y f=>by simp at f,⟨λk l b e H=>e.1.tr H.1.symm,λk b e=>(y b e.2).1,λk b e=>(y b e.2).2⟩,hl,Tr.begin L v⟩;{refine⟨q i,m[i],?_,KD u,v.old i _ hi (KD u)⟩;have:i≠0:=BS;simp[u,this]};simp at n
 have⟨N,V,M,w',J,T,D,hF,U,n⟩:=phase w.tape h _ _ m w t sl S rfl;exact⟨N,V,M,w',J,T,D,hF,E _ _ n,U,n⟩
end
def J4(O:Φ)(w:AU):grown O w w=O:=by
 funext b;apply propext;constructor
 .rintro(h|⟨e,f⟩);{exact h};omega
 exact .inl
structure OkL{τ:Type}(P:AY)(main:Bool)(Low:Nat)(pre:τ->World->Prop)(ok:τ->(Nat->Prop)->World->Goroutine->Prop):Prop where
 rely:∀{x O w w₁ g},ok x O w g->Keep Low O w w₁->ok x O w₁ g
 own:∀{x O w g},g.status=.running->(∀w₁,Keep Low O w w₁->pre x w₁->∃g' w' es,stepG P main g w₁=.go g' w' es/\g'.status=.running/\GI Low O w₁ w' es/\ok x (grown O w₁ w') w' g')->ok x O w g
def GI.none(Low:Nat)(O:Φ)(w:AU):GI Low O w w #[]:=⟨λ_ _ _=>rfl,DN _,rfl,rfl,rfl,BU⟩
section
variable {τ : Type}{P : AY}{main : Bool}{Low : Nat}{pre : τ -> AU -> Prop}{ok : τ -> (Nat -> Prop) -> AU -> AX -> Prop}
def OkL.ctl(T:OkL P main Low pre ok){x:τ}{O:Φ}{w:AU}{g g':AX}(hr:g.status=.running)(e:g'.status=.running)(f:∀w₁,stepG P main g w₁=.go g' w₁ #[])(h:ok x O w g'):ok x O w g:=
 T.own hr λw₁ j _=>⟨g',w₁,#[],f w₁,e,GI.none _ _ _,by rw[J4];exact T.rely h j⟩
end
section
variable {τ : Type}(P : AY)(ok : τ -> (Nat -> Prop) -> AU -> AX -> Prop)
def MS(b:Frame)(k:List Item)(cs:List Frame):Exit->Act->τ->(Nat->Prop)->World->Prop
 |.normal,a,x,O,w=>ok x O w (G (b.at a k) cs)
 |.exit id,a,x,O,w=>∃e,exitTo id k=some e/\ok x O w (G (b.at a e) cs)
 |.ret,a,x,O,w=>∀f,ok x O w (G {b.at a f with mode:=.returning} cs)
 |_,_,_,_,_=>False
abbrev Xo(τ:Type):=Exit->Act->τ->(Nat->Prop)->World->Prop
def WpK(fn:FuncId)(c:Code)(Q:Xo τ)(a:Act)(x:τ)(O:Φ)(w:AU):Prop:=
 ∀(b:Frame)(k:List Item)(cs:List Frame),b.fn=fn->b.kind≠.early->(∀e g f O' w',Q e g f O' w'->MS ok b k cs e g f O' w')->ok x O w (G (b.at a (.code c::k)) cs)
def Vf(fn:FuncId)(ops:Array Oper)(todo:Γ)(Q:Xo τ)(a:Act)(x:τ)(O:Φ)(w:AU):Prop:=
 ∀(b:Frame)(k:List Item)(cs:List Frame),b.fn=fn->b.kind≠.early->(∀e g f O' w',Q e g f O' w'->MS ok b k cs e g f O' w')->ok x O w (G (b.at a (.inRegion ops todo::k)) cs)
def Wu(N:Act->τ->(Nat->Prop)->World->Prop)(Q:Xo τ):Xo τ
 |.normal=>N
 |e=>Q e
def Nr(id:Nat)(Q:Xo τ):Xo τ
 |.exit f=>if f=id then Q .normal else Q (.exit f)
 |e=>Q e
def dP(fn:Func)(Post:AW->τ->(Nat->Prop)->World->Prop):Xo τ
 |.normal,a,x,O,w|.ret,a,x,O,w=>a.defers=[]/\∃v,ResultsC P fn a.tmps v/\Post v x O w
 |_,_,_,_,_=>False
def La(f:FuncId)(args:δ)(x:τ)(O:Φ)(w:AU)(Post:AW->τ->(Nat->Prop)->World->Prop):Prop:=
 ∃fn c,P.funcs[f]?=some fn/\(fn.name== "runtime.NumGoroutine")=false/\fn.body=some c/\
  WpK ok f c (dP P fn Post) {tmps:=args++Array.replicate (fn.ntmps - args.size) AQ,defers:=[]} x O w
end
section
variable {c d:Code}{i id:Nat}{o:Oper}{ops:Array Oper}{rest:Γ}
variable {τ : Type}{P : AY}{main : Bool}{Low : Nat}{pre : τ -> AU -> Prop}{ok : τ -> (Nat -> Prop) -> AU -> AX -> Prop}{fn : FuncId}{Q Q' : Xo τ}{a : Act}{x : τ}{O : Nat -> Prop}{w w₁ : AU}
theorem MS.push{b:Frame}{y:Item}{k:List Item}{cs:List Frame}{e:Exit}(hx:y.plain=true)(g:e≠.normal)(h:MS ok b k cs e a x O w):MS ok b (y::k) cs e a x O w:=by
 cases e with
 |normal=>exact absurd rfl g|exit id=>obtain⟨j,n,f⟩:=h;exact⟨j,by cases y<;>simp_all[exitTo,Item.plain],f⟩
 |ret=>exact h|goto l=>exact h|panic m=>exact h|outgrown=>exact h
def WpK.mono(h:WpK ok fn c Q a x O w)(j:∀e a x O w,Q e a x O w->Q' e a x O w):WpK ok fn c Q' a x O w:=
 λb k cs l n f=>h b k cs l n λe m g O' w' q=>f e m g O' w' (j _ _ _ _ _ q)
abbrev WpK.mo:=@WpK.mono
def Vf.rely(T:OkL P main Low pre ok){todo:Γ}(h:Vf ok fn ops todo Q a x O w)(hr:Keep Low O w w₁):Vf ok fn ops todo Q a x O w₁:=
 λb k cs f g e=>T.rely (h b k cs f g e) hr
def Wq(T:OkL P main Low pre ok)(h:Q .normal a x O w):WpK ok fn .skip Q a x O w:=λ_b _k _cs _ _ e=>T.ctl rfl rfl (λ_=>stepG_skip) (e _ _ _ _ _ h)
def Tj(T:OkL P main Low pre ok){l:Nat}(h:Q .normal a x O w):WpK ok fn (.label l) Q a x O w:=λ_b _k _cs _ _ e=>T.ctl rfl rfl (λ_=>stepG_label) (e _ _ _ _ _ h)
def KJ(T:OkL P main Low pre ok)(h:Q .ret a x O w):WpK ok fn .ret Q a x O w:=λ_b _k _cs _ _ e=>T.ctl rfl rfl (λ_=>stepG_ret') (e _ _ _ _ _ h _)
def Ws(T:OkL P main Low pre ok)(h:Q (.exit id) a x O w):WpK ok fn (.exit id) Q a x O w:=λb k cs _ _ e=>by
 have⟨j,g,f⟩:=e _ _ _ _ _ h;exact T.ctl rfl rfl (λ_=>stepG_exit g) f
theorem Lm(T:OkL P main Low pre ok)(h:WpK ok fn c (Wu (λj m O' w'=>WpK ok fn d Q j m O' w') Q) a x O w):WpK ok fn (.seq c d) Q a x O w:=by
 intro b k cs g n f;refine T.ctl rfl rfl (λ_=>stepG_seq) (h b (.code d::k) cs g n λe j m O' w' q=>?_);cases e with
 |normal=>exact q b k cs g n f|exit id=>exact(f _ _ _ _ _ q).push rfl BU|ret=>exact(f _ _ _ _ _ q).push (y:=.code d) rfl BU|goto l=>exact f _ _ _ _ _ q|panic r=>exact f _ _ _ _ _ q|outgrown=>exact f _ _ _ _ _ q
def N3(T:OkL P main Low pre ok){c:Operand}{e:Code}{t:Bool}(f:a.eval c=.bool t)(h:WpK ok fn (if t then d else e) Q a x O w):WpK ok fn (.cond c d e) Q a x O w:=
 λb k cs j l g=>T.ctl rfl rfl (λ_=>stepG_cond f) (h b k cs j l g)
theorem Tm(T:OkL P main Low pre ok)(h:WpK ok fn c (Nr id Q) a x O w):WpK ok fn (.block id c) Q a x O w:=by
 intro b k cs m s f;refine T.ctl rfl rfl (λ_=>stepG_block) (h b (.inBlock id::k) cs m s λe u v O' w' q=>?_);cases e with
 |normal=>exact T.ctl rfl rfl (λ_=>stepG_inBlock) (f _ _ _ _ _ q)
 |exit g=>
  by_cases BZ:g=id;{simp only[Nr,BZ,if_true]at q;exact⟨k,by simp[exitTo,BZ],f _ _ _ _ _ q⟩};simp only[Nr,BZ,EL]at q;have⟨p,n,r⟩:=f _ _ _ _ _ q;have:(id==g)=false:=by simp;exact λh=>BZ h.symm
  exact⟨p,by simp[exitTo,this,n],r⟩
 |ret=>exact λj=>f _ _ _ _ _ q j|goto l=>exact f _ _ _ _ _ q|panic t=>exact f _ _ _ _ _ q|outgrown=>exact f _ _ _ _ _ q
theorem Yz(T:OkL P main Low pre ok)(I:Nat->Act->τ->(Nat->Prop)->World->Prop)(N:Nat)(v:I N a x O w)
  (round:∀n a x O w,I n a x O w->WpK ok fn c (Wu (λg j O' w'=>∃m,m<n/\I m g j O' w') Q) a x O w):WpK ok fn (.loop c) Q a x O w:=by
 intro b k cs s B f;have key:∀n a x O w,I n a x O w->ok x O w (G (b.at a (.code c::.inLoop c::k)) cs):=by
  intro n;induction n using Nat.strongRecOn with
  |ind n u=>
   intro a x O w A;refine round n a x O w A b (.inLoop c::k) cs s B λe g j O' w' q=>?_;cases e with
   |normal=>obtain⟨m,r,t⟩:=q;exact T.ctl rfl rfl (λ_=>stepG_inLoop) (u m r _ _ _ _ t)
   |exit id=>exact(f _ _ _ _ _ q).push rfl BU|ret=>exact(f _ _ _ _ _ q).push (y:=.inLoop c) rfl BU|goto l=>exact f _ _ _ _ _ q|panic C=>exact f _ _ _ _ _ q|outgrown=>exact f _ _ _ _ _ q
 exact T.ctl rfl rfl (λ_=>stepG_loop) (key N _ _ _ _ v)
def Gv(T:OkL P main Low pre ok)(h:Vf ok fn ops (List.range ops.size) Q a x O w):WpK ok fn (.region id ops false) Q a x O w:=
 λb k cs f g e=>T.ctl rfl rfl (λ_=>stepG_region) (h b k cs f g e)
def Qu(T:OkL P main Low pre ok)(h:Q .normal a x O w):Vf ok fn ops [] Q a x O w:=
 λ_b _k _cs _ _ e=>T.ctl rfl rfl (λ_=>stepG_region_end) (e _ _ _ _ _ h)
def Xc(T:OkL P main Low pre ok)(f:ops[i]?=some o)(j:Region.wanted o (yielded ops a.tmps)=false)(h:Vf ok fn ops rest Q (a.put o.dst AQ) x O w):Vf ok fn ops (i::rest) Q a x O w:=
 λb k cs g l e=>T.ctl rfl rfl (λ_=>stepG_unwanted f j) (h b k cs g l e)
theorem Yg(T:OkL P main Low pre ok)(m:ops[i]?=some o)(p:Region.wanted o (yielded ops a.tmps)=true)
  (h:∀w₁,Keep Low O w w₁->pre x w₁->∀K:Act->World->Prop,(∀f w',GI Low O w₁ w' (listed P fn a o w₁)/\Vf ok fn ops rest Q f x (grown O w₁ w') w'->K f w')->uponK o a K ((execOp a.eval o).run P w₁)):Vf ok fn ops (i::rest) Q a x O w:=by
 intro b k cs e j n;refine T.own rfl λw₁ q r=>?_;have:=h w₁ q r (λf w'=>GI Low O w₁ w' (listed P fn a o w₁)/\Vf ok fn ops rest Q f x (grown O w₁ w') w') λ_ _ z=>z
 revert this
 cases l:(execOp a.eval o).run P w₁ with
 |ok y w'=>
  cases y with
  |value v=>rintro⟨d,g⟩;exact⟨_,_,_,stepG_value m p j l,rfl,by rwa[e],g b k cs e j n⟩
  |skip=>rintro⟨d,g⟩;exact⟨_,_,_,stepG_none m p j l,rfl,by rwa[e],g b k cs e j n⟩
  |_=>exact λz=>z.elim
 |halt _ _=>exact λz=>z.elim
theorem Azd(T:OkL P main Low pre ok){f:FuncId}{args:Array Operand}{A:Array AZ}{Post:AW->τ->(Nat->Prop)->World->Prop}
  (s:ops[i]?=some o) (N:Region.wanted o (yielded ops a.tmps)=true) (C:o.op=.call {callee:=.value (.func f),args,argTypes:=A})
  (V:La P ok f (args.map a.eval) x O w Post) (M:∀v g O' w',Post v g O' w'->Vf ok fn ops rest Q (a.put o.dst v) g O' w'):Vf ok fn ops (i::rest) Q a x O w:=by
 intro b k cs B y H;obtain⟨F,c,n,D,R,U⟩:=V;have E:∀v,(b.at a (.inRegion ops (i::rest)::k)).finish v=b.at (a.put o.dst v) (.inRegion ops rest::k):=λv=>by rw[Frame.finish_at,s];rfl
 have t:∀(j:Act)(g:τ)(O':Φ)(w':AU)(m:List Item),(j.defers=[]/\∃v,ResultsC P F j.tmps v/\Post v g O' w')->
   ok g O' w' (G {(base f).at j m with mode:=.returning} (b.at a (.inRegion ops (i::rest)::k)::cs)):=by
  rintro j g O' w' m⟨hd,v,r,L⟩;refine T.ctl rfl (g':=G (b.at (a.put o.dst v) (.inRegion ops rest::k)) cs) rfl (λw₁=>?_) (M v g O' w' L b k cs B y H);rw[stepG_leave (b:=base f) rfl hd n (r w₁).1 (r w₁).2,E]
 have S:ok x O w (G ((base f).at {tmps:=args.map a.eval++Array.replicate (F.ntmps - (args.map a.eval).size) AQ,defers:=[]} [.code c]) (b.at a (.inRegion ops (i::rest)::k)::cs)):=by refine U (base f) [] _ rfl DI λe j g O' w' q=>?_;cases e with|normal=>exact T.ctl rfl rfl (λ_=>stepG_end) (t j g O' w' [] q)|ret=>exact λm=>t j g O' w' m q|exit id=>exact q.elim|goto l=>exact q.elim|panic X=>exact q.elim|outgrown=>exact q.elim
 refine T.ctl rfl (g':=G ((base f).at {tmps:=args.map a.eval++Array.replicate (F.ntmps - (args.map a.eval).size) AQ,defers:=[]} [.code c]) (b.at a (.inRegion ops (i::rest)::k)::cs)) rfl (λw₁=>?_) S;have⟨g',w',u,I,J⟩:=goes_elim (goes_call (P:=P) (main:=main) (w:=w₁) (cs:=cs) (k:=k) (rest:=rest) (K:=λg' w' u=>g'=G ((base f).at {tmps:=args.map a.eval++Array.replicate (F.ntmps - (args.map a.eval).size) AQ,defers:=[]} [.code c]) (b.at a (.inRegion ops (i::rest)::k)::cs)/\w'=w₁/\u=#[]) s N y C n D R ⟨rfl,rfl,rfl⟩);obtain⟨rfl,rfl,rfl⟩:=J;exact I
theorem La.mono{f:FuncId}{args:δ}{Post g:AW->τ->(Nat->Prop)->World->Prop}(h:La P ok f args x O w Post)(n:∀v x O w,Post v x O w->g v x O w):La P ok f args x O w g:=by obtain⟨F,c,j,k,l,m⟩:=h;refine⟨F,c,j,k,l,m.mo λe a x O w q=>?_⟩;cases e<;>first|exact⟨q.1,q.2.choose,q.2.choose_spec.1,n _ _ _ _ q.2.choose_spec.2⟩|exact q
end
section
variable {P : AY}{Low : Nat}
abbrev La.mo:=@La.mono
def okS(P:AY)(Low c:Nat):Θ->(Nat->Prop)->World->Goroutine->Prop:=λvs O w g=>FD P Low ⟨c,O,vs,g,w⟩
theorem Bh(P:AY)(Low c:Nat):OkL P false Low (λ_ w=>Zj c w) (okS P Low c):=by
 refine⟨fun {x O w w₁ g} h j=>?_,fun {x O w g} l h=>?_⟩
 .have hi:=FD.inv h;refine FD.mk ⟨hi.1,?_⟩;rcases hi.2 with h|⟨v,n,e,h⟩|⟨p,m,h⟩;{exact .inl λf k o=>h f (j.tr k) o};{exact .inr (.inl ⟨v,n,e,λf k o=>h f (j.tr k) o⟩)};exact .inr (.inr ⟨p,m,λf s r k o=>h f s r (j.tr k) o⟩)
 exact FD.mk ⟨l,.inl λw₁ k o=>h w₁ k o⟩
def okR(P:AY)(Low:Nat)(Stop:AX->World->Prop):List (Nat × Θ × Bool)->(Nat->Prop)->World->Goroutine->Prop:=λL O w g=>FR P Low Stop ⟨O,L,g,w⟩
theorem Bo(P:AY)(Low:Nat)(Stop:AX->World->Prop):OkL P true Low (λ_ _=>True) (okR P Low Stop):=by
 refine⟨fun {x O w w₁ g} h f=>?_,fun {x O w g} l h=>?_⟩
 .have hi:=FR.inv h;refine FR.mk ⟨hi.1,?_⟩;rcases hi.2 with⟨n,h⟩|h|⟨c,p,h⟩|⟨j,c,vs,z,m,h⟩;{exact .inl ⟨n,λe k=>h e (f.tr k)⟩};{exact .inr (.inl λe k=>h e (f.tr k))};{exact .inr (.inr (.inl ⟨c,p,λe k=>h e (f.tr k)⟩))};exact .inr (.inr (.inr ⟨j,c,vs,z,m,λe k=>h e (f.tr k)⟩))
 exact FR.mk ⟨l,.inr (.inl λw₁ k=>h w₁ k trivial)⟩
section
variable {F:Func}{args:δ}{cd:Code}{vs:Θ}{z:AW}
variable {fn : FuncId}{a : Act}{O : Nat -> Prop}{w : AU}{c : Nat}{ops : Array Oper}{i : Nat}{rest : Γ}{o : Oper}
theorem cM{Q:Xo (Θ)}{v:AW}(f:ops[i]?=some o)(p:Region.wanted o (yielded ops a.tmps)=true)(hr:∀w₁:AU,(execOp a.eval o).run P w₁=.ok (.comm #[scase c v z] true .send) w₁)
  (m:∀w₁:AU,(execOp a.eval o).events P w₁ #[]=#[]) (h:Vf (okS P Low c) fn ops rest Q (a.put o.dst AQ) vs O w):Vf (okS P Low c) fn ops (i::rest) Q a (v::vs) O w:=by
 intro b k cs n g j;refine FD.mk ⟨rfl,.inr (.inl ⟨v,vs,rfl,λw₁ l _=>⟨⟨z,?_⟩,?_⟩⟩)⟩
 .show stepG P false (G (b.at a (.inRegion ops (i::rest)::k)) cs) w₁=_;rw[stepG_comm f p g (hr w₁)];unfold listed;rw[m,seen_none]
 have q:(b.at a (.inRegion ops (i::rest)::k)).finish AQ=b.at (a.put o.dst AQ) (.inRegion ops rest::k):=by rw[Frame.finish_at,f];rfl
 have e:Conc.served (G (b.at a (.inRegion ops (i::rest)::k)) cs) AQ=G (b.at (a.put o.dst AQ) (.inRegion ops rest::k)) cs:=by rw[<-q];rfl
 show FD P Low ⟨c,O,vs,Conc.served (G (b.at a (.inRegion ops (i::rest)::k)) cs) AQ,w₁⟩;rw[e];exact(Bh P Low c).rely (h b k cs n g j) l
theorem Aze{b:Frame}{k:List Item}{cs:List Frame}{y:Operand}{e:Array AZ}{n:Nat}(g:ops[i]?=some o)(l:Region.wanted o (yielded ops a.tmps)=true)(t:b.kind≠.early)
  (j:o.op=.call {callee:=.builtin .close,args:=#[y],argTypes:=e}) (q:a.eval y=.chan (some c)) (p:(P.funcs[b.fn]?).any (·.norace)=false) (f:mayWake P (G (b.at a (.inRegion ops (i::rest)::k)) cs)=true)
  (h:QuitsIn P n (G (b.at (a.put o.dst (.tuple #[])) (.inRegion ops rest::k)) cs)):okS P Low c [] O w (G (b.at a (.inRegion ops (i::rest)::k)) cs):=by refine FD.mk ⟨rfl,.inr (.inr ⟨rfl,f,λw₁ s r _ m=>⟨_,n,?_,rfl,h⟩⟩)⟩;exact stepG_close g l t j q m p
def JU(P:AY):Frame:={(default:Frame) with fn:=P.funcs.size,defers:=[],mode:=.panicking [goexitEntry]}
def Arh{f:FuncId}(e:P.funcs[f]?=some F)(j:(F.name== "runtime.NumGoroutine")=false)(g:F.body=some cd)(w:AU):
  stepG P false (born P (dcall f args)) w=.go (G ((baseD f).at {tmps:=args++Array.replicate (F.ntmps - args.size) AQ,defers:=[]} [.code cd]) [JU P]) w #[]:=by have h:¬F.name= "runtime.NumGoroutine" :=xCn;simp[born,dcall,stepG,unwind,callDeferred,invoke,callFunc,e,h,g,seen,GStep.after,G,Frame.enter,Frame.at,baseD,JU]
theorem Ayx{f:FuncId}{a:Act}{ops:Array Oper}(e:P.funcs[f]?=some F)(hr:F.results=#[])(hd:a.defers=[]):QuitsIn P 4 (G ((baseD f).at a [.inRegion ops []]) [JU P]):=by
 refine .inr ⟨rfl,_,λw=>stepG_region_end,?_⟩;refine .inr ⟨rfl,_,λw=>stepG_end,?_⟩;refine .inr ⟨rfl,G (JU P) [],λw=>?_,?_⟩
 .simp[G,stepG,unwind,doReturn,results,Frame.at,baseD,JU,e,hr,hd,seen,GStep.after,goexitEntry]
 refine .inr ⟨rfl,{G (JU P) [] with status:=.finished},λw=>?_,rfl⟩;simp[G,stepG,unwind,JU,goexitEntry,Frame.catches];rfl
def kg{f:FuncId}(e:P.funcs[f]?=some F)(j:(F.name== "runtime.NumGoroutine")=false)(g:F.body=some cd)
  (h:okS P Low c vs O w (G ((baseD f).at {tmps:=args++Array.replicate (F.ntmps - args.size) AQ,defers:=[]} [.code cd]) [JU P])):okS P Low c vs O w (born P (dcall f args)):=
 (Bh P Low c).ctl rfl rfl (Arh e j g) h
theorem cQ{Stop:AX->World->Prop}{Q:Xo (List (Nat × Θ × Bool))}{L:List (Nat × Θ × Bool)}{j:Nat}(l:ops[i]?=some o)(s:Region.wanted o (yielded ops a.tmps)=true)
  (q:L[j]?=some (c,vs,false)) (hr:∀w₁:AU,(execOp a.eval o).run P w₁=.ok (.comm #[rcase c z] true (.recv true)) w₁) (u:∀w₁:AU,(execOp a.eval o).events P w₁ #[]=#[])
  (h1:∀v f,vs=v::f->Vf (okR P Low Stop) fn ops rest Q (a.put o.dst (.tuple #[v,.bool true])) (L.set j (c,f,false)) O w)
  (r:vs=[]->Vf (okR P Low Stop) fn ops rest Q (a.put o.dst (.tuple #[z,.bool false])) (L.set j (c,[],true)) O w):Vf (okR P Low Stop) fn ops (i::rest) Q a L O w:=by
 intro b k cs m h n;have t:∀v,(b.at a (.inRegion ops (i::rest)::k)).finish v=b.at (a.put o.dst v) (.inRegion ops rest::k):=λv=>by rw[Frame.finish_at,l];rfl
 have e:∀v,Conc.served (G (b.at a (.inRegion ops (i::rest)::k)) cs) v=G (b.at (a.put o.dst v) (.inRegion ops rest::k)) cs:=λv=>by rw[<-t];rfl
 refine FR.mk ⟨rfl,.inr (.inr (.inr ⟨j,c,vs,z,q,λw₁ p=>⟨?_,λv f g=>?_,λg=>?_⟩⟩))⟩
 .show stepG P true (G (b.at a (.inRegion ops (i::rest)::k)) cs) w₁=_;rw[stepG_comm l s h (hr w₁)];unfold listed;rw[u,seen_none]
 .show FR P Low Stop ⟨O,_,Conc.served (G (b.at a (.inRegion ops (i::rest)::k)) cs) (.tuple #[v,.bool true]),w₁⟩;rw[e];exact(Bo P Low Stop).rely (h1 v f g b k cs m h n) p
 show FR P Low Stop ⟨O,_,Conc.served (G (b.at a (.inRegion ops (i::rest)::k)) cs) (.tuple #[z,.bool false]),w₁⟩;rw[e];exact(Bo P Low Stop).rely (r g b k cs m h n) p
theorem oq{Stop:AX->World->Prop}{Q:Xo (List (Nat × Θ × Bool))}{L:List (Nat × Θ × Bool)}{f:FuncId}(p:ops[i]?=some o)(u:Region.wanted o (yielded ops a.tmps)=true)
  (hr:∀w₁:AU,(execOp a.eval o).run P w₁=.ok (.spawn (dcall f args)) w₁) (v:∀w₁:AU,(execOp a.eval o).events P w₁ #[]=#[]) (l:O c) (n:Zj c w)
  (q:okS P Low c vs (λ_=>False) w (born P (dcall f args))) (h:Vf (okR P Low Stop) fn ops rest Q (a.put o.dst AQ) (L++[(c,vs,false)]) (λb=>O b/\b≠c) w):Vf (okR P Low Stop) fn ops (i::rest) Q a L O w:=by
 intro b k cs t m y;refine FR.mk ⟨rfl,.inr (.inr (.inl ⟨c,l,λw₁ j=>⟨G (b.at (a.put o.dst AQ) (.inRegion ops rest::k)) cs,born P (dcall f args),vs,?_,rfl,rfl,?_,?_,?_⟩⟩))⟩
 .show stepG P true (G (b.at a (.inRegion ops (i::rest)::k)) cs) w₁=_;rw[stepG_spawn p u m (hr w₁) rfl];unfold listed;rw[v,seen_none]
 .obtain⟨s,r,e⟩:=n;exact⟨s,r,(j.mine c l).tr e⟩
 .exact(Bh P Low c).rely q (j.sub λ_ g=>g.elim)
 exact(Bo P Low Stop).rely (h b k cs t m y) (j.sub λ_ g=>g.1)
theorem kh{Stop:AX->World->Prop}{L:List (Nat × Θ × Bool)}{g:AX}(hr:g.status=.running)(f:∀e∈L,e.2.2=true)(h:∀w₁,Keep Low O w w₁->Stop g w₁):okR P Low Stop L O w g:=
 FR.mk ⟨hr,.inl ⟨f,h⟩⟩
end
end
section
variable {τ : Type}{P : AY}{main : Bool}{Low : Nat}{pre : τ -> AU -> Prop}{ok : τ -> (Nat -> Prop) -> AU -> AX -> Prop}{fn : FuncId}{Q : Xo τ}{a : Act}{x : τ}{O : Nat -> Prop}{w : AU}
variable {ops : Array Oper}{i : Nat}{rest : Γ}{o : Oper}
theorem QX(T:OkL P main Low pre ok)(m:ops[i]?=some o)(j:Region.wanted o (yielded ops a.tmps)=true)
  (k:∀w₁,Keep Low O w w₁->∀e∈(execOp a.eval o).events P w₁ #[],EvO Low O e)
  (h:∀w₁,Keep Low O w w₁->∀K:Act->World->Prop,(∀f,Vf ok fn ops rest Q f x O w->K f w₁)->uponK o a K ((execOp a.eval o).run P w₁)):Vf ok fn ops (i::rest) Q a x O w:=by
 refine Yg T m j λw₁ g _ K n=>?_;have:=h w₁ g (λf w'=>w'=w₁/\Vf ok fn ops rest Q f x O w) λf h=>⟨rfl,h⟩;refine uponK_mono (λf w' h=>?_) this;obtain⟨rfl,h⟩:=h;refine n _ _ ⟨⟨λ_ _ _=>rfl,DN _,rfl,rfl,rfl,λe l=>?_⟩,?_⟩
 .rw[J4];exact .inl (k _ g e (mem_listed l))
 rw[J4];exact h.rely T g
def Qd(T:OkL P main Low pre ok)(j:ops[i]?=some o)(f:Region.wanted o (yielded ops a.tmps)=true)(g:∀w₁:AU,(execOp a.eval o).events P w₁ #[]=#[])
  (h:∀(w₁:AU)(K:Act->World->Prop),(∀e,Vf ok fn ops rest Q e x O w->K e w₁)->uponK o a K ((execOp a.eval o).run P w₁)):Vf ok fn ops (i::rest) Q a x O w:=
 QX T j f (λw₁ _=>by rw[g];simp) λw₁ _=>h w₁
theorem N9(T:OkL P main Low pre ok)(k:ops[i]?=some o)(m:Region.wanted o (yielded ops a.tmps)=true)(n:∀w₁:AU,(execOp a.eval o).events P w₁ #[]=#[])
  (h:∀w₁,Keep Low O w w₁->∀K:Act->World->Prop,(∀f ob,Vf ok fn ops rest Q f x (λb=>O b\/b=w₁.heap.size) (w₁.alloc ob)->K f (w₁.alloc ob))->uponK o a K ((execOp a.eval o).run P w₁)):Vf ok fn ops (i::rest) Q a x O w:=by
 refine Yg T k m λw₁ q _ K l=>?_;have:=h w₁ q (λf w'=>∃ob,w'=w₁.alloc ob/\Vf ok fn ops rest Q f x (λb=>O b\/b=w₁.z) w') λf ob h=>⟨ob,rfl,h⟩;refine uponK_mono (λf w' h=>?_) this;obtain⟨ob,rfl,h⟩:=h;refine l _ _ ⟨⟨λb g _=>?_,by simp only[World.alloc,PK];omega,rfl,rfl,rfl,λe j=>?_⟩,?_⟩
 .simp only[World.alloc];rw[TV g,KD g]
 .have:=mem_listed j;rw[n]at this;simp at this
 .have e:grown O w₁ (w₁.alloc ob)=λb=>O b\/b=w₁.z:=by
   funext b;apply propext;simp only[grown,World.alloc,PK];constructor
   .rintro(h|h)
    .exact .inl h
    .exact .inr BS
   .rintro(h|h)
    .exact .inl h
    .exact .inr BS
  rwa[e]
end
open Go.RowKit
structure D2(Low:Nat)(O O':Nat->Prop)(w w':AU):Prop where
 own:∀b,O b->O' b
 still:∀b,b<Low->w'.heap[b]?=w.heap[b]?
 mine:∀b,O b->w'.heap[b]?=w.heap[b]?
 size:w.heap.size<=w'.heap.size
section
variable {Low : Nat}{w₀ w w' w'' : AU}{bs : List (Nat × Obj)}{O O' rD : Nat -> Prop}
def D2.refl(Low:Nat)(O:Φ)(w:AU):D2 Low O O w w:=⟨λ_ h=>h,λ_ _=>rfl,λ_ _=>rfl,DN _⟩
def D2.trans(h:D2 Low O O' w w')(k:D2 Low O' rD w' w''):D2 Low O rD w w'':=
 ⟨λb e=>k.own b (h.own b e),λb e=>(k.still b e).tr (h.still b e),λb e=>(k.mine b (h.own b e)).tr (h.mine b e),DU h.size k.size⟩
abbrev D2.tr:=@D2.trans
def Keep.ext(h:Keep Low O w w'):D2 Low O O w w':=⟨λ_ h=>h,h.still,h.mine,h.size⟩
def Rb{w:AU}{b:Nat}(e:b<w.heap.size)(ob:Obj):(w.alloc ob).heap[b]?=w.heap[b]?:=by simp only[World.alloc];rw[TV e,KD e]
def D2.new(hl:Low<=w.heap.size)(f:∀b,O b->b<w.heap.size)(ob:Obj):D2 Low O (λb=>O b\/b=w.heap.size) w (w.alloc ob):=
 ⟨λ_ h=>.inl h,λb e=>Rb (DO e hl) ob,λb e=>Rb (f b e) ob,by simp only[World.alloc,PK];omega⟩
end
structure Held(Low:Nat)(w₀:AU)(O:Nat->Prop)(w:AU):Prop where
 still:∀b,b<Low->w.heap[b]?=w₀.heap[b]?
 low:Low<=w.heap.size
 up:∀b,O b->b<w.heap.size
 os:w.os=w₀.os
 out:w.output=w₀.output
section
variable {Low : Nat}{w₀ w w' : AU}{O O' : Nat -> Prop}
def Held.rely(h:Held Low w₀ O w)(e:Keep Low O w w'):Held Low w₀ O w':=⟨λb f=>(e.still b f).tr (h.still b f),DU h.low e.size,λb f=>DO (h.up b f) e.size,e.os.tr h.os,e.out.tr h.out⟩
theorem Held.new(h:Held Low w₀ O w)(ob:Obj):Held Low w₀ (λb=>O b\/b=w.heap.size) (w.alloc ob):=
 ⟨λb e=>(Rb (DO e h.low) ob).tr (h.still b e),by simp only[World.alloc,PK];have:=h.low;omega,λb e=>by
  simp only[World.alloc,PK];rcases e with e|e
  .have:=h.up b e;omega
  .omega,h.os,h.out⟩
def Held.down(h:Held Low w₀ O w){b:Nat}(e:b<Low)(k:Nat):w.cell? (AK b k)=w₀.cell? (AK b k):=by simp only[World.cell?,h.still b e]
def Held.ext(h:Held Low w₀ O w)(ob:Obj):D2 Low O (λb=>O b\/b=w.heap.size) w (w.alloc ob):=D2.new h.low h.up ob
def D2.cell(h:D2 Low O O' w w'){b:Nat}(e:O b\/b<Low)(k:Nat):w'.cell? (AK b k)=w.cell? (AK b k):=by have :=e.elim (h.mine b) (h.still b);simp only[World.cell?,this]
def sk(w:AU)(cs:δ)(ty:AZ)(k:Nat):(w.alloc (.cells cs ty)).cell? (AL w k)=cs[k]?:=by
 have:(w.alloc (.cells cs ty)).heap[w.z]?=some (.cells cs ty):=by simp only[World.alloc];exact TS
 simp only[World.cell?,this];rfl
theorem Ht{τ:Type}{P:AY}{main:Bool}{pre:τ->World->Prop}{ok:τ->(Nat->Prop)->World->Goroutine->Prop}{fn:FuncId}{Q:Xo τ}{a:Act}{x:τ}(T:OkL P main Low pre ok){ops:Array Oper}{i:Nat}{rest:Γ}{o:Oper}{f:FuncId}{args:Array Operand}{g:Array AZ}{vals:δ}{Post:AW->τ->(Nat->Prop)->World->Prop}
  (h:ops[i]?=some o) (l:Region.wanted o (yielded ops a.tmps)=true) (k:o.op=.call {callee:=.value (.func f),args,argTypes:=g})
  (m:La P ok f vals x O w Post) (j:args.map a.eval=vals) (n:∀v e O' w',Post v e O' w'->Vf ok fn ops rest Q (a.put o.dst v) e O' w'):Vf ok fn ops (i::rest) Q a x O w:=
 Azd T h l k (by rwa[j]) n
theorem boxed{w₁:AU}(hF:Held Low w₀ O w)(f:Keep Low O w w₁)(cs:δ)(ty:AZ):
  ∃e,e=(λb=>O b\/b=w₁.heap.size)/\D2 Low O e w (w₁.alloc (.cells cs ty))/\Held Low w₀ e (w₁.alloc (.cells cs ty))/\e w₁.heap.size/\Low<=w₁.heap.size/\
   ∀W,Keep Low e (w₁.alloc (.cells cs ty)) W->∀k,W.cell? ⟨w₁.heap.size,k,none⟩=cs[k]?:=
 ⟨_,rfl,f.ext.trans ((hF.rely f).ext _),(hF.rely f).new _,.inr rfl,(hF.rely f).low,λ_W g k=>(g.ext.cell (.inl (.inr rfl)) k).trans (sk _ _ _ _)⟩
end
section
variable {τ : Type}{P : AY}{main : Bool}{Low : Nat}{pre : τ -> AU -> Prop}{ok : τ -> (Nat -> Prop) -> AU -> AX -> Prop}{fn : FuncId}{Q : Xo τ}{a : Act}{x : τ}{O : Nat -> Prop}{w w₀ : AU}{ops : Array Oper}{i : Nat}{rest : Γ}{o : Oper}
theorem kB(hF:Held Low w₀ O w)(cs:δ)(ty:AZ)
  (h:∀O1 W1 b,D2 Low O O1 w W1->Held Low w₀ O1 W1->O1 b->Low<=b->Hid (∀W,Keep Low O1 W1 W->∀k,W.cell? (AK b k)=cs[k]?)->Vf ok fn ops rest Q (a.put o.dst (AH b)) x O1 W1)
  (ho:ops[i]?=some o:=by rfl) (hw:Region.wanted o (yielded ops a.tmps)=true:=by rfl) (T:OkL P main Low pre ok:=by first|exact Bh _ _ _|exact Bo _ _ _) (he:∀w₁:AU,(execOp a.eval o).events P w₁ #[]=#[]:=by(intro _;simp[go_sem]))
  (hr:∀(w₁:AU)(K:Act->World->Prop),K (a.put o.dst (AH w₁.heap.size)) (w₁.alloc (.cells cs ty))->uponK o a K ((execOp a.eval o).run P w₁):=by(intro w₁ K hK;go_simp;exact hK)):Vf ok fn ops (i::rest) Q a x O w:=by refine N9 T ho hw he λw₁ hR K hK=>hr w₁ K (hK _ _ ?_);have⟨O1,eO,h1,h2,h3,h4,h5⟩:=boxed hF hR cs ty;rw[<-eO];exact h O1 _ _ h1 h2 h3 h4 h5
def JH{e g:Φ}{m h:AU}{b:Nat}{f:Nat->Option AW}(H:Hid (∀W,Keep Low e m W->∀k,W.cell? (AK b k)=f k))(j:D2 Low e g m h)(l:e b):Hid (∀W,Keep Low g h W->∀k,W.cell? (AK b k)=f k):=λ_ n k=>(n.ext.cell (.inl (j.own _ l)) k).tr ((j.cell (.inl l) k).tr (H _ (Keep.refl _ _ _) k))
end
structure FQ(b:Nat)(w w':AU):Prop where
 rest:∀x,x≠b->w'.heap[x]?=w.heap[x]?
 size:w'.heap.size=w.heap.size
 tape:w'.tape=w.tape
 os:w'.os=w.os
 out:w'.output=w.output
def FQ.refl(b:Nat)(w:AU):FQ b w w:=⟨λ_ _=>rfl,rfl,rfl,rfl,rfl⟩
def FQ.set{b:Nat}{w w':AU}(h:FQ b w w')(o:Nat)(v:AW):FQ b w (w'.setCell (AK b o) v):=by
 refine⟨λx f=>?_,?_,h.tape,h.os,h.out⟩
 .rw[<-h.rest x f];simp only[World.setCell];rw[JP];have:¬b=x:=λe=>f e.symm;simp[this]
 rw[<-h.size];simp[World.setCell]
section
variable {τ : Type}{P : AY}{main : Bool}{Low : Nat}{pre : τ -> AU -> Prop}{ok : τ -> (Nat -> Prop) -> AU -> AX -> Prop}{fn : FuncId}{Q : Xo τ}{a : Act}{x : τ}{O : Nat -> Prop}{w : AU}
variable {ops : Array Oper}{i : Nat}{rest : Γ}{o : Oper}
theorem Yf(T:OkL P main Low pre ok)(b:Nat)(p:O b)(m:ops[i]?=some o)(r:Region.wanted o (yielded ops a.tmps)=true)
  (s:∀w₁,Keep Low O w w₁->∀e∈(execOp a.eval o).events P w₁ #[],EvO Low O e)
  (h:∀w₁,Keep Low O w w₁->∀K:Act->World->Prop,(∀g w',FQ b w₁ w'->Vf ok fn ops rest Q g x O w'->K g w')->uponK o a K ((execOp a.eval o).run P w₁)):Vf ok fn ops (i::rest) Q a x O w:=by
 refine Yg T m r λw₁ j _ K n=>?_;have:=h w₁ j (λg w'=>FQ b w₁ w'/\Vf ok fn ops rest Q g x O w') λg w' f h=>⟨f,h⟩;refine uponK_mono (λg w' h=>?_) this;obtain⟨f,h⟩:=h;have e:grown O w₁ w'=O:=by funext y;apply propext;simp only[grown,f.size];constructor;{rintro(h|h);{exact h};omega};exact .inl
 refine n _ _ ⟨⟨λy _ k=>f.rest y (λe=>k (e ▸ p)),Nat.le_of_eq f.size.symm,f.tape,f.os,f.out,λq l=>?_⟩,?_⟩
 .rw[e];exact .inl (s _ j q (mem_listed l))
 rwa[e]
end
def oC{τ:Type}{ok:τ->(Nat->Prop)->World->Goroutine->Prop}{fn:FuncId}{Q:Xo τ}{a:Act}{x:τ}{O:Φ}{w:AU}{c:Code}{N:Act->τ->(Nat->Prop)->World->Prop}(M:Act->τ->(Nat->Prop)->World->Prop)
  (h:WpK ok fn c (Wu M Q) a x O w) (j:∀g f O' w',M g f O' w'->N g f O' w'):WpK ok fn c (Wu N Q) a x O w:=
 h.mo λe g f O' w' q=>by cases e<;>first|exact j _ _ _ _ q|exact q
def events_store_slice{P:AY}{w:AU}{es:Array Event}{a:Ab}{m:Mode}(p:Δ)(n c:Nat):(store a (AE p n c) m).events P w es=storedEv P w es a (AE p n c) m:=events_store P w es a _ m rfl
section
variable {cs:δ}{ty:AZ}{w₁:AU}
variable {Low b : Nat}{w₀ w w' W : AU}{O O' : Nat -> Prop}
def D2.put(h:D2 Low O O' W w)(f:FQ b w w')(hl:Low<=b)(g:∀x,O x->x≠b):D2 Low O O' W w':=
 ⟨h.own,λx e=>(f.rest x BS).tr (h.still x e),λx e=>(f.rest x (g x e)).tr (h.mine x e),DU h.size (Nat.le_of_eq f.size.symm)⟩
def Held.put(h:Held Low w₀ O w)(e:FQ b w w')(hl:Low<=b):Held Low w₀ O w':=
 ⟨λx f=>(e.rest x BS).tr (h.still x f),by rw[e.size];exact h.low,λx f=>by rw[e.size];exact h.up x f,e.os.tr h.os,e.out.tr h.out⟩
def D2.rely(h:D2 Low O O' w W)(e:Keep Low O' W w₁):D2 Low O O' w w₁:=h.tr e.ext
def MQ(hF:Held Low w₀ O w)(g:Keep Low O w w₁)(cs:δ)(ty:AZ):
  ∃f,f=(λb=>O b\/b=w₁.heap.size)/\D2 Low O f w (w₁.alloc (.cells cs ty))/\Held Low w₀ f (w₁.alloc (.cells cs ty))/\f w₁.heap.size/\Low<=w₁.heap.size/\(∀x,O x->x≠w₁.heap.size)/\
   (w₁.alloc (.cells cs ty)).heap[w₁.heap.size]?=some (.cells cs ty):=by
 have⟨f,e,j,k,m,h,_⟩:=boxed hF g cs ty;refine⟨f,e,j,k,m,h,λx l=>?_,?_⟩
 .have:=(hF.rely g).up x l;omega
 simp only[World.alloc];exact TS
def cell_of_heap{w:AU}{b:Nat}{e:Nat × Nat}(h:w.heap[b]?=some (.cells cs ty e))(k:Nat):w.cell? (AK b k)=cs[k]?:=by simp only[World.cell?,h];rfl
def frozen_of_heap{w:AU}{b:Nat}(h:w.heap[b]?=some (.cells cs ty))(k:Nat):w.frozen? (AK b k)=false:=by simp[World.frozen?,h]
def heap_setCell{w:AU}{b:Nat}{e:Nat × Nat}(h:w.heap[b]?=some (.cells cs ty e))(o:Nat)(v:AW):(w.setCell (AK b o) v).heap[b]?=some (.cells (cs.setIfInBounds o v) ty e):=by simp only[World.setCell];rw[JP,BR rfl,h];rfl
end
variable {G G':Prop}
structure Wr(p:Prop):Prop where
 out:p
theorem kW(k:G')(f:Wr G'->G:=by(intro hZ;(repeat(first|(refine Gv (Bh _ _ _) ?_;simp only[D1,DT,DW,Nat.reduceAdd,EF,List.range,List.range.loop])|(refine Qd (Bh _ _ _) rfl Br ?_ ?_;(focus (intro _;first|(simp[go_sem];done)|(simp[go_sem, *];done)));intro _ K hK;go_simp;refine hK _ ?_;clear hK K;try walk_nrm)|(refine QX (Bh _ _ _) rfl Br ?_ ?_;(focus (intro W1 hR e he;have hy:=_Y _ hR;simp[go_sem, *]at he;(first|(subst he;(first|(refine⟨_,_,rfl,.inl ?_⟩;assumption)|(refine⟨_,_,rfl,.inr ⟨?_,rfl⟩⟩;assumption)|exact⟨_,_,rfl,_B.imp id (λh=>⟨h,rfl⟩)⟩))|(rcases he with rfl|rfl<;>(first|(refine⟨_,_,rfl,.inl ?_⟩;assumption)|(refine⟨_,_,rfl,.inr ⟨?_,rfl⟩⟩;assumption)|exact⟨_,_,rfl,_B.imp id (λh=>⟨h,rfl⟩)⟩))|(rcases he with rfl|rfl|rfl|rfl<;>(first|(refine⟨_,_,rfl,.inl ?_⟩;assumption)|(refine⟨_,_,rfl,.inr ⟨?_,rfl⟩⟩;assumption)|exact⟨_,_,rfl,_B.imp id (λh=>⟨h,rfl⟩)⟩))|(rcases he with rfl|rfl|rfl|rfl|rfl|rfl<;>(first|(refine⟨_,_,rfl,.inl ?_⟩;assumption)|(refine⟨_,_,rfl,.inr ⟨?_,rfl⟩⟩;assumption)|exact⟨_,_,rfl,_B.imp id (λh=>⟨h,rfl⟩)⟩)));done));intro W1 hR K hK;have hy:=_Y _ hR;go_simp;refine hK _ ?_;clear hK K hR hy W1;try walk_nrm)|(refine Xc (Bh _ _ _) rfl ?_ ?_;(focus (rfl;done));try walk_nrm)|(refine cM (z:=.tuple #[]) rfl Br ?_ ?_ ?_;(focus (intro _;simp[execOp,scase,Act.eval];done));(focus (intro _;simp[execOp];done));try walk_nrm)|(refine N3 (Bh _ _ _) (t:=true) ?_ ?_;(focus (simp[Act.eval, *];done));simp only[if_true,reduceIte])|(refine N3 (Bh _ _ _) (t:=false) ?_ ?_;(focus (simp[Act.eval, *];done));simp only[E3,EL,reduceIte])|((first|refine Lm (Bh _ _ _) ?_|refine Tm (Bh _ _ _) ?_|refine Wq (Bh _ _ _) ?_|refine Tj (Bh _ _ _) ?_|refine KJ (Bh _ _ _) ?_|refine Ws (Bh _ _ _) ?_|refine Qu (Bh _ _ _) ?_);try(simp only[Wu,Nr,if_true,EL,reduceIte,Nat.reduceEqDiff]))));exact hZ.out)):G:=f ⟨k⟩
theorem kV(k:G')(f:Wr G'->G:=by(intro hZ;(repeat(first|(refine Gv (Bo _ _ _) ?_;simp only[D1,DT,DW,Nat.reduceAdd,EF,List.range,List.range.loop])|(refine Qd (Bo _ _ _) rfl Br ?_ ?_;(focus (intro _;first|(simp[go_sem];done)|(simp[go_sem, *];done)));intro _ K hK;go_simp;refine hK _ ?_;clear hK K;try walk_nrm)|(refine QX (Bo _ _ _) rfl Br ?_ ?_;(focus (intro W1 hR e he;have hy:=_Y _ hR;simp[go_sem, *]at he;(first|(subst he;(first|(refine⟨_,_,rfl,.inl ?_⟩;assumption)|(refine⟨_,_,rfl,.inr ⟨?_,rfl⟩⟩;assumption)|exact⟨_,_,rfl,_B.imp id (λh=>⟨h,rfl⟩)⟩))|(rcases he with rfl|rfl<;>(first|(refine⟨_,_,rfl,.inl ?_⟩;assumption)|(refine⟨_,_,rfl,.inr ⟨?_,rfl⟩⟩;assumption)|exact⟨_,_,rfl,_B.imp id (λh=>⟨h,rfl⟩)⟩))|(rcases he with rfl|rfl|rfl|rfl<;>(first|(refine⟨_,_,rfl,.inl ?_⟩;assumption)|(refine⟨_,_,rfl,.inr ⟨?_,rfl⟩⟩;assumption)|exact⟨_,_,rfl,_B.imp id (λh=>⟨h,rfl⟩)⟩))|(rcases he with rfl|rfl|rfl|rfl|rfl|rfl<;>(first|(refine⟨_,_,rfl,.inl ?_⟩;assumption)|(refine⟨_,_,rfl,.inr ⟨?_,rfl⟩⟩;assumption)|exact⟨_,_,rfl,_B.imp id (λh=>⟨h,rfl⟩)⟩)));done));intro W1 hR K hK;have hy:=_Y _ hR;go_simp;refine hK _ ?_;clear hK K hR hy W1;try walk_nrm)|(refine Xc (Bo _ _ _) rfl ?_ ?_;(focus (rfl;done));try walk_nrm)|(refine cM (z:=.tuple #[]) rfl Br ?_ ?_ ?_;(focus (intro _;simp[execOp,scase,Act.eval];done));(focus (intro _;simp[execOp];done));try walk_nrm)|(refine N3 (Bo _ _ _) (t:=true) ?_ ?_;(focus (simp[Act.eval, *];done));simp only[if_true,reduceIte])|(refine N3 (Bo _ _ _) (t:=false) ?_ ?_;(focus (simp[Act.eval, *];done));simp only[E3,EL,reduceIte])|((first|refine Lm (Bo _ _ _) ?_|refine Tm (Bo _ _ _) ?_|refine Wq (Bo _ _ _) ?_|refine Tj (Bo _ _ _) ?_|refine KJ (Bo _ _ _) ?_|refine Ws (Bo _ _ _) ?_|refine Qu (Bo _ _ _) ?_);try(simp only[Wu,Nr,if_true,EL,reduceIte,Nat.reduceEqDiff]))));exact hZ.out)):G:=f ⟨k⟩
section
variable {K : AU -> Prop}{b : Nat}{v0 v1 v2 v3 v4 v5 : AW}
def cs2(h:∀W,K W->∀e,W.cell? (AK b e)=(#[v0,v1]:δ)[e]?)(W:AU)(k:K W):W.cell? (AK b 0)=some v0/\W.cell? (AK b 1)=some v1:=⟨h W k 0,h W k 1⟩
def cs3(h:∀W,K W->∀e,W.cell? (AK b e)=(#[v0,v1,v2]:δ)[e]?)(W:AU)(k:K W):W.cell? (AK b 0)=some v0/\W.cell? (AK b 1)=some v1/\W.cell? (AK b 2)=some v2:=⟨h W k 0,h W k 1,h W k 2⟩
def cs4(h:∀W,K W->∀e,W.cell? (AK b e)=(#[v0,v1,v2,v3]:δ)[e]?)(W:AU)(k:K W):W.cell? (AK b 0)=some v0/\W.cell? (AK b 1)=some v1/\W.cell? (AK b 2)=some v2/\W.cell? (AK b 3)=some v3:=⟨h W k 0,h W k 1,h W k 2,h W k 3⟩
def cs6(h:∀W,K W->∀e,W.cell? (AK b e)=(#[v0,v1,v2,v3,v4,v5]:δ)[e]?)(W:AU)(k:K W):W.cell? (AK b 0)=some v0/\W.cell? (AK b 1)=some v1/\W.cell? (AK b 2)=some v2/\W.cell? (AK b 3)=some v3/\W.cell? (AK b 4)=some v4/\W.cell? (AK b 5)=some v5:=⟨h W k 0,h W k 1,h W k 2,h W k 3,h W k 4,h W k 5⟩
end
