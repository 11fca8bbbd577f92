import Derived.Test.YtbfljjcnbbmoaaaGreatDoorCD8
import Derived.Conc.CompanyMem
import Derived.Conc.TokenWalk
import Derived.Conc.DeferLaws
namespace Go.Co
open Go.Conc
section
variable {P : Program}{Low : Nat}{Stop : Goroutine -> World -> Prop}
theorem Aj6 {O:Nat->Prop}{g:Goroutine}{w:World}(hO:∀b,O b->Low<=b/\b<w.heap.size)(hl:Low<=w.heap.size)(hok:∀g w,Stop g w->OkG g)(h:Rcv P Low Stop ⟨O,[],g,w⟩):Comes P g w Stop:=by
 intro gs sl t ⟨h0,⟨q,hL⟩,B,hP⟩ _;have hlt:=(Array.getElem?_eq_some_iff.1 h0).1;have hI:PhI P Low gs.size t ⟨O,[],g,w⟩ (λk b=>k=0/\O b) ((List.range gs.size).map λi=>.inr (if i=0 then 0 else q i)) gs w t:=by
  refine⟨hlt,spz,by simp[hlt],spz,h.inv.1,Keep.refl _ _ _, .inl h0,λi hi hin=>?_,λj c rem seen hj=>by simp at hj,λb hb=>⟨rfl,hb⟩,λj s hs=>?_,λj c rem seen hj=>by simp at hj,λj k c r s r' s' hj=>by simp at hj,⟨λk l b h1 h2=>h1.1.trans h2.1.symm,λk b h1=>(hO b h1.2).1,λk b h1=>(hO b h1.2).2⟩,hl,Tr.begin hP hL⟩
  ·refine⟨q i,gs[i],?_,Array.getElem?_eq_getElem hin,hL.old i _ hi (Array.getElem?_eq_getElem hin)⟩
   have:i≠0:=omz
   simp[hin,this]
  ·simp at hs
 obtain⟨N,gs',g',w',sl',t',hr,hF,ht,hs⟩:=phase w.tape h _ _ gs w t sl hI rfl;exact⟨N,gs',g',w',sl',t',hr,hF,hok _ _ hs,ht,hs⟩
end
end Go.Co
namespace Go.Co
open Go.Conc
theorem Iq (O:Nat->Prop)(w:World):grown O w w=O:=by
 funext b;apply propext;constructor
 ·rintro(h | ⟨h1,h2⟩)
  ·exact h
  ·omega
 ·exact .inl
structure OkL {τ:Type}(P:Program)(main:Bool)(Low:Nat)(pre:τ->World->Prop)(ok:τ->(Nat->Prop)->World->Goroutine->Prop):Prop where
 rely:∀{x O w w₁ g},ok x O w g->Keep Low O w w₁->ok x O w₁ g
 own:∀{x O w g},g.status=.running->(∀w₁,Keep Low O w w₁->pre x w₁->∃g' w' es,stepG P main g w₁=.go g' w' es/\g'.status=.running/\Anc Low O w₁ w' es/\ok x (grown O w₁ w') w' g')->ok x O w g
theorem Anc.none (Low:Nat)(O:Nat->Prop)(w:World):Anc Low O w w #[]:=⟨λ_ _ _=>rfl,A4d _,rfl,rfl,rfl,spz⟩
section
variable {τ : Type}{P : Program}{main : Bool}{Low : Nat}{pre : τ -> World -> Prop}{ok : τ -> (Nat -> Prop) -> World -> Goroutine -> Prop}
theorem OkL.ctl (T:OkL P main Low pre ok){x:τ}{O:Nat->Prop}{w:World}{g g':Goroutine}(hr:g.status=.running)(hr':g'.status=.running)(hs:∀w₁,stepG P main g w₁=.go g' w₁ #[])(h:ok x O w g'):ok x O w g:=
 T.own hr λw₁ hk _=>⟨g',w₁,#[],hs w₁,hr',Anc.none _ _ _,by rw[Iq];exact T.rely h hk⟩
end
section
variable {τ : Type}(P : Program)(ok : τ -> (Nat -> Prop) -> World -> Goroutine -> Prop)
def Akt (b:Frame)(k:List Item)(cs:List Frame):Exit->Act->τ->(Nat->Prop)->World->Prop
 | .normal,a,x,O,w=>ok x O w (G (b.at a k) cs)
 | .exit id,a,x,O,w=>∃k',exitTo id k=some k'/\ok x O w (G (b.at a k') cs)
 | .ret,a,x,O,w=>∀todo,ok x O w (G {b.at a todo with mode:=.returning} cs)
 | _,_,_,_,_=>False
abbrev Va (τ:Type):=Exit->Act->τ->(Nat->Prop)->World->Prop
def WpK (fn:FuncId)(c:Code)(Q:Va τ)(a:Act)(x:τ)(O:Nat->Prop)(w:World):Prop:=
 ∀(b:Frame) (k:List Item) (cs:List Frame),b.fn=fn->b.kind≠.early->(∀e a' x' O' w',Q e a' x' O' w'->Akt ok b k cs e a' x' O' w')->ok x O w (G (b.at a (.code c::k)) cs)
def Tj (fn:FuncId)(ops:Array Oper)(todo:List Nat)(Q:Va τ)(a:Act)(x:τ)(O:Nat->Prop)(w:World):Prop:=
 ∀(b:Frame) (k:List Item) (cs:List Frame),b.fn=fn->b.kind≠.early->(∀e a' x' O' w',Q e a' x' O' w'->Akt ok b k cs e a' x' O' w')->ok x O w (G (b.at a (.inRegion ops todo::k)) cs)
def Uo (N:Act->τ->(Nat->Prop)->World->Prop)(Q:Va τ):Va τ
 | .normal=>N
 | e=>Q e
def Ko (id:Nat)(Q:Va τ):Va τ
 | .exit id'=>if id'=id then Q .normal else Q (.exit id')
 | e=>Q e
def Akl (fn:Func)(Post:Value->τ->(Nat->Prop)->World->Prop):Va τ
 | .normal,a,x,O,w | .ret,a,x,O,w=>a.defers=[]/\∃v,ResultsC P fn a.tmps v/\Post v x O w
 | _,_,_,_,_=>False
def J6 (f:FuncId)(args:Array Value)(x:τ)(O:Nat->Prop)(w:World)(Post:Value->τ->(Nat->Prop)->World->Prop):Prop:=
 ∃fn c,P.funcs[f]?=some fn/\(fn.name== "runtime.NumGoroutine")=false/\fn.body=some c/\
  WpK ok f c (Akl P fn Post) {tmps:=args++Array.replicate (fn.ntmps - args.size) undef,defers:=[]} x O w
end
section
variable {c d:Code}{f:FuncId}{i id:Nat}{o:Oper}{ops:Array Oper}{rest:List Nat}
variable {τ : Type}{P : Program}{main : Bool}{Low : Nat}{pre : τ -> World -> Prop}{ok : τ -> (Nat -> Prop) -> World -> Goroutine -> Prop}{fn : FuncId}{Q Q' : Va τ}{a : Act}{x : τ}{O : Nat -> Prop}{w w₁ : World}
theorem Akt.push {b:Frame}{y:Item}{k:List Item}{cs:List Frame}{e:Exit}(hx:y.plain=true)(he:e≠.normal)(h:Akt ok b k cs e a x O w):Akt ok b (y::k) cs e a x O w:=by
 cases e with
 | normal=>exact absurd rfl he
 | exit id=>obtain⟨k',hk,hg⟩:=h;exact⟨k',by cases y<;>simp_all[exitTo,Item.plain],hg⟩
 | ret=>exact h
 | goto l=>exact h
 | panic ch=>exact h
 | outgrown=>exact h
theorem WpK.mono (h:WpK ok fn c Q a x O w)(hq:∀e a x O w,Q e a x O w->Q' e a x O w):WpK ok fn c Q' a x O w:=
 λb k cs hb hk hc=>h b k cs hb hk λe a' x' O' w' q=>hc e a' x' O' w' (hq _ _ _ _ _ q)
theorem Tj.rely (T:OkL P main Low pre ok){todo:List Nat}(h:Tj ok fn ops todo Q a x O w)(hr:Keep Low O w w₁):Tj ok fn ops todo Q a x O w₁:=
 λb k cs hb hk hc=>T.rely (h b k cs hb hk hc) hr
theorem Um (T:OkL P main Low pre ok)(h:Q .normal a x O w):WpK ok fn .skip Q a x O w:=λ_b _k _cs _ _ hc=>T.ctl rfl rfl (λ_=>stepG_skip) (hc _ _ _ _ _ h)
theorem Qi (T:OkL P main Low pre ok){l:Nat}(h:Q .normal a x O w):WpK ok fn (.label l) Q a x O w:=λ_b _k _cs _ _ hc=>T.ctl rfl rfl (λ_=>stepG_label) (hc _ _ _ _ _ h)
theorem Yh (T:OkL P main Low pre ok)(h:Q .ret a x O w):WpK ok fn .ret Q a x O w:=λ_b _k _cs _ _ hc=>T.ctl rfl rfl (λ_=>stepG_ret') (hc _ _ _ _ _ h _)
theorem Un (T:OkL P main Low pre ok)(h:Q (.exit id) a x O w):WpK ok fn (.exit id) Q a x O w:=λb k cs _ _ hc=>by
 obtain⟨k',hk',hg⟩:=hc _ _ _ _ _ h;exact T.ctl rfl rfl (λ_=>stepG_exit hk') hg
theorem Jl (T:OkL P main Low pre ok)(h:WpK ok fn c (Uo (λa' x' O' w'=>WpK ok fn d Q a' x' O' w') Q) a x O w):WpK ok fn (.seq c d) Q a x O w:=by
 intro b k cs hb hk hc;refine T.ctl rfl rfl (λ_=>stepG_seq) (h b (.code d::k) cs hb hk λe a' x' O' w' q=>?_);cases e with
 | normal=>exact q b k cs hb hk hc
 | exit id=>exact(hc _ _ _ _ _ q).push rfl spz
 | ret=>exact(hc _ _ _ _ _ q).push (y:=.code d) rfl spz
 | goto l=>exact hc _ _ _ _ _ q
 | panic ch=>exact hc _ _ _ _ _ q
 | outgrown=>exact hc _ _ _ _ _ q
theorem Ab3 (T:OkL P main Low pre ok){c:Operand}{e:Code}{t:Bool}(hc:a.eval c=.bool t)(h:WpK ok fn (if t then d else e) Q a x O w):WpK ok fn (.cond c d e) Q a x O w:=
 λb k cs hb hk hq=>T.ctl rfl rfl (λ_=>stepG_cond hc) (h b k cs hb hk hq)
theorem Qj (T:OkL P main Low pre ok)(h:WpK ok fn c (Ko id Q) a x O w):WpK ok fn (.block id c) Q a x O w:=by
 intro b k cs hb hk hc;refine T.ctl rfl rfl (λ_=>stepG_block) (h b (.inBlock id::k) cs hb hk λe a' x' O' w' q=>?_);cases e with
 | normal=>exact T.ctl rfl rfl (λ_=>stepG_inBlock) (hc _ _ _ _ _ q)
 | exit id'=>
  by_cases hid:id'=id
  ·simp only[Ko,hid,if_true] at q
   exact⟨k,by simp[exitTo,hid],hc _ _ _ _ _ q⟩
  ·simp only[Ko,hid,if_false] at q
   obtain⟨k',hk',hg⟩:=hc _ _ _ _ _ q;have:(id==id')=false:=by simp;exact λh=>hid h.symm
   exact⟨k',by simp[exitTo,this,hk'],hg⟩
 | ret=>exact λtodo=>hc _ _ _ _ _ q todo
 | goto l=>exact hc _ _ _ _ _ q
 | panic ch=>exact hc _ _ _ _ _ q
 | outgrown=>exact hc _ _ _ _ _ q
theorem Xb (T:OkL P main Low pre ok)(I:Nat->Act->τ->(Nat->Prop)->World->Prop)(N:Nat)(h₀:I N a x O w)
  (round:∀n a x O w,I n a x O w->WpK ok fn c (Uo (λa' x' O' w'=>∃m,m<n/\I m a' x' O' w') Q) a x O w):WpK ok fn (.loop c) Q a x O w:=by
 intro b k cs hb hk hc;have key:∀n a x O w,I n a x O w->ok x O w (G (b.at a (.code c::.inLoop c::k)) cs):=by
  intro n;induction n using Nat.strongRecOn with
  | ind n ih=>
   intro a x O w hI;refine round n a x O w hI b (.inLoop c::k) cs hb hk λe a' x' O' w' q=>?_
   cases e with
   | normal=>obtain⟨m,hm,hI'⟩:=q;exact T.ctl rfl rfl (λ_=>stepG_inLoop) (ih m hm _ _ _ _ hI')
   | exit id=>exact(hc _ _ _ _ _ q).push rfl spz
   | ret=>exact(hc _ _ _ _ _ q).push (y:=.inLoop c) rfl spz
   | goto l=>exact hc _ _ _ _ _ q
   | panic ch=>exact hc _ _ _ _ _ q
   | outgrown=>exact hc _ _ _ _ _ q
 exact T.ctl rfl rfl (λ_=>stepG_loop) (key N _ _ _ _ h₀)
theorem Fe (T:OkL P main Low pre ok)(h:Tj ok fn ops (List.range ops.size) Q a x O w):WpK ok fn (.region id ops false) Q a x O w:=
 λb k cs hb hk hc=>T.ctl rfl rfl (λ_=>stepG_region) (h b k cs hb hk hc)
theorem Om (T:OkL P main Low pre ok)(h:Q .normal a x O w):Tj ok fn ops [] Q a x O w:=
 λ_b _k _cs _ _ hc=>T.ctl rfl rfl (λ_=>stepG_region_end) (hc _ _ _ _ _ h)
theorem Uu (T:OkL P main Low pre ok)(ho:ops[i]?=some o)(hw:Region.wanted o (yielded ops a.tmps)=false)(h:Tj ok fn ops rest Q (a.put o.dst undef) x O w):Tj ok fn ops (i::rest) Q a x O w:=
 λb k cs hb hk hc=>T.ctl rfl rfl (λ_=>stepG_unwanted ho hw) (h b k cs hb hk hc)
theorem V7 (T:OkL P main Low pre ok)(ho:ops[i]?=some o)(hw:Region.wanted o (yielded ops a.tmps)=true)
  (h:∀w₁,Keep Low O w w₁->pre x w₁->∀K:Act->World->Prop,(∀a' w',Anc Low O w₁ w' (listed P fn a o w₁)/\Tj ok fn ops rest Q a' x (grown O w₁ w') w'->K a' w')->uponK o a K ((execOp a.eval o).run P w₁)):Tj ok fn ops (i::rest) Q a x O w:=by
 intro b k cs hb hk hc;refine T.own rfl λw₁ h₁ hp=>?_
 have:=h w₁ h₁ hp (λa' w'=>Anc Low O w₁ w' (listed P fn a o w₁)/\Tj ok fn ops rest Q a' x (grown O w₁ w') w') λ_ _ z=>z
 revert this
 cases hr:(execOp a.eval o).run P w₁ with
 | ok y w'=>
  cases y with
  | value v=>rintro⟨d,g⟩;exact⟨_,_,_,stepG_value ho hw hk hr,rfl,by rw[hb];exact d,g b k cs hb hk hc⟩
  | skip=>rintro⟨d,g⟩;exact⟨_,_,_,stepG_none ho hw hk hr,rfl,by rw[hb];exact d,g b k cs hb hk hc⟩
  | _=>exact λz=>z.elim
 | halt _ _=>exact λz=>z.elim
theorem Aup (T:OkL P main Low pre ok){args:Array Operand}{ats:Array TypeId}{Post:Value->τ->(Nat->Prop)->World->Prop}
  (ho:ops[i]?=some o) (hw:Region.wanted o (yielded ops a.tmps)=true) (hop:o.op=.call {callee:=.value (.func f),args,argTypes:=ats})
  (hcall:J6 P ok f (args.map a.eval) x O w Post) (hnext:∀v x' O' w',Post v x' O' w'->Tj ok fn ops rest Q (a.put o.dst v) x' O' w'):Tj ok fn ops (i::rest) Q a x O w:=by
 intro b k cs hb hk hc;obtain⟨F,c,hf,hname,hbody,hwp⟩:=hcall;have hfin:∀v,(b.at a (.inRegion ops (i::rest)::k)).finish v=b.at (a.put o.dst v) (.inRegion ops rest::k):=λv=>by rw[Frame.finish_at,ho];rfl
 have hleave:∀(a':Act) (x':τ) (O':Nat->Prop) (w':World) (todo:List Item),(a'.defers=[]/\∃v,ResultsC P F a'.tmps v/\Post v x' O' w')->
   ok x' O' w' (G {(base f).at a' todo with mode:=.returning} (b.at a (.inRegion ops (i::rest)::k)::cs)):=by
  rintro a' x' O' w' todo ⟨hd,v,hr,hp⟩;refine T.ctl rfl (g':=G (b.at (a.put o.dst v) (.inRegion ops rest::k)) cs) rfl (λw₁=>?_) (hnext v x' O' w' hp b k cs hb hk hc);rw[stepG_leave (b:=base f) rfl hd hf (hr w₁).1 (hr w₁).2,hfin]
 have hbodyG:ok x O w (G ((base f).at {tmps:=args.map a.eval++Array.replicate (F.ntmps - (args.map a.eval).size) undef,defers:=[]} [.code c]) (b.at a (.inRegion ops (i::rest)::k)::cs)):=by
  refine hwp (base f) [] _ rfl (by simp[base]) λe a' x' O' w' q=>?_
  cases e with
  | normal=>exact T.ctl rfl rfl (λ_=>stepG_end) (hleave a' x' O' w' [] q)
  | ret=>exact λtodo=>hleave a' x' O' w' todo q
  | exit id=>exact q.elim
  | goto l=>exact q.elim
  | panic ch=>exact q.elim
  | outgrown=>exact q.elim
 refine T.ctl rfl (g':=G ((base f).at {tmps:=args.map a.eval++Array.replicate (F.ntmps - (args.map a.eval).size) undef,defers:=[]} [.code c]) (b.at a (.inRegion ops (i::rest)::k)::cs)) rfl (λw₁=>?_) hbodyG;obtain⟨g',w',es,he,hk'⟩:=goes_elim (goes_call (P:=P) (main:=main) (w:=w₁) (cs:=cs) (k:=k) (rest:=rest) (K:=λg' w' es=>g'=G ((base f).at {tmps:=args.map a.eval++Array.replicate (F.ntmps - (args.map a.eval).size) undef,defers:=[]} [.code c]) (b.at a (.inRegion ops (i::rest)::k)::cs)/\w'=w₁/\es=#[]) ho hw hk hop hf hname hbody ⟨rfl,rfl,rfl⟩);obtain⟨rfl,rfl,rfl⟩:=hk';exact he
theorem J6.mono {args:Array Value}{Post Post':Value->τ->(Nat->Prop)->World->Prop}(h:J6 P ok f args x O w Post)(hp:∀v x O w,Post v x O w->Post' v x O w):J6 P ok f args x O w Post':=by
 obtain⟨F,c,hf,hn,hb,hw⟩:=h;refine⟨F,c,hf,hn,hb,hw.mono λe a x O w q=>?_⟩;cases e<;>first | exact⟨q.1,q.2.choose,q.2.choose_spec.1,hp _ _ _ _ q.2.choose_spec.2⟩ | exact q
end
end Go.Co
namespace Go.Co
open Go.Conc
section
variable {P : Program}{Low : Nat}
def okS (P:Program)(Low c:Nat):List Value->(Nat->Prop)->World->Goroutine->Prop:=λvs O w g=>Snd P Low ⟨c,O,vs,g,w⟩
theorem Bg (P:Program)(Low c:Nat):OkL P false Low (λ_ w=>Xy c w) (okS P Low c):=by
 refine⟨fun {x O w w₁ g} h hk=>?_,fun {x O w g} hr h=>?_⟩
 ·have hi:=Snd.inv h
  refine Snd.mk ⟨hi.1,?_⟩;rcases hi.2 with h | ⟨v,vs',e,h⟩ | ⟨hv,hm,h⟩
  ·exact .inl λw₂ k o=>h w₂ (hk.trans k) o
  ·exact .inr (.inl ⟨v,vs',e,λw₂ k o=>h w₂ (hk.trans k) o⟩)
  ·exact .inr (.inr ⟨hv,hm,λw₂ s r k o=>h w₂ s r (hk.trans k) o⟩)
 ·exact Snd.mk ⟨hr, .inl λw₁ k o=>h w₁ k o⟩
def okR (P:Program)(Low:Nat)(Stop:Goroutine->World->Prop):List (Nat × List Value × Bool)->(Nat->Prop)->World->Goroutine->Prop:=λL O w g=>Rcv P Low Stop ⟨O,L,g,w⟩
theorem Bl (P:Program)(Low:Nat)(Stop:Goroutine->World->Prop):OkL P true Low (λ_ _=>True) (okR P Low Stop):=by
 refine⟨fun {x O w w₁ g} h hk=>?_,fun {x O w g} hr h=>?_⟩
 ·have hi:=Rcv.inv h
  refine Rcv.mk ⟨hi.1,?_⟩;rcases hi.2 with⟨ha,h⟩ | h | ⟨c,hc,h⟩ | ⟨j,c,vs,z,hL,h⟩
  ·exact .inl ⟨ha,λw₂ k=>h w₂ (hk.trans k)⟩
  ·exact .inr (.inl λw₂ k=>h w₂ (hk.trans k))
  ·exact .inr (.inr (.inl ⟨c,hc,λw₂ k=>h w₂ (hk.trans k)⟩))
  ·exact .inr (.inr (.inr ⟨j,c,vs,z,hL,λw₂ k=>h w₂ (hk.trans k)⟩))
 ·exact Rcv.mk ⟨hr, .inr (.inl λw₁ k=>h w₁ k trivial)⟩
section
variable {F:Func}{args:Array Value}{cd:Code}{f:FuncId}{vs:List Value}{z:Value}
variable {fn : FuncId}{a : Act}{O : Nat -> Prop}{w : World}{c : Nat}{ops : Array Oper}{i : Nat}{rest : List Nat}{o : Oper}
theorem Ai0 {Q:Va (List Value)}{v:Value}(ho:ops[i]?=some o)(hw:Region.wanted o (yielded ops a.tmps)=true)(hr:∀w₁:World,(execOp a.eval o).run P w₁=.ok (.comm #[scase c v z] true .send) w₁)
  (he:∀w₁:World,(execOp a.eval o).events P w₁ #[]=#[]) (h:Tj (okS P Low c) fn ops rest Q (a.put o.dst undef) vs O w):Tj (okS P Low c) fn ops (i::rest) Q a (v::vs) O w:=by
 intro b k cs hb hk hc;refine Snd.mk ⟨rfl, .inr (.inl ⟨v,vs,rfl,λw₁ hkp _=>⟨⟨z,?_⟩,?_⟩⟩)⟩
 ·show stepG P false (G (b.at a (.inRegion ops (i::rest)::k)) cs) w₁=_
  rw[stepG_comm ho hw hk (hr w₁)];unfold listed;rw[he,seen_none]
 ·have hfin:(b.at a (.inRegion ops (i::rest)::k)).finish undef=b.at (a.put o.dst undef) (.inRegion ops rest::k):=by rw[Frame.finish_at,ho];rfl
  have e:Conc.served (G (b.at a (.inRegion ops (i::rest)::k)) cs) undef=G (b.at (a.put o.dst undef) (.inRegion ops rest::k)) cs:=by rw[<-hfin];rfl
  show Snd P Low ⟨c,O,vs,Conc.served (G (b.at a (.inRegion ops (i::rest)::k)) cs) undef,w₁⟩
  rw[e];exact(Bg P Low c).rely (h b k cs hb hk hc) hkp
theorem Aur {b:Frame}{k:List Item}{cs:List Frame}{y:Operand}{ats:Array TypeId}{n:Nat}(ho:ops[i]?=some o)(hw:Region.wanted o (yielded ops a.tmps)=true)(hk:b.kind≠.early)
  (hop:o.op=.call {callee:=.builtin .close,args:=#[y],argTypes:=ats}) (hy:a.eval y=.chan (some c)) (hq:(P.funcs[b.fn]?).any (·.norace)=false) (hm:mayWake P (G (b.at a (.inRegion ops (i::rest)::k)) cs)=true)
  (h:QuitsIn P n (G (b.at (a.put o.dst (.tuple #[])) (.inRegion ops rest::k)) cs)):okS P Low c [] O w (G (b.at a (.inRegion ops (i::rest)::k)) cs):=by
 refine Snd.mk ⟨rfl, .inr (.inr ⟨rfl,hm,λw₁ s r _ hc=>⟨_,n,?_,rfl,h⟩⟩)⟩;exact stepG_close ho hw hk hop hy hc hq
def Az5 (P:Program):Frame:={(default:Frame) with fn:=P.funcs.size,defers:=[],mode:=.panicking [goexitEntry]}
theorem Am1 (hf:P.funcs[f]?=some F)(hname:(F.name== "runtime.NumGoroutine")=false)(hb:F.body=some cd)(w:World):
  stepG P false (born P (dcall f args)) w=.go (G ((baseD f).at {tmps:=args++Array.replicate (F.ntmps - args.size) undef,defers:=[]} [.code cd]) [Az5 P]) w #[]:=by
 have h1:¬F.name= "runtime.NumGoroutine" :=by simpa using hname
 simp[born,dcall,stepG,unwind,callDeferred,invoke,callFunc,hf,h1,hb,seen,GStep.after,G,Frame.enter,Frame.at,baseD,Az5]
theorem Auc {a:Act}{ops:Array Oper}(hf:P.funcs[f]?=some F)(hr:F.results=#[])(hd:a.defers=[]):QuitsIn P 4 (G ((baseD f).at a [.inRegion ops []]) [Az5 P]):=by
 refine .inr ⟨rfl,_,λw=>stepG_region_end,?_⟩;refine .inr ⟨rfl,_,λw=>stepG_end,?_⟩;refine .inr ⟨rfl,G (Az5 P) [],λw=>?_,?_⟩
 ·simp[G,stepG,unwind,doReturn,results,Frame.at,baseD,Az5,hf,hr,hd,seen,GStep.after,goexitEntry]
 refine .inr ⟨rfl,{G (Az5 P) [] with status:=.finished},λw=>?_,rfl⟩;simp[G,stepG,unwind,Az5,goexitEntry,Frame.catches];rfl
theorem Ax1 (hf:P.funcs[f]?=some F)(hname:(F.name== "runtime.NumGoroutine")=false)(hb:F.body=some cd)
  (h:okS P Low c vs O w (G ((baseD f).at {tmps:=args++Array.replicate (F.ntmps - args.size) undef,defers:=[]} [.code cd]) [Az5 P])):okS P Low c vs O w (born P (dcall f args)):=
 (Bg P Low c).ctl rfl rfl (Am1 hf hname hb) h
theorem Ai1 {Stop:Goroutine->World->Prop}{Q:Va (List (Nat × List Value × Bool))}{L:List (Nat × List Value × Bool)}{j:Nat}(ho:ops[i]?=some o)(hw:Region.wanted o (yielded ops a.tmps)=true)
  (hL:L[j]?=some (c,vs,false)) (hr:∀w₁:World,(execOp a.eval o).run P w₁=.ok (.comm #[rcase c z] true (.recv true)) w₁) (he:∀w₁:World,(execOp a.eval o).events P w₁ #[]=#[])
  (h1:∀v vs',vs=v::vs'->Tj (okR P Low Stop) fn ops rest Q (a.put o.dst (.tuple #[v, .bool true])) (L.set j (c,vs',false)) O w)
  (h2:vs=[]->Tj (okR P Low Stop) fn ops rest Q (a.put o.dst (.tuple #[z, .bool false])) (L.set j (c,[],true)) O w):Tj (okR P Low Stop) fn ops (i::rest) Q a L O w:=by
 intro b k cs hb hk hc;have hfin:∀v,(b.at a (.inRegion ops (i::rest)::k)).finish v=b.at (a.put o.dst v) (.inRegion ops rest::k):=λv=>by rw[Frame.finish_at,ho];rfl
 have e:∀v,Conc.served (G (b.at a (.inRegion ops (i::rest)::k)) cs) v=G (b.at (a.put o.dst v) (.inRegion ops rest::k)) cs:=λv=>by rw[<-hfin];rfl
 refine Rcv.mk ⟨rfl, .inr (.inr (.inr ⟨j,c,vs,z,hL,λw₁ hkp=>⟨?_,λv vs' hv=>?_,λhv=>?_⟩⟩))⟩
 ·show stepG P true (G (b.at a (.inRegion ops (i::rest)::k)) cs) w₁=_
  rw[stepG_comm ho hw hk (hr w₁)];unfold listed;rw[he,seen_none]
 ·show Rcv P Low Stop ⟨O,_,Conc.served (G (b.at a (.inRegion ops (i::rest)::k)) cs) (.tuple #[v, .bool true]),w₁⟩
  rw[e];exact(Bl P Low Stop).rely (h1 v vs' hv b k cs hb hk hc) hkp
 ·show Rcv P Low Stop ⟨O,_,Conc.served (G (b.at a (.inRegion ops (i::rest)::k)) cs) (.tuple #[z, .bool false]),w₁⟩
  rw[e];exact(Bl P Low Stop).rely (h2 hv b k cs hb hk hc) hkp
theorem A0s {Stop:Goroutine->World->Prop}{Q:Va (List (Nat × List Value × Bool))}{L:List (Nat × List Value × Bool)}(ho:ops[i]?=some o)(hw:Region.wanted o (yielded ops a.tmps)=true)
  (hr:∀w₁:World,(execOp a.eval o).run P w₁=.ok (.spawn (dcall f args)) w₁) (he:∀w₁:World,(execOp a.eval o).events P w₁ #[]=#[]) (hc:O c) (hoc:Xy c w)
  (hs:okS P Low c vs (λ_=>False) w (born P (dcall f args))) (h:Tj (okR P Low Stop) fn ops rest Q (a.put o.dst undef) (L++[(c,vs,false)]) (λb=>O b/\b≠c) w):Tj (okR P Low Stop) fn ops (i::rest) Q a L O w:=by
 intro b k cs hb hk hcc;refine Rcv.mk ⟨rfl, .inr (.inr (.inl ⟨c,hc,λw₁ hkp=>⟨G (b.at (a.put o.dst undef) (.inRegion ops rest::k)) cs,born P (dcall f args),vs,?_,rfl,rfl,?_,?_,?_⟩⟩))⟩
 ·show stepG P true (G (b.at a (.inRegion ops (i::rest)::k)) cs) w₁=_
  rw[stepG_spawn ho hw hk (hr w₁) rfl];unfold listed;rw[he,seen_none]
 ·obtain⟨s,r,e⟩:=hoc
  exact⟨s,r,(hkp.mine c hc).trans e⟩
 ·exact(Bg P Low c).rely hs (hkp.sub λ_ hx=>hx.elim)
 ·exact(Bl P Low Stop).rely (h b k cs hb hk hcc) (hkp.sub λ_ hx=>hx.1)
theorem Ax2 {Stop:Goroutine->World->Prop}{L:List (Nat × List Value × Bool)}{g:Goroutine}(hr:g.status=.running)(ha:∀e∈L,e.2.2=true)(h:∀w₁,Keep Low O w w₁->Stop g w₁):okR P Low Stop L O w g:=
 Rcv.mk ⟨hr, .inl ⟨ha,h⟩⟩
end
end
end Go.Co
namespace Go.Co
open Go.Conc
section
variable {τ : Type}{P : Program}{main : Bool}{Low : Nat}{pre : τ -> World -> Prop}{ok : τ -> (Nat -> Prop) -> World -> Goroutine -> Prop}{fn : FuncId}{Q : Va τ}{a : Act}{x : τ}{O : Nat -> Prop}{w : World}
variable {ops : Array Oper}{i : Nat}{rest : List Nat}{o : Oper}
theorem Aaq (T:OkL P main Low pre ok)(ho:ops[i]?=some o)(hw:Region.wanted o (yielded ops a.tmps)=true)
  (he:∀w₁,Keep Low O w w₁->∀e∈(execOp a.eval o).events P w₁ #[],EvO Low O e)
  (h:∀w₁,Keep Low O w w₁->∀K:Act->World->Prop,(∀a',Tj ok fn ops rest Q a' x O w->K a' w₁)->uponK o a K ((execOp a.eval o).run P w₁)):Tj ok fn ops (i::rest) Q a x O w:=by
 refine V7 T ho hw λw₁ hk _ K hK=>?_
 have:=h w₁ hk (λa' w'=>w'=w₁/\Tj ok fn ops rest Q a' x O w) λa' h=>⟨rfl,h⟩
 refine uponK_mono (λa' w' h=>?_) this;obtain⟨rfl,h⟩:=h;refine hK _ _ ⟨⟨λ_ _ _=>rfl,A4d _,rfl,rfl,rfl,λe hm=>?_⟩,?_⟩
 ·rw[Iq];exact .inl (he _ hk e (mem_listed hm))
 ·rw[Iq];exact h.rely T hk
theorem Nz (T:OkL P main Low pre ok)(ho:ops[i]?=some o)(hw:Region.wanted o (yielded ops a.tmps)=true)(he:∀w₁:World,(execOp a.eval o).events P w₁ #[]=#[])
  (h:∀(w₁:World) (K:Act->World->Prop),(∀a',Tj ok fn ops rest Q a' x O w->K a' w₁)->uponK o a K ((execOp a.eval o).run P w₁)):Tj ok fn ops (i::rest) Q a x O w:=
 Aaq T ho hw (λw₁ _=>by rw[he];simp) λw₁ _=>h w₁
theorem Kz (T:OkL P main Low pre ok)(ho:ops[i]?=some o)(hw:Region.wanted o (yielded ops a.tmps)=true)(he:∀w₁:World,(execOp a.eval o).events P w₁ #[]=#[])
  (h:∀w₁,Keep Low O w w₁->∀K:Act->World->Prop,(∀a' ob,Tj ok fn ops rest Q a' x (λb=>O b\/b=w₁.heap.size) (w₁.alloc ob)->K a' (w₁.alloc ob))->uponK o a K ((execOp a.eval o).run P w₁)):Tj ok fn ops (i::rest) Q a x O w:=by
 refine V7 T ho hw λw₁ hk _ K hK=>?_
 have:=h w₁ hk (λa' w'=>∃ob,w'=w₁.alloc ob/\Tj ok fn ops rest Q a' x (λb=>O b\/b=w₁.heap.size) w') λa' ob h=>⟨ob,rfl,h⟩
 refine uponK_mono (λa' w' h=>?_) this;obtain⟨ob,rfl,h⟩:=h;refine hK _ _ ⟨⟨λb hb _=>?_,by simp only[World.alloc,Array.size_push];omega,rfl,rfl,rfl,λe hm=>?_⟩,?_⟩
 ·simp only[World.alloc]
  rw[Array.getElem?_push_lt hb,Array.getElem?_eq_getElem hb]
 ·have:=mem_listed hm
  rw[he] at this;simp at this
 ·have e:grown O w₁ (w₁.alloc ob)=λb=>O b\/b=w₁.heap.size:=by
   funext b;apply propext;simp only[grown,World.alloc,Array.size_push];constructor
   ·rintro(h | h)
    ·exact .inl h
    ·exact .inr omz
   ·rintro(h | h)
    ·exact .inl h
    ·exact .inr omz
  rw[e];exact h
end
section
variable {Low : Nat}{w₀ : World}{bs : List (Nat × Obj)}{O : Nat -> Prop}{w w₁ : World}
end
end Go.Co
namespace Go.Co
open Go.Conc
variable {G G':Prop}
structure Wr (p:Prop):Prop where
 out:p
theorem kW (k:G')(f:Wr G'->G:=by(intro hZ;(repeat (first | (refine Fe (Bg _ _ _) ?_;simp only[A4b,A39,A4a,Nat.reduceAdd,A4h,List.range,List.range.loop]) | (refine Nz (Bg _ _ _) rfl rrz ?_ ?_;(focus (intro _;first | (simp[go_sem];done) | (simp[go_sem, *];done)));intro _ K hK;go_simp;refine hK _ ?_;clear hK K;try walk_nrm) | (refine Aaq (Bg _ _ _) rfl rrz ?_ ?_;(focus (intro W1 hR e he;have hy:=_Y _ hR;simp[go_sem, *] at he;(first | (subst he;(first | (refine⟨_,_,rfl, .inl ?_⟩;assumption) | (refine⟨_,_,rfl, .inr ⟨?_,rfl⟩⟩;assumption) | exact⟨_,_,rfl,_B.imp id (λh=>⟨h,rfl⟩)⟩)) | (rcases he with rfl | rfl<;>(first | (refine⟨_,_,rfl, .inl ?_⟩;assumption) | (refine⟨_,_,rfl, .inr ⟨?_,rfl⟩⟩;assumption) | exact⟨_,_,rfl,_B.imp id (λh=>⟨h,rfl⟩)⟩)) | (rcases he with rfl | rfl | rfl | rfl<;>(first | (refine⟨_,_,rfl, .inl ?_⟩;assumption) | (refine⟨_,_,rfl, .inr ⟨?_,rfl⟩⟩;assumption) | exact⟨_,_,rfl,_B.imp id (λh=>⟨h,rfl⟩)⟩)) | (rcases he with rfl | rfl | rfl | rfl | rfl | rfl<;>(first | (refine⟨_,_,rfl, .inl ?_⟩;assumption) | (refine⟨_,_,rfl, .inr ⟨?_,rfl⟩⟩;assumption) | exact⟨_,_,rfl,_B.imp id (λh=>⟨h,rfl⟩)⟩)));done));intro W1 hR K hK;have hy:=_Y _ hR;go_simp;refine hK _ ?_;clear hK K hR hy W1;try walk_nrm) | (refine Uu (Bg _ _ _) rfl ?_ ?_;(focus (rfl;done));try walk_nrm) | (refine Ai0 (z:=.tuple #[]) rfl rrz ?_ ?_ ?_;(focus (intro _;simp[execOp,scase,Act.eval];done));(focus (intro _;simp[execOp];done));try walk_nrm) | (refine Ab3 (Bg _ _ _) (t:=true) ?_ ?_;(focus (simp[Act.eval, *];done));simp only[if_true,reduceIte]) | (refine Ab3 (Bg _ _ _) (t:=false) ?_ ?_;(focus (simp[Act.eval, *];done));simp only[A4e,if_false,reduceIte]) | ((first | refine Jl (Bg _ _ _) ?_ | refine Qj (Bg _ _ _) ?_ | refine Um (Bg _ _ _) ?_ | refine Qi (Bg _ _ _) ?_ | refine Yh (Bg _ _ _) ?_ | refine Un (Bg _ _ _) ?_ | refine Om (Bg _ _ _) ?_);try (simp only[Uo,Ko,if_true,if_false,reduceIte,Nat.reduceEqDiff]))));exact hZ.out)):G:=f ⟨k⟩
theorem kV (k:G')(f:Wr G'->G:=by(intro hZ;(repeat (first | (refine Fe (Bl _ _ _) ?_;simp only[A4b,A39,A4a,Nat.reduceAdd,A4h,List.range,List.range.loop]) | (refine Nz (Bl _ _ _) rfl rrz ?_ ?_;(focus (intro _;first | (simp[go_sem];done) | (simp[go_sem, *];done)));intro _ K hK;go_simp;refine hK _ ?_;clear hK K;try walk_nrm) | (refine Aaq (Bl _ _ _) rfl rrz ?_ ?_;(focus (intro W1 hR e he;have hy:=_Y _ hR;simp[go_sem, *] at he;(first | (subst he;(first | (refine⟨_,_,rfl, .inl ?_⟩;assumption) | (refine⟨_,_,rfl, .inr ⟨?_,rfl⟩⟩;assumption) | exact⟨_,_,rfl,_B.imp id (λh=>⟨h,rfl⟩)⟩)) | (rcases he with rfl | rfl<;>(first | (refine⟨_,_,rfl, .inl ?_⟩;assumption) | (refine⟨_,_,rfl, .inr ⟨?_,rfl⟩⟩;assumption) | exact⟨_,_,rfl,_B.imp id (λh=>⟨h,rfl⟩)⟩)) | (rcases he with rfl | rfl | rfl | rfl<;>(first | (refine⟨_,_,rfl, .inl ?_⟩;assumption) | (refine⟨_,_,rfl, .inr ⟨?_,rfl⟩⟩;assumption) | exact⟨_,_,rfl,_B.imp id (λh=>⟨h,rfl⟩)⟩)) | (rcases he with rfl | rfl | rfl | rfl | rfl | rfl<;>(first | (refine⟨_,_,rfl, .inl ?_⟩;assumption) | (refine⟨_,_,rfl, .inr ⟨?_,rfl⟩⟩;assumption) | exact⟨_,_,rfl,_B.imp id (λh=>⟨h,rfl⟩)⟩)));done));intro W1 hR K hK;have hy:=_Y _ hR;go_simp;refine hK _ ?_;clear hK K hR hy W1;try walk_nrm) | (refine Uu (Bl _ _ _) rfl ?_ ?_;(focus (rfl;done));try walk_nrm) | (refine Ai0 (z:=.tuple #[]) rfl rrz ?_ ?_ ?_;(focus (intro _;simp[execOp,scase,Act.eval];done));(focus (intro _;simp[execOp];done));try walk_nrm) | (refine Ab3 (Bl _ _ _) (t:=true) ?_ ?_;(focus (simp[Act.eval, *];done));simp only[if_true,reduceIte]) | (refine Ab3 (Bl _ _ _) (t:=false) ?_ ?_;(focus (simp[Act.eval, *];done));simp only[A4e,if_false,reduceIte]) | ((first | refine Jl (Bl _ _ _) ?_ | refine Qj (Bl _ _ _) ?_ | refine Um (Bl _ _ _) ?_ | refine Qi (Bl _ _ _) ?_ | refine Yh (Bl _ _ _) ?_ | refine Un (Bl _ _ _) ?_ | refine Om (Bl _ _ _) ?_);try (simp only[Uo,Ko,if_true,if_false,reduceIte,Nat.reduceEqDiff]))));exact hZ.out)):G:=f ⟨k⟩
section
variable {K : World -> Prop}{b : Nat}{v0 v1 v2 v3 v4 v5 : Value}
theorem cs2 (h:∀W,K W->∀ii,W.cell? ⟨b,ii,none⟩=(#[v0,v1]:Array Value)[ii]?)(W:World)(k:K W):W.cell? ⟨b,0,none⟩=some v0/\W.cell? ⟨b,1,none⟩=some v1:=⟨h W k 0,h W k 1⟩
theorem cs3 (h:∀W,K W->∀ii,W.cell? ⟨b,ii,none⟩=(#[v0,v1,v2]:Array Value)[ii]?)(W:World)(k:K W):W.cell? ⟨b,0,none⟩=some v0/\W.cell? ⟨b,1,none⟩=some v1/\W.cell? ⟨b,2,none⟩=some v2:=⟨h W k 0,h W k 1,h W k 2⟩
theorem cs4 (h:∀W,K W->∀ii,W.cell? ⟨b,ii,none⟩=(#[v0,v1,v2,v3]:Array Value)[ii]?)(W:World)(k:K W):W.cell? ⟨b,0,none⟩=some v0/\W.cell? ⟨b,1,none⟩=some v1/\W.cell? ⟨b,2,none⟩=some v2/\W.cell? ⟨b,3,none⟩=some v3:=⟨h W k 0,h W k 1,h W k 2,h W k 3⟩
theorem cs6 (h:∀W,K W->∀ii,W.cell? ⟨b,ii,none⟩=(#[v0,v1,v2,v3,v4,v5]:Array Value)[ii]?)(W:World)(k:K W):W.cell? ⟨b,0,none⟩=some v0/\W.cell? ⟨b,1,none⟩=some v1/\W.cell? ⟨b,2,none⟩=some v2/\W.cell? ⟨b,3,none⟩=some v3/\W.cell? ⟨b,4,none⟩=some v4/\W.cell? ⟨b,5,none⟩=some v5:=⟨h W k 0,h W k 1,h W k 2,h W k 3,h W k 4,h W k 5⟩
end
end Go.Co
