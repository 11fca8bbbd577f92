import Derived.Test.YtgnkpbhknkinoaaGreatDoorBT12
namespace Go.Proofs.YtgnkpbhknkinoaaGreatDoor
open Tryz Go.RowKit Go.Sort Go.BigFrame Go.Shelf
variable {a:Act}{c n p:Nat}
theorem Atz{α:Type}{P:AY}{g:Operand}{ps:Array Tmp}{assign body:Code}{Q:Exit->Act->World->Prop}{w:AU}{gf:Nat}{lb:Array AW}
  (hg:a.eval g=.func (.func gf) #[] lb) (Z:∀args w,(callFunc gf args).run P w=.ok (.enter gf args) w) (enc:α->Value) (af:ps.size=1)
  (I:List α->World->Prop) (S:List α->Prop) (K:List α->α->World->World->Prop) (Kp:AU->World->Prop)
  (h0:∀W,W.heap.size=w.heap.size+2->AO w W->I [] W)
  (hseq:∀(J:List α->World->Prop) (W:AU),W.heap.size=w.heap.size+2->AO w W->J [] W->(∀pre A,J pre A->I pre A)->
   (∀pre x A b,J pre A->A.grownBy b (some W.heap.size)->K pre x A b->YieldAt Fence.wide (n - 1 - 1) P (w.heap.size+1) #[enc x] b λe W'=>e=.returned (.bool true)/\J (pre++[x]) W'/\Kp b W')->
   CallsIn Fence.wide (n - 1) P gf (#[.func (.yield (w.heap.size+1)) #[] #[]]++lb) W λe W'=>(∃v,e=.returned v)/\∃i A,S i/\J i A/\A.grownBy W' (some W.heap.size))
  (jP:∀pre x A b (N:Loop),I pre A->w.heap.size+1<A.heap.size->A.grownBy b (some (w.heap.size+2))->K pre x A b->(∃r,b.heap[w.heap.size+1]?=some (.loop r))->b.heap[w.heap.size]?=some (.deferred (some []))->
   assign.wpIn (Fence.wide.inRound (w.heap.size+1)) (n - 1 - 1) P (Exit.then (λX l=>l.heap[w.heap.size+1]?=b.heap[w.heap.size+1]?/\
    body.wpIn (Fence.wide.inRound (w.heap.size+1)) (n - 1 - 1) P (λe _ W'=>e=.normal/\W'.heap[w.heap.size+1]?=(l.putObj (w.heap.size+1) (.loop N)).heap[w.heap.size+1]?/\W'.heap[w.heap.size]?=some (.deferred (some []))/\∀O,I (pre++[x]) (W'.putObj (w.heap.size+1) (.loop O))/\Kp b (W'.putObj (w.heap.size+1) (.loop O))) X (l.putObj (w.heap.size+1) (.loop N))) (λ_ _ _=>False))
    {tmps:=(ps.zip #[enc x]).foldl (λt (p,v)=>t.setIfInBounds p v) a.tmps,defers:=[]} b)
  (hdone:∀i A W W',S i->I i A->A.grownBy W (some (w.heap.size+2))->(∃r,W'=W.putObj (w.heap.size+1) (.loop r))->W'.heap[w.heap.size]?=some (.deferred (some []))->Q .normal {a with defers:={target:=.collected w.heap.size,args:=#[]}::a.defers} W'):
  (Code.rangeFunc g ps assign body).wpIn Fence.wide n P Q a w:=by
 refine wpIn_rangeFunc λfn ac=>?_;obtain⟨R,j⟩:∃R:LoopState->Option Code->Loop,R=λst pe=>{state:=st,pending:=pe,fn:=fn,tmps:=a.tmps,params:=ps,assign:=assign,body:=body,defers:=w.heap.size}:=⟨_,rfl⟩;have⟨d,o⟩:=AA ((w.alloc (.deferred (some []))).alloc (.loop (R .ready none)));have s:d.heap.size=w.heap.size+2:=by rw[o];simp
 have E:AO w d:=by rw[o];exact(Aa _ _).trans ((Aa _ _).mono BU)
 have V:d.heap[w.heap.size+1]?=some (.loop (R .ready none)):=by have h:=World.alloc_heap_new (w.alloc (.deferred (some []))) (.loop (R .ready none));rw[BG]at h;rwa[o]
 have Y:d.heap[w.heap.size]?=some (.deferred (some [])):=by have h:=(Aa (w.alloc (.deferred (some []))) (.loop (R .ready none))).block w.heap.size BU;rw[o];exact h.trans (World.alloc_heap_new w _)
 refine⟨w.heap.size+1,[{target:=.collected w.heap.size,args:=#[]}],d,{target:=.fn (.func gf) lb,args:=#[.func (.yield (w.heap.size+1)) #[] #[]]},d,gf,#[.func (.yield (w.heap.size+1)) #[] #[]]++lb,d,?_,?_,λ_ _=>trivial,?_,(λh=>by cases h),?_⟩
 .rw[o,j];exact run_enterLoop_outer _ _ _ _ _
 .simp only[resolve,hg];simp[go_sem]
 .simp[invoke,go_sem,Z]
 refine(hseq (λpre W=>I pre W/\W.heap[w.heap.size+1]?=some (.loop (R .ready none))/\W.heap[w.heap.size]?=some (.deferred (some []))) d s E ⟨h0 d s E,V,Y⟩ (λ_ _ h=>h.1) ?_).mono ?_
 .rintro pre x A b⟨hi,m,hd⟩ f aa;rw[s]at f;have q:w.heap.size+1<A.heap.size:=(BF.1 m).1;have D:b.heap[w.heap.size+1]?=some (.loop (R .ready none)):=(W9 f q BS).trans m;have ag:b.heap[w.heap.size]?=some (.deferred (some [])):=(W9 f BS BS).trans hd;have F:=run_yield (P:=P) (args:=#[enc x]) D (by rw[j];exact af.symm);rw[j]at F;refine⟨fn,_,assign,body,F,roundIn_of_wpIn ac ?_⟩;refine wpIn_mono (jP pre x A b {R .ready none with state:=.busy} hi q f aa ⟨_,D⟩ ag) ?_;rintro e a2 l k;cases e with
  |normal=>obtain⟨z,ae⟩:=k;rw[D]at z;have jQ:w.heap.size+1<l.heap.size:=(BF.1 z).1;refine⟨_,run_beginRound z (by rw[j]),wpIn_mono ae ?_⟩;rintro e3 a3 M⟨rfl,ah,ab,G⟩;have H:M.heap[w.heap.size+1]?=some (.loop {R .ready none with state:=.busy}):=ah.trans (World.putObj_heap_same jQ);have u:=run_endRound (P:=P) none H;have U:w.heap.size+1<M.heap.size:=(BF.1 H).1;refine⟨_,_,u,rfl,⟨(G _).1,?_,?_⟩,(G _).2⟩;{rw[j];exact World.putObj_heap_same U};exact(World.putObj_heap_other BS).trans ab
  |ret=>exact k.elim|exit id=>exact k.elim|goto t=>exact k.elim|panic ch=>exact k.elim|outgrown=>exact k.elim
 rintro e C⟨⟨v,rfl⟩,i,A,hS,⟨hi,m,hd⟩,f⟩;rw[s]at f;have q:w.heap.size+1<A.heap.size:=(BF.1 m).1;have T:C.heap[w.heap.size+1]?=some (.loop (R .ready none)):=(W9 f q BS).trans m;have ad:C.heap[w.heap.size]?=some (.deferred (some [])):=(W9 f BS BS).trans hd;have u:=run_endLoop (P:=P) T (by rw[j];simp);rw[j]at u;exact⟨none,_,u,hdone i A C _ hS hi f ⟨_,rfl⟩ ((World.putObj_heap_other BS).trans ad)⟩
theorem ym{F:Fence}{ops:Array Oper}{o:Oper}{w:AU}{K:Act->World->Prop}{Q:Exit->Act->World->Prop}{E:Prop}{t:AZ}{v u:AW}{Post:AW->World->Prop}{s x:Operand}(hg:o.guard=none)(e:o.op=.call {callee:=.builtin .append,args:=#[s,x],argTypes:=#[t,t]})
  (hr:∃b d,(Builtin.append_ #[t,t] o.type #[v,u]).run prog w=.ok b d/\Post b d) (f:a.eval s=v) (hx:a.eval x=u) (h:∀b d,Post b d->K (a.put o.dst b) d):
  if Region.wanted o (yielded ops a.tmps)=true then Oper.wpIn F n prog o a w K Q else E:=by obtain⟨b,d,hr,g⟩:=hr;rw[BR xBs];unfold Oper.wpIn;refine⟨by simp[Oper.about,e,resolve,Target.leads,Sem.run_pure],?_⟩;rw[Oper.semAt_plain F _ _ (by rw[e];intro c i;cases i)];simp[execOp,e,resolve,invoke,builtin,f,hx,hr,Result.andThen];exact h b d g
theorem XV(b:Nat):∀(l:List AW)(w:AU)(o:Nat),w.grownBy (E3 w b o l) (some b)
 |[],w,_=>World.grownBy.refl w _
 |x::l,w,o=>(I5 w b o x).trans (XV b l _ (o+1))
theorem s9{w:AU}{b o:Nat}(h:b≠c)(x y:AW):(w.setCell (AK b o) x).setCell (AK c p) y=(w.setCell (AK c p) y).setCell (AK b o) x:=by
 unfold World.setCell;congr 1;apply Array.ext_getElem?;intro i;simp only[JK];by_cases d:b=i<;>by_cases e:c=i<;>simp[d,e]
 omega
theorem ZS{b:Nat}(h:b≠c)(v:AW):∀(l:List AW)(w:AU)(o:Nat),E3 (w.setCell (AK c p) v) b o l=(E3 w b o l).setCell (AK c p) v
 |[],_,_=>rfl
 |x::l,w,o=>by rw[E3,E3,s9 (Ne.symm h),ZS h v l]
structure Rg(w:AU)(R B n:Nat)(L:List Stil.DJ)(a:Option Ab)(c:Nat)(xs:List AW)(W:AU):Prop where
 c0:W.cell? (AK R 0)=some (AE a n c)
 f0:W.frozen? (AK R 0)=false
 row:W.ownsRow B 59 6 (AE a n c) n xs
 len:n=L.length
 bel:AO w W
section
variable {r:Option Nat}
variable {w W W' WB : AU}{R B n c : Nat}{bs : List Nat}{L : List Stil.DJ}{y : Stil.DJ}{a : Option Ab}{xs yc : List AW}
theorem Uc{n:Nat}(h:Below n w W)(hg:W.grownBy W' r)(b:n<=W.heap.size)(hr:∀q,r=some q->n<=q):Below n w W':=
 h.tr ⟨hg.os,hg.tape,hg.output,hg.size,λk d=>hg.block k (DL d b) λe=>by have:=hr k e.symm;omega⟩
theorem Rg.grown(h:Rg w R B n L a c xs W)(hg:W.grownBy W' r)(b:r≠some R)(hr:∀q,r=some q->w.heap.size<=q/\(Value.slice a n c).ownBlock≠some q):Rg w R B n L a c xs W':=
 have d:=Ba h.c0
 ⟨(Gm hg d b).tr h.c0,(Nq hg d b).tr h.f0,h.row.kept hg (by
  cases f:(Value.slice a n c).ownBlock with
  |none=>exact .inl rfl
  | some q=>exact .inr λe=>(hr q e.symm).2 f),h.len,Uc h.bel hg h.bel.size λq g=>(hr q g).1⟩
theorem ix(Q:AZ)(t:Rg w R B n L a c xs WB)(hS:Sv WB (ob (AE a n c)++bs) [([J6 y],yc),(Iy L,xs)])(hy:yc.length=6)(aa:R∈bs)(ae:R<B)(ad:w.heap.size<=R)(hB:B<=WB.heap.size)(hn:n<=1000):
  ∃P d,(Builtin.append_ #[25,25] Q #[AE a n c,AE (some (AL WB 0)) 1 1]).run prog ((WB.alloc (.cells #[AB 0,AB 0,AG,AG,AG,AG] 59)).drew)=.ok P d/\∃g s,P=AE (some (AK g 0)) (n+1) s/\g≠R/\(d.cell? (AK R 0)=some (AE a n c)/\d.frozen? (AK R 0)=false)/\(∀j u,(#[AB 0,AB 0,AG,AG,AG,AG]:Array AW).toList[j]?=some u->d.cell? (AK g (n*6+j))=some u/\d.frozen? (AK g (n*6+j))=false)/\
   ∀z,(z=(E3 d g (n*6) yc).setCell (AK R 0) (AE (some (AK g 0)) (n+1) s)\/z=E3 (d.setCell (AK R 0) (AE (some (AK g 0)) (n+1) s)) g (n*6) yc)->
    Rg w R B (n+1) (L++[y]) (some (AK g 0)) s (xs++yc) z/\Sv z (ob (AE (some (AK g 0)) (n+1) s)++bs) [(Iy (L++[y]),xs++yc)]/\(∀k,k<B->k≠R->z.heap[k]?=WB.heap[k]?)/\Below R WB z:=by
 have O:=t.len;have I:=λq v=>(t.row.lt q v).1;have E:=Ba t.c0;obtain⟨P,d,V,a6,s,rfl,G,T,C,-⟩:=Sv.pushM (w:=WB.drew) (f:=J6) (x:=⟨⟨0,⟨0,[]⟩,[]⟩,[],[]⟩) (L:=L) (xs:=xs) (c:=(#[AB 0,AB 0,AG,AG,AG,AG]:Array AW).toList) (B:=B) Q kd6 (hS.drew.snil.mkA (i:=0) (op:=0) (ds:=[]) (ns:=[]) (es:=[]) (ms:=[]) Av Av Av Av) (Ax (Ax (Ax Av))) Av Uj (by rw[<-O];exact t.row) hB BS;have e:(L++[(⟨⟨0,⟨0,[]⟩,[]⟩,[],[]⟩:Stil.DJ)]).length=n+1:=by rw[O];simp
 rw[e]at G T;have A:WB.grownBy d (Value.slice a n c).ownBlock:=⟨C.os,C.tape,C.output,C.size,C.block⟩;have H:(Value.slice a n c).ownBlock≠some R:=λe=>by have:=I _ e;omega
 rcases G.2 with⟨_,h0⟩|⟨g,cc,cur,hv,ah,hh,ag,_⟩
 .omega
 cases hv;refine⟨_,d,by rwa[e]at V,g,s,rfl,BS,⟨(Gm A E H).trans t.c0,(Nq A E H).trans t.f0⟩,λj u U=>⟨?_,by simp[World.frozen?,hh]⟩,λz ac=>?_⟩
 .have hx:=t.row.1;have ai:j<6:=(BO.1 U).1;rwa[G.cellAt _ BS,I0 BS,hx,Nat.add_sub_cancel_left]
 obtain rfl:z=(E3 d g (n*6) yc).setCell (AK R 0) (AE (some (AK g 0)) (n+1) s):=ac.elim id λh=>h.trans (ZS BS _ _ _ _);have D:=XV g yc d (n*6);have S:=I5 (E3 d g (n*6) yc) R 0 (AE (some (AK g 0)) (n+1) s);have K:d.cell? (AK R 0)=some (AE a n c):=(Gm A E H).trans t.c0;have J:(some g:Option Nat)≠some R:=λe=>by injection e with e;omega
 have ab:(E3 d g (n*6) yc).cell? (AK R 0)=some (AE a n c):=(Gm D (Ba K) J).trans K;have M:Below R WB d:=Uc (BP _ _) A BS λq v=>by have:=I q v;omega
 have N:Below R WB (E3 d g (n*6) yc):=Uc M D (by have:=M.size;omega) λq v=>by cases v;omega
 have X:Below R WB ((E3 d g (n*6) yc).setCell (AK R 0) (AE (some (AK g 0)) (n+1) s)):=Uc N S (by have:=N.size;omega) λq v=>by cases v;omega
 have hcut:Y9 (xs++(#[AB 0,AB 0,AG,AG,AG,AG]:Array AW).toList) (n*6) yc=xs++yc:=by have F:=Yu xs (#[AB 0,AB 0,AG,AG,AG,AG]:Array AW).toList yc 0;rw[IL,t.row.1]at F;rw[F];have Y:=QZ yc (#[AB 0,AB 0,AG,AG,AG,AG]:Array AW).toList [] (by rw[hy];rfl);rw[EW,EW]at Y;rw[Y]
 have Z:=N4 yc d (n*6) _ G;rw[hcut]at Z;refine⟨⟨E8 ab,Mc.trans ((Nq D (Ba K) J).trans ((Nq A E H).trans t.f0)),Di Z J,by rw[O];simp,t.bel.trans (X.mono ad)⟩,?_,λk hk af=>?_,X⟩
 .have F:=((T.grow D (λq v=>by cases v;exact J0 _ Av)).set (b:=R) (o:=0) (x:=AE (some (AK g 0)) (n+1) s) (EM _ aa)).cat (l:=Iy L) (xs:=xs) (m:=[J6 y]) (ys:=yc) BU BU;rw[show Iy (L++[y])=Iy L++[J6 y] by simp];exact F.sub (λ_ h=>h) B8
 rw[S.block k (by have:=N.size;omega) (λe=>by injection e with e;omega),D.block k (by have:=M.size;omega) (λe=>by injection e with e;omega)];exact A.block k BS λe=>by have:=I k e.symm;omega
end
