import Derived.Test.YtfeablpbkcgdjaaGreatDoorBT12
namespace Go.Proofs.YtfeablpbkcgdjaaGreatDoor
open Tryz Go.RowKit Go.Sort Go.BigFrame Go.Shelf
variable {a:Act}{c n p:Nat}
theorem qJ {α:Type}{P:Program}{g:Operand}{ps:Array Tmp}{assign body:Code}{Q:Exit->Act->World->Prop}{w:World}{gf:Nat}{lb:Array Value}
  (hg:a.eval g=.func (.func gf) #[] lb) (eg:∀args w,(callFunc gf args).run P w=.ok (.enter gf args) w) (enc:α->Value) (V:ps.size=1)
  (I:List α->World->Prop) (S:List α->Prop) (M:List α->α->World->World->Prop) (Kp:World->World->Prop)
  (h0:∀W,W.heap.size=w.heap.size+2->Below w.heap.size w W->I [] W)
  (hseq:∀(J:List α->World->Prop) (W:World),W.heap.size=w.heap.size+2->Below w.heap.size w W->J [] W->(∀pre A,J pre A->I pre A)->
   (∀pre x A b,J pre A->A.grownBy b (some W.heap.size)->M pre x A b->YieldAt Fence.wide (n - 1 - 1) P (w.heap.size+1) #[enc x] b λe W'=>e=.returned (.bool true)/\J (pre++[x]) W'/\Kp b W')->
   CallsIn Fence.wide (n - 1) P gf (#[.func (.yield (w.heap.size+1)) #[] #[]]++lb) W λe W'=>(∃v,e=.returned v)/\∃i A,S i/\J i A/\A.grownBy W' (some W.heap.size))
  (iD:∀pre x A b (G:Loop),I pre A->w.heap.size+1<A.heap.size->A.grownBy b (some (w.heap.size+2))->M pre x A b->(∃r,b.heap[w.heap.size+1]?=some (.loop r))->b.heap[w.heap.size]?=some (.deferred (some []))->
   assign.wpIn (Fence.wide.inRound (w.heap.size+1)) (n - 1 - 1) P (Exit.then (λY l=>l.heap[w.heap.size+1]?=b.heap[w.heap.size+1]?/\
    body.wpIn (Fence.wide.inRound (w.heap.size+1)) (n - 1 - 1) P (λe _ W'=>e=.normal/\W'.heap[w.heap.size+1]?=(l.putObj (w.heap.size+1) (.loop G)).heap[w.heap.size+1]?/\W'.heap[w.heap.size]?=some (.deferred (some []))/\∀O,I (pre++[x]) (W'.putObj (w.heap.size+1) (.loop O))/\Kp b (W'.putObj (w.heap.size+1) (.loop O))) Y (l.putObj (w.heap.size+1) (.loop G))) (λ_ _ _=>False))
    {tmps:=(ps.zip #[enc x]).foldl (λt (p,v)=>t.setIfInBounds p v) a.tmps,defers:=[]} b)
  (hdone:∀i A W W',S i->I i A->A.grownBy W (some (w.heap.size+2))->(∃r,W'=W.putObj (w.heap.size+1) (.loop r))->W'.heap[w.heap.size]?=some (.deferred (some []))->Q .normal {a with defers:={target:=.collected w.heap.size,args:=#[]}::a.defers} W'):
  (Code.rangeFunc g ps assign body).wpIn Fence.wide n P Q a w:=by
 refine wpIn_rangeFunc λfn Z=>?_
 obtain⟨R,j⟩:∃R:LoopState->Option Code->Loop,R=λT pe=>{state:=T,pending:=pe,fn:=fn,tmps:=a.tmps,params:=ps,assign:=assign,body:=body,defers:=w.heap.size}:=⟨_,rfl⟩
 obtain⟨d,o⟩:∃d,d=(w.alloc (.deferred (some []))).alloc (.loop (R .ready none)):=⟨_,rfl⟩
 have q:d.heap.size=w.heap.size+2:=by rw[o];simp
 have E:Below w.heap.size w d:=by rw[o];exact(Aa _ _).trans ((Aa _ _).mono AW)
 have ag:d.heap[w.heap.size+1]?=some (.loop (R .ready none)):=by
  have h:=World.alloc_heap_new (w.alloc (.deferred (some []))) (.loop (R .ready none));rw[World.size_alloc] at h;rw[o];exact h
 have ae:d.heap[w.heap.size]?=some (.deferred (some [])):=by
  have h:=(Aa (w.alloc (.deferred (some []))) (.loop (R .ready none))).block w.heap.size AW;rw[o];exact h.trans (World.alloc_heap_new w _)
 refine⟨w.heap.size+1,[{target:=.collected w.heap.size,args:=#[]}],d,{target:=.fn (.func gf) lb,args:=#[.func (.yield (w.heap.size+1)) #[] #[]]},d,gf,#[.func (.yield (w.heap.size+1)) #[] #[]]++lb,d,?_,?_,λ_ _=>trivial,?_,(λh=>by cases h),?_⟩
 .rw[o,j];exact run_enterLoop_outer _ _ _ _ _
 .simp only[resolve,hg]
  simp[go_sem]
 .simp[invoke,go_sem,eg]
 .refine(hseq (λpre W=>I pre W/\W.heap[w.heap.size+1]?=some (.loop (R .ready none))/\W.heap[w.heap.size]?=some (.deferred (some []))) d q E ⟨h0 d q E,ag,ae⟩ (λ_ _ h=>h.1) ?_).mono ?_
  .rintro pre x A b ⟨hi,m,hd⟩ f ac
   rw[q] at f;have s:w.heap.size+1<A.heap.size:=(Array.getElem?_eq_some_iff.1 m).1;have D:b.heap[w.heap.size+1]?=some (.loop (R .ready none)):=(Vg f s AU).trans m;have X:b.heap[w.heap.size]?=some (.deferred (some [])):=(Vg f AU AU).trans hd;have F:=run_yield (P:=P) (args:=#[enc x]) D (by rw[j];exact V.symm);rw[j] at F;refine⟨fn,_,assign,body,F,roundIn_of_wpIn Z ?_⟩;refine wpIn_mono (iD pre x A b {R .ready none with state:=.busy} hi s f ac ⟨_,D⟩ X) ?_;rintro e a2 l k;cases e with
   | normal=>
    obtain⟨z,af⟩:=k;rw[D] at z;have iE:w.heap.size+1<l.heap.size:=(Array.getElem?_eq_some_iff.1 z).1;refine⟨_,run_beginRound z (by rw[j]),wpIn_mono af ?_⟩;rintro e3 a3 N ⟨rfl,ad,aa,H⟩;have K:N.heap[w.heap.size+1]?=some (.loop {R .ready none with state:=.busy}):=ad.trans (World.putObj_heap_same iE);have u:=run_endRound (P:=P) none K;have ab:w.heap.size+1<N.heap.size:=(Array.getElem?_eq_some_iff.1 K).1;refine⟨_,_,u,rfl,⟨(H _).1,?_,?_⟩,(H _).2⟩
    .rw[j];exact World.putObj_heap_same ab
    .exact(World.putObj_heap_other AU).trans aa
   | ret=>exact k.elim
   | exit id=>exact k.elim
   | goto t=>exact k.elim
   | panic ch=>exact k.elim
   | outgrown=>exact k.elim
  .rintro e C ⟨⟨v,rfl⟩,i,A,hS,⟨hi,m,hd⟩,f⟩
   rw[q] at f;have s:w.heap.size+1<A.heap.size:=(Array.getElem?_eq_some_iff.1 m).1;have ah:C.heap[w.heap.size+1]?=some (.loop (R .ready none)):=(Vg f s AU).trans m;have U:C.heap[w.heap.size]?=some (.deferred (some [])):=(Vg f AU AU).trans hd;have u:=run_endLoop (P:=P) ah (by rw[j];simp);rw[j] at u;exact⟨none,_,u,hdone i A C _ hS hi f ⟨_,rfl⟩ ((World.putObj_heap_other AU).trans U)⟩
theorem ol {F:Fence}{ops:Array Oper}{o:Oper}{w:World}{K:Act->World->Prop}{Q:Exit->Act->World->Prop}{E:Prop}{t:TypeId}{v u:Value}{Post:Value->World->Prop}{s x:Operand}(hg:o.guard=none)(e:o.op=.call {callee:=.builtin .append,args:=#[s,x],argTypes:=#[t,t]})
  (hr:∃b d,(Builtin.append_ #[t,t] o.type #[v,u]).run prog w=.ok b d/\Post b d) (g:a.eval s=v) (hx:a.eval x=u) (h:∀b d,Post b d->K (a.put o.dst b) d):
  if Region.wanted o (yielded ops a.tmps)=true then Oper.wpIn F n prog o a w K Q else E:=by
 obtain⟨b,d,hr,f⟩:=hr;rw[if_pos (by simp[Region.wanted,hg])];unfold Oper.wpIn;refine⟨by simp[Oper.about,e,resolve,Target.leads,Sem.run_pure],?_⟩;rw[Oper.semAt_plain F _ _ (by rw[e];intro c i;cases i)];simp[execOp,e,resolve,invoke,builtin,g,hx,hr,Result.andThen];exact h b d f
theorem UA (b:Nat):∀(l:List Value) (w:World) (o:Nat),w.grownBy (EF w b o l) (some b)
 | [],w,_=>World.grownBy.refl w _
 | x::l,w,o=>(Q4 w b o x).trans (UA b l _ (o+1))
theorem jh {w:World}{b o:Nat}(h:b≠c)(x y:Value):(w.setCell ⟨b,o,none⟩ x).setCell ⟨c,p,none⟩ y=(w.setCell ⟨c,p,none⟩ y).setCell ⟨b,o,none⟩ x:=by
 unfold World.setCell;congr 1;apply Array.ext_getElem?;intro i;simp only[Ge];by_cases e:b=i<;>by_cases d:c=i<;>simp[e,d]
 omega
theorem VN {b:Nat}(h:b≠c)(v:Value):∀(l:List Value) (w:World) (o:Nat),EF (w.setCell ⟨c,p,none⟩ v) b o l=(EF w b o l).setCell ⟨c,p,none⟩ v
 | [],_,_=>rfl
 | x::l,w,o=>by rw[EF,EF,jh (Ne.symm h),VN h v l]
structure Rg (w:World)(R B n:Nat)(L:List Stil.B5)(a:Option Addr)(c:Nat)(xs:List Value)(W:World):Prop where
 c0:W.cell? ⟨R,0,none⟩=some (.slice a n c)
 f0:W.frozen? ⟨R,0,none⟩=false
 row:W.ownsRow B 60 6 (.slice a n c) n xs
 len:n=L.length
 bel:Below w.heap.size w W
section
variable {r:Option Nat}
variable {w W W' WB : World}{R B n c : Nat}{bs : List Nat}{L : List Stil.B5}{y : Stil.B5}{a : Option Addr}{xs yc : List Value}
theorem Rj {n:Nat}(h:Below n w W)(hg:W.grownBy W' r)(b:n<=W.heap.size)(hr:∀q,r=some q->n<=q):Below n w W':=
 h.trans ⟨hg.os,hg.tape,hg.output,hg.size,λk d=>hg.block k (B8 d b) λe=>by have:=hr k e.symm;omega⟩
theorem Rg.grown (h:Rg w R B n L a c xs W)(hg:W.grownBy W' r)(d:r≠some R)(hr:∀q,r=some q->w.heap.size<=q/\(Value.slice a n c).ownBlock≠some q):Rg w R B n L a c xs W':=
 have b:=Aq h.c0
 ⟨(Fj hg b d).trans h.c0,(Kr hg b d).trans h.f0,h.row.kept hg (by
  cases f:(Value.slice a n c).ownBlock with
  | none=>exact .inl rfl
  | some q=>exact .inr λe=>(hr q e.symm).2 f),h.len,Rj h.bel hg h.bel.size λq g=>(hr q g).1⟩
theorem yb (S:TypeId)(t:Rg w R B n L a c xs WB)(hS:Sv WB (ob (.slice a n c)++bs) [([J7 y],yc),(Io L,xs)])(hy:yc.length=6)(zf:R∈bs)(ni:R<B)(vk:w.heap.size<=R)(hB:B<=WB.heap.size)(hn:n<=1000):
  ∃O d,(Builtin.append_ #[23,23] S #[.slice a n c, .slice (some ⟨WB.heap.size,0,none⟩) 1 1]).run prog ((WB.alloc (.cells #[.int .i64 0, .int .i64 0, .slice none 0 0, .slice none 0 0, .slice none 0 0, .slice none 0 0] 60)).drew)=.ok O d/\∃g s,O=.slice (some ⟨g,0,none⟩) (n+1) s/\g≠R/\(d.cell? ⟨R,0,none⟩=some (.slice a n c)/\d.frozen? ⟨R,0,none⟩=false)/\(∀j u,(#[.int .i64 0, .int .i64 0, .slice none 0 0, .slice none 0 0, .slice none 0 0, .slice none 0 0]:Array Value).toList[j]?=some u->d.cell? ⟨g,n*6+j,none⟩=some u/\d.frozen? ⟨g,n*6+j,none⟩=false)/\
   ∀z,(z=(EF d g (n*6) yc).setCell ⟨R,0,none⟩ (.slice (some ⟨g,0,none⟩) (n+1) s)\/z=EF (d.setCell ⟨R,0,none⟩ (.slice (some ⟨g,0,none⟩) (n+1) s)) g (n*6) yc)->
    Rg w R B (n+1) (L++[y]) (some ⟨g,0,none⟩) s (xs++yc) z/\Sv z (ob (.slice (some ⟨g,0,none⟩) (n+1) s)++bs) [(Io (L++[y]),xs++yc)]/\(∀k,k<B->k≠R->z.heap[k]?=WB.heap[k]?)/\Below R WB z:=by
 have P:=t.len;have N:=λq v=>(t.row.lt q v).1
 have G:=Aq t.c0;obtain⟨O,d,X,a6,s,rfl,H,U,C,-⟩:=Sv.pushM (w:=WB.drew) (f:=J7) (x:=⟨⟨0,⟨0,[]⟩,[]⟩,[],[]⟩) (L:=L) (xs:=xs) (c:=(#[.int .i64 0, .int .i64 0, .slice none 0 0, .slice none 0 0, .slice none 0 0, .slice none 0 0]:Array Value).toList) (B:=B) S kd6 (hS.drew.snil.mkA (i:=0) (op:=0) (ds:=[]) (ns:=[]) (es:=[]) (ms:=[]) (.head _) (.head _) (.head _) (.head _)) (.tail _ (.tail _ (.tail _ (.head _)))) (.head _) Ya (by rw[<-P];exact t.row) hB AU;have e:(L++[(⟨⟨0,⟨0,[]⟩,[]⟩,[],[]⟩:Stil.B5)]).length=n+1:=by rw[P];simp
 rw[e] at H U;have A:WB.grownBy d (Value.slice a n c).ownBlock:=⟨C.os,C.tape,C.output,C.size,C.block⟩
 have E:(Value.slice a n c).ownBlock≠some R:=λe=>by have:=N _ e;omega
 rcases H.2 with⟨_,h0⟩ | ⟨g,cc,cur,hv,ae,hh,af,_⟩
 .omega
 cases hv;refine⟨_,d,by rw[e] at X;exact X,g,s,rfl,AU,⟨(Fj A G E).trans t.c0,(Kr A G E).trans t.f0⟩,λj u Y=>⟨?_,by simp[World.frozen?,hh]⟩,λz ab=>?_⟩
 .have hx:=t.row.1
  have ac:j<6:=(List.getElem?_eq_some_iff.1 Y).1;rw[H.cellAt _ AU,KA AU,hx,Nat.add_sub_cancel_left];exact Y
 .obtain rfl:z=(EF d g (n*6) yc).setCell ⟨R,0,none⟩ (.slice (some ⟨g,0,none⟩) (n+1) s):=ab.elim id λh=>h.trans (VN AU _ _ _ _)
  have D:=UA g yc d (n*6);have V:=Q4 (EF d g (n*6) yc) R 0 (.slice (some ⟨g,0,none⟩) (n+1) s);have K:d.cell? ⟨R,0,none⟩=some (.slice a n c):=(Fj A G E).trans t.c0;have J:(some g:Option Nat)≠some R:=λe=>by injection e with e;omega
  have aa:(EF d g (n*6) yc).cell? ⟨R,0,none⟩=some (.slice a n c):=(Fj D (Aq K) J).trans K;have M:Below R WB d:=Rj (Below.refl _ _) A AU λq v=>by have:=N q v;omega
  have I:Below R WB (EF d g (n*6) yc):=Rj M D (by have:=M.size;omega) λq v=>by cases v;omega
  have T:Below R WB ((EF d g (n*6) yc).setCell ⟨R,0,none⟩ (.slice (some ⟨g,0,none⟩) (n+1) s)):=Rj I V (by have:=I.size;omega) λq v=>by cases v;omega
  have hcut:G2 (xs++(#[.int .i64 0, .int .i64 0, .slice none 0 0, .slice none 0 0, .slice none 0 0, .slice none 0 0]:Array Value).toList) (n*6) yc=xs++yc:=by
   have F:=M3 xs (#[.int .i64 0, .int .i64 0, .slice none 0 0, .slice none 0 0, .slice none 0 0, .slice none 0 0]:Array Value).toList yc 0;rw[GI,t.row.1] at F;rw[F];have Q:=VM yc (#[.int .i64 0, .int .i64 0, .slice none 0 0, .slice none 0 0, .slice none 0 0, .slice none 0 0]:Array Value).toList [] (by rw[hy];rfl);rw[EO,EO] at Q;rw[Q]
  have Z:=OC yc d (n*6) _ H;rw[hcut] at Z;refine⟨⟨Fp aa,Lj.trans ((Kr D (Aq K) J).trans ((Kr A G E).trans t.f0)),D6 Z J,by rw[P];simp,t.bel.trans (T.mono vk)⟩,?_,λk hk ad=>?_,T⟩
  .have F:=((U.grow D (λq v=>by cases v;exact Hi _ (.head _))).set (b:=R) (o:=0) (x:=.slice (some ⟨g,0,none⟩) (n+1) s) (DZ _ zf)).cat (l:=Io L) (xs:=xs) (m:=[J7 y]) (ys:=yc) AW AW
   rw[show Io (L++[y])=Io L++[J7 y] by simp];exact F.sub (λ_ h=>h) BB
  .rw[V.block k (by have:=I.size;omega) (λe=>by injection e with e;omega),D.block k (by have:=M.size;omega) (λe=>by injection e with e;omega)]
   exact A.block k AU λe=>by have:=N k e.symm;omega
end
