import Derived.Test.YthdogflpbpkbeaaGreatDoorGU
set_option linter.defProp false
set_option maxHeartbeats 4000000
set_option maxRecDepth 100000
namespace Go.Proofs.YthdogflpbpkbeaaGreatDoor
open Tryz Stil Go.RowKit Go.Sort Go.BigFrame
section
variable {B C:Nat}{v:AW}{w':AU}
def Gy{W:AU}{ob:Obj}{c p:Nat}(h:c<W.heap.size):(W.alloc ob).cell? (AK c p)=W.cell? (AK c p):=(Aa W ob).cell (p:=(AK c p)) h
open Classical in
theorem y6(ds fs:Ψ)(J D:AW)(w:AU)(Q:Aq w J ds)(S:Aq w D fs)(hl:ds.length<=1048576)(U:fs.length<=1048576):
  Calls prog 127 #[J,D] w λr w'=>r=.returned (.bool (decide (ds=fs)))/\Below w.heap.size w w':=by
 obtain⟨a,cap,rfl,A⟩:=Q;obtain⟨b,X,rfl,s⟩:=S;by_cases t:ds.length=fs.length
 .have M:=BZ A;have T:=BZ s;clear A s;have P:((ds.length:Int) !=(fs.length:Int))=false:=by rw[bne_eq_false_iff_eq];omega
  have Y:ds.length<=fs.length:=BS;have Z:fs.length<=ds.length:=BS;clear t;go_enter func127,ntmps127;go_wp2;go_loopw [13] (λi wr=>∃k:Nat,k<=ds.length/\i=.int .i64 k/\ds.take k=fs.take k/\Below w.heap.size w wr) (λi _=>ds.length - (intOf i).toNat);case atStart=>exact⟨0,BS,rfl,BU,BP _ _⟩
  case round=>
   obtain⟨k,U,rfl,E,c⟩:=hrel;have F:=BZ E;clear E;by_cases H:k<ds.length
   .have G:k<fs.length:=(by omega);obtain⟨b1,o1,rfl,R,l⟩:=M k H;obtain⟨V,o2,rfl,N,m⟩:=T k G;have⟨I,K,L⟩:=l.below c R;have⟨g,j,u⟩:=m.below c N;by_cases hxy:ds[k]=fs[k]
    .have f:Hid (ds.take (k+1)=fs.take (k+1)):=by
      show _=_
      rw[EK H,EK G,F.out,hxy]
     rw[<-hxy]at g j u;obtain⟨x,d⟩:∃x,x=ds[k]:=⟨_,rfl⟩
     rw[<-d]at I K L g j u;clear d hxy l m
     go_wp2
     go_region
     all_goals go_wp2
     exact⟨⟨k+1,BS,by go_num,f.out,c.drew⟩,by simp[intOf];omega⟩
    .have f:Hid (¬ds=fs):=by
      show ¬_
      intro h;subst h;exact hxy rfl
     obtain⟨x,d⟩:∃x,x=ds[k]:=⟨_,rfl⟩
     obtain⟨y,q⟩:∃y,y=fs[k]:=⟨_,rfl⟩
     rw[<-d]at I K L;rw[<-q]at g j u;rw[<-d,<-q]at hxy;have O:(x.kind==y.kind)=false\/(x.kind=y.kind/\(x.n==y.n)=false)\/(x.kind=y.kind/\x.n=y.n/\(x.p==y.p)=false):=by
      simp only[DX];by_cases h1:x.kind=y.kind
      .exact zo0
      .exact .inl h1
     clear d q hxy l m;rcases O with h1|⟨h1,h2⟩|⟨h1,h2,h3⟩
     .go_wp2
      go_region
      all_goals go_wp2
      go_ret;exact⟨Ac (by rw[FW f.out]),c.drew⟩
     .rw[<-h1]at g
      clear h1
      go_wp2
      go_region
      all_goals go_wp2
      go_ret;exact⟨Ac (by rw[FW f.out]),c.drew⟩
     .rw[<-h1]at g
      rw[<-h2]at j;clear h1 h2
      go_wp2
      go_region
      all_goals go_wp2
      go_ret;exact⟨Ac (by rw[FW f.out]),c.drew⟩
   go_wp2;(go_ret;have e:ds=fs:=by have:=F.out;rwa [E0 BS,E0 BS]at this);exact⟨Ac (by rw[FG e]),c⟩
 have P:((ds.length:Int) !=(fs.length:Int))=true:=by rw[bne_iff_ne];omega
 have HN:Hid (¬ds=fs):=by show ¬_;intro h;exact t (by rw[h])
 clear t A s;go_enter func127,ntmps127;go_wp2;go_ret;exact⟨Ac yDe,Bw⟩
open Classical in
theorem ZR(x y:Stil.Elem)(hx:x.fits)(k:y.fits):∀(d c:AW)(w:AU),Aq w d x.args->Aq w c y.args->Calls prog 78 #[.agg #[AB x.op,d],.agg #[AB y.op,c]] w (AN w (.bool (decide (x=y)))):=by
 intro d c w g i;obtain⟨op,a⟩:=x;obtain⟨j,b⟩:=y;simp only at g i;have m:=BZ (λW(l:AO w W)=>y6 a b d c W (g.below l) (i.below l) hx.2.1 k.2.1);obtain⟨q,z,rfl,_⟩:=g;obtain⟨t,A,rfl,_⟩:=i;clear hx k;by_cases f:op=j
 .subst f;have HD:Hid (decide ((⟨op,a⟩:Stil.Elem)=⟨op,b⟩)=decide (a=b)):=by show _=_;simp
  go_enter func78,ntmps78;go_wp2_with(go_at_call 127;refine(m _ BV).mo ?_;rintro e u⟨rfl,o⟩);go_ret;exact⟨Ac (by rw[HD.out]),BV⟩
 have s:(op==j)=false:=by rwa[DX]
 have HD:Hid (¬(⟨op,a⟩:Stil.Elem)=⟨j,b⟩):=by show ¬_;intro h;exact f (Stil.Elem.mk.inj h).1
 clear f;go_enter func78,ntmps78;go_wp2;go_ret;exact⟨Ac DG,BV⟩
def GV(w:AU)(B:Nat)(v:AW):Prop:=w.cell? (AK B 0)=some v/\B<w.heap.size
def GV.below{w:AU}(h:GV w B v)(a:AO w w'):GV w' B v:=⟨(a.cell (p:=(AK B 0)) h.2).tr h.1,DO h.2 a.size⟩
def K0(B:Nat):AW:=.func (.func 77) #[] #[AH B]
def VM(B C:Nat):AW:=.func (.func 80) #[] #[AH B,AH C]
open Classical in
theorem Avw  (es fs:Ω)(r:∀x∈es,∀y∈fs,∀(d c:AW)(w:AU),Aq w d x.args->Aq w c y.args->Calls prog 78 #[.agg #[.int .i64 x.op,d],.agg #[.int .i64 y.op,c]] w λe w'=>e=.returned (.bool (decide (x=y)))/\Below w.heap.size w w')(v u:AW)(w:AU)(U:F9 w v es)(nP:F9 w u fs)(hl:es.length<=1048576)(hm:fs.length<=1048576):
  Calls prog 81 #[v,u,.func (.func 78) #[] #[]] w λe w'=>e=.returned (.bool (decide (es=fs)))/\Below w.heap.size w w':=by
 obtain⟨a,cap,rfl,m⟩:=U;obtain⟨a2,af,rfl,q⟩:=nP;by_cases s:es.length=fs.length
 .have HA:=BZ m;have Y:=BZ q;have S:=BZ r;clear m q r;have aa:((es.length:Int) !=(fs.length:Int))=false:=by rw[bne_eq_false_iff_eq];omega
  have ag:es.length<=fs.length:=BS;have ai:fs.length<=es.length:=BS;clear s;go_enter func81,ntmps81;go_wp2;go_loopw [17] (λi wr=>∃k:Nat,k<=es.length/\i=.int .i64 k/\es.take k=fs.take k/\Below w.heap.size w wr) (λi _=>es.length - (intOf i).toNat);case atStart=>exact⟨0,BS,rfl,BU,BP _ _⟩
  case round=>obtain⟨k,hk,rfl,I,hb⟩:=hrel;have HE:=BZ I;clear I;by_cases z:k<es.length;{have t:k<fs.length:=(by omega);obtain⟨b,o,rfl,E,G⟩:=HA k z;have F:=(G.below hb E);obtain⟨Z,o2,rfl,K,Q⟩:=Y k t;have J:=(Q.below hb K);have⟨X,d,x1,H⟩:=id F;have⟨M,c,R,L⟩:=id J;obtain⟨j,f⟩:∃j,decide (es[k]=fs[k])=j:=⟨_,rfl⟩;have g:=BZ (λW(P:Below wr.heap.size wr W)=>S es[k] (DY z) fs[k] (DY t) _ _ W (H.below P) (L.below P));have l:Hid (j=true->es.take (k+1)=fs.take (k+1)):=(by show _->_;intro h;rw[h,decide_eq_true_iff]at f;rw[EK z,EK t,HE.out,f]);have A:Hid (j=false->¬es=fs):=(by show _->_;intro h he;rw[h,FU]at f;subst he;exact f rfl);rw[f]at g;obtain⟨x,O⟩:∃x,x=es[k]:=⟨_,rfl⟩;obtain⟨y,N⟩:∃y,y=fs[k]:=⟨_,rfl⟩;rw[<-O]at g X;rw[<-N]at g M;clear O N f G F Q J HE;obtain⟨p0,r0,rfl,_⟩:=H;obtain⟨o9,o8,rfl,_⟩:=L;have ae:=hb.size;have ac:b<wr.heap.size:=DO E hb.size;have D:Z<wr.heap.size:=DO K hb.size;have ad:=λob=>(Gy (ob:=ob) D).trans M;have ah:=λob=>(Gy (ob:=ob) D).trans R;cases j;{have HF2:=BZ (A rfl);clear A l;go_wp2_with(go_at_call 78;refine(g _ BV).mono ?_;rintro e T⟨rfl,V⟩);go_ret;exact⟨Ac yGf,Bf hb BV⟩};have ab:=BZ (l rfl);clear A l;go_wp2_with(go_at_call 78;refine(g _ BV).mono ?_;rintro e T⟨rfl,V⟩);exact⟨⟨k+1,BS,by go_num,ab.out,Bf hb BV⟩,by simp[intOf];omega⟩};exact ze0
 have aa:((es.length:Int) !=(fs.length:Int))=true:=by rw[bne_iff_ne];omega
 have HN:Hid (¬es=fs):=by show ¬_;intro h;exact s (by rw[h])
 clear s m q r;go_enter func81,ntmps81;go_wp2;go_ret;exact⟨Ac yDe,BP _ _⟩
def Axz{w:AU}{u:AW}(h:GV w B v/\GV w C u)(a:AO w w'):GV w' B v/\GV w' C u:=⟨h.1.below a,h.2.below a⟩
def JI(w:AU)(B C:Nat):Prop:=GV w B (K0 B)/\GV w C (VM B C)
def JI.below{w:AU}(h:JI w B C)(a:AO w w'):JI w' B C:=Axz h a
open Classical in
theorem cr(B C:Nat)(es fs:Ek)(H:∀x∈es,∀y∈fs,∀(r f m q d l g j:AW)(w:AU),JI w B C->Aq w r x.N.O.args->Eg w f x.N.K->F9 w m x.C->Dj w q x.K->Aq w d y.N.O.args->Eg w l y.N.K->F9 w g y.C->Dj w j y.K->Calls prog 80 #[.agg #[AB x.N.kind,AB x.N.O.op,r,f,m,q],.agg #[AB y.N.kind,AB y.N.O.op,d,l,g,j],AH B,AH C] w (AN w (.bool (decide (x=y)))))(v u:AW)(w:AU)(ad:Dj w v es)(nP:Dj w u fs)(hl:es.length<=1048576)(hm:fs.length<=1048576)(ac:JI w B C):
  Calls prog 82 #[v,u,.func (.func 80) #[] #[AH B,AH C]] w (AN w (.bool (decide (es=fs)))):=by
 obtain⟨a,cap,rfl,E⟩:=ad;obtain⟨a2,aC,rfl,G⟩:=nP;have ai:=BZ (λW(c:AO w W)=>ac.below c);by_cases I:es.length=fs.length
 .have HA:=BZ E;have HB:=BZ G;have IH:=BZ H;clear E G H;have af:((es.length:Int) !=(fs.length:Int))=false:=xAn;have al:es.length<=fs.length:=BS;have ao:fs.length<=es.length:=BS;clear I;go_enter func82,ntmps82;go_wp2;go_loopw [17] (λi wr=>∃k:Nat,k<=es.length/\i=AB k/\es.take k=fs.take k/\AO w wr) (λi _=>es.length - (intOf i).toNat);case atStart=>exact⟨0,BS,rfl,BU,BP _ _⟩
  case round=>obtain⟨k,hk,rfl,Q,hb⟩:=hrel;have HE:=BZ Q;clear Q;by_cases K:k<es.length;{have J:k<fs.length:=(by omega);obtain⟨b,o,rfl,M,P⟩:=HA k K;have N:=(Pg.below hb _ _ _ P M);obtain⟨b2,o2,rfl,R,ab⟩:=HB k J;have Z:=(Pg.below hb _ _ _ ab R);have⟨ae,m,q,x4,x5,aa,O⟩:=(N).open;have⟨x0,x1,r,f,x2,x3,Y,L⟩:=ae.open;have⟨sU,g,j,y4,y5,V,X⟩:=(Z).open;have⟨S,U,d,l,y2,y3,aK,dS⟩:=sU.open;obtain⟨A,t⟩:∃A,decide (es[k]=fs[k])=A:=⟨_,rfl⟩;have z:=BZ (λW(c:AO wr W)=>IH es[k] (DY K) fs[k] (DY J) _ _ _ _ _ _ _ _ W (ai _ (Bf hb c)) (Y.below c) (L.below c) (aa.below c) (O.below c) (aK.below c) (dS.below c) (V.below c) (X.below c));have D:Hid (A=true->es.take (k+1)=fs.take (k+1)):=(by show _->_;intro h;rw[h,decide_eq_true_iff]at t;rw[EK K,EK J,HE.out,t]);have F:Hid (A=false->¬es=fs):=(by show _->_;intro h he;rw[h,FU]at t;subst he;exact t rfl);rw[t]at z;have⟨x,T⟩:=AA (es[k]);have⟨y,hy⟩:=AA (fs[k]);rw[<-T]at z x0 x1;rw[<-hy]at z S U;clear T hy t P N ab Z HE;obtain⟨p0,r0,rfl,_⟩:=Y;obtain⟨o9,o8,rfl,_⟩:=aK;obtain⟨p1,r1,rfl,_⟩:=L;obtain⟨aE,ar,rfl,_⟩:=dS;obtain⟨p2,r2,rfl,_⟩:=aa;obtain⟨ak,aj,rfl,_⟩:=V;obtain⟨p3,r3,rfl,_⟩:=O;obtain⟨au,ay,rfl,_⟩:=X;have az:=hb.size;have aw:b<wr.heap.size:=DO M hb.size;have s:b2<wr.heap.size:=DO R hb.size;have ax:=λob=>(Gy (ob:=ob) s).tr S;have an:=λob=>(Gy (ob:=ob) s).tr U;have aB:=λob=>(Gy (ob:=ob) s).tr y2;have ap:=λob=>(Gy (ob:=ob) s).tr y3;have aD:=λob=>(Gy (ob:=ob) s).tr y4;have aA:=λob=>(Gy (ob:=ob) s).tr y5;cases A;{have HF2:=BZ (F rfl);clear F D;go_wp2_with(go_at_call 80;refine(z _ BV).mo ?_;rintro e w2⟨rfl,ah⟩);go_ret;exact⟨Ac yGf,Bf hb BV⟩};have ag:=BZ (D rfl);clear F D;go_wp2_with(go_at_call 80;refine(z _ BV).mo ?_;rintro e w2⟨rfl,ah⟩);exact⟨⟨k+1,BS,by go_num,ag.out,Bf hb BV⟩,xAb⟩};exact ze0
 have af:((es.length:Int) !=(fs.length:Int))=true:=by rw[bne_iff_ne];omega
 have HN:Hid (¬es=fs):=by show ¬_;intro h;exact I (by rw[h])
 clear I E G H;go_enter func82,ntmps82;go_wp2;go_ret;exact⟨Ac yDe,BP _ _⟩
open Classical in
theorem ir(B:Nat)(es fs:List Stil.DK)(D:∀x∈es,∀y∈fs,∀(j f c d:Value)(w:World),GV w B (K0 B)->Aq w j x.O.args->Eg w f x.K->Aq w c y.O.args->Eg w d y.K->Calls prog 77 #[.agg #[.int .i64 x.kind,.int .i64 x.O.op,j,f],.agg #[.int .i64 y.kind,.int .i64 y.O.op,c,d],.pointer (some ⟨B,0,none⟩)] w λe w'=>e=.returned (.bool (decide (x=y)))/\Below w.heap.size w w')(v u:Value)(w:World)(Z:Eg w v es)(nP:Eg w u fs)(hl:es.length<=1048576)(hm:fs.length<=1048576)(Y:GV w B (K0 B)):
  Calls prog 79 #[v,u,.func (.func 77) #[] #[.pointer (some ⟨B,0,none⟩)]] w λe w'=>e=.returned (.bool (decide (es=fs)))/\Below w.heap.size w w':=by
 obtain⟨a,cap,rfl,t⟩:=Z;obtain⟨a2,ao,rfl,A⟩:=nP;have ad:Hid (∀W,Below w.heap.size w W->GV W B (K0 B)):=λW g=>Y.below g;by_cases E:es.length=fs.length
 .have HA:Hid (∀i(h:i<es.length),∃b o,a=some ⟨b,o,none⟩/\b<w.heap.size/\Og w b (o+i*4) es[i]):=t;have HB:Hid (∀i(h:i<fs.length),∃b o,a2=some ⟨b,o,none⟩/\b<w.heap.size/\Og w b (o+i*4) fs[i]):=A;have X:Hid (∀x∈es,∀y∈fs,∀(j f c d:Value)(w:World),GV w B (K0 B)->Aq w j x.O.args->Eg w f x.K->Aq w c y.O.args->Eg w d y.K->Calls prog 77 #[.agg #[.int .i64 x.kind,.int .i64 x.O.op,j,f],.agg #[.int .i64 y.kind,.int .i64 y.O.op,c,d],.pointer (some ⟨B,0,none⟩)] w λe w'=>e=.returned (.bool (decide (x=y)))/\Below w.heap.size w w'):=D;clear t A D;have aa:((es.length:Int) !=(fs.length:Int))=false:=by rw[bne_eq_false_iff_eq];omega
  have ae:es.length<=fs.length:=BS;have ag:fs.length<=es.length:=BS;clear E;go_enter func79,ntmps79;go_wp2;go_loopw [17] (λi wr=>∃k:Nat,k<=es.length/\i=.int .i64 k/\es.take k=fs.take k/\Below w.heap.size w wr) (λi _=>es.length - (intOf i).toNat);case atStart=>exact⟨0,BS,rfl,BU,Below.refl _ _⟩
  case round=>obtain⟨k,hk,rfl,L,hb⟩:=hrel;have HE:Hid (es.take k=fs.take k):=L;clear L;by_cases G:k<es.length;{have F:k<fs.length:=(by omega);obtain⟨b,o,rfl,H,K⟩:=HA k G;have I:=(Og.below hb _ _ _ K H);obtain⟨b2,o2,rfl,M,V⟩:=HB k F;have S:=(Og.below hb _ _ _ V M);obtain⟨x0,x1,j,f,x2,x3,R,J⟩:=(I).open;obtain⟨N,P,c,d,y2,y3,T,Q⟩:=(S).open;obtain⟨q,l⟩:∃q,decide (es[k]=fs[k])=q:=⟨_,rfl⟩;have m:Hid (∀W,Below wr.heap.size wr W->Calls prog 77 #[.agg #[.int .i64 es[k].kind,.int .i64 es[k].O.op,j,f],.agg #[.int .i64 fs[k].kind,.int .i64 fs[k].O.op,c,d],.pointer (some ⟨B,0,none⟩)] W λe w'=>e=.returned (.bool (decide (es[k]=fs[k])))/\Below W.heap.size W w'):=λW g=>X es[k] (DY G) fs[k] (DY F) _ _ _ _ W (ad _ (Bf hb g)) (R.below g) (J.below g) (T.below g) (Q.below g);have s:Hid (q=true->es.take (k+1)=fs.take (k+1)):=(by show _->_;intro h;rw[h,decide_eq_true_iff]at l;rw[EK G,EK F,HE.out,l]);have z:Hid (q=false->¬es=fs):=(by show _->_;intro h he;rw[h,FU]at l;subst he;exact l rfl);rw[l]at m;obtain⟨x,O⟩:∃x,x=es[k]:=⟨_,rfl⟩;obtain⟨y,U⟩:∃y,y=fs[k]:=⟨_,rfl⟩;rw[<-O]at m x0 x1;rw[<-U]at m N P;clear O U l K I V S HE;obtain⟨p0,r0,rfl,_⟩:=R;obtain⟨o9,o8,rfl,_⟩:=T;obtain⟨p1,r1,rfl,_⟩:=J;obtain⟨ap,ai,rfl,_⟩:=Q;have al:=hb.size;have aj:b<wr.heap.size:=DO H hb.size;have r:b2<wr.heap.size:=DO M hb.size;have ak:=λob=>(Gy (ob:=ob) r).trans N;have af:=λob=>(Gy (ob:=ob) r).trans P;have an:=λob=>(Gy (ob:=ob) r).trans y2;have ah:=λob=>(Gy (ob:=ob) r).trans y3;cases q;{have HF2:Hid (¬es=fs):=z rfl;clear z s;go_wp2_with(go_at_call 77;refine(m _ BV).mono ?_;rintro e w2⟨rfl,ac⟩);go_ret;exact⟨Ac yGf,Bf hb BV⟩};have ab:Hid (es.take (k+1)=fs.take (k+1)):=s rfl;clear z s;go_wp2_with(go_at_call 77;refine(m _ BV).mono ?_;rintro e w2⟨rfl,ac⟩);exact⟨⟨k+1,BS,by go_num,ab.out,Bf hb BV⟩,by simp[intOf];omega⟩};exact ze0
 have aa:((es.length:Int) !=(fs.length:Int))=true:=by rw[bne_iff_ne];omega
 have HN:Hid (¬es=fs):=by show ¬_;intro h;exact E (by rw[h])
 clear E t A D;go_enter func79,ntmps79;go_wp2;go_ret;exact⟨Ac yDe,Below.refl _ _⟩
open Classical in
theorem Az9(B:Nat)(n:Stil.DK):∀m:Stil.DK,Ci n->Ci m->∀(i d g c:AW)(w:AU),GV w B (K0 B)->Aq w i n.O.args->Eg w d n.K->Aq w g m.O.args->Eg w c m.K->Calls prog 77 #[.agg #[AB n.kind,AB n.O.op,i,d],.agg #[AB m.kind,AB m.O.op,g,c],AH B] w (AN w (.bool (decide (n=m)))):=by
 induction n using Gp with
 |h k e kids J=>
  intro m D N i d g c w l q z s u;obtain⟨t,f,b⟩:=m;have⟨_,F,P,Q⟩:=(G6 _ _ _).1 D;have⟨_,H,G,M⟩:=(G6 _ _ _).1 N;simp only at q z s u;have j:=BZ (λW(a:AO w W)=>ZR e f F H i g W (q.below a) (s.below a));have I:=BZ (λW(a:AO w W)=>ir B kids b (λx K y R=>J x K y (Q x K) (M y R)) d c W (z.below a) (u.below a) P G (l.below a));have S:=BZ (λW(a:AO w W)=>(l.below a).1);obtain⟨U,r0,rfl,_⟩:=q;obtain⟨p1,r1,rfl,_⟩:=z;obtain⟨p2,Z,rfl,_⟩:=s;obtain⟨p3,X,rfl,_⟩:=u;clear J D F P Q N H G M l;by_cases o:k=t;{subst o;cases hd:decide (e=f);{have HD:Hid (¬(⟨k,e,kids⟩:Stil.DK)=⟨k,f,b⟩):=(by show ¬_;rw[FU]at hd;intro h;exact hd (Stil.DK.mk.inj h).2.1);rw[hd]at j;clear hd;go_enter func77,ntmps77;go_wp2_with(go_at_call 78;refine(j _ BV).mo ?_;rintro e L⟨rfl,E⟩);go_ret;exact⟨Ac DG,BV⟩};have HD:Hid (decide ((⟨k,e,kids⟩:Stil.DK)=⟨k,f,b⟩)=decide (kids=b)):=(by show _=_;rw[decide_eq_true_iff]at hd;simp[hd]);rw[hd]at j;clear hd;have⟨O,A⟩:=AA (decide (kids=b));rw[<-A]at I HD;clear A;go_enter func77,ntmps77;go_wp2_with(first|(go_at_call 78;refine(j _ BV).mo ?_;rintro e L⟨rfl,E⟩;have⟨Y,T⟩:=F7 E;have l:=S L BV)|(go_at_call 79;refine(I _ BV).mo ?_;rintro e V⟨rfl,ab⟩));go_ret;exact⟨Ac (by rw[HD.out]),BV⟩};have aa:(k==t)=false:=by rwa[DX]
  have HD:Hid (¬(⟨k,e,kids⟩:Stil.DK)=⟨t,f,b⟩):=by show ¬_;intro h;exact o (Stil.DK.mk.inj h).1
  clear o;go_enter func77,ntmps77;go_wp2;go_ret;exact⟨Ac DG,BV⟩
open Classical in
theorem g8(B C:Nat)(n:Stil.DL):∀m:Stil.DL,Ba n->Ba m->∀(D q z A o u s t:AW)(w:AU),JI w B C->Aq w D n.N.O.args->Eg w q n.N.K->F9 w z n.C->Dj w A n.K->Aq w o m.N.O.args->Eg w u m.N.K->F9 w s m.C->Dj w t m.K->Calls prog 80 #[.agg #[AB n.N.kind,AB n.N.O.op,D,q,z,A],.agg #[AB m.N.kind,AB m.N.O.op,o,u,s,t],AH B,AH C] w (AN w (.bool (decide (n=m)))):=by
 induction n using Fz with
 |h n l kids ih=>
  intro m P Z D q z A o u s t w g K G O H M L I J;obtain⟨d,j,f⟩:=m;have⟨S,U,ad,hl,hk⟩:=(Ep _ _ _).1 P;have⟨R,ac,X,V,Y⟩:=(Ep _ _ _).1 Z;simp only at K G O H M L I J;have i:=BZ (λW(a:AO w W)=>Az9 B n d S R D q o u W (g.1.below a) (K.below a) (G.below a) (M.below a) (L.below a));have F:=BZ (λW(a:AO w W)=>Avw l j (λx E y N=>ZR x y (ad x E) (X y N)) z s W (O.below a) (I.below a) U ac);have Q:=BZ (λW(a:AO w W)=>cr B C kids f (λx E y N=>ih x E y (hk x E) (Y y N)) A t W (H.below a) (J.below a) hl V (g.below a));have iH:=BZ (λW(a:AO w W)=>(g.2.below a).1);have af:w.c (AK B 0)=some (.func (.func 77) #[] #[AH B]):=g.1.1;have ah:=g.1.2;have ai:∀ob T,((w.alloc ob).alloc T).c (AK B 0)=some (.func (.func 77) #[] #[AH B]):=λob T=>(Gy B1).tr ((Gy ah).tr af);obtain⟨p0,r0,rfl,_⟩:=K;obtain⟨p1,r1,rfl,_⟩:=G;obtain⟨p2,r2,rfl,_⟩:=O;obtain⟨p3,r3,rfl,_⟩:=H;obtain⟨p4,r4,rfl,_⟩:=M;obtain⟨p5,r5,rfl,_⟩:=L;obtain⟨p6,r6,rfl,_⟩:=I;obtain⟨p7,r7,rfl,_⟩:=J;clear ih P S U ad hl hk Z R ac X V Y g;cases hd:decide (n=d);{have HD:Hid (¬(⟨n,l,kids⟩:Stil.DL)=⟨d,j,f⟩):=(by show ¬_;rw[FU]at hd;intro h;exact hd (Stil.DL.mk.inj h).1);rw[hd]at i;clear hd;go_enter func80,ntmps80;go_wp2_with(go_at_call 77;refine(i _ BV).mo ?_;rintro e k⟨rfl,b⟩);go_ret;exact⟨Ac DG,BV⟩};rw[decide_eq_true_iff]at hd;cases c:decide (l=j);{have HD:Hid (¬(⟨n,l,kids⟩:Stil.DL)=⟨d,j,f⟩):=(by show ¬_;rw[FU]at c;intro h;exact c (Stil.DL.mk.inj h).2.1);rw[c]at F;rw[FG hd]at i;clear hd c;go_enter func80,ntmps80;go_wp2_with(first|(go_at_call 77;refine(i _ BV).mo ?_;rintro e k⟨rfl,b⟩;have⟨hc,hf⟩:=F7 b;have ae:w.z<k.z:=DO B1 b.size;have ag:w.z+1<k.z:=DO BU b.size)|(go_at_call 81;refine(F _ BV).mo ?_;rintro e w2⟨rfl,ab⟩));go_ret;exact⟨Ac DG,BV⟩};rw[decide_eq_true_iff]at c;have HD:Hid (decide ((⟨n,l,kids⟩:Stil.DL)=⟨d,j,f⟩)=decide (kids=f)):=by show _=_;simp[hd,c]
  rw[FG c]at F;rw[FG hd]at i;clear hd c;have⟨bb,aa⟩:=AA (decide (kids=f));rw[<-aa]at Q HD;clear aa;go_enter func80,ntmps80;go_wp2_with(first|(go_at_call 77;refine(i _ BV).mo ?_;rintro e k⟨rfl,b⟩;have⟨hc,hf⟩:=F7 b;have ae:w.z<k.z:=DO B1 b.size;have ag:w.z+1<k.z:=DO BU b.size)|(go_at_call 81;refine(F _ BV).mo ?_;rintro e w2⟨rfl,ab⟩;have⟨ak,al⟩:=F7 ab;have g:=iH w2 BV)|(go_at_call 82;refine(Q _ BV).mo ?_;rintro e w3⟨rfl,aj⟩));go_ret;exact⟨Ac (by rw[HD.out]),BV⟩
open Classical in
theorem Avj(b lb:Ek)(v u:AW)(w:AU)(g:Dj w v b)(o:Dj w u lb)(l:∀x∈b,Ba x)(k:∀x∈lb,Ba x)(hl:b.length<=1048576)(s:lb.length<=1048576):
  Calls prog 37 #[v,u] w (AN w (.bool (decide (b=lb)))):=by
 have H:∀(c:Fn)(first cap:δ)(w:AU),(Instr.makeFunc c first cap).run prog w=.ok (.func c first cap) w:=λ_ _ _ _=>rfl;have F:∀(c:Fn)(f d:δ)(P:AY)(w:AU)(a:Ab)(m:Mode),(store a (.func c f d) m).run P w=stored P w a (.func c f d) m:=λc f d P w a m=>run_store P w a _ m rfl;have j:=BZ (λW(p:AO w W)B C(t:JI W B C)=>cr B C b lb (λx A y z=>g8 B C x y (l x A) (k y z)) v u W (g.below p) (o.below p) hl s t);obtain⟨E,J,rfl,_⟩:=g;obtain⟨G,K,rfl,_⟩:=o;have⟨q,i⟩:=AA (decide (b=lb));rw[<-i]at j⊢;clear i l k;go_enter func37,ntmps37;go_wp2_with(go_at_call 82;refine(j _ BV w.heap.size (w.heap.size+1) ⟨⟨?b1,?b2⟩,⟨?b3,?b4⟩⟩).mo ?_);case b1=>simp[go_sem,K0]
 case b2=>simp;omega
 case b3=>simp[go_sem,VM]
 case b4=>simp
 rintro e I⟨rfl,D⟩;go_wp2;go_ret;exact⟨rfl,BV⟩
end
def j7(i:Stil.Ar)(k:AW)(w:AU)(o:Aq w k i.O.args)(l:i.fits):
  Calls prog 64 #[.agg #[AB i.code,AB i.O.op,k]] w (AN w (.bool (Jz i))):=by
 obtain⟨c,op,a⟩:=i;simp only at o l⊢;have G:a.length<=1048576:=l.2.2.1;have f:=BZ (λW(u:AO w W)=>Ww op k a W (o.below u) l.2.2.2 BS);have j:=BZ (λW(u:AO w W)=>dx op k a W (o.below u) l.2.2.2 BS);have b:Hid (Jz ⟨c,op,a⟩=if c<1\/11<c then false else if c<=3 then Df op a else if c=10 then Gi op a else(op==0 && a.length==0)):=rfl;obtain⟨H,K,rfl,_⟩:=o;have⟨R,x⟩:=AA (Jz ⟨c,op,a⟩);obtain⟨q1,A⟩:∃q,q=Df op a:=⟨_,rfl⟩;obtain⟨z,D⟩:∃q,q=Gi op a:=⟨_,rfl⟩;have⟨r,y⟩:=AA a.length;rw[<-x]at b⊢;rw[<-A]at b f;rw[<-D]at b j;rw[<-y]at b f j G⊢;clear x A D l y;by_cases s:c<1\/11<c
 .have d:Hid (R=false):=by show _=_;rw[b.out,BR s]
  clear b f j;go_enter func64,ntmps64;go_wp2;all_goals first|(exfalso;omega)|(go_ret;exact⟨Ac d.symm,BV⟩)
 have g:Hid (R=if c<=3 then q1 else if c=10 then z else(op==0 && r==0)):=by show _=_;rw[b.out,BQ s]
 have L:¬c<1:=BS;have I:¬11<c:=BS;clear b s;by_cases t:c<=3
 .have d:Hid (R=q1):=by show _=_;rw[g.out,BR t]
  clear g j;go_enter func64,ntmps64;go_wp2_with(go_at_call 113;refine(f _ BV).mo ?_;rintro e F⟨rfl,E⟩);go_ret;exact⟨Ac d.symm,BV⟩
 by_cases m:c=10
 .have d:Hid (R=z):=by show _=_;rw[g.out,BQ t,BR m]
  subst m;clear g f;go_enter func64,ntmps64;go_wp2_with(go_at_call 112;refine(j _ BV).mo ?_;rintro e F⟨rfl,E⟩);go_ret;exact⟨Ac d.symm,BV⟩
 have d:Hid (R=(op==0 && r==0)):=by show _=_;rw[g.out,BQ t,BQ m]
 have J:(c==10)=false:=xAr;clear g f j m;go_enter func64,ntmps64;go_wp2;all_goals go_ret
 all_goals(refine⟨Ac ?_,BV⟩)
 all_goals(rw[d.out,FB];go_light;simp[*])
def od(c:Int)(w:AU):Calls prog 65 #[AB c] w (AN w (AB (Stil.needs c))):=by
 go_enter func65,ntmps65;go_wp2;all_goals go_ret
 all_goals(refine⟨Fp ?_,BP _ _⟩)
 all_goals go_light
 all_goals(simp only[E4,DX] at*;simp[Stil.needs, *])
def nd1:Stil.needs 1=0:=rfl
def lo1:Stil.low 1=1:=rfl
def nd2:Stil.needs 2=1:=rfl
def lo2:Stil.low 2=1:=rfl
def nd3:Stil.needs 3=1:=rfl
def lo3:Stil.low 3=1:=rfl
def nd4:Stil.needs 4=2:=rfl
def lo4:Stil.low 4=1:=rfl
def nd5:Stil.needs 5=2:=rfl
def lo5:Stil.low 5=2:=rfl
def nd6:Stil.needs 6=1:=rfl
def lo6:Stil.low 6=1:=rfl
def nd7:Stil.needs 7=1:=rfl
def lo7:Stil.low 7=1:=rfl
def nd8:Stil.needs 8=1:=rfl
def lo8:Stil.low 8=1:=rfl
def nd9:Stil.needs 9=1:=rfl
def lo9:Stil.low 9=1:=rfl
def Ba9:Stil.needs 10=1:=rfl
def Bbb:Stil.low 10=1:=rfl
def Ba8:Stil.needs 11=1:=rfl
def Bba:Stil.low 11=1:=rfl
def oV(b f:Int)(d a:Bool)(i:Stil.Ar)(r:Value)(w:World)(z:Aq w r i.O.args)(s:i.fits):
  Calls prog 28 #[.agg #[.int .i64 b,.int .i64 f,.bool d,.bool a],.agg #[.int .i64 i.code,.int .i64 i.O.op,r]] w λe w'=>e=.returned (.int .i64 (Stil.wrong ⟨b,f,d,a⟩ i))/\Below w.heap.size w w':=by
 have q:Hid (∀W,Below w.heap.size w W->Calls prog 64 #[.agg #[.int .i64 i.code,.int .i64 i.O.op,r]] W λe w'=>e=.returned (.bool (Jz i))/\Below W.heap.size W w'):=λW P=>j7 i r W (z.below P) s;obtain⟨V,O,rfl,_⟩:=z;have S:i.O.args.length<=1048576:=s.2.2.1;obtain⟨R,t⟩:∃R,R=Stil.wrong ⟨b,f,d,a⟩ i:=⟨_,rfl⟩;have A:Hid (Stil.wrong ⟨b,f,d,a⟩ i=R):=t.symm;rw[<-t];have l:Hid (Jz i=true->1<=i.code/\i.code<=11):=U5;obtain⟨c,m⟩:∃c,c=i.code:=⟨_,rfl⟩;obtain⟨k,y⟩:∃k,k=Jz i:=⟨_,rfl⟩;obtain⟨op,u⟩:∃op,op=i.O.op:=⟨_,rfl⟩;obtain⟨D,o⟩:∃D,D=i.O.args.length:=⟨_,rfl⟩;have x:Hid (R=if k=false then 2 else if b<Stil.needs c then 3 else if c=1/\b=16 then 4 else if 7<=c/\1<b then 5 else if d=true/\b=Stil.low c/\(c=3\/c=6\/c=5) then 6 else if c=7/\f=8 then 7 else if(c=8\/c=9)/\f=0 then 7 else if c=11/\0<f then 7 else if(c=8\/c=9\/c=11)/\a=false then 8 else 0):=by show _=_;rw[<-A.out,y,m];rfl
 rw[<-m,<-y]at l q;rw[<-u,<-o]at q;rw[<-o]at S;rw[<-m,<-u,<-o];clear t A m y u o s;cases k
 .have Q:Hid (R=2):=by show _=_;rw[x.out,if_pos rfl]
  clear x l;go_enter func28,ntmps28;go_wp2_with(go_at_call 64;refine(q _ BV).mono ?_;rintro e j⟨rfl,g⟩);all_goals go_ret
  all_goals exact⟨Fp Q.symm,BV⟩
 obtain⟨T,J⟩:=l rfl;have L:c=1\/c=2\/c=3\/c=4\/c=5\/c=6\/c=7\/c=8\/c=9\/c=10\/c=11:=BS;clear l T J;rcases L with rfl|rfl|rfl|rfl|rfl|rfl|rfl|rfl|rfl|rfl|rfl;all_goals(rcases d.eq_false_or_eq_true with G|G<;>rcases a.eq_false_or_eq_true with M|M)
 all_goals (
  go_enter func28,ntmps28
  go_wp2_with(go_at_call 64;refine(q _ BV).mono ?_;rintro e j⟨rfl,g⟩;have Z:w.heap.size<j.heap.size:=DO DF g.size;have H:j.cell? ⟨w.heap.size,0,none⟩=some (.int .i64 b):=(by rw[g.cell (p:=⟨w.heap.size,0,none⟩) DF];simp[go_sem]);have E:j.cell? ⟨w.heap.size,1,none⟩=some (.int .i64 f):=(by rw[g.cell (p:=⟨w.heap.size,1,none⟩) DF];simp[go_sem]);have K:j.cell? ⟨w.heap.size,2,none⟩=some (.bool d):=(by rw[g.cell (p:=⟨w.heap.size,2,none⟩) DF];first|(simp[go_sem];done)|(simp[go_sem];assumption));have N:j.cell? ⟨w.heap.size,3,none⟩=some (.bool a):=(by rw[g.cell (p:=⟨w.heap.size,3,none⟩) DF];first|(simp[go_sem];done)|(simp[go_sem];assumption)))
  have O:=cell_regrown H;have r1:=cell_regrown E;have Y:=cell_regrown K;have X:=cell_regrown N;refine wp_region_quiet_below BW BW ?_;repeat(go_big_quiet_step ((exact Calls.regrown_of (od _ _))))
  refine wpQuiet_nil ?_;intro _ I;obtain⟨⟨U,osq⟩,F⟩:=I;subst F
  go_wp2
  all_goals go_ret
  all_goals refine⟨Fp ?_,BV⟩
  all_goals (rw[x.out];go_light;(try simp only[E4,DX,nd1,lo1,nd2,lo2,nd3,lo3,nd4,lo4,nd5,lo5,nd6,lo6,nd7,lo7,nd8,lo8,nd9,lo9,Ba9,Bbb,Ba8,Bba] at*);simp[*];try omega))
def qq(s:Stil.Pt)(c:Int)(w:AU)(g:s.good)(h1:1<=c)(l:c<=11):
  Calls prog 29 #[.agg #[AB s.bits,AB s.forks,.bool s.seen,.bool s.coil],AB c] w (AN w (.agg #[AB (Stil.next s c).bits,AB (Stil.next s c).forks,.bool (Stil.next s c).seen,.bool (Stil.next s c).coil])):=by
 obtain⟨b,f,m,t⟩:=s;obtain⟨j,i,d,a,_⟩:=g;simp only at j i d a⊢;have k:c=1\/c=2\/c=3\/c=4\/c=5\/c=6\/c=7\/c=8\/c=9\/c=10\/c=11:=BS;have o:IntKind.i64.wrap (b+1)=b+1:=xAe;have r:IntKind.i64.wrap (b - 1)=b - 1:=xAe;have u:IntKind.i64.wrap (f+1)=f+1:=xAe;have q:IntKind.i64.wrap (f - 1)=f - 1:=xAe;clear h1 l j i d a;rcases k with rfl|rfl|rfl|rfl|rfl|rfl|rfl|rfl|rfl|rfl|rfl;all_goals cases m
 all_goals (
  go_enter func29,ntmps29
  go_wp2
  refine BH (by simp[results,results29,go_sem];rfl) rfl ⟨?_,BV⟩
  simp[Stil.next,Stil.pt0])
def Xa(l:AP)(v:AW)(w:AU)(au:Eo w v l)(hl:l.length<=1048576)(ae:∀x∈l,x.fits):
  Calls prog 8 #[v] w (AN w (.agg #[AB (Az l).1,AB (Az l).2])):=by
 have HF:=BZ ae;obtain⟨a,cap,rfl,hc⟩:=au;have HC:=BZ hc;have⟨r,S⟩:=AA l.length;have dQ:=BZ S;have T:Hid (Az l=if 1000<r then(1,0) else Gf Stil.pt0 0 l):=by show _=_;rw[S];rfl
 rw[<-S]at hl⊢;have⟨R,hR⟩:=AA (Az l);rw[<-hR]at T⊢;clear hc ae S hR;by_cases h1:1000<r
 .have g:Hid (R=(1,0)):=by show _=_;rw[T.out,BR h1]
  go_enter func8,ntmps8;go_wp2;refine BH (v:=.agg #[AB 1,AB 0]) (by simp[results,results8,go_sem]) rfl ⟨by rw[g.out];rfl,BV⟩
 have g:Hid (R=Gf Stil.pt0 0 l):=by show _=_;rw[T.out,BQ h1]
 clear T;go_enter func8,ntmps8;go_wp2;go_loopw [4] (λi wr=>∃(j:Nat)(s:Stil.Pt),j<=r/\i=AB j/\s.good/\R=Gf s j (l.drop j)/\GY wr (w.heap.size+1) s/\Below (w.heap.size+1) (w.alloc (.cells #[AB 0,AB 0] 30)) wr) (λi _=>r - (intOf i).toNat);case atStart=>refine⟨0,Stil.pt0,BS,rfl,J2,by rw[g.out];rfl,?_,?_⟩;{refine⟨BU,?_,?_,?_,?_,?_,?_,?_,?_⟩;all_goals simp[go_sem,Stil.pt0]};simpa using(show Below (w.alloc (.cells #[AB 0,AB 0] 30)).heap.size _ _ from Aa _ _)
 case round=>
  clear g;obtain⟨j,s,hj,rfl,hg,ai,ay,t⟩:=hrel;have Q:=BZ ai;have HG:=BZ hg;obtain⟨d,A,E,F,H,N,P,J,M⟩:=ay;clear ai hg;have k:w.heap.size<wr.heap.size:=by have:=t.size;simp at this;omega
  have y:wr.c (AL w 0)=some (AB 0):=Bn t;have X:wr.f (AL w 0)=false:=Bt t;have z:wr.c (AL w 1)=some (AB 0):=Bn t;have V:wr.f (AL w 1)=false:=Bt t;have m:AO w wr:=(Aa _ _).tr (t.mo BS);by_cases az:j<r
  .have aa:j<l.length:=(by have:=dQ.out;omega);obtain⟨b,o,rfl,K,hn⟩:=HC j aa;have⟨G,x1,mM,x2,ad⟩:=hn.below m K;have U:=BZ (λW(hW:AO wr W)=>oV s.bits s.forks s.seen s.coil l[j] mM W (ad.below hW) (HF _ (DY aa)));have D:Hid (R=if 0<Stil.wrong s l[j] then(Stil.wrong s l[j],j) else Gf (Stil.next s l[j].code) (j+1) (l.drop (j+1))):=(by show _=_;rw[Q.out,VU l s j aa]);have aj:=Om s l[j];have u:Hid (Stil.wrong s l[j]=0->(Stil.next s l[j].code).good/\1<=l[j].code/\l[j].code<=11):=λh=>⟨Vu HG h,U5 (Iu h).1⟩;have O:Hid (Stil.wrong s l[j]=0->∀W,Calls prog 29 #[.agg #[AB s.bits,AB s.forks,.bool s.seen,.bool s.coil],AB l[j].code] W (AN W (.agg #[AB (Stil.next s l[j].code).bits,AB (Stil.next s l[j].code).forks,.bool (Stil.next s l[j].code).seen,.bool (Stil.next s l[j].code).coil]))):=λh W=>qq s l[j].code W HG (u h).2.1 (u h).2.2;have⟨q,hq⟩:=AA (Stil.wrong s l[j]);have⟨x,hx⟩:=AA (l[j]);rw[<-hq]at U D aj u O;rw[<-hx]at U D u O G x1 ad;obtain⟨t0,u0,rfl,_⟩:=ad;clear hq hx hn Q;have ag:=cell_regrown A;have al:=cell_regrown E;have ak:=cell_regrown F;have ah:=cell_regrown H;have wV:=cell_regrown G;have wU:=cell_regrown x1;have eu:=cell_regrown x2;by_cases ab:0<q;{have g:Hid (R=(q,j)):=(by show _=_;rw[D.out,BR ab]);clear D u O;go_wp2;(refine wp_region_quiet_below BW BW ?_;repeat(go_big_quiet_step ((exact Calls.regrown_of (U _ Bw)))));refine wpQuiet_nil ?_;intro _ ac;obtain⟨⟨I,osq⟩,Y⟩:=ac;subst Y;clear ag al ak ah wV wU eu;have c:=below_regrown wr I osq;have⟨f,L⟩:=AA (grow (redrawn wr I) osq);rw[<-L]at c⊢;clear L;have ar:w.heap.size<f.heap.size:=DO k c.size;have an:w.heap.size+1<f.heap.size:=DO d c.size;have y:=(c.cell (p:=(AL w 0)) k).tr y;have z:=(c.cell (p:=(AL w 1)) k).tr z;have X:=(c.frozen (p:=(AL w 0)) k).tr X;have V:=(c.frozen (p:=(AL w 1)) k).tr V;have A:=(c.cell (p:=(AK (w.heap.size+1) 0)) d).tr A;have E:=(c.cell (p:=(AK (w.heap.size+1) 1)) d).tr E;have F:=(c.cell (p:=(AK (w.heap.size+1) 2)) d).tr F;have H:=(c.cell (p:=(AK (w.heap.size+1) 3)) d).tr H;have N:=(c.frozen (p:=(AK (w.heap.size+1) 0)) d).tr N;have P:=(c.frozen (p:=(AK (w.heap.size+1) 1)) d).tr P;have J:=(c.frozen (p:=(AK (w.heap.size+1) 2)) d).tr J;have M:=(c.frozen (p:=(AK (w.heap.size+1) 3)) d).tr M;have G:=(c.cell (p:=(AK b (o+j*3))) (DO K m.size)).tr G;have aJ:b<f.heap.size:=DO K (DU m.size c.size);have av:AO w f:=m.tr (c.mo m.size);go_wp2;refine BH (v:=.agg #[AB q,AB j]) xBn rfl ⟨by rw[g.out],BV⟩};have Z:q=0:=(by omega);have g:Hid (R=Gf (Stil.next s x.code) (j+1) (l.drop (j+1))):=(by show _=_;rw[D.out,BQ ab]);have aw:Hid (Stil.next s x.code).good:=(u Z).1;have iY:=BZ (O Z);subst Z;clear D u O ab aj;go_wp2;(refine wp_region_quiet_below BW BW ?_;repeat(go_big_quiet_step ((exact Calls.regrown_of (U _ Bw)))));refine wpQuiet_nil ?_;intro _ ac;obtain⟨⟨I,osq⟩,Y⟩:=ac;subst Y;clear ag al ak ah wV wU eu;have c:=below_regrown wr I osq;have⟨f,L⟩:=AA (grow (redrawn wr I) osq);rw[<-L]at c⊢;clear L;have ar:w.heap.size<f.heap.size:=DO k c.size;have an:w.heap.size+1<f.heap.size:=DO d c.size;have y:=(c.cell (p:=(AL w 0)) k).tr y;have z:=(c.cell (p:=(AL w 1)) k).tr z;have X:=(c.frozen (p:=(AL w 0)) k).tr X;have V:=(c.frozen (p:=(AL w 1)) k).tr V;have A:=(c.cell (p:=(AK (w.heap.size+1) 0)) d).tr A;have E:=(c.cell (p:=(AK (w.heap.size+1) 1)) d).tr E;have F:=(c.cell (p:=(AK (w.heap.size+1) 2)) d).tr F;have H:=(c.cell (p:=(AK (w.heap.size+1) 3)) d).tr H;have N:=(c.frozen (p:=(AK (w.heap.size+1) 0)) d).tr N;have P:=(c.frozen (p:=(AK (w.heap.size+1) 1)) d).tr P;have J:=(c.frozen (p:=(AK (w.heap.size+1) 2)) d).tr J;have M:=(c.frozen (p:=(AK (w.heap.size+1) 3)) d).tr M;have G:=(c.cell (p:=(AK b (o+j*3))) (DO K m.size)).tr G;have aJ:b<f.heap.size:=DO K (DU m.size c.size);have av:AO w f:=m.tr (c.mo m.size);go_wp2;go_region_with(go_at_call 29;refine(iY _).mo ?_;rintro e w3⟨rfl,ap⟩;have ax:GY w3 (w.heap.size+1) s:=GY.below ⟨an,A,E,F,H,N,P,J,M⟩ Bw;obtain⟨gq,g0,g1,g2,g3,y0,y1,y2,y3⟩:=ax);all_goals try go_wp2
   all_goals (
    have ao:Below (w.heap.size+1) (w.alloc (.cells #[AB 0,AB 0] 30)) w3:=(t.tr (c.mo BS)).tr ((((BP f.heap.size f).drew).tr ap).mo BS)
    exact⟨⟨j+1,Stil.next s x.code,BS,by go_num,aw.out,g.out,GY.stored ⟨gq,g0,g1,g2,g3,y0,y1,y2,y3⟩ _,(((ao.s (DN _) _).s (DN _) _).s (DN _) _).s (DN _) _⟩,by simp[intOf];omega⟩)
  have g:Hid (R=if 0<s.bits then(9,j) else(0,0)):=by show _=_;rw[Q.out,WN l s j yDf]
  obtain rfl:j=r:=BS;clear Q;by_cases af:0<s.bits;{have uI:Hid (R=(9,j)):=(by show _=_;rw[g.out,BR af]);clear g;go_wp2;refine BH (v:=.agg #[AB 9,AB j]) xBn rfl ⟨by rw[uI.out],BV⟩};have uI:Hid (R=(0,0)):=by show _=_;rw[g.out,BQ af]
  clear g;go_wp2;refine BH (v:=.agg #[AB 0,AB 0]) xBn rfl ⟨by rw[uI.out];rfl,BV⟩
