import Derived.Test.YtgnkpbhknkinoaaGreatDoorM51
import Derived.Test.YtgnkpbhknkinoaaGreatDoorGL
import Derived.OpenVars
import Derived.LaidMore
import Derived.Lay
import Derived.Deep.DeepHandedRow
set_option linter.defProp false
set_option maxHeartbeats 4000000
set_option maxRecDepth 100000
namespace Go.Proofs.YtgnkpbhknkinoaaGreatDoor
open Tryz Stil Go.RowKit Go.Sort Go.BigFrame
variable {B C:Nat}{v:AW}{w':AU}
def Gv{W:AU}{ob:Obj}{c p:Nat}(h:c<W.heap.size):(W.alloc ob).cell? (AK c p)=W.cell? (AK c p):=(Aa W ob).cell (p:=(AK c p)) h
open Classical in
theorem vl(ds fs:List Stil.DN)(M I:Value)(w:World)(aa:Ar w M ds)(T:Ar w I fs)(hl:ds.length<=1048576)(X:fs.length<=1048576):
  Calls prog 62 #[M,I] w λr w'=>r=.returned (.bool (decide (ds=fs)))/\Below w.heap.size w w':=by
 obtain⟨a,cap,rfl,E⟩:=aa;obtain⟨b,ad,rfl,t⟩:=T;by_cases G:ds.length=fs.length
 .have Z:Hid (∀i(h:i<ds.length),∃b o,a=some ⟨b,o,none⟩/\b<w.heap.size/\J3 w b (o+i*3) ds[i]):=E;have S:Hid (∀i(h:i<fs.length),∃u o,b=some ⟨u,o,none⟩/\u<w.heap.size/\J3 w u (o+i*3) fs[i]):=t;clear E t;have V:((ds.length:Int) !=(fs.length:Int))=false:=by rw[bne_eq_false_iff_eq];omega
  have ac:ds.length<=fs.length:=BS;have ab:fs.length<=ds.length:=BS;clear G;go_enter func62,ntmps62;go_wp2;go_loopw [13] (λi wr=>∃k:Nat,k<=ds.length/\i=.int .i64 k/\ds.take k=fs.take k/\Below w.heap.size w wr) (λi _=>ds.length - (intOf i).toNat);case atStart=>exact⟨0,BS,rfl,BU,Below.refl _ _⟩
  case round=>
   obtain⟨k,X,rfl,J,d⟩:=hrel;have K:Hid (ds.take k=fs.take k):=J;clear J;by_cases H:k<ds.length
   .have P:k<fs.length:=(by omega);obtain⟨b1,o1,rfl,qo,D⟩:=Z k H;obtain⟨b2,o2,rfl,Y,s⟩:=S k P;obtain⟨Q,L,O⟩:=D.below d qo;obtain⟨l,q,z⟩:=s.below d Y;by_cases g:ds[k]=fs[k]
    .have m:Hid (ds.take (k+1)=fs.take (k+1)):=by
      show _=_
      rw[ER H,ER P,K.out,g]
     rw[<-g]at l q z;obtain⟨x,j⟩:∃x,x=ds[k]:=⟨_,rfl⟩
     rw[<-j]at Q L O l q z;clear j g D s
     go_wp2
     go_region
     all_goals go_wp2
     exact⟨⟨k+1,BS,by go_num,m.out,d.drew⟩,by simp[intOf];omega⟩
    .have m:Hid (¬ds=fs):=by
      show ¬_
      intro h;subst h;exact g rfl
     obtain⟨x,j⟩:∃x,x=ds[k]:=⟨_,rfl⟩
     obtain⟨y,A⟩:∃y,y=fs[k]:=⟨_,rfl⟩
     rw[<-j]at Q L O;rw[<-A]at l q z;rw[<-j,<-A]at g;have R:(x.kind==y.kind)=false\/(x.kind=y.kind/\(x.n==y.n)=false)\/(x.kind=y.kind/\x.n=y.n/\(x.p==y.p)=false):=by
      simp only[DV];by_cases c:x.kind=y.kind
      .by_cases f:x.n=y.n
       .exact .inr (.inr ⟨c,f,λN=>g ((mQ _ _).2 ⟨c,f,N⟩)⟩)
       .exact .inr (.inl ⟨c,f⟩)
      .exact .inl c
     clear j A g D s;rcases R with c|⟨c,f⟩|⟨c,f,N⟩
     .go_wp2
      go_region
      all_goals go_wp2
      go_ret;exact⟨Ad (by rw[FM m.out]),d.drew⟩
     .rw[<-c]at l
      clear c
      go_wp2
      go_region
      all_goals go_wp2
      go_ret;exact⟨Ad (by rw[FM m.out]),d.drew⟩
     .rw[<-c]at l
      rw[<-f]at q;clear c f
      go_wp2
      go_region
      all_goals go_wp2
      go_ret;exact⟨Ad (by rw[FM m.out]),d.drew⟩
   go_wp2;(go_ret;have e:ds=fs:=by have:=K.out;rwa [FB BS,FB BS]at this);exact⟨Ad (by rw[FX e]),d⟩
 have V:((ds.length:Int) !=(fs.length:Int))=true:=by rw[bne_iff_ne];omega
 have U:Hid (¬ds=fs):=by show ¬_;intro h;exact G (by rw[h])
 clear G E t;go_enter func62,ntmps62;go_wp2;go_ret;exact⟨Ad (by rw[FM U.out]),Bt⟩
open Classical in
theorem X2(x y:Stil.Elem)(hx:x.fits)(l:y.fits):∀(c b:AW)(w:AU),Ar w c x.args->Ar w b y.args->Calls prog 28 #[.agg #[AB x.op,c],.agg #[AB y.op,b]] w (AN w (.bool (decide (x=y)))):=by
 intro c b w i j;obtain⟨op,a⟩:=x;obtain⟨g,d⟩:=y;simp only at i j;have o:=BX (λW(m:AO w W)=>vl a d c b W (i.below m) (j.below m) hx.2.1 l.2.1);obtain⟨u,q,rfl,_⟩:=i;obtain⟨D,A,rfl,_⟩:=j;clear hx l;by_cases f:op=g
 .subst f;have HD:Hid (decide ((⟨op,a⟩:Stil.Elem)=⟨op,d⟩)=decide (a=d)):=by show _=_;simp
  go_enter func28,ntmps28;go_wp2_with(go_at_call 62;refine(o _ BV).mo ?_;rintro e s⟨rfl,z⟩);go_ret;exact⟨Ad (by rw[HD.out]),BV⟩
 have t:(op==g)=false:=by rwa[DV]
 have HD:Hid (¬(⟨op,a⟩:Stil.Elem)=⟨g,d⟩):=by show ¬_;intro h;exact f (Stil.Elem.mk.inj h).1
 clear f;go_enter func28,ntmps28;go_wp2;go_ret;exact⟨Ad yEg,BV⟩
def GO(w:AU)(B:Nat)(v:AW):Prop:=w.cell? (AK B 0)=some v/\B<w.heap.size
def GO.below{w:AU}(h:GO w B v)(a:AO w w'):GO w' B v:=⟨(a.cell (p:=(AK B 0)) h.2).tr h.1,DL h.2 a.size⟩
def KZ(B:Nat):AW:=.func (.func 27) #[] #[AH B]
def UO(B C:Nat):AW:=.func (.func 30) #[] #[AH B,AH C]
def zh0 {p:Prop}(h:p:=by
 go_wp2;go_ret;have e:es=fs:=by have:=HE.out;rwa [FB BS,FB BS]at this
 exact⟨Ad (by rw[FX e]),hb⟩):p:=h
open Classical in
theorem Au7  (es fs:List Stil.Elem)(t:∀x∈es,∀y∈fs,∀(d c:Value)(w:World),Ar w d x.args->Ar w c y.args->Calls prog 28 #[.agg #[.int .i64 x.op,d],.agg #[.int .i64 y.op,c]] w λe w'=>e=.returned (.bool (decide (x=y)))/\Below w.heap.size w w')(v u:Value)(w:World)(ad:G6 w v es)(U:G6 w u fs)(hl:es.length<=1048576)(hm:fs.length<=1048576):
  Calls prog 31 #[v,u,.func (.func 28) #[] #[]] w λe w'=>e=.returned (.bool (decide (es=fs)))/\Below w.heap.size w w':=by
 obtain⟨a,cap,rfl,q⟩:=ad;obtain⟨a2,ai,rfl,m⟩:=U;by_cases A:es.length=fs.length
 .have Z:Hid (∀i(h:i<es.length),∃b o,a=some ⟨b,o,none⟩/\b<w.heap.size/\JU w b (o+i*2) es[i]):=q;have T:Hid (∀i(h:i<fs.length),∃b o,a2=some ⟨b,o,none⟩/\b<w.heap.size/\JU w b (o+i*2) fs[i]):=m;have IH:Hid (∀x∈es,∀y∈fs,∀(d c:Value)(w:World),Ar w d x.args->Ar w c y.args->Calls prog 28 #[.agg #[.int .i64 x.op,d],.agg #[.int .i64 y.op,c]] w λe w'=>e=.returned (.bool (decide (x=y)))/\Below w.heap.size w w'):=t;clear q m t;have aa:((es.length:Int) !=(fs.length:Int))=false:=by rw[bne_eq_false_iff_eq];omega
  have ah:es.length<=fs.length:=BS;have ae:fs.length<=es.length:=BS;clear A;go_enter func31,ntmps31;go_wp2;go_loopw [17] (λi wr=>∃k:Nat,k<=es.length/\i=.int .i64 k/\es.take k=fs.take k/\Below w.heap.size w wr) (λi _=>es.length - (intOf i).toNat);case atStart=>exact⟨0,BS,rfl,BU,Below.refl _ _⟩
  case round=>obtain⟨k,hk,rfl,E,hb⟩:=hrel;have HE:Hid (es.take k=fs.take k):=E;clear E;by_cases l:k<es.length;{have z:k<fs.length:=(by omega);obtain⟨b,o,rfl,N,L⟩:=Z k l;have G:=(L.below hb N);obtain⟨b2,o2,rfl,K,I⟩:=T k z;have D:=(I.below hb K);obtain⟨x0,d,x1,Q⟩:=id G;obtain⟨P,c,y1,R⟩:=id D;obtain⟨j,f⟩:∃j,decide (es[k]=fs[k])=j:=⟨_,rfl⟩;have g:Hid (∀W,Below wr.heap.size wr W->Calls prog 28 #[.agg #[.int .i64 es[k].op,d],.agg #[.int .i64 fs[k].op,c]] W λe w'=>e=.returned (.bool (decide (es[k]=fs[k])))/\Below W.heap.size W w'):=λW M=>IH es[k] (DW l) fs[k] (DW z) _ _ W (Q.below M) (R.below M);have s:Hid (j=true->es.take (k+1)=fs.take (k+1)):=(by show _->_;intro h;rw[h,decide_eq_true_iff]at f;rw[ER l,ER z,HE.out,f]);have r:Hid (j=false->¬es=fs):=(by show _->_;intro h S;rw[h,HZ]at f;subst S;exact f rfl);rw[f]at g;obtain⟨x,O⟩:∃x,x=es[k]:=⟨_,rfl⟩;obtain⟨y,H⟩:∃y,y=fs[k]:=⟨_,rfl⟩;rw[<-O]at g x0;rw[<-H]at g P;clear O H f L G I D HE;obtain⟨p0,r0,rfl,_⟩:=Q;obtain⟨zn,zl,rfl,_⟩:=R;have af:=hb.size;have ag:b<wr.heap.size:=DL N hb.size;have J:b2<wr.heap.size:=DL K hb.size;have y7:=λob=>(Gv (ob:=ob) J).trans P;have yx:=λob=>(Gv (ob:=ob) J).trans y1;cases j;{have ac:Hid (¬es=fs):=r rfl;clear r s;go_wp2_with(go_at_call 28;refine(g _ BV).mono ?_;rintro e X⟨rfl,Y⟩);go_ret;exact⟨Ad (by rw[FM ac.out]),Bd hb BV⟩};have ab:Hid (es.take (k+1)=fs.take (k+1)):=s rfl;clear r s;go_wp2_with(go_at_call 28;refine(g _ BV).mono ?_;rintro e X⟨rfl,Y⟩);exact⟨⟨k+1,BS,by go_num,ab.out,Bd hb BV⟩,by simp[intOf];omega⟩};exact zh0
 have aa:((es.length:Int) !=(fs.length:Int))=true:=by rw[bne_iff_ne];omega
 have V:Hid (¬es=fs):=by show ¬_;intro h;exact A (by rw[h])
 clear A q m t;go_enter func31,ntmps31;go_wp2;go_ret;exact⟨Ad (by rw[FM V.out]),Below.refl _ _⟩
def Axc{w:AU}{u:AW}(h:GO w B v/\GO w C u)(a:AO w w'):GO w' B v/\GO w' C u:=⟨h.1.below a,h.2.below a⟩
def JG(w:AU)(B C:Nat):Prop:=GO w B (KZ B)/\GO w C (UO B C)
def JG.below{w:AU}(h:JG w B C)(a:AO w w'):JG w' B C:=Axc h a
open Classical in
theorem ZX(B C:Nat)(es fs:List Stil.DJ)(K:∀x∈es,∀y∈fs,∀(d l g m q f j r:Value)(w:World),JG w B C->Ar w d x.N.O.args->Fe w l x.N.K->G6 w g x.C->Dx w m x.K->Ar w q y.N.O.args->Fe w f y.N.K->G6 w j y.C->Dx w r y.K->Calls prog 30 #[.agg #[.int .i64 x.N.kind,.int .i64 x.N.O.op,d,l,g,m],.agg #[.int .i64 y.N.kind,.int .i64 y.N.O.op,q,f,j,r],.pointer (some ⟨B,0,none⟩),.pointer (some ⟨C,0,none⟩)] w λe w'=>e=.returned (.bool (decide (x=y)))/\Below w.heap.size w w')(v u:Value)(w:World)(ai:Dx w v es)(tC:Dx w u fs)(hl:es.length<=1048576)(hm:fs.length<=1048576)(ae:JG w B C):
  Calls prog 32 #[v,u,.func (.func 30) #[] #[.pointer (some ⟨B,0,none⟩),.pointer (some ⟨C,0,none⟩)]] w λe w'=>e=.returned (.bool (decide (es=fs)))/\Below w.heap.size w w':=by
 obtain⟨a,cap,rfl,E⟩:=ai;obtain⟨a2,aD,rfl,G⟩:=tC;have yh:Hid (∀W,Below w.heap.size w W->JG W B C):=λW c=>ae.below c;by_cases L:es.length=fs.length
 .have HA:Hid (∀i(h:i<es.length),∃b o,a=some ⟨b,o,none⟩/\b<w.heap.size/\Ri w b (o+i*6) es[i]):=E;have HB:Hid (∀i(h:i<fs.length),∃b o,a2=some ⟨b,o,none⟩/\b<w.heap.size/\Ri w b (o+i*6) fs[i]):=G;have IH:Hid (∀x∈es,∀y∈fs,∀(d l g m q f j r:Value)(w:World),JG w B C->Ar w d x.N.O.args->Fe w l x.N.K->G6 w g x.C->Dx w m x.K->Ar w q y.N.O.args->Fe w f y.N.K->G6 w j y.C->Dx w r y.K->Calls prog 30 #[.agg #[.int .i64 x.N.kind,.int .i64 x.N.O.op,d,l,g,m],.agg #[.int .i64 y.N.kind,.int .i64 y.N.O.op,q,f,j,r],.pointer (some ⟨B,0,none⟩),.pointer (some ⟨C,0,none⟩)] w λe w'=>e=.returned (.bool (decide (x=y)))/\Below w.heap.size w w'):=K;clear E G K;have ag:((es.length:Int) !=(fs.length:Int))=false:=by rw[bne_eq_false_iff_eq];omega
  have aB:es.length<=fs.length:=BS;have al:fs.length<=es.length:=BS;clear L;go_enter func32,ntmps32;go_wp2;go_loopw [17] (λi wr=>∃k:Nat,k<=es.length/\i=.int .i64 k/\es.take k=fs.take k/\Below w.heap.size w wr) (λi _=>es.length - (intOf i).toNat);case atStart=>exact⟨0,BS,rfl,BU,Below.refl _ _⟩
  case round=>obtain⟨k,hk,rfl,S,hb⟩:=hrel;have HE:Hid (es.take k=fs.take k):=S;clear S;by_cases D:k<es.length;{have J:k<fs.length:=(by omega);obtain⟨b,o,rfl,aa,Y⟩:=HA k D;have T:=(Ri.below hb _ _ _ Y aa);obtain⟨b2,o2,rfl,X,V⟩:=HB k J;have M:=(Ri.below hb _ _ _ V X);obtain⟨ad,g,m,x4,x5,P,N⟩:=(T).open;obtain⟨x0,x1,d,l,x2,x3,ac,ab⟩:=ad.open;obtain⟨pz,j,r,y4,y5,Z,O⟩:=(M).open;obtain⟨Q,y1,q,f,y2,y3,R,kR⟩:=pz.open;obtain⟨z,t⟩:∃z,decide (es[k]=fs[k])=z:=⟨_,rfl⟩;have A:Hid (∀W,Below wr.heap.size wr W->Calls prog 30 #[.agg #[.int .i64 es[k].N.kind,.int .i64 es[k].N.O.op,d,l,g,m],.agg #[.int .i64 fs[k].N.kind,.int .i64 fs[k].N.O.op,q,f,j,r],.pointer (some ⟨B,0,none⟩),.pointer (some ⟨C,0,none⟩)] W λe w'=>e=.returned (.bool (decide (es[k]=fs[k])))/\Below W.heap.size W w'):=λW c=>IH es[k] (DW D) fs[k] (DW J) _ _ _ _ _ _ _ _ W (yh _ (Bd hb c)) (ac.below c) (ab.below c) (P.below c) (N.below c) (R.below c) (kR.below c) (Z.below c) (O.below c);have I:Hid (z=true->es.take (k+1)=fs.take (k+1)):=(by show _->_;intro h;rw[h,decide_eq_true_iff]at t;rw[ER D,ER J,HE.out,t]);have H:Hid (z=false->¬es=fs):=(by show _->_;intro h he;rw[h,HZ]at t;subst he;exact t rfl);rw[t]at A;obtain⟨x,hx⟩:∃x,x=es[k]:=⟨_,rfl⟩;obtain⟨y,U⟩:∃y,y=fs[k]:=⟨_,rfl⟩;rw[<-hx]at A x0 x1;rw[<-U]at A Q y1;clear hx U t Y T V M HE;obtain⟨p0,r0,rfl,_⟩:=ac;obtain⟨zn,zl,rfl,_⟩:=R;obtain⟨p1,r1,rfl,_⟩:=ab;obtain⟨ap,au,rfl,_⟩:=kR;obtain⟨p2,r2,rfl,_⟩:=P;obtain⟨ax,ay,rfl,_⟩:=Z;obtain⟨p3,r3,rfl,_⟩:=N;obtain⟨ar,ak,rfl,_⟩:=O;have aw:=hb.size;have az:b<wr.heap.size:=DL aa hb.size;have s:b2<wr.heap.size:=DL X hb.size;have y7:=λob=>(Gv (ob:=ob) s).trans Q;have yx:=λob=>(Gv (ob:=ob) s).trans y1;have an:=λob=>(Gv (ob:=ob) s).trans y2;have aA:=λob=>(Gv (ob:=ob) s).trans y3;have aC:=λob=>(Gv (ob:=ob) s).trans y4;have ao:=λob=>(Gv (ob:=ob) s).trans y5;cases z;{have ah:Hid (¬es=fs):=H rfl;clear H I;go_wp2_with(go_at_call 30;refine(A _ BV).mono ?_;rintro e w2⟨rfl,af⟩);go_ret;exact⟨Ad (by rw[FM ah.out]),Bd hb BV⟩};have aj:Hid (es.take (k+1)=fs.take (k+1)):=I rfl;clear H I;go_wp2_with(go_at_call 30;refine(A _ BV).mono ?_;rintro e w2⟨rfl,af⟩);exact⟨⟨k+1,BS,by go_num,aj.out,Bd hb BV⟩,by simp[intOf];omega⟩};exact zh0
 have ag:((es.length:Int) !=(fs.length:Int))=true:=by rw[bne_iff_ne];omega
 have HN:Hid (¬es=fs):=by show ¬_;intro h;exact L (by rw[h])
 clear L E G K;go_enter func32,ntmps32;go_wp2;go_ret;exact⟨Ad (by rw[FM HN.out]),Below.refl _ _⟩
open Classical in
theorem Azx(B:Nat)(es fs:List Stil.DI)(G:∀x∈es,∀y∈fs,∀(c f g j:Value)(w:World),GO w B (KZ B)->Ar w c x.O.args->Fe w f x.K->Ar w g y.O.args->Fe w j y.K->Calls prog 27 #[.agg #[.int .i64 x.kind,.int .i64 x.O.op,c,f],.agg #[.int .i64 y.kind,.int .i64 y.O.op,g,j],.pointer (some ⟨B,0,none⟩)] w λe w'=>e=.returned (.bool (decide (x=y)))/\Below w.heap.size w w')(v u:Value)(w:World)(ae:Fe w v es)(tC:Fe w u fs)(hl:es.length<=1048576)(hm:fs.length<=1048576)(aa:GO w B (KZ B)):
  Calls prog 29 #[v,u,.func (.func 27) #[] #[.pointer (some ⟨B,0,none⟩)]] w λe w'=>e=.returned (.bool (decide (es=fs)))/\Below w.heap.size w w':=by
 obtain⟨a,cap,rfl,t⟩:=ae;obtain⟨a2,ap,rfl,z⟩:=tC;have yh:Hid (∀W,Below w.heap.size w W->GO W B (KZ B)):=λW d=>aa.below d;by_cases H:es.length=fs.length
 .have HA:Hid (∀i(h:i<es.length),∃b o,a=some ⟨b,o,none⟩/\b<w.heap.size/\P5 w b (o+i*4) es[i]):=t;have Z:Hid (∀i(h:i<fs.length),∃b o,a2=some ⟨b,o,none⟩/\b<w.heap.size/\P5 w b (o+i*4) fs[i]):=z;have IH:Hid (∀x∈es,∀y∈fs,∀(c f g j:Value)(w:World),GO w B (KZ B)->Ar w c x.O.args->Fe w f x.K->Ar w g y.O.args->Fe w j y.K->Calls prog 27 #[.agg #[.int .i64 x.kind,.int .i64 x.O.op,c,f],.agg #[.int .i64 y.kind,.int .i64 y.O.op,g,j],.pointer (some ⟨B,0,none⟩)] w λe w'=>e=.returned (.bool (decide (x=y)))/\Below w.heap.size w w'):=G;clear t z G;have ac:((es.length:Int) !=(fs.length:Int))=false:=by rw[bne_eq_false_iff_eq];omega
  have ao:es.length<=fs.length:=BS;have ag:fs.length<=es.length:=BS;clear H;go_enter func29,ntmps29;go_wp2;go_loopw [17] (λi wr=>∃k:Nat,k<=es.length/\i=.int .i64 k/\es.take k=fs.take k/\Below w.heap.size w wr) (λi _=>es.length - (intOf i).toNat);case atStart=>exact⟨0,BS,rfl,BU,Below.refl _ _⟩
  case round=>obtain⟨k,hk,rfl,N,hb⟩:=hrel;have HE:Hid (es.take k=fs.take k):=N;clear N;by_cases s:k<es.length;{have E:k<fs.length:=(by omega);obtain⟨b,o,rfl,U,S⟩:=HA k s;have O:=(P5.below hb _ _ _ S U);obtain⟨b2,o2,rfl,R,Q⟩:=Z k E;have I:=(P5.below hb _ _ _ Q R);obtain⟨x0,x1,c,f,x2,x3,X,J⟩:=(O).open;obtain⟨L,T,g,j,y2,y3,M,K⟩:=(I).open;obtain⟨m,l⟩:∃m,decide (es[k]=fs[k])=m:=⟨_,rfl⟩;have q:Hid (∀W,Below wr.heap.size wr W->Calls prog 27 #[.agg #[.int .i64 es[k].kind,.int .i64 es[k].O.op,c,f],.agg #[.int .i64 fs[k].kind,.int .i64 fs[k].O.op,g,j],.pointer (some ⟨B,0,none⟩)] W λe w'=>e=.returned (.bool (decide (es[k]=fs[k])))/\Below W.heap.size W w'):=λW d=>IH es[k] (DW s) fs[k] (DW E) _ _ _ _ W (yh _ (Bd hb d)) (X.below d) (J.below d) (M.below d) (K.below d);have D:Hid (m=true->es.take (k+1)=fs.take (k+1)):=(by show _->_;intro h;rw[h,decide_eq_true_iff]at l;rw[ER s,ER E,HE.out,l]);have A:Hid (m=false->¬es=fs):=(by show _->_;intro h Y;rw[h,HZ]at l;subst Y;exact l rfl);rw[l]at q;obtain⟨x,V⟩:∃x,x=es[k]:=⟨_,rfl⟩;obtain⟨y,P⟩:∃y,y=fs[k]:=⟨_,rfl⟩;rw[<-V]at q x0 x1;rw[<-P]at q L T;clear V P l S O Q I HE;obtain⟨p0,r0,rfl,_⟩:=X;obtain⟨zn,zl,rfl,_⟩:=M;obtain⟨p1,r1,rfl,_⟩:=J;obtain⟨ai,aj,rfl,_⟩:=K;have ak:=hb.size;have al:b<wr.heap.size:=DL U hb.size;have r:b2<wr.heap.size:=DL R hb.size;have y7:=λob=>(Gv (ob:=ob) r).trans L;have yx:=λob=>(Gv (ob:=ob) r).trans T;have ah:=λob=>(Gv (ob:=ob) r).trans y2;have an:=λob=>(Gv (ob:=ob) r).trans y3;cases m;{have ad:Hid (¬es=fs):=A rfl;clear A D;go_wp2_with(go_at_call 27;refine(q _ BV).mono ?_;rintro e w2⟨rfl,ab⟩);go_ret;exact⟨Ad (by rw[FM ad.out]),Bd hb BV⟩};have af:Hid (es.take (k+1)=fs.take (k+1)):=D rfl;clear A D;go_wp2_with(go_at_call 27;refine(q _ BV).mono ?_;rintro e w2⟨rfl,ab⟩);exact⟨⟨k+1,BS,by go_num,af.out,Bd hb BV⟩,by simp[intOf];omega⟩};exact zh0
 have ac:((es.length:Int) !=(fs.length:Int))=true:=by rw[bne_iff_ne];omega
 have HN:Hid (¬es=fs):=by show ¬_;intro h;exact H (by rw[h])
 clear H t z G;go_enter func29,ntmps29;go_wp2;go_ret;exact⟨Ad (by rw[FM HN.out]),Below.refl _ _⟩
open Classical in
theorem Azi(B:Nat)(n:Stil.DI):∀m:Stil.DI,Cj n->Cj m->∀(g i c d:AW)(w:AU),GO w B (KZ B)->Ar w g n.O.args->Fe w i n.K->Ar w c m.O.args->Fe w d m.K->Calls prog 27 #[.agg #[AB n.kind,AB n.O.op,g,i],.agg #[AB m.kind,AB m.O.op,c,d],AH B] w (AN w (.bool (decide (n=m)))):=by
 induction n using Gs with
 |h k e kids R=>
  intro m N I g i c d w o t s z u;obtain⟨q,f,b⟩:=m;have⟨_,A,J,K⟩:=(Hg _ _ _).1 N;have⟨_,O,D,E⟩:=(Hg _ _ _).1 I;simp only at t s z u;have j:=BX (λW(a:AO w W)=>X2 e f A O g c W (t.below a) (z.below a));have H:=BX (λW(a:AO w W)=>Azx B kids b (λx M y S=>R x M y (K x M) (E y S)) i d W (s.below a) (u.below a) J D (o.below a));have T:=BX (λW(a:AO w W)=>(o.below a).1);obtain⟨Y,U,rfl,_⟩:=t;obtain⟨p1,r1,rfl,_⟩:=s;obtain⟨V,r2,rfl,_⟩:=z;obtain⟨p3,Z,rfl,_⟩:=u;clear R N A J K I O D E o;by_cases l:k=q;{subst l;cases hd:decide (e=f);{have HD:Hid (¬(⟨k,e,kids⟩:Stil.DI)=⟨k,f,b⟩):=(by show ¬_;rw[HZ]at hd;intro h;exact hd (Stil.DI.mk.inj h).2.1);rw[hd]at j;clear hd;go_enter func27,ntmps27;go_wp2_with(go_at_call 28;refine(j _ BV).mo ?_;rintro e G⟨rfl,Q⟩);go_ret;exact⟨Ad yEg,BV⟩};have HD:Hid (decide ((⟨k,e,kids⟩:Stil.DI)=⟨k,f,b⟩)=decide (kids=b)):=(by show _=_;rw[decide_eq_true_iff]at hd;simp[hd]);rw[hd]at j;clear hd;have⟨P,L⟩:=AA (decide (kids=b));rw[<-L]at H HD;clear L;go_enter func27,ntmps27;go_wp2_with(first|(go_at_call 28;refine(j _ BV).mo ?_;rintro e G⟨rfl,Q⟩;have⟨hc,hf⟩:=F8 Q;have o:=T G BV)|(go_at_call 29;refine(H _ BV).mo ?_;rintro e w2⟨rfl,aa⟩));go_ret;exact⟨Ad (by rw[HD.out]),BV⟩};have X:(k==q)=false:=by rwa[DV]
  have HD:Hid (¬(⟨k,e,kids⟩:Stil.DI)=⟨q,f,b⟩):=by show ¬_;intro h;exact l (Stil.DI.mk.inj h).1
  clear l;go_enter func27,ntmps27;go_wp2;go_ret;exact⟨Ad yEg,BV⟩
open Classical in
theorem Azj(B C:Nat)(n:Stil.DJ):∀m:Stil.DJ,Bh n->Bh m->∀(q z t A D s u E:AW)(w:AU),JG w B C->Ar w q n.N.O.args->Fe w z n.N.K->G6 w t n.C->Dx w A n.K->Ar w D m.N.O.args->Fe w s m.N.K->G6 w u m.C->Dx w E m.K->Calls prog 30 #[.agg #[AB n.N.kind,AB n.N.O.op,q,z,t,A],.agg #[AB m.N.kind,AB m.N.O.op,D,s,u,E],AH B,AH C] w (AN w (.bool (decide (n=m)))):=by
 induction n using Fv with
 |h n o kids ih=>
  intro m af ad q z t A D s u E w g Q P K I L O N J;obtain⟨b,l,f⟩:=m;have⟨hn,ag,U,X,Y⟩:=(Fa _ _ _).1 af;have⟨aa,V,ab,R,ac⟩:=(Fa _ _ _).1 ad;simp only at Q P K I L O N J;have i:=BX (λW(a:AO w W)=>Azi B n b hn aa q z D s W (g.1.below a) (Q.below a) (P.below a) (L.below a) (O.below a));have G:=BX (λW(a:AO w W)=>Au7 o l (λx H y M=>X2 x y (U x H) (ab y M)) t u W (K.below a) (N.below a) ag V);have Z:=BX (λW(a:AO w W)=>ZX B C kids f (λx H y M=>ih x H y (Y x H) (ac y M)) A E W (I.below a) (J.below a) X R (g.below a));have jM:=BX (λW(a:AO w W)=>(g.2.below a).1);have ak:w.c (AK B 0)=some (.func (.func 27) #[] #[AH B]):=g.1.1;have ah:=g.1.2;have ao:∀ob zo,((w.alloc ob).alloc zo).c (AK B 0)=some (.func (.func 27) #[] #[AH B]):=λob zo=>(Gv Bw).tr ((Gv ah).tr ak);obtain⟨p0,r0,rfl,_⟩:=Q;obtain⟨p1,r1,rfl,_⟩:=P;obtain⟨p2,r2,rfl,_⟩:=K;obtain⟨p3,r3,rfl,_⟩:=I;obtain⟨p4,r4,rfl,_⟩:=L;obtain⟨p5,r5,rfl,_⟩:=O;obtain⟨p6,r6,rfl,_⟩:=N;obtain⟨p7,r7,rfl,_⟩:=J;clear ih af hn ag U X Y ad aa V ab R ac g;cases hd:decide (n=b);{have HD:Hid (¬(⟨n,o,kids⟩:Stil.DJ)=⟨b,l,f⟩):=(by show ¬_;rw[HZ]at hd;intro h;exact hd (Stil.DJ.mk.inj h).1);rw[hd]at i;clear hd;go_enter func30,ntmps30;go_wp2_with(go_at_call 27;refine(i _ BV).mo ?_;rintro e j⟨rfl,d⟩);go_ret;exact⟨Ad yEg,BV⟩};rw[decide_eq_true_iff]at hd;cases c:decide (o=l);{have HD:Hid (¬(⟨n,o,kids⟩:Stil.DJ)=⟨b,l,f⟩):=(by show ¬_;rw[HZ]at c;intro h;exact c (Stil.DJ.mk.inj h).2.1);rw[c]at G;rw[FX hd]at i;clear hd c;go_enter func30,ntmps30;go_wp2_with(first|(go_at_call 27;refine(i _ BV).mo ?_;rintro e j⟨rfl,d⟩;have⟨hc,hf⟩:=F8 d;have aj:w.z<j.z:=DL Bw d.size;have ai:w.z+1<j.z:=DL BU d.size)|(go_at_call 31;refine(G _ BV).mo ?_;rintro e S⟨rfl,T⟩));go_ret;exact⟨Ad yEg,BV⟩};rw[decide_eq_true_iff]at c;have HD:Hid (decide ((⟨n,o,kids⟩:Stil.DJ)=⟨b,l,f⟩)=decide (kids=f)):=by show _=_;simp[hd,c]
  rw[FX c]at G;rw[FX hd]at i;clear hd c;have⟨bb,ae⟩:=AA (decide (kids=f));rw[<-ae]at Z HD;clear ae;go_enter func30,ntmps30;go_wp2_with(first|(go_at_call 27;refine(i _ BV).mo ?_;rintro e j⟨rfl,d⟩;have⟨hc,hf⟩:=F8 d;have aj:w.z<j.z:=DL Bw d.size;have ai:w.z+1<j.z:=DL BU d.size)|(go_at_call 31;refine(G _ BV).mo ?_;rintro e S⟨rfl,T⟩;have⟨an,ap⟩:=F8 T;have g:=jM S BV)|(go_at_call 32;refine(Z _ BV).mo ?_;rintro e w3⟨rfl,al⟩));go_ret;exact⟨Ad (by rw[HD.out]),BV⟩
open Classical in
theorem Aut(b lb:List Stil.DJ)(v u:AW)(w:AU)(l:Dx w v b)(o:Dx w u lb)(s:∀x∈b,Bh x)(i:∀x∈lb,Bh x)(hl:b.length<=1048576)(t:lb.length<=1048576):
  Calls prog 8 #[v,u] w (AN w (.bool (decide (b=lb)))):=by
 have J:∀(c:Fn)(first cap:Array AW)(w:AU),(Instr.makeFunc c first cap).run prog w=.ok (.func c first cap) w:=λ_ _ _ _=>rfl;have H:∀(c:Fn)(f d:Array AW)(P:AY)(w:AU)(a:Ab)(m:Mode),(store a (.func c f d) m).run P w=stored P w a (.func c f d) m:=λc f d P w a m=>run_store P w a _ m rfl;have g:=BX (λW(q:AO w W)B C(D:JG W B C)=>ZX B C b lb (λx z y A=>Azj B C x y (s x z) (i y A)) v u W (l.below q) (o.below q) hl t D);obtain⟨I,E,rfl,_⟩:=l;obtain⟨M,L,rfl,_⟩:=o;have⟨p,j⟩:=AA (decide (b=lb));rw[<-j]at g⊢;clear j s i;go_enter func8,ntmps8;go_wp2_with(go_at_call 32;refine(g _ BV w.heap.size (w.heap.size+1) ⟨⟨?b1,?b2⟩,⟨?b3,?b4⟩⟩).mo ?_);case b1=>simp[go_sem,KZ]
 case b2=>simp;omega
 case b3=>simp[go_sem,UO]
 case b4=>simp
 rintro e G⟨rfl,K⟩;go_wp2;go_ret;exact⟨rfl,BV⟩
end Go.Proofs.YtgnkpbhknkinoaaGreatDoor
namespace Stil
variable {B F:Nat}{k:Int}
theorem Ll.costs:∀{l:List Aw}{s:Pt}{c:List Elem}{b:List Aw},Ll l c b->E4 s l->FC B F s l->s.bits=1->
  ∃a,E4 a b/\FC B F a b/\a.bits=1/\a.forks=s.forks/\(c≠[]->a.seen=true)/\(c=[]->a=s/\b=l)/\Dq c=false
 |[],_,_,_,h,_,_,_=>h.elim
 |i::r,s,c,b,h,j,m,o=>by
  have⟨q,w⟩:=j.cons;rw[Ll]at h;by_cases d:i.code=10
  .rw[BR d]at h
   obtain⟨y,rfl,h⟩:=h;obtain⟨_,_,t⟩:=m;have f:(next s i.code).bits=1/\(next s i.code).forks=s.forks/\(next s i.code).seen=true:=by
    unfold next
    rw[BQ BS];simp[d,o]
   have⟨a,x,D,z,G,E,A,u⟩:=Ll.costs h w t f.1;refine⟨a,x,D,z,by rw[G,f.2.1],λ_=>?_,λe=>(by cases e),?_⟩
   .by_cases n:y=[]
    .rw[(A n).1];exact f.2.2
    .exact E n
   .have g:=(Ik q).1
    unfold Ju at g;rw[BQ BS,BQ BS,BR d]at g;rw[VS,g,u];rfl
  .rw[BQ d]at h
   obtain⟨rfl,rfl⟩:=h;exact⟨s,j,m,o,rfl,λh=>absurd rfl h,λ_=>⟨rfl,rfl⟩,rfl⟩
structure PR(B F:Nat)(f:Int)(a:DJ):Prop where
 norm:H8 a
 right:Cb a=0
 bits:Bo a<=B
 forks:f+forks a<=F
structure LY(B F:Nat)(f:Int)(r:List Aw)(s:Pt):Prop where
 runs:E4 s r
 tops:FC B F s r
 bits:s.bits=1
 forks:s.forks=f
 seen:s.seen=true
 ends:Yg r
def vE(a:DJ):H8 a->Em a:=by refine Fv (λa=>H8 a->Em a) ?_ a;intro n c kids f h;have⟨d,e,_⟩:=(Jz _ _ _).1 h;exact(Ec _ _ _).2 ⟨d,λx b=>f x b (e x b)⟩
def gb{a:DJ}(h:H8 a):1<=Bo a:=(Zx a (vE a h) 0).lo1
def QO{a:DJ}(h:H8 a):Gl a.N (Bo a)=max (Bo a) (IE a.N):=by unfold Gl IE;rw[<-Iu,Nat.max_eq_left (gb h)]
def UW(B F:Nat)(P:List Aw->DJ->List Aw->Prop):Prop:=
 ∀l a r s,P l a r->E4 s l->FC B F s l->s.bits=1->0<=s.forks->s.forks<=(F:Int)->s.seen=true->(s.coil=false\/Dv l<7)->
  ∃b,LY B F s.forks r b/\PR B F s.forks a/\IE a.N<=B/\(A8 a.N).length+(Bv a).length+r.length<=l.length/\(Dv l<7->fine a.N)
theorem Ih.costs{n:Nat}{P:List Aw->DJ->List Aw->Prop}(x:UW B F P){f:Int}(T:0<=f):∀{o:List DJ}{i:Aw}{l r:List Aw}{s:Pt}(j:Nat),Ih P o (i::l) r->E4 s (i::l)->FC B F s (i::l)->s.bits=1->
  ((i.code=7/\s.forks=f)\/(i.code≠7/\s.forks=f+1/\s.seen=true))->
  ∃q,LY B F f r q/\(∀k∈o,H8 k/\Cb k=0)/\A7 1 (o.map (λk=>Gl k.N (Bo k)))<=max 1 B/\f+Nu o<=F/\(D6 n j o).length+r.length<=(i::l).length/\(∀k,o=[k]->i.code=9)
 |[],_,_,_,_,_,h,_,_,_,_=>by simp[Ih]at h
 |k::t,i,l,r,s,j,h,K,O,A,hi=>by
  have⟨V,G⟩:=K.cons;obtain⟨_,H,D⟩:=O;rw[Ih]at h;have aa:=Y4 n j;by_cases u:t=[]
  .subst u
   rw[BR rfl]at h;obtain⟨E,h⟩:=h;have g:s.forks=f+1/\s.seen=true:=by
    rcases hi with⟨h,_⟩|⟨_,h⟩
    .omega
    .exact h
   have c:(next s i.code).bits=1/\(next s i.code).forks=f/\(next s i.code).seen=true/\(next s i.code).coil=false:=by
    rw[E];unfold next
    simp[A,g.1,g.2]
   have⟨q,b,a,I,N,_⟩:=x l k r _ h G D c.1 BS H c.2.2.1 (.inl c.2.2.2);rw[c.2.1]at b a;refine⟨q,b,λy d=>by rw[BB.1 d];exact⟨a.norm,a.right⟩,?_,a.forks,?_,λ_ _=>E⟩
   .show max 1 (Gl k.N (Bo k))<=max 1 B
    have:=QO a.norm
    have:=a.bits
    omega
   .rw[D6,D6,EW]
    unfold Ht G0;rw[DT,DT,DO];omega
  .rw[BQ u]at h
   obtain⟨J,m,h,hF⟩:=h;have c:(next s i.code).bits=1/\(next s i.code).forks=f+1/\(next s i.code).seen=true/\(next s i.code).coil=false:=by
    rcases hi with⟨z,g⟩|⟨z,g,Q⟩
    .rw[z]
     unfold next
     simp[A,g]
    .have M:i.code=8:=J.resolve_left z
     rw[M];unfold next
     simp[A,g,Q]
   have⟨U,b,a,I,N,_⟩:=x l k m _ h G D c.1 BS H c.2.2.1 (.inl c.2.2.2);rw[c.2.1]at b a;obtain⟨e,w,rfl⟩:∃e w,m=e::w:=by
    cases m with
    |nil=>
     have:=b.ends
     unfold Yg at this;simp[Dv]at this
    |cons e w=>exact⟨e,w,rfl⟩
   have W:e.code=8\/e.code=9\/e.code=11:=b.ends;have⟨q,S,L,Z,X,d5,Y⟩:=Ih.costs (n:=n) x T (j+1) hF b.runs b.tops b.bits (.inr ⟨BS,b.forks,b.seen⟩);have R:Nu (k::t)=max (forks k+1) (Nu t):=by
    cases t with
    |nil=>exact absurd rfl u
    |cons y t=>rfl
   refine⟨q,S,λy d=>?_,?_,?_,?_,λy d=>?_⟩
   .rcases BD.1 d with rfl|d
    .exact⟨a.norm,a.right⟩
    .exact L y d
   .rw[DX,Jj]
    have:=QO a.norm
    have:=a.bits
    omega
   .rw[R]
    have:=a.forks
    omega
   .rw[D6]
    unfold Ht G0;rw[DT,DT,DT,DO];omega
   .injection d with _ d
    exact absurd d u
def netCost(kid:Bool)(n:DI):Nat:=if kid=true then(A8 n).length else(Cf n).length
theorem StR.netCost{kid:Bool}{c:Nat}{n:DI}(h:StR kid B [n] c):c=Stil.netCost kid n/\Gp n/\(kid=false->fine n/\Ak n<=B)/\(kid=true->IE n<=B):=by
 unfold Stil.netCost;cases kid with
 |true=>have⟨a,b,d⟩:=StR.base.1 h;exact⟨by rwa[BR rfl],a,λh=>CQ,λ_=>d⟩|false=>have⟨a,b,f,d,g⟩:=h.pop (λe=>by have:=e.1;cases this);have i:f=0:=d.2;simp only[DU]at b;exact⟨by rw[BQ BZ];omega,.inr a,λ_=>⟨a,BS⟩,λh=>CQ⟩
def gR(h:1<=B):StR true B [G5] 0:=StR.base.2 ⟨.inl rfl,rfl,h⟩
theorem RR{n:DI}{cs:List Elem}{kids:List DJ}(h1:Gp n)(c:Dq cs=false)(d:kids=[]->cs≠[]):Cm ⟨n,cs,kids⟩=0:=by
 unfold Cm;simp only;rw[BQ,BQ (by rw[c];decide),BQ]
 .intro h;exact d (BL.1 h.2) (BL.1 h.1)
 rintro⟨a,b⟩;rcases h1 with h|h
 .rw[h]at a;cases a
 have:=h.2.2;omega
theorem cD(T:1<=B):∀{f:Nat}{kid:Bool}{A:List DI}{l:List Aw}{a:DJ}{r:List Aw}{s:Pt}{c:Nat},Wh f A l a r->E4 s l->FC B F s l->s.bits=(A.length:Int)->s.bits<=(B:Int)->0<=s.forks->s.forks<=(F:Int)->(kid=true->s.seen=true/\A≠[])->StR kid B A c->(s.coil=false\/Dv l<7)->
  ∃d,LY B F s.forks r d/\PR B F s.forks a/\(kid=false->fine a.N/\Ak a.N<=B)/\(kid=true->IE a.N<=B)/\netCost kid a.N+(Bv a).length+r.length<=c+l.length/\(kid=true->Dv l<7->fine a.N)
 |0,_,_,_,_,_,_,_,h,_,_,_,_,_,_,_,_,_=>h.elim
 |f+1,kid,A,l,a,r,s,c,h,M,W,X,hB,ac,ak,q,aa,P=>by
  obtain⟨l1,D,R,Q,h3⟩:=h;have⟨s1,c1,a1,a2,a3,a4,a5,a6,a7,Y,a9⟩:=R.costs M W X hB q aa;have⟨n1,u,Z,n4⟩:=a6.netCost;have⟨V,H,U,K,b4,L,S,E⟩:=Q.costs a1 a2 a3;have ng:=R.suffix;have ah:=Q.suffix.2.2;have J:V.forks=s.forks:=by rw[b4,a4]
  have hP:UW B F (Wh f [G5]):=by
   intro l a r s h M W X af oN hs P;have⟨d,t,g,O,I,y,e6⟩:=cD T (kid:=true) h M W (by rw[X];rfl) BS af oN (λ_=>⟨hs,BU⟩) (gR T) P;refine⟨d,t,g,I rfl,?_,e6 rfl⟩;unfold Stil.netCost at y;rw[BR rfl]at y;omega
  obtain⟨an,o,kids⟩:=a;simp only at R Q h3 n1 u Z n4 a6 Y L S E ah⊢;have fin:∀d,LY B F s.forks r d->H8 ⟨an,o,kids⟩->Cb ⟨an,o,kids⟩=0->Bo ⟨an,o,kids⟩<=B->s.forks+forks ⟨an,o,kids⟩<=F->(D6 kids.length 0 kids).length+r.length<=D.length->
    ∃d,LY B F s.forks r d/\PR B F s.forks ⟨an,o,kids⟩/\(kid=false->fine an/\Ak an<=B)/\(kid=true->IE an<=B)/\Stil.netCost kid an+(Bv ⟨an,o,kids⟩).length+r.length<=c+l.length/\(kid=true->Dv l<7->fine an):=by
   intro d t g O I y e6;refine⟨d,t,⟨g,O,I,y⟩,Z,n4,?_,λh h7=>Y h (.inr h7)⟩;have ai:(Gz o).length=o.length:=by simp[Gz]
   rw[Nj,DT];omega
  rcases h3 with⟨N,rfl,rfl⟩|⟨aj,w,b,rfl,ad⟩|⟨w,hF⟩
  .have z:o≠[]:=by
    intro e;have⟨t,g⟩:=S e;have ag:r≠[]:=by rintro rfl;simp[Dv]at N
    obtain⟨i,G,rfl⟩:∃i G,r=i::G:=by
     cases r with
     |nil=>exact absurd rfl ag
     |cons i G=>exact⟨i,G,rfl⟩
    have h8:=(Ik H.cons.1).2.2.2.2.2.2.2.2;exact h8 ⟨N,by rw[t];exact a9 P⟩
   refine fin V ⟨H,U,K,J,L z,N⟩ ((Jz _ _ _).2 ⟨u,(λx j=>by cases j),(λk q=>by cases q)⟩) (Ir.2 ⟨RR u E (λ_=>z),(λx j=>by cases j)⟩) ?_ ?_ ?_
   .rwa[Oi]
   .rw[cH]
    show s.forks+0<=_
    omega
   .show 0+_<=_
    omega
  .have z:o≠[]:=by
    intro e;have:=(S e).2
    rw[this]at w;have:=ng.2
    omega
   have⟨d,t,g,O,I,y⟩:=hP D b r V ad H U K BS BS (L z) (.inr w);rw[J]at t g;have ae:=y w;refine fin d t ((Jz _ _ _).2 ⟨u,λx j=>by rw[BB.1 j];exact g.norm,λk q=>?_⟩) (Ir.2 ⟨RR u E (λh=>by cases h),λx j=>by rw[BB.1 j];exact g.right⟩) ?_ ?_ ?_
   .injection q with q
    subst q;rintro(h|h)
    .exact z h
    .rw[Yf ae]at h;cases h
   .rw[Oi]
    show max 1 (Gl b.N (Bo b))<=B
    have:=QO g.norm
    have:=g.bits
    omega
   .rw[Ut,Vq]
    exact g.forks
   .have el:D6 [b].length 0 [b]=A8 b.N++Bv b:=by
     show(([]:List Aw)++(A8 b.N++Bv b))++[]=_
     rw[EB,EW]
    rw[el,DT];omega
  .obtain⟨i,m,rfl⟩:∃i m,D=i::m:=by
    cases D with
    |nil=>simp[Dv]at w
    |cons i m=>exact⟨i,m,rfl⟩
   have qm:i.code=7:=w;have⟨d,d1,d2,d3,d4,d5,d6⟩:=Ih.costs (n:=kids.length) hP ac 0 hF H U K (.inl ⟨qm,J⟩);have ab:kids≠[]:=by rintro rfl;simp[Ih]at hF
   refine fin d d1 ((Jz _ _ _).2 ⟨u,λx j=>(d2 x j).1,λk q=>?_⟩) (Ir.2 ⟨RR u E (λh=>absurd h ab),λx j=>(d2 x j).2⟩) ?_ ?_ d5
   .have:=d6 k q
    omega
   .rw[Oi]
    omega
   .rw[Ut,Vq]
    exact d4
theorem step_next{s:Pt}{i:Aw}(g:s.good)(h:wrong s i=0):step (s.bits,s.forks) i.code=((next s i.code).bits,(next s i.code).forks):=by
 have⟨_,a,_,l,_,_,_,j,_⟩:=Ik h;by_cases b:i.code=11
 .have f:needs i.code=1:=by rw[b];rfl
  have d:s.bits=1:=BS;have e:s.forks=0:=by have:=g.2.2.1;omega
  rw[b,d,e];rfl
 unfold step next
 rw[BQ b];simp only;refine Prod.ext ?_ rfl;show(if i.code=1 then s.bits+1 else if i.code=4\/i.code=5\/i.code=11 then s.bits - 1 else s.bits)=if i.code=1 then s.bits+1 else if i.code=4\/i.code=5 then s.bits - 1 else s.bits
 by_cases a:i.code=1
 .rw[BR a,BR a]
 rw[BQ a,BQ a];by_cases c:i.code=4\/i.code=5
 .rw[BR BS,BR c]
 rw[BQ BS,BQ c]
theorem dh:∀(t:List (Int × Int))(p x:Int × Int),x∈t->x.1<=(Iq p t).1/\x.2<=(Iq p t).2
 |[],_,_,h=>by cases h
 |s::r,p,x,h=>by
  rw[Iq];rcases BD.1 h with rfl|h
  .have a:x.1<=(if p.1<x.1 then x.1 else p.1)/\x.2<=(if p.2<x.2 then x.2 else p.2):=by
    refine⟨?_,?_⟩
    .split<;>omega
    .split<;>omega
   have:=SL r (if p.1<x.1 then x.1 else p.1,if p.2<x.2 then x.2 else p.2)
   exact⟨Int.le_trans a.1 this.1,Int.le_trans a.2 this.2⟩
  .exact dh r _ x h
theorem XS:∀(l:List Aw)(s t:Pt),s.good->run s l=some t->(∀x∈Hq (s.bits,s.forks) l,x.1<=(B:Int)/\x.2<=(F:Int))->FC B F s l
 |[],_,_,_,_,_=>trivial
 |i::r,s,t,g,h,a=>by
  rw[run]at h;split at h
  .cases h
  .have c:wrong s i=0:=by have:=Oh s i;omega
   have e:=step_next g c;rw[Hq,e]at a;have b:=a _ E1;exact⟨b.1,b.2,XS r (next s i.code) t (Vp g c) h (λx d=>a x (DY _ d))⟩
theorem FC.split:∀{l m:List Aw}{s t:Pt},FC B F s (l++m)->run s l=some t->FC B F s l/\FC B F t m
 |[],_,_,_,h,e=>by injection e with e;subst e;exact⟨trivial,h⟩
 |i::r,m,s,t,h,e=>by
  rw[run]at e;split at e
  .cases e
  .obtain⟨c,d,f⟩:=h
   have⟨a,b⟩:=FC.split f e;exact⟨⟨c,d,a⟩,b⟩
def mS{r:List Aw}(h:Be r=(0,0)):run pt0 r=some pt0/\r.length<=1000:=by
 have⟨b,t,a,c⟩:=Tt.1 (by rw[h]:(Be r).1=0);have g:=iz r pt0 t JZ a;have:t.bits=0:=by have:=g.1;omega
 rw[g.2.2.2.2 this]at a;exact⟨a,b⟩
theorem YL:∀(d:List (List Aw)),(∀c∈d,run pt0 c=some pt0)->FC B F pt0 d.flatten->∀c∈d,FC B F pt0 c
 |[],_,_,c,e=>by cases e
 |x::d,h,f,c,e=>by
  rw[EN]at f;have⟨a,b⟩:=f.split (h x BU);rcases BD.1 e with rfl|e
  .exact a
  .exact YL d (λy g=>h y (DY _ g)) b c e
theorem Atv(f:1<=B){c:List Aw}{x:DJ}{i:Aw}(h:Wh 1001 [] c x [i])(hr:run pt0 c=some pt0)(g:FC B F pt0 c):H8 x/\Cb x=0/\fine x.N/\G9 x<=B/\forks x<=F/\(Eb x).length<=c.length:=by have⟨m,l,a,e,_,b,_⟩:=cD f (kid:=false) (c:=0) h ⟨JZ,pt0,hr,BZ⟩ g rfl (by show(0:Int)<=B;omega) BZ (by show(0:Int)<=F;omega) (λh=>by cases h) ⟨rfl,rfl⟩ (.inl rfl);have⟨d,j⟩:=e rfl;have o:=a.bits;have n:(0:Int)+forks x<=F:=a.forks;unfold netCost at b;rw[BQ BZ]at b;refine⟨a.norm,a.right,d,by unfold G9;omega,BS,?_⟩;unfold Eb;rw[DT,DT];simp only[FQ]at b⊢;omega
theorem cT(f:1<=B):∀{a:List (List Aw)}{b:List DJ},UpR a b->(∀c∈a,run pt0 c=some pt0/\FC B F pt0 c)->(∀x∈b,H8 x/\Cb x=0/\fine x.N/\G9 x<=B/\forks x<=F)/\((b.map Eb).flatten).length<=a.flatten.length
 |[],_,h,_=>by rw[h];exact⟨(λx j=>by cases j),BU⟩
 |c::a,_,⟨x,b,i,e,n,g⟩,h=>by
  subst e;have⟨l,q,m,t,s,w⟩:=Atv f n (h c BU).1 (h c BU).2;have⟨o,u⟩:=cT f g (λc r=>h c (by simp[r]));refine⟨λy d=>?_,?_⟩
  .rcases BD.1 d with rfl|d
   .exact⟨l,q,m,t,s⟩
   .exact o y d
  .rw[DX,EN,EN,DT,DT]
   omega
def Wc{xs:List DJ}(b:(Ap xs).1=0)(h:∀x∈xs,H8 x):Aj xs=xs:=by unfold Aj;rw[BR b];have:xs.map Dz=xs.map id:=LJ (λx a=>VW x (h x a));rw[this,List.map_id]
theorem mN{l:List Aw}{xs:List DJ}(h:(Be l).1=0)(g:UpR (Ef l) xs):(∀x∈xs,H8 x/\Cb x=0/\fine x.N)/\
  ((Ap xs).1=0->Aj xs=xs/\(Hm xs:Int)<=(Jn l).1/\(F9 xs:Int)<=(Jn l).2/\(Ep xs).length<=l.length):=by
 have⟨D,t,s,_⟩:=Tt.1 h;have⟨o,r⟩:=Yt h;have⟨K,A,w⟩:=Zs h;by_cases m:l.l=0
 .have d:l=[]:=BL.1 m;have q:Ef l=[]:=by rw[d];rfl
  rw[q]at g;have a:xs=[]:=g;subst a;refine⟨(λx a=>by cases a),λb=>⟨Wc b (λx a=>by cases a),?_,?_,?_⟩⟩;{rw[d];decide};{rw[d];decide};exact EI _
 have G:=w.resolve_left m;obtain⟨B,H⟩:∃B:Nat,(Jn l).1=(B:Int):=⟨(Jn l).1.toNat,BS⟩;have I:0<=(Jn l).2:=(SL (Qw l) (0,0)).2;obtain⟨F,hF⟩:∃F:Nat,(Jn l).2=(F:Int):=⟨(Jn l).2.toNat,BS⟩;have u:FC B F pt0 l:=by
  refine XS l pt0 t JZ s (λx a=>?_);have e:Qw l=Hq (0,0) l:=by unfold Qw;rw[BQ BS]
  have:=dh (Qw l) (0,0) x (by rwa[e]);have J:x.1<=(Jn l).1:=this.1;have E:x.2<=(Jn l).2:=this.2;omega
 have j:∀c∈Ef l,run pt0 c=some pt0:=λc b=>(mS (r c b).1).1;have y:=YL (B:=B) (F:=F) (Ef l) j (by rwa[o]);have⟨f,n⟩:=cT (B:=B) (F:=F) BS g (λc b=>⟨j c b,y c b⟩);refine⟨λx a=>⟨(f x a).1,(f x a).2.1,(f x a).2.2.1⟩,λb=>?_⟩;have d:=Wc b (λx a=>(f x a).1);refine⟨d,?_,?_,?_⟩
 .have:Hm xs<=B:=by
   unfold Hm;rw[d];refine Yb _ _ _ (EI _) (λz i=>?_);obtain⟨x,a,rfl⟩:=BM.1 i;exact(f x a).2.2.2.1
  omega
 .have:F9 xs<=F:=by
   unfold F9;rw[d];refine Yb _ _ _ (EI _) (λz i=>?_);obtain⟨x,a,rfl⟩:=BM.1 i;exact(f x a).2.2.2.2
  omega
 unfold Ep;rw[d];rwa[o]at n
def Avr{l:List Aw}{xs:List DJ}(h:(Be l).1=0)(g:UpR (Ef l) xs)(c:∀x∈xs,Bh x)(d:(Ap xs).1=0):
  Hm xs<=16/\F9 xs<=8/\Be (Ep xs)=(0,0)/\Jn (Ep xs)=hts (Hm xs) (F9 xs)/\UpR (Ef (Ep xs)) xs/\FV xs=(xs,0):=by have⟨_,f⟩:=mN h g;have⟨e,i,m,_⟩:=f d;have⟨j,n,_⟩:=Zs h;have b:Hm xs<=16:=BS;have a:F9 xs<=8:=BS;have hu:=g7 c d b a;rw[e]at hu;exact⟨b,a,YQ c b a,yZ c,hu.1,hu.2⟩
def Gh(l:List DJ):List Aw × Int:=if 0<(Ap l).1 then([],1) else if 16<Hm l\/8<F9 l then([],2) else(Ep l,0)
def T9{l:List DJ}(h:(Ap l).1=0)(a:Hm l<=16)(b:F9 l<=8):Gh l=(Ep l,0):=by unfold Gh;rw[BQ BS,BQ BS]
theorem oR{l:List DJ}(h:(Gh l).2=0):(Ap l).1=0/\Hm l<=16/\F9 l<=8:=by
 unfold Gh at h;split at h
 .simp at h
 rename_i a;split at h
 .simp at h
 have:=(Tu l).1;exact⟨BS,BS,BS⟩
theorem Vm(h:i64 k):(F6 k).fits:=⟨h,by unfold i64;simp[F6],xCq,λd hd=>by cases hd⟩
theorem b9{n:DI}(c:k=2\/k=3)(b:Cj n)(h:∀x∈Cf n,x.fits):∀x∈Dp k n,x.fits:=by
 intro x a;unfold Dp Ss at a;split at a
 .rw[BB.1 a];exact⟨xCc,(D8 b).2.1⟩
 rcases BI.1 a with a|a
 .exact h x a
 rw[BB.1 a];exact Vm yCg
theorem VK(n:DI):Am n=0->Cj n->∀x∈Cf n,x.fits:=by
 refine Gs (λn=>Am n=0->Cj n->∀x∈Cf n,x.fits) ?_ n;intro k e kids f g o x a;have b:=(Hg _ _ _).1 o;have d:=Ny g;simp only at d;rcases Fq g with⟨rfl,rfl⟩|⟨q,i,_⟩|⟨rfl,_,y,rfl,_⟩
 .rw[Lt]at a;rw[BB.1 a];exact⟨xCc,b.2.1⟩
 .cases kids with|nil=>simp at i|cons y r=>rw[Jd e y r BS BS]at a;rcases BI.1 a with a|a;{exact f y BU (d y BU) (b.2.2.2 y BU) x a};have⟨l,m,j⟩:=List.mem_flatten.1 a;obtain⟨z,c,rfl⟩:=BM.1 m;exact b9 BS (b.2.2.2 z (by simp[c])) (f z (by simp[c]) (d z (by simp[c])) (b.2.2.2 z (by simp[c]))) x j
 rw[Lu]at a;rcases BI.1 a with a|a
 .exact f y BU (d y BU) (b.2.2.2 y BU) x a
 rw[BB.1 a];exact Vm yCg
theorem qO{n:DI}(h:Gp n)(d:Cj n):∀x∈A8 n,x.fits:=by
 intro x f;have⟨l,g,i⟩:=List.mem_flatten.1 f;obtain⟨y,a,rfl⟩:=BM.1 g;have b:Am y=0/\Cj y:=by unfold Bq at a;split at a;{cases a};rename_i e;have c:=h.resolve_left e;split at a;{exact⟨Ny c.2.2 y a,(D8 d).2.2.2 y a⟩};rw[BB.1 a];exact⟨c.2.2,d⟩
 exact b9 (.inl rfl) b.2 (VK y b.1 b.2) x i
theorem rA(a:DJ):Em a->Bh a->∀x∈Bv a,x.fits:=by
 refine Fv (λa=>Em a->Bh a->∀x∈Bv a,x.fits) ?_ a;intro n D kids t q o x d;have⟨_,f⟩:=(Ec _ _ _).1 q;have⟨_,_,r,_,g⟩:=(Fa _ _ _).1 o;rw[Wq]at d;rcases BI.1 d with d|d
 .obtain⟨c,j,rfl⟩:=BM.1 d;exact⟨xCc,r c j⟩
 have⟨l,m,b⟩:=List.mem_flatten.1 d;obtain⟨i,hi,rfl⟩:=List.mem_iff_getElem.1 m;simp only[List.length_mapIdx]at hi;simp only[List.getElem_mapIdx,Ht,G0,FU]at b;have e:=DW hi;rcases b with b|b|b
 .unfold Eh at b;split at b;{cases b};split at b;{rw[BB.1 b];exact Vm yCg};split at b<;>(rw[BB.1 b];exact Vm yCg)
 .have s:=f _ e;have u:=g _ e;generalize kids[i]=y at*;obtain⟨w,z,A⟩:=y;exact qO ((Ec _ _ _).1 s).1 ((Fa _ _ _).1 u).1 x b
 exact t _ e (f _ e) (g _ e) x b
theorem YS{l:List DJ}(g:∀x∈l,Bh x):∀x∈Ep l,x.fits:=by
 intro x m;have⟨r,n,d⟩:=List.mem_flatten.1 m;obtain⟨a,b,rfl⟩:=BM.1 n;by_cases e:(Ap l).1=0
 .have c:=(Ou g e).1 a b;have f:=(Ko g).1 a b;have j:=c.N;have i:=c.fineA;clear c;unfold Eb at d;rcases BI.1 d with h|h;{exact VK _ j.2.2 (Ig f).1 x h};rcases BI.1 h with h|h;{exact rA a i f x h};rw[BB.1 h];exact Vm yCg
 rw[show Aj l=[] by unfold Aj;rw[BQ e]]at b;cases b
end Stil
namespace Go.Proofs.YtgnkpbhknkinoaaGreatDoor
open Tryz Go.ChangeShapes Go.WideShapes Go.ChangeAt Go.RowKit
def Bah:prog.cellsOf 3=1:=BW
def lt_of_cell{W:AU}{b o:Nat}{v:AW}(h:W.cell? (AK b o)=some v):b<W.heap.size:=by
 unfold World.cell? at h;cases a:W.heap[b]? with
 |none=>simp[a]at h|some x=>exact(BF.1 a).1
open Go.Sort Go.BigFrame
