import Derived.Test.YtfeablpbkcgdjaaGreatDoorGa
set_option maxHeartbeats 4000000
set_option maxRecDepth 100000
namespace Go.Proofs.YtfeablpbkcgdjaaGreatDoor
open Tryz Go.RowKit Go.Sort Go.BigFrame
section
open Stil
variable {B C:Nat}{v:Value}{w':World}
theorem Et {W:World}{ob:Obj}{c p:Nat}(h:c<W.heap.size):(W.alloc ob).cell? ⟨c,p,none⟩=W.cell? ⟨c,p,none⟩:=(Aa W ob).cell (p:=⟨c,p,none⟩) h
open Classical in
theorem me (ds c:List Stil.B9)(I N:Value)(w:World)(aa:Ak w I ds)(S:Ak w N c)(hl:ds.length<=1048576)(U:c.length<=1048576):
  Calls prog 51 #[I,N] w λr w'=>r=.returned (.bool (decide (ds=c)))/\Below w.heap.size w w':=by
 obtain⟨a,cap,rfl,z⟩:=aa;obtain⟨b,ac,rfl,F⟩:=S;by_cases t:ds.length=c.length
 .have T:Hid (∀i (h:i<ds.length),∃b o,a=some ⟨b,o,none⟩/\b<w.heap.size/\Iz w b (o+i*3) ds[i]):=z
  have Z:Hid (∀i (h:i<c.length),∃A o,b=some ⟨A,o,none⟩/\A<w.heap.size/\Iz w A (o+i*3) c[i]):=F;clear z F;have Y:((ds.length:Int) !=(c.length:Int))=false:=by rw[bne_eq_false_iff_eq];omega
  have ab:ds.length<=c.length:=AU
  have ad:c.length<=ds.length:=AU
  clear t;go_enter func51,ntmps51
  go_wp2
  go_loopw [13] (λi wr=>∃k:Nat,k<=ds.length/\i=.int .i64 k/\ds.take k=c.take k/\Below w.heap.size w wr) (λi _=>ds.length - (intOf i).toNat)
  case atStart=>exact⟨0,AU,rfl,AW,Below.refl _ _⟩
  case round=>
   obtain⟨k,U,rfl,K,j⟩:=hrel;have M:Hid (ds.take k=c.take k):=K;clear K;by_cases L:k<ds.length
   .have J:k<c.length:=by omega
    obtain⟨b1,o1,rfl,X,E⟩:=T k L;obtain⟨b2,o2,rfl,R,D⟩:=Z k J;obtain⟨O,P,Q⟩:=E.below j X;obtain⟨m,s,G⟩:=D.below j R;by_cases g:ds[k]=c[k]
    .have q:Hid (ds.take (k+1)=c.take (k+1)):=by
      show _=_
      rw[DO L,DO J,M.out,g]
     rw[<-g] at m s G;obtain⟨x,l⟩:∃x,x=ds[k]:=⟨_,rfl⟩
     rw[<-l] at O P Q m s G;clear l g E D
     go_wp2
     go_region
     all_goals go_wp2
     exact⟨⟨k+1,AU,by go_num,q.out,j.drew⟩,by simp[intOf];omega⟩
    .have q:Hid (¬ds=c):=by
      show ¬_
      intro h;subst h;exact g rfl
     obtain⟨x,l⟩:∃x,x=ds[k]:=⟨_,rfl⟩
     obtain⟨y,u⟩:∃y,y=c[k]:=⟨_,rfl⟩
     rw[<-l] at O P Q;rw[<-u] at m s G;rw[<-l,<-u] at g;have V:(x.kind==y.kind)=false\/(x.kind=y.kind/\(x.n==y.n)=false)\/(x.kind=y.kind/\x.n=y.n/\(x.p==y.p)=false):=by
      simp only[CJ];by_cases d:x.kind=y.kind
      .by_cases f:x.n=y.n
       .exact .inr (.inr ⟨d,f,λH=>g ((cK _ _).2 ⟨d,f,H⟩)⟩)
       .exact .inr (.inl ⟨d,f⟩)
      .exact .inl d
     clear l u g E D;rcases V with d | ⟨d,f⟩ | ⟨d,f,H⟩
     .go_wp2
      go_region
      all_goals go_wp2
      go_ret;exact⟨Ad (by rw[FO q.out]),j.drew⟩
     .rw[<-d] at m
      clear d
      go_wp2
      go_region
      all_goals go_wp2
      go_ret;exact⟨Ad (by rw[FO q.out]),j.drew⟩
     .rw[<-d] at m
      rw[<-f] at s;clear d f
      go_wp2
      go_region
      all_goals go_wp2
      go_ret;exact⟨Ad (by rw[FO q.out]),j.drew⟩
   .go_wp2
    go_ret;have e:ds=c:=by
     have:=M.out
     rwa [EC AU,EC AU] at this
    exact⟨Ad (by rw[EN e]),j⟩
 .have Y:((ds.length:Int) !=(c.length:Int))=true:=by rw[bne_iff_ne];omega
  have HN:Hid (¬ds=c):=by show ¬_;intro h;exact t (by rw[h])
  clear t z F;go_enter func51,ntmps51
  go_wp2
  go_ret;exact⟨Ad yEc,A2⟩
open Classical in
theorem ND (x y:Stil.Elem)(hx:x.fits)(k:y.fits):∀(c a:Value) (w:World),Ak w c x.args->Ak w a y.args->Calls prog 24 #[.agg #[.int .i64 x.op,c], .agg #[.int .i64 y.op,a]] w λe w'=>e=.returned (.bool (decide (x=y)))/\Below w.heap.size w w':=by
 intro c a w i j;obtain⟨op,d⟩:=x;obtain⟨g,b⟩:=y;simp only at i j;have m:Hid (∀W,Below w.heap.size w W->Calls prog 51 #[c,a] W λr w'=>r=.returned (.bool (decide (d=b)))/\Below W.heap.size W w'):=λW l=>me d b c a W (i.below l) (j.below l) hx.2.1 k.2.1
 obtain⟨s,q,rfl,_⟩:=i;obtain⟨u,z,rfl,_⟩:=j;clear hx k;by_cases f:op=g
 .subst f
  have HD:Hid (decide ((⟨op,d⟩:Stil.Elem)=⟨op,b⟩)=decide (d=b)):=by show _=_;simp
  go_enter func24,ntmps24
  go_wp2_with (go_at_call 51;refine(m _ AX).mono ?_;rintro e t ⟨rfl,o⟩)
  go_ret;exact⟨Ad (by rw[HD.out]),AX⟩
 .have A:(op==g)=false:=by rw[CJ];exact f
  have HD:Hid (¬(⟨op,d⟩:Stil.Elem)=⟨g,b⟩):=by show ¬_;intro h;exact f (Stil.Elem.mk.inj h).1
  clear f;go_enter func24,ntmps24
  go_wp2
  go_ret;exact⟨Ad yCi,AX⟩
def E6 (w:World)(B:Nat)(v:Value):Prop:=w.cell? ⟨B,0,none⟩=some v/\B<w.heap.size
theorem E6.below {w:World}(h:E6 w B v)(a:Below w.heap.size w w'):E6 w' B v:=⟨(a.cell (p:=⟨B,0,none⟩) h.2).trans h.1,B8 h.2 a.size⟩
def I0 (B:Nat):Value:=.func (.func 23) #[] #[.pointer (some ⟨B,0,none⟩)]
def QT (B C:Nat):Value:=.func (.func 26) #[] #[.pointer (some ⟨B,0,none⟩), .pointer (some ⟨C,0,none⟩)]
theorem zR {p:Prop}(h:p:=by
 go_wp2
 go_ret;have e:es=fs:=by
  have:=HE.out
  rwa [EC AU,EC AU] at this
 exact⟨Ad (by rw[EN e]),hb⟩):p:=h
open Classical in
theorem qu  (es fs:List Stil.Elem)(A:∀x∈es,∀y∈fs,∀(d c:Value) (w:World),Ak w d x.args->Ak w c y.args->Calls prog 24 #[.agg #[.int .i64 x.op,d], .agg #[.int .i64 y.op,c]] w λe w'=>e=.returned (.bool (decide (x=y)))/\Below w.heap.size w w')(v u:Value)(w:World)(Y:F6 w v es)(Z:F6 w u fs)(hl:es.length<=1048576)(hm:fs.length<=1048576):
  Calls prog 27 #[v,u, .func (.func 24) #[] #[]] w λe w'=>e=.returned (.bool (decide (es=fs)))/\Below w.heap.size w w':=by
 obtain⟨a,cap,rfl,z⟩:=Y;obtain⟨a2,ad,rfl,r⟩:=Z;by_cases l:es.length=fs.length
 .have HA:Hid (∀i (h:i<es.length),∃b o,a=some ⟨b,o,none⟩/\b<w.heap.size/\IF w b (o+i*2) es[i]):=z
  have HB:Hid (∀i (h:i<fs.length),∃b o,a2=some ⟨b,o,none⟩/\b<w.heap.size/\IF w b (o+i*2) fs[i]):=r;have IH:Hid (∀x∈es,∀y∈fs,∀(d c:Value) (w:World),Ak w d x.args->Ak w c y.args->Calls prog 24 #[.agg #[.int .i64 x.op,d], .agg #[.int .i64 y.op,c]] w λe w'=>e=.returned (.bool (decide (x=y)))/\Below w.heap.size w w'):=A;clear z r A;have T:((es.length:Int) !=(fs.length:Int))=false:=by rw[bne_eq_false_iff_eq];omega
  have ac:es.length<=fs.length:=AU
  have ae:fs.length<=es.length:=AU
  clear l;go_enter func27,ntmps27
  go_wp2
  go_loopw [17] (λi wr=>∃k:Nat,k<=es.length/\i=.int .i64 k/\es.take k=fs.take k/\Below w.heap.size w wr) (λi _=>es.length - (intOf i).toNat)
  case atStart=>exact⟨0,AU,rfl,AW,Below.refl _ _⟩
  case round=>
   obtain⟨k,hk,rfl,F,hb⟩:=hrel;have HE:Hid (es.take k=fs.take k):=F;clear F;by_cases s:k<es.length
   .have m:k<fs.length:=by omega
    obtain⟨b,o,rfl,I,K⟩:=HA k s;have O:=(K.below hb I)
    obtain⟨R,o2,rfl,L,E⟩:=HB k m;have J:=(E.below hb L)
    obtain⟨U,d,x1,H⟩:=id O;obtain⟨M,c,y1,Q⟩:=id J;obtain⟨g,f⟩:∃g,decide (es[k]=fs[k])=g:=⟨_,rfl⟩
    have j:Hid (∀W,Below wr.heap.size wr W->Calls prog 24 #[.agg #[.int .i64 es[k].op,d], .agg #[.int .i64 fs[k].op,c]] W λe w'=>e=.returned (.bool (decide (es[k]=fs[k])))/\Below W.heap.size W w'):=λW P=>IH es[k] (CG s) fs[k] (CG m) _ _ W (H.below P) (Q.below P)
    have q:Hid (g=true->es.take (k+1)=fs.take (k+1)):=by
     show _->_
     intro h;rw[h,decide_eq_true_iff] at f;rw[DO s,DO m,HE.out,f]
    have t:Hid (g=false->¬es=fs):=by
     show _->_
     intro h S;rw[h,ES] at f;subst S;exact f rfl
    rw[f] at j;obtain⟨x,N⟩:∃x,x=es[k]:=⟨_,rfl⟩
    obtain⟨y,D⟩:∃y,y=fs[k]:=⟨_,rfl⟩
    rw[<-N] at j U;rw[<-D] at j M;clear N D f K O E J HE
    .obtain⟨p0,r0,rfl,_⟩:=H
     obtain⟨yK,yJ,rfl,_⟩:=Q;have ab:=hb.size;have aa:b<wr.heap.size:=B8 I hb.size;have G:R<wr.heap.size:=B8 L hb.size;have yE:=λob=>(Et (ob:=ob) G).trans M
     have yD:=λob=>(Et (ob:=ob) G).trans y1
     cases g
     .have HF2:Hid (¬es=fs):=t rfl
      clear t q
      go_wp2_with (go_at_call 24;refine(j _ AX).mono ?_;rintro e w2 ⟨rfl,X⟩)
      go_ret;exact⟨Ad yFh,Au hb AX⟩
     .have V:Hid (es.take (k+1)=fs.take (k+1)):=q rfl
      clear t q
      go_wp2_with (go_at_call 24;refine(j _ AX).mono ?_;rintro e w2 ⟨rfl,X⟩)
      exact⟨⟨k+1,AU,by go_num,V.out,Au hb AX⟩,by simp[intOf];omega⟩
   .exact zR
 .have T:((es.length:Int) !=(fs.length:Int))=true:=by rw[bne_iff_ne];omega
  have HN:Hid (¬es=fs):=by show ¬_;intro h;exact l (by rw[h])
  clear l z r A;go_enter func27,ntmps27
  go_wp2
  go_ret;exact⟨Ad yEc,Below.refl _ _⟩
theorem tX {w:World}{u:Value}(h:E6 w B v/\E6 w C u)(a:Below w.heap.size w w'):E6 w' B v/\E6 w' C u:=⟨h.1.below a,h.2.below a⟩
def G3 (w:World)(B C:Nat):Prop:=E6 w B (I0 B)/\E6 w C (QT B C)
theorem G3.below {w:World}(h:G3 w B C)(a:Below w.heap.size w w'):G3 w' B C:=tX h a
open Classical in
theorem VP (B C:Nat)(es fs:List Stil.B5)(K:∀x∈es,∀y∈fs,∀(r f j q d m g l:Value) (w:World),G3 w B C->Ak w r x.net.one.args->Eo w f x.net.kids->F6 w j x.coils->Dc w q x.kids->Ak w d y.net.one.args->Eo w m y.net.kids->F6 w g y.coils->Dc w l y.kids->Calls prog 26 #[.agg #[.int .i64 x.net.kind, .int .i64 x.net.one.op,r,f,j,q], .agg #[.int .i64 y.net.kind, .int .i64 y.net.one.op,d,m,g,l], .pointer (some ⟨B,0,none⟩), .pointer (some ⟨C,0,none⟩)] w λe w'=>e=.returned (.bool (decide (x=y)))/\Below w.heap.size w w')(v u:Value)(w:World)(af:Dc w v es)(jM:Dc w u fs)(hl:es.length<=1048576)(hm:fs.length<=1048576)(ag:G3 w B C):
  Calls prog 28 #[v,u, .func (.func 26) #[] #[.pointer (some ⟨B,0,none⟩), .pointer (some ⟨C,0,none⟩)]] w λe w'=>e=.returned (.bool (decide (es=fs)))/\Below w.heap.size w w':=by
 obtain⟨a,cap,rfl,E⟩:=af;obtain⟨a2,ap,rfl,H⟩:=jM;have gu:Hid (∀W,Below w.heap.size w W->G3 W B C):=λW c=>ag.below c
 by_cases F:es.length=fs.length
 .have HA:Hid (∀i (h:i<es.length),∃b o,a=some ⟨b,o,none⟩/\b<w.heap.size/\P5 w b (o+i*6) es[i]):=E
  have HB:Hid (∀i (h:i<fs.length),∃b o,a2=some ⟨b,o,none⟩/\b<w.heap.size/\P5 w b (o+i*6) fs[i]):=H;have IH:Hid (∀x∈es,∀y∈fs,∀(r f j q d m g l:Value) (w:World),G3 w B C->Ak w r x.net.one.args->Eo w f x.net.kids->F6 w j x.coils->Dc w q x.kids->Ak w d y.net.one.args->Eo w m y.net.kids->F6 w g y.coils->Dc w l y.kids->Calls prog 26 #[.agg #[.int .i64 x.net.kind, .int .i64 x.net.one.op,r,f,j,q], .agg #[.int .i64 y.net.kind, .int .i64 y.net.one.op,d,m,g,l], .pointer (some ⟨B,0,none⟩), .pointer (some ⟨C,0,none⟩)] w λe w'=>e=.returned (.bool (decide (x=y)))/\Below w.heap.size w w'):=K;clear E H K;have ac:((es.length:Int) !=(fs.length:Int))=false:=by rw[bne_eq_false_iff_eq];omega
  have aw:es.length<=fs.length:=AU
  have ax:fs.length<=es.length:=AU
  clear F;go_enter func28,ntmps28
  go_wp2
  go_loopw [17] (λi wr=>∃k:Nat,k<=es.length/\i=.int .i64 k/\es.take k=fs.take k/\Below w.heap.size w wr) (λi _=>es.length - (intOf i).toNat)
  case atStart=>exact⟨0,AU,rfl,AW,Below.refl _ _⟩
  case round=>
   obtain⟨k,hk,rfl,M,hb⟩:=hrel;have HE:Hid (es.take k=fs.take k):=M;clear M;by_cases I:k<es.length
   .have G:k<fs.length:=by omega
    obtain⟨b,o,rfl,V,Y⟩:=HA k I;have S:=(P5.below hb _ _ _ Y V)
    obtain⟨b2,o2,rfl,Z,L⟩:=HB k G;have P:=(P5.below hb _ _ _ L Z)
    obtain⟨ah,j,q,x4,x5,R,ab⟩:=(S).open;obtain⟨x0,x1,r,f,x2,x3,N,aa⟩:=ah.open;obtain⟨zF,g,l,y4,y5,X,O⟩:=(P).open;obtain⟨y0,y1,d,m,y2,y3,aN,U⟩:=zF.open;obtain⟨z,t⟩:∃z,decide (es[k]=fs[k])=z:=⟨_,rfl⟩
    have A:Hid (∀W,Below wr.heap.size wr W->Calls prog 26 #[.agg #[.int .i64 es[k].net.kind, .int .i64 es[k].net.one.op,r,f,j,q], .agg #[.int .i64 fs[k].net.kind, .int .i64 fs[k].net.one.op,d,m,g,l], .pointer (some ⟨B,0,none⟩), .pointer (some ⟨C,0,none⟩)] W λe w'=>e=.returned (.bool (decide (es[k]=fs[k])))/\Below W.heap.size W w'):=λW c=>IH es[k] (CG I) fs[k] (CG G) _ _ _ _ _ _ _ _ W (gu _ (Au hb c)) (N.below c) (aa.below c) (R.below c) (ab.below c) (aN.below c) (U.below c) (X.below c) (O.below c)
    have D:Hid (z=true->es.take (k+1)=fs.take (k+1)):=by
     show _->_
     intro h;rw[h,decide_eq_true_iff] at t;rw[DO I,DO G,HE.out,t]
    have J:Hid (z=false->¬es=fs):=by
     show _->_
     intro h he;rw[h,ES] at t;subst he;exact t rfl
    rw[t] at A;obtain⟨x,Q⟩:∃x,x=es[k]:=⟨_,rfl⟩
    obtain⟨y,T⟩:∃y,y=fs[k]:=⟨_,rfl⟩
    rw[<-Q] at A x0 x1;rw[<-T] at A y0 y1;clear Q T t Y S L P HE
    .obtain⟨p0,r0,rfl,_⟩:=N
     obtain⟨yK,yJ,rfl,_⟩:=aN;obtain⟨p1,r1,rfl,_⟩:=aa;obtain⟨uo,uk,rfl,_⟩:=U;obtain⟨p2,r2,rfl,_⟩:=R;obtain⟨ak,ar,rfl,_⟩:=X;obtain⟨p3,r3,rfl,_⟩:=ab;obtain⟨aj,al,rfl,_⟩:=O;have an:=hb.size;have ai:b<wr.heap.size:=B8 V hb.size;have s:b2<wr.heap.size:=B8 Z hb.size;have yE:=λob=>(Et (ob:=ob) s).trans y0
     have yD:=λob=>(Et (ob:=ob) s).trans y1
     have ik:=λob=>(Et (ob:=ob) s).trans y2
     have tq:=λob=>(Et (ob:=ob) s).trans y3
     have ao:=λob=>(Et (ob:=ob) s).trans y4
     have au:=λob=>(Et (ob:=ob) s).trans y5
     cases z
     .have HF2:Hid (¬es=fs):=J rfl
      clear J D
      go_wp2_with (go_at_call 26;refine(A _ AX).mono ?_;rintro e w2 ⟨rfl,ae⟩)
      go_ret;exact⟨Ad yFh,Au hb AX⟩
     .have ad:Hid (es.take (k+1)=fs.take (k+1)):=D rfl
      clear J D
      go_wp2_with (go_at_call 26;refine(A _ AX).mono ?_;rintro e w2 ⟨rfl,ae⟩)
      exact⟨⟨k+1,AU,by go_num,ad.out,Au hb AX⟩,by simp[intOf];omega⟩
   .exact zR
 .have ac:((es.length:Int) !=(fs.length:Int))=true:=by rw[bne_iff_ne];omega
  have HN:Hid (¬es=fs):=by show ¬_;intro h;exact F (by rw[h])
  clear F E H K;go_enter func28,ntmps28
  go_wp2
  go_ret;exact⟨Ad yEc,Below.refl _ _⟩
open Classical in
theorem wJ (B:Nat)(es fs:List Stil.B1)(G:∀x∈es,∀y∈fs,∀(j g c f:Value) (w:World),E6 w B (I0 B)->Ak w j x.one.args->Eo w g x.kids->Ak w c y.one.args->Eo w f y.kids->Calls prog 23 #[.agg #[.int .i64 x.kind, .int .i64 x.one.op,j,g], .agg #[.int .i64 y.kind, .int .i64 y.one.op,c,f], .pointer (some ⟨B,0,none⟩)] w λe w'=>e=.returned (.bool (decide (x=y)))/\Below w.heap.size w w')(v u:Value)(w:World)(ac:Eo w v es)(jM:Eo w u fs)(hl:es.length<=1048576)(hm:fs.length<=1048576)(ad:E6 w B (I0 B)):
  Calls prog 25 #[v,u, .func (.func 23) #[] #[.pointer (some ⟨B,0,none⟩)]] w λe w'=>e=.returned (.bool (decide (es=fs)))/\Below w.heap.size w w':=by
 obtain⟨a,cap,rfl,t⟩:=ac;obtain⟨a2,ag,rfl,D⟩:=jM;have gu:Hid (∀W,Below w.heap.size w W->E6 W B (I0 B)):=λW d=>ad.below d
 by_cases z:es.length=fs.length
 .have HA:Hid (∀i (h:i<es.length),∃b o,a=some ⟨b,o,none⟩/\b<w.heap.size/\N9 w b (o+i*4) es[i]):=t
  have HB:Hid (∀i (h:i<fs.length),∃b o,a2=some ⟨b,o,none⟩/\b<w.heap.size/\N9 w b (o+i*4) fs[i]):=D;have IH:Hid (∀x∈es,∀y∈fs,∀(j g c f:Value) (w:World),E6 w B (I0 B)->Ak w j x.one.args->Eo w g x.kids->Ak w c y.one.args->Eo w f y.kids->Calls prog 23 #[.agg #[.int .i64 x.kind, .int .i64 x.one.op,j,g], .agg #[.int .i64 y.kind, .int .i64 y.one.op,c,f], .pointer (some ⟨B,0,none⟩)] w λe w'=>e=.returned (.bool (decide (x=y)))/\Below w.heap.size w w'):=G;clear t D G;have Y:((es.length:Int) !=(fs.length:Int))=false:=by rw[bne_eq_false_iff_eq];omega
  have ah:es.length<=fs.length:=AU
  have ai:fs.length<=es.length:=AU
  clear z;go_enter func25,ntmps25
  go_wp2
  go_loopw [17] (λi wr=>∃k:Nat,k<=es.length/\i=.int .i64 k/\es.take k=fs.take k/\Below w.heap.size w wr) (λi _=>es.length - (intOf i).toNat)
  case atStart=>exact⟨0,AU,rfl,AW,Below.refl _ _⟩
  case round=>
   obtain⟨k,hk,rfl,I,hb⟩:=hrel;have HE:Hid (es.take k=fs.take k):=I;clear I;by_cases E:k<es.length
   .have A:k<fs.length:=by omega
    obtain⟨b,o,rfl,P,Q⟩:=HA k E;have N:=(N9.below hb _ _ _ Q P)
    obtain⟨X,o2,rfl,R,H⟩:=HB k A;have L:=(N9.below hb _ _ _ H R)
    obtain⟨Z,x1,j,g,x2,x3,J,U⟩:=(N).open;obtain⟨T,S,c,f,y2,y3,V,K⟩:=(L).open;obtain⟨m,l⟩:∃m,decide (es[k]=fs[k])=m:=⟨_,rfl⟩
    have q:Hid (∀W,Below wr.heap.size wr W->Calls prog 23 #[.agg #[.int .i64 es[k].kind, .int .i64 es[k].one.op,j,g], .agg #[.int .i64 fs[k].kind, .int .i64 fs[k].one.op,c,f], .pointer (some ⟨B,0,none⟩)] W λe w'=>e=.returned (.bool (decide (es[k]=fs[k])))/\Below W.heap.size W w'):=λW d=>IH es[k] (CG E) fs[k] (CG A) _ _ _ _ W (gu _ (Au hb d)) (J.below d) (U.below d) (V.below d) (K.below d)
    have s:Hid (m=true->es.take (k+1)=fs.take (k+1)):=by
     show _->_
     intro h;rw[h,decide_eq_true_iff] at l;rw[DO E,DO A,HE.out,l]
    have F:Hid (m=false->¬es=fs):=by
     show _->_
     intro h he;rw[h,ES] at l;subst he;exact l rfl
    rw[l] at q;obtain⟨x,M⟩:∃x,x=es[k]:=⟨_,rfl⟩
    obtain⟨y,O⟩:∃y,y=fs[k]:=⟨_,rfl⟩
    rw[<-M] at q Z x1;rw[<-O] at q T S;clear M O l Q N H L HE
    .obtain⟨p0,r0,rfl,_⟩:=J
     obtain⟨yK,yJ,rfl,_⟩:=V;obtain⟨p1,r1,rfl,_⟩:=U;obtain⟨uo,uk,rfl,_⟩:=K;have af:=hb.size;have ae:b<wr.heap.size:=B8 P hb.size;have r:X<wr.heap.size:=B8 R hb.size;have yE:=λob=>(Et (ob:=ob) r).trans T
     have yD:=λob=>(Et (ob:=ob) r).trans S
     have ik:=λob=>(Et (ob:=ob) r).trans y2
     have tq:=λob=>(Et (ob:=ob) r).trans y3
     cases m
     .have HF2:Hid (¬es=fs):=F rfl
      clear F s
      go_wp2_with (go_at_call 23;refine(q _ AX).mono ?_;rintro e w2 ⟨rfl,ab⟩)
      go_ret;exact⟨Ad yFh,Au hb AX⟩
     .have aa:Hid (es.take (k+1)=fs.take (k+1)):=s rfl
      clear F s
      go_wp2_with (go_at_call 23;refine(q _ AX).mono ?_;rintro e w2 ⟨rfl,ab⟩)
      exact⟨⟨k+1,AU,by go_num,aa.out,Au hb AX⟩,by simp[intOf];omega⟩
   .exact zR
 .have Y:((es.length:Int) !=(fs.length:Int))=true:=by rw[bne_iff_ne];omega
  have HN:Hid (¬es=fs):=by show ¬_;intro h;exact z (by rw[h])
  clear z t D G;go_enter func25,ntmps25
  go_wp2
  go_ret;exact⟨Ad yEc,Below.refl _ _⟩
open Classical in
theorem uh (B:Nat)(n:Stil.B1):∀m:Stil.B1,Bi n->Bi m->∀(g d c i:Value) (w:World),E6 w B (I0 B)->Ak w g n.one.args->Eo w d n.kids->Ak w c m.one.args->Eo w i m.kids->Calls prog 23 #[.agg #[.int .i64 n.kind, .int .i64 n.one.op,g,d], .agg #[.int .i64 m.kind, .int .i64 m.one.op,c,i], .pointer (some ⟨B,0,none⟩)] w λe w'=>e=.returned (.bool (decide (n=m)))/\Below w.heap.size w w':=by
 induction n using Fv with
 | h k e kids P=>
  intro m M G g d c i w j q s u z;obtain⟨t,f,b⟩:=m;obtain⟨_,K,O,L⟩:=(Gn _ _ _).1 M;obtain⟨_,J,Q,F⟩:=(Gn _ _ _).1 G;simp only at q s u z;have o:Hid (∀W,Below w.heap.size w W->Calls prog 24 #[.agg #[.int .i64 e.op,g], .agg #[.int .i64 f.op,c]] W λr w'=>r=.returned (.bool (decide (e=f)))/\Below W.heap.size W w'):=λW a=>ND e f K J g c W (q.below a) (u.below a)
  have N:Hid (∀W,Below w.heap.size w W->Calls prog 25 #[d,i, .func (.func 23) #[] #[.pointer (some ⟨B,0,none⟩)]] W λr w'=>r=.returned (.bool (decide (kids=b)))/\Below W.heap.size W w'):=λW a=>wJ B kids b (λx H y R=>P x H y (L x H) (F y R)) d i W (s.below a) (z.below a) O Q (j.below a)
  have S:Hid (∀W,Below w.heap.size w W->W.cell? ⟨B,0,none⟩=some (.func (.func 23) #[] #[.pointer (some ⟨B,0,none⟩)])):=λW a=>(j.below a).1
  obtain⟨V,T,rfl,_⟩:=q;obtain⟨p1,r1,rfl,_⟩:=s;obtain⟨p2,X,rfl,_⟩:=u;obtain⟨U,r3,rfl,_⟩:=z;clear P M K O L G J Q F j;by_cases l:k=t
  .subst l
   cases hd:decide (e=f)
   .have HD:Hid (¬(⟨k,e,kids⟩:Stil.B1)=⟨k,f,b⟩):=by show ¬_;rw[ES] at hd;intro h;exact hd (Stil.B1.mk.inj h).2.1
    rw[hd] at o;clear hd;go_enter func23,ntmps23
    go_wp2_with (go_at_call 24;refine(o _ AX).mono ?_;rintro e I ⟨rfl,A⟩)
    go_ret;exact⟨Ad yCi,AX⟩
   .have HD:Hid (decide ((⟨k,e,kids⟩:Stil.B1)=⟨k,f,b⟩)=decide (kids=b)):=by show _=_;rw[decide_eq_true_iff] at hd;simp[hd]
    rw[hd] at o;clear hd;obtain⟨D,E⟩:∃D,D=decide (kids=b):=⟨_,rfl⟩
    rw[<-E] at N HD;clear E;go_enter func23,ntmps23
    go_wp2_with (first | (go_at_call 24;refine(o _ AX).mono ?_;rintro e I ⟨rfl,A⟩;obtain⟨hc,Y⟩:=Ff A;have j:=S I AX) | (go_at_call 25;refine(N _ AX).mono ?_;rintro e Z ⟨rfl,ab⟩))
    go_ret;exact⟨Ad (by rw[HD.out]),AX⟩
  .have aa:(k==t)=false:=by rw[CJ];exact l
   have HD:Hid (¬(⟨k,e,kids⟩:Stil.B1)=⟨t,f,b⟩):=by show ¬_;intro h;exact l (Stil.B1.mk.inj h).1
   clear l;go_enter func23,ntmps23
   go_wp2
   go_ret;exact⟨Ad yCi,AX⟩
open Classical in
theorem uj (B C:Nat)(n:Stil.B5):∀m:Stil.B5,Ba n->Ba m->∀(D q t A o z s u:Value) (w:World),G3 w B C->Ak w D n.net.one.args->Eo w q n.net.kids->F6 w t n.coils->Dc w A n.kids->Ak w o m.net.one.args->Eo w z m.net.kids->F6 w s m.coils->Dc w u m.kids->Calls prog 26 #[.agg #[.int .i64 n.net.kind, .int .i64 n.net.one.op,D,q,t,A], .agg #[.int .i64 m.net.kind, .int .i64 m.net.one.op,o,z,s,u], .pointer (some ⟨B,0,none⟩), .pointer (some ⟨C,0,none⟩)] w λe w'=>e=.returned (.bool (decide (n=m)))/\Below w.heap.size w w':=by
 induction n using Fb with
 | h n i kids ih=>
  intro m R V D q t A o z s u w f G M I N O K L H;obtain⟨b,j,g⟩:=m;obtain⟨hn,ad,ac,T,Q⟩:=(Eu _ _ _).1 R;obtain⟨X,Z,Y,ae,ab⟩:=(Eu _ _ _).1 V;simp only at G M I N O K L H;have k:Hid (∀W,Below w.heap.size w W->Calls prog 23 #[.agg #[.int .i64 n.kind, .int .i64 n.one.op,D,q], .agg #[.int .i64 b.kind, .int .i64 b.one.op,o,z], .pointer (some ⟨B,0,none⟩)] W λr w'=>r=.returned (.bool (decide (n=b)))/\Below W.heap.size W w'):=λW a=>uh B n b hn X D q o z W (f.1.below a) (G.below a) (M.below a) (O.below a) (K.below a)
  have F:Hid (∀W,Below w.heap.size w W->Calls prog 27 #[t,s, .func (.func 24) #[] #[]] W λr w'=>r=.returned (.bool (decide (i=j)))/\Below W.heap.size W w'):=λW a=>qu i j (λx E y J=>ND x y (ac x E) (Y y J)) t s W (I.below a) (L.below a) ad Z
  have S:Hid (∀W,Below w.heap.size w W->Calls prog 28 #[A,u, .func (.func 26) #[] #[.pointer (some ⟨B,0,none⟩), .pointer (some ⟨C,0,none⟩)]] W λr w'=>r=.returned (.bool (decide (kids=g)))/\Below W.heap.size W w'):=λW a=>VP B C kids g (λx E y J=>ih x E y (Q x E) (ab y J)) A u W (N.below a) (H.below a) T ae (f.below a)
  have gY:Hid (∀W,Below w.heap.size w W->W.cell? ⟨C,0,none⟩=some (.func (.func 26) #[] #[.pointer (some ⟨B,0,none⟩), .pointer (some ⟨C,0,none⟩)])):=λW a=>(f.2.below a).1
  have ag:w.cell? ⟨B,0,none⟩=some (.func (.func 23) #[] #[.pointer (some ⟨B,0,none⟩)]):=f.1.1;have ah:=f.1.2;have an:∀ob iy,((w.alloc ob).alloc iy).cell? ⟨B,0,none⟩=some (.func (.func 23) #[] #[.pointer (some ⟨B,0,none⟩)]):=λob iy=>(Et Ax).trans ((Et ah).trans ag)
  obtain⟨p0,r0,rfl,_⟩:=G;obtain⟨p1,r1,rfl,_⟩:=M;obtain⟨p2,r2,rfl,_⟩:=I;obtain⟨p3,r3,rfl,_⟩:=N;obtain⟨p4,r4,rfl,_⟩:=O;obtain⟨p5,r5,rfl,_⟩:=K;obtain⟨p6,r6,rfl,_⟩:=L;obtain⟨p7,r7,rfl,_⟩:=H;clear ih R hn ad ac T Q V X Z Y ae ab f;cases hd:decide (n=b)
  .have HD:Hid (¬(⟨n,i,kids⟩:Stil.B5)=⟨b,j,g⟩):=by show ¬_;rw[ES] at hd;intro h;exact hd (Stil.B5.mk.inj h).1
   rw[hd] at k;clear hd;go_enter func26,ntmps26
   go_wp2_with (go_at_call 23;refine(k _ AX).mono ?_;rintro e l ⟨rfl,c⟩)
   go_ret;exact⟨Ad yCi,AX⟩
  .rw[decide_eq_true_iff] at hd
   cases d:decide (i=j)
   .have HD:Hid (¬(⟨n,i,kids⟩:Stil.B5)=⟨b,j,g⟩):=by show ¬_;rw[ES] at d;intro h;exact d (Stil.B5.mk.inj h).2.1
    rw[d] at F;rw[EN hd] at k;clear hd d;go_enter func26,ntmps26
    go_wp2_with (first | (go_at_call 23;refine(k _ AX).mono ?_;rintro e l ⟨rfl,c⟩;obtain⟨hc,hf⟩:=Ff c;have af:w.heap.size<l.heap.size:=B8 Ax c.size;have ai:w.heap.size+1<l.heap.size:=B8 AW c.size) | (go_at_call 27;refine(F _ AX).mono ?_;rintro e w2 ⟨rfl,U⟩))
    go_ret;exact⟨Ad yCi,AX⟩
   .rw[decide_eq_true_iff] at d
    have HD:Hid (decide ((⟨n,i,kids⟩:Stil.B5)=⟨b,j,g⟩)=decide (kids=g)):=by show _=_;simp[hd,d]
    rw[EN d] at F;rw[EN hd] at k;clear hd d;obtain⟨P,aa⟩:∃P,P=decide (kids=g):=⟨_,rfl⟩
    rw[<-aa] at S HD;clear aa;go_enter func26,ntmps26
    go_wp2_with (first | (go_at_call 23;refine(k _ AX).mono ?_;rintro e l ⟨rfl,c⟩;obtain⟨hc,hf⟩:=Ff c;have af:w.heap.size<l.heap.size:=B8 Ax c.size;have ai:w.heap.size+1<l.heap.size:=B8 AW c.size) | (go_at_call 27;refine(F _ AX).mono ?_;rintro e w2 ⟨rfl,U⟩;obtain⟨al,aj⟩:=Ff U;have f:=gY w2 AX) | (go_at_call 28;refine(S _ AX).mono ?_;rintro e w3 ⟨rfl,ak⟩))
    go_ret;exact⟨Ad (by rw[HD.out]),AX⟩
open Classical in
theorem rR (b lb:List Stil.B5)(v u:Value)(w:World)(j:Dc w v b)(l:Dc w u lb)(o:∀x∈b,Ba x)(k:∀x∈lb,Ba x)(hl:b.length<=1048576)(t:lb.length<=1048576):
  Calls prog 8 #[v,u] w λr w'=>r=.returned (.bool (decide (b=lb)))/\Below w.heap.size w w':=by
 have I:∀(c:Fn) (first cap:Array Value) (w:World),(Instr.makeFunc c first cap).run prog w=.ok (.func c first cap) w:=λ_ _ _ _=>rfl
 have H:∀(c:Fn) (d f:Array Value) (P:Program) (w:World) (a:Addr) (m:Mode),(store a (.func c d f) m).run P w=stored P w a (.func c d f) m:=λc d f P w a m=>run_store P w a _ m rfl
 have q:Hid (∀W,Below w.heap.size w W->∀B C,G3 W B C->Calls prog 28 #[v,u, .func (.func 26) #[] #[.pointer (some ⟨B,0,none⟩), .pointer (some ⟨C,0,none⟩)]] W λr w'=>r=.returned (.bool (decide (b=lb)))/\Below W.heap.size W w'):=λW p B C A=>VP B C b lb (λx z y s=>uj B C x y (o x z) (k y s)) v u W (j.below p) (l.below p) hl t A
 obtain⟨F,E,rfl,_⟩:=j;obtain⟨J,K,rfl,_⟩:=l;obtain⟨g,i⟩:∃g,g=decide (b=lb):=⟨_,rfl⟩
 rw[<-i] at q ⊢;clear i o k;go_enter func8,ntmps8
 go_wp2_with (go_at_call 28;refine(q _ AX w.heap.size (w.heap.size+1) ⟨⟨?b1,?b2⟩,⟨?b3,?b4⟩⟩).mono ?_)
 case b1=>simp[go_sem,I0]
 case b2=>simp;omega
 case b3=>simp[go_sem,QT]
 case b4=>simp
 rintro e G ⟨rfl,D⟩
 go_wp2
 go_ret;exact⟨rfl,AX⟩
end
open Classical in
theorem sM (x y:Stil.Dj)(hx:x.fits)(l:y.fits):∀(d b:Value) (w:World),Ak w d x.one.args->Ak w b y.one.args->Calls prog 31 #[.agg #[.int .i64 x.code, .int .i64 x.one.op,d], .agg #[.int .i64 y.code, .int .i64 y.one.op,b]] w λe w'=>e=.returned (.bool (decide (x=y)))/\Below w.heap.size w w':=by
 intro d b w i k;obtain⟨a,f⟩:=x;obtain⟨j,g⟩:=y;simp only at i k;have o:=Ab (λW m=>ND f g hx.2 l.2 d b W (i.below m) (k.below m));obtain⟨s,r,rfl,_⟩:=i;obtain⟨u,z,rfl,_⟩:=k;clear hx l;by_cases c:a=j
 .subst c
  have HD:Hid (decide ((⟨a,f⟩:Stil.Dj)=⟨a,g⟩)=decide (f=g)):=by show _=_;simp
  go_enter func31,ntmps31
  go_wp2_with (go_at_call 24;refine(o _ AX).mono ?_;rintro e t ⟨rfl,q⟩)
  go_ret;exact⟨Ad (by rw[HD.out]),AX⟩
 .have A:(a==j)=false:=by rw[CJ];exact c
  have HD:Hid (¬(⟨a,f⟩:Stil.Dj)=⟨j,g⟩):=by show ¬_;intro h;exact c (Stil.Dj.mk.inj h).1
  clear c;go_enter func31,ntmps31
  go_wp2
  go_ret;exact⟨Ad yCi,AX⟩
open Classical in
theorem qs  (es fs:List Stil.Dj)(D:∀x∈es,∀y∈fs,∀(z g:Value) (w:World),Ak w z x.one.args->Ak w g y.one.args->Calls prog 31 #[.agg #[.int .i64 x.code, .int .i64 x.one.op,z], .agg #[.int .i64 y.code, .int .i64 y.one.op,g]] w λe w'=>e=.returned (.bool (decide (x=y)))/\Below w.heap.size w w')(v u:Value)(w:World)(aa:Hu w v es)(jM:Hu w u fs)(hl:es.length<=1048576)(hm:fs.length<=1048576):
  Calls prog 30 #[v,u, .func (.func 31) #[] #[]] w λe w'=>e=.returned (.bool (decide (es=fs)))/\Below w.heap.size w w':=by
 obtain⟨a,cap,rfl,A⟩:=aa;obtain⟨a2,ae,rfl,r⟩:=jM;by_cases j:es.length=fs.length
 .have HA:=Ab A
  have HB:=Ab r;have IH:=Ab D;clear A r D;have T:((es.length:Int) !=(fs.length:Int))=false:=by rw[bne_eq_false_iff_eq];omega
  have ad:es.length<=fs.length:=AU
  have af:fs.length<=es.length:=AU
  clear j;go_enter func30,ntmps30
  go_wp2
  go_loopw [17] (λi wr=>∃k:Nat,k<=es.length/\i=.int .i64 k/\es.take k=fs.take k/\Below w.heap.size w wr) (λi _=>es.length - (intOf i).toNat)
  case atStart=>exact⟨0,AU,rfl,AW,Below.refl _ _⟩
  case round=>
   obtain⟨k,hk,rfl,G,hb⟩:=hrel;have HE:=Ab G;clear G;by_cases s:k<es.length
   .have l:k<fs.length:=by omega
    obtain⟨b,o,rfl,I,K⟩:=HA k s;have P:=(K.below hb I)
    obtain⟨b2,o2,rfl,L,F⟩:=HB k l;have J:=(F.below hb L)
    obtain⟨U,X,z,x2,H⟩:=id P;obtain⟨N,M,g,V,R⟩:=id J;obtain⟨d,c⟩:∃d,decide (es[k]=fs[k])=d:=⟨_,rfl⟩
    have f:=Ab (λW Q=>IH es[k] (CG s) fs[k] (CG l) _ _ W (H.below Q) (R.below Q));have m:Hid (d=true->es.take (k+1)=fs.take (k+1)):=by
     show _->_
     intro h;rw[h,decide_eq_true_iff] at c;rw[DO s,DO l,HE.out,c]
    have t:Hid (d=false->¬es=fs):=by
     show _->_
     intro h S;rw[h,ES] at c;subst S;exact c rfl
    rw[c] at f;obtain⟨x,O⟩:∃x,x=es[k]:=⟨_,rfl⟩
    obtain⟨y,E⟩:∃y,y=fs[k]:=⟨_,rfl⟩
    rw[<-O] at f U X;rw[<-E] at f N M;clear O E c K P F J HE
    .obtain⟨p0,r0,rfl,_⟩:=H
     obtain⟨yK,yJ,rfl,_⟩:=R;have ac:=hb.size;have ab:=B8 I hb.size;have q:=B8 L hb.size;have yE:=λob=>(Et (ob:=ob) q).trans N
     have yD:=λob=>(Et (ob:=ob) q).trans M
     have ik:=λob=>(Et (ob:=ob) q).trans V
     cases d
     .have HF2:=Ab (t rfl)
      clear t m
      go_wp2_with (go_at_call 31;refine(f _ AX).mono ?_;rintro e w2 ⟨rfl,Z⟩)
      go_ret;exact⟨Ad yFh,Au hb AX⟩
     .have Y:=Ab (m rfl)
      clear t m
      go_wp2_with (go_at_call 31;refine(f _ AX).mono ?_;rintro e w2 ⟨rfl,Z⟩)
      exact⟨⟨k+1,AU,by go_num,Y.out,Au hb AX⟩,by simp[intOf];omega⟩
   .exact zR
 .have T:((es.length:Int) !=(fs.length:Int))=true:=by rw[bne_iff_ne];omega
  have HN:Hid (¬es=fs):=by show ¬_;intro h;exact j (by rw[h])
  clear j A r D;go_enter func30,ntmps30
  go_wp2
  go_ret;exact⟨Ad yEc,Below.refl _ _⟩
open Classical in
theorem sE (es a:List Stil.Dj)(v u:Value)(w:World)(c:Hu w v es)(b:Hu w u a)(d:∀x∈es,x.fits)(hg:∀x∈a,x.fits)(hl:es.length<=1048576)(g:a.length<=1048576):
  Calls prog 10 #[v,u] w λe w'=>e=.returned (.bool (decide (es=a)))/\Below w.heap.size w w':=by
 have H:=Ab (λW h=>qs es a (λx i y f=>sM x y (d x i) (hg y f)) v u W (c.below h) (b.below h) hl g);obtain⟨p,m,rfl,-⟩:=c;obtain⟨l,o,rfl,-⟩:=b;go_enter func10,ntmps10
 go_wp2_with (go_at_call 30;refine(H _ AX).mono ?_;rintro e j ⟨rfl,k⟩)
 go_ret;exact⟨rfl,AX⟩
open Stil
theorem zAa {p:Prop}(h:p:=by
 go_enter func74,ntmps74
 go_wp2_with (go_at_call 115;refine(HK _ A2).mono ?_;rw[hct];rintro e' w1 ⟨rfl,hb1⟩)
 go_ret;exact⟨Fa BZ,A2⟩):p:=h
theorem oq (n:Stil.B1):∀(A E:Value) (w:World),Ak w A n.one.args->Eo w E n.kids->Bi n->
  Calls prog 74 #[.agg #[.int .i64 n.kind, .int .i64 n.one.op,A,E]] w λe w'=>e=.returned (.int .i64 (Aj n))/\Below w.heap.size w w':=by
 induction n using Fv with
 | h k e kids ih=>
  intro A E w z G U;simp only at z G;obtain⟨_,he,ai,ab⟩:=(Gn _ _ _).1 U;obtain⟨_,ah,ad⟩:=he;have HF:=Ab ab;have IH:=Ab ih;have HK:=Ab (λW J=>mL e.op A e.args W (z.below J) ad AU);clear ih ab U;obtain⟨a,cap,rfl,hc⟩:=G;have HC:=Ab hc;obtain⟨aa,H,rfl,_⟩:=z;have y:=Ab (Lt k e kids);clear hc ad;obtain⟨d,T⟩:∃d,d=e.args.length:=⟨_,rfl⟩
  obtain⟨c,Q⟩:∃c,c=kids.length:=⟨_,rfl⟩
  have nH:=Ab Q;rw[<-T] at ah y HK ⊢;rw[<-Q] at ai y ⊢;clear T Q;by_cases K:k=1
  .subst K
   by_cases P:0<c
   .have HX:Hid (Aj ⟨1,e,kids⟩=2):=by show _=_;rw[y.out,if_pos rfl,if_pos P]
    go_enter func74,ntmps74
    go_wp2
    go_ret;exact⟨Fa BZ,A2⟩
   .have ao:decide (0<(c:Int))=false:=by rw[ES];omega
    cases hct:Dl e.op e.args
    .have HX:Hid (Aj ⟨1,e,kids⟩=3):=by show _=_;rw[y.out,if_pos rfl,if_neg P,hct];rfl
     exact zAa
    .have HX:Hid (Aj ⟨1,e,kids⟩=0):=by show _=_;rw[y.out,if_pos rfl,if_neg P,hct];rfl
     exact zAa
  .have an:(k==1)=false:=by rw[CJ];exact K
   have D:Hid (Aj ⟨k,e,kids⟩=if V8 k e.op d c then 2 else Ap (kids.map Aj)):=by show _=_;rw[y.out,if_neg K]
   clear y K;go_enter func74,ntmps74;go_upto_region 7 with fail
   go_cut [0,53] (λs0 ak wc=>s0=.agg #[.int .i64 k, .int .i64 e.op, .slice aa d H, .slice a c cap]/\ak=.bool (V8 k e.op d c)/\wc=w.alloc (.cells #[.int .i64 k, .int .i64 e.op, .slice aa d H, .slice a c cap] 54))
   case first=>
    have l:Hid (V8 k e.op d c=(decide (k<2) || decide (4<k) || e.op !=0 || decide ((0:Int)<(d:Int)) || (c:Int)==0 || (k==4 && (c:Int) !=1))):=rfl;cases m:decide (k<2)
    .cases u:decide (4<k)
     .cases r:(e.op !=0)
      .have g:Hid (e.op=0):=(by simpa using r:e.op=0)
       cases t:decide ((0:Int)<(d:Int))
       .have q:Hid (d=0):=(by have:=of_decide_eq_false t;omega:d=0)
        cases F:((c:Int)==0)
        .cases I:(k==4)
         ·(go_wp2_with fail;go_meet;exact⟨by first | rfl | simp[g.out,q.out],by rw[l.out,m,u,r,t,F,I];rfl,by first | rfl | simp[g.out,q.out]⟩)
         .have N:Hid (k=4):=(by simpa using I:k=4)
          cases R:((c:Int) !=1)
          .have H1:Hid (c=1):=(by have:=bne_eq_false_iff_eq.1 R;omega:c=1)
           (go_wp2_with fail;go_meet;exact⟨by first | rfl | simp[g.out,q.out,N.out,H1.out],by rw[l.out,m,u,r,t,F,I,R];rfl,by first | rfl | simp[g.out,q.out,N.out,H1.out]⟩)
          ·(go_wp2_with fail;go_meet;exact⟨by first | rfl | simp[g.out,q.out,N.out],by rw[l.out,m,u,r,t,F,I,R];rfl,by first | rfl | simp[g.out,q.out,N.out]⟩)
        .have V:Hid (c=0):=(by have:=beq_iff_eq.1 F;omega:c=0)
         (go_wp2_with fail;go_meet;exact⟨by first | rfl | simp[g.out,q.out,V.out],by rw[l.out,m,u,r,t,F];rfl,by first | rfl | simp[g.out,q.out,V.out]⟩)
       .have p4:0<d:=(by have:=of_decide_eq_true t;omega:0<d)
        have p5:(0:Int)<(d:Int):=(by omega:(0:Int)<(d:Int))
        (go_wp2_with fail;go_meet;exact⟨by first | rfl | simp[g.out],by rw[l.out,m,u,r,t];rfl,by first | rfl | simp[g.out]⟩)
      ·(go_wp2_with fail;go_meet;exact⟨A0,by rw[l.out,m,u,r];rfl,A0⟩)
     ·(go_wp2_with fail;go_meet;exact⟨A0,by rw[l.out,m,u];rfl,A0⟩)
    ·(go_wp2_with fail;go_meet;exact⟨A0,by rw[l.out,m];rfl,A0⟩)
   case rest=>
    obtain⟨rfl,rfl,rfl⟩:=hcut;cases ac:V8 k e.op d c
    .rw[ac] at D
     have X:Hid (Aj ⟨k,e,kids⟩=Ap (kids.map Aj)):=D.out;clear D
     go_wp2
     go_loopw [3,4] (λi _ wr=>∃j:Nat,j<=c/\i=.int .i64 j/\Ap (kids.map Aj)=Ap ((kids.drop j).map Aj)/\Below (w.heap.size+1) (w.alloc (.cells #[.int .i64 k, .int .i64 e.op, .slice aa d H, .slice a c cap] 54)) wr) (λi _ _=>c - (intOf i).toNat)
     case atStart=>exact⟨0,AU,rfl,rfl,Below.refl _ _⟩
     case round=>
      obtain⟨j,hj,rfl,ae,f⟩:=hrel;have S:=Ab ae;clear ae;have hz:w.heap.size<wr.heap.size:=by have:=f.size;simp at this;omega
      have c0:wr.cell? ⟨w.heap.size,0,none⟩=some (.int .i64 k):=A3 f;have f0:wr.frozen? ⟨w.heap.size,0,none⟩=false:=A4 f;have c1:wr.cell? ⟨w.heap.size,1,none⟩=some (.int .i64 e.op):=A3 f;have f1:wr.frozen? ⟨w.heap.size,1,none⟩=false:=A4 f;have c2:wr.cell? ⟨w.heap.size,2,none⟩=some (.slice aa d H):=A3 f;have f2:wr.frozen? ⟨w.heap.size,2,none⟩=false:=A4 f;have c3:wr.cell? ⟨w.heap.size,3,none⟩=some (.slice a c cap):=A3 f;have f3:wr.frozen? ⟨w.heap.size,3,none⟩=false:=A4 f;have af:=(Aa _ _).trans (f.mono AU);by_cases ar:j<c
      .have L:j<kids.length:=by have:=nH.out;omega
       obtain⟨b,o,rfl,aj,hn⟩:=HC j L;obtain⟨x0,x1,A,E,x2,x3,z,G⟩:=(N9.below af _ _ _ hn aj).open;have M:=Ab (λW J=>IH kids[j] (CG L) A E W (z.below J) (G.below J) (HF _ (CG L)));have O:Hid (Ap ((kids.drop j).map Aj)=if 0<Aj kids[j] then Aj kids[j] else Ap ((kids.drop (j+1)).map Aj)):=by
        show _=_
        rw[FZ L,CN];rfl
       obtain⟨s,hs⟩:∃s,s=Aj kids[j]:=⟨_,rfl⟩
       obtain⟨x,Z⟩:∃x,x=kids[j]:=⟨_,rfl⟩
       rw[<-hs] at M O;rw[<-Z] at M x0 x1;obtain⟨ap,vO,rfl,_⟩:=z;obtain⟨a',al,rfl,_⟩:=G;clear hs Z hn;by_cases ag:0<s
       .go_wp2_with (go_at_call 74;refine(M _ A2).mono ?_;rintro e w2 ⟨rfl,Y⟩)
        go_ret;exact⟨Fa (by rw[X.out,S.out,O.out,if_pos ag]),A2⟩
       .go_wp2_with (go_at_call 74;refine(M _ A2).mono ?_;rintro e w2 ⟨rfl,Y⟩)
        refine⟨⟨j+1,AU,by go_num,?_,f.trans (Y.mono hz)⟩,by simp[intOf];omega⟩;rw[S.out,O.out,if_neg AU]
      .go_wp2
       go_ret;refine⟨Fa ?_,af⟩;rw[X.out,S.out,GH (by have:=nH.out;omega)];rfl
    .rw[ac] at D
     go_wp2
     go_ret;exact⟨Fa (by rw[D.out];rfl),A2⟩
theorem zOa {p:Prop}(h:p:=by
 show _=_
 rw[hR1,HW.out,HOW.out];simp only[hpos,and_false,C5];cases Dn coils
 .simp only[DR,C5]
  split<;>simp
 .simp):p:=h
theorem pP (n:Stil.B5):∀(root:Bool) (y t A G:Value) (w:World),Ak w y n.net.one.args->Eo w t n.net.kids->F6 w A n.coils->Dc w G n.kids->Ba n->
  Calls prog 42 #[.agg #[.int .i64 n.net.kind, .int .i64 n.net.one.op,y,t,A,G], .bool root] w λe w'=>e=.returned (.int .i64 (if root=true/\Ai n.net=true then 4 else Bo n))/\Below w.heap.size w w':=by
 induction n using Fb with
 | h n coils kids ih=>
  intro root y t A G w E H Q Z ao;simp only at E H Q Z;obtain⟨ac,al,ah,aA,aX⟩:=G9 ao;simp only at ac al ah aA aX;have ai:=Dw ac
  have IH:Hid (∀x∈kids,∀(y t A G:Value) (w:World),Ak w y x.net.one.args->Eo w t x.net.kids->F6 w A x.coils->Dc w G x.kids->
   Calls prog 42 #[.agg #[.int .i64 x.net.kind, .int .i64 x.net.one.op,y,t,A,G], .bool false] w λe w'=>e=.returned (.int .i64 (Bo x))/\Below w.heap.size w w'):=λx P y t A G w h1 h2 h3 h4=>(ih x P false y t A G w h1 h2 h3 h4 (aX x P)).mono λe w' ⟨he,hb⟩=>⟨by rw[he];simp,hb⟩
  have r:=Ab (λW q=>NU n y t W (E.below q) (H.below q) (by have:=ai.2.1.2.1;omega) (by have:=ai.2.2.1;omega));have jP:=Ab (λW q=>oq n y t W (E.below q) (H.below q) ac);have kX:=Ab ah;have aN:Hid (∀i (h:i<coils.length),∃b o,True/\b<w.heap.size/\IF w b (o+i*2) coils[i]/\∃cap,A=.slice (some ⟨b,o,none⟩) coils.length cap):=by
   intro i hi;obtain⟨a,cap,hv,hc⟩:=Q;obtain⟨b,o,ha,hb,P⟩:=hc i hi;exact⟨b,o,trivial,hb,P,cap,by rw[hv,ha]⟩
  obtain⟨O,U,rfl,_⟩:=E;obtain⟨J,K,rfl,_⟩:=H;obtain⟨X,T,rfl,ap⟩:=Q;obtain⟨N,L,rfl,az⟩:=Z;have yB:=Ab ap;have aP:=Ab az;have HW:Hid (Bo ⟨n,coils,kids⟩=if 0<Cb ⟨n,coils,kids⟩ then Cb ⟨n,coils,kids⟩ else Ap (kids.map Bo)):=Vq _;have HOW:Hid (Cb ⟨n,coils,kids⟩=if Ai n=false/\0<Aj n then Aj n else if Dn coils then 3 else if coils.length=0/\kids.length=0 then 5 else 0):=rfl;have aQ:Hid (∀x∈kids,0<=Bo x/\Bo x<=5):=λx _=>Pg x
  have aK:=Ji n;simp only;obtain⟨k,aG⟩:∃k,k=Ai n:=⟨_,rfl⟩
  obtain⟨z,ar⟩:∃z,z=Aj n:=⟨_,rfl⟩
  rw[<-aG] at r HOW ⊢;rw[<-ar] at jP HOW aK;obtain⟨f,ag⟩:∃f,f=coils.length:=⟨_,rfl⟩
  obtain⟨g,ak⟩:∃g,g=kids.length:=⟨_,rfl⟩
  have qB:=Ab ag;have nH:=Ab ak;rw[<-ag] at al HOW ⊢;rw[<-ak] at aA HOW ⊢;clear ih ao ac ah aX ap az ai aG ar ag ak aN;obtain⟨R,l⟩:∃R,R=(if root=true/\k=true then 4 else Bo ⟨n,coils,kids⟩):=⟨_,rfl⟩
  rw[<-l];have aM:(root=true/\k=true)\/(root=true/\k=false/\0<z)\/(root=false/\k=false/\0<z)\/(root=false/\k=false/\¬0<z)\/(root=false/\k=true)\/(root=true/\k=false/\¬0<z):=by
   cases root<;>cases k<;>by_cases h:0<z<;>simp[h]
  rcases aM with⟨rfl,rfl⟩ | ⟨rfl,rfl,hpos⟩ | ⟨rfl,rfl,hpos⟩ | ⟨hr,F,hpos⟩ | ⟨hr,F⟩ | ⟨hr,F,hpos⟩
  .have HX:Hid (R=4):=by show _=_;rw[l];simp
   clear l;go_enter func42,ntmps42
   go_wp2_with (go_at_call 53;refine(r _ AX).mono ?_;rintro e Y ⟨rfl,d⟩)
   go_ret;exact⟨Fa BZ,AX⟩
  .have hR1:R=Bo ⟨n,coils,kids⟩:=by rw[l];simp
   clear l;have iK:=r;have HX:Hid (R=z):=by show _=_;rw[hR1,HW.out,HOW.out];simp[hpos]
   clear hR1;go_enter func42,ntmps42
   go_wp2_with (first | (go_at_call 53;refine(r _ AX).mono ?_;clear r;rintro e w0 ⟨rfl,u⟩;obtain⟨aw,aB⟩:=Ff u;have an:w.heap.size<w0.heap.size:=B8 AW u.size) | (go_at_call 53;refine(iK _ AX).mono ?_;rintro e Y ⟨rfl,d⟩;obtain⟨I,S⟩:=Ff d) | (go_at_call 74;refine(jP _ AX).mono ?_;rintro e w2 ⟨rfl,M⟩))
   go_ret;exact⟨Fa BZ,AX⟩
  .have hR1:R=Bo ⟨n,coils,kids⟩:=by rw[l];simp
   clear l;have HX:Hid (R=z):=by show _=_;rw[hR1,HW.out,HOW.out];simp[hpos]
   clear hR1;go_enter func42,ntmps42
   go_wp2_with (first | (go_at_call 53;refine(r _ AX).mono ?_;rintro e Y ⟨rfl,d⟩;obtain⟨I,S⟩:=Ff d) | (go_at_call 74;refine(jP _ AX).mono ?_;rintro e w2 ⟨rfl,M⟩))
   go_ret;exact⟨Fa BZ,AX⟩
  all_goals first
   | (
     obtain rfl:root=false:=hr;obtain rfl:k=false:=F;have hR1:R=Bo ⟨n,coils,kids⟩:=by rw[l];simp
     clear l;have aa:Hid (R=if Dn coils then 3 else if f=0/\g=0 then 5 else Ap (kids.map Bo)):=by
      exact zOa
     clear hR1;go_enter func42,ntmps42
     go_wp2_with (first | (go_at_call 53;refine(r _ AX).mono ?_;rintro e Y ⟨rfl,d⟩;obtain⟨I,S⟩:=Ff d) | (go_at_call 74;refine(jP _ AX).mono ?_;rintro e w2 ⟨rfl,M⟩))
     have af:Below (w.heap.size+1) (w.alloc (.cells #[.int .i64 n.kind, .int .i64 n.one.op, .slice O n.one.args.length U, .slice J n.kids.length K, .slice X f T, .slice N g L] 60)) w2:=by
      have h1:=d.size;simp only[World.size_alloc] at d h1;exact d.trans (M.mono h1)
     clear d M I S)
   | (
     obtain rfl:root=false:=hr;obtain rfl:k=true:=F;have hR1:R=Bo ⟨n,coils,kids⟩:=by rw[l];simp
     clear l;have aa:Hid (R=if Dn coils then 3 else if f=0/\g=0 then 5 else Ap (kids.map Bo)):=by
      show _=_
      rw[hR1,HW.out,HOW.out];simp only[Bool.true_eq_false,false_and,C5];cases Dn coils
      .simp only[DR,C5]
       split<;>simp
      .simp
     clear hR1;go_enter func42,ntmps42
     go_wp2_with (go_at_call 53;refine(r _ AX).mono ?_;rintro e Y ⟨rfl,d⟩;obtain⟨I,S⟩:=Ff d)
     have af:Below (w.heap.size+1) (w.alloc (.cells #[.int .i64 n.kind, .int .i64 n.one.op, .slice O n.one.args.length U, .slice J n.kids.length K, .slice X f T, .slice N g L] 60)) Y:=by simpa using d
     clear d I S)
   | (
     obtain rfl:root=true:=hr;obtain rfl:k=false:=F;have hR1:R=Bo ⟨n,coils,kids⟩:=by rw[l];simp
     clear l;have iK:=r;have aa:Hid (R=if Dn coils then 3 else if f=0/\g=0 then 5 else Ap (kids.map Bo)):=by
      exact zOa
     clear hR1;go_enter func42,ntmps42
     go_wp2_with (first | (go_at_call 53;refine(r _ AX).mono ?_;clear r;rintro e w0 ⟨rfl,u⟩;obtain⟨aw,aB⟩:=Ff u;have an:w.heap.size<w0.heap.size:=B8 AW u.size) | (go_at_call 53;refine(iK _ AX).mono ?_;rintro e Y ⟨rfl,d⟩;obtain⟨I,S⟩:=Ff d) | (go_at_call 74;refine(jP _ AX).mono ?_;rintro e w2 ⟨rfl,M⟩))
     have af:Below (w.heap.size+1) (w.alloc (.cells #[.int .i64 n.kind, .int .i64 n.one.op, .slice O n.one.args.length U, .slice J n.kids.length K, .slice X f T, .slice N g L] 60)) w2:=by
      have h0:=u.size;have h1:=d.size;simp only[World.size_alloc] at u h0;exact(u.trans (d.mono h0)).trans (M.mono (CB h0 h1))
     clear u aw aB d M I S an)
  all_goals
   go_loopw [6] (λi wr=>∃m:Nat,m<=f/\i=.int .i64 m/\Dn coils=Dn (coils.drop m)/\Below (w.heap.size+1) (w.alloc (.cells #[.int .i64 n.kind, .int .i64 n.one.op, .slice O n.one.args.length U, .slice J n.kids.length K, .slice X f T, .slice N g L] 60)) wr) (λi _=>f - (intOf i).toNat)
   case atStart=>exact⟨0,AU,rfl,rfl,af⟩
   case round=>
    clear af;obtain⟨m,hm,rfl,aC,c⟩:=hrel;have gX:=Ab aC;clear aC;have hz:w.heap.size<wr.heap.size:=by have:=c.size;simp at this;omega
    have c0:wr.cell? ⟨w.heap.size,0,none⟩=some (.int .i64 n.kind):=A3 c;have f0:wr.frozen? ⟨w.heap.size,0,none⟩=false:=A4 c;have c1:wr.cell? ⟨w.heap.size,1,none⟩=some (.int .i64 n.one.op):=A3 c;have f1:wr.frozen? ⟨w.heap.size,1,none⟩=false:=A4 c;have c2:wr.cell? ⟨w.heap.size,2,none⟩=some (.slice O n.one.args.length U):=A3 c;have f2:wr.frozen? ⟨w.heap.size,2,none⟩=false:=A4 c;have c3:wr.cell? ⟨w.heap.size,3,none⟩=some (.slice J n.kids.length K):=A3 c;have f3:wr.frozen? ⟨w.heap.size,3,none⟩=false:=A4 c;have c4:wr.cell? ⟨w.heap.size,4,none⟩=some (.slice X f T):=A3 c;have f4:wr.frozen? ⟨w.heap.size,4,none⟩=false:=A4 c;have c5:wr.cell? ⟨w.heap.size,5,none⟩=some (.slice N g L):=A3 c;have f5:wr.frozen? ⟨w.heap.size,5,none⟩=false:=A4 c;have ab:=(Aa _ _).trans (c.mono AU);by_cases aO:m<f
    .have V:m<coils.length:=by have:=qB.out;omega
     obtain⟨b,o,rfl,aj,au⟩:=yB m V;obtain⟨x0,vN,x1,fO⟩:=au.below ab aj;have dL:=kX _ (CG V);have D:=Ab (λW q=>yQ coils[m].op vN coils[m].args W (fO.below q) dL.2.2 (by have:=dL.2.1;omega));have HD:Hid (Dn coils=(!Fz coils[m].op coils[m].args || Dn (coils.drop (m+1)))):=by show _=_;rw[gX.out,Vk _ _ V]
     obtain⟨ic,aI⟩:∃ic,ic=Fz coils[m].op coils[m].args:=⟨_,rfl⟩
     rw[<-aI] at D HD;obtain⟨ax,hy⟩:∃ax,ax=coils[m]:=⟨_,rfl⟩
     rw[<-hy] at D x0;obtain⟨t1,t2,f1,_⟩:=fO;rw[<-hy] at f1;subst f1;clear aI hy au dL gX;cases ic
     .have HX:Hid (R=3):=by show _=_;rw[aa.out,HD.out];rfl
      go_wp2_with (go_at_call 75;refine(D _ AX).mono ?_;rintro e w3 ⟨rfl,aD⟩)
      go_ret;exact⟨Fa BZ,AX⟩
     .have HX:Hid (Dn coils=Dn (coils.drop (m+1))):=by show _=_;rw[HD.out];rfl
      go_wp2_with (go_at_call 75;refine(D _ AX).mono ?_;rintro e w3 ⟨rfl,aD⟩)
      exact⟨⟨m+1,AU,by go_num,HX.out,c.trans (aD.mono hz)⟩,by simp[intOf];omega⟩
    .have aE:Dn coils=false:=by rw[gX.out,GH (by have:=qB.out;omega)];rfl
     have ad:Hid (R=if f=0/\g=0 then 5 else Ap (kids.map Bo)):=by show _=_;rw[aa.out,aE];rfl
     clear aE gX aa;obtain⟨u,d⟩:True/\True:=⟨trivial,trivial⟩
     by_cases ae:f=0/\g=0
     .have HX:Hid (R=5):=by show _=_;rw[ad.out,if_pos ae]
      obtain⟨rfl,rfl⟩:=ae;clear ad
      go_wp2
      go_ret;exact⟨Fa BZ,AX⟩
     .have HX:Hid (R=Ap (kids.map Bo)):=by show _=_;rw[ad.out,if_neg ae]
      clear ad;have aL:((f:Int)==0)=false\/((g:Int)==0)=false:=by
       by_cases h:f=0
       .right;rw[CJ];omega
       .left;rw[CJ];omega
      clear ae;rcases aL with hq | hq<;>go_wp2
      all_goals (
       go_loopw [7] (λi wq=>∃j:Nat,j<=g/\i=.int .i64 j/\Ap (kids.map Bo)=Ap ((kids.drop j).map Bo)/\Below (w.heap.size+1) (w.alloc (.cells #[.int .i64 n.kind, .int .i64 n.one.op, .slice O n.one.args.length U, .slice J n.kids.length K, .slice X f T, .slice N g L] 60)) wq) (λi _=>g - (intOf i).toNat)
       case atStart=>exact⟨0,AU,rfl,rfl,c⟩
       case round=>
        clear c0 c1 c2 c3 c4 c5 f0 f1 f2 f3 f4 f5 hz c ab;obtain⟨j,hj,rfl,aH,c⟩:=hrel;have HP:=Ab aH;clear aH;have hz:w.heap.size<wr.heap.size:=by have:=c.size;simp at this;omega
        have c0:wr.cell? ⟨w.heap.size,0,none⟩=some (.int .i64 n.kind):=A3 c;have f0:wr.frozen? ⟨w.heap.size,0,none⟩=false:=A4 c;have c1:wr.cell? ⟨w.heap.size,1,none⟩=some (.int .i64 n.one.op):=A3 c;have f1:wr.frozen? ⟨w.heap.size,1,none⟩=false:=A4 c;have c2:wr.cell? ⟨w.heap.size,2,none⟩=some (.slice O n.one.args.length U):=A3 c;have f2:wr.frozen? ⟨w.heap.size,2,none⟩=false:=A4 c;have c3:wr.cell? ⟨w.heap.size,3,none⟩=some (.slice J n.kids.length K):=A3 c;have f3:wr.frozen? ⟨w.heap.size,3,none⟩=false:=A4 c;have c4:wr.cell? ⟨w.heap.size,4,none⟩=some (.slice X f T):=A3 c;have f4:wr.frozen? ⟨w.heap.size,4,none⟩=false:=A4 c;have c5:wr.cell? ⟨w.heap.size,5,none⟩=some (.slice N g L):=A3 c;have f5:wr.frozen? ⟨w.heap.size,5,none⟩=false:=A4 c;have ab:=(Aa _ _).trans (c.mono AU);by_cases aO:j<g
        .have V:j<kids.length:=by have:=nH.out;omega
         obtain⟨b,o,rfl,aj,F⟩:=aP j V;obtain⟨aF,sN,sK,x4,x5,Q,Z⟩:=(P5.below ab _ _ _ F aj).open;obtain⟨x0,x1,nV,sJ,x2,x3,E,H⟩:=aF.open;have D:=Ab (λW q=>IH kids[j] (CG V) nV sJ sN sK W (E.below q) (H.below q) (Q.below q) (Z.below q));have HS:Hid (Ap ((kids.drop j).map Bo)=if 0<Bo kids[j] then Bo kids[j] else Ap ((kids.drop (j+1)).map Bo)):=by
          show _=_
          rw[FZ V,CN];rfl
         obtain⟨s,hs⟩:∃s,s=Bo kids[j]:=⟨_,rfl⟩
         obtain⟨x,P⟩:∃x,x=kids[j]:=⟨_,rfl⟩
         rw[<-hs] at D HS;rw[<-P] at D x0 x1 E H Q Z;obtain⟨t0,u0,rfl,_⟩:=E;obtain⟨t1,u1,rfl,_⟩:=H;obtain⟨t2,u2,rfl,_⟩:=Q;obtain⟨t3,u3,rfl,_⟩:=Z;clear hs P F aF;by_cases hpos:0<s
         .go_wp2_with (go_at_call 42;refine(D _ AX).mono ?_;rintro e w4 ⟨rfl,ay⟩)
          go_ret;exact⟨Fa (by rw[HX.out,HP.out,HS.out,if_pos hpos]),AX⟩
         .go_wp2_with (go_at_call 42;refine(D _ AX).mono ?_;rintro e w4 ⟨rfl,ay⟩)
          refine⟨⟨j+1,AU,by go_num,?_,c.trans (ay.mono hz)⟩,by simp[intOf];omega⟩;rw[HP.out,HS.out,if_neg AU]
        .go_wp2
         go_ret;refine⟨Fa ?_,ab⟩
         rw[HX.out,HP.out,GH (by have:=nH.out;omega)];rfl)
theorem mD (n:Stil.B5)(a b d c:Value)(w:World)(l:Ak w a n.net.one.args)(j:Eo w b n.net.kids)(h:F6 w d n.coils)(k:Dc w c n.kids)(g:Ba n):
  Calls prog 42 #[.agg #[.int .i64 n.net.kind, .int .i64 n.net.one.op,a,b,d,c], .bool true] w λe w'=>e=.returned (.int .i64 (Ey n))/\Below w.heap.size w w':=
 (pP n true a b d c w l j h k g).mono λe w' ⟨i,f⟩=>⟨by rw[i];simp[Ey],f⟩
theorem SK (l:List Stil.B5)(J:Value)(w:World)(t:Dc w J l)(hl:l.length<=1048576)(U:Bc l<=1000000000)(F:∀x∈l,Ba x):
  Calls prog 17 #[J] w λe w'=>e=.returned (.agg #[.int .i64 (Am l).1, .int .i64 (Am l).2])/\Below w.heap.size w w':=by
 have y:=Ab (λW q=>M4 l J W (t.below q) U F);have HF:=Ab F;obtain⟨a,cap,rfl,V⟩:=t;have HC:=Ab V;obtain⟨k,A⟩:∃k,k=l.length:=⟨_,rfl⟩
 obtain⟨z,d⟩:∃z,z=Bc l:=⟨_,rfl⟩
 have O:=Ab A;have u:Hid (Am l=if 40<k\/400<z then(1,0) else Ec l 0):=by show _=_;rw[A,d];rfl
 rw[<-A] at hl y ⊢;rw[<-d] at y U;obtain⟨R,Y⟩:∃R,R=Am l:=⟨_,rfl⟩
 rw[<-Y] at u ⊢;clear V F A d Y;by_cases h1:40<k
 .have c:Hid (R=(1,0)):=by show _=_;rw[u.out,if_pos (.inl h1)]
  go_enter func17,ntmps17
  go_wp2
  refine bodyPost_ret (v:=.agg #[.int .i64 1, .int .i64 0]) (by simp[results,results17,go_sem]) rfl ⟨by rw[c.out];rfl,AX⟩
 .by_cases h2:400<z
  .have c:Hid (R=(1,0)):=by show _=_;rw[u.out,if_pos (.inr h2)]
   go_enter func17,ntmps17
   go_wp2_with (go_at_call 41;refine(y _ AX).mono ?_;rintro e r ⟨rfl,g⟩;have M:r.cell? ⟨w.heap.size,0,none⟩=some (.int .i64 0):=(A3 g);have I:r.cell? ⟨w.heap.size,1,none⟩=some (.int .i64 0):=(A3 g);have k0:r.frozen? ⟨w.heap.size,0,none⟩=false:=(A4 g);have k1:r.frozen? ⟨w.heap.size,1,none⟩=false:=(A4 g))
   refine bodyPost_ret (v:=.agg #[.int .i64 1, .int .i64 0]) (by simp[results,results17,go_sem,M,I]) rfl ⟨by rw[c.out];rfl,AX⟩
  .have c:Hid (R=Ec l 0):=by show _=_;rw[u.out,if_neg AU]
   clear u;go_enter func17,ntmps17
   go_wp2_with (go_at_call 41;refine(y _ AX).mono ?_;rintro e r ⟨rfl,g⟩)
   have aa:Below (w.heap.size+1) (w.alloc (.cells #[.int .i64 0, .int .i64 0] 41)) r:=by simpa using g
   clear g;go_loopw [3] (λi wr=>∃j:Nat,j<=k/\i=.int .i64 j/\R=Ec (l.drop j) j/\Below (w.heap.size+1) (w.alloc (.cells #[.int .i64 0, .int .i64 0] 41)) wr) (λi _=>k - (intOf i).toNat)
   case atStart=>exact⟨0,AU,rfl,by rw[c.out];rfl,aa⟩
   case round=>
    clear aa c;obtain⟨j,hj,rfl,Q,f⟩:=hrel;have N:=Ab Q;clear Q;have d:w.heap.size<wr.heap.size:=by have:=f.size;simp at this;omega
    have S:wr.cell? ⟨w.heap.size,0,none⟩=some (.int .i64 0):=A3 f;have f0:wr.frozen? ⟨w.heap.size,0,none⟩=false:=A4 f;have X:wr.cell? ⟨w.heap.size,1,none⟩=some (.int .i64 0):=A3 f;have f1:wr.frozen? ⟨w.heap.size,1,none⟩=false:=A4 f;have ad:=(Aa _ _).trans (f.mono AU);by_cases ae:j<k
    .have K:j<l.length:=by have:=O.out;omega
     obtain⟨b,o,rfl,ac,hn⟩:=HC j K;obtain⟨Z,sN,sK,x4,x5,H,t⟩:=(P5.below ad _ _ _ hn ac).open;obtain⟨x0,x1,nV,sJ,x2,x3,E,L⟩:=Z.open;have D:=Ab (λW q=>mD l[j] nV sJ sN sK W (E.below q) (L.below q) (H.below q) (t.below q) (HF _ (CG K)));have G:Hid (R=if 0<Ey l[j] then(Ey l[j],j) else Ec (l.drop (j+1)) (j+1)):=by show _=_;rw[N.out,Yh l j K]
     have ab:=Qz l[j];obtain⟨s,hs⟩:∃s,s=Ey l[j]:=⟨_,rfl⟩
     obtain⟨x,T⟩:∃x,x=l[j]:=⟨_,rfl⟩
     rw[<-hs] at D G ab;rw[<-T] at D x0 x1 E L H t;obtain⟨t0,u0,rfl,_⟩:=E;obtain⟨t1,u1,rfl,_⟩:=L;obtain⟨t2,u2,rfl,_⟩:=H;obtain⟨t3,u3,rfl,_⟩:=t;clear hs T hn Z N;by_cases P:0<s
     .have c:Hid (R=(s,j)):=by show _=_;rw[G.out,if_pos P]
      go_wp2_with (go_at_call 42;refine(D _ AX).mono ?_;rintro e w4 ⟨rfl,m⟩;have M:=(m.cell (p:=⟨w.heap.size,0,none⟩) d).trans S;have I:=(m.cell (p:=⟨w.heap.size,1,none⟩) d).trans X;have k0:=(m.frozen (p:=⟨w.heap.size,0,none⟩) d).trans f0;have k1:=(m.frozen (p:=⟨w.heap.size,1,none⟩) d).trans f1)
      refine bodyPost_ret (v:=.agg #[.int .i64 s, .int .i64 j]) (by simp[results,results17,go_sem,M,I]) rfl ⟨by rw[c.out],AX⟩
     .have c:Hid (R=Ec (l.drop (j+1)) (j+1)):=by show _=_;rw[G.out,if_neg P]
      go_wp2_with (go_at_call 42;refine(D _ AX).mono ?_;rintro e w4 ⟨rfl,m⟩)
      exact⟨⟨j+1,AU,by go_num,c.out,f.trans (m.mono d)⟩,by simp[intOf];omega⟩
    .have c:Hid (R=(0,0)):=by show _=_;rw[N.out,GH (by have:=O.out;omega)];rfl
     go_wp2
     refine bodyPost_ret (v:=.agg #[.int .i64 0, .int .i64 0]) (by simp[results,results17,go_sem,S,X]) rfl ⟨by rw[c.out];rfl,AX⟩
