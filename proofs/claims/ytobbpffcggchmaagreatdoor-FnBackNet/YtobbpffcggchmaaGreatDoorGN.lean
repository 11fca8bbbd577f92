import Derived.Test.YtobbpffcggchmaaGreatDoorGU
import Derived.Deep.RegionWith
import Derived.Shelf.Abstract
set_option maxHeartbeats 4000000
set_option maxRecDepth 100000
namespace Go.Proofs.YtobbpffcggchmaaGreatDoor
open Tryz
open Stil
open Go.RowKit Go.Sort Go.BigFrame
variable {B C:Nat}{v:Value}{w':World}
theorem Fq {W:World}{ob:Obj}{c p:Nat}(h:c<W.heap.size):(W.alloc ob).cell? ⟨c,p,none⟩=W.cell? ⟨c,p,none⟩:=(Aa W ob).cell (p:=⟨c,p,none⟩) h
open Classical in
theorem Ao0 (c d:List Stil.Dev)(F K:Value)(w:World)(R:A7 w F c)(T:A7 w K d)(hl:c.length<=1048576)(V:d.length<=1048576):
  Calls prog 67 #[F,K] w λr w'=>r=.returned (.bool (decide (c=d)))/\Below w.heap.size w w':=by
 obtain⟨a,cap,rfl,A⟩:=R;obtain⟨b,Y,rfl,u⟩:=T;by_cases t:c.length=d.length
 ·have Q:Hid (∀i (h:i<c.length),∃b o,a=some ⟨b,o,none⟩/\b<w.heap.size/\Io w b (o+i*3) c[i]):=A
  have X:Hid (∀i (h:i<d.length),∃D o,b=some ⟨D,o,none⟩/\D<w.heap.size/\Io w D (o+i*3) d[i]):=u;clear A u;have P:((c.length:Int) !=(d.length:Int))=false:=by rw[bne_eq_false_iff_eq];omega
  have Z:c.length<=d.length:=omz
  have aa:d.length<=c.length:=omz
  clear t;go_enter func67,ntmps67
  go_wp2
  go_loopw [13] (λi wr=>∃k:Nat,k<=c.length/\i=.int .i64 k/\c.take k=d.take k/\Below w.heap.size w wr) (λi _=>c.length - (intOf i).toNat)
  case atStart=>exact⟨0,omz,rfl,spz,Below.refl _ _⟩
  case round=>
   obtain⟨k,V,rfl,J,f⟩:=hrel;have L:Hid (c.take k=d.take k):=J;clear J;by_cases G:k<c.length
   ·have M:k<d.length:=by omega
    obtain⟨b1,o1,rfl,S,E⟩:=Q k G;obtain⟨b2,o2,rfl,O,z⟩:=X k M;obtain⟨I,N,H⟩:=E.below f S;obtain⟨j,m,q⟩:=z.below f O;by_cases hxy:c[k]=d[k]
    ·have l:Hid (c.take (k+1)=d.take (k+1)):=by
      show _=_
      rw[A9m G,A9m M,L.out,hxy]
     rw[<-hxy] at j m q;obtain⟨x,g⟩:∃x,x=c[k]:=⟨_,rfl⟩
     rw[<-g] at I N H j m q;clear g hxy E z
     go_wp2
     go_region
     all_goals go_wp2
     exact⟨⟨k+1,omz,by go_num,l.out,f.drew⟩,by simp[intOf];omega⟩
    ·have l:Hid (¬c=d):=by
      show ¬_
      intro h;subst h;exact hxy rfl
     obtain⟨x,g⟩:∃x,x=c[k]:=⟨_,rfl⟩
     obtain⟨y,s⟩:∃y,y=d[k]:=⟨_,rfl⟩
     rw[<-g] at I N H;rw[<-s] at j m q;rw[<-g,<-s] at hxy;have U:(x.kind==y.kind)=false\/(x.kind=y.kind/\(x.n==y.n)=false)\/(x.kind=y.kind/\x.n=y.n/\(x.p==y.p)=false):=by
      simp only[A95];by_cases h1:x.kind=y.kind
      ·exact zt0
      ·exact .inl h1
     clear g s hxy E z;rcases U with h1 | ⟨h1,h2⟩ | ⟨h1,h2,h3⟩
     ·go_wp2
      go_region
      all_goals go_wp2
      go_ret;exact⟨Ad (by rw[Ba1 l.out]),f.drew⟩
     ·rw[<-h1] at j
      clear h1
      go_wp2
      go_region
      all_goals go_wp2
      go_ret;exact⟨Ad (by rw[Ba1 l.out]),f.drew⟩
     ·rw[<-h1] at j
      rw[<-h2] at m;clear h1 h2
      go_wp2
      go_region
      all_goals go_wp2
      go_ret;exact⟨Ad (by rw[Ba1 l.out]),f.drew⟩
   ·go_wp2
    go_ret;have e:c=d:=by
     have:=L.out
     rwa [A9y omz,A9y omz] at this
    exact⟨Ad (by rw[Bba e]),f⟩
 ·have P:((c.length:Int) !=(d.length:Int))=true:=by rw[bne_iff_ne];omega
  have HN:Hid (¬c=d):=by show ¬_;intro h;exact t (by rw[h])
  clear t A u;go_enter func67,ntmps67
  go_wp2
  go_ret;exact⟨Ad yDc,blB⟩
open Classical in
theorem Ahr (x y:Stil.Elem)(hx:x.fits)(k:y.fits):∀(a c:Value) (w:World),A7 w a x.args->A7 w c y.args->Calls prog 32 #[.agg #[.int .i64 x.op,a], .agg #[.int .i64 y.op,c]] w λe w'=>e=.returned (.bool (decide (x=y)))/\Below w.heap.size w w':=by
 intro a c w g i;obtain⟨op,d⟩:=x;obtain⟨j,b⟩:=y;simp only at g i;have m:Hid (∀W,Below w.heap.size w W->Calls prog 67 #[a,c] W λr w'=>r=.returned (.bool (decide (d=b)))/\Below W.heap.size W w'):=λW l=>Ao0 d b a c W (g.below l) (i.below l) hx.2.1 k.2.1
 obtain⟨q,A,rfl,_⟩:=g;obtain⟨t,o,rfl,_⟩:=i;clear hx k;by_cases f:op=j
 ·subst f
  have HD:Hid (decide ((⟨op,d⟩:Stil.Elem)=⟨op,b⟩)=decide (d=b)):=by show _=_;simp
  go_enter func32,ntmps32
  go_wp2_with (go_at_call 67;refine(m _ blA).mono ?_;rintro e z ⟨rfl,u⟩)
  go_ret;exact⟨Ad (by rw[HD.out]),blA⟩
 ·have s:(op==j)=false:=by rw[A95];exact f
  have HD:Hid (¬(⟨op,d⟩:Stil.Elem)=⟨j,b⟩):=by show ¬_;intro h;exact f (Stil.Elem.mk.inj h).1
  clear f;go_enter func32,ntmps32
  go_wp2
  go_ret;exact⟨Ad yCc,blA⟩
def Aaw (w:World)(B:Nat)(v:Value):Prop:=w.cell? ⟨B,0,none⟩=some v/\B<w.heap.size
theorem Aaw.below {w:World}(h:Aaw w B v)(a:Below w.heap.size w w'):Aaw w' B v:=⟨(a.cell (p:=⟨B,0,none⟩) h.2).trans h.1,A82 h.2 a.size⟩
def Ao4 (B:Nat):Value:=.func (.func 31) #[] #[.pointer (some ⟨B,0,none⟩)]
def A7j (B C:Nat):Value:=.func (.func 34) #[] #[.pointer (some ⟨B,0,none⟩), .pointer (some ⟨C,0,none⟩)]
open Classical in
theorem Atp  (es fs:List Stil.Elem)(A:∀x∈es,∀y∈fs,∀(c d:Value) (w:World),A7 w c x.args->A7 w d y.args->Calls prog 32 #[.agg #[.int .i64 x.op,c], .agg #[.int .i64 y.op,d]] w λe w'=>e=.returned (.bool (decide (x=y)))/\Below w.heap.size w w')(v u:Value)(w:World)(T:Fh w v es)(U:Fh w u fs)(hl:es.length<=1048576)(hm:fs.length<=1048576):
  Calls prog 35 #[v,u, .func (.func 32) #[] #[]] w λe w'=>e=.returned (.bool (decide (es=fs)))/\Below w.heap.size w w':=by
 obtain⟨a,cap,rfl,m⟩:=T;obtain⟨a2,ac,rfl,t⟩:=U;by_cases s:es.length=fs.length
 ·have S:Hid (∀i (h:i<es.length),∃b o,a=some ⟨b,o,none⟩/\b<w.heap.size/\Aco w b (o+i*2) es[i]):=m
  have HB:Hid (∀i (h:i<fs.length),∃b o,a2=some ⟨b,o,none⟩/\b<w.heap.size/\Aco w b (o+i*2) fs[i]):=t;have V:Hid (∀x∈es,∀y∈fs,∀(c d:Value) (w:World),A7 w c x.args->A7 w d y.args->Calls prog 32 #[.agg #[.int .i64 x.op,c], .agg #[.int .i64 y.op,d]] w λe w'=>e=.returned (.bool (decide (x=y)))/\Below w.heap.size w w'):=A;clear m t A;have R:((es.length:Int) !=(fs.length:Int))=false:=by rw[bne_eq_false_iff_eq];omega
  have af:es.length<=fs.length:=omz
  have ag:fs.length<=es.length:=omz
  clear s;go_enter func35,ntmps35
  go_wp2
  go_loopw [17] (λi wr=>∃k:Nat,k<=es.length/\i=.int .i64 k/\es.take k=fs.take k/\Below w.heap.size w wr) (λi _=>es.length - (intOf i).toNat)
  case atStart=>exact⟨0,omz,rfl,spz,Below.refl _ _⟩
  case round=>
   obtain⟨k,hk,rfl,L,hb⟩:=hrel;have HE:Hid (es.take k=fs.take k):=L;clear L;by_cases r:k<es.length
   ·have z:k<fs.length:=by omega
    obtain⟨b,o,rfl,E,G⟩:=S k r;have J:=(G.below hb E)
    obtain⟨Z,o2,rfl,D,K⟩:=HB k z;have O:=(K.below hb D)
    obtain⟨x0,c,x1,N⟩:=id J;obtain⟨F,d,Y,M⟩:=id O;obtain⟨g,f⟩:∃g,decide (es[k]=fs[k])=g:=⟨_,rfl⟩
    have j:Hid (∀W,Below wr.heap.size wr W->Calls prog 32 #[.agg #[.int .i64 es[k].op,c], .agg #[.int .i64 fs[k].op,d]] W λe w'=>e=.returned (.bool (decide (es[k]=fs[k])))/\Below W.heap.size W w'):=λW Q=>V es[k] (A9a r) fs[k] (A9a z) _ _ W (N.below Q) (M.below Q)
    have l:Hid (g=true->es.take (k+1)=fs.take (k+1)):=by
     show _->_
     intro h;rw[h,decide_eq_true_iff] at f;rw[A9m r,A9m z,HE.out,f]
    have q:Hid (g=false->¬es=fs):=by
     show _->_
     intro h he;rw[h,Baq] at f;subst he;exact f rfl
    rw[f] at j;obtain⟨x,I⟩:∃x,x=es[k]:=⟨_,rfl⟩
    obtain⟨y,H⟩:∃y,y=fs[k]:=⟨_,rfl⟩
    rw[<-I] at j x0;rw[<-H] at j F;clear I H f G J K O HE
    ·obtain⟨p0,r0,rfl,_⟩:=N
     obtain⟨cu,bz,rfl,_⟩:=M;have ah:=hb.size;have ae:b<wr.heap.size:=A82 E hb.size;have P:Z<wr.heap.size:=A82 D hb.size;have xw:=λob=>(Fq (ob:=ob) P).trans F
     have xu:=λob=>(Fq (ob:=ob) P).trans Y
     cases g
     ·have HF2:Hid (¬es=fs):=q rfl
      clear q l
      go_wp2_with (go_at_call 32;refine(j _ blA).mono ?_;rintro e X ⟨rfl,aa⟩)
      go_ret;exact⟨Ad yDj,Dj hb blA⟩
     ·have ab:Hid (es.take (k+1)=fs.take (k+1)):=l rfl
      clear q l
      go_wp2_with (go_at_call 32;refine(j _ blA).mono ?_;rintro e X ⟨rfl,aa⟩)
      exact⟨⟨k+1,omz,by go_num,ab.out,Dj hb blA⟩,by simp[intOf];omega⟩
   ·exact zd0
 ·have R:((es.length:Int) !=(fs.length:Int))=true:=by rw[bne_iff_ne];omega
  have HN:Hid (¬es=fs):=by show ¬_;intro h;exact s (by rw[h])
  clear s m t A;go_enter func35,ntmps35
  go_wp2
  go_ret;exact⟨Ad yDc,Below.refl _ _⟩
theorem Awj {w:World}{u:Value}(h:Aaw w B v/\Aaw w C u)(a:Below w.heap.size w w'):Aaw w' B v/\Aaw w' C u:=⟨h.1.below a,h.2.below a⟩
def Aj9 (w:World)(B C:Nat):Prop:=Aaw w B (Ao4 B)/\Aaw w C (A7j B C)
theorem Aj9.below {w:World}(h:Aj9 w B C)(a:Below w.heap.size w w'):Aj9 w' B C:=Awj h a
open Classical in
theorem Al0 (B C:Nat)(es fs:List Stil.Arm)(K:∀x∈es,∀y∈fs,∀(m f q g j d l r:Value) (w:World),Aj9 w B C->A7 w m x.net.one.args->D8 w f x.net.kids->Fh w q x.coils->Eb w g x.kids->A7 w j y.net.one.args->D8 w d y.net.kids->Fh w l y.coils->Eb w r y.kids->Calls prog 34 #[.agg #[.int .i64 x.net.kind, .int .i64 x.net.one.op,m,f,q,g], .agg #[.int .i64 y.net.kind, .int .i64 y.net.one.op,j,d,l,r], .pointer (some ⟨B,0,none⟩), .pointer (some ⟨C,0,none⟩)] w λe w'=>e=.returned (.bool (decide (x=y)))/\Below w.heap.size w w')(v u:Value)(w:World)(ag:Eb w v es)(lZ:Eb w u fs)(hl:es.length<=1048576)(hm:fs.length<=1048576)(af:Aj9 w B C):
  Calls prog 36 #[v,u, .func (.func 34) #[] #[.pointer (some ⟨B,0,none⟩), .pointer (some ⟨C,0,none⟩)]] w λe w'=>e=.returned (.bool (decide (es=fs)))/\Below w.heap.size w w':=by
 obtain⟨a,cap,rfl,E⟩:=ag;obtain⟨a2,an,rfl,I⟩:=lZ;have vz:Hid (∀W,Below w.heap.size w W->Aj9 W B C):=λW c=>af.below c
 by_cases H:es.length=fs.length
 ·have HA:Hid (∀i (h:i<es.length),∃b o,a=some ⟨b,o,none⟩/\b<w.heap.size/\Sl w b (o+i*6) es[i]):=E
  have HB:Hid (∀i (h:i<fs.length),∃b o,a2=some ⟨b,o,none⟩/\b<w.heap.size/\Sl w b (o+i*6) fs[i]):=I;have IH:Hid (∀x∈es,∀y∈fs,∀(m f q g j d l r:Value) (w:World),Aj9 w B C->A7 w m x.net.one.args->D8 w f x.net.kids->Fh w q x.coils->Eb w g x.kids->A7 w j y.net.one.args->D8 w d y.net.kids->Fh w l y.coils->Eb w r y.kids->Calls prog 34 #[.agg #[.int .i64 x.net.kind, .int .i64 x.net.one.op,m,f,q,g], .agg #[.int .i64 y.net.kind, .int .i64 y.net.one.op,j,d,l,r], .pointer (some ⟨B,0,none⟩), .pointer (some ⟨C,0,none⟩)] w λe w'=>e=.returned (.bool (decide (x=y)))/\Below w.heap.size w w'):=K;clear E I K;have ac:((es.length:Int) !=(fs.length:Int))=false:=by rw[bne_eq_false_iff_eq];omega
  have aw:es.length<=fs.length:=omz
  have ax:fs.length<=es.length:=omz
  clear H;go_enter func36,ntmps36
  go_wp2
  go_loopw [17] (λi wr=>∃k:Nat,k<=es.length/\i=.int .i64 k/\es.take k=fs.take k/\Below w.heap.size w wr) (λi _=>es.length - (intOf i).toNat)
  case atStart=>exact⟨0,omz,rfl,spz,Below.refl _ _⟩
  case round=>
   obtain⟨k,hk,rfl,T,hb⟩:=hrel;have HE:Hid (es.take k=fs.take k):=T;clear T;by_cases G:k<es.length
   ·have J:k<fs.length:=by omega
    obtain⟨b,o,rfl,aa,hn⟩:=HA k G;have Q:=(Sl.below hb _ _ _ hn aa)
    obtain⟨b2,o2,rfl,L,ab⟩:=HB k J;have Y:=(Sl.below hb _ _ _ ab L)
    obtain⟨ah,q,g,x4,x5,U,Z⟩:=(Q).open;obtain⟨x0,x1,m,f,x2,x3,X,P⟩:=ah.open;obtain⟨rH,l,r,y4,y5,M,S⟩:=(Y).open;obtain⟨N,V,j,d,y2,y3,aO,R⟩:=rH.open;obtain⟨z,t⟩:∃z,decide (es[k]=fs[k])=z:=⟨_,rfl⟩
    have A:Hid (∀W,Below wr.heap.size wr W->Calls prog 34 #[.agg #[.int .i64 es[k].net.kind, .int .i64 es[k].net.one.op,m,f,q,g], .agg #[.int .i64 fs[k].net.kind, .int .i64 fs[k].net.one.op,j,d,l,r], .pointer (some ⟨B,0,none⟩), .pointer (some ⟨C,0,none⟩)] W λe w'=>e=.returned (.bool (decide (es[k]=fs[k])))/\Below W.heap.size W w'):=λW c=>IH es[k] (A9a G) fs[k] (A9a J) _ _ _ _ _ _ _ _ W (vz _ (Dj hb c)) (X.below c) (P.below c) (U.below c) (Z.below c) (aO.below c) (R.below c) (M.below c) (S.below c)
    have D:Hid (z=true->es.take (k+1)=fs.take (k+1)):=by
     show _->_
     intro h;rw[h,decide_eq_true_iff] at t;rw[A9m G,A9m J,HE.out,t]
    have F:Hid (z=false->¬es=fs):=by
     show _->_
     intro h he;rw[h,Baq] at t;subst he;exact t rfl
    rw[t] at A;obtain⟨x,hx⟩:∃x,x=es[k]:=⟨_,rfl⟩
    obtain⟨y,O⟩:∃y,y=fs[k]:=⟨_,rfl⟩
    rw[<-hx] at A x0 x1;rw[<-O] at A N V;clear hx O t hn Q ab Y HE
    ·obtain⟨p0,r0,rfl,_⟩:=X
     obtain⟨cu,bz,rfl,_⟩:=aO;obtain⟨p1,r1,rfl,_⟩:=P;obtain⟨yx,yl,rfl,_⟩:=R;obtain⟨p2,r2,rfl,_⟩:=U;obtain⟨aj,au,rfl,_⟩:=M;obtain⟨p3,r3,rfl,_⟩:=Z;obtain⟨ar,aA,rfl,_⟩:=S;have ak:=hb.size;have ap:b<wr.heap.size:=A82 aa hb.size;have s:b2<wr.heap.size:=A82 L hb.size;have xw:=λob=>(Fq (ob:=ob) s).trans N
     have xu:=λob=>(Fq (ob:=ob) s).trans V
     have al:=λob=>(Fq (ob:=ob) s).trans y2
     have ao:=λob=>(Fq (ob:=ob) s).trans y3
     have az:=λob=>(Fq (ob:=ob) s).trans y4
     have ay:=λob=>(Fq (ob:=ob) s).trans y5
     cases z
     ·have HF2:Hid (¬es=fs):=F rfl
      clear F D
      go_wp2_with (go_at_call 34;refine(A _ blA).mono ?_;rintro e w2 ⟨rfl,ai⟩)
      go_ret;exact⟨Ad yDj,Dj hb blA⟩
     ·have ae:Hid (es.take (k+1)=fs.take (k+1)):=D rfl
      clear F D
      go_wp2_with (go_at_call 34;refine(A _ blA).mono ?_;rintro e w2 ⟨rfl,ai⟩)
      exact⟨⟨k+1,omz,by go_num,ae.out,Dj hb blA⟩,by simp[intOf];omega⟩
   ·exact zd0
 ·have ac:((es.length:Int) !=(fs.length:Int))=true:=by rw[bne_iff_ne];omega
  have HN:Hid (¬es=fs):=by show ¬_;intro h;exact H (by rw[h])
  clear H E I K;go_enter func36,ntmps36
  go_wp2
  go_ret;exact⟨Ad yDc,Below.refl _ _⟩
open Classical in
theorem Ay9 (B:Nat)(es fs:List Stil.Net)(G:∀x∈es,∀y∈fs,∀(g c d j:Value) (w:World),Aaw w B (Ao4 B)->A7 w g x.one.args->D8 w c x.kids->A7 w d y.one.args->D8 w j y.kids->Calls prog 31 #[.agg #[.int .i64 x.kind, .int .i64 x.one.op,g,c], .agg #[.int .i64 y.kind, .int .i64 y.one.op,d,j], .pointer (some ⟨B,0,none⟩)] w λe w'=>e=.returned (.bool (decide (x=y)))/\Below w.heap.size w w')(v u:Value)(w:World)(ac:D8 w v es)(Z:D8 w u fs)(hl:es.length<=1048576)(hm:fs.length<=1048576)(ab:Aaw w B (Ao4 B)):
  Calls prog 33 #[v,u, .func (.func 31) #[] #[.pointer (some ⟨B,0,none⟩)]] w λe w'=>e=.returned (.bool (decide (es=fs)))/\Below w.heap.size w w':=by
 obtain⟨a,cap,rfl,t⟩:=ac;obtain⟨a2,ah,rfl,E⟩:=Z;have vz:Hid (∀W,Below w.heap.size w W->Aaw W B (Ao4 B)):=λW f=>ab.below f
 by_cases D:es.length=fs.length
 ·have Y:Hid (∀i (h:i<es.length),∃b o,a=some ⟨b,o,none⟩/\b<w.heap.size/\Oz w b (o+i*4) es[i]):=t
  have HB:Hid (∀i (h:i<fs.length),∃b o,a2=some ⟨b,o,none⟩/\b<w.heap.size/\Oz w b (o+i*4) fs[i]):=E;have IH:Hid (∀x∈es,∀y∈fs,∀(g c d j:Value) (w:World),Aaw w B (Ao4 B)->A7 w g x.one.args->D8 w c x.kids->A7 w d y.one.args->D8 w j y.kids->Calls prog 31 #[.agg #[.int .i64 x.kind, .int .i64 x.one.op,g,c], .agg #[.int .i64 y.kind, .int .i64 y.one.op,d,j], .pointer (some ⟨B,0,none⟩)] w λe w'=>e=.returned (.bool (decide (x=y)))/\Below w.heap.size w w'):=G;clear t E G;have X:((es.length:Int) !=(fs.length:Int))=false:=by rw[bne_eq_false_iff_eq];omega
  have ak:es.length<=fs.length:=omz
  have al:fs.length<=es.length:=omz
  clear D;go_enter func33,ntmps33
  go_wp2
  go_loopw [17] (λi wr=>∃k:Nat,k<=es.length/\i=.int .i64 k/\es.take k=fs.take k/\Below w.heap.size w wr) (λi _=>es.length - (intOf i).toNat)
  case atStart=>exact⟨0,omz,rfl,spz,Below.refl _ _⟩
  case round=>
   obtain⟨k,hk,rfl,M,hb⟩:=hrel;have HE:Hid (es.take k=fs.take k):=M;clear M;by_cases A:k<es.length
   ·have F:k<fs.length:=by omega
    obtain⟨b,o,rfl,S,R⟩:=Y k A;have K:=(Oz.below hb _ _ _ R S)
    obtain⟨b2,o2,rfl,H,U⟩:=HB k F;have P:=(Oz.below hb _ _ _ U H)
    obtain⟨x0,x1,g,c,x2,x3,O,Q⟩:=(K).open;obtain⟨I,N,d,j,y2,y3,V,L⟩:=(P).open;obtain⟨m,l⟩:∃m,decide (es[k]=fs[k])=m:=⟨_,rfl⟩
    have q:Hid (∀W,Below wr.heap.size wr W->Calls prog 31 #[.agg #[.int .i64 es[k].kind, .int .i64 es[k].one.op,g,c], .agg #[.int .i64 fs[k].kind, .int .i64 fs[k].one.op,d,j], .pointer (some ⟨B,0,none⟩)] W λe w'=>e=.returned (.bool (decide (es[k]=fs[k])))/\Below W.heap.size W w'):=λW f=>IH es[k] (A9a A) fs[k] (A9a F) _ _ _ _ W (vz _ (Dj hb f)) (O.below f) (Q.below f) (V.below f) (L.below f)
    have s:Hid (m=true->es.take (k+1)=fs.take (k+1)):=by
     show _->_
     intro h;rw[h,decide_eq_true_iff] at l;rw[A9m A,A9m F,HE.out,l]
    have z:Hid (m=false->¬es=fs):=by
     show _->_
     intro h he;rw[h,Baq] at l;subst he;exact l rfl
    rw[l] at q;obtain⟨x,T⟩:∃x,x=es[k]:=⟨_,rfl⟩
    obtain⟨y,J⟩:∃y,y=fs[k]:=⟨_,rfl⟩
    rw[<-T] at q x0 x1;rw[<-J] at q I N;clear T J l R K U P HE
    ·obtain⟨p0,r0,rfl,_⟩:=O
     obtain⟨cu,bz,rfl,_⟩:=V;obtain⟨p1,r1,rfl,_⟩:=Q;obtain⟨yx,yl,rfl,_⟩:=L;have af:=hb.size;have aj:b<wr.heap.size:=A82 S hb.size;have r:b2<wr.heap.size:=A82 H hb.size;have xw:=λob=>(Fq (ob:=ob) r).trans I
     have xu:=λob=>(Fq (ob:=ob) r).trans N
     have ag:=λob=>(Fq (ob:=ob) r).trans y2
     have ai:=λob=>(Fq (ob:=ob) r).trans y3
     cases m
     ·have HF2:Hid (¬es=fs):=z rfl
      clear z s
      go_wp2_with (go_at_call 31;refine(q _ blA).mono ?_;rintro e w2 ⟨rfl,ae⟩)
      go_ret;exact⟨Ad yDj,Dj hb blA⟩
     ·have aa:Hid (es.take (k+1)=fs.take (k+1)):=s rfl
      clear z s
      go_wp2_with (go_at_call 31;refine(q _ blA).mono ?_;rintro e w2 ⟨rfl,ae⟩)
      exact⟨⟨k+1,omz,by go_num,aa.out,Dj hb blA⟩,by simp[intOf];omega⟩
   ·exact zd0
 ·have X:((es.length:Int) !=(fs.length:Int))=true:=by rw[bne_iff_ne];omega
  have HN:Hid (¬es=fs):=by show ¬_;intro h;exact D (by rw[h])
  clear D t E G;go_enter func33,ntmps33
  go_wp2
  go_ret;exact⟨Ad yDc,Below.refl _ _⟩
open Classical in
theorem Ayx (B:Nat)(n:Stil.Net):∀m:Stil.Net,Cj n->Cj m->∀(c i d g:Value) (w:World),Aaw w B (Ao4 B)->A7 w c n.one.args->D8 w i n.kids->A7 w d m.one.args->D8 w g m.kids->Calls prog 31 #[.agg #[.int .i64 n.kind, .int .i64 n.one.op,c,i], .agg #[.int .i64 m.kind, .int .i64 m.one.op,d,g], .pointer (some ⟨B,0,none⟩)] w λe w'=>e=.returned (.bool (decide (n=m)))/\Below w.heap.size w w':=by
 induction n using Et with
 | h k e kids Q=>
  intro m M A c i d g w j s u z t;obtain⟨q,f,b⟩:=m;obtain⟨_,K,N,P⟩:=(Gt _ _ _).1 M;obtain⟨_,I,D,E⟩:=(Gt _ _ _).1 A;simp only at s u z t;have o:Hid (∀W,Below w.heap.size w W->Calls prog 32 #[.agg #[.int .i64 e.op,c], .agg #[.int .i64 f.op,d]] W λr w'=>r=.returned (.bool (decide (e=f)))/\Below W.heap.size W w'):=λW a=>Ahr e f K I c d W (s.below a) (z.below a)
  have H:Hid (∀W,Below w.heap.size w W->Calls prog 33 #[i,g, .func (.func 31) #[] #[.pointer (some ⟨B,0,none⟩)]] W λr w'=>r=.returned (.bool (decide (kids=b)))/\Below W.heap.size W w'):=λW a=>Ay9 B kids b (λx G y R=>Q x G y (P x G) (E y R)) i g W (u.below a) (t.below a) N D (j.below a)
  have S:Hid (∀W,Below w.heap.size w W->W.cell? ⟨B,0,none⟩=some (.func (.func 31) #[] #[.pointer (some ⟨B,0,none⟩)])):=λW a=>(j.below a).1
  obtain⟨U,r0,rfl,_⟩:=s;obtain⟨X,T,rfl,_⟩:=u;obtain⟨Y,r2,rfl,_⟩:=z;obtain⟨p3,r3,rfl,_⟩:=t;clear Q M K N P A I D E j;by_cases l:k=q
  ·subst l
   cases hd:decide (e=f)
   ·have HD:Hid (¬(⟨k,e,kids⟩:Stil.Net)=⟨k,f,b⟩):=by show ¬_;rw[Baq] at hd;intro h;exact hd (Stil.Net.mk.inj h).2.1
    rw[hd] at o;clear hd;go_enter func31,ntmps31
    go_wp2_with (go_at_call 32;refine(o _ blA).mono ?_;rintro e L ⟨rfl,J⟩)
    go_ret;exact⟨Ad yCc,blA⟩
   ·have HD:Hid (decide ((⟨k,e,kids⟩:Stil.Net)=⟨k,f,b⟩)=decide (kids=b)):=by show _=_;rw[decide_eq_true_iff] at hd;simp[hd]
    rw[hd] at o;clear hd;obtain⟨O,F⟩:∃O,O=decide (kids=b):=⟨_,rfl⟩
    rw[<-F] at H HD;clear F;go_enter func31,ntmps31
    go_wp2_with (first | (go_at_call 32;refine(o _ blA).mono ?_;rintro e L ⟨rfl,J⟩;obtain⟨Z,hf⟩:=Eh J;have j:=S L blA) | (go_at_call 33;refine(H _ blA).mono ?_;rintro e w2 ⟨rfl,aa⟩))
    go_ret;exact⟨Ad (by rw[HD.out]),blA⟩
  ·have V:(k==q)=false:=by rw[A95];exact l
   have HD:Hid (¬(⟨k,e,kids⟩:Stil.Net)=⟨q,f,b⟩):=by show ¬_;intro h;exact l (Stil.Net.mk.inj h).1
   clear l;go_enter func31,ntmps31
   go_wp2
   go_ret;exact⟨Ad yCc,blA⟩
open Classical in
theorem Ayy (B C:Nat)(n:Stil.Arm):∀m:Stil.Arm,D7 n->D7 m->∀(z q A s t o u D:Value) (w:World),Aj9 w B C->A7 w z n.net.one.args->D8 w q n.net.kids->Fh w A n.coils->Eb w s n.kids->A7 w t m.net.one.args->D8 w o m.net.kids->Fh w u m.coils->Eb w D m.kids->Calls prog 34 #[.agg #[.int .i64 n.net.kind, .int .i64 n.net.one.op,z,q,A,s], .agg #[.int .i64 m.net.kind, .int .i64 m.net.one.op,t,o,u,D], .pointer (some ⟨B,0,none⟩), .pointer (some ⟨C,0,none⟩)] w λe w'=>e=.returned (.bool (decide (n=m)))/\Below w.heap.size w w':=by
 induction n using I9 with
 | h n i kids ih=>
  intro m S P z q A s t o u D w f M I L N O J G K;obtain⟨b,l,g⟩:=m;obtain⟨Y,aa,ag,T,hk⟩:=(Gh _ _ _).1 S;obtain⟨Q,U,X,ab,ac⟩:=(Gh _ _ _).1 P;simp only at M I L N O J G K;have j:Hid (∀W,Below w.heap.size w W->Calls prog 31 #[.agg #[.int .i64 n.kind, .int .i64 n.one.op,z,q], .agg #[.int .i64 b.kind, .int .i64 b.one.op,t,o], .pointer (some ⟨B,0,none⟩)] W λr w'=>r=.returned (.bool (decide (n=b)))/\Below W.heap.size W w'):=λW a=>Ayx B n b Y Q z q t o W (f.1.below a) (M.below a) (I.below a) (O.below a) (J.below a)
  have F:Hid (∀W,Below w.heap.size w W->Calls prog 35 #[A,u, .func (.func 32) #[] #[]] W λr w'=>r=.returned (.bool (decide (i=l)))/\Below W.heap.size W w'):=λW a=>Atp i l (λx E y H=>Ahr x y (ag x E) (X y H)) A u W (L.below a) (G.below a) aa U
  have V:Hid (∀W,Below w.heap.size w W->Calls prog 36 #[s,D, .func (.func 34) #[] #[.pointer (some ⟨B,0,none⟩), .pointer (some ⟨C,0,none⟩)]] W λr w'=>r=.returned (.bool (decide (kids=g)))/\Below W.heap.size W w'):=λW a=>Al0 B C kids g (λx E y H=>ih x E y (hk x E) (ac y H)) s D W (N.below a) (K.below a) T ab (f.below a)
  have cO:Hid (∀W,Below w.heap.size w W->W.cell? ⟨C,0,none⟩=some (.func (.func 34) #[] #[.pointer (some ⟨B,0,none⟩), .pointer (some ⟨C,0,none⟩)])):=λW a=>(f.2.below a).1
  have aj:w.cell? ⟨B,0,none⟩=some (.func (.func 31) #[] #[.pointer (some ⟨B,0,none⟩)]):=f.1.1;have ak:=f.1.2;have al:∀R y8,((w.alloc R).alloc y8).cell? ⟨B,0,none⟩=some (.func (.func 31) #[] #[.pointer (some ⟨B,0,none⟩)]):=λR y8=>(Fq yAb).trans ((Fq ak).trans aj)
  obtain⟨p0,r0,rfl,_⟩:=M;obtain⟨p1,r1,rfl,_⟩:=I;obtain⟨p2,r2,rfl,_⟩:=L;obtain⟨p3,r3,rfl,_⟩:=N;obtain⟨p4,r4,rfl,_⟩:=O;obtain⟨p5,r5,rfl,_⟩:=J;obtain⟨p6,r6,rfl,_⟩:=G;obtain⟨p7,r7,rfl,_⟩:=K;clear ih S Y aa ag T hk P Q U X ab ac f;cases hd:decide (n=b)
  ·have HD:Hid (¬(⟨n,i,kids⟩:Stil.Arm)=⟨b,l,g⟩):=by show ¬_;rw[Baq] at hd;intro h;exact hd (Stil.Arm.mk.inj h).1
   rw[hd] at j;clear hd;go_enter func34,ntmps34
   go_wp2_with (go_at_call 31;refine(j _ blA).mono ?_;rintro e k ⟨rfl,d⟩)
   go_ret;exact⟨Ad yCc,blA⟩
  ·rw[decide_eq_true_iff] at hd
   cases c:decide (i=l)
   ·have HD:Hid (¬(⟨n,i,kids⟩:Stil.Arm)=⟨b,l,g⟩):=by show ¬_;rw[Baq] at c;intro h;exact c (Stil.Arm.mk.inj h).2.1
    rw[c] at F;rw[Bba hd] at j;clear hd c;go_enter func34,ntmps34
    go_wp2_with (first | (go_at_call 31;refine(j _ blA).mono ?_;rintro e k ⟨rfl,d⟩;obtain⟨hc,hf⟩:=Eh d;have ah:w.heap.size<k.heap.size:=A82 yAb d.size;have ai:w.heap.size+1<k.heap.size:=A82 spz d.size) | (go_at_call 35;refine(F _ blA).mono ?_;rintro e w2 ⟨rfl,af⟩))
    go_ret;exact⟨Ad yCc,blA⟩
   ·rw[decide_eq_true_iff] at c
    have HD:Hid (decide ((⟨n,i,kids⟩:Stil.Arm)=⟨b,l,g⟩)=decide (kids=g)):=by show _=_;simp[hd,c]
    rw[Bba c] at F;rw[Bba hd] at j;clear hd c;obtain⟨Z,ae⟩:∃Z,Z=decide (kids=g):=⟨_,rfl⟩
    rw[<-ae] at V HD;clear ae;go_enter func34,ntmps34
    go_wp2_with (first | (go_at_call 31;refine(j _ blA).mono ?_;rintro e k ⟨rfl,d⟩;obtain⟨hc,hf⟩:=Eh d;have ah:w.heap.size<k.heap.size:=A82 yAb d.size;have ai:w.heap.size+1<k.heap.size:=A82 spz d.size) | (go_at_call 35;refine(F _ blA).mono ?_;rintro e w2 ⟨rfl,af⟩;obtain⟨an,ao⟩:=Eh af;have f:=cO w2 blA) | (go_at_call 36;refine(V _ blA).mono ?_;rintro e w3 ⟨rfl,ap⟩))
    go_ret;exact⟨Ad (by rw[HD.out]),blA⟩
open Classical in
theorem Atg (b lb:List Stil.Arm)(v u:Value)(w:World)(k:Eb w v b)(j:Eb w u lb)(i:∀x∈b,D7 x)(o:∀x∈lb,D7 x)(hl:b.length<=1048576)(A:lb.length<=1048576):
  Calls prog 11 #[v,u] w λr w'=>r=.returned (.bool (decide (b=lb)))/\Below w.heap.size w w':=by
 have F:∀(c:Fn) (first cap:Array Value) (w:World),(Instr.makeFunc c first cap).run prog w=.ok (.func c first cap) w:=λ_ _ _ _=>rfl
 have I:∀(c:Fn) (f d:Array Value) (P:Program) (w:World) (a:Addr) (m:Mode),(store a (.func c f d) m).run P w=stored P w a (.func c f d) m:=λc f d P w a m=>run_store P w a _ m rfl
 have q:Hid (∀W,Below w.heap.size w W->∀B C,Aj9 W B C->Calls prog 36 #[v,u, .func (.func 34) #[] #[.pointer (some ⟨B,0,none⟩), .pointer (some ⟨C,0,none⟩)]] W λr w'=>r=.returned (.bool (decide (b=lb)))/\Below W.heap.size W w'):=λW p B C z=>Al0 B C b lb (λx t y s=>Ayy B C x y (i x t) (o y s)) v u W (k.below p) (j.below p) hl A z
 obtain⟨E,K,rfl,_⟩:=k;obtain⟨G,D,rfl,_⟩:=j;obtain⟨l,g⟩:∃l,l=decide (b=lb):=⟨_,rfl⟩
 rw[<-g] at q ⊢;clear g i o;go_enter func11,ntmps11
 go_wp2_with (go_at_call 36;refine(q _ blA w.heap.size (w.heap.size+1) ⟨⟨?b1,?b2⟩,⟨?b3,?b4⟩⟩).mono ?_)
 case b1=>simp[go_sem,Ao4]
 case b2=>simp;omega
 case b3=>simp[go_sem,A7j]
 case b4=>simp
 rintro e J ⟨rfl,H⟩
 go_wp2
 go_ret;exact⟨rfl,blA⟩
end Go.Proofs.YtobbpffcggchmaaGreatDoor
