import Derived.Test.YtobbpffcggchmaaGreatDoorGT
import Derived.Deep.DeepCutAuto
import Derived.Deep.RegionWith
set_option maxHeartbeats 4000000
set_option maxRecDepth 100000
namespace Go.Proofs.YtobbpffcggchmaaGreatDoor
open Tryz
open Stil
open Go.RowKit Go.Sort Go.BigFrame
theorem Aik (l:List Nat)(i:Nat)(h:i<l.length):(l.take (i+1)).sum=(l.take i).sum+l[i]:=by
 rw[A9m h,Bbb,Bac,Bbe,Ba8]
theorem Yw:∀(l:List Nat) (i:Nat),(l.take i).sum<=l.sum
 | [],i=>by simp
 | x::r,0=>by simp
 | x::r,i+1=>by have:=Yw r i;simp;omega
theorem Awt (n:Stil.Net):∀(d g:Value) (w:World),A7 w d n.one.args->D8 w g n.kids->Aj n<=1000000000->
  Calls prog 25 #[.agg #[.int .i64 n.kind, .int .i64 n.one.op,d,g]] w λe Q=>e=.returned (.int .i64 (Aj n))/\Below w.heap.size w Q:=by
 induction n using Et with
 | h k e kids t=>
  intro d g w m q K;have S:=hid t;clear t;have C:=hid (Oa k e kids);have O:(kids.map Aj).sum<=1000000000:=by have:=C.out;omega
  obtain⟨a,cap,rfl,y⟩:=q;have L:Hid (∀i (h:i<kids.length),∃b o,a=some ⟨b,o,none⟩/\b<w.heap.size/\Oz w b (o+i*4) kids[i]):=y;obtain⟨aa,z,rfl,_⟩:=m;have X:kids.length<=1000000000:=by
   have:∀l:List Stil.Net,l.length<=(l.map Aj).sum:=by
    intro l;induction l with
    | nil=>simp
    | cons x af t=>simp only[A9l,Bac,A84];have:1<=Aj x:=(by(obtain⟨_,_,_⟩:=x;rw[Oa];omega));omega
   have:=this kids;omega
  clear y K;go_enter func25,ntmps25
  go_wp2
  go_loopw [3,4] (λacc i wr=>∃j:Nat,j<=kids.length/\i=.int .i64 j/\acc=.int .i64 (1+((kids.map Aj).take j).sum:Nat)/\Below (w.heap.size+1) (w.alloc (.cells #[.int .i64 k, .int .i64 e.op, .slice aa e.args.length z, .slice a kids.length cap] 30)) wr) (λ_ i _=>kids.length - (intOf i).toNat)
  case atStart=>exact⟨0,omz,rfl,spz,Below.refl _ _⟩
  case round=>
   obtain⟨j,hj,rfl,rfl,c⟩:=hrel;have P:w.heap.size<wr.heap.size:=by have:=c.size;simp at this;omega
   have c0:wr.cell? ⟨w.heap.size,0,none⟩=some (.int .i64 k):=clA c;have Y:wr.frozen? ⟨w.heap.size,0,none⟩=false:=frA c;have Z:wr.cell? ⟨w.heap.size,1,none⟩=some (.int .i64 e.op):=clA c;have f1:wr.frozen? ⟨w.heap.size,1,none⟩=false:=frA c;have c2:wr.cell? ⟨w.heap.size,2,none⟩=some (.slice aa e.args.length z):=clA c;have f2:wr.frozen? ⟨w.heap.size,2,none⟩=false:=frA c;have c3:wr.cell? ⟨w.heap.size,3,none⟩=some (.slice a kids.length cap):=clA c;have U:wr.frozen? ⟨w.heap.size,3,none⟩=false:=frA c;have u:=(Aa _ _).trans (c.mono omz);have B:=Yw (kids.map Aj) j;by_cases hlt:j<kids.length
   ·obtain⟨b,o,rfl,G,F⟩:=L j hlt
    obtain⟨N,R,d,g,V,x3,m,q⟩:=(Oz.below u _ _ _ F G).open;have f:=Aik (kids.map Aj) j yCa;have I:=Yw (kids.map Aj) (j+1);rw[Bat] at f;have r:=hid (λW E=>S kids[j] (A9a hlt) d g W (m.below E) (q.below E) omz);obtain⟨s,D⟩:∃s,s=Aj kids[j]:=⟨_,rfl⟩
    obtain⟨x,A⟩:∃x,x=kids[j]:=⟨_,rfl⟩
    rw[<-D] at r f;rw[<-A] at r N R;obtain⟨T,ab,rfl,_⟩:=m;obtain⟨a',ac,rfl,_⟩:=q;generalize M:((kids.map Aj).take j).sum=A1 at f B ⊢;have H:=hid f;have ae:A1+s<=1000000000:=omz
    clear D A F M f I B O
    go_wp2_with (go_at_call 25;refine(r _ blB).mono ?_;rintro e w2 ⟨rfl,J⟩)
    refine⟨⟨j+1,omz,by go_num,?_,c.trans (J.mono P)⟩,by simp[intOf];omega⟩;rw[H.out];congr 1;omega
   ·go_wp2
    go_ret;refine⟨Ad8 ?_,u⟩;rw[C.out,A9y yAb]
theorem Ahj {α:Type}(f:α->Nat)(a:∀x,1<=f x):∀l:List α,l.length<=(l.map f).sum
 | []=>by simp
 | x::r=>by have:=Ahj f a r;have:=a x;simp only[A9l,Bac,A84];omega
theorem zt0 {p:Prop}(h:p:=by
 by_cases h2:x.n=y.n
 ·exact .inr (.inr ⟨h1,h2,λh3=>hxy ((Azu _ _).2 ⟨h1,h2,h3⟩)⟩)
 ·exact .inr (.inl ⟨h1,h2⟩)):p:=h
open Classical in
theorem Ar9 (op m:Int)(c d:List Stil.Dev)(J P:Value)(w:World)(T:A7 w J c)(V:A7 w P d)(hl:c.length<=1048576)(Y:d.length<=1048576):
  Calls prog 60 #[.agg #[.int .i64 op,J], .agg #[.int .i64 m,P]] w λr X=>r=.returned (.bool (decide ((⟨op,c⟩:Stil.Elem)=⟨m,d⟩)))/\Below w.heap.size w X:=by
 obtain⟨a,cap,rfl,s⟩:=T;obtain⟨b,G,rfl,q⟩:=V;by_cases u:op=m
 ·subst u
  by_cases E:c.length=d.length
  ·have S:Hid (∀i (h:i<c.length),∃b o,a=some ⟨b,o,none⟩/\b<w.heap.size/\Io w b (o+i*3) c[i]):=s
   have HB:Hid (∀i (h:i<d.length),∃B o,b=some ⟨B,o,none⟩/\B<w.heap.size/\Io w B (o+i*3) d[i]):=q;clear s q;have R:((c.length:Int) !=(d.length:Int))=false:=by rw[bne_eq_false_iff_eq];omega
   have ah:c.length<=d.length:=omz
   have ai:d.length<=c.length:=omz
   clear E;go_enter func60,ntmps60
   go_wp2
   go_loopw [5] (λi wr=>∃k:Nat,k<=c.length/\i=.int .i64 k/\c.take k=d.take k/\Below (w.heap.size+2) ((w.alloc (.cells #[.int .i64 op, .slice a c.length cap] 27)).alloc (.cells #[.int .i64 op, .slice b d.length G] 27)) wr) (λi _=>c.length - (intOf i).toNat)
   case atStart=>exact⟨0,omz,rfl,spz,Below.refl _ _⟩
   case round=>
    obtain⟨k,Y,rfl,H,f⟩:=hrel;have ab:w.heap.size<wr.heap.size:=by have:=f.size;simp at this;omega
    have al:wr.cell? ⟨w.heap.size,0,none⟩=some (.int .i64 op):=clA f;have aj:wr.frozen? ⟨w.heap.size,0,none⟩=false:=frA f;have ae:wr.cell? ⟨w.heap.size,1,none⟩=some (.slice a c.length cap):=clA f;have ak:wr.frozen? ⟨w.heap.size,1,none⟩=false:=frA f;have af:w.heap.size+1<wr.heap.size:=by have:=f.size;simp at this;omega
    have ac:wr.cell? ⟨w.heap.size+1,0,none⟩=some (.int .i64 op):=clA f;have an:wr.frozen? ⟨w.heap.size+1,0,none⟩=false:=frA f;have ao:wr.cell? ⟨w.heap.size+1,1,none⟩=some (.slice b d.length G):=clA f;have ag:wr.frozen? ⟨w.heap.size+1,1,none⟩=false:=frA f;have g:Below w.heap.size w wr:=(Be (Aa _ _) _).trans (f.mono omz);have N:Hid (c.take k=d.take k):=H;clear H;by_cases K:k<c.length
    ·have O:k<d.length:=by omega
     obtain⟨b1,o1,rfl,U,D⟩:=S k K;obtain⟨b2,o2,rfl,Q,F⟩:=HB k O;obtain⟨M,I,L⟩:=D.below g U;obtain⟨l,t,z⟩:=F.below g Q;by_cases hxy:c[k]=d[k]
     ·have mO:Hid (c.take (k+1)=d.take (k+1)):=by
       show _=_
       rw[A9m K,A9m O,N.out,hxy]
      rw[<-hxy] at l t z;obtain⟨x,j⟩:∃x,x=c[k]:=⟨_,rfl⟩
      rw[<-j] at M I L l t z;clear j hxy D F
      go_wp2
      go_region
      all_goals go_wp2
      exact⟨⟨k+1,omz,by go_num,mO.out,f.drew⟩,by simp[intOf];omega⟩
     ·have mO:Hid (¬c=d):=by
       show ¬_
       intro h;subst h;exact hxy rfl
      obtain⟨x,j⟩:∃x,x=c[k]:=⟨_,rfl⟩
      obtain⟨y,A⟩:∃y,y=d[k]:=⟨_,rfl⟩
      rw[<-j] at M I L;rw[<-A] at l t z;rw[<-j,<-A] at hxy;have Z:(x.kind==y.kind)=false\/(x.kind=y.kind/\(x.n==y.n)=false)\/(x.kind=y.kind/\x.n=y.n/\(x.p==y.p)=false):=by
       simp only[A95];by_cases h1:x.kind=y.kind
       ·exact zt0
       ·exact .inl h1
      clear j A hxy D F;rcases Z with h1 | ⟨h1,h2⟩ | ⟨h1,h2,h3⟩
      ·go_wp2
       go_region
       all_goals go_wp2
       go_ret;exact⟨Ad yCh,g.drew⟩
      ·rw[<-h1] at l
       clear h1
       go_wp2
       go_region
       all_goals go_wp2
       go_ret;exact⟨Ad yCh,g.drew⟩
      ·rw[<-h1] at l
       rw[<-h2] at t;clear h1 h2
       go_wp2
       go_region
       all_goals go_wp2
       go_ret;exact⟨Ad yCh,g.drew⟩
    ·go_wp2
     go_ret;have e:c=d:=by
      have:=N.out
      rwa [A9y omz,A9y omz] at this
     exact⟨Ad (by rw[Bba (by rw[e])]),g⟩
  ·have R:((c.length:Int) !=(d.length:Int))=true:=by rw[bne_iff_ne];omega
   have C:Hid (¬c=d):=by show ¬_;intro h;exact E (by rw[h])
   clear E s q;go_enter func60,ntmps60
   go_wp2
   go_ret;exact⟨Ad (by rw[Ba1 (λh=>C.out (Stil.Elem.mk.inj h).2)]),blB⟩
 ·have aa:(op !=m)=true:=by rw[bne_iff_ne];exact u
  have C:Hid (¬op=m):=u;clear u s q;go_enter func60,ntmps60
  go_wp2
  go_ret;exact⟨Ad (by rw[Ba1 (λh=>C.out (Stil.Elem.mk.inj h).1)]),blB⟩
theorem zd0 {p:Prop}(h:p:=by
 go_wp2
 go_ret;have e:es=fs:=by
  have:=HE.out
  rwa [A9y omz,A9y omz] at this
 exact⟨Ad (by rw[Bba e]),hb⟩):p:=h
open Classical in
theorem Ag2 (es fs:List Stil.Arm)(K:∀x∈es,∀y∈fs,∀(q f r g j d l s:Value) (w:World),A7 w q x.net.one.args->D8 w f x.net.kids->Fh w r x.coils->Eb w g x.kids->A7 w j y.net.one.args->D8 w d y.net.kids->Fh w l y.coils->Eb w s y.kids->Calls prog 26 #[.agg #[.int .i64 x.net.kind, .int .i64 x.net.one.op,q,f,r,g], .agg #[.int .i64 y.net.kind, .int .i64 y.net.one.op,j,d,l,s]] w λe m=>e=.returned (.bool (decide (x=y)))/\Below w.heap.size w m)(v u:Value)(w:World)(af:Eb w v es)(lZ:Eb w u fs)(hl:es.length<=1048576)(hm:fs.length<=1048576):
  Calls prog 7 #[v,u] w λe m=>e=.returned (.bool (decide (es=fs)))/\Below w.heap.size w m:=by
 obtain⟨a,cap,rfl,C⟩:=af;obtain⟨a2,ap,rfl,G⟩:=lZ;by_cases F:es.length=fs.length
 ·have HA:Hid (∀i (h:i<es.length),∃b o,a=some ⟨b,o,none⟩/\b<w.heap.size/\Sl w b (o+i*6) es[i]):=C
  have HB:Hid (∀i (h:i<fs.length),∃b o,a2=some ⟨b,o,none⟩/\b<w.heap.size/\Sl w b (o+i*6) fs[i]):=G;have IH:Hid (∀x∈es,∀y∈fs,∀(q f r g j d l s:Value) (w:World),A7 w q x.net.one.args->D8 w f x.net.kids->Fh w r x.coils->Eb w g x.kids->A7 w j y.net.one.args->D8 w d y.net.kids->Fh w l y.coils->Eb w s y.kids->Calls prog 26 #[.agg #[.int .i64 x.net.kind, .int .i64 x.net.one.op,q,f,r,g], .agg #[.int .i64 y.net.kind, .int .i64 y.net.one.op,j,d,l,s]] w λe m=>e=.returned (.bool (decide (x=y)))/\Below w.heap.size w m):=K;clear C G K;have ab:((es.length:Int) !=(fs.length:Int))=false:=by rw[bne_eq_false_iff_eq];omega
  have ay:es.length<=fs.length:=omz
  have az:fs.length<=es.length:=omz
  clear F;go_enter func7,ntmps7
  go_wp2
  go_loopw [5] (λi wr=>∃k:Nat,k<=es.length/\i=.int .i64 k/\es.take k=fs.take k/\Below w.heap.size w wr) (λi _=>es.length - (intOf i).toNat)
  case atStart=>exact⟨0,omz,rfl,spz,Below.refl _ _⟩
  case round=>
   obtain⟨k,hk,rfl,S,hb⟩:=hrel;have HE:Hid (es.take k=fs.take k):=S;clear S;by_cases E:k<es.length
   ·have I:k<fs.length:=by omega
    obtain⟨b,o,rfl,ae,Z⟩:=HA k E;have P:=(Sl.below hb _ _ _ Z ae)
    obtain⟨b2,o2,rfl,bD,aa⟩:=HB k I;have X:=(Sl.below hb _ _ _ aa bD)
    obtain⟨ag,r,g,x4,x5,T,Y⟩:=(P).open;obtain⟨x0,x1,q,f,x2,x3,V,O⟩:=ag.open;obtain⟨rH,l,s,y4,y5,L,R⟩:=(X).open;obtain⟨M,U,j,d,y2,y3,aO,Q⟩:=rH.open;obtain⟨z,t⟩:∃z,decide (es[k]=fs[k])=z:=⟨_,rfl⟩
    have A:Hid (∀W,Below wr.heap.size wr W->Calls prog 26 #[.agg #[.int .i64 es[k].net.kind, .int .i64 es[k].net.one.op,q,f,r,g], .agg #[.int .i64 fs[k].net.kind, .int .i64 fs[k].net.one.op,j,d,l,s]] W λe m=>e=.returned (.bool (decide (es[k]=fs[k])))/\Below W.heap.size W m):=λW c=>IH es[k] (A9a E) fs[k] (A9a I) _ _ _ _ _ _ _ _ W (V.below c) (O.below c) (T.below c) (Y.below c) (aO.below c) (Q.below c) (L.below c) (R.below c)
    have B:Hid (z=true->es.take (k+1)=fs.take (k+1)):=by
     show _->_
     intro h;rw[h,decide_eq_true_iff] at t;rw[A9m E,A9m I,HE.out,t]
    have D:Hid (z=false->¬es=fs):=by
     show _->_
     intro h he;rw[h,Baq] at t;subst he;exact t rfl
    rw[t] at A;obtain⟨x,hx⟩:∃x,x=es[k]:=⟨_,rfl⟩
    obtain⟨y,N⟩:∃y,y=fs[k]:=⟨_,rfl⟩
    rw[<-hx] at A x0 x1;rw[<-N] at A M U;clear hx N t Z P aa X HE
    ·obtain⟨p0,r0,rfl,_⟩:=V
     obtain⟨cu,bz,rfl,_⟩:=aO;obtain⟨p1,r1,rfl,_⟩:=O;obtain⟨yx,yl,rfl,_⟩:=Q;obtain⟨p2,r2,rfl,_⟩:=T;obtain⟨ah,aw,rfl,_⟩:=L;obtain⟨p3,r3,rfl,_⟩:=Y;obtain⟨ar,aA,rfl,_⟩:=R;have yj:=cell_regrown x0;have yg:=cell_regrown M;have yh:=cell_regrown x1;have yf:=cell_regrown U;have au:=cell_regrown x2;have ak:=cell_regrown y2;have ai:=cell_regrown x3;have al:=cell_regrown y3;have an:=cell_regrown x4;have ax:=cell_regrown y4;have ao:=cell_regrown x5;have aj:=cell_regrown y5;cases z
     ·have HF2:Hid (¬es=fs):=D rfl
      clear D B
      go_wp2
      refine wp_region_quiet_below krz krz ?_;repeat (go_big_quiet_step ((exact Calls.regrown_of (A _ blB))))
      refine wpQuiet_nil ?_;intro _ J;obtain⟨⟨dq,osq⟩,H⟩:=J;subst H
      go_wp2
      go_ret;exact⟨Ad yDj,Js hb _ _⟩
     ·have ac:Hid (es.take (k+1)=fs.take (k+1)):=B rfl
      clear D B
      go_wp2
      refine wp_region_quiet_below krz krz ?_;repeat (go_big_quiet_step ((exact Calls.regrown_of (A _ blB))))
      refine wpQuiet_nil ?_;intro _ J;obtain⟨⟨dq,osq⟩,H⟩:=J;subst H
      go_wp2
      exact⟨⟨k+1,omz,by go_num,ac.out,Js hb _ _⟩,by simp[intOf];omega⟩
   ·exact zd0
 ·have ab:((es.length:Int) !=(fs.length:Int))=true:=by rw[bne_iff_ne];omega
  have HN:Hid (¬es=fs):=by show ¬_;intro h;exact F (by rw[h])
  clear F C G K;go_enter func7,ntmps7
  go_wp2
  go_ret;exact⟨Ad yDc,Below.refl _ _⟩
open Classical in
theorem Ad4 (x y:Stil.Elem)(hx:x.fits)(j:y.fits):∀(a b:Value) (w:World),A7 w a x.args->A7 w b y.args->Calls prog 60 #[.agg #[.int .i64 x.op,a], .agg #[.int .i64 y.op,b]] w λe d=>e=.returned (.bool (decide (x=y)))/\Below w.heap.size w d:=by
 intro a b w h f;obtain⟨op,c⟩:=x;obtain⟨g,i⟩:=y;exact Ar9 op g c i a b w h f hx.2.1 j.2.1
open Classical in
theorem Awu (n:Stil.Net):∀m:Stil.Net,Cj n->Cj m->∀(l r g s:Value) (w:World),A7 w l n.one.args->D8 w r n.kids->A7 w g m.one.args->D8 w s m.kids->Calls prog 59 #[.agg #[.int .i64 n.kind, .int .i64 n.one.op,l,r], .agg #[.int .i64 m.kind, .int .i64 m.one.op,g,s]] w λe u=>e=.returned (.bool (decide (n=m)))/\Below w.heap.size w u:=by
 induction n using Et with
 | h k e kids ih=>
  intro m ab Y l r g s w z G A C;obtain⟨P,f,c⟩:=m;obtain⟨_,L,hl,hk⟩:=(Gt _ _ _).1 ab;obtain⟨_,ae,aS,ai⟩:=(Gt _ _ _).1 Y;simp only at z G A C;have D:Hid (∀W,Below w.heap.size w W->Calls prog 60 #[.agg #[.int .i64 e.op,l], .agg #[.int .i64 f.op,g]] W λak u=>ak=.returned (.bool (decide (e=f)))/\Below W.heap.size W u):=λW t=>Ad4 e f L ae l g W (z.below t) (A.below t)
  have IH:Hid (∀x∈kids,∀y∈c,∀(l r g s:Value) (w:World),A7 w l x.one.args->D8 w r x.kids->A7 w g y.one.args->D8 w s y.kids->Calls prog 59 #[.agg #[.int .i64 x.kind, .int .i64 x.one.op,l,r], .agg #[.int .i64 y.kind, .int .i64 y.one.op,g,s]] w λe u=>e=.returned (.bool (decide (x=y)))/\Below w.heap.size w u):=λx H y K=>ih x H y (hk x H) (ai y K)
  obtain⟨p0,r0,rfl,_⟩:=z;obtain⟨a,cap,rfl,q⟩:=G;obtain⟨p2,r2,rfl,_⟩:=A;obtain⟨S,ag,rfl,F⟩:=C;clear ih ab L hk Y ae ai;by_cases M:k=P
  ·subst M
   cases hd:decide (e=f)
   ·have HD:Hid (¬(⟨k,e,kids⟩:Stil.Net)=⟨k,f,c⟩):=by show ¬_;rw[Baq] at hd;intro h;exact hd (Stil.Net.mk.inj h).2.1
    rw[hd] at D;clear hd q F;go_enter func59,ntmps59
    go_wp2_with (go_at_call 60;refine(D _ blA).mono ?_;rintro e w1 ⟨rfl,hb⟩)
    go_ret;exact⟨Ad yCc,blA⟩
   ·have HD:Hid (decide ((⟨k,e,kids⟩:Stil.Net)=⟨k,f,c⟩)=decide (kids=c)):=by show _=_;rw[decide_eq_true_iff] at hd;simp[hd]
    rw[hd] at D;clear hd;by_cases R:kids.length=c.length
    ·have aj:((kids.length:Int) !=(c.length:Int))=false:=by rw[bne_eq_false_iff_eq];omega
     have aE:kids.length<=c.length:=omz
     have aX:c.length<=kids.length:=omz
     have HA:Hid (∀i (h:i<kids.length),∃b o,a=some ⟨b,o,none⟩/\b<w.heap.size/\Oz w b (o+i*4) kids[i]):=q;have HB:Hid (∀i (h:i<c.length),∃b o,S=some ⟨b,o,none⟩/\b<w.heap.size/\Oz w b (o+i*4) c[i]):=F;clear R q F;go_enter func59,ntmps59
     go_wp2_with (go_at_call 60;refine(D _ blA).mono ?_;rintro e w1 ⟨rfl,E⟩;obtain⟨q,hf⟩:=Eh E)
     go_loopw [5] (λi wr=>∃j:Nat,j<=kids.length/\i=.int .i64 j/\kids.take j=c.take j/\Below (w.heap.size+2) ((w.alloc (.cells #[.int .i64 k, .int .i64 e.op, .slice p0 e.args.length r0, .slice a kids.length cap] 30)).alloc (.cells #[.int .i64 k, .int .i64 f.op, .slice p2 f.args.length r2, .slice S c.length ag] 30)) wr) (λi _=>kids.length - (intOf i).toNat)
     case atStart=>exact⟨0,omz,rfl,spz,by simpa using E⟩
     case round=>
      clear q hf E;obtain⟨j,hj,rfl,ac,d⟩:=hrel;have aw:w.heap.size<wr.heap.size:=by have:=d.size;simp at this;omega
      have aV:wr.cell? ⟨w.heap.size,0,none⟩=some (.int .i64 k):=clA d;have aT:wr.frozen? ⟨w.heap.size,0,none⟩=false:=frA d;have ay:wr.cell? ⟨w.heap.size,1,none⟩=some (.int .i64 e.op):=clA d;have aU:wr.frozen? ⟨w.heap.size,1,none⟩=false:=frA d;have aK:wr.cell? ⟨w.heap.size,2,none⟩=some (.slice p0 e.args.length r0):=clA d;have aF:wr.frozen? ⟨w.heap.size,2,none⟩=false:=frA d;have an:wr.cell? ⟨w.heap.size,3,none⟩=some (.slice a kids.length cap):=clA d;have aB:wr.frozen? ⟨w.heap.size,3,none⟩=false:=frA d;have az:w.heap.size+1<wr.heap.size:=by have:=d.size;simp at this;omega
      have ax:wr.cell? ⟨w.heap.size+1,0,none⟩=some (.int .i64 k):=clA d;have aW:wr.frozen? ⟨w.heap.size+1,0,none⟩=false:=frA d;have aL:wr.cell? ⟨w.heap.size+1,1,none⟩=some (.int .i64 f.op):=clA d;have aR:wr.frozen? ⟨w.heap.size+1,1,none⟩=false:=frA d;have aN:wr.cell? ⟨w.heap.size+1,2,none⟩=some (.slice p2 f.args.length r2):=clA d;have aQ:wr.frozen? ⟨w.heap.size+1,2,none⟩=false:=frA d;have ar:wr.cell? ⟨w.heap.size+1,3,none⟩=some (.slice S c.length ag):=clA d;have aM:wr.frozen? ⟨w.heap.size+1,3,none⟩=false:=frA d;have hb:Below w.heap.size w wr:=(Be (Aa _ _) _).trans (d.mono omz);have U:Hid (kids.take j=c.take j):=ac;clear ac;by_cases Q:j<kids.length
      ·have V:j<c.length:=by omega
       obtain⟨b,o,rfl,ap,hn⟩:=HA j Q;have aa:=(Oz.below hb _ _ _ hn ap)
       obtain⟨b2,o2,rfl,bD,ah⟩:=HB j V;have af:=(Oz.below hb _ _ _ ah bD)
       obtain⟨x0,x1,l,r,x2,x3,z,G⟩:=(aa).open;obtain⟨Z,y1,g,s,y2,y3,A,C⟩:=(af).open;obtain⟨I,B⟩:∃I,decide (kids[j]=c[j])=I:=⟨_,rfl⟩
       have J:Hid (∀W,Below wr.heap.size wr W->Calls prog 59 #[.agg #[.int .i64 kids[j].kind, .int .i64 kids[j].one.op,l,r], .agg #[.int .i64 c[j].kind, .int .i64 c[j].one.op,g,s]] W λe u=>e=.returned (.bool (decide (kids[j]=c[j])))/\Below W.heap.size W u):=λW t=>IH kids[j] (A9a Q) c[j] (A9a V) _ _ _ _ W (z.below t) (G.below t) (A.below t) (C.below t)
       have N:Hid (I=true->kids.take (j+1)=c.take (j+1)):=by
        show _->_
        intro h;rw[h,decide_eq_true_iff] at B;rw[A9m Q,A9m V,U.out,B]
       have O:Hid (I=false->¬kids=c):=by
        show _->_
        intro h L;rw[h,Baq] at B;subst L;exact B rfl
       rw[B] at J;obtain⟨x,H⟩:∃x,x=kids[j]:=⟨_,rfl⟩
       obtain⟨y,K⟩:∃y,y=c[j]:=⟨_,rfl⟩
       rw[<-H] at J x0 x1;rw[<-K] at J Z y1;clear H K B hn aa ah af U;obtain⟨s0,t0,rfl,_⟩:=z;obtain⟨s1,t1,rfl,_⟩:=G;obtain⟨s2,t2,rfl,_⟩:=A;obtain⟨s3,t3,rfl,_⟩:=C;have yj:=cell_regrown x0;have yh:=cell_regrown x1;have aA:=cell_regrown x2;have aC:=cell_regrown x3;have yg:=cell_regrown Z;have yf:=cell_regrown y1;have aH:=cell_regrown y2;have aJ:=cell_regrown y3;have aD:=cell_regrown an;have aI:=cell_regrown ar;cases I
       ·have al:Hid (¬kids=c):=O rfl
        clear O N
        go_wp2
        refine wp_region_quiet_below krz krz ?_;repeat (go_big_quiet_step ((exact Calls.regrown_of (J _ blB))))
        refine wpQuiet_nil ?_;intro _ X;obtain⟨⟨dq,osq⟩,T⟩:=X;subst T
        go_wp2
        go_ret;exact⟨Ad (by rw[HD.out,Ba1 al.out]),Js hb _ _⟩
       ·have ao:Hid (kids.take (j+1)=c.take (j+1)):=N rfl
        clear O N
        go_wp2
        refine wp_region_quiet_below krz krz ?_;repeat (go_big_quiet_step ((exact Calls.regrown_of (J _ blB))))
        refine wpQuiet_nil ?_;intro _ X;obtain⟨⟨dq,osq⟩,T⟩:=X;subst T
        go_wp2
        exact⟨⟨j+1,omz,by go_num,ao.out,d.trans ((below_regrown _ dq osq).mono omz)⟩,by simp[intOf];omega⟩
      ·go_wp2
       go_ret;have e:kids=c:=by
        have:=U.out
        rwa [A9y omz,A9y omz] at this
       exact⟨Ad (by rw[HD.out,Bba e]),hb⟩
    ·have aj:((kids.length:Int) !=(c.length:Int))=true:=by rw[bne_iff_ne];omega
     have HN:Hid (¬kids=c):=by show ¬_;intro h;exact R (by rw[h])
     clear R q F;go_enter func59,ntmps59
     go_wp2_with (go_at_call 60;refine(D _ blA).mono ?_;rintro e w1 ⟨rfl,E⟩;obtain⟨q,hf⟩:=Eh E)
     go_ret;exact⟨Ad (by rw[HD.out,Ba1 HN.out]),blA⟩
  ·have au:(k !=P)=true:=by rw[bne_iff_ne];exact M
   have HD:Hid (¬(⟨k,e,kids⟩:Stil.Net)=⟨P,f,c⟩):=by show ¬_;intro h;exact M (Stil.Net.mk.inj h).1
   clear M q F;go_enter func59,ntmps59
   go_wp2
   go_ret;exact⟨Ad yCc,blA⟩
open Classical in
theorem Awy (n:Stil.Arm):∀m:Stil.Arm,D7 n->D7 m->∀(s G cv H k F Y M:Value) (w:World),A7 w s n.net.one.args->D8 w G n.net.kids->Fh w cv n.coils->Eb w H n.kids->A7 w k m.net.one.args->D8 w F m.net.kids->Fh w Y m.coils->Eb w M m.kids->Calls prog 26 #[.agg #[.int .i64 n.net.kind, .int .i64 n.net.one.op,s,G,cv,H], .agg #[.int .i64 m.net.kind, .int .i64 m.net.one.op,k,F,Y,M]] w λe t=>e=.returned (.bool (decide (n=m)))/\Below w.heap.size w t:=by
 induction n using I9 with
 | h n c kids ih=>
  intro m ag ae s G cv H k F Y M w D Q ai aa E R eG T;obtain⟨g,f,q⟩:=m;obtain⟨K,a8,ap,hl,hk⟩:=(Gh _ _ _).1 ag;obtain⟨af,aJ,aj,an,ao⟩:=(Gh _ _ _).1 ae;simp only at D Q ai aa E R eG T;have I:Hid (∀W,Below w.heap.size w W->Calls prog 59 #[.agg #[.int .i64 n.kind, .int .i64 n.one.op,s,G], .agg #[.int .i64 g.kind, .int .i64 g.one.op,k,F]] W λr t=>r=.returned (.bool (decide (n=g)))/\Below W.heap.size W t):=λW l=>Awu n g K af s G k F W (D.below l) (Q.below l) (E.below l) (R.below l)
  have IH:Hid (∀x∈c,∀y∈f,∀(s k:Value) (w:World),A7 w s x.args->A7 w k y.args->Calls prog 60 #[.agg #[.int .i64 x.op,s], .agg #[.int .i64 y.op,k]] w λe t=>e=.returned (.bool (decide (x=y)))/\Below w.heap.size w t):=λx B y C=>Ad4 x y (ap x B) (aj y C)
  have H3:Hid (∀W,Below w.heap.size w W->Calls prog 7 #[H,M] W λr t=>r=.returned (.bool (decide (kids=q)))/\Below W.heap.size W t):=λW l=>Ag2 kids q (λx B y C=>ih x B y (hk x B) (ao y C)) H M W (aa.below l) (T.below l) hl an
  obtain⟨p0,r0,rfl,_⟩:=D;obtain⟨p1,r1,rfl,_⟩:=Q;obtain⟨a,cap,rfl,A⟩:=ai;obtain⟨p3,r3,rfl,_⟩:=aa;obtain⟨p4,r4,rfl,_⟩:=E;obtain⟨p5,r5,rfl,_⟩:=R;obtain⟨X,ak,rfl,N⟩:=eG;obtain⟨p7,r7,rfl,_⟩:=T;clear ih ag K ap hl hk ae af aj an ao;cases hd:decide (n=g)
  ·have HD:Hid (¬(⟨n,c,kids⟩:Stil.Arm)=⟨g,f,q⟩):=by show ¬_;rw[Baq] at hd;intro h;exact hd (Stil.Arm.mk.inj h).1
   rw[hd] at I;clear hd A N;go_enter func26,ntmps26
   go_wp2_with (go_at_call 59;refine(I _ blA).mono ?_;rintro e w1 ⟨rfl,hb⟩)
   go_ret;exact⟨Ad yCc,blA⟩
  ·rw[hd] at I
   rw[decide_eq_true_iff] at hd;have aw:Hid (n=g):=hd;clear hd;by_cases V:c.length=f.length
   ·have ar:((c.length:Int) !=(f.length:Int))=false:=by rw[bne_eq_false_iff_eq];omega
    have aN:c.length<=f.length:=omz
    have bg:f.length<=c.length:=omz
    have HA:Hid (∀i (h:i<c.length),∃b o,a=some ⟨b,o,none⟩/\b<w.heap.size/\Aco w b (o+i*2) c[i]):=A;have HB:Hid (∀i (h:i<f.length),∃b o,X=some ⟨b,o,none⟩/\b<w.heap.size/\Aco w b (o+i*2) f[i]):=N;clear V A N;go_enter func26,ntmps26
    go_wp2_with (go_at_call 59;refine(I _ blA).mono ?_;rintro e w1 ⟨rfl,J⟩;obtain⟨A,hf⟩:=Eh J)
    go_loopw [5] (λi wr=>∃j:Nat,j<=c.length/\i=.int .i64 j/\c.take j=f.take j/\Below (w.heap.size+2) ((w.alloc (.cells #[.int .i64 n.kind, .int .i64 n.one.op, .slice p0 n.one.args.length r0, .slice p1 n.kids.length r1, .slice a c.length cap, .slice p3 kids.length r3] 38)).alloc (.cells #[.int .i64 g.kind, .int .i64 g.one.op, .slice p4 g.one.args.length r4, .slice p5 g.kids.length r5, .slice X f.length ak, .slice p7 q.length r7] 38)) wr) (λi _=>c.length - (intOf i).toNat)
    case atStart=>exact⟨0,omz,rfl,spz,by simpa using J⟩
    case round=>
     clear A hf J;obtain⟨j,hj,rfl,ah,d⟩:=hrel;have aA:w.heap.size<wr.heap.size:=by have:=d.size;simp at this;omega
     have bc:wr.cell? ⟨w.heap.size,0,none⟩=some (.int .i64 n.kind):=clA d;have a9:wr.frozen? ⟨w.heap.size,0,none⟩=false:=frA d;have aD:wr.cell? ⟨w.heap.size,1,none⟩=some (.int .i64 n.one.op):=clA d;have ba:wr.frozen? ⟨w.heap.size,1,none⟩=false:=frA d;have aT:wr.cell? ⟨w.heap.size,2,none⟩=some (.slice p0 n.one.args.length r0):=clA d;have aQ:wr.frozen? ⟨w.heap.size,2,none⟩=false:=frA d;have aV:wr.cell? ⟨w.heap.size,3,none⟩=some (.slice p1 n.kids.length r1):=clA d;have aH:wr.frozen? ⟨w.heap.size,3,none⟩=false:=frA d;have az:wr.cell? ⟨w.heap.size,4,none⟩=some (.slice a c.length cap):=clA d;have aE:wr.frozen? ⟨w.heap.size,4,none⟩=false:=frA d;have aS:wr.cell? ⟨w.heap.size,5,none⟩=some (.slice p3 kids.length r3):=clA d;have aC:wr.frozen? ⟨w.heap.size,5,none⟩=false:=frA d;have aF:w.heap.size+1<wr.heap.size:=by have:=d.size;simp at this;omega
     have aB:wr.cell? ⟨w.heap.size+1,0,none⟩=some (.int .i64 g.kind):=clA d;have bf:wr.frozen? ⟨w.heap.size+1,0,none⟩=false:=frA d;have aU:wr.cell? ⟨w.heap.size+1,1,none⟩=some (.int .i64 g.one.op):=clA d;have a7:wr.frozen? ⟨w.heap.size+1,1,none⟩=false:=frA d;have a3:wr.cell? ⟨w.heap.size+1,2,none⟩=some (.slice p4 g.one.args.length r4):=clA d;have a6:wr.frozen? ⟨w.heap.size+1,2,none⟩=false:=frA d;have aX:wr.cell? ⟨w.heap.size+1,3,none⟩=some (.slice p5 g.kids.length r5):=clA d;have aW:wr.frozen? ⟨w.heap.size+1,3,none⟩=false:=frA d;have au:wr.cell? ⟨w.heap.size+1,4,none⟩=some (.slice X f.length ak):=clA d;have aK:wr.frozen? ⟨w.heap.size+1,4,none⟩=false:=frA d;have aY:wr.cell? ⟨w.heap.size+1,5,none⟩=some (.slice p7 q.length r7):=clA d;have aL:wr.frozen? ⟨w.heap.size+1,5,none⟩=false:=frA d;have hb:Below w.heap.size w wr:=(Be (Aa _ _) _).trans (d.mono omz);have O:Hid (c.take j=f.take j):=ah;clear ah;by_cases U:j<c.length
     ·have ab:j<f.length:=by omega
      obtain⟨b,o,rfl,ay,K⟩:=HA j U;obtain⟨b2,o2,rfl,bD,al⟩:=HB j ab;obtain⟨x0,s,x1,D⟩:=K.below hb ay;obtain⟨y0,k,y1,E⟩:=al.below hb bD;obtain⟨z,u⟩:∃z,decide (c[j]=f[j])=z:=⟨_,rfl⟩
      have L:Hid (∀W,Below wr.heap.size wr W->Calls prog 60 #[.agg #[.int .i64 c[j].op,s], .agg #[.int .i64 f[j].op,k]] W λe t=>e=.returned (.bool (decide (c[j]=f[j])))/\Below W.heap.size W t):=λW l=>IH c[j] (A9a U) f[j] (A9a ab) _ _ W (D.below l) (E.below l)
      have P:Hid (z=true->c.take (j+1)=f.take (j+1)):=by
       show _->_
       intro h;rw[h,decide_eq_true_iff] at u;rw[A9m U,A9m ab,O.out,u]
      have S:Hid (z=false->¬c=f):=by
       show _->_
       intro h he;rw[h,Baq] at u;subst he;exact u rfl
      rw[u] at L;obtain⟨x,B⟩:∃x,x=c[j]:=⟨_,rfl⟩
      obtain⟨y,C⟩:∃y,y=f[j]:=⟨_,rfl⟩
      rw[<-B] at L x0;rw[<-C] at L y0;clear B C u K al O;obtain⟨s0,t0,rfl,_⟩:=D;obtain⟨s2,t2,rfl,_⟩:=E;have yj:=cell_regrown x0;have yh:=cell_regrown x1;have yg:=cell_regrown y0;have yf:=cell_regrown y1;have aM:=cell_regrown az;have aR:=cell_regrown au;cases z
      ·have HF2:Hid (¬(⟨n,c,kids⟩:Stil.Arm)=⟨g,f,q⟩):=by show ¬_;intro h;exact S rfl (Stil.Arm.mk.inj h).2.1
       clear S P
       go_wp2
       refine wp_region_quiet_below krz krz ?_;repeat (go_big_quiet_step ((exact Calls.regrown_of (L _ blB))))
       refine wpQuiet_nil ?_;intro _ ac;obtain⟨⟨dq,osq⟩,Z⟩:=ac;subst Z
       go_wp2
       go_ret;exact⟨Ad yDj,Js hb _ _⟩
      ·have ax:Hid (c.take (j+1)=f.take (j+1)):=P rfl
       clear S P
       go_wp2
       refine wp_region_quiet_below krz krz ?_;repeat (go_big_quiet_step ((exact Calls.regrown_of (L _ blB))))
       refine wpQuiet_nil ?_;intro _ ac;obtain⟨⟨dq,osq⟩,Z⟩:=ac;subst Z
       go_wp2
       exact⟨⟨j+1,omz,by go_num,ax.out,d.trans ((below_regrown _ dq osq).mono omz)⟩,by simp[intOf];omega⟩
     ·have HD:Hid (decide ((⟨n,c,kids⟩:Stil.Arm)=⟨g,f,q⟩)=decide (kids=q)):=by
       show _=_
       have e:c=f:=by
        have:=O.out
        rwa [A9y omz,A9y omz] at this
       simp[aw.out,e]
      obtain⟨z,u⟩:∃z,z=decide (kids=q):=⟨_,rfl⟩
      rw[<-u] at H3 HD;clear u O
      go_wp2_with (go_at_call 7;refine(H3 _ blA).mono ?_;rintro e w3 ⟨rfl,a5⟩)
      go_ret;exact⟨Ad (by rw[HD.out]),blA⟩
   ·have ar:((c.length:Int) !=(f.length:Int))=true:=by rw[bne_iff_ne];omega
    have HN:Hid (¬(⟨n,c,kids⟩:Stil.Arm)=⟨g,f,q⟩):=by show ¬_;intro h;exact V (by rw[(Stil.Arm.mk.inj h).2.1])
    clear V A N;go_enter func26,ntmps26
    go_wp2_with (go_at_call 59;refine(I _ blA).mono ?_;rintro e w1 ⟨rfl,J⟩;obtain⟨A,hf⟩:=Eh J)
    go_ret;exact⟨Ad yDc,blA⟩
open Classical in
theorem Ar7 (a lb:List Stil.Arm)(v u:Value)(w:World)(f:Eb w v a)(e:Eb w u lb)(b:∀x∈a,D7 x)(c:∀x∈lb,D7 x)(hl:a.length<=1048576)(g:lb.length<=1048576):
  Calls prog 7 #[v,u] w λr d=>r=.returned (.bool (decide (a=lb)))/\Below w.heap.size w d:=
 Ag2 a lb (λx i y h=>Awy x y (b x i) (c y h)) v u w f e hl g
end Go.Proofs.YtobbpffcggchmaaGreatDoor
