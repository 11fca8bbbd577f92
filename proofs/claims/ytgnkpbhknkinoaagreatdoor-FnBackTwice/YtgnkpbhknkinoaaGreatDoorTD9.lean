import Derived.Test.YtgnkpbhknkinoaaGreatDoorCI6
import Derived.Test.YtgnkpbhknkinoaaGreatDoorTS7
import Derived.Test.YtgnkpbhknkinoaaGreatDoorTD8
set_option linter.defProp false
set_option maxHeartbeats 40000000
set_option maxRecDepth 100000
namespace Go.Proofs.YtgnkpbhknkinoaaGreatDoor
open Tryz Stil Go.RowKit Go.Sort Go.BigFrame Go.Co
def He.blw{w w':AU}(h:He w)(a:D1 w.heap.size w w'):He w':=by have e:He {w' with tape:=w.tape,drawn:=0}=He w':=BW;exact e ▸ h.below (a.tape 0)
def ox{W:AU}{d:Option Ab}{l:Nat}{L:List Stil.Aw}(h:Gn W (AE d L.length l) L):∃b o,(L≠[]->d=some (AK b o))/\LAt W b o L:=by
 obtain⟨a,cap,j,e⟩:=h;cases j;cases L with
 |nil=>exact⟨0,0,λh=>absurd rfl h,λh=>absurd rfl h,λi hi=>(by cases hi)⟩
 |cons x L=>have⟨b,o,f,g,_⟩:=e 0 BU;refine⟨b,o,λ_=>f,λ_=>g,λi hi=>?_⟩;have⟨m,n,c,_,k⟩:=e i hi;rw[f]at c;cases c;exact k
def jl{l:List Stil.DJ}{w w':AU}{r:AW}{b:List Stil.Aw}{d:Int}(k:b=(Gh l).1)(f:d=(Gh l).2)(h:∃u:AW,r=.tuple #[u,AB (Gh l).2]/\GM w' u (Gh l).1/\D1 w.heap.size w w'):
  ∃g c,r=.tuple #[AE g b.length c,AB d]/\b.length<=c/\Gn w' (AE g b.length c) b/\D1 w.heap.size w w':=by obtain⟨u,rfl,⟨a,c,rfl,i,e⟩,j⟩:=h;rw[f,k];exact⟨a,c,rfl,i,e,j⟩
def NG(w:AU)(e:Ending)(w':AU):Prop:=∃(L:List Stil.Aw)(a:Option Ab)(c:Nat),e=.returned (AE a L.length c)/\Gn w' (AE a L.length c) L/\(∀x∈L,x.fits)/\L.length<=1048576/\L.length<=c/\AO w w'
def LH(L:List Stil.Aw)(R:List Stil.DJ × Int):Prop:=0<(Be L).1/\R=([],1)\/(Be L).1=0/\∃a,R=FV a/\Stil.UpR (Ef L) a/\(∀x∈a,Bh x)/\Au a<=4000/\a.length<=1000
def pS{L:List Stil.Aw}(e:∀x∈L,x.fits):∃R,LH L R:=by
 by_cases h:0<(Be L).1
 .exact⟨_,.inl ⟨h,rfl⟩⟩
 have a:=(Nw L h).1;have⟨c,b,d,g,f,_⟩:=ga a e;exact⟨_,.inr ⟨a,c,rfl,b,d,g,f⟩⟩
def fS{L:List Stil.Aw}{R:List Stil.DJ × Int}(h:LH L R)(a:Option Ab)(c:Nat)(w:AU)(g:Ee w)(f:He w)(q:Es w)(j:Gn w (AE a L.length c) L)(k:∀x∈L,x.fits)(hl:L.length<=1048576)(p:L.length<=c):
  Calls prog 5 #[AE a L.length c] w λe i=>K2 i R e/\AO w i:=by
 rcases h with⟨d,rfl⟩|⟨d,r,rfl,m,s,n,t⟩
 .exact sQ L _ w g f j hl k d
 have⟨b,o,l,u⟩:=ox j;exact tL L b o c a l w r g f q u (Ws d) k p d _ m (Yt d).1 s n t
def lT{L:List Stil.Aw}{R:List Stil.DJ × Int}(h:LH L R)(a:Option Ab)(c:Nat)(w:AU)(f:Gn w (AE a L.length c) L)(g:∀x∈L,x.fits)(hl:L.length<=1048576)(k:L.length<=c):
  Calls prog 6 #[AE a L.length c] w λe d=>K2 d R e/\AO w d:=by
 rcases h with⟨b,rfl⟩|⟨b,l,rfl,i,m,j,n⟩
 .exact sF L _ w f hl g b
 exact sr L _ w l f g (λ_ _ _ e=>by cases e;exact k) b i m j n
def Awd{L:List Stil.Aw}{R:List Stil.DJ × Int}(h:LH L R):0<R.2\/R.2=0/\(∀x∈R.1,Bh x)/\Au R.1<=4000/\R.1.length<=1000/\Gh R.1=(Ep R.1,0)/\LH (Ep R.1) R:=by
 rcases h with⟨f,rfl⟩|⟨f,a,rfl,k,b,d,g⟩
 .exact .inl BZ
 by_cases l:0<(Ap a).1
 .unfold FV;rw[BR l];exact .inl BZ
 have c:(Ap a).1=0:=by have:=(Tu a).1;omega
 have⟨n,m,i,_,j,e⟩:=Avr f k b c;rw[e];exact .inr ⟨rfl,b,d,g,T9 c n m,.inr ⟨by rw[i],a,e.symm,j,b,d,g⟩⟩
def zo0{p:Prop}(h:p:=by rintro a' w' todo⟨τ,d,_,hd,ht,hb⟩;exact Go.Co.Comes.stop ⟨_,rfl,rfl,hd,rfl,rfl,ht,hb.os,hb.out,hb.size,hb.block⟩):p:=h
open Classical in
theorem rz(HD:∀u w,BytesAt w u->Calls prog 4 #[u] w (NG w))(u:AW)(w:AU)(M:Ee w)(K:Es w)(U:He w)(hu:BytesAt w u):
  Go.Co.Comes prog (Go.Conc.G (Frame.enter prog 3 #[u] .normal) []) w (UY 3 w):=by
 have eX:=Go.Conc.resultsC_tmp (P:=prog) (fn:=Tryz.f3) rfl;have yj:Hid (∀τ d,BytesAt {w with tape:=τ,drawn:=d} u):=fun τ d=>by have e:BytesAt {w with tape:=τ,drawn:=d} u=BytesAt w u:=BW;exact e ▸ hu
 obtain⟨ua,ul,uc,rfl,-,-,-⟩:=hu;by_cases aX:1048576<ul
 .refine gC okP (v:=.bool true) (Post:=λw'=>D1 w.heap.size w w') (fun τ d=>?_) ?_;{obtain⟨W,m⟩:∃W:AU,W={w with tape:=τ,drawn:=d}:=⟨_,rfl⟩;(rw[<-m];have S:Hid (D1 w.heap.size w W):=by subst m;exact⟨rfl,rfl,DK _,λ_ _=>rfl⟩);clear m M K;go_enter func3,ntmps3;go_wp2;go_ret;exact⟨rfl,S.out⟩};intro fr w' W Y hf ⟨τ,d,hp⟩;refine Go.Co.Comes.stop ⟨fr,rfl,Y.1,Y.2.1,Y.2.2.1,hf,?_,hp.os,hp.out,hp.size,hp.block⟩;have⟨fn,aH,hr⟩:=Y.2.2.2;rw[hf,func3]at aH;cases aH;have:=(eX fr.tmps W).1;rw[hr]at this;injection this with h3
  exact h3.symm
 have V:∃c0 c1 c3 r c5 c6 c8 aE d,Tryz.f3.body=some (IV [c0,c1,c3,r,c5,c6] (IV [c8] (.seq aE d))):=⟨_,_,_,_,_,_,_,_,_,rfl⟩;obtain⟨c0,c1,c3,r,c5,c6,c8,aE,d,V⟩:=V;rw[Go.Co.enter_at #[AE ua ul uc] func3 V];simp only[ntmps3,Db,DO,DU,Nat.reduceAdd,Nat.reduceSub,ES,ET,EV,EU,EB,D4];unfold Tryz.f3 at V;simp only[IV]at V;cases V;obtain⟨RA,uF⟩:∃RA:Act->World->Prop,Hid (RA=(λa' W=>∃(u6 au ar ag av ah gB fZ kP aj ai ak af aw an ax ap ae ao:AW)(L:List Stil.Aw)(l:List Stil.DJ)(J:Int)(a3 y:Option Ab)(c3 r:Nat),a'=⟨#[AE ua ul uc,AQ,.bool false,AE a3 L.length c3,AE y l.length r,AB J,u6,AB J,AQ,AQ,AQ,AQ,au,ar,ag,av,ah,gB,fZ,kP,aj,ai,ak,af,aw,an,ax,ap,ae,ao,AQ,AQ,AQ,AQ,AQ,AQ,AQ,AQ,AQ,AQ,AQ,AQ,AQ,AQ,AQ,AQ,AQ,AQ,AQ,AQ,AQ,AQ,AQ],[]⟩/\LH L (l,J)/\Dx W (AE y l.length r) l/\D1 w.heap.size w W)):=⟨_,rfl⟩;refine QE okP [_,_,_,_,_,_] (R:=RA) ?_ ?_
 .intro τ s;obtain⟨W,m⟩:∃W:AU,W={w with tape:=τ,drawn:=s}:=⟨_,rfl⟩;rw[<-m];have S:Hid (∀j,AO W j->D1 w.heap.size w j):=by intro j h;subst m;exact⟨h.os,h.output,h.size,h.block⟩
  have ay:=Af (HD _ _ (m ▸ yj.out τ s));have aA:=Af (λj h=>M.blw (S j h));have vZ:=Af (λj h=>K.blw (S j h));have aI:=Af (λj h=>U.blw (S j h));clear m M K U yj HD eX;refine Rx ?_;go_wp2;refine Rx ?_;go_wp2;refine Rx ?_;go_wp2_with(go_at_call 4;refine ay.mono ?_;rintro e X⟨L,a1,c1,rfl,D,O,gU,oW,C⟩);have⟨⟨l,J⟩,E⟩:=pS O;have aM:=Af (λj(h:AO X j)=>fS E a1 c1 j (aA _ (C.trans (h.mono C.size))) (aI _ (C.trans (h.mono C.size))) (vZ _ (C.trans (h.mono C.size))) (D.below h) O gU oW);have iL:=Af (λj(h:AO X j)=>lT E a1 c1 j (D.below h) O gU oW);have aR:=Af E;have aP:=Af (λj(h:AO X j)=>S _ (C.trans (h.mono C.size)));clear D O gU oW E aA vZ aI ay C S;refine Rx ?_;go_wp2_with(go_at_call 5;refine(aM _ BV).mono ?_;rintro e w2⟨⟨y,r,rfl,aS⟩,aV⟩);refine Rx ?_;go_wp2_with(go_at_call 6;refine(iL _ BV).mono ?_;rintro e w3⟨⟨a5,c5,rfl,-⟩,aO⟩;have aT:=aS.below aO);refine Rx ?_;go_wp2;refine SG ?_;rw[uF.out];exact⟨_,_,_,_,_,_,_,_,_,_,_,_,_,_,_,_,_,_,_,L,l,J,a1,y,c1,r,rfl,aR.out,aT,aP _ BV⟩
 intro a' T aa;rw[uF.out]at aa;clear uF RA yj HD;obtain⟨τ,s,u6,au,ar,ag,av,ah,gB,fZ,kP,aj,ai,ak,af,aw,an,ax,ap,ae,ao,L,l,J,a3,y,c3,r,rfl,E,z,H⟩:=aa;have e1:Dx {T with tape:=τ,drawn:=s} (AE y l.length r) l=Dx T (AE y l.length r) l:=BW;replace z:=e1 ▸ z;replace H:D1 w.heap.size w T:=⟨H.os,H.out,H.size,H.block⟩;clear e1;rcases Awd E with h0|⟨h0,hf,hs,Y,ad,ab⟩
 .replace h0:0<J:=h0;simp only[IV];refine R7 okP (Q:=λe a w'=>e=.ret/\a.defers=[]/\a.tmps.getD 2 AQ=.bool true/\D1 w.heap.size w w') (λe a w h=>.inr h.1) (fun τ s=>?_) ?_ ?_;{obtain⟨W,m⟩:∃W:AU,W={T with tape:=τ,drawn:=s}:=⟨_,rfl⟩;rw[<-m];have Z:D1 w.heap.size w W:=H.trans (show Tp T W from⟨τ,s,m⟩).blw;clear m eX M K U z E;go_wp2};{rintro a' w'⟨τ,d,h,_⟩;cases h};exact zo0
 replace h0:J=0:=h0;subst h0;obtain⟨RB,qX⟩:∃RB:Act->World->Prop,Hid (RB=(λa' W=>∃aB az:AW,a'=⟨#[AE ua ul uc,AQ,.bool false,AE a3 L.length c3,AE y l.length r,AB 0,u6,AB 0,AQ,AQ,AQ,AQ,au,ar,ag,av,ah,gB,fZ,kP,aj,ai,ak,af,aw,an,ax,ap,ae,ao,aB,az,AQ,AQ,AQ,AQ,AQ,AQ,AQ,AQ,AQ,AQ,AQ,AQ,AQ,AQ,AQ,AQ,AQ,AQ,AQ,AQ,AQ],[]⟩/\Dx W (AE y l.length r) l/\D1 w.heap.size w W)):=⟨_,rfl⟩;refine QE okP [_] (R:=RB) ?_ ?_
 .intro τ s;obtain⟨W,m⟩:∃W:AU,W={T with tape:=τ,drawn:=s}:=⟨_,rfl⟩;rw[<-m];have I:Tp T W:=⟨τ,s,m⟩;have Z:=H.trans I.blw;have df:=z.blw I.blw;clear m eX M K U z E I H;refine Rx ?_;go_wp2;refine SG ?_;rw[qX.out];exact⟨_,_,rfl,df,Z⟩
 intro a' N aa;rw[qX.out]at aa;clear qX RB z H;obtain⟨τ,s,aB,az,rfl,z,B⟩:=aa;have e1:Dx {N with tape:=τ,drawn:=s} (AE y l.length r) l=Dx N (AE y l.length r) l:=BW;replace z:=e1 ▸ z;replace B:D1 w.heap.size w N:=⟨B.os,B.out,B.size,B.block⟩;clear e1;simp only at hf hs Y ad ab;have⟨A,D⟩:=AA (Ep l);have aL:A=(Gh l).1:=by rwa[ad]
 have aJ:(0:Int)=(Gh l).2:=by rw[ad]
 have O:∀x∈A,x.fits:=D ▸ YS hf;have gU:A.length<=800:=D ▸ P9 hf;rw[<-D]at ab;clear ad D;refine cR λ_ t=>?_;simp only[Db,DO,DU,Nat.reduceAdd,ED,List.range,List.range.loop];refine cP t (AE y l.length r) λ_ t=>?_;try walk_nrm
 refine cC t #[AE y l.length r] func7 (Post:=λaC w'=>(∃g c,aC=.tuple #[AE g A.length c,AB 0]/\A.length<=c/\Gn w' (AE g A.length c) A)/\D1 N.heap.size N w') (λj t=>(Az2 l _ j (M.blw (B.trans t.blw)) (K.blw (B.trans t.blw)) (z.blw t.blw) BS BS hf).mono λaC w' h=>let ⟨g,c,h1,h2,h3,h4⟩:=jl aL aJ h;⟨⟨g,c,h1,h2,h3⟩,t.lw h4⟩) λgt W5 hp=>?_;obtain⟨⟨ha,hc,rfl,aN,dw⟩,dH⟩:=hp;clear t;have t:=Tp.refl W5;try walk_nrm
 refine cP t (.tuple #[AE ha A.length hc,AB 0]) λ_ t=>?_;try walk_nrm
 refine cP t (AE ha A.length hc) λ_ t=>?_;try walk_nrm
 refine cP t (AB 0) λ_ t=>?_;try walk_nrm
 refine cP t (AE ha A.length hc) λ_ t=>?_;try walk_nrm
 refine cP t (AB 0) λ_ t=>?_;try walk_nrm
 refine cN t λac t=>?_;have qx:D1 N.heap.size N ac:=dH.trans t.blw;have aG:D1 w.heap.size w ac:=B.trans (qx.le B.size);have aK:=z.blw qx;have aD:=dw.blw t.blw;clear t dH qx dw z B;try simp only[Act.put]
 refine R7 okP (Q:=λe a w'=>e=.ret/\a.defers=[]/\a.tmps.getD 2 AQ=.bool true/\D1 w.heap.size w w') (λe a w h=>.inr h.1) (fun τ s=>?_) ?_ ?_
 .obtain⟨W,m⟩:∃W:AU,W={ac with tape:=τ,drawn:=s}:=⟨_,rfl⟩;rw[<-m];have I:Tp ac W:=⟨τ,s,m⟩;have Z:D1 w.heap.size w W:=aG.trans I.blw;have df:=aK.blw I.blw;have aF:=aD.blw I.blw;have HB:=BX (λj(h:AO W j)=>Z.trans ((D1.of h).le Z.size));have HU:=Af (λj(h:AO W j)=>fS ab ha hc j (M.blw (HB _ h)) (U.blw (HB _ h)) (K.blw (HB _ h)) (aF.below h) O BS aN);have HT:Hid (∀j a c,AO W j->Dx j (AE a l.length c) l->Calls prog 8 #[AE a l.length c,AE y l.length r] j (AN j (.bool true))):=λj a c h hA=>by have:=Aut l l _ _ j hA (df.below h) hf hf BS BS;rwa [FX rfl]at this
  clear m I aG aK aD Z eX M K U df aF E ab O aL aJ hf hs;go_wp2_with(first|(go_at_call 5;refine(HU _ BV).mono ?_;rintro e w6⟨⟨a6,c6,rfl,aQ⟩,aW⟩)|(go_at_call 8;refine(HT _ _ _ BV aQ).mono ?_;rintro e w7⟨rfl,aU⟩));exact HB _ BV
 .rintro a' w'⟨τ,d,h,_⟩;cases h
 exact zo0
def Rf.fits{i:Stil.Aw}(h:Rf i):i.fits:=⟨⟨by have:=h.1.1;omega,by have:=h.1.2;omega⟩,h.2.wf.1,by have:=h.2.2.2;omega,h.2.wf.2.2⟩
def KX.lst{q:Nat}{e:Ending}{w b w':AU}{g P n:Nat}(h:KX q e b w' g P n)(m:AO w b)(hg:w.heap.size<=g)(s:n<=1048576):NG w e w':=by obtain⟨l,a,c,f,d,k,r,o,t,j⟩:=h;exact⟨l,a,c,f,d.insts Av,λi hi=>(k i hi).1.fits,BS,o,m.tr (j.mo hg)⟩
def sE(v:AW)(w:AU)(k:BytesAt w v):Calls prog 4 #[v] w (NG w):=by
 have S:=Af k;obtain⟨av,lv,cv,rfl,-⟩:=k;go_enter func4,ntmps4;go_upto_region 3 with(first|(go_at_call 9;refine(iQ _ _ S.out).mo ?_;rintro e w1⟨rfl,J,F⟩;have y:=Af F;have I:=Af J;clear J F)|(go_at_call 10;refine(Ew w.z _ _ _ I BS BS BS).mo ?_;rintro e u⟨x,rfl,aa,aj,H,K⟩;have i:=BX H;have j:=Af (y.tr (U8 K y.size));clear H K));clear S y I;have hg:=Jb i.out;have ab:x=0\/x=1\/(x=2\/x=3\/x=4)\/x=5\/¬x=0/\¬x=1/\¬x=2/\¬x=3/\¬x=4/\¬x=5:=BS;clear aa aj;rcases ab with rfl|rfl|g|rfl|⟨n0,Y,n2,n3,n4,n5⟩
 .go_wp2_with (go_at_call 11;refine(Axq w.z _ _ i BS).mo ?_;rintro e w3 d;have f:=Af (d.lst j (DK _) BS);obtain⟨s,r,t,rfl,-⟩:=d);go_ret;exact f.out
 .go_wp2_with (first|(go_at_call 13;refine(ZL w.z _ _ i BS).mo ?_;rintro e w3⟨s,r,t,rfl,q,E,af,-,M,n⟩;have pU:=Af q;have X:=Af E;have ac:=Af M;have A:=Af (j.tr n);clear q E M n)|(go_at_call 12;refine(yp w.z _ _ s _ _ ac pU X af BS).mo ?_;rintro e w4 B;have f:=Af (B.lst A (DK _) BS);obtain⟨l4,a4,V,rfl,-⟩:=B));go_ret;exact f.out
 .have Z:Hid (Calls prog 15 #[AH w.z] u λe L=>∃(l:List Stil.DJ)(a:Option Ab)(c:Nat),e=.returned (AE a l.length c)/\Dx L (AE a l.length c) l/\((∀x∈l,Bh x)/\l.length<=1048576/\Au l<=1000000000)/\AO w L):=by
   refine(ug w.z 1 u [] [] ⟨(50000,λ_=>none),(λ_ _ _ _ _ h=>by cases h),⟨i.out,rfl,DK _⟩,(λ_ h=>by cases h),(λ_ h=>by cases h)⟩ BS).mo ?_;rintro e w3⟨a1,Y,c1,rfl,hS,ah⟩;have⟨l,a,c,k,D,C,d,B⟩:=hS.arms BZ Av;cases k;exact⟨l,_,_,rfl,D,⟨C,BS,BS⟩,j.tr (U8 ah j.size)⟩
  have ae:=Af (λ(W:AU)(l:List Stil.DJ)(Q:AW)(T:Dx W Q l)(D:l.length<=1048576)(C:Au l<=1000000000)(d:∀x∈l,Bh x)=>zK l Q W [] [] ⟨(λb m=>by cases m),λx g=>by cases g⟩ T D C d);have lK:Hid (∀(W o:AU)(l:List Stil.DJ)(a:Option Ab)(c:Nat)(z:List AW),(∀x∈l,Bh x)->o.ownsRow W.z 77 3 (.slice a (Gh l).1.length c) (Gh l).1.length z->Sv o (ob (.slice a (Gh l).1.length c)++[]) [(Cc (Gh l).1,z)]->AO w W->AO W o->NG w (.returned (.slice a (Gh l).1.length c)) o):=λW o l a c z G N hs m ai=>by
   have⟨_,_,k,hc⟩:=Js N;cases k;refine⟨_,a,c,rfl,(hs.ice Av xAz (λb m=>by cases m)).insts Av,?_,?_,hc,m.tr (ai.mo m.size)⟩
   .unfold Gh
    split
    .exact λx g=>by cases g
    .split
     .exact λx g=>by cases g
     .exact YS G
   .unfold Gh
    split
    .exact EI _
    .split
     .exact EI _
     .exact DR (P9 G) BS
  rcases g with rfl|rfl|rfl
  all_goals
   go_wp2_with(first|(go_at_call 15;refine Z.mo ?_;rintro e w3⟨l,r,t,rfl,ag,⟨U,ak,q⟩,n⟩;have A:=Af n;have R:=Af U;clear n)|(go_at_call 14;refine(ae _ l _ ag ak q R.out).mo ?_;rintro e w4⟨a4,V,al,rfl,P,O,ad⟩;have f:=Af (lK _ _ _ _ _ _ R P O A ad);clear P O))
   go_ret;exact f.out
 .go_wp2_with (go_at_call 16;refine(Axp w.z _ _ i BS).mo ?_;rintro e w3 d;have f:=Af (d.lst j (DK _) BS);obtain⟨s,r,t,rfl,-⟩:=d);go_ret;exact f.out
 go_wp2_with (go_at_call 13;refine(ZL w.z _ _ i BS).mo ?_;rintro e w3 d;have f:=Af (d.lst j (DK _) BS);obtain⟨s,r,t,rfl,-⟩:=d);go_ret;exact f.out
