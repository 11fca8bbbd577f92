import Derived.Test.YthdogflpbpkbeaaGreatDoorGJ
import Derived.Test.YthdogflpbpkbeaaGreatDoorT12
set_option linter.defProp false
set_option maxHeartbeats 4000000
set_option maxRecDepth 100000
namespace Go.Proofs.YthdogflpbpkbeaaGreatDoor
open Tryz Go.RowKit Go.Sort Go.BigFrame
def zz{p:Prop}(h:p:=by refine BH (by simp[results,results42,go_sem,q0,q1,hz0];rfl) rfl ?_;exact⟨_,_,[d],rfl,BS,Nb [d] _ BU BS rfl BU,all1 hd,BU,CC,B0⟩):p:=h
def Hz(g P:Nat)(w:AU)(hr:Kw w g P)(hP:P<=1000000000):
  Calls prog 42 #[AH g] w λe w'=>LX e w w' g (P+20) 3:=by
 have hg:=Je hr;go_enter func42,ntmps42;go_upto_if 39 with(first|(go_at_call_of 15 (Value.int IntKind.i64 8);refine(E8 g _ _ _ B7 BS BS BS).mo ?_;rintro e w0⟨x,rfl,Q,R,m,c⟩;obtain⟨hz0,q0,j,q1,l⟩:QbE w0 w.heap.size:=qbE)|(go_at_call 87;refine(nL g _ _ B7 BS).mo ?_;rintro e w1⟨d,rfl,hd,m,c⟩;obtain⟨hz0,q0,j,q1,l⟩:QbE w1 w.heap.size:=qbE)|(go_at_call 88;refine(Pi g _ _ _ B7 BS BS BS).mo ?_;rintro e w2⟨f,rfl,hf,m,c⟩;obtain⟨hz0,q0,j,q1,l⟩:QbE w2 w.heap.size:=qbE)|(have _:=Z;(go_at_call 89;refine(Vk g _ _ B7 BS).mo ?_;rintro e s⟨f,rfl,aa,m,c⟩;obtain⟨hz0,q0,j,q1,l⟩:QbE s w.heap.size:=qbE;obtain⟨J,y,u,z,B,C,A⟩:QbD s t.heap.size d:=qbD))|(go_at_call 89;refine(Vk g _ _ B7 BS).mo ?_;rintro e t⟨d,rfl,Z,m,c⟩;obtain⟨hz0,q0,j,q1,l⟩:QbE t w.heap.size:=qbE)|(have _:=aa;(go_at_call_of 15 (Value.int IntKind.i64 2);refine(E8 g _ _ _ B7 BS BS BS).mo ?_;rintro e S⟨x,rfl,Q,R,m,c⟩;obtain⟨hz0,q0,j,q1,l⟩:QbE S w.heap.size:=qbE;obtain⟨J,y,u,z,B,C,A⟩:QbD S t.heap.size d:=qbD;obtain⟨M,E,D,H,I,G,F⟩:QbD S s.heap.size f:=qbD))|(go_at_call_of 15 (Value.int IntKind.i64 2);refine(E8 g _ _ _ B7 BS BS BS).mo ?_;rintro e w3⟨x,rfl,Q,R,m,c⟩;obtain⟨hz0,q0,j,q1,l⟩:QbE w3 w.heap.size:=qbE))
 rotate_right 1
 .go_cut [] (λwc=>∃q K:Stil.DR,Small q/\Small K/\Kw wc g (P+18)/\w.grownBy wc (some g)/\Zk wc w.heap.size 0 AG/\Jx wc t.heap.size q/\Jx wc s.heap.size K);case first=>go_wp2_with(first|(have _:=N;(go_at_call 90;refine(Y3 g _ _ B7 BS).mo ?_;rintro e T⟨K,rfl,V,m,c⟩;obtain⟨hz0,q0,j,q1,l⟩:QbE T w.heap.size:=qbE;obtain⟨J,y,u,z,B,C,A⟩:QbD T t.heap.size q:=qbD;obtain⟨M,E,D,H,I,G,F⟩:QbD T s.heap.size f:=qbD))|(go_at_call 90;refine(Y3 g _ _ B7 BS).mo ?_;rintro e wr⟨q,rfl,N,m,c⟩;obtain⟨hz0,q0,j,q1,l⟩:QbE wr w.heap.size:=qbE;obtain⟨J,y,u,z,B,C,A⟩:QbD wr t.heap.size d:=qbD;obtain⟨M,E,D,H,I,G,F⟩:QbD wr s.heap.size f:=qbD));{go_meet;exact⟨q,K,N,V,CC,B0,CP,CZ,CZ⟩};go_meet;exact⟨d,f,Z,aa,CC,B0,CP,CZ,CZ⟩
  case rest=>
   clear q0 q1 y z C E H G j l u B A D I F m;obtain⟨q,K,N,V,m,ad,⟨hz0,q0,q1,j,l⟩,⟨J,y,z,C,u,B,A⟩,⟨M,E,H,G,D,I,F⟩⟩:=hcut;go_upto_if 46 with(go_at_call_of 15 (Value.int IntKind.i64 4);refine(E8 g _ _ _ B7 BS BS BS).mo ?_;rintro e U⟨x,rfl,Q,R,m,c⟩;obtain⟨hz0,q0,j,q1,l⟩:QbE U w.heap.size:=qbE;obtain⟨J,y,u,z,B,C,A⟩:QbD U t.heap.size q:=qbD;obtain⟨M,E,D,H,I,G,F⟩:QbD U s.heap.size K:=qbD);go_cut [] (λO=>∃L:Stil.DR,Small L/\Kw O g (P+19)/\w.grownBy O (some g)/\Zk O w.heap.size 0 AG/\Jx O t.heap.size q/\Jx O s.heap.size L);case first=>go_wp2;{go_meet;exact⟨q,N,CC,B0,CP,CZ,CZ⟩};go_meet;exact⟨K,V,CC,B0,CP,CZ,CZ⟩
   case rest=>clear q0 q1 y z C E H G j l u B A D I F m;obtain⟨L,ab,m,ac,⟨hz0,q0,q1,j,l⟩,⟨J,y,z,C,u,B,A⟩,⟨M,E,H,G,D,I,F⟩⟩:=hcut;go_wp2;go_region_with(go_at_call_of 15 (Value.int IntKind.i64 6);refine(E8 g _ _ _ B7 BS BS BS).mo ?_;rintro e Y⟨x,rfl,Q,R,m,c⟩;obtain⟨hz0,q0,j,q1,l⟩:QbE Y w.heap.size:=qbE;obtain⟨J,y,u,z,B,C,A⟩:QbD Y t.heap.size q:=qbD;obtain⟨M,E,D,H,I,G,F⟩:QbD Y s.heap.size L:=qbD);(all_goals go_wp2);all_goals refine BH (by simp[results,results42,go_sem,q0,q1,hz0];rfl) rfl ?_;refine⟨_,_,[q,L],rfl,xAe,?_,all2 N ab,BU,CC,B0⟩;first|exact Nb [q,L] _ BU BS rfl BU|exact Hl.setAt BS (Hl.setAt BS (oj (X:=wc) [q,L] _ ⟨c.os,c.tape,c.output,c.size,c.block⟩ BS BU BS rfl BU))
 .exact zz
 .exact zz
 .exact zz
 .exact zz
 .exact zz
 refine BH (by simp[results,results42,go_sem,q0,q1,hz0];rfl) rfl ?_;exact⟨_,_,[d,f],rfl,BS,Nb [d,f] _ BU BS rfl BU,all2 hd hf,BU,CC,B0⟩
def BytesAt(w:AU)(v:AW):Prop:=∃(a:Δ)(len cap:Nat),v=AE a len cap/\len<=cap/\cap<=9223372036854775807/\∀i,i<len->∃b o z,a=some (AK b o)/\b<w.heap.size/\w.cell? (AK b (o+i))=some (.int .u8 z)/\0<=z/\z<256
def j8(v:AW)(w:AU)(q:BytesAt w v):
  Calls prog 14 #[v] w λe w'=>e=.returned (AH w.heap.size)/\Kw w' w.heap.size 0/\AO w w':=by
 obtain⟨a,len,cap,rfl,u,t,f⟩:=q;have g:=BZ f;clear f;have done:∀n c:Nat,n<=len->n<=2000->Kw (w.alloc (.cells #[AE a n c,AB 0] 89)) w.z 0:=by intro n c s j;refine⟨a,n,c,0,xAa,xAa,xAa,DN _,j,λi hi=>?_⟩;have⟨b,o,z,l,d,k,r,m⟩:=g i BS;exact⟨b,o,z,l,d,by rwa[(Aa w _).cell (p:=(AK b (o+i))) d],r,m⟩
 by_cases y:2000<len
 .cases a with
  |none=>have⟨b,o,z,h,_⟩:=g 0 BS;cases h
  |some x=>go_enter func14,ntmps14;go_wp2;go_ret;exact⟨rfl,done _ _ BS BS,Aa _ _⟩
 go_enter func14,ntmps14;go_wp2;go_ret;exact⟨rfl,done _ _ BS BS,Aa _ _⟩
def nN(g P:Nat)(w:AU)(hr:Kw w g P)(hP:P<=100000000):
  Calls prog 47 #[.pointer (some ⟨g,0,none⟩)] w λe w'=>LX e w w' g (P+100) 4:=by
 have hg:=Je hr;go_enter func47,ntmps47;go_upto_if 8 with(first|(go_at_call_of 15 (Value.int IntKind.i64 2);refine(E8 g _ _ _ B7 BS BS BS).mono ?_;rintro e K⟨x,rfl,R,ab,s,S⟩;obtain⟨y,f,l,q1,q⟩:QbE K w.heap.size:=qbE;obtain⟨G,C,B,E,F⟩:EU K t.heap.size (.int .i64 op) (.slice aa H.length I):=qb2)|(go_at_call 43;refine(Qp g _ _ B7 BS).mono ?_;rintro e t⟨op,v,H,rfl,Y,O,T,hl,s,ac⟩;have u:=O;obtain⟨aa,I,rfl,_,_⟩:=u;obtain⟨y,f,l,q1,q⟩:QbE t w.heap.size:=qbE));go_cut [] (λwc=>∃(j:Int)(m:Δ)(n:Nat)(c:Ψ),(-1000000<=j/\j<=1000000)/\Hl wc w.heap.size (.slice m c.length n) c/\(∀d∈c,Small d)/\c.length<=3/\Kw wc g (P+62)/\w.grownBy wc (some g)/\Zk wc w.heap.size 0 (.slice none 0 0)/\Zk wc t.heap.size j (.slice m c.length n));case first=>go_wp2_with((go_at_call 42;refine(Hz g _ _ B7 BS).mono ?_;rintro e J⟨j,v2,c,rfl,z,A,D,M,s,ah⟩;have u:=A;obtain⟨m,n,rfl,_,_⟩:=u;obtain⟨y,f,l,q1,q⟩:QbE J w.heap.size:=qbE;obtain⟨G,C,B,E,F⟩:EU J t.heap.size (.int .i64 op) (.slice aa H.length I):=qb2));{go_meet;exact⟨j,m,n,c,z,(Hl.set BS (Hl.set BS A)).mono BS,D,M,CC,B0,CP,CP⟩};go_meet;exact⟨op,aa,I,H,Y,((O.mono BU).alloc _).grown S BS,T,hl,CC,B0,CP,CP⟩
 case rest=>clear f q1 l q C E B F s;obtain⟨j,m,n,c,z,A,D,M,s,af,⟨y,f,q1,l,q⟩,⟨G,C,E,B,F⟩⟩:=hcut;go_wp2_with(first|(go_at_call_of 15 (Value.int IntKind.i64 16);refine(E8 g _ _ _ B7 BS BS BS).mono ?_;rintro e L⟨x,rfl,R,ab,s,Z⟩;have N:=A.grown Z BS;obtain⟨y,f,l,q1,q⟩:QbE L w.heap.size:=qbE;obtain⟨G,C,B,E,F⟩:EU L t.heap.size (.int .i64 j) (.slice m c.length n):=qb2)|(go_at_call 46;refine(cH g _ j _ c _ B7 BS z (N.mono BS) D BS).mono ?_;rintro e we⟨ae,v3,U,rfl,V,Q,X,ag,s,ad⟩;have u:=Q;obtain⟨a3,c3,rfl,_,_⟩:=u;obtain⟨y,f,l,q1,q⟩:QbE we w.heap.size:=qbE));{refine BH (by simp[results,results47,go_sem,f,q1];rfl) rfl ?_;exact⟨_,_,U,rfl,V,(Hl.set BS (Hl.set BS Q)).mono BS,X,BS,CC,B0⟩};refine BH (by simp[results,results47,go_sem,f,q1];rfl) rfl ?_;exact⟨_,_,c,rfl,z,(Hl.set BS (Hl.set BS N)).mono BS,D,BS,CC,B0⟩
def RU:(prog.info? 73).map (λi=>(i.zero,i.size,i.bytes))=some (some (.agg #[AB 0,AB 0,AG]),3,40):=BW
def Rk(i:Stil.Ar):Prop:=(-1000000<=i.code/\i.code<=1000000)/\NG i.O
def qR(e:Ending)(w w':AU)(g P:Nat):Prop:=∃(i:Stil.Ar)(a:AW),e=.returned (.agg #[AB i.code,AB i.O.op,a])/\Jk (λb=>w.heap.size<=b) w' a i.O.args/\Rk i/\i.O.args.length<=3/\Kw w' g P/\w.grownBy w' (some g)
def R2(g P:Nat)(w:AU)(hr:Kw w g P)(M:P<=90000000):
  Calls prog 45 #[AH g] w λe w'=>qR e w w' g (P+100):=by
 have N:=Je hr;go_enter func45,ntmps45;go_upto_region 2 with(go_at_call_of 44 (18:Nat);refine(X3 g _ _ _ [1,1,1,2,2,2,3,3,4,5,6,7,8,9,10,10,10,11] _ B7 BS (Dh xAf) BU CY BU BU).mo ?_;rintro e d⟨x,rfl,F,K,C⟩;simp only[EN,FK,FM]at F;obtain⟨E,f,B,q1,G,m,D⟩:E2 d w.heap.size (AB 0) (AB 0) AG:=qb3);have R:w.heap.size<d.heap.size:=by have:=C.size;simp at this;omega
 have Q:w.grownBy d (some g):=B0;have O:1<=x/\x<=11:=BS;clear F C hr;by_cases L:x<=3
 .go_wp2_with (go_at_call 42;refine(Hz g _ _ B7 BS).mo ?_;rintro e l⟨op,A,c,rfl,t,j,s,u,I,J⟩;have y:=BZ (Lj j);obtain⟨n,q,rfl,-⟩:=j;obtain⟨E,f,B,q1,G,m,D⟩:E2 l w.heap.size (AB 0) (AB 0) AG:=qb3);have z:∀W:AU,Gw (λb=>d.heap.size - 1<b) W (((W.s (AL w 0) (AB x)).s (AL w 1) (AB op)).s (AL w 2) (AE n c.length q)):=λW=>((Gw.set BS _).tr (Gw.set BS _)).tr (Gw.set BS _);refine BH (v:=.agg #[AB x,AB op,AE n c.length q]) xBd rfl ?_;exact⟨⟨x,⟨op,c⟩⟩,_,rfl,(y.keep (z _)).mo (λb _ H=>BS),⟨yCi,⟨t,s,yCi⟩⟩,u,CC,B0⟩
 by_cases hd:x=10
 .subst hd;go_wp2_with(go_at_call 43;refine(Qp g _ _ B7 BS).mo ?_;rintro e l⟨op,A,c,rfl,t,j,s,u,I,J⟩;have y:=BZ (Lj j);obtain⟨n,q,rfl,-⟩:=j;obtain⟨E,f,B,q1,G,m,D⟩:E2 l w.heap.size (AB 0) (AB 0) AG:=qb3);have z:∀W:AU,Gw (λb=>d.heap.size - 1<b) W (((W.s (AL w 0) (AB 10)).s (AL w 1) (AB op)).s (AL w 2) (AE n c.length q)):=λW=>((Gw.set BS _).tr (Gw.set BS _)).tr (Gw.set BS _);refine BH (v:=.agg #[AB 10,AB op,AE n c.length q]) xBd rfl ?_;exact⟨⟨10,⟨op,c⟩⟩,_,rfl,(y.keep (z _)).mo (λb _ H=>BS),⟨yCi,⟨t,s,yCi⟩⟩,u,CC,B0⟩
 go_wp2;refine BH (v:=.agg #[AB x,AB 0,AG]) xBd rfl ?_;exact⟨⟨x,⟨0,[]⟩⟩,_,rfl,l9 _ _,⟨yCi,⟨BU,λ_ h=>CQ,BU⟩⟩,BU,CC,B0⟩
open Stil
variable {o:Nat}{v:AW}{w':AU}
def F3(w:AU)(v:AW)(ds:Ψ):Prop:=Jk (λ_=>True) w v ds
def P8(w:AU)(v:AW)(ns:Ξ):Prop:=Z5 (λ_=>True) w v ns
def JZ(w:AU)(v:AW)(es:Ω):Prop:=P7 (λ_=>True) w v es
def Vg(w:AU)(v:AW)(l:Ek):Prop:=Ul (λ_=>True) w v l
def JV(w:AU)(b o:Nat)(n:Stil.DK):Prop:=Ry (λ_=>True) w b o n
def KH(w:AU)(b o:Nat)(n:Stil.DL):Prop:=Wn (λ_=>True) w b o n
def F3.below{w:AU}{ds:Ψ}(h:F3 w v ds)(a:AO w w'):F3 w' v ds:=Jk.keep h (Gw.of_below a)
def P8.below{w:AU}{ds:Ξ}(h:P8 w v ds)(a:AO w w'):P8 w' v ds:=Z5.keep h (Gw.of_below a)
def JZ.below{w:AU}{ds:Ω}(h:JZ w v ds)(a:AO w w'):JZ w' v ds:=P7.keep h (Gw.of_below a)
def Vg.below{w:AU}{ds:Ek}(h:Vg w v ds)(a:AO w w'):Vg w' v ds:=Ul.keep h (Gw.of_below a)
def JV.below{w:AU}(a:AO w w')(n:Stil.DK)(b o:Nat)(h:JV w b o n)(hl:b<w.heap.size):JV w' b o n:=Ry.keep (Gw.of_below a) n b o h trivial hl
def KH.below{w:AU}(a:AO w w')(n:Stil.DL)(b o:Nat)(h:KH w b o n)(hl:b<w.heap.size):KH w' b o n:=Wn.keep (Gw.of_below a) n b o h trivial hl
def F3.at{w:AU}{ds:Ψ}(h:F3 w v ds):Aq w v ds:=Jk.at h
def P8.at{w:AU}{ds:Ξ}(h:P8 w v ds):Eg w v ds:=Z5.at h
def F3.S{w:AU}{ds:Ψ}(h:F3 w v ds):∃a cap,v=AE a ds.length cap/\ds.length<=cap:=by obtain⟨a,cap,b,c,_⟩:=h;exact⟨a,cap,b,c.1⟩
def JZ.S{w:AU}{ds:Ω}(h:JZ w v ds):∃a cap,v=AE a ds.length cap/\ds.length<=cap:=by obtain⟨a,cap,b,c,_⟩:=h;exact⟨a,cap,b,c.1⟩
def zRa{p:Prop}(h:p:=by obtain⟨a,cap,h1,h2,h3⟩:=h;exact⟨a,cap,h1,h2,λi hi=>by have⟨b,o,e,_,hl,hn⟩:=h3 i hi;exact⟨b,o,e,hl,hn⟩⟩):p:=h
def P8.S{w:AU}{ns:Ξ}(h:P8 w v ns):∃a cap,v=AE a ns.length cap/\F4 a ns.length cap/\∀i(h:i<ns.length),∃b o,a=some (AK b o)/\b<w.heap.size/\JV w b (o+i*4) ns[i]:=by exact zRa
def Vg.S{w:AU}{ns:Ek}(h:Vg w v ns):∃a cap,v=AE a ns.length cap/\F4 a ns.length cap/\∀i(h:i<ns.length),∃b o,a=some (AK b o)/\b<w.heap.size/\KH w b (o+i*6) ns[i]:=by exact zRa
def JV.open{w:AU}{b:Nat}{n:Stil.DK}(h:JV w b o n):w.cell? (AK b o)=some (AB n.kind)/\w.cell? (AK b (o+1))=some (AB n.O.op)/\
   ∃a c,w.cell? (AK b (o+2))=some a/\w.cell? (AK b (o+3))=some c/\F3 w a n.O.args/\P8 w c n.K:=by have⟨e,f,⟨a,g,d⟩,⟨c,j,i⟩⟩:=(NY _ _ _ _ _).1 h;exact⟨e,f,a,c,g,j,d,i⟩
def KH.open{w:AU}{b:Nat}{n:Stil.DL}(h:KH w b o n):JV w b o n.N/\∃a c,w.cell? (AK b (o+4))=some a/\w.cell? (AK b (o+5))=some c/\JZ w a n.C/\Vg w c n.K:=by have⟨e,⟨a,f,d⟩,⟨c,i,g⟩⟩:=(dc _ _ _ _ _).1 h;exact⟨e,a,c,f,i,d,g⟩
theorem Vg.take{w:AU}{a:Δ}{c n:Nat}{l:Ek}(h:Vg w (AE a l.length c) l)(f:n<=l.length):Vg w (AE a n c) (l.take n):=by
 obtain⟨t,s,e,g,q⟩:=h;simp only[BN,true_and]at e;obtain⟨rfl,rfl⟩:=e;have d:(l.take n).length=n:=by rw[FP,Nat.min_eq_left f]
 refine⟨a,c,by rw[d],⟨by rw[d];exact DU f g.1,g.2⟩,λi hi=>?_⟩;rw[d]at hi;have⟨b,o,j,k,r,m⟩:=q i BS;exact⟨b,o,j,k,r,by rwa[List.getElem_take]⟩
def GU(F:Nat)(x:Stil.DL)(f:Nat):Prop:=∀(b c a d:AW)(w:AU),F3 w b x.N.O.args->P8 w c x.N.K->JZ w a x.C->Vg w d x.K->Calls prog F #[.agg #[AB x.N.kind,AB x.N.O.op,b,c,a,d]] w (AN w (AB f))
def IA(F:Nat)(x:Stil.DK)(f:Nat):Prop:=∀(a b:AW)(w:AU),F3 w a x.O.args->P8 w b x.K->Calls prog F #[.agg #[AB x.kind,AB x.O.op,a,b]] w (AN w (AB f))
def zKa {p:Prop}(h:p:=by
 go_wp2_with(refine(IH _ BV).mo ?_;rintro e w1⟨rfl,hb1⟩);all_goals go_ret
 all_goals refine⟨Fp ?_,BV⟩
 all_goals (congr 1;omega)):p:=h
theorem mo(x:Stil.DL)(f F B m:Nat)(d a b c:AW)(w:AU)(t:∀args w,(callFunc F args).run prog w=.ok (.enter F args) w)(j:GU F x f)
  (i:F3 w d x.N.O.args) (g:P8 w a x.N.K) (k:JZ w b x.C) (l:Vg w c x.K) (u:w.cell? (AK B 0)=some (.func (.func F) #[] #[])) (s:B<w.heap.size):
  Calls prog 115 #[AB m,.agg #[AB x.N.kind,AB x.N.O.op,d,a,b,c],AH B] w (AN w (AB (max m f:Nat))):=by have IH:=BZ (λW h=>j d a b c W (i.below h) (g.below h) (k.below h) (l.below h));obtain⟨q,D,rfl,_⟩:=i.S;obtain⟨A,E,rfl,_,_⟩:=g.S;obtain⟨z,y,rfl,_⟩:=k.S;obtain⟨C,r,rfl,_,_⟩:=l.S;clear j;go_enter func115,ntmps115;exact zKa
def zk0 {p:Prop}(h:p:=by
 obtain rfl:j=es.length:=by omega
 have hmn:=HM.out;rw[E0 yDa] at hmn;have gK:=BZ hmn;clear hmn;go_wp2;go_ret;exact⟨Fp yFe,hb⟩):p:=h
theorem m7(es:Ek)(f:Stil.DL->Nat)(F:Nat)(K:∀args w,(callFunc F args).run prog w=.ok (.enter F args) w)(D:∀x∈es,GU F x (f x))
  (B c:Nat) (v:AW) (w:AU) (C:Vg w v es) (hl:es.length<=999999) (L:w.cell? (AK B 0)=some (.func (.func F) #[] #[])) (J:B<w.heap.size):
  Calls prog 114 #[v,AB c,.func (.func 115) #[] #[AH B]] w (AN w (AB (A8 c (es.map f)))):=by
 obtain⟨a,cap,rfl,U,A⟩:=C.S;have HA:=BZ A;have R:=BZ D;have Z:=BZ L;have HE:=BZ K;clear A D L K U C;go_enter func114,ntmps114;go_wp2;go_loopw [1,11] (λd i wr=>∃(j m:Nat),j<=es.length/\i=AB j/\d=AB m/\m=A8 c ((es.map f).take j)/\AO w wr) (λ_ i _=>es.length - (intOf i).toNat);case atStart=>exact⟨0,c,BS,rfl,rfl,rfl,BP _ _⟩
 case round=>obtain⟨j,m,hj,rfl,rfl,z,hb⟩:=hrel;have HM:=BZ z;clear z;by_cases hlt:j<es.length;{obtain⟨b,o,rfl,r,G⟩:=HA j hlt;have⟨E,O,P,x4,x5,y,s⟩:=(KH.below hb _ _ _ G r).open;have⟨X,x1,Q,I,x2,x3,t,k⟩:=E.open;have q:Hid (A8 c ((es.map f).take (j+1))=max (A8 c ((es.map f).take j)) (f es[j])):=(by show _=_;rw[Mc yDh,Fo]);have u:Hid (∀W,AO wr W->Calls prog 115 #[AB m,.agg #[AB es[j].N.kind,AB es[j].N.O.op,Q,I,O,P],AH B] W (AN W (AB (max m (f es[j]):Nat)))):=(by intro W g;have M:=hb.tr (g.mo hb.size);exact mo es[j] (f es[j]) F B m Q I O P W HE (R es[j] (DY hlt)) (t.below g) (k.below g) (y.below g) (s.below g) ((M.cell (p:=(AK B 0)) J).tr Z.out) (DO J M.size));have⟨x,N⟩:=AA (es[j]);rw[<-N]at u X x1 t k y s q;obtain⟨p0,r0,rfl,fM⟩:=t.S;obtain⟨p1,r1,rfl,Y,_⟩:=k.S;obtain⟨p2,r2,rfl,xR⟩:=y.S;obtain⟨p3,r3,rfl,T,_⟩:=s.S;have⟨l,H⟩:=AA (f x);rw[<-H]at u q;have aa:=DO r hb.size;clear fM Y xR T E N G r H;go_wp2_with(go_at_call 115;refine(u _ BV).mo ?_;rintro e w2⟨rfl,V⟩;have S:=(show AO w _ from hb.tr ((show AO wr _ from BV).mo hb.size)).tr (V.mo yDg));refine⟨⟨j+1,max m l,BS,by go_num,rfl,?_,S⟩,xAb⟩;rw[q.out,<-HM.out]};exact zk0
theorem OI(es:Ek)(f:Stil.DL->Nat)(F:Nat)(d:∀args w,(callFunc F args).run prog w=.ok (.enter F args) w)(c:∀x∈es,GU F x (f x))
  (a:Nat) (v:AW) (w:AU) (b:Vg w v es) (hl:es.length<=999999):
  Calls prog 66 #[v,AB a,.func (.func F) #[] #[]] w (AN w (AB (A8 a (es.map f)))):=by have k:=BZ (λW B h g i=>m7 es f F d c B a v W (b.below h) hl g i);obtain⟨q,r,rfl,j,_⟩:=b.S;clear j c d;go_enter func66,ntmps66;go_wp2_with(go_at_call 114;refine(k _ _ BV xAa BU).mo ?_;rintro e m⟨rfl,l⟩);go_ret;exact⟨rfl,BV⟩
theorem mj(x:Stil.DK)(f F B m:Nat)(b a:AW)(w:AU)(q:∀args w,(callFunc F args).run prog w=.ok (.enter F args) w)(d:IA F x f)
  (g:F3 w b x.O.args) (c:P8 w a x.K) (r:w.cell? (AK B 0)=some (.func (.func F) #[] #[])) (l:B<w.heap.size):
  Calls prog 183 #[AB m,.agg #[AB x.kind,AB x.O.op,b,a],AH B] w (AN w (AB (max m f:Nat))):=by have IH:=BZ (λW h=>d b a W (g.below h) (c.below h));obtain⟨j,k,rfl,_⟩:=g.S;obtain⟨i,s,rfl,_,_⟩:=c.S;clear d;go_enter func183,ntmps183;exact zKa
theorem mz(es:Ξ)(f:Stil.DK->Nat)(F:Nat)(E:∀args w,(callFunc F args).run prog w=.ok (.enter F args) w)(J:∀x∈es,IA F x (f x))
  (B c:Nat) (v:AW) (w:AU) (I:P8 w v es) (hl:es.length<=999999) (G:w.cell? (AK B 0)=some (.func (.func F) #[] #[])) (D:B<w.heap.size):
  Calls prog 182 #[v,AB c,.func (.func 183) #[] #[AH B]] w (AN w (AB (A8 c (es.map f)))):=by
 obtain⟨a,cap,rfl,P,C⟩:=I.S;have V:=BZ C;have M:=BZ J;have U:=BZ G;have X:=BZ E;clear C J G E P I;go_enter func182,ntmps182;go_wp2;go_loopw [1,11] (λd i wr=>∃(j m:Nat),j<=es.length/\i=AB j/\d=AB m/\m=A8 c ((es.map f).take j)/\AO w wr) (λ_ i _=>es.length - (intOf i).toNat);case atStart=>exact⟨0,c,BS,rfl,rfl,rfl,BP _ _⟩
 case round=>obtain⟨j,m,hj,rfl,rfl,y,hb⟩:=hrel;have HM:=BZ y;clear y;by_cases hlt:j<es.length;{obtain⟨b,o,rfl,s,u⟩:=V j hlt;have⟨R,T,L,A,x2,Y,k,g⟩:=(JV.below hb _ _ _ u s).open;have r:Hid (A8 c ((es.map f).take (j+1))=max (A8 c ((es.map f).take j)) (f es[j])):=(by show _=_;rw[Mc yDh,Fo]);have l:Hid (∀W,AO wr W->Calls prog 183 #[AB m,.agg #[AB es[j].kind,AB es[j].O.op,L,A],AH B] W (AN W (AB (max m (f es[j]):Nat)))):=(by intro W t;have H:=hb.tr (t.mo hb.size);exact mj es[j] (f es[j]) F B m L A W X (M es[j] (DY hlt)) (k.below t) (g.below t) ((H.cell (p:=(AK B 0)) D).tr U.out) (DO D H.size));have⟨x,K⟩:=AA (es[j]);rw[<-K]at l R T k g r;obtain⟨Z,r0,rfl,O⟩:=k.S;obtain⟨p1,r1,rfl,S,_⟩:=g.S;have⟨q,z⟩:=AA (f x);rw[<-z]at l r;have aa:=DO s hb.size;clear O S K u s z;go_wp2_with(go_at_call 183;refine(l _ BV).mo ?_;rintro e w2⟨rfl,Q⟩;have N:=(show AO w _ from hb.tr ((show AO wr _ from BV).mo hb.size)).tr (Q.mo yDg));refine⟨⟨j+1,max m q,BS,by go_num,rfl,?_,N⟩,xAb⟩;rw[r.out,<-HM.out]};exact zk0
theorem TY(es:Ξ)(f:Stil.DK->Nat)(F:Nat)(d:∀args w,(callFunc F args).run prog w=.ok (.enter F args) w)(c:∀x∈es,IA F x (f x))
  (a:Nat) (v:AW) (w:AU) (b:P8 w v es) (hl:es.length<=999999):
  Calls prog 157 #[v,AB a,.func (.func F) #[] #[]] w (AN w (AB (A8 a (es.map f)))):=by have k:=BZ (λW B h g i=>mz es f F d c B a v W (b.below h) hl g i);obtain⟨q,r,rfl,j,_⟩:=b.S;clear j c d;go_enter func157,ntmps157;go_wp2_with(go_at_call 182;refine(k _ _ BV xAa BU).mo ?_;rintro e m⟨rfl,l⟩);go_ret;exact⟨rfl,BV⟩
theorem fh(k:Int)(kids:Ξ)(ih:∀x∈kids,JJ 177 x (Ce x))(v:AW)(w:AU)(bs:Γ)(ts:Ao)(h:Sv w bs ts)(aj:Eg w v kids)(hl:kids.length<=1048576)(hs:Stil.sizes (kids.map Ce)<=1000000):
  Calls prog 198 #[AB k,v] w (GZ (Jo k (Dw k (kids.map Ce))) w bs ts):=by
 obtain⟨a,cap,rfl,hc⟩:=aj;have HA:=Af hc;have IH:=Af ih;have ai:=h.1;have hS:=(h.box (.cells #[AB 0,AB 0,AG,AG] 63)).box (.cells #[AB k,AB 0,AG,AG] 63);rw[BG]at hS;clear hc ih h;go_enter func198,ntmps198;go_wp2;go_loopw [6] (λi wr=>∃(j:Nat)(L:Ξ)(F:Δ)(J:Nat)(xs:Θ),j<=kids.length/\i=AB j/\L=Dw k ((kids.take j).map Ce)/\Dm wr w.heap.size (AB 0) (AB 0) AG AG/\Dm wr (w.heap.size+1) (AB k) (AB 0) AG (AE F L.length J)/\wr.ownsRow (w.heap.size+2) 63 4 (AE F L.length J) L.length xs/\Sv wr (ob (AE F L.length J)++(w.heap.size+1)::w.heap.size::bs) ((Fh L,xs)::ts)/\AO w wr) (λi _=>kids.length - (intOf i).toNat);case atStart=>exact⟨0,[],none,0,[],BS,rfl,rfl,qN4,qN4,BJ _ _ _ _,hS.nil,BV⟩
 case round=>
  clear hS;obtain⟨j,L,F,J,xs,hj,rfl,u,d,f,hown,hS,hB⟩:=hrel;by_cases ag:j<kids.length;{obtain⟨b,o,rfl,an,hn⟩:=HA j ag;have⟨x0,x1,av,kv,x2,x3,af,ac⟩:=(Og.below hB _ _ _ hn an).open;have HI:=Af (λW(h:AO wr W)cs us hs=>IH kids[j] (DY ag) av kv W cs us hs (af.below h) (ac.below h));have t:=gl k kids j ag;have K:=gj k kids (j+1);rw[<-u]at t;have HL:=Af u;clear u;have⟨y,hy⟩:=AA (Ce kids[j]);rw[<-hy]at HI t;have⟨x,hx⟩:=AA (kids[j]);rw[<-hx]at HI x0 x1 af ac;obtain⟨E,r0,rfl,_⟩:=af;obtain⟨I,r1,rfl,_⟩:=ac;clear hn hx hy;have⟨R,B,E,q1,I,C,U,D,Z⟩:=id d;have⟨T,S,X,P,O,Y,p6,H,Q⟩:=id f;go_upto_region 6 with(go_at_call 177;refine(HI _ Bw _ _ hS).mo ?_;rintro e z⟨q,r,s,l,rfl,hS,ae⟩);replace d:=(d.bel ae).bel (Aa z (A2 y q r s l 63));replace f:=(f.bel ae).bel (Aa z (A2 y q r s l 63));have hN:Dm (z.alloc (A2 y q r s l 63)) z.heap.size (AB y.kind) (AB y.O.op) (AE q y.O.args.length r) (AE s y.K.length l):=qN4;have hS:=hS.alloc (A2 y q r s l 63);have aa:AO w (z.alloc (A2 y q r s l 63)):=BV;replace hown:=(ownsRow_below hown ae).alloc (A2 y q r s l 63);have ak:z.heap.size<(z.alloc (A2 y q r s l 63)).heap.size:=BU;have⟨W,hW⟩:=AA (z.alloc (A2 y q r s l 63));rw[<-hW]at d f hN hS aa hown ak⊢;have⟨R,B,E,q1,I,C,U,D,Z⟩:=id d;have⟨T,S,X,P,O,Y,p6,H,Q⟩:=id f;have⟨ao,q8,p8,q9,p9,ax,ap,aw,ar⟩:=id hN;clear hW;by_cases V:y.kind=k;{rw[BR V]at t;(rw[V]at q8;have⟨ys,al,hS⟩:=hS.kidsOf Av;have ab:L.length+y.K.length<=2000000:=by rw[<-DV,<-t];omega);have HN:=Af t;clear t K;go_wp2_with(at_builtin;go_loud (refine Bj rfl rfl (Sv.appM (M:=y.K) _ kd4 hS BU BU Qz al hown BS ab) rfl rfl ?_;rintro v6 w6⟨a6,c6,rfl,ah,ad,A,-⟩;replace d:=d.gr A (λe=>by have:=(hown.lt _ e).1;omega);replace f:=f.gr A (λe=>by have:=(hown.lt _ e).1;omega);have⟨R,B,E,q1,I,C,U,D,Z⟩:=id d;have⟨T,S,X,P,O,Y,p6,H,Q⟩:=id f));refine⟨⟨j+1,L++y.K,a6,c6,_,BS,by go_num,HN.symm,qN4,by rw[DV];exact qN4,ownsRow_setCell_below ah (EQ _) _,(ad.set BU).sub (λ_ h=>h) B8,?_⟩,xAb⟩;exact(aa.grown A BS (λk hk=>by have:=(hown.lt _ hk).1;omega)).s BU _};rw[BQ V]at t;have vW:(y.kind==k)=false:=xAr;have ab:L.length<=1900000:=(by rw[t,DV]at K;simp only[FV]at K;omega);have HN:=Af t;clear t K;go_wp2_with(at_builtin;go_loud (refine Bj rfl rfl (Sv.pushM (x:=y) _ kd4 hS BU Av Qz hown BS ab) rfl rfl ?_;rintro v6 w6⟨a6,c6,rfl,ah,ad,A,-⟩;replace d:=d.gr A (λe=>by have:=(hown.lt _ e).1;omega);replace f:=f.gr A (λe=>by have:=(hown.lt _ e).1;omega);have⟨R,B,E,q1,I,C,U,D,Z⟩:=id d;have⟨T,S,X,P,O,Y,p6,H,Q⟩:=id f));refine⟨⟨j+1,L++[y],a6,c6,_,BS,by go_num,HN.symm,qN4,by rw[DV,FV];exact qN4,ownsRow_setCell_below ah (EQ _) _,(ad.set BU).sub (λ_ h=>h) B8,?_⟩,xAb⟩;exact(aa.grown A BS (λk hk=>by have:=(hown.lt _ hk).1;omega)).s BU _};obtain rfl:j=kids.length:=by omega
  rw[JO]at u;have⟨R,B,E,q1,I,C,U,D,Z⟩:=id d;have⟨T,S,X,P,O,Y,p6,H,Q⟩:=id f;by_cases h1:L.length=1;{obtain⟨m,rfl⟩:=List.length_eq_one_iff.1 h1;(obtain⟨c,au,rfl,hS⟩:=hS.fst Av;obtain⟨q,r,s,l,rfl,hS⟩:=hS.opN Av;have⟨g,c,hv,_,ay,_,G⟩:=Jg hown BU;simp only[BN]at hv;obtain⟨rfl,_,rfl⟩:=hv;have y0:=G 0 _ rfl;have y1:=G 1 _ rfl;have y2:=G 2 _ rfl;have y3:=G 3 _ rfl;have dZ:Hid (Jo k (Dw k (kids.map Ce))=m):=by show _=_;rw[<-u];rfl);clear u G HA IH;simp only[FV]at H;go_wp2;refine BH (v:=A0 m q r s l) (by simp[results,results198,go_sem,B,q1,C,D]) rfl ?_;rw[dZ.out];exact⟨_,_,_,_,rfl,((((hS.set BU).set BU).set BU).set BU).sub B8 B8,BV⟩}
  .have dZ:Hid (Jo k (Dw k (kids.map Ce))=⟨k,⟨0,[]⟩,L⟩):=by
    show _=_
    rw[<-u];exact dif_neg h1
   have e1:((L.length:Int)==1)=false:=xAh
   have e2:¬((L.length:Int)=1):=BS
   replace hS:=(hS.ice Av C6 (λb N=>by simp only[EN]at N;rcases N with rfl|rfl|N;omega;omega;have:=ai b N;omega)).snil;replace hS:=Sv.mkN (i:=k) (op:=0) (ds:=[]) hS Av (Ax Av);clear u HA IH
   go_wp2
   refine BH (v:=.agg #[AB k,AB 0,AG,AE F L.length J]) (by simp[results,results198,go_sem,B,q1,C,D]) rfl ?_;rw[dZ.out];exact⟨_,_,_,_,rfl,((((hS.set BU).set BU).set BU).set BU).sub B8 B8,BV⟩
theorem kr(x y:Stil.DK)(hx:JJ 177 x y):JJ 177 ⟨4,⟨0,[]⟩,[x]⟩ ⟨4,⟨0,[]⟩,[y]⟩:=by
 intro av kv w Z ts h N ae;obtain⟨F,t,rfl,-⟩:=N;obtain⟨o7,s,rfl,q⟩:=ae;obtain⟨b,o,rfl,e,k⟩:=q 0 BU;simp only[IQ,G0,IV]at k;have⟨B,D,V,J,E,r,m,G⟩:=k.open;have R:=Af (λW(h:AO w W)cs us hs=>hx V J W cs us hs (m.below h) (G.below h));have ag:=h.1;obtain⟨L,ac,rfl,-⟩:=m;obtain⟨P,ab,rfl,-⟩:=G;clear hx k q;simp only[DW,FV];go_enter func177,ntmps177;go_upto_region 6 with fail;have⟨W,d⟩:=AA ((w.alloc (.cells #[AB 4,AB 0,AE F 0 t,AE (some (AK b o)) 1 s] 63)).alloc (.cells #[AB 0,AB 0,AG,AG] 63));rw[<-d];have f:Dm W w.heap.size (AB 4) (AB 0) (AE F 0 t) (AE (some (AK b o)) 1 s):=xCj;have g:Dm W (w.heap.size+1) (AB 0) (AB 0) AG AG:=xCj;have hS:Sv W ((w.heap.size+1)::Z) ts:=by rw[d];simpa using(h.alloc _).box _
 have c:AO w W:=by rw[d];exact Bi (Aa _ _) _
 clear d h;have⟨aa,K,Q,q1,p1,q2,p2,O,p3⟩:=id f;have⟨u,H,p4,C,X,A,I,z,U⟩:=id g;have B:W.c (AK b o)=some (AB x.kind):=(c.cell (p:=(AK b o)) e).tr B;have D:W.c (AK b (o+1))=some (AB x.O.op):=(c.cell (p:=(AK b (o+1))) e).tr D;have E:W.c (AK b (o+2))=some (AE L x.O.args.length ac):=(c.cell (p:=(AK b (o+2))) e).tr E;have r:W.c (AK b (o+3))=some (AE P x.K.length ab):=(c.cell (p:=(AK b (o+3))) e).tr r;go_region_law(go_simp;go_at_call 177;refine(R _ (by exact c.drew) _ _ hS.drew).mo ?_;rintro af j⟨M,S,T,Y,rfl,hS,ad⟩;have l:AO W j:=((BP W.heap.size W).drew).tr ad;replace f:=f.bel l;replace g:=g.bel l;have⟨aa,K,Q,q1,p1,q2,p2,O,p3⟩:=id f;have⟨u,H,p4,C,X,A,I,z,U⟩:=id g);all_goals
  try go_wp2
  refine BH (v:=.agg #[AB 4,AB 0,AG,AE (some (AL j 0)) 1 1]) (by simp[results,results177,go_sem,H,C,A,z,u]) rfl ?_;exact⟨_,_,_,_,rfl,(((hS.set4 Av).lit (n:=j.heap.size) Av #[AB y.kind,AB y.O.op,AE M y.O.args.length S,AE T y.K.length Y] 63 rfl BU).snil.mkN (i:=4) (op:=0) (ds:=[]) (ns:=[y]) Av (Ax Av)).sub B8 B8,by have dK:AO w j:=c.tr (l.mo c.size);exact BV⟩
theorem kq(e:Stil.Elem)(X:e.args.length<=1048576):JJ 177 ⟨1,e,[]⟩ ⟨1,e,[]⟩:=by
 intro av kv w M Z h r Y;have E:=Af (λW(h:AO w W)=>r.below h);have aa:=h.1;obtain⟨q,l,rfl,-⟩:=r;obtain⟨t,u,rfl,-⟩:=Y;simp only[DW];go_enter func177,ntmps177;go_upto_region 7 with fail;have⟨W,c⟩:=AA ((w.alloc (.cells #[AB 1,AB e.op,AE q e.args.length l,AE t 0 u] 63)).alloc (.cells #[AB 0,AB 0,AG,AG] 63));rw[<-c];have d:Dm W w.heap.size (AB 1) (AB e.op) (AE q e.args.length l) (AE t 0 u):=by rw[c];exact qN4
 have f:Dm W (w.heap.size+1) (AB 0) (AB 0) AG AG:=by rw[c];exact qN4
 have hS:Sv W ((w.heap.size+1)::M) Z:=xBj;have A:W.heap.size=w.heap.size+2:=by rw[c];simp
 have g:AO w W:=xCi;clear c h;have⟨Q,F,J,q1,S,T,O,H,U⟩:=id d;have⟨x,D,P,C,K,z,p6,y,p7⟩:=id f;have iE:=Af A;clear A;go_region_held3 (λj=>(j.c (AL w 0)=some (AB 1)/\j.c (AL w 1)=some (AB e.op)/\j.c (AL w 2)=some (AE q e.args.length l))) (first|with_reducible assumption|(refine⟨?_,?_,?_⟩<;>exact CJ)) (go_loud (refine Gj rfl rfl (Sv.copyDevs (N:=W.heap.size) (B:=W.heap.size) _ (hS.box (.cells #[] 153)).drew (E.out _ (by exact(Bi g _).drew)) xBk (λb I=>hS.1 b I) BU (DU X BX)) rfl rfl ?_;rintro v5 s⟨G,V,rfl,L,R⟩;have m:AO W s:=(Aa W _).drew.grown R BU (λk hk=>by cases hk;exact DN _);replace d:=d.bel m;replace f:=f.bel m;have⟨Q,F,J,q1,S,T,O,H,U⟩:=id d;have⟨x,D,P,C,K,z,p6,y,p7⟩:=id f));all_goals
  try go_wp2
  refine BH (v:=.agg #[AB 1,AB e.op,AE G e.args.length V,AG]) (by simp[results,results177,go_sem,D,C,z,y]) rfl ?_;exact⟨_,_,_,_,rfl,((L.snil.mkN (i:=1) (op:=e.op) (ds:=e.args) (ns:=[]) (Ax Av) Av).set4 Av).sub B8 B8,by have dK:AO w s:=g.tr (m.mo g.size);exact BV⟩
theorem R7(n:Stil.DK):Ci n->Ap n=0->Ad n<=1000000->JJ 177 n (Ce n):=by induction n using Gp with|h k e kids f=>intro j u s;have⟨_,q,B,g⟩:=(G6 _ _ _).1 j;have⟨r,d⟩:=YK s;rcases F8 u with⟨rfl,rfl⟩|⟨t,G,m⟩|⟨rfl,rfl,x,rfl,I⟩;{rw[show Ce ⟨1,e,[]⟩=⟨1,e,[]⟩ from by rw[Jy,BQ BS];rfl];exact kq e q.2.1};{rw[Jy,BR t];intro R y w Z ts h D z;have l:=Af (λW(P:AO w W)L T M=>fh k kids (λx c=>f x c (g x c) (m x c) (d x c)) y W L T M (z.below P) B r);have hS:=(h.alloc (.cells #[AB k,AB e.op,R,y] 63)).box (.cells #[AB 0,AB 0,AG,AG] 63);rw[BG]at hS;obtain⟨V,r0,rfl,-⟩:=D;obtain⟨p1,r1,rfl,-⟩:=z;have⟨N,A⟩:=AA (Jo k (Dw k (kids.map Ce)));rw[<-A]at l⊢;clear f j q B g u s r d m G A h;rcases t with rfl|rfl;all_goals go_enter func177,ntmps177;go_wp2_with(go_at_call 198;refine(l _ BV _ _ hS).mo ?_;rintro e O⟨C,E,F,H,rfl,hS,aa⟩;obtain⟨Y,S,p4,Q,X,K,U,J,p7⟩:Dm O (w.heap.size+1) (AB 0) (AB 0) AG AG:=qB4);refine BH (v:=A0 N C E F H) (by simp[results,results177,go_sem,S,Q,K,J]) rfl ?_;exact⟨_,_,_,_,rfl,(hS.set4 Av).sub (λ_ h=>.tail _ h) (λ_ h=>h),BV⟩};rw[show Ce ⟨4,⟨0,[]⟩,[x]⟩=⟨4,⟨0,[]⟩,[Ce x]⟩ from by rw[Jy,BQ BS];rfl];exact kr x _ (f x BU (g x BU) I (d x BU))
def Y2(n:Stil.DK)(a b:AW)(w:AU)(f:Aq w a n.O.args)(g:Eg w b n.K)(c:Ci n):
  Calls prog 110 #[.agg #[AB n.kind,AB n.O.op,a,b]] w (AN w (.bool (Aj n))):=by have⟨_,d,i,_⟩:=Ea c;exact RO n a b w f g (by have:=d.2.1;omega) BS
theorem nQ(X Y:Stil.DK)(r l c d:Δ)(g n2 m j:Nat)(w:AU)(bs:Γ)(ts:Ao)(h:Sv w bs ts)
  (h1:([G8 X],A3 X r g l n2)∈ts) (h2:([G8 Y],A3 Y c m d j)∈ts) (K:Stil.sizes [X,Y]<=999999) (ab:Gu X) (ac:Gu Y) (P:Ci X) (O:Ci Y):
  Calls prog 178 #[A0 X r g l n2, (A0 Y c m d j)] w (GZ (Jq X Y) w bs ts):=by
 have s:∀(Z:Stil.DK)(u v:Δ)(p q:Nat),([G8 Z],A3 Z u p v q)∈ts->Ci Z->∀W,AO w W->Calls prog 110 #[A0 Z u p v q] W (AN W (.bool (Aj Z))):=λZ u v p q F hf W J=>by have⟨_,_,_,_,he,hS⟩:=(h.bel J).opN F;cases he;exact Y2 Z _ _ W (hS.devs Av) (hS.nets (Ax Av)) hf
 have T:=Af (s X _ _ _ _ h1 P);have Q:=Af (s Y _ _ _ _ h2 O);have E:Hid (Aj X=false->Aj Y=false->∀W G,Sv W G ts->Calls prog 198 #[AB 2,AE (some (AL W 0)) 2 2] (W.alloc (.cells #[AB X.kind,AB X.O.op,AE r X.O.args.l g,AE l X.K.l n2,AB Y.kind,AB Y.O.op,AE c Y.O.args.l m,AE d Y.K.l j] 63)) (GZ (Jq X Y) (W.alloc (.cells #[AB X.kind,AB X.O.op,AE r X.O.args.l g,AE l X.K.l n2,AB Y.kind,AB Y.O.op,AE c Y.O.args.l m,AE d Y.K.l j] 63)) G ts)):=by
  intro H D W G J;have x1:Stil.fine X:=ab.resolve_left (by rw[H];exact GK);have x2:Stil.fine Y:=ac.resolve_left (by rw[D];exact GK);have F:[X,Y].map Ce=[X,Y]:=by simp only[DZ,FI];rw[NI x1,NI x2]
  have hL:=(J.cat h1 h2).lit (n:=W.heap.size) Av #[AB X.kind,AB X.O.op,AE r X.O.args.l g,AE l X.K.l n2,AB Y.kind,AB Y.O.op,AE c Y.O.args.l m,AE d Y.K.l j] 63 rfl rfl
  have:=fh 2 [X,Y] (λx L=>by
   rcases BD.1 L with rfl|L
   .exact R7 _ P x1.2.2 (by simp[Stil.sizes]at K;omega)
   .rw[BB.1 L]
    exact R7 _ O x2.2.2 (by simp[Stil.sizes] at K;omega)) _ _ G ts (J.alloc _) (Sv.nets (ns:=[X,Y]) hL Av) BU (by rw[F];omega)
  rw[F]at this;rw[Jq,BQ (by rw[H];exact GK),BQ (by rw[D];exact GK)];exact this
 have hS:=((h.alloc (A2 X r g l n2 63)).alloc (A2 Y c m d j 63)).box (.cells #[AB 0,AB 0,AG,AG] 63);rw[BG,BG]at hS;have⟨N,s⟩:=AA (Jq X Y);have HX:Hid (Aj X=true->N=Y):=λe=>by rw[s,Jq,BR e]
 have M:Hid (Aj X=false->Aj Y=true->N=X):=λe f=>by rw[s,Jq,BQ yGe,BR f]
 rw[<-s]at E⊢;obtain⟨H,V⟩:∃t,t=Aj X:=⟨_,rfl⟩;obtain⟨D,U⟩:∃t,t=Aj Y:=⟨_,rfl⟩;rw[<-V]at T E HX M;rw[<-U]at Q E M;clear s V U K ab ac P O h;go_enter func178,ntmps178;go_upto_if 6 with(go_at_call 110;refine(T _ BV).mo ?_;rintro e I⟨rfl,af⟩;replace hS:=hS.bel af;obtain⟨ad,q0,p0,q1,p1,q2,p2,q3,p3⟩:A9 I w.heap.size X r g l n2:=qB4;obtain⟨ae,q4,p4,q5,p5,q6,p6,q7,p7⟩:A9 I (w.heap.size+1) Y c m d j:=qB4;obtain⟨R,B,p8,C,p9,A,S,z,aa⟩:Dm I (w.heap.size+1+1) (AB 0) (AB 0) AG AG:=qB4;have aj:AO w I:=BV);cases H with
 |true=>obtain rfl:=HX CU;go_wp2;refine BH (v:=A0 N c m d j) xBa rfl ?_;exact⟨_,_,_,_,rfl,((hS.cat h2 h2).set4 Av).sub (λ_ h=>.tail _ h) (BA.2 ⟨.tail _ h2,λ_ h=>.tail _ h⟩),BV⟩
 |false=>
  go_upto_if 9 with(go_at_call 110;refine(Q _ BV).mo ?_;rintro e y⟨rfl,ag⟩;replace hS:=hS.bel ag;obtain⟨ad,q0,p0,q1,p1,q2,p2,q3,p3⟩:A9 y w.heap.size X r g l n2:=qB4;obtain⟨ae,q4,p4,q5,p5,q6,p6,q7,p7⟩:A9 y (w.heap.size+1) Y c m d j:=qB4;obtain⟨R,B,p8,C,p9,A,S,z,aa⟩:Dm y (w.heap.size+1+1) (AB 0) (AB 0) AG AG:=qB4;have ai:AO w y:=BV);cases D with
  |true=>obtain rfl:=M CU CU;go_wp2;refine BH (v:=A0 N r g l n2) xBa rfl ?_;exact⟨_,_,_,_,rfl,((hS.cat h1 h1).set4 Av).sub (λ_ h=>.tail _ h) (BA.2 ⟨.tail _ h1,λ_ h=>.tail _ h⟩),BV⟩
  |false=>go_wp2_with(go_at_call 198;refine(E CU CU y _ hS).mo ?_;rintro e w3⟨u1,m1,u2,m2,rfl,hS,ah⟩;obtain⟨R,B,p8,C,p9,A,S,z,aa⟩:Dm w3 (w.heap.size+1+1) (AB 0) (AB 0) AG AG:=qB4);refine BH (v:=A0 N u1 m1 u2 m2) xBa rfl ?_;exact⟨_,_,_,_,rfl,(hS.set4 Av).sub (λ_ h=>.tail _ h) (λ_ h=>h),BV⟩
