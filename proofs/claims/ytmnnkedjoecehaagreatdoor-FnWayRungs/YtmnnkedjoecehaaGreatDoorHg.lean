import Derived.Test.YtmnnkedjoecehaaGreatDoorGg
set_option linter.defProp false
set_option maxHeartbeats 4000000
set_option maxRecDepth 100000
namespace Go.Proofs.YtmnnkedjoecehaaGreatDoor
open Tryz Stil Go.RowKit Go.Sort Go.BigFrame
def Tn (l:List Nat)(i:Nat)(h:i<l.length):(l.take (i+1)).sum=(l.take i).sum+l[i]:=by
 rw[EB h,GF,DO,GH,ER]
theorem J9:∀(l:List Nat) (i:Nat),(l.take i).sum<=l.sum
 | [],i=>by simp
 | x::r,0=>by simp
 | x::r,i+1=>by have:=J9 r i;simp;omega
def Ax3 (n:Stil.B8):∀(f d:Value) (w:World),Dj w f n.one.args->Gg w d n.kids->Ai n<=1000000000->
  Calls prog 100 #[.agg #[AB n.kind,AB n.one.op,f,d]] w (AN w (AB (Ai n))):=by
 induction n using Fp with
 | h k e kids r=>
  intro f d w m q J;have O:=AV r;clear r;have y:=AV (Qi k e kids);have L:(kids.map Ai).sum<=1000000000:=by have:=y.out;omega
  obtain⟨a,cap,rfl,D⟩:=q;have P:Hid (∀i (h:i<kids.length),∃b o,a=some (AK b o)/\b<w.heap.size/\Uz w b (o+i*4) kids[i]):=D;obtain⟨aa,F,rfl,_⟩:=m;have Y:kids.length<=1000000000:=by
   have:∀l:List Stil.B8,l.length<=(l.map Ai).sum:=by
    intro l;induction l with
    | nil=>simp
    | cons x ab r=>simp only[CQ,DO,CH];have:1<=Ai x:=(by(obtain⟨_,_,_⟩:=x;rw[Qi];omega));omega
   have:=this kids;omega
  clear D J;go_enter func100,ntmps100
  go_wp2
  go_loopw [3,4] (λacc i wr=>∃j:Nat,j<=kids.length/\i=AB j/\acc=AB (1+((kids.map Ai).take j).sum:Nat)/\Below (w.heap.size+1) (w.alloc (.cells #[AB k,AB e.op,AE aa e.args.length F,AE a kids.length cap] 59)) wr) (λ_ i _=>kids.length - (intOf i).toNat)
  case atStart=>exact⟨0,AQ,rfl,AU,Below.refl _ _⟩
  case round=>
   obtain⟨j,T,rfl,rfl,c⟩:=hrel;have S:w.heap.size<wr.heap.size:=by have:=c.size;simp at this;omega
   have U:wr.cell? (AL w 0)=some (AB k):=A0 c;have X:wr.frozen? (AL w 0)=false:=A5 c;have c1:wr.cell? (AL w 1)=some (AB e.op):=A0 c;have f1:wr.frozen? (AL w 1)=false:=A5 c;have c2:wr.cell? (AL w 2)=some (AE aa e.args.length F):=A0 c;have f2:wr.frozen? (AL w 2)=false:=A5 c;have c3:wr.cell? (AL w 3)=some (AE a kids.length cap):=A0 c;have f3:wr.frozen? (AL w 3)=false:=A5 c;have z:=(Aa _ _).trans (c.mono AQ);have A:=J9 (kids.map Ai) j;by_cases hlt:j<kids.length
   ·obtain⟨b,o,rfl,H,u⟩:=P j hlt
    obtain⟨Q,I,f,d,x2,Z,m,q⟩:=(Uz.below z _ _ _ u H).open;have g:=Tn (kids.map Ai) j Bm;have R:=J9 (kids.map Ai) (j+1);rw[EH] at g;have t:=AV (λW B=>O kids[j] (CJ hlt) f d W (m.below B) (q.below B) AQ);obtain⟨s,C⟩:=AA (Ai kids[j])
    obtain⟨x,E⟩:=AA (kids[j])
    rw[<-C] at t g;rw[<-E] at t Q I;obtain⟨ac,mr,rfl,_⟩:=m;obtain⟨a',ae,rfl,_⟩:=q;generalize G:((kids.map Ai).take j).sum=A1 at g A ⊢;have N:=AV g;have V:A1+s<=1000000000:=AQ
    clear C E u G g R A L
    go_wp2_with (go_at_call 100;refine(t _ Ao).mono ?_;rintro e w2 ⟨rfl,M⟩)
    refine⟨⟨j+1,AQ,by go_num,?_,c.trans (M.mono S)⟩,by simp[intOf];omega⟩;rw[N.out];congr 1;omega
   ·go_wp2
    go_ret;refine⟨Fj ?_,z⟩;rw[y.out,EC Ax]
def LU (n:Stil.B8)(i g:Value)(w:World)(j:Dj w i n.one.args)(k:Gg w g n.kids)(_h1:n.one.args.length<=9223372036854775807)(_h2:n.kids.length<=9223372036854775807):
  Calls prog 63 #[.agg #[AB n.kind,AB n.one.op,i,g]] w (AN w (.bool (Am n))):=by
 obtain⟨aa,o,rfl,_⟩:=j;obtain⟨a,cap,rfl,_⟩:=k;obtain⟨d,b⟩:=AA n.one.args.length
 obtain⟨f,c⟩:=AA n.kids.length
 have m:Hid (Am n=(n.kind==0 && n.one.op==0 && d==0 && f==0)):=by
  show _=_
  unfold Am;rw[b,c]
 rw[<-b,<-c];rw[<-b] at _h1;rw[<-c] at _h2;clear b c;go_enter func63,ntmps63
 go_wp2
 all_goals go_ret
 all_goals (refine⟨Ae ?_,Ao⟩)
 all_goals rw[m.out]
 all_goals go_light
 all_goals (rw[DY];simp[*];try omega)
def Np (x:Stil.B9):1<=Ak x:=by obtain⟨_,_,_⟩:=x;rw[Ug];omega
theorem OD {α:Type}(f:α->Nat)(a:∀x,1<=f x):∀l:List α,l.length<=(l.map f).sum
 | []=>by simp
 | x::r=>by have:=OD f a r;have:=a x;simp only[CQ,DO,CH];omega
def Aya (n:Stil.B9):∀(m q A y:Value) (w:World),Dj w m n.net.one.args->Gg w q n.net.kids->Ir w A n.coils->E8 w y n.kids->Ak n<=1000000000->Dh n->
  Calls prog 62 #[.agg #[AB n.net.kind,AB n.net.one.op,m,q,A,y]] w (AN w (AB (Ak n))):=by
 induction n using Fq with
 | h n g kids ih=>
  intro m q A y w l k u r ag af;simp only at l k u r;obtain⟨ab,ak,_,an,ac⟩:=(Fz _ _ _).1 af;obtain⟨_,he,al,_⟩:=D5 ab;have aj:=he.2.1;have IH:=AV ih;have HF:=AV ac;clear ih ac af he ab;obtain⟨ns,M⟩:=AA (if Am n then 0 else Ai n)
  have X:Hid (Ak ⟨n,g,kids⟩=1+g.length+ns+(kids.map Ak).sum):=by show _=_;rw[Ug,M]
  have ae:1+g.length+ns+(kids.map Ak).sum<=1000000000:=by have:=X.out;omega
  have fM:=AV (λW d=>LU n m q W (l.below d) (k.below d) AQ AQ);have dP:Hid (Am n=false->∀W,AO w W->Calls prog 100 #[.agg #[AB n.kind,AB n.one.op,m,q]] W (AN W (AB ns))):=λR W d=>by
   have e0:ns=Ai n:=by rw[M,R];rfl
   rw[e0];exact Ax3 n m q W (l.below d) (k.below d) AQ
  have nT:Hid (Am n=true->ns=0):=λR=>by rw[M,R];rfl
  obtain⟨a,cap,rfl,C⟩:=r;have HC:=AV C;obtain⟨aa,L,rfl,_⟩:=l;obtain⟨J,P,rfl,_⟩:=k;obtain⟨N,K,rfl,_⟩:=u;clear C ag M;cases O:Am n
  ·go_enter func62,ntmps62
   go_wp2_with (first | (go_at_call 63;refine(fM _ Ao).mono ?_;rw[O];rintro e w1 ⟨rfl,t⟩;obtain⟨C,Z⟩:=En t) | (go_at_call 100;refine(dP O _ Ao).mono ?_;rintro e w2 ⟨rfl,B⟩))
   go_loopw [3,4] (λacc i wr=>∃j:Nat,j<=kids.length/\i=AB j/\acc=AB (1+g.length+ns+((kids.map Ak).take j).sum:Nat)/\Below (w.heap.size+1) (w.alloc (.cells #[AB n.kind,AB n.one.op,AE aa n.one.args.length L,AE J n.kids.length P,AE N g.length K,AE a kids.length cap] 62)) wr) (λ_ i _=>kids.length - (intOf i).toNat)
   case atStart=>exact⟨0,AQ,rfl,AU,(t.mono AU).trans (B.mono (by have:=t.size;simpa using this))⟩
   case round=>
    clear C Z t B;obtain⟨j,hj,rfl,rfl,c⟩:=hrel;have hz:w.heap.size<wr.heap.size:=by have:=c.size;simp at this;omega
    have c0:wr.cell? (AL w 0)=some (AB n.kind):=A0 c;have f0:wr.frozen? (AL w 0)=false:=A5 c;have c1:wr.cell? (AL w 1)=some (AB n.one.op):=A0 c;have f1:wr.frozen? (AL w 1)=false:=A5 c;have c2:wr.cell? (AL w 2)=some (AE aa n.one.args.length L):=A0 c;have f2:wr.frozen? (AL w 2)=false:=A5 c;have c3:wr.cell? (AL w 3)=some (AE J n.kids.length P):=A0 c;have f3:wr.frozen? (AL w 3)=false:=A5 c;have c4:wr.cell? (AL w 4)=some (AE N g.length K):=A0 c;have f4:wr.frozen? (AL w 4)=false:=A5 c;have c5:wr.cell? (AL w 5)=some (AE a kids.length cap):=A0 c;have f5:wr.frozen? (AL w 5)=false:=A5 c;have E:=(Aa _ _).trans (c.mono AQ);have G:=J9 (kids.map Ak) j;by_cases hlt:j<kids.length
    ·obtain⟨b,o,rfl,V,D⟩:=HC j hlt
     obtain⟨F,A,y,x4,x5,u,r⟩:=(X4.below E _ _ _ D V).open;obtain⟨x0,Q,m,q,x2,x3,l,k⟩:=F.open;have f:=Tn (kids.map Ak) j Bm;have S:=J9 (kids.map Ak) (j+1);rw[EH] at f;have z:=AV (λW d=>IH kids[j] (CJ hlt) m q A y W (l.below d) (k.below d) (u.below d) (r.below d) AQ (HF _ (CJ hlt)));obtain⟨s,H⟩:=AA (Ak kids[j])
     obtain⟨x,I⟩:=AA (kids[j])
     rw[<-H] at z f;rw[<-I] at z x0 Q;obtain⟨q1,q2,rfl,_⟩:=l;obtain⟨q3,q4,rfl,_⟩:=k;obtain⟨q5,q6,rfl,_⟩:=u;obtain⟨q7,q8,rfl,_⟩:=r;generalize Y:((kids.map Ak).take j).sum=A1 at f G ⊢;have U:=AV f;have ah:1+g.length+ns+A1+s<=1000000000:=AQ
     clear H I D F Y f S G ae
     go_wp2_with (go_at_call 62;refine(z _ Ao).mono ?_;rintro e w2 ⟨rfl,B⟩)
     refine⟨⟨j+1,AQ,by go_num,?_,c.trans (B.mono hz)⟩,by simp[intOf];omega⟩;rw[U.out];congr 1;omega
    ·go_wp2
     go_ret;refine⟨Fj ?_,E⟩;rw[X.out,EC Ax]
  ·have ai:=nT O
   subst ai;go_enter func62,ntmps62
   go_wp2_with (first | (go_at_call 63;refine(fM _ Ao).mono ?_;rw[O];rintro e w1 ⟨rfl,t⟩;obtain⟨C,Z⟩:=En t))
   go_loopw [3,4] (λacc i wr=>∃j:Nat,j<=kids.length/\i=AB j/\acc=AB (1+g.length+0+((kids.map Ak).take j).sum:Nat)/\Below (w.heap.size+1) (w.alloc (.cells #[AB n.kind,AB n.one.op,AE aa n.one.args.length L,AE J n.kids.length P,AE N g.length K,AE a kids.length cap] 62)) wr) (λ_ i _=>kids.length - (intOf i).toNat)
   case atStart=>exact⟨0,AQ,rfl,AU,t.mono AU⟩
   case round=>
    clear C Z t;obtain⟨j,hj,rfl,rfl,c⟩:=hrel;have hz:w.heap.size<wr.heap.size:=by have:=c.size;simp at this;omega
    have c0:wr.cell? (AL w 0)=some (AB n.kind):=A0 c;have f0:wr.frozen? (AL w 0)=false:=A5 c;have c1:wr.cell? (AL w 1)=some (AB n.one.op):=A0 c;have f1:wr.frozen? (AL w 1)=false:=A5 c;have c2:wr.cell? (AL w 2)=some (AE aa n.one.args.length L):=A0 c;have f2:wr.frozen? (AL w 2)=false:=A5 c;have c3:wr.cell? (AL w 3)=some (AE J n.kids.length P):=A0 c;have f3:wr.frozen? (AL w 3)=false:=A5 c;have c4:wr.cell? (AL w 4)=some (AE N g.length K):=A0 c;have f4:wr.frozen? (AL w 4)=false:=A5 c;have c5:wr.cell? (AL w 5)=some (AE a kids.length cap):=A0 c;have f5:wr.frozen? (AL w 5)=false:=A5 c;have E:=(Aa _ _).trans (c.mono AQ);have G:=J9 (kids.map Ak) j;by_cases hlt:j<kids.length
    ·obtain⟨b,o,rfl,V,D⟩:=HC j hlt
     obtain⟨F,A,y,x4,x5,u,r⟩:=(X4.below E _ _ _ D V).open;obtain⟨x0,Q,m,q,x2,x3,l,k⟩:=F.open;have f:=Tn (kids.map Ak) j Bm;have S:=J9 (kids.map Ak) (j+1);rw[EH] at f;have z:=AV (λW d=>IH kids[j] (CJ hlt) m q A y W (l.below d) (k.below d) (u.below d) (r.below d) AQ (HF _ (CJ hlt)));obtain⟨s,H⟩:=AA (Ak kids[j])
     obtain⟨x,I⟩:=AA (kids[j])
     rw[<-H] at z f;rw[<-I] at z x0 Q;obtain⟨q1,q2,rfl,_⟩:=l;obtain⟨q3,q4,rfl,_⟩:=k;obtain⟨q5,q6,rfl,_⟩:=u;obtain⟨q7,q8,rfl,_⟩:=r;generalize Y:((kids.map Ak).take j).sum=A1 at f G ⊢;have U:=AV f;have ah:1+g.length+0+A1+s<=1000000000:=AQ
     clear H I D F Y f S G ae
     go_wp2_with (go_at_call 62;refine(z _ Ao).mono ?_;rintro e w2 ⟨rfl,B⟩)
     refine⟨⟨j+1,AQ,by go_num,?_,c.trans (B.mono hz)⟩,by simp[intOf];omega⟩;rw[U.out];congr 1;omega
    ·go_wp2
     go_ret;refine⟨Fj ?_,E⟩;rw[X.out,EC Ax]
def N4 (l:List Stil.B9)(d:Value)(w:World)(f:E8 w d l)(u:Aw l<=1000000000)(A:∀x∈l,Dh x):
  Calls prog 32 #[d] w (AN w (AB (Aw l))):=by
 obtain⟨a,cap,rfl,C⟩:=f;have Q:=AV C;have P:=AV A;have I:Hid (Aw l=(l.map Ak).sum):=rfl;have L:(l.map Ak).sum<=1000000000:=u;have O:=OD Ak Np l;have V:l.length<=1000000000:=AQ
 clear C A u O;go_enter func32,ntmps32
 go_wp2
 go_loopw [3,4] (λacc i wr=>∃j:Nat,j<=l.length/\i=AB j/\acc=AB (((l.map Ak).take j).sum:Nat)/\AO w wr) (λ_ i _=>l.length - (intOf i).toNat)
 case atStart=>exact⟨0,AQ,rfl,AU,Below.refl _ _⟩
 case round=>
  obtain⟨j,T,rfl,rfl,y⟩:=hrel;have v:=J9 (l.map Ak) j;by_cases hlt:j<l.length
  ·obtain⟨b,o,rfl,F,m⟩:=Q j hlt
   obtain⟨t,J,d,x4,x5,B,f⟩:=(X4.below y _ _ _ m F).open;obtain⟨R,H,G,K,x2,Y,q,r⟩:=t.open;have c:=Tn (l.map Ak) j Bm;have S:=J9 (l.map Ak) (j+1);rw[EH] at c;have k:=AV (λW g=>Aya l[j] G K J d W (q.below g) (r.below g) (B.below g) (f.below g) AQ (P _ (CJ hlt)));obtain⟨s,z⟩:=AA (Ak l[j])
   obtain⟨x,D⟩:=AA (l[j])
   rw[<-z] at k c;rw[<-D] at k R H;obtain⟨q1,q2,rfl,_⟩:=q;obtain⟨q3,Z,rfl,_⟩:=r;obtain⟨q5,q6,rfl,_⟩:=B;obtain⟨q7,q8,rfl,_⟩:=f;generalize E:((l.map Ak).take j).sum=A1 at c v ⊢;have N:=AV c;have U:A1+s<=1000000000:=AQ
   clear z D m t E c S v L
   go_wp2_with (go_at_call 62;refine(k _ Ao).mono ?_;rintro e w2 ⟨rfl,X⟩)
   refine⟨⟨j+1,AQ,by go_num,?_,Ao⟩,by simp[intOf];omega⟩;rw[N.out];rfl
  ·go_wp2
   go_ret;refine⟨Fj ?_,y⟩;rw[I.out,EC Ax]
end Go.Proofs.YtmnnkedjoecehaaGreatDoor
namespace Go.Proofs.YtmnnkedjoecehaaGreatDoor
open Tryz Stil Go.RowKit Go.Sort Go.BigFrame
def wK (n:Stil.B8):∀(A B:Value) (w:World),Dj w A n.one.args->Gg w B n.kids->Dz n->
  Calls prog 64 #[.agg #[AB n.kind,AB n.one.op,A,B]] w (AN w (AB (Aj n))):=by
 induction n using Fp with
 | h k e kids X=>
  intro A B w z C ag;simp only at z C;obtain⟨_,he,ao,ae⟩:=(Lc _ _ _).1 ag;obtain⟨_,an,ac⟩:=he;have HF:=AV ae;have IH:=AV X;have P:=AV (λW H=>uK e.op A e.args W (z.below H) ac AQ);clear X ae ag;obtain⟨a,cap,rfl,hc⟩:=C;have HC:=AV hc;obtain⟨aa,J,rfl,_⟩:=z;have y:=AV (Ox k e kids);clear hc ac;obtain⟨d,ab⟩:=AA e.args.length
  obtain⟨c,N⟩:=AA kids.length
  have vW:=AV N;rw[<-ab] at an y P ⊢;rw[<-N] at ao y ⊢;clear ab N;by_cases M:k=1
  ·subst M
   by_cases Q:0<c
   ·have HX:Hid (Aj ⟨1,e,kids⟩=2):=by show _=_;rw[y.out,if_pos rfl,if_pos Q]
    go_enter func64,ntmps64
    go_wp2
    go_ret;exact⟨Fj Bt,Ao⟩
   ·have ax:decide (0<(c:Int))=false:=by rw[Ft];omega
    cases K:Dw e.op e.args
    ·have HX:Hid (Aj ⟨1,e,kids⟩=3):=by show _=_;rw[y.out,if_pos rfl,if_neg Q,K];rfl
     go_enter func64,ntmps64
     go_wp2_with (go_at_call 101;refine(P _ Ao).mono ?_;rw[K];rintro e' w1 ⟨rfl,al⟩)
     go_ret;exact⟨Fj Bt,Ao⟩
    ·have HX:Hid (Aj ⟨1,e,kids⟩=0):=by show _=_;rw[y.out,if_pos rfl,if_neg Q,K];rfl
     go_enter func64,ntmps64
     go_wp2_with (go_at_call 101;refine(P _ Ao).mono ?_;rw[K];rintro e' w1 ⟨rfl,al⟩)
     go_ret;exact⟨Fj Bt,Ao⟩
  ·have aw:(k==1)=false:=by rw[CS];exact M
   have D:Hid (Aj ⟨k,e,kids⟩=if Ye k e.op d c then 2 else Az (kids.map Aj)):=by show _=_;rw[y.out,if_neg M]
   clear y M;go_enter func64,ntmps64;go_upto_region 7 with fail
   go_cut [0,53] (λs0 aj wc=>s0=.agg #[AB k,AB e.op,AE aa d J,AE a c cap]/\aj=.bool (Ye k e.op d c)/\wc=w.alloc (.cells #[AB k,AB e.op,AE aa d J,AE a c cap] 59))
   case first=>
    have q:Hid (Ye k e.op d c=(decide (k<2) || decide (4<k) || e.op !=0 || decide ((0:Int)<(d:Int)) || (c:Int)==0 || (k==4 && (c:Int) !=1))):=rfl;cases l:decide (k<2)
    ·cases r:decide (4<k)
     ·cases u:(e.op !=0)
      ·have g:Hid (e.op=0):=(by simpa using u:e.op=0)
       cases t:decide ((0:Int)<(d:Int))
       ·have m:Hid (d=0):=(by have:=of_decide_eq_false t;omega:d=0)
        cases E:((c:Int)==0)
        ·cases I:(k==4)
         ·(go_wp2_with fail;go_meet;exact⟨by first | rfl | simp[g.out,m.out],by rw[q.out,l,r,u,t,E,I];rfl,by first | rfl | simp[g.out,m.out]⟩)
         ·have G:Hid (k=4):=(by simpa using I:k=4)
          cases R:((c:Int) !=1)
          ·have U:Hid (c=1):=(by have:=bne_eq_false_iff_eq.1 R;omega:c=1)
           (go_wp2_with fail;go_meet;exact⟨by first | rfl | simp[g.out,m.out,G.out,U.out],by rw[q.out,l,r,u,t,E,I,R];rfl,by first | rfl | simp[g.out,m.out,G.out,U.out]⟩)
          ·(go_wp2_with fail;go_meet;exact⟨by first | rfl | simp[g.out,m.out,G.out],by rw[q.out,l,r,u,t,E,I,R];rfl,by first | rfl | simp[g.out,m.out,G.out]⟩)
        ·have HL:Hid (c=0):=(by have:=beq_iff_eq.1 E;omega:c=0)
         (go_wp2_with fail;go_meet;exact⟨by first | rfl | simp[g.out,m.out,HL.out],by rw[q.out,l,r,u,t,E];rfl,by first | rfl | simp[g.out,m.out,HL.out]⟩)
       ·have p4:0<d:=(by have:=of_decide_eq_true t;omega:0<d)
        have p5:(0:Int)<(d:Int):=(by omega:(0:Int)<(d:Int))
        (go_wp2_with fail;go_meet;exact⟨by first | rfl | simp[g.out],by rw[q.out,l,r,u,t];rfl,by first | rfl | simp[g.out]⟩)
      ·(go_wp2_with fail;go_meet;exact⟨Ab,by rw[q.out,l,r,u];rfl,Ab⟩)
     ·(go_wp2_with fail;go_meet;exact⟨Ab,by rw[q.out,l,r];rfl,Ab⟩)
    ·(go_wp2_with fail;go_meet;exact⟨Ab,by rw[q.out,l];rfl,Ab⟩)
   case rest=>
    obtain⟨rfl,rfl,rfl⟩:=hcut;cases Z:Ye k e.op d c
    ·rw[Z] at D
     have Y:Hid (Aj ⟨k,e,kids⟩=Az (kids.map Aj)):=D.out;clear D
     go_wp2
     go_loopw [3,4] (λi _ wr=>∃j:Nat,j<=c/\i=AB j/\Az (kids.map Aj)=Az ((kids.drop j).map Aj)/\Below (w.heap.size+1) (w.alloc (.cells #[AB k,AB e.op,AE aa d J,AE a c cap] 59)) wr) (λi _ _=>c - (intOf i).toNat)
     case atStart=>exact⟨0,AQ,rfl,rfl,Below.refl _ _⟩
     case round=>
      obtain⟨j,hj,rfl,ah,f⟩:=hrel;have S:=AV ah;clear ah;have hz:w.heap.size<wr.heap.size:=by have:=f.size;simp at this;omega
      have c0:wr.cell? (AL w 0)=some (AB k):=A0 f;have f0:wr.frozen? (AL w 0)=false:=A5 f;have c1:wr.cell? (AL w 1)=some (AB e.op):=A0 f;have f1:wr.frozen? (AL w 1)=false:=A5 f;have c2:wr.cell? (AL w 2)=some (AE aa d J):=A0 f;have f2:wr.frozen? (AL w 2)=false:=A5 f;have c3:wr.cell? (AL w 3)=some (AE a c cap):=A0 f;have f3:wr.frozen? (AL w 3)=false:=A5 f;have V:=(Aa _ _).trans (f.mono AQ);by_cases ap:j<c
      ·have F:j<kids.length:=by have:=vW.out;omega
       obtain⟨b,o,rfl,ak,T⟩:=HC j F;obtain⟨x0,x1,A,B,x2,x3,z,C⟩:=(Uz.below V _ _ _ T ak).open;have L:=AV (λW H=>IH kids[j] (CJ F) A B W (z.below H) (C.below H) (HF _ (CJ F)));have O:Hid (Az ((kids.drop j).map Aj)=if 0<Aj kids[j] then Aj kids[j] else Az ((kids.drop (j+1)).map Aj)):=by
        show _=_
        rw[F3 F,CQ];rfl
       obtain⟨s,hs⟩:=AA (Aj kids[j])
       obtain⟨x,hx⟩:=AA (kids[j])
       rw[<-hs] at L O;rw[<-hx] at L x0 x1;obtain⟨ar,mr,rfl,_⟩:=z;obtain⟨a',au,rfl,_⟩:=C;clear hs hx T;by_cases ai:0<s
       ·go_wp2_with (go_at_call 64;refine(L _ Ao).mono ?_;rintro e w2 ⟨rfl,af⟩)
        go_ret;exact⟨Fj (by rw[Y.out,S.out,O.out,if_pos ai]),Ao⟩
       ·go_wp2_with (go_at_call 64;refine(L _ Ao).mono ?_;rintro e w2 ⟨rfl,af⟩)
        refine⟨⟨j+1,AQ,by go_num,?_,f.trans (af.mono hz)⟩,by simp[intOf];omega⟩;rw[S.out,O.out,if_neg AQ]
      ·go_wp2
       go_ret;refine⟨Fj ?_,V⟩;rw[Y.out,S.out,F4 (by have:=vW.out;omega)];rfl
    ·rw[Z] at D
     go_wp2
     go_ret;exact⟨Fj (by rw[D.out];rfl),Ao⟩
def wT (n:Stil.B9):∀(root:Bool) (y z F G:Value) (w:World),Dj w y n.net.one.args->Gg w z n.net.kids->Ir w F n.coils->E8 w G n.kids->Dh n->
  Calls prog 33 #[.agg #[AB n.net.kind,AB n.net.one.op,y,z,F,G], .bool root] w (AN w (AB (if root=true/\Am n.net=true then 4 else Cm n))):=by
 induction n using Fq with
 | h n c kids ih=>
  intro root y z F G w J I X aa aK;simp only at J I X aa;obtain⟨ag,ao,al,aF,dF⟩:=Ih aK;simp only at ag ao al aF dF;have ak:=D5 ag
  have IH:Hid (∀x∈kids,∀(y z F G:Value) (w:World),Dj w y x.net.one.args->Gg w z x.net.kids->Ir w F x.coils->E8 w G x.kids->
   Calls prog 33 #[.agg #[AB x.net.kind,AB x.net.one.op,y,z,F,G], .bool false] w (AN w (AB (Cm x)))):=λx Z y z F G w h1 h2 h3 h4=>(ih x Z false y z F G w h1 h2 h3 h4 (dF x Z)).mono λe w' ⟨he,hb⟩=>⟨by rw[he];simp,hb⟩
  have u:=AV (λW t=>LU n y z W (J.below t) (I.below t) (by have:=ak.2.1.2.1;omega) (by have:=ak.2.2.1;omega));have jQ:=AV (λW t=>wK n y z W (J.below t) (I.below t) ag);have yT:=AV al;have rC:Hid (∀i (h:i<c.length),∃b o,True/\b<w.heap.size/\Kx w b (o+i*2) c[i]/\∃cap,F=AE (some (AK b o)) c.length cap):=by
   intro i hi;obtain⟨a,cap,hv,hc⟩:=X;obtain⟨b,o,ha,hb,Z⟩:=hc i hi;exact⟨b,o,trivial,hb,Z,cap,by rw[hv,ha]⟩
  obtain⟨O,N,rfl,_⟩:=J;obtain⟨P,U,rfl,_⟩:=I;obtain⟨T,Q,rfl,aE⟩:=X;obtain⟨V,S,rfl,ar⟩:=aa;have yU:=AV aE;have aN:=AV ar;have HW:Hid (Cm ⟨n,c,kids⟩=if 0<Dc ⟨n,c,kids⟩ then Dc ⟨n,c,kids⟩ else Az (kids.map Cm)):=Xv _;have C:Hid (Dc ⟨n,c,kids⟩=if Am n=false/\0<Aj n then Aj n else if Dy c then 3 else if c.length=0/\kids.length=0 then 5 else 0):=rfl;have aR:Hid (∀x∈kids,0<=Cm x/\Cm x<=5):=λx _=>Q7 x
  have aO:=La n;simp only;obtain⟨r,aC⟩:=AA (Am n)
  obtain⟨E,au⟩:=AA (Aj n)
  rw[<-aC] at u C ⊢;rw[<-au] at jQ C aO;obtain⟨g,an⟩:=AA c.length
  obtain⟨k,ai⟩:=AA kids.length
  have yL:=AV an;have vW:=AV ai;rw[<-an] at ao C ⊢;rw[<-ai] at aF C ⊢;clear ih aK ag al dF aE ar ak aC au an ai rC;obtain⟨R,q⟩:=AA ((if root=true/\r=true then 4 else Cm ⟨n,c,kids⟩))
  rw[<-q];have aP:(root=true/\r=true)\/(root=true/\r=false/\0<E)\/(root=false/\r=false/\0<E)\/(root=false/\r=false/\¬0<E)\/(root=false/\r=true)\/(root=true/\r=false/\¬0<E):=by
   cases root<;>cases r<;>by_cases h:0<E<;>simp[h]
  rcases aP with⟨rfl,rfl⟩ | ⟨rfl,rfl,B⟩ | ⟨rfl,rfl,B⟩ | ⟨hr,H,B⟩ | ⟨hr,H⟩ | ⟨hr,H,B⟩
  ·have HX:Hid (R=4):=by show _=_;rw[q];simp
   clear q;go_enter func33,ntmps33
   go_wp2_with (go_at_call 63;refine(u _ AW).mono ?_;rintro e w1 ⟨rfl,f⟩)
   go_ret;exact⟨Fj Bt,AW⟩
  ·have l:R=Cm ⟨n,c,kids⟩:=by rw[q];simp
   clear q;have nC:=u;have HX:Hid (R=E):=by show _=_;rw[l,HW.out,C.out];simp[B]
   clear l;go_enter func33,ntmps33
   go_wp2_with (first | (go_at_call 63;refine(u _ AW).mono ?_;clear u;rintro e w0 ⟨rfl,A⟩;obtain⟨aJ,aH⟩:=En A;have aw:w.heap.size<w0.heap.size:=CB AU A.size) | (go_at_call 63;refine(nC _ AW).mono ?_;rintro e w1 ⟨rfl,f⟩;obtain⟨L,M⟩:=En f) | (go_at_call 64;refine(jQ _ AW).mono ?_;rintro e w2 ⟨rfl,Y⟩))
   go_ret;exact⟨Fj Bt,AW⟩
  ·have l:R=Cm ⟨n,c,kids⟩:=by rw[q];simp
   clear q;have HX:Hid (R=E):=by show _=_;rw[l,HW.out,C.out];simp[B]
   clear l;go_enter func33,ntmps33
   go_wp2_with (first | (go_at_call 63;refine(u _ AW).mono ?_;rintro e w1 ⟨rfl,f⟩;obtain⟨L,M⟩:=En f) | (go_at_call 64;refine(jQ _ AW).mono ?_;rintro e w2 ⟨rfl,Y⟩))
   go_ret;exact⟨Fj Bt,AW⟩
  all_goals first
   | (
     obtain rfl:root=false:=hr;obtain rfl:r=false:=H;have l:R=Cm ⟨n,c,kids⟩:=by rw[q];simp
     clear q;have ac:Hid (R=if Dy c then 3 else if g=0/\k=0 then 5 else Az (kids.map Cm)):=by
      show _=_
      rw[l,HW.out,C.out];simp only[B,and_false,DC];cases Dy c
      ·simp only[DU,DC]
       split<;>simp
      ·simp
     clear l;go_enter func33,ntmps33
     go_wp2_with (first | (go_at_call 63;refine(u _ AW).mono ?_;rintro e w1 ⟨rfl,f⟩;obtain⟨L,M⟩:=En f) | (go_at_call 64;refine(jQ _ AW).mono ?_;rintro e w2 ⟨rfl,Y⟩))
     have ae:Below (w.heap.size+1) (w.alloc (.cells #[AB n.kind,AB n.one.op,AE O n.one.args.length N,AE P n.kids.length U,AE T g Q,AE V k S] 62)) w2:=by
      have h1:=f.size;simp only[World.size_alloc] at f h1;exact f.trans (Y.mono h1)
     clear f Y L M)
   | (
     obtain rfl:root=false:=hr;obtain rfl:r=true:=H;have l:R=Cm ⟨n,c,kids⟩:=by rw[q];simp
     clear q;have ac:Hid (R=if Dy c then 3 else if g=0/\k=0 then 5 else Az (kids.map Cm)):=by
      show _=_
      rw[l,HW.out,C.out];simp only[Bool.true_eq_false,false_and,DC];cases Dy c
      ·simp only[DU,DC]
       split<;>simp
      ·simp
     clear l;go_enter func33,ntmps33
     go_wp2_with (go_at_call 63;refine(u _ AW).mono ?_;rintro e w1 ⟨rfl,f⟩;obtain⟨L,M⟩:=En f)
     have ae:Below (w.heap.size+1) (w.alloc (.cells #[AB n.kind,AB n.one.op,AE O n.one.args.length N,AE P n.kids.length U,AE T g Q,AE V k S] 62)) w1:=by simpa using f
     clear f L M)
   | (
     obtain rfl:root=true:=hr;obtain rfl:r=false:=H;have l:R=Cm ⟨n,c,kids⟩:=by rw[q];simp
     clear q;have nC:=u;have ac:Hid (R=if Dy c then 3 else if g=0/\k=0 then 5 else Az (kids.map Cm)):=by
      show _=_
      rw[l,HW.out,C.out];simp only[B,and_false,DC];cases Dy c
      ·simp only[DU,DC]
       split<;>simp
      ·simp
     clear l;go_enter func33,ntmps33
     go_wp2_with (first | (go_at_call 63;refine(u _ AW).mono ?_;clear u;rintro e w0 ⟨rfl,A⟩;obtain⟨aJ,aH⟩:=En A;have aw:w.heap.size<w0.heap.size:=CB AU A.size) | (go_at_call 63;refine(nC _ AW).mono ?_;rintro e w1 ⟨rfl,f⟩;obtain⟨L,M⟩:=En f) | (go_at_call 64;refine(jQ _ AW).mono ?_;rintro e w2 ⟨rfl,Y⟩))
     have ae:Below (w.heap.size+1) (w.alloc (.cells #[AB n.kind,AB n.one.op,AE O n.one.args.length N,AE P n.kids.length U,AE T g Q,AE V k S] 62)) w2:=by
      have h0:=A.size;have h1:=f.size;simp only[World.size_alloc] at A h0;exact(A.trans (f.mono h0)).trans (Y.mono (CM h0 h1))
     clear A aJ aH f Y L M aw)
  all_goals
   go_loopw [6] (λi wr=>∃m:Nat,m<=g/\i=AB m/\Dy c=Dy (c.drop m)/\Below (w.heap.size+1) (w.alloc (.cells #[AB n.kind,AB n.one.op,AE O n.one.args.length N,AE P n.kids.length U,AE T g Q,AE V k S] 62)) wr) (λi _=>g - (intOf i).toNat)
   case atStart=>exact⟨0,AQ,rfl,rfl,ae⟩
   case round=>
    clear ae;obtain⟨m,hm,rfl,ax,d⟩:=hrel;have eX:=AV ax;clear ax;have hz:w.heap.size<wr.heap.size:=by have:=d.size;simp at this;omega
    have c0:wr.cell? (AL w 0)=some (AB n.kind):=A0 d;have f0:wr.frozen? (AL w 0)=false:=A5 d;have c1:wr.cell? (AL w 1)=some (AB n.one.op):=A0 d;have f1:wr.frozen? (AL w 1)=false:=A5 d;have c2:wr.cell? (AL w 2)=some (AE O n.one.args.length N):=A0 d;have f2:wr.frozen? (AL w 2)=false:=A5 d;have c3:wr.cell? (AL w 3)=some (AE P n.kids.length U):=A0 d;have f3:wr.frozen? (AL w 3)=false:=A5 d;have c4:wr.cell? (AL w 4)=some (AE T g Q):=A0 d;have f4:wr.frozen? (AL w 4)=false:=A5 d;have c5:wr.cell? (AL w 5)=some (AE V k S):=A0 d;have f5:wr.frozen? (AL w 5)=false:=A5 d;have ab:=(Aa _ _).trans (d.mono AQ);by_cases aM:m<g
    ·have K:m<c.length:=by have:=yL.out;omega
     obtain⟨b,o,rfl,aj,aA⟩:=yU m K;obtain⟨x0,mg,x1,kM⟩:=aA.below ab aj;have gQ:=yT _ (CJ K);have D:=AV (λW t=>gw c[m].op mg c[m].args W (kM.below t) gQ.2.2 (by have:=gQ.2.1;omega));have HD:Hid (Dy c=(!Gj c[m].op c[m].args || Dy (c.drop (m+1)))):=by show _=_;rw[eX.out,Xq _ _ K]
     obtain⟨ic,aI⟩:=AA (Gj c[m].op c[m].args)
     rw[<-aI] at D HD;obtain⟨aB,hy⟩:=AA (c[m])
     rw[<-hy] at D x0;obtain⟨t1,t2,f1,_⟩:=kM;rw[<-hy] at f1;subst f1;clear aI hy aA gQ eX;cases ic
     ·have HX:Hid (R=3):=by show _=_;rw[ac.out,HD.out];rfl
      go_wp2_with (go_at_call 65;refine(D _ AW).mono ?_;rintro e w3 ⟨rfl,aD⟩)
      go_ret;exact⟨Fj Bt,AW⟩
     ·have HX:Hid (Dy c=Dy (c.drop (m+1))):=by show _=_;rw[HD.out];rfl
      go_wp2_with (go_at_call 65;refine(D _ AW).mono ?_;rintro e w3 ⟨rfl,aD⟩)
      exact⟨⟨m+1,AQ,by go_num,HX.out,d.trans (aD.mono hz)⟩,by simp[intOf];omega⟩
    ·have ap:Dy c=false:=by rw[eX.out,F4 (by have:=yL.out;omega)];rfl
     have ah:Hid (R=if g=0/\k=0 then 5 else Az (kids.map Cm)):=by show _=_;rw[ac.out,ap];rfl
     clear ap eX ac;obtain⟨A,f⟩:True/\True:=⟨trivial,trivial⟩
     by_cases af:g=0/\k=0
     ·have HX:Hid (R=5):=by show _=_;rw[ah.out,if_pos af]
      obtain⟨rfl,rfl⟩:=af;clear ah
      go_wp2
      go_ret;exact⟨Fj Bt,AW⟩
     ·have HX:Hid (R=Az (kids.map Cm)):=by show _=_;rw[ah.out,if_neg af]
      clear ah;have aQ:((g:Int)==0)=false\/((k:Int)==0)=false:=by
       by_cases h:g=0
       ·right;rw[CS];omega
       ·left;rw[CS];omega
      clear af;rcases aQ with hq | hq<;>go_wp2
      all_goals (
       go_loopw [7] (λi wq=>∃j:Nat,j<=k/\i=AB j/\Az (kids.map Cm)=Az ((kids.drop j).map Cm)/\Below (w.heap.size+1) (w.alloc (.cells #[AB n.kind,AB n.one.op,AE O n.one.args.length N,AE P n.kids.length U,AE T g Q,AE V k S] 62)) wq) (λi _=>k - (intOf i).toNat)
       case atStart=>exact⟨0,AQ,rfl,rfl,d⟩
       case round=>
        clear c0 c1 c2 c3 c4 c5 f0 f1 f2 f3 f4 f5 hz d ab;obtain⟨j,hj,rfl,aL,d⟩:=hrel;have HP:=AV aL;clear aL;have hz:w.heap.size<wr.heap.size:=by have:=d.size;simp at this;omega
        have c0:wr.cell? (AL w 0)=some (AB n.kind):=A0 d;have f0:wr.frozen? (AL w 0)=false:=A5 d;have c1:wr.cell? (AL w 1)=some (AB n.one.op):=A0 d;have f1:wr.frozen? (AL w 1)=false:=A5 d;have c2:wr.cell? (AL w 2)=some (AE O n.one.args.length N):=A0 d;have f2:wr.frozen? (AL w 2)=false:=A5 d;have c3:wr.cell? (AL w 3)=some (AE P n.kids.length U):=A0 d;have f3:wr.frozen? (AL w 3)=false:=A5 d;have c4:wr.cell? (AL w 4)=some (AE T g Q):=A0 d;have f4:wr.frozen? (AL w 4)=false:=A5 d;have c5:wr.cell? (AL w 5)=some (AE V k S):=A0 d;have f5:wr.frozen? (AL w 5)=false:=A5 d;have ab:=(Aa _ _).trans (d.mono AQ);by_cases aM:j<k
        ·have K:j<kids.length:=by have:=vW.out;omega
         obtain⟨b,o,rfl,aj,H⟩:=aN j K;obtain⟨aG,bg,bf,x4,x5,X,aa⟩:=(X4.below ab _ _ _ H aj).open;obtain⟨x0,x1,rO,ay,x2,x3,J,I⟩:=aG.open;have D:=AV (λW t=>IH kids[j] (CJ K) rO ay bg bf W (J.below t) (I.below t) (X.below t) (aa.below t));have HS:Hid (Az ((kids.drop j).map Cm)=if 0<Cm kids[j] then Cm kids[j] else Az ((kids.drop (j+1)).map Cm)):=by
          show _=_
          rw[F3 K,CQ];rfl
         obtain⟨s,hs⟩:=AA (Cm kids[j])
         obtain⟨x,Z⟩:=AA (kids[j])
         rw[<-hs] at D HS;rw[<-Z] at D x0 x1 J I X aa;obtain⟨t0,u0,rfl,_⟩:=J;obtain⟨t1,u1,rfl,_⟩:=I;obtain⟨t2,u2,rfl,_⟩:=X;obtain⟨t3,u3,rfl,_⟩:=aa;clear hs Z H aG;by_cases B:0<s
         ·go_wp2_with (go_at_call 33;refine(D _ AW).mono ?_;rintro e w4 ⟨rfl,az⟩)
          go_ret;exact⟨Fj (by rw[HX.out,HP.out,HS.out,if_pos B]),AW⟩
         ·go_wp2_with (go_at_call 33;refine(D _ AW).mono ?_;rintro e w4 ⟨rfl,az⟩)
          refine⟨⟨j+1,AQ,by go_num,?_,d.trans (az.mono hz)⟩,by simp[intOf];omega⟩;rw[HP.out,HS.out,if_neg AQ]
        ·go_wp2
         go_ret;refine⟨Fj ?_,ab⟩
         rw[HX.out,HP.out,F4 (by have:=vW.out;omega)];rfl)
def uH (n:Stil.B9)(d b c a:Value)(w:World)(i:Dj w d n.net.one.args)(h:Gg w b n.net.kids)(k:Ir w c n.coils)(j:E8 w a n.kids)(l:Dh n):
  Calls prog 33 #[.agg #[AB n.net.kind,AB n.net.one.op,d,b,c,a], .bool true] w (AN w (AB (D9 n))):=
 (wT n true d b c a w i h k j l).mono λe f ⟨m,g⟩=>⟨by rw[m];simp[D9],g⟩
def VE (l:List Stil.B9)(C:Value)(w:World)(m:E8 w C l)(hl:l.length<=1048576)(T:Aw l<=1000000000)(K:∀x∈l,Dh x):
  Calls prog 15 #[C] w (AN w (.agg #[AB (Ah l).1,AB (Ah l).2])):=by
 have B:=AV (λW q=>N4 l C W (m.below q) T K);have HF:=AV K;obtain⟨a,cap,rfl,Y⟩:=m;have HC:=AV Y;obtain⟨k,y⟩:=AA l.length
 obtain⟨z,d⟩:=AA (Aw l)
 have eF:=AV y;have u:Hid (Ah l=if 40<k\/400<z then(1,0) else Dx l 0):=by show _=_;rw[y,d];rfl
 rw[<-y] at hl B ⊢;rw[<-d] at B T;obtain⟨R,O⟩:=AA (Ah l)
 rw[<-O] at u ⊢;clear Y K y d O;by_cases h1:40<k
 ·have c:Hid (R=(1,0)):=by show _=_;rw[u.out,if_pos (.inl h1)]
  go_enter func15,ntmps15
  go_wp2
  refine bodyPost_ret (v:=.agg #[AB 1,AB 0]) (by simp[results,results15,go_sem]) rfl ⟨by rw[c.out];rfl,AW⟩
 ·by_cases h2:400<z
  ·have c:Hid (R=(1,0)):=by show _=_;rw[u.out,if_pos (.inr h2)]
   go_enter func15,ntmps15
   go_wp2_with (go_at_call 32;refine(B _ AW).mono ?_;rintro e t ⟨rfl,g⟩;have I:t.cell? (AL w 0)=some (AB 0):=(A0 g);have E:t.cell? (AL w 1)=some (AB 0):=(A0 g);have k0:t.frozen? (AL w 0)=false:=(A5 g);have k1:t.frozen? (AL w 1)=false:=(A5 g))
   refine bodyPost_ret (v:=.agg #[AB 1,AB 0]) (by simp[results,results15,go_sem,I,E]) rfl ⟨by rw[c.out];rfl,AW⟩
  ·have c:Hid (R=Dx l 0):=by show _=_;rw[u.out,if_neg AQ]
   clear u;go_enter func15,ntmps15
   go_wp2_with (go_at_call 32;refine(B _ AW).mono ?_;rintro e t ⟨rfl,g⟩)
   have Q:Below (w.heap.size+1) (w.alloc (.cells #[AB 0,AB 0] 39)) t:=by simpa using g
   clear g;go_loopw [3] (λi wr=>∃j:Nat,j<=k/\i=AB j/\R=Dx (l.drop j) j/\Below (w.heap.size+1) (w.alloc (.cells #[AB 0,AB 0] 39)) wr) (λi _=>k - (intOf i).toNat)
   case atStart=>exact⟨0,AQ,rfl,by rw[c.out];rfl,Q⟩
   case round=>
    clear Q c;obtain⟨j,hj,rfl,U,f⟩:=hrel;have L:=AV U;clear U;have d:w.heap.size<wr.heap.size:=by have:=f.size;simp at this;omega
    have N:wr.cell? (AL w 0)=some (AB 0):=A0 f;have f0:wr.frozen? (AL w 0)=false:=A5 f;have S:wr.cell? (AL w 1)=some (AB 0):=A0 f;have f1:wr.frozen? (AL w 1)=false:=A5 f;have aa:=(Aa _ _).trans (f.mono AQ);by_cases ae:j<k
    ·have D:j<l.length:=by have:=eF.out;omega
     obtain⟨b,o,rfl,ab,M⟩:=HC j D;obtain⟨V,bg,bf,x4,x5,J,m⟩:=(X4.below aa _ _ _ M ab).open;obtain⟨x0,x1,rO,ay,x2,x3,H,F⟩:=V.open;have A:=AV (λW q=>uH l[j] rO ay bg bf W (H.below q) (F.below q) (J.below q) (m.below q) (HF _ (CJ D)));have G:Hid (R=if 0<D9 l[j] then(D9 l[j],j) else Dx (l.drop (j+1)) (j+1)):=by show _=_;rw[L.out,TQ l j D]
     have ac:=Px l[j];obtain⟨s,X⟩:=AA (D9 l[j])
     obtain⟨x,Z⟩:=AA (l[j])
     rw[<-X] at A G ac;rw[<-Z] at A x0 x1 H F J m;obtain⟨t0,u0,rfl,_⟩:=H;obtain⟨t1,u1,rfl,_⟩:=F;obtain⟨t2,u2,rfl,_⟩:=J;obtain⟨t3,u3,rfl,_⟩:=m;clear X Z M V L;by_cases P:0<s
     ·have c:Hid (R=(s,j)):=by show _=_;rw[G.out,if_pos P]
      go_wp2_with (go_at_call 33;refine(A _ AW).mono ?_;rintro e w4 ⟨rfl,r⟩;have I:=(r.cell (p:=(AL w 0)) d).trans N;have E:=(r.cell (p:=(AL w 1)) d).trans S;have k0:=(r.frozen (p:=(AL w 0)) d).trans f0;have k1:=(r.frozen (p:=(AL w 1)) d).trans f1)
      refine bodyPost_ret (v:=.agg #[AB s,AB j]) (by simp[results,results15,go_sem,I,E]) rfl ⟨by rw[c.out],AW⟩
     ·have c:Hid (R=Dx (l.drop (j+1)) (j+1)):=by show _=_;rw[G.out,if_neg P]
      go_wp2_with (go_at_call 33;refine(A _ AW).mono ?_;rintro e w4 ⟨rfl,r⟩)
      exact⟨⟨j+1,AQ,by go_num,c.out,f.trans (r.mono d)⟩,by simp[intOf];omega⟩
    ·have c:Hid (R=(0,0)):=by show _=_;rw[L.out,F4 yFj];rfl
     go_wp2
     refine bodyPost_ret (v:=.agg #[AB 0,AB 0]) (by simp[results,results15,go_sem,N,S]) rfl ⟨by rw[c.out];rfl,AW⟩
