import Derived.Test.YtifcnfeppdbjdaaGreatDoorGg
set_option maxHeartbeats 4000000
set_option maxRecDepth 100000
namespace Go.Proofs.YtifcnfeppdbjdaaGreatDoor
open Tryz Stil Go.RowKit Go.Sort Go.BigFrame
theorem S9 (l:List Nat)(i:Nat)(h:i<l.length):(l.take (i+1)).sum=(l.take i).sum+l[i]:=by
 rw[D2 h,GV,DW,FH,EO]
theorem Kq:∀(l:List Nat) (i:Nat),(l.take i).sum<=l.sum
 | [],i=>by simp
 | x::r,0=>by simp
 | x::r,i+1=>by have:=Kq r i;simp;omega
theorem Axp (n:Stil.B9):∀(f d:Value) (w:World),Dk w f n.one.args->Gn w d n.kids->Af n<=1000000000->
  Calls prog 94 #[.agg #[AB n.kind,AB n.one.op,f,d]] w (AN w (AB (Af n))):=by
 induction n using Gf with
 | h k e kids t=>
  intro f d w q m M;have H:=AV t;clear t;have A:=AV (Qa k e kids);have L:(kids.map Af).sum<=1000000000:=by have:=A.out;omega
  obtain⟨a,cap,rfl,E⟩:=m;have G:Hid (∀i (h:i<kids.length),∃b o,a=some (AK b o)/\b<w.heap.size/\Un w b (o+i*4) kids[i]):=E;obtain⟨aa,D,rfl,_⟩:=q;have X:kids.length<=1000000000:=by
   have:∀l:List Stil.B9,l.length<=(l.map Af).sum:=by
    intro l;induction l with
    | nil=>simp
    | cons x ab t=>simp only[CP,DW,CH];have:1<=Af x:=(by(obtain⟨_,_,_⟩:=x;rw[Qa];omega));omega
   have:=this kids;omega
  clear E M;go_enter func94,ntmps94
  go_wp2
  go_loopw [3,4] (λacc i wr=>∃j:Nat,j<=kids.length/\i=AB j/\acc=AB (1+((kids.map Af).take j).sum:Nat)/\Below (w.heap.size+1) (w.alloc (.cells #[AB k,AB e.op,AE aa e.args.length D,AE a kids.length cap] 59)) wr) (λ_ i _=>kids.length - (intOf i).toNat)
  case atStart=>exact⟨0,AQ,rfl,AU,Below.refl _ _⟩
  case round=>
   obtain⟨j,hj,rfl,rfl,c⟩:=hrel;have P:w.heap.size<wr.heap.size:=by have:=c.size;simp at this;omega
   have c0:wr.cell? (AL w 0)=some (AB k):=A3 c;have f0:wr.frozen? (AL w 0)=false:=A5 c;have T:wr.cell? (AL w 1)=some (AB e.op):=A3 c;have f1:wr.frozen? (AL w 1)=false:=A5 c;have Y:wr.cell? (AL w 2)=some (AE aa e.args.length D):=A3 c;have Z:wr.frozen? (AL w 2)=false:=A5 c;have V:wr.cell? (AL w 3)=some (AE a kids.length cap):=A3 c;have f3:wr.frozen? (AL w 3)=false:=A5 c;have u:=(Aa _ _).trans (c.mono AQ);have F:=Kq (kids.map Af) j;by_cases hlt:j<kids.length
   ·obtain⟨b,o,rfl,Q,y⟩:=G j hlt
    obtain⟨J,N,f,d,x2,x3,q,m⟩:=(Un.below u _ _ _ y Q).open;have g:=S9 (kids.map Af) j BZ;have K:=Kq (kids.map Af) (j+1);rw[EI] at g;have r:=AV (λW z=>H kids[j] (CN hlt) f d W (q.below z) (m.below z) AQ);obtain⟨s,B⟩:=AA (Af kids[j])
    obtain⟨x,C⟩:=AA (kids[j])
    rw[<-B] at r g;rw[<-C] at r J N;obtain⟨ac,ku,rfl,_⟩:=q;obtain⟨a',U,rfl,_⟩:=m;generalize R:((kids.map Af).take j).sum=A1 at g F ⊢;have I:=AV g;have ae:A1+s<=1000000000:=AQ
    clear B C y R g K F L
    go_wp2_with (go_at_call 94;refine(r _ Av).mono ?_;rintro e w2 ⟨rfl,O⟩)
    refine⟨⟨j+1,AQ,by go_num,?_,c.trans (O.mono P)⟩,by simp[intOf];omega⟩;rw[I.out];congr 1;omega
   ·go_wp2
    go_ret;refine⟨F5 ?_,u⟩;rw[A.out,EA Ax]
theorem LL (n:Stil.B9)(i g:Value)(w:World)(k:Dk w i n.one.args)(l:Gn w g n.kids)(_h1:n.one.args.length<=9223372036854775807)(_h2:n.kids.length<=9223372036854775807):
  Calls prog 62 #[.agg #[AB n.kind,AB n.one.op,i,g]] w (AN w (.bool (Am n))):=by
 obtain⟨aa,o,rfl,_⟩:=k;obtain⟨a,cap,rfl,_⟩:=l;obtain⟨d,b⟩:=AA n.one.args.length
 obtain⟨f,c⟩:=AA n.kids.length
 have j:Hid (Am n=(n.kind==0 && n.one.op==0 && d==0 && f==0)):=by
  show _=_
  unfold Am;rw[b,c]
 rw[<-b,<-c];rw[<-b] at _h1;rw[<-c] at _h2;clear b c;go_enter func62,ntmps62
 go_wp2
 all_goals go_ret
 all_goals (refine⟨Ae ?_,Av⟩)
 all_goals rw[j.out]
 all_goals go_light
 all_goals (rw[DY];simp[*];try omega)
theorem Nh (x:Stil.B8):1<=Aj x:=by obtain⟨_,_,_⟩:=x;rw[Tt];omega
theorem Ni {α:Type}(f:α->Nat)(a:∀x,1<=f x):∀l:List α,l.length<=(l.map f).sum
 | []=>by simp
 | x::r=>by have:=Ni f a r;have:=a x;simp only[CP,DW,CH];omega
theorem Axv (n:Stil.B8):∀(l k A y:Value) (w:World),Dk w l n.net.one.args->Gn w k n.net.kids->Iz w A n.coils->Fe w y n.kids->Aj n<=1000000000->Dh n->
  Calls prog 61 #[.agg #[AB n.net.kind,AB n.net.one.op,l,k,A,y]] w (AN w (AB (Aj n))):=by
 induction n using Gl with
 | h n g kids ih=>
  intro l k A y w q m t r ah ag;simp only at q m t r;obtain⟨af,al,_,ak,ae⟩:=(F7 _ _ _).1 ag;obtain⟨_,he,ao,_⟩:=Dz af;have an:=he.2.1;have IH:=AV ih;have HF:=AV ae;clear ih ae ag he af;obtain⟨ns,J⟩:=AA (if Am n then 0 else Af n)
  have Z:Hid (Aj ⟨n,g,kids⟩=1+g.length+ns+(kids.map Aj).sum):=by show _=_;rw[Tt,J]
  have ac:1+g.length+ns+(kids.map Aj).sum<=1000000000:=by have:=Z.out;omega
  have fK:=AV (λW d=>LL n l k W (q.below d) (m.below d) AQ AQ);have dO:Hid (Am n=false->∀W,AO w W->Calls prog 94 #[.agg #[AB n.kind,AB n.one.op,l,k]] W (AN W (AB ns))):=λV W d=>by
   have e0:ns=Af n:=by rw[J,V];rfl
   rw[e0];exact Axp n l k W (q.below d) (m.below d) AQ
  have nT:Hid (Am n=true->ns=0):=λV=>by rw[J,V];rfl
  obtain⟨a,cap,rfl,C⟩:=r;have HC:=AV C;obtain⟨aa,L,rfl,_⟩:=q;obtain⟨K,M,rfl,_⟩:=m;obtain⟨O,N,rfl,_⟩:=t;clear C ah J;cases P:Am n
  ·go_enter func61,ntmps61
   go_wp2_with (first | (go_at_call 62;refine(fK _ Av).mono ?_;rw[P];rintro e w1 ⟨rfl,u⟩;obtain⟨C,R⟩:=Ef u) | (go_at_call 94;refine(dO P _ Av).mono ?_;rintro e w2 ⟨rfl,B⟩))
   go_loopw [3,4] (λacc i wr=>∃j:Nat,j<=kids.length/\i=AB j/\acc=AB (1+g.length+ns+((kids.map Aj).take j).sum:Nat)/\Below (w.heap.size+1) (w.alloc (.cells #[AB n.kind,AB n.one.op,AE aa n.one.args.length L,AE K n.kids.length M,AE O g.length N,AE a kids.length cap] 62)) wr) (λ_ i _=>kids.length - (intOf i).toNat)
   case atStart=>exact⟨0,AQ,rfl,AU,(u.mono AU).trans (B.mono (by have:=u.size;simpa using this))⟩
   case round=>
    clear C R u B;obtain⟨j,hj,rfl,rfl,c⟩:=hrel;have Q:w.heap.size<wr.heap.size:=by have:=c.size;simp at this;omega
    have c0:wr.cell? (AL w 0)=some (AB n.kind):=A3 c;have f0:wr.frozen? (AL w 0)=false:=A5 c;have c1:wr.cell? (AL w 1)=some (AB n.one.op):=A3 c;have f1:wr.frozen? (AL w 1)=false:=A5 c;have c2:wr.cell? (AL w 2)=some (AE aa n.one.args.length L):=A3 c;have f2:wr.frozen? (AL w 2)=false:=A5 c;have c3:wr.cell? (AL w 3)=some (AE K n.kids.length M):=A3 c;have f3:wr.frozen? (AL w 3)=false:=A5 c;have c4:wr.cell? (AL w 4)=some (AE O g.length N):=A3 c;have f4:wr.frozen? (AL w 4)=false:=A5 c;have c5:wr.cell? (AL w 5)=some (AE a kids.length cap):=A3 c;have f5:wr.frozen? (AL w 5)=false:=A5 c;have H:=(Aa _ _).trans (c.mono AQ);have F:=Kq (kids.map Aj) j;by_cases hlt:j<kids.length
    ·obtain⟨b,o,rfl,ab,I⟩:=HC j hlt
     obtain⟨G,A,y,x4,x5,t,r⟩:=(Xm.below H _ _ _ I ab).open;obtain⟨U,x1,l,k,x2,x3,q,m⟩:=G.open;have f:=S9 (kids.map Aj) j BZ;have S:=Kq (kids.map Aj) (j+1);rw[EI] at f;have z:=AV (λW d=>IH kids[j] (CN hlt) l k A y W (q.below d) (m.below d) (t.below d) (r.below d) AQ (HF _ (CN hlt)));obtain⟨s,D⟩:=AA (Aj kids[j])
     obtain⟨x,E⟩:=AA (kids[j])
     rw[<-D] at z f;rw[<-E] at z U x1;obtain⟨q1,q2,rfl,_⟩:=q;obtain⟨q3,q4,rfl,_⟩:=m;obtain⟨q5,q6,rfl,_⟩:=t;obtain⟨q7,q8,rfl,_⟩:=r;generalize T:((kids.map Aj).take j).sum=A1 at f F ⊢;have Y:=AV f;have ai:1+g.length+ns+A1+s<=1000000000:=AQ
     clear D E I G T f S F ac
     go_wp2_with (go_at_call 61;refine(z _ Av).mono ?_;rintro e w2 ⟨rfl,B⟩)
     refine⟨⟨j+1,AQ,by go_num,?_,c.trans (B.mono Q)⟩,by simp[intOf];omega⟩;rw[Y.out];congr 1;omega
    ·go_wp2
     go_ret;refine⟨F5 ?_,H⟩;rw[Z.out,EA Ax]
  ·have aj:=nT P
   subst aj;go_enter func61,ntmps61
   go_wp2_with (first | (go_at_call 62;refine(fK _ Av).mono ?_;rw[P];rintro e w1 ⟨rfl,u⟩;obtain⟨C,R⟩:=Ef u))
   go_loopw [3,4] (λacc i wr=>∃j:Nat,j<=kids.length/\i=AB j/\acc=AB (1+g.length+0+((kids.map Aj).take j).sum:Nat)/\Below (w.heap.size+1) (w.alloc (.cells #[AB n.kind,AB n.one.op,AE aa n.one.args.length L,AE K n.kids.length M,AE O g.length N,AE a kids.length cap] 62)) wr) (λ_ i _=>kids.length - (intOf i).toNat)
   case atStart=>exact⟨0,AQ,rfl,AU,u.mono AU⟩
   case round=>
    clear C R u;obtain⟨j,hj,rfl,rfl,c⟩:=hrel;have Q:w.heap.size<wr.heap.size:=by have:=c.size;simp at this;omega
    have c0:wr.cell? (AL w 0)=some (AB n.kind):=A3 c;have f0:wr.frozen? (AL w 0)=false:=A5 c;have c1:wr.cell? (AL w 1)=some (AB n.one.op):=A3 c;have f1:wr.frozen? (AL w 1)=false:=A5 c;have c2:wr.cell? (AL w 2)=some (AE aa n.one.args.length L):=A3 c;have f2:wr.frozen? (AL w 2)=false:=A5 c;have c3:wr.cell? (AL w 3)=some (AE K n.kids.length M):=A3 c;have f3:wr.frozen? (AL w 3)=false:=A5 c;have c4:wr.cell? (AL w 4)=some (AE O g.length N):=A3 c;have f4:wr.frozen? (AL w 4)=false:=A5 c;have c5:wr.cell? (AL w 5)=some (AE a kids.length cap):=A3 c;have f5:wr.frozen? (AL w 5)=false:=A5 c;have H:=(Aa _ _).trans (c.mono AQ);have F:=Kq (kids.map Aj) j;by_cases hlt:j<kids.length
    ·obtain⟨b,o,rfl,ab,I⟩:=HC j hlt
     obtain⟨G,A,y,x4,x5,t,r⟩:=(Xm.below H _ _ _ I ab).open;obtain⟨U,x1,l,k,x2,x3,q,m⟩:=G.open;have f:=S9 (kids.map Aj) j BZ;have S:=Kq (kids.map Aj) (j+1);rw[EI] at f;have z:=AV (λW d=>IH kids[j] (CN hlt) l k A y W (q.below d) (m.below d) (t.below d) (r.below d) AQ (HF _ (CN hlt)));obtain⟨s,D⟩:=AA (Aj kids[j])
     obtain⟨x,E⟩:=AA (kids[j])
     rw[<-D] at z f;rw[<-E] at z U x1;obtain⟨q1,q2,rfl,_⟩:=q;obtain⟨q3,q4,rfl,_⟩:=m;obtain⟨q5,q6,rfl,_⟩:=t;obtain⟨q7,q8,rfl,_⟩:=r;generalize T:((kids.map Aj).take j).sum=A1 at f F ⊢;have Y:=AV f;have ai:1+g.length+0+A1+s<=1000000000:=AQ
     clear D E I G T f S F ac
     go_wp2_with (go_at_call 61;refine(z _ Av).mono ?_;rintro e w2 ⟨rfl,B⟩)
     refine⟨⟨j+1,AQ,by go_num,?_,c.trans (B.mono Q)⟩,by simp[intOf];omega⟩;rw[Y.out];congr 1;omega
    ·go_wp2
     go_ret;refine⟨F5 ?_,H⟩;rw[Z.out,EA Ax]
theorem OC (l:List Stil.B8)(d:Value)(w:World)(g:Fe w d l)(y:Bz l<=1000000000)(z:∀x∈l,Dh x):
  Calls prog 30 #[d] w (AN w (AB (Bz l))):=by
 obtain⟨a,cap,rfl,C⟩:=g;have G:=AV C;have K:=AV z;have L:Hid (Bz l=(l.map Aj).sum):=rfl;have M:(l.map Aj).sum<=1000000000:=y;have P:=Ni Aj Nh l;have V:l.length<=1000000000:=AQ
 clear C z y P;go_enter func30,ntmps30
 go_wp2
 go_loopw [3,4] (λacc i wr=>∃j:Nat,j<=l.length/\i=AB j/\acc=AB (((l.map Aj).take j).sum:Nat)/\AO w wr) (λ_ i _=>l.length - (intOf i).toNat)
 case atStart=>exact⟨0,AQ,rfl,AU,Below.refl _ _⟩
 case round=>
  obtain⟨j,Z,rfl,rfl,m⟩:=hrel;have D:=Kq (l.map Aj) j;by_cases hlt:j<l.length
  ·obtain⟨b,o,rfl,R,q⟩:=G j hlt
   obtain⟨r,N,d,x4,x5,t,g⟩:=(Xm.below m _ _ _ q R).open;obtain⟨H,O,F,E,x2,x3,B,u⟩:=r.open;have c:=S9 (l.map Aj) j BZ;have J:=Kq (l.map Aj) (j+1);rw[EI] at c;have k:=AV (λW f=>Axv l[j] F E N d W (B.below f) (u.below f) (t.below f) (g.below f) AQ (K _ (CN hlt)));obtain⟨s,v⟩:=AA (Aj l[j])
   obtain⟨x,A⟩:=AA (l[j])
   rw[<-v] at k c;rw[<-A] at k H O;obtain⟨q1,q2,rfl,_⟩:=B;obtain⟨U,T,rfl,_⟩:=u;obtain⟨X,q6,rfl,_⟩:=t;obtain⟨q7,q8,rfl,_⟩:=g;generalize Q:((l.map Aj).take j).sum=A1 at c D ⊢;have I:=AV c;have ab:A1+s<=1000000000:=AQ
   clear v A q r Q c J D M
   go_wp2_with (go_at_call 61;refine(k _ Av).mono ?_;rintro e Y ⟨rfl,aa⟩)
   refine⟨⟨j+1,AQ,by go_num,?_,Av⟩,by simp[intOf];omega⟩;rw[I.out];rfl
  ·go_wp2
   go_ret;refine⟨F5 ?_,m⟩;rw[L.out,EA Ax]
end Go.Proofs.YtifcnfeppdbjdaaGreatDoor
set_option maxHeartbeats 4000000
set_option maxRecDepth 100000
namespace Go.Proofs.YtifcnfeppdbjdaaGreatDoor
open Tryz Stil Go.RowKit Go.Sort Go.BigFrame
theorem xf (n:Stil.B9):∀(z D:Value) (w:World),Dk w z n.one.args->Gn w D n.kids->Dw n->
  Calls prog 63 #[.agg #[AB n.kind,AB n.one.op,z,D]] w (AN w (AB (Ai n))):=by
 induction n using Gf with
 | h k e kids Z=>
  intro z D w A E ai;simp only at A E;obtain⟨_,he,aj,T⟩:=(Lc _ _ _).1 ai;obtain⟨_,al,af⟩:=he;have HF:=AV T;have IH:=AV Z;have O:=AV (λW G=>uO e.op z e.args W (A.below G) af AQ);clear Z T ai;obtain⟨a,cap,rfl,hc⟩:=E;have HC:=AV hc;obtain⟨aa,J,rfl,_⟩:=A;have u:=AV (Oq k e kids);clear hc af;obtain⟨d,ac⟩:=AA e.args.length
  obtain⟨c,P⟩:=AA kids.length
  have U:=AV P;rw[<-ac] at al u O ⊢;rw[<-P] at aj u ⊢;clear ac P;by_cases M:k=1
  ·subst M
   by_cases N:0<c
   ·have HX:Hid (Ai ⟨1,e,kids⟩=2):=by show _=_;rw[u.out,if_pos rfl,if_pos N]
    go_enter func63,ntmps63
    go_wp2
    go_ret;exact⟨F5 Bn,Av⟩
   ·have aw:decide (0<(c:Int))=false:=by rw[FQ];omega
    cases I:Du e.op e.args
    ·have HX:Hid (Ai ⟨1,e,kids⟩=3):=by show _=_;rw[u.out,if_pos rfl,if_neg N,I];rfl
     go_enter func63,ntmps63
     go_wp2_with (go_at_call 95;refine(O _ Av).mono ?_;rw[I];rintro e' w1 ⟨rfl,an⟩)
     go_ret;exact⟨F5 Bn,Av⟩
    ·have HX:Hid (Ai ⟨1,e,kids⟩=0):=by show _=_;rw[u.out,if_pos rfl,if_neg N,I];rfl
     go_enter func63,ntmps63
     go_wp2_with (go_at_call 95;refine(O _ Av).mono ?_;rw[I];rintro e' w1 ⟨rfl,an⟩)
     go_ret;exact⟨F5 Bn,Av⟩
  ·have ay:(k==1)=false:=by rw[CS];exact M
   have C:Hid (Ai ⟨k,e,kids⟩=if Xx k e.op d c then 2 else Ar (kids.map Ai)):=by show _=_;rw[u.out,if_neg M]
   clear u M;go_enter func63,ntmps63;go_upto_region 7 with fail
   go_cut [0,53] (λs0 ao wc=>s0=.agg #[AB k,AB e.op,AE aa d J,AE a c cap]/\ao=.bool (Xx k e.op d c)/\wc=w.alloc (.cells #[AB k,AB e.op,AE aa d J,AE a c cap] 59))
   case first=>
    have m:Hid (Xx k e.op d c=(decide (k<2) || decide (4<k) || e.op !=0 || decide ((0:Int)<(d:Int)) || (c:Int)==0 || (k==4 && (c:Int) !=1))):=rfl;cases q:decide (k<2)
    ·cases y:decide (4<k)
     ·cases t:(e.op !=0)
      ·have g:Hid (e.op=0):=(by simpa using t:e.op=0)
       cases r:decide ((0:Int)<(d:Int))
       ·have l:Hid (d=0):=(by have:=of_decide_eq_false r;omega:d=0)
        cases B:((c:Int)==0)
        ·cases F:(k==4)
         ·(go_wp2_with fail;go_meet;exact⟨by first | rfl | simp[g.out,l.out],by rw[m.out,q,y,t,r,B,F];rfl,by first | rfl | simp[g.out,l.out]⟩)
         ·have K:Hid (k=4):=(by simpa using F:k=4)
          cases S:((c:Int) !=1)
          ·have H1:Hid (c=1):=(by have:=bne_eq_false_iff_eq.1 S;omega:c=1)
           (go_wp2_with fail;go_meet;exact⟨by first | rfl | simp[g.out,l.out,K.out,H1.out],by rw[m.out,q,y,t,r,B,F,S];rfl,by first | rfl | simp[g.out,l.out,K.out,H1.out]⟩)
          ·(go_wp2_with fail;go_meet;exact⟨by first | rfl | simp[g.out,l.out,K.out],by rw[m.out,q,y,t,r,B,F,S];rfl,by first | rfl | simp[g.out,l.out,K.out]⟩)
        ·have HL:Hid (c=0):=(by have:=beq_iff_eq.1 B;omega:c=0)
         (go_wp2_with fail;go_meet;exact⟨by first | rfl | simp[g.out,l.out,HL.out],by rw[m.out,q,y,t,r,B];rfl,by first | rfl | simp[g.out,l.out,HL.out]⟩)
       ·have p4:0<d:=(by have:=of_decide_eq_true r;omega:0<d)
        have p5:(0:Int)<(d:Int):=(by omega:(0:Int)<(d:Int))
        (go_wp2_with fail;go_meet;exact⟨by first | rfl | simp[g.out],by rw[m.out,q,y,t,r];rfl,by first | rfl | simp[g.out]⟩)
      ·(go_wp2_with fail;go_meet;exact⟨Ao,by rw[m.out,q,y,t];rfl,Ao⟩)
     ·(go_wp2_with fail;go_meet;exact⟨Ao,by rw[m.out,q,y];rfl,Ao⟩)
    ·(go_wp2_with fail;go_meet;exact⟨Ao,by rw[m.out,q];rfl,Ao⟩)
   case rest=>
    obtain⟨rfl,rfl,rfl⟩:=hcut;cases ab:Xx k e.op d c
    ·rw[ab] at C
     have ah:Hid (Ai ⟨k,e,kids⟩=Ar (kids.map Ai)):=C.out;clear C
     go_wp2
     go_loopw [3,4] (λi _ wr=>∃j:Nat,j<=c/\i=AB j/\Ar (kids.map Ai)=Ar ((kids.drop j).map Ai)/\Below (w.heap.size+1) (w.alloc (.cells #[AB k,AB e.op,AE aa d J,AE a c cap] 59)) wr) (λi _ _=>c - (intOf i).toNat)
     case atStart=>exact⟨0,AQ,rfl,rfl,Below.refl _ _⟩
     case round=>
      obtain⟨j,hj,rfl,ae,f⟩:=hrel;have Q:=AV ae;clear ae;have hz:w.heap.size<wr.heap.size:=by have:=f.size;simp at this;omega
      have c0:wr.cell? (AL w 0)=some (AB k):=A3 f;have f0:wr.frozen? (AL w 0)=false:=A5 f;have c1:wr.cell? (AL w 1)=some (AB e.op):=A3 f;have f1:wr.frozen? (AL w 1)=false:=A5 f;have c2:wr.cell? (AL w 2)=some (AE aa d J):=A3 f;have f2:wr.frozen? (AL w 2)=false:=A5 f;have c3:wr.cell? (AL w 3)=some (AE a c cap):=A3 f;have f3:wr.frozen? (AL w 3)=false:=A5 f;have ag:=(Aa _ _).trans (f.mono AQ);by_cases ax:j<c
      ·have H:j<kids.length:=by have:=U.out;omega
       obtain⟨b,o,rfl,ap,hn⟩:=HC j H;obtain⟨x0,x1,z,D,x2,x3,A,E⟩:=(Un.below ag _ _ _ hn ap).open;have L:=AV (λW G=>IH kids[j] (CN H) z D W (A.below G) (E.below G) (HF _ (CN H)));have R:Hid (Ar ((kids.drop j).map Ai)=if 0<Ai kids[j] then Ai kids[j] else Ar ((kids.drop (j+1)).map Ai)):=by
        show _=_
        rw[GQ H,CP];rfl
       obtain⟨s,V⟩:=AA (Ai kids[j])
       obtain⟨x,X⟩:=AA (kids[j])
       rw[<-V] at L R;rw[<-X] at L x0 x1;obtain⟨au,ku,rfl,_⟩:=A;obtain⟨a',ar,rfl,_⟩:=E;clear V X hn;by_cases ak:0<s
       ·go_wp2_with (go_at_call 63;refine(L _ Av).mono ?_;rintro e w2 ⟨rfl,Y⟩)
        go_ret;exact⟨F5 (by rw[ah.out,Q.out,R.out,if_pos ak]),Av⟩
       ·go_wp2_with (go_at_call 63;refine(L _ Av).mono ?_;rintro e w2 ⟨rfl,Y⟩)
        refine⟨⟨j+1,AQ,by go_num,?_,f.trans (Y.mono hz)⟩,by simp[intOf];omega⟩;rw[Q.out,R.out,if_neg AQ]
      ·go_wp2
       go_ret;refine⟨F5 ?_,ag⟩;rw[ah.out,Q.out,GR (by have:=U.out;omega)];rfl
    ·rw[ab] at C
     go_wp2
     go_ret;exact⟨F5 (by rw[C.out];rfl),Av⟩
theorem wU (n:Stil.B8):∀(root:Bool) (A z F I:Value) (w:World),Dk w A n.net.one.args->Gn w z n.net.kids->Iz w F n.coils->Fe w I n.kids->Dh n->
  Calls prog 31 #[.agg #[AB n.net.kind,AB n.net.one.op,A,z,F,I], .bool root] w (AN w (AB (if root=true/\Am n.net=true then 4 else Cf n))):=by
 induction n using Gl with
 | h n c kids ih=>
  intro root A z F I w H G Q aa aJ;simp only at H G Q aa;obtain⟨ag,aD,ai,ao,dH⟩:=Il aJ;simp only at ag aD ai ao dH;have ak:=Dz ag
  have IH:Hid (∀x∈kids,∀(A z F I:Value) (w:World),Dk w A x.net.one.args->Gn w z x.net.kids->Iz w F x.coils->Fe w I x.kids->
   Calls prog 31 #[.agg #[AB x.net.kind,AB x.net.one.op,A,z,F,I], .bool false] w (AN w (AB (Cf x)))):=λx L A z F I w h1 h2 h3 h4=>(ih x L false A z F I w h1 h2 h3 h4 (dH x L)).mono λe w' ⟨he,hb⟩=>⟨by rw[he];simp,hb⟩
  have u:=AV (λW t=>LL n A z W (H.below t) (G.below t) (by have:=ak.2.1.2.1;omega) (by have:=ak.2.2.1;omega));have lI:=AV (λW t=>xf n A z W (H.below t) (G.below t) ag);have yH:=AV ai;have rD:Hid (∀i (h:i<c.length),∃b o,True/\b<w.heap.size/\KV w b (o+i*2) c[i]/\∃cap,F=AE (some (AK b o)) c.length cap):=by
   intro i hi;obtain⟨a,cap,hv,hc⟩:=Q;obtain⟨b,o,ha,hb,L⟩:=hc i hi;exact⟨b,o,trivial,hb,L,cap,by rw[hv,ha]⟩
  obtain⟨T,U,rfl,_⟩:=H;obtain⟨O,P,rfl,_⟩:=G;obtain⟨N,X,rfl,aE⟩:=Q;obtain⟨Z,V,rfl,aB⟩:=aa;have yI:=AV aE;have aL:=AV aB;have HW:Hid (Cf ⟨n,c,kids⟩=if 0<Cj ⟨n,c,kids⟩ then Cj ⟨n,c,kids⟩ else Ar (kids.map Cf)):=Xg _;have D:Hid (Cj ⟨n,c,kids⟩=if Am n=false/\0<Ai n then Ai n else if Dv c then 3 else if c.length=0/\kids.length=0 then 5 else 0):=rfl;have aQ:Hid (∀x∈kids,0<=Cf x/\Cf x<=5):=λx _=>Qs x
  have aM:=La n;simp only;obtain⟨r,aI⟩:=AA (Am n)
  obtain⟨C,aG⟩:=AA (Ai n)
  rw[<-aI] at u D ⊢;rw[<-aG] at lI D aM;obtain⟨g,an⟩:=AA c.length
  obtain⟨k,aj⟩:=AA kids.length
  have xZ:=AV an;have vM:=AV aj;rw[<-an] at aD D ⊢;rw[<-aj] at ao D ⊢;clear ih aJ ag ai dH aE aB ak aI aG an aj rD;obtain⟨R,q⟩:=AA ((if root=true/\r=true then 4 else Cf ⟨n,c,kids⟩))
  rw[<-q];have aP:(root=true/\r=true)\/(root=true/\r=false/\0<C)\/(root=false/\r=false/\0<C)\/(root=false/\r=false/\¬0<C)\/(root=false/\r=true)\/(root=true/\r=false/\¬0<C):=by
   cases root<;>cases r<;>by_cases h:0<C<;>simp[h]
  rcases aP with⟨rfl,rfl⟩ | ⟨rfl,rfl,B⟩ | ⟨rfl,rfl,B⟩ | ⟨hr,J,B⟩ | ⟨hr,J⟩ | ⟨hr,J,B⟩
  ·have HX:Hid (R=4):=by show _=_;rw[q];simp
   clear q;go_enter func31,ntmps31
   go_wp2_with (go_at_call 62;refine(u _ AW).mono ?_;rintro e w1 ⟨rfl,f⟩)
   go_ret;exact⟨F5 Bn,AW⟩
  ·have l:R=Cf ⟨n,c,kids⟩:=by rw[q];simp
   clear q;have mY:=u;have HX:Hid (R=C):=by show _=_;rw[l,HW.out,D.out];simp[B]
   clear l;go_enter func31,ntmps31
   go_wp2_with (first | (go_at_call 62;refine(u _ AW).mono ?_;clear u;rintro e w0 ⟨rfl,y⟩;obtain⟨aA,aF⟩:=Ef y;have az:w.heap.size<w0.heap.size:=CB AU y.size) | (go_at_call 62;refine(mY _ AW).mono ?_;rintro e w1 ⟨rfl,f⟩;obtain⟨Y,S⟩:=Ef f) | (go_at_call 63;refine(lI _ AW).mono ?_;rintro e w2 ⟨rfl,M⟩))
   go_ret;exact⟨F5 Bn,AW⟩
  ·have l:R=Cf ⟨n,c,kids⟩:=by rw[q];simp
   clear q;have HX:Hid (R=C):=by show _=_;rw[l,HW.out,D.out];simp[B]
   clear l;go_enter func31,ntmps31
   go_wp2_with (first | (go_at_call 62;refine(u _ AW).mono ?_;rintro e w1 ⟨rfl,f⟩;obtain⟨Y,S⟩:=Ef f) | (go_at_call 63;refine(lI _ AW).mono ?_;rintro e w2 ⟨rfl,M⟩))
   go_ret;exact⟨F5 Bn,AW⟩
  all_goals first
   | (
     obtain rfl:root=false:=hr;obtain rfl:r=false:=J;have l:R=Cf ⟨n,c,kids⟩:=by rw[q];simp
     clear q;have ab:Hid (R=if Dv c then 3 else if g=0/\k=0 then 5 else Ar (kids.map Cf)):=by
      show _=_
      rw[l,HW.out,D.out];simp only[B,and_false,C7];cases Dv c
      ·simp only[DU,C7]
       split<;>simp
      ·simp
     clear l;go_enter func31,ntmps31
     go_wp2_with (first | (go_at_call 62;refine(u _ AW).mono ?_;rintro e w1 ⟨rfl,f⟩;obtain⟨Y,S⟩:=Ef f) | (go_at_call 63;refine(lI _ AW).mono ?_;rintro e w2 ⟨rfl,M⟩))
     have ah:Below (w.heap.size+1) (w.alloc (.cells #[AB n.kind,AB n.one.op,AE T n.one.args.length U,AE O n.kids.length P,AE N g X,AE Z k V] 62)) w2:=by
      have h1:=f.size;simp only[World.size_alloc] at f h1;exact f.trans (M.mono h1)
     clear f M Y S)
   | (
     obtain rfl:root=false:=hr;obtain rfl:r=true:=J;have l:R=Cf ⟨n,c,kids⟩:=by rw[q];simp
     clear q;have ab:Hid (R=if Dv c then 3 else if g=0/\k=0 then 5 else Ar (kids.map Cf)):=by
      show _=_
      rw[l,HW.out,D.out];simp only[Bool.true_eq_false,false_and,C7];cases Dv c
      ·simp only[DU,C7]
       split<;>simp
      ·simp
     clear l;go_enter func31,ntmps31
     go_wp2_with (go_at_call 62;refine(u _ AW).mono ?_;rintro e w1 ⟨rfl,f⟩;obtain⟨Y,S⟩:=Ef f)
     have ah:Below (w.heap.size+1) (w.alloc (.cells #[AB n.kind,AB n.one.op,AE T n.one.args.length U,AE O n.kids.length P,AE N g X,AE Z k V] 62)) w1:=by simpa using f
     clear f Y S)
   | (
     obtain rfl:root=true:=hr;obtain rfl:r=false:=J;have l:R=Cf ⟨n,c,kids⟩:=by rw[q];simp
     clear q;have mY:=u;have ab:Hid (R=if Dv c then 3 else if g=0/\k=0 then 5 else Ar (kids.map Cf)):=by
      show _=_
      rw[l,HW.out,D.out];simp only[B,and_false,C7];cases Dv c
      ·simp only[DU,C7]
       split<;>simp
      ·simp
     clear l;go_enter func31,ntmps31
     go_wp2_with (first | (go_at_call 62;refine(u _ AW).mono ?_;clear u;rintro e w0 ⟨rfl,y⟩;obtain⟨aA,aF⟩:=Ef y;have az:w.heap.size<w0.heap.size:=CB AU y.size) | (go_at_call 62;refine(mY _ AW).mono ?_;rintro e w1 ⟨rfl,f⟩;obtain⟨Y,S⟩:=Ef f) | (go_at_call 63;refine(lI _ AW).mono ?_;rintro e w2 ⟨rfl,M⟩))
     have ah:Below (w.heap.size+1) (w.alloc (.cells #[AB n.kind,AB n.one.op,AE T n.one.args.length U,AE O n.kids.length P,AE N g X,AE Z k V] 62)) w2:=by
      have h0:=y.size;have h1:=f.size;simp only[World.size_alloc] at y h0;exact(y.trans (f.mono h0)).trans (M.mono (CJ h0 h1))
     clear y aA aF f M Y S az)
  all_goals
   go_loopw [6] (λi wr=>∃m:Nat,m<=g/\i=AB m/\Dv c=Dv (c.drop m)/\Below (w.heap.size+1) (w.alloc (.cells #[AB n.kind,AB n.one.op,AE T n.one.args.length U,AE O n.kids.length P,AE N g X,AE Z k V] 62)) wr) (λi _=>g - (intOf i).toNat)
   case atStart=>exact⟨0,AQ,rfl,rfl,ah⟩
   case round=>
    clear ah;obtain⟨m,hm,rfl,aw,d⟩:=hrel;have eU:=AV aw;clear aw;have hz:w.heap.size<wr.heap.size:=by have:=d.size;simp at this;omega
    have c0:wr.cell? (AL w 0)=some (AB n.kind):=A3 d;have f0:wr.frozen? (AL w 0)=false:=A5 d;have c1:wr.cell? (AL w 1)=some (AB n.one.op):=A3 d;have f1:wr.frozen? (AL w 1)=false:=A5 d;have c2:wr.cell? (AL w 2)=some (AE T n.one.args.length U):=A3 d;have f2:wr.frozen? (AL w 2)=false:=A5 d;have c3:wr.cell? (AL w 3)=some (AE O n.kids.length P):=A3 d;have f3:wr.frozen? (AL w 3)=false:=A5 d;have c4:wr.cell? (AL w 4)=some (AE N g X):=A3 d;have f4:wr.frozen? (AL w 4)=false:=A5 d;have c5:wr.cell? (AL w 5)=some (AE Z k V):=A3 d;have f5:wr.frozen? (AL w 5)=false:=A5 d;have ac:=(Aa _ _).trans (d.mono AQ);by_cases aN:m<g
    ·have K:m<c.length:=by have:=xZ.out;omega
     obtain⟨b,o,rfl,al,aC⟩:=yI m K;obtain⟨x0,jy,x1,kJ⟩:=aC.below ac al;have gK:=yH _ (CN K);have E:=AV (λW t=>fR c[m].op jy c[m].args W (kJ.below t) gK.2.2 (by have:=gK.2.1;omega));have HD:Hid (Dv c=(!Gt c[m].op c[m].args || Dv (c.drop (m+1)))):=by show _=_;rw[eU.out,Xa _ _ K]
     obtain⟨ic,ap⟩:=AA (Gt c[m].op c[m].args)
     rw[<-ap] at E HD;obtain⟨aK,hy⟩:=AA (c[m])
     rw[<-hy] at E x0;obtain⟨t1,t2,f1,_⟩:=kJ;rw[<-hy] at f1;subst f1;clear ap hy aC gK eU;cases ic
     ·have HX:Hid (R=3):=by show _=_;rw[ab.out,HD.out];rfl
      go_wp2_with (go_at_call 64;refine(E _ AW).mono ?_;rintro e w3 ⟨rfl,au⟩)
      go_ret;exact⟨F5 Bn,AW⟩
     ·have HX:Hid (Dv c=Dv (c.drop (m+1))):=by show _=_;rw[HD.out];rfl
      go_wp2_with (go_at_call 64;refine(E _ AW).mono ?_;rintro e w3 ⟨rfl,au⟩)
      exact⟨⟨m+1,AQ,by go_num,HX.out,d.trans (au.mono hz)⟩,by simp[intOf];omega⟩
    ·have ay:Dv c=false:=by rw[eU.out,GR (by have:=xZ.out;omega)];rfl
     have af:Hid (R=if g=0/\k=0 then 5 else Ar (kids.map Cf)):=by show _=_;rw[ab.out,ay];rfl
     clear ay eU ab;obtain⟨y,f⟩:True/\True:=⟨trivial,trivial⟩
     by_cases ae:g=0/\k=0
     ·have HX:Hid (R=5):=by show _=_;rw[af.out,if_pos ae]
      obtain⟨rfl,rfl⟩:=ae;clear af
      go_wp2
      go_ret;exact⟨F5 Bn,AW⟩
     ·have HX:Hid (R=Ar (kids.map Cf)):=by show _=_;rw[af.out,if_neg ae]
      clear af;have aO:((g:Int)==0)=false\/((k:Int)==0)=false:=by
       by_cases h:g=0
       ·right;rw[CS];omega
       ·left;rw[CS];omega
      clear ae;rcases aO with hq | hq<;>go_wp2
      all_goals (
       go_loopw [7] (λi wq=>∃j:Nat,j<=k/\i=AB j/\Ar (kids.map Cf)=Ar ((kids.drop j).map Cf)/\Below (w.heap.size+1) (w.alloc (.cells #[AB n.kind,AB n.one.op,AE T n.one.args.length U,AE O n.kids.length P,AE N g X,AE Z k V] 62)) wq) (λi _=>k - (intOf i).toNat)
       case atStart=>exact⟨0,AQ,rfl,rfl,d⟩
       case round=>
        clear c0 c1 c2 c3 c4 c5 f0 f1 f2 f3 f4 f5 hz d ac;obtain⟨j,hj,rfl,aH,d⟩:=hrel;have HP:=AV aH;clear aH;have hz:w.heap.size<wr.heap.size:=by have:=d.size;simp at this;omega
        have c0:wr.cell? (AL w 0)=some (AB n.kind):=A3 d;have f0:wr.frozen? (AL w 0)=false:=A5 d;have c1:wr.cell? (AL w 1)=some (AB n.one.op):=A3 d;have f1:wr.frozen? (AL w 1)=false:=A5 d;have c2:wr.cell? (AL w 2)=some (AE T n.one.args.length U):=A3 d;have f2:wr.frozen? (AL w 2)=false:=A5 d;have c3:wr.cell? (AL w 3)=some (AE O n.kids.length P):=A3 d;have f3:wr.frozen? (AL w 3)=false:=A5 d;have c4:wr.cell? (AL w 4)=some (AE N g X):=A3 d;have f4:wr.frozen? (AL w 4)=false:=A5 d;have c5:wr.cell? (AL w 5)=some (AE Z k V):=A3 d;have f5:wr.frozen? (AL w 5)=false:=A5 d;have ac:=(Aa _ _).trans (d.mono AQ);by_cases aN:j<k
        ·have K:j<kids.length:=by have:=vM.out;omega
         obtain⟨b,o,rfl,al,J⟩:=aL j K;obtain⟨ax,zY,zX,x4,x5,Q,aa⟩:=(Xm.below ac _ _ _ J al).open;obtain⟨x0,x1,uV,zW,x2,x3,H,G⟩:=ax.open;have E:=AV (λW t=>IH kids[j] (CN K) uV zW zY zX W (H.below t) (G.below t) (Q.below t) (aa.below t));have HS:Hid (Ar ((kids.drop j).map Cf)=if 0<Cf kids[j] then Cf kids[j] else Ar ((kids.drop (j+1)).map Cf)):=by
          show _=_
          rw[GQ K,CP];rfl
         obtain⟨s,hs⟩:=AA (Cf kids[j])
         obtain⟨x,L⟩:=AA (kids[j])
         rw[<-hs] at E HS;rw[<-L] at E x0 x1 H G Q aa;obtain⟨t0,u0,rfl,_⟩:=H;obtain⟨t1,u1,rfl,_⟩:=G;obtain⟨t2,u2,rfl,_⟩:=Q;obtain⟨t3,u3,rfl,_⟩:=aa;clear hs L J ax;by_cases B:0<s
         ·go_wp2_with (go_at_call 31;refine(E _ AW).mono ?_;rintro e w4 ⟨rfl,ar⟩)
          go_ret;exact⟨F5 (by rw[HX.out,HP.out,HS.out,if_pos B]),AW⟩
         ·go_wp2_with (go_at_call 31;refine(E _ AW).mono ?_;rintro e w4 ⟨rfl,ar⟩)
          refine⟨⟨j+1,AQ,by go_num,?_,d.trans (ar.mono hz)⟩,by simp[intOf];omega⟩;rw[HP.out,HS.out,if_neg AQ]
        ·go_wp2
         go_ret;refine⟨F5 ?_,ac⟩
         rw[HX.out,HP.out,GR (by have:=vM.out;omega)];rfl)
theorem uJ (n:Stil.B8)(d c a b:Value)(w:World)(j:Dk w d n.net.one.args)(m:Gn w c n.net.kids)(k:Iz w a n.coils)(i:Fe w b n.kids)(g:Dh n):
  Calls prog 31 #[.agg #[AB n.net.kind,AB n.net.one.op,d,c,a,b], .bool true] w (AN w (AB (Fg n))):=
 (wU n true d c a b w j m k i g).mono λe f ⟨l,h⟩=>⟨by rw[l];simp[Fg],h⟩
theorem NR (l:List Stil.B8)(H:Value)(w:World)(r:Fe w H l)(hl:l.length<=1048576)(O:Bz l<=1000000000)(L:∀x∈l,Dh x):
  Calls prog 13 #[H] w (AN w (.agg #[AB (Aw l).1,AB (Aw l).2])):=by
 have y:=AV (λW m=>OC l H W (r.below m) O L);have HF:=AV L;obtain⟨a,cap,rfl,hc⟩:=r;have HC:=AV hc;obtain⟨g,B⟩:=AA l.length
 obtain⟨z,d⟩:=AA (Bz l)
 have T:=AV B;have u:Hid (Aw l=if 40<g\/400<z then(1,0) else Ep l 0):=by show _=_;rw[B,d];rfl
 rw[<-B] at hl y ⊢;rw[<-d] at y O;obtain⟨R,X⟩:=AA (Aw l)
 rw[<-X] at u ⊢;clear hc L B d X;by_cases h1:40<g
 ·have c:Hid (R=(1,0)):=by show _=_;rw[u.out,if_pos (.inl h1)]
  go_enter func13,ntmps13
  go_wp2
  refine bodyPost_ret (v:=.agg #[AB 1,AB 0]) (by simp[results,results13,go_sem]) rfl ⟨by rw[c.out];rfl,AW⟩
 ·by_cases h2:400<z
  ·have c:Hid (R=(1,0)):=by show _=_;rw[u.out,if_pos (.inr h2)]
   go_enter func13,ntmps13
   go_wp2_with (go_at_call 30;refine(y _ AW).mono ?_;rintro e t ⟨rfl,k⟩;have D:t.cell? (AL w 0)=some (AB 0):=(A3 k);have F:t.cell? (AL w 1)=some (AB 0):=(A3 k);have k0:t.frozen? (AL w 0)=false:=(A5 k);have k1:t.frozen? (AL w 1)=false:=(A5 k))
   refine bodyPost_ret (v:=.agg #[AB 1,AB 0]) (by simp[results,results13,go_sem,D,F]) rfl ⟨by rw[c.out];rfl,AW⟩
  ·have c:Hid (R=Ep l 0):=by show _=_;rw[u.out,if_neg AQ]
   clear u;go_enter func13,ntmps13
   go_wp2_with (go_at_call 30;refine(y _ AW).mono ?_;rintro e t ⟨rfl,k⟩)
   have Z:Below (w.heap.size+1) (w.alloc (.cells #[AB 0,AB 0] 35)) t:=by simpa using k
   clear k;go_loopw [3] (λi wr=>∃j:Nat,j<=g/\i=AB j/\R=Ep (l.drop j) j/\Below (w.heap.size+1) (w.alloc (.cells #[AB 0,AB 0] 35)) wr) (λi _=>g - (intOf i).toNat)
   case atStart=>exact⟨0,AQ,rfl,by rw[c.out];rfl,Z⟩
   case round=>
    clear Z c;obtain⟨j,hj,rfl,U,f⟩:=hrel;have J:=AV U;clear U;have d:w.heap.size<wr.heap.size:=by have:=f.size;simp at this;omega
    have M:wr.cell? (AL w 0)=some (AB 0):=A3 f;have f0:wr.frozen? (AL w 0)=false:=A5 f;have V:wr.cell? (AL w 1)=some (AB 0):=A3 f;have f1:wr.frozen? (AL w 1)=false:=A5 f;have ab:=(Aa _ _).trans (f.mono AQ);by_cases ae:j<g
    ·have C:j<l.length:=by have:=T.out;omega
     obtain⟨b,o,rfl,ac,Y⟩:=HC j C;obtain⟨S,zY,zX,x4,x5,I,r⟩:=(Xm.below ab _ _ _ Y ac).open;obtain⟨x0,x1,uV,zW,x2,x3,G,E⟩:=S.open;have A:=AV (λW m=>uJ l[j] uV zW zY zX W (G.below m) (E.below m) (I.below m) (r.below m) (HF _ (CN C)));have K:Hid (R=if 0<Fg l[j] then(Fg l[j],j) else Ep (l.drop (j+1)) (j+1)):=by show _=_;rw[J.out,Z7 l j C]
     have aa:=Ud l[j];obtain⟨s,N⟩:=AA (Fg l[j])
     obtain⟨x,P⟩:=AA (l[j])
     rw[<-N] at A K aa;rw[<-P] at A x0 x1 G E I r;obtain⟨t0,u0,rfl,_⟩:=G;obtain⟨t1,u1,rfl,_⟩:=E;obtain⟨t2,u2,rfl,_⟩:=I;obtain⟨t3,u3,rfl,_⟩:=r;clear N P Y S J;by_cases Q:0<s
     ·have c:Hid (R=(s,j)):=by show _=_;rw[K.out,if_pos Q]
      go_wp2_with (go_at_call 31;refine(A _ AW).mono ?_;rintro e w4 ⟨rfl,q⟩;have D:=(q.cell (p:=(AL w 0)) d).trans M;have F:=(q.cell (p:=(AL w 1)) d).trans V;have k0:=(q.frozen (p:=(AL w 0)) d).trans f0;have k1:=(q.frozen (p:=(AL w 1)) d).trans f1)
      refine bodyPost_ret (v:=.agg #[AB s,AB j]) (by simp[results,results13,go_sem,D,F]) rfl ⟨by rw[c.out],AW⟩
     ·have c:Hid (R=Ep (l.drop (j+1)) (j+1)):=by show _=_;rw[K.out,if_neg Q]
      go_wp2_with (go_at_call 31;refine(A _ AW).mono ?_;rintro e w4 ⟨rfl,q⟩)
      exact⟨⟨j+1,AQ,by go_num,c.out,f.trans (q.mono d)⟩,by simp[intOf];omega⟩
    ·have c:Hid (R=(0,0)):=by show _=_;rw[J.out,GR (by have:=T.out;omega)];rfl
     go_wp2
     refine bodyPost_ret (v:=.agg #[AB 0,AB 0]) (by simp[results,results13,go_sem,M,V]) rfl ⟨by rw[c.out];rfl,AW⟩
