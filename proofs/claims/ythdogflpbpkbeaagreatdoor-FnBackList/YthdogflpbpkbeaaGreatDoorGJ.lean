import Derived.Test.YthdogflpbpkbeaaGreatDoorGU
import Derived.Test.YthdogflpbpkbeaaGreatDoorD9
import Derived.Laws.EntriesVeiled
import Derived.Deep.WholeRow
import Derived.Laws.CopyOwn
set_option linter.defProp false
set_option maxHeartbeats 4000000
set_option maxRecDepth 100000
namespace Go.Proofs.YthdogflpbpkbeaaGreatDoor
open Tryz Stil Go.RowKit Go.Sort Go.BigFrame
def zHa{p:Prop}(h:p:=by go_enter func111,ntmps111;go_wp2_with(go_at_call 113;refine(HK _ Bw).mo ?_;rw[hct];rintro e' w1⟨rfl,hb1⟩);go_ret;exact⟨Fp C7,Bw⟩):p:=h
def At9(n:Stil.DK):∀(A E:AW)(w:AU),Aq w A n.O.args->Eg w E n.K->Ci n->
  Calls prog 111 #[.agg #[AB n.kind,AB n.O.op,A,E]] w (AN w (AB (Ap n))):=by
 induction n using Gp with
 |h k e kids ih=>
  intro A E w z C R;simp only at z C;have⟨_,he,ah,Z⟩:=(G6 _ _ _).1 R;obtain⟨_,aj,ae⟩:=he;have HF:=BZ Z;have IH:=BZ ih;have HK:=BZ (λW K=>Ww e.op A e.args W (z.below K) ae BS);clear ih Z R;obtain⟨a,cap,rfl,S⟩:=C;have HC:=BZ S;obtain⟨aa,I,rfl,_⟩:=z;have y:=BZ (Ku k e kids);clear S ae;have⟨d,af⟩:=AA e.args.length;have⟨c,O⟩:=AA kids.length;have rM:=BZ O;rw[<-af]at aj y HK⊢;rw[<-O]at ah y⊢;clear af O;by_cases L:k=1;{subst L;by_cases Q:0<c;{have HX:Hid (Ap ⟨1,e,kids⟩=2):=(by show _=_;rw[y.out,BR rfl,BR Q]);go_enter func111,ntmps111;go_wp2;go_ret;exact⟨Fp C7,Bw⟩};have al:decide (0<(c:Int))=false:=(by rw[FU];omega);cases hct:Df e.op e.args;{have HX:Hid (Ap ⟨1,e,kids⟩=3):=(by show _=_;rw[y.out,BR rfl,BQ Q,hct];rfl);exact zHa};have HX:Hid (Ap ⟨1,e,kids⟩=0):=(by show _=_;rw[y.out,BR rfl,BQ Q,hct];rfl);exact zHa};have ap:(k==1)=false:=by rwa[DX]
  have D:Hid (Ap ⟨k,e,kids⟩=if V9 k e.op d c then 2 else A7 (kids.map Ap)):=by show _=_;rw[y.out,BQ L]
  clear y L;go_enter func111,ntmps111;go_upto_region 7 with fail;go_cut [0,53] (λs0 ak wc=>s0=.agg #[AB k,AB e.op,AE aa d I,AE a c cap]/\ak=.bool (V9 k e.op d c)/\wc=w.alloc (.cells #[AB k,AB e.op,AE aa d I,AE a c cap] 63));case first=>
   have m:Hid (V9 k e.op d c=(decide (k<2) || decide (4<k) || e.op !=0 || decide ((0:Int)<(d:Int)) || (c:Int)==0 || (k==4 && (c:Int) !=1))):=rfl;cases q:decide (k<2)
   .cases t:decide (4<k)
    .cases u:(e.op !=0)
     .have g:Hid (e.op=0):=(by simpa using u:e.op=0);cases r:decide ((0:Int)<(d:Int))
      .have l:Hid (d=0):=(by have:=of_decide_eq_false r;omega:d=0);cases B:((c:Int)==0)
       .cases H:(k==4);{(go_wp2_with fail;go_meet;exact⟨by first|rfl|simp[g.out,l.out],by rw[m.out,q,t,u,r,B,H];rfl,by first|rfl|simp[g.out,l.out]⟩)};have J:Hid (k=4):=(by simpa using H:k=4);cases P:((c:Int) !=1)
        .have H1:Hid (c=1):=(by have:=bne_eq_false_iff_eq.1 P;omega:c=1)
         (go_wp2_with fail;go_meet;exact⟨by first|rfl|simp[g.out,l.out,J.out,H1.out],by rw[m.out,q,t,u,r,B,H,P];rfl,by first|rfl|simp[g.out,l.out,J.out,H1.out]⟩)
        ·(go_wp2_with fail;go_meet;exact⟨by first|rfl|simp[g.out,l.out,J.out],by rw[m.out,q,t,u,r,B,H,P];rfl,by first|rfl|simp[g.out,l.out,J.out]⟩)
       have T:Hid (c=0):=(by have:=beq_iff_eq.1 B;omega:c=0)
       (go_wp2_with fail;go_meet;exact⟨by first|rfl|simp[g.out,l.out,T.out],by rw[m.out,q,t,u,r,B];rfl,by first|rfl|simp[g.out,l.out,T.out]⟩)
      have p4:0<d:=(by have:=of_decide_eq_true r;omega:0<d);have p5:(0:Int)<(d:Int):=(by omega:(0:Int)<(d:Int))
      (go_wp2_with fail;go_meet;exact⟨by first|rfl|simp[g.out],by rw[m.out,q,t,u,r];rfl,by first|rfl|simp[g.out]⟩)
     ·(go_wp2_with fail;go_meet;exact⟨Br,by rw[m.out,q,t,u];rfl,Br⟩)
    ·(go_wp2_with fail;go_meet;exact⟨Br,by rw[m.out,q,t];rfl,Br⟩)
   ·(go_wp2_with fail;go_meet;exact⟨Br,by rw[m.out,q];rfl,Br⟩)
  case rest=>
   obtain⟨rfl,rfl,rfl⟩:=hcut;cases ab:V9 k e.op d c
   .rw[ab]at D;have ac:Hid (Ap ⟨k,e,kids⟩=A7 (kids.map Ap)):=D.out;clear D;go_wp2;go_loopw [3,4] (λi _ wr=>∃j:Nat,j<=c/\i=AB j/\A7 (kids.map Ap)=A7 ((kids.drop j).map Ap)/\Below (w.heap.size+1) (w.alloc (.cells #[AB k,AB e.op,AE aa d I,AE a c cap] 63)) wr) (λi _ _=>c - (intOf i).toNat);case atStart=>exact⟨0,BS,rfl,rfl,BP _ _⟩
    case round=>(obtain⟨j,hj,rfl,V,f⟩:=hrel;have M:=BZ V;clear V;have hz:w.heap.size<wr.heap.size:=by have:=f.size;simp at this;omega);have c0:wr.cell? (AL w 0)=some (AB k):=Bn f;have f0:wr.frozen? (AL w 0)=false:=Bt f;have c1:wr.cell? (AL w 1)=some (AB e.op):=Bn f;have f1:wr.frozen? (AL w 1)=false:=Bt f;have c2:wr.cell? (AL w 2)=some (AE aa d I):=Bn f;have f2:wr.frozen? (AL w 2)=false:=Bt f;have c3:wr.cell? (AL w 3)=some (AE a c cap):=Bn f;have f3:wr.frozen? (AL w 3)=false:=Bt f;have Y:=(Aa _ _).trans (f.mono BS);by_cases ar:j<c;{have F:j<kids.length:=(by have:=rM.out;omega);(obtain⟨b,o,rfl,ag,X⟩:=HC j F;have⟨x0,x1,A,E,x2,x3,z,C⟩:=(Og.below Y _ _ _ X ag).open;have G:=BZ (λW K=>IH kids[j] (DY F) A E W (z.below K) (C.below K) (HF _ (DY F)));have N:Hid (A7 ((kids.drop j).map Ap)=if 0<Ap kids[j] then Ap kids[j] else A7 ((kids.drop (j+1)).map Ap)):=by show _=_;rw[GL F,DZ];rfl);have⟨s,U⟩:=AA (Ap kids[j]);have⟨x,hx⟩:=AA (kids[j]);rw[<-U]at G N;rw[<-hx]at G x0 x1;obtain⟨an,zL,rfl,_⟩:=z;obtain⟨a',ao,rfl,_⟩:=C;clear U hx X;by_cases ai:0<s;{go_wp2_with (go_at_call 111;refine(G _ Bw).mono ?_;rintro e w2⟨rfl,ad⟩);go_ret;exact⟨Fp (by rw[ac.out,M.out,N.out,BR ai]),Bw⟩};go_wp2_with (go_at_call 111;refine(G _ Bw).mono ?_;rintro e w2⟨rfl,ad⟩);refine⟨⟨j+1,BS,by go_num,?_,f.trans (ad.mono hz)⟩,xAb⟩;rw[M.out,N.out,BQ BS]};go_wp2;go_ret;refine⟨Fp ?_,Y⟩;rw[ac.out,M.out,IU (by have:=rM.out;omega)];rfl
   rw[ab]at D;go_wp2;go_ret;exact⟨Fp (by rw[D.out];rfl),Bw⟩
def zWa {p:Prop}(h:p:=by
 show _=_;rw[hR1,HW.out,HOW.out];simp only[hpos,and_false,EL];cases Dt coils
 .simp only[E3,EL];split<;>simp
 simp):p:=h
def Auf(n:Stil.DL):∀(root:Bool)(y u B F:AW)(w:AU),Aq w y n.N.O.args->Eg w u n.N.K->F9 w B n.C->Dj w F n.K->Ba n->
  Calls prog 61 #[.agg #[AB n.N.kind,AB n.N.O.op,y,u,B,F],.bool root] w (AN w (AB (if root=true/\Aj n.N=true then 4 else Cb n))):=by
 induction n using Fz with
 |h n coils kids ih=>
  intro root y u B F w E C S V aj;simp only at E C S V;have⟨ac,aA,af,az,dA⟩:=Io aj;simp only at ac aA af az dA;have ai:=Ea ac
  have IH:Hid (∀x∈kids,∀(y u B F:AW) (w:AU),Aq w y x.N.O.args->Eg w u x.N.K->F9 w B x.C->Dj w F x.K->
   Calls prog 61 #[.agg #[AB x.N.kind,AB x.N.O.op,y,u,B,F], .bool false] w (AN w (AB (Cb x)))):=λx J y u B F w h1 h2 h3 h4=>(ih x J false y u B F w h1 h2 h3 h4 (dA x J)).mono λe w' ⟨he,hb⟩=>⟨by rw[he];simp,hb⟩
  have r:=BZ (λW q=>RO n y u W (E.below q) (C.below q) (by have:=ai.2.1.2.1;omega) (by have:=ai.2.2.1;omega));have mF:=BZ (λW q=>At9 n y u W (E.below q) (C.below q) ac);have oN:=BZ af;have aK:Hid (∀i(h:i<coils.length),∃b o,True/\b<w.heap.size/\Z8 w b (o+i*2) coils[i]/\∃cap,B=AE (some (AK b o)) coils.length cap):=by intro i hi;obtain⟨a,cap,hv,hc⟩:=S;have⟨b,o,ha,hb,J⟩:=hc i hi;exact⟨b,o,trivial,hb,J,cap,by rw[hv,ha]⟩
  obtain⟨G,L,rfl,_⟩:=E;obtain⟨K,M,rfl,_⟩:=C;obtain⟨O,I,rfl,aE⟩:=S;obtain⟨T,N,rfl,aD⟩:=V;have l7:=BZ aE;have aH:=BZ aD;have HW:Hid (Cb ⟨n,coils,kids⟩=if 0<C9 ⟨n,coils,kids⟩ then C9 ⟨n,coils,kids⟩ else A7 (kids.map Cb)):=Xm _;have HOW:Hid (C9 ⟨n,coils,kids⟩=if Aj n=false/\0<Ap n then Ap n else if Dt coils then 3 else if coils.length=0/\kids.length=0 then 5 else 0):=rfl;have aN:Hid (∀x∈kids,0<=Cb x/\Cb x<=5):=λx _=>Qw x;have aL:=Ld n;simp only;have⟨l,aF⟩:=AA (Aj n);have⟨A,ak⟩:=AA (Ap n);rw[<-aF]at r HOW⊢;rw[<-ak]at mF HOW aL;have⟨f,ah⟩:=AA coils.length;have⟨g,ag⟩:=AA kids.length;have uT:=BZ ah;have rM:=BZ ag;rw[<-ah]at aA HOW⊢;rw[<-ag]at az HOW⊢;clear ih aj ac af dA aE aD ai aF ak ah ag aK;have⟨R,k⟩:=AA ((if root=true/\l=true then 4 else Cb ⟨n,coils,kids⟩));rw[<-k];have aI:(root=true/\l=true)\/(root=true/\l=false/\0<A)\/(root=false/\l=false/\0<A)\/(root=false/\l=false/\¬0<A)\/(root=false/\l=true)\/(root=true/\l=false/\¬0<A):=by cases root<;>cases l<;>by_cases h:0<A<;>simp[h]
  rcases aI with⟨rfl,rfl⟩|⟨rfl,rfl,hpos⟩|⟨rfl,rfl,hpos⟩|⟨hr,D,hpos⟩|⟨hr,D⟩|⟨hr,D,hpos⟩;{have HX:Hid (R=4):=(by show _=_;rw[k];simp);clear k;go_enter func61,ntmps61;go_wp2_with(go_at_call 110;refine(r _ BV).mono ?_;rintro e X⟨rfl,d⟩);go_ret;exact⟨Fp C7,BV⟩};{have hR1:R=Cb ⟨n,coils,kids⟩:=(by rw[k];simp);(clear k;have kE:=r;have HX:Hid (R=A):=by show _=_;rw[hR1,HW.out,HOW.out];simp[hpos]);clear hR1;go_enter func61,ntmps61;go_wp2_with(first|(go_at_call 110;refine(r _ BV).mono ?_;clear r;rintro e w0⟨rfl,t⟩;have⟨an,ax⟩:=F7 t;have au:w.heap.size<w0.heap.size:=DO BU t.size)|(go_at_call 110;refine(kE _ BV).mono ?_;rintro e X⟨rfl,d⟩;have⟨Q,U⟩:=F7 d)|(go_at_call 111;refine(mF _ BV).mono ?_;rintro e w2⟨rfl,P⟩));go_ret;exact⟨Fp C7,BV⟩};{have hR1:R=Cb ⟨n,coils,kids⟩:=(by rw[k];simp);(clear k;have HX:Hid (R=A):=by show _=_;rw[hR1,HW.out,HOW.out];simp[hpos]);clear hR1;go_enter func61,ntmps61;go_wp2_with(first|(go_at_call 110;refine(r _ BV).mono ?_;rintro e X⟨rfl,d⟩;have⟨Q,U⟩:=F7 d)|(go_at_call 111;refine(mF _ BV).mono ?_;rintro e w2⟨rfl,P⟩));go_ret;exact⟨Fp C7,BV⟩};all_goals first
   | (
     obtain rfl:root=false:=hr;obtain rfl:l=false:=D;have hR1:R=Cb ⟨n,coils,kids⟩:=by rw[k];simp
     clear k;have Z:Hid (R=if Dt coils then 3 else if f=0/\g=0 then 5 else A7 (kids.map Cb)):=by
      exact zWa
     clear hR1;go_enter func61,ntmps61
     go_wp2_with(first|(go_at_call 110;refine(r _ BV).mono ?_;rintro e X⟨rfl,d⟩;have⟨Q,U⟩:=F7 d)|(go_at_call 111;refine(mF _ BV).mono ?_;rintro e w2⟨rfl,P⟩))
     have ad:Below (w.heap.size+1) (w.alloc (.cells #[AB n.kind,AB n.O.op,AE G n.O.args.length L,AE K n.K.length M,AE O f I,AE T g N] 66)) w2:=by
      have h1:=d.size;simp only[BG]at d h1;exact d.trans (P.mono h1)
     clear d P Q U)
   | (
     obtain rfl:root=false:=hr;obtain rfl:l=true:=D;have hR1:R=Cb ⟨n,coils,kids⟩:=by rw[k];simp
     clear k;have Z:Hid (R=if Dt coils then 3 else if f=0/\g=0 then 5 else A7 (kids.map Cb)):=by
      show _=_
      rw[hR1,HW.out,HOW.out];simp only[Bool.true_eq_false,false_and,EL];cases Dt coils
      .simp only[E3,EL]
       split<;>simp
      .simp
     clear hR1;go_enter func61,ntmps61
     go_wp2_with(go_at_call 110;refine(r _ BV).mono ?_;rintro e X⟨rfl,d⟩;have⟨Q,U⟩:=F7 d)
     have ad:Below (w.heap.size+1) (w.alloc (.cells #[AB n.kind,AB n.O.op,AE G n.O.args.length L,AE K n.K.length M,AE O f I,AE T g N] 66)) X:=xBt
     clear d Q U)
   | (
     obtain rfl:root=true:=hr;obtain rfl:l=false:=D;have hR1:R=Cb ⟨n,coils,kids⟩:=by rw[k];simp
     clear k;have kE:=r;have Z:Hid (R=if Dt coils then 3 else if f=0/\g=0 then 5 else A7 (kids.map Cb)):=by
      exact zWa
     clear hR1;go_enter func61,ntmps61
     go_wp2_with(first|(go_at_call 110;refine(r _ BV).mono ?_;clear r;rintro e w0⟨rfl,t⟩;have⟨an,ax⟩:=F7 t;have au:w.heap.size<w0.heap.size:=DO BU t.size)|(go_at_call 110;refine(kE _ BV).mono ?_;rintro e X⟨rfl,d⟩;have⟨Q,U⟩:=F7 d)|(go_at_call 111;refine(mF _ BV).mono ?_;rintro e w2⟨rfl,P⟩))
     have ad:Below (w.heap.size+1) (w.alloc (.cells #[AB n.kind,AB n.O.op,AE G n.O.args.length L,AE K n.K.length M,AE O f I,AE T g N] 66)) w2:=by
      have h0:=t.size;have h1:=d.size;simp only[BG]at t h0;exact(t.trans (d.mono h0)).trans (P.mono (DU h0 h1))
     clear t an ax d P Q U au)
  all_goals
   go_loopw [6] (λi wr=>∃m:Nat,m<=f/\i=AB m/\Dt coils=Dt (coils.drop m)/\Below (w.heap.size+1) (w.alloc (.cells #[AB n.kind,AB n.O.op,AE G n.O.args.length L,AE K n.K.length M,AE O f I,AE T g N] 66)) wr) (λi _=>f - (intOf i).toNat);case atStart=>exact⟨0,BS,rfl,rfl,ad⟩
   case round=>
    clear ad;obtain⟨m,hm,rfl,aC,c⟩:=hrel;have jC:=BZ aC;clear aC;have hz:w.heap.size<wr.heap.size:=xAj;have c0:wr.cell? (AL w 0)=some (AB n.kind):=Bn c;have f0:wr.frozen? (AL w 0)=false:=Bt c;have c1:wr.cell? (AL w 1)=some (AB n.O.op):=Bn c;have f1:wr.frozen? (AL w 1)=false:=Bt c;have c2:wr.cell? (AL w 2)=some (AE G n.O.args.length L):=Bn c;have f2:wr.frozen? (AL w 2)=false:=Bt c;have c3:wr.cell? (AL w 3)=some (AE K n.K.length M):=Bn c;have f3:wr.frozen? (AL w 3)=false:=Bt c;have c4:wr.cell? (AL w 4)=some (AE O f I):=Bn c;have f4:wr.frozen? (AL w 4)=false:=Bt c;have c5:wr.cell? (AL w 5)=some (AE T g N):=Bn c;have f5:wr.frozen? (AL w 5)=false:=Bt c;have Y:=(Aa _ _).trans (c.mono BS);by_cases aM:m<f;{have H:m<coils.length:=(by have:=uT.out;omega);(obtain⟨b,o,rfl,ae,ar⟩:=l7 m H;have⟨x0,zK,x1,jG⟩:=ar.below Y ae;have fH:=oN _ (DY H);have z:=BZ (λW q=>dx coils[m].op zK coils[m].args W (jG.below q) fH.2.2 (by have:=fH.2.1;omega));have HD:Hid (Dt coils=(!Gi coils[m].op coils[m].args || Dt (coils.drop (m+1)))):=by show _=_;rw[jC.out,Xi _ _ H]);have⟨ic,ay⟩:=AA (Gi coils[m].op coils[m].args);rw[<-ay]at z HD;have⟨aB,hy⟩:=AA (coils[m]);rw[<-hy]at z x0;obtain⟨t1,t2,f1,_⟩:=jG;rw[<-hy]at f1;subst f1;clear ay hy ar fH jC;cases ic;{have HX:Hid (R=3):=(by show _=_;rw[Z.out,HD.out];rfl);go_wp2_with(go_at_call 112;refine(z _ BV).mono ?_;rintro e w3⟨rfl,al⟩);go_ret;exact⟨Fp C7,BV⟩};have HX:Hid (Dt coils=Dt (coils.drop (m+1))):=(by show _=_;rw[HD.out];rfl);go_wp2_with(go_at_call 112;refine(z _ BV).mono ?_;rintro e w3⟨rfl,al⟩);exact⟨⟨m+1,BS,by go_num,HX.out,c.trans (al.mono hz)⟩,xAb⟩};have aw:Dt coils=false:=(by rw[jC.out,IU (by have:=uT.out;omega)];rfl);have aa:Hid (R=if f=0/\g=0 then 5 else A7 (kids.map Cb)):=(by show _=_;rw[Z.out,aw];rfl);clear aw jC Z;obtain⟨t,d⟩:True/\True:=⟨trivial,trivial⟩;by_cases ab:f=0/\g=0;{have HX:Hid (R=5):=(by show _=_;rw[aa.out,BR ab]);obtain⟨rfl,rfl⟩:=ab;clear aa;go_wp2;go_ret;exact⟨Fp C7,BV⟩};have HX:Hid (R=A7 (kids.map Cb)):=(by show _=_;rw[aa.out,BQ ab]);(clear aa;have aJ:((f:Int)==0)=false\/((g:Int)==0)=false:=by by_cases h:f=0;{right;rw[DX];omega};left;rw[DX];omega);clear ab;rcases aJ with hq|hq<;>go_wp2
    all_goals (
     go_loopw [7] (λi wq=>∃j:Nat,j<=g/\i=AB j/\A7 (kids.map Cb)=A7 ((kids.drop j).map Cb)/\Below (w.heap.size+1) (w.alloc (.cells #[AB n.kind,AB n.O.op,AE G n.O.args.length L,AE K n.K.length M,AE O f I,AE T g N] 66)) wq) (λi _=>g - (intOf i).toNat)
     case atStart=>exact⟨0,BS,rfl,rfl,c⟩
     case round=>
      clear c0 c1 c2 c3 c4 c5 f0 f1 f2 f3 f4 f5 hz c Y;obtain⟨j,hj,rfl,ap,c⟩:=hrel;have HP:=BZ ap;clear ap;have hz:w.heap.size<wr.heap.size:=xAj
      have c0:wr.cell? (AL w 0)=some (AB n.kind):=Bn c;have f0:wr.frozen? (AL w 0)=false:=Bt c;have c1:wr.cell? (AL w 1)=some (AB n.O.op):=Bn c;have f1:wr.frozen? (AL w 1)=false:=Bt c;have c2:wr.cell? (AL w 2)=some (AE G n.O.args.length L):=Bn c;have f2:wr.frozen? (AL w 2)=false:=Bt c;have c3:wr.cell? (AL w 3)=some (AE K n.K.length M):=Bn c;have f3:wr.frozen? (AL w 3)=false:=Bt c;have c4:wr.cell? (AL w 4)=some (AE O f I):=Bn c;have f4:wr.frozen? (AL w 4)=false:=Bt c;have c5:wr.cell? (AL w 5)=some (AE T g N):=Bn c;have f5:wr.frozen? (AL w 5)=false:=Bt c;have Y:=(Aa _ _).trans (c.mono BS);by_cases aM:j<g
      .have H:j<kids.length:=by have:=rM.out;omega
       obtain⟨b,o,rfl,ae,D⟩:=aH j H;have⟨ao,xP,xO,x4,x5,S,V⟩:=(Pg.below Y _ _ _ D ae).open;have⟨x0,x1,mM,xN,x2,x3,E,C⟩:=ao.open;have z:=BZ (λW q=>IH kids[j] (DY H) mM xN xP xO W (E.below q) (C.below q) (S.below q) (V.below q));have HS:Hid (A7 ((kids.drop j).map Cb)=if 0<Cb kids[j] then Cb kids[j] else A7 ((kids.drop (j+1)).map Cb)):=by
        show _=_
        rw[GL H,DZ];rfl
       have⟨s,hs⟩:=AA (Cb kids[j])
       have⟨x,J⟩:=AA (kids[j])
       rw[<-hs]at z HS;rw[<-J]at z x0 x1 E C S V;obtain⟨t0,u0,rfl,_⟩:=E;obtain⟨t1,u1,rfl,_⟩:=C;obtain⟨t2,u2,rfl,_⟩:=S;obtain⟨t3,u3,rfl,_⟩:=V;clear hs J D ao;by_cases hpos:0<s
       .go_wp2_with (go_at_call 61;refine(z _ BV).mono ?_;rintro e w4⟨rfl,aG⟩)
        go_ret;exact⟨Fp (by rw[HX.out,HP.out,HS.out,BR hpos]),BV⟩
       .go_wp2_with (go_at_call 61;refine(z _ BV).mono ?_;rintro e w4⟨rfl,aG⟩)
        refine⟨⟨j+1,BS,by go_num,?_,c.trans (aG.mono hz)⟩,xAb⟩;rw[HP.out,HS.out,BQ BS]
      .go_wp2
       go_ret;refine⟨Fp ?_,Y⟩
       rw[HX.out,HP.out,IU (by have:=rM.out;omega)];rfl)
def xT(n:Stil.DL)(c d b f:AW)(w:AU)(k:Aq w c n.N.O.args)(i:Eg w d n.N.K)(m:F9 w b n.C)(l:Dj w f n.K)(h:Ba n):
  Calls prog 61 #[.agg #[AB n.N.kind,AB n.N.O.op,c,d,b,f],.bool true] w (AN w (AB (Fv n))):=
 (Auf n true c d b f w k i m l h).mo λe g⟨j,o⟩=>⟨by rw[j];simp[Fv],o⟩
def QA(l:Ek)(L:AW)(w:AU)(m:Dj w L l)(hl:l.length<=1048576)(V:Aw l<=1000000000)(E:∀x∈l,Ba x):
  Calls prog 26 #[L] w (AN w (.agg #[AB (Am l).1,AB (Am l).2])):=by
 have y:=BZ (λW t=>YX l L W (m.below t) V E);have HF:=BZ E;obtain⟨a,cap,rfl,M⟩:=m;have HC:=BZ M;have⟨g,A⟩:=AA l.length;have⟨z,d⟩:=AA (Aw l);have dQ:=BZ A;have u:Hid (Am l=if 40<g\/400<z then(1,0) else Es l 0):=by show _=_;rw[A,d];rfl
 rw[<-A]at hl y⊢;rw[<-d]at y V;have⟨R,T⟩:=AA (Am l);rw[<-T]at u⊢;clear M E A d T;by_cases h1:40<g
 .have c:Hid (R=(1,0)):=by show _=_;rw[u.out,BR (.inl h1)]
  go_enter func26,ntmps26;go_wp2;refine BH (v:=.agg #[AB 1,AB 0]) (by simp[results,results26,go_sem]) rfl ⟨by rw[c.out];rfl,BV⟩
 by_cases h2:400<z
 .have c:Hid (R=(1,0)):=by show _=_;rw[u.out,BR (.inr h2)]
  go_enter func26,ntmps26;go_wp2_with(go_at_call 55;refine(y _ BV).mo ?_;rintro e r⟨rfl,k⟩;have H:r.c (AL w 0)=some (AB 0):=(Bn k);have J:r.c (AL w 1)=some (AB 0):=(Bn k);have k0:r.f (AL w 0)=false:=(Bt k);have k1:r.f (AL w 1)=false:=(Bt k));refine BH (v:=.agg #[AB 1,AB 0]) (by simp[results,results26,go_sem,H,J]) rfl ⟨by rw[c.out];rfl,BV⟩
 have c:Hid (R=Es l 0):=by show _=_;rw[u.out,BQ BS]
 clear u;go_enter func26,ntmps26;go_wp2_with(go_at_call 55;refine(y _ BV).mo ?_;rintro e r⟨rfl,k⟩);have Z:Below (w.heap.size+1) (w.alloc (.cells #[AB 0,AB 0] 38)) r:=by simpa using k
 clear k;go_loopw [3] (λi wr=>∃j:Nat,j<=g/\i=AB j/\R=Es (l.drop j) j/\Below (w.heap.size+1) (w.alloc (.cells #[AB 0,AB 0] 38)) wr) (λi _=>g - (intOf i).toNat);case atStart=>exact⟨0,BS,rfl,by rw[c.out];rfl,Z⟩
 case round=>
  clear Z c;obtain⟨j,hj,rfl,S,f⟩:=hrel;have D:=BZ S;clear S;have d:w.heap.size<wr.heap.size:=by have:=f.size;simp at this;omega
  have U:wr.c (AL w 0)=some (AB 0):=Bn f;have f0:wr.f (AL w 0)=false:=Bt f;have Y:wr.c (AL w 1)=some (AB 0):=Bn f;have f1:wr.f (AL w 1)=false:=Bt f;have ab:=(Aa _ _).tr (f.mo BS);by_cases ad:j<g;{have F:j<l.length:=(by have:=dQ.out;omega);(obtain⟨b,o,rfl,aa,P⟩:=HC j F;have⟨N,xP,xO,x4,x5,K,m⟩:=(Pg.below ab _ _ _ P aa).open;have⟨x0,x1,mM,xN,x2,x3,I,C⟩:=N.open;have B:=BZ (λW t=>xT l[j] mM xN xP xO W (I.below t) (C.below t) (K.below t) (m.below t) (HF _ (DY F)));have G:Hid (R=if 0<Fv l[j] then(Fv l[j],j) else Es (l.drop (j+1)) (j+1)):=by show _=_;rw[D.out,Zt l j F]);have ac:=Tt l[j];have⟨s,O⟩:=AA (Fv l[j]);have⟨x,Q⟩:=AA (l[j]);rw[<-O]at B G ac;rw[<-Q]at B x0 x1 I C K m;obtain⟨t0,u0,rfl,_⟩:=I;obtain⟨t1,u1,rfl,_⟩:=C;obtain⟨t2,u2,rfl,_⟩:=K;obtain⟨t3,u3,rfl,_⟩:=m;clear O Q P N D;by_cases X:0<s;{have c:Hid (R=(s,j)):=(by show _=_;rw[G.out,BR X]);go_wp2_with(go_at_call 61;refine(B _ BV).mo ?_;rintro e w4⟨rfl,q⟩;have H:=(q.cell (p:=(AL w 0)) d).tr U;have J:=(q.cell (p:=(AL w 1)) d).tr Y;have k0:=(q.frozen (p:=(AL w 0)) d).tr f0;have k1:=(q.frozen (p:=(AL w 1)) d).tr f1);refine BH (v:=.agg #[AB s,AB j]) (by simp[results,results26,go_sem,H,J]) rfl ⟨by rw[c.out],BV⟩};have c:Hid (R=Es (l.drop (j+1)) (j+1)):=(by show _=_;rw[G.out,BQ X]);go_wp2_with(go_at_call 61;refine(B _ BV).mo ?_;rintro e w4⟨rfl,q⟩);exact⟨⟨j+1,BS,by go_num,c.out,f.tr (q.mo d)⟩,xAb⟩};have c:Hid (R=(0,0)):=by show _=_;rw[D.out,IU yDf];rfl
  go_wp2;refine BH (v:=.agg #[AB 0,AB 0]) (by simp[results,results26,go_sem,U,Y]) rfl ⟨by rw[c.out];rfl,BV⟩
def Bau{op:Int}(b:op=21\/op=21\/op=21\/op=22\/op=23\/op=24\/op=25\/op=26\/op=26\/op=27\/op=28\/op=29\/op=29\/op=30\/op=31\/op=31\/op=32\/op=33\/op=34\/op=35\/op=36\/op=37)
  (h1:(op==21)=false) (f:(op==22)=false) (i:(op==23)=false) (e:(op==24)=false) (k:(op==25)=false) (j:(op==26)=false) (m:(op==27)=false) (h:(op==28)=false) (g:(op==29)=false) (c:(op==36)=false) (l:(op==37)=false) (d:¬op=30):Stil.arity op=3:=by simp only[DX] at*;rcases b with rfl|rfl|rfl|rfl|rfl|rfl|rfl|rfl|rfl|rfl|rfl|rfl|rfl|rfl|rfl|rfl|rfl|rfl|rfl|rfl|rfl|rfl;all_goals first|rfl|(exfalso;omega)
def zb {p:Prop}(h:p:=by
 go_region_with(go_at_call 88;refine(Pi g _ _ _ B7 BS BS BS).mo ?_;rintro e w6⟨a1,rfl,h1,hrd,hgr⟩;obtain⟨hz0,q0,p0,q1,p1⟩:QbE w6 w.heap.size:=qbE;obtain⟨hz1,q2,p2,q3,p3,q4,p4⟩:QbD w6 wa.heap.size d:=qbD;obtain⟨hz2,q5,p5,q6,p6,q7,p7⟩:QbD w6 wb.heap.size f2:=qbD);all_goals go_wp2
 all_goals refine BH (by simp[results,results43,go_sem,q0,q1,hz0];rfl) rfl ?_;exact⟨_,_,[a1,f2],rfl,BS,Nb [a1,f2] _ BU BS rfl BU,all2 h1 hf2,BU,CC,B0⟩):p:=h
def zd0{p:Prop}(h:p:=by refine BH (by simp[results,results43,go_sem,q0,q1,hz0];rfl) rfl ?_;exact⟨_,_,[a1,a2,a3],rfl,BS,Nb [a1,a2,a3] _ BU BS rfl BU,Baw h1 h2 h3,BU,CC,B0⟩):p:=h
def zf0{p:Prop}(h:p:=by refine BH (by simp[results,results43,go_sem,q0,q1,hz0];rfl) rfl ?_;exact⟨_,_,[a1],rfl,BS,Nb [a1] _ BU BS rfl BU,all1 h1,BU,CC,B0⟩):p:=h
def zl0{p:Prop}(h:p:=by refine BH (by simp[results,results43,go_sem,q0,q1,hz0];rfl) rfl ?_;exact⟨_,_,[a1,a2],rfl,BS,Nb [a1,a2] _ BU BS rfl BU,all2 h1 h2,BU,CC,B0⟩):p:=h
def Qp(g P:Nat)(w:AU)(hr:Kw w g P)(J:P<=1000000000):
  Calls prog 43 #[AH g] w λe G=>LX e w G g (P+40) 3:=by
 have K:=Je hr;go_enter func43,ntmps43;go_upto_if 20 with(first|(go_at_call_of 44 (22:Nat);refine(X3 g _ _ _ [21,21,21,22,23,24,25,26,26,27,28,29,29,30,31,31,32,33,34,35,36,37] _ B7 BS (Dh xAf) BU CY BU BU).mo ?_;rintro e E⟨op,rfl,u,hrd,hgr⟩;simp only[EN,FK,FM]at u;obtain⟨hz0,q0,p0,q1,p1⟩:QbE E w.heap.size:=qbE)|(go_at_call_of 15 (Value.int IntKind.i64 2);refine(E8 g _ _ _ B7 BS BS BS).mo ?_;rintro e F⟨x,rfl,l,m,hrd,hgr⟩;obtain⟨hz0,q0,p0,q1,p1⟩:QbE F w.heap.size:=qbE)|(have _:=s;(go_at_call 88;refine(Pi g _ _ _ B7 BS BS BS).mo ?_;rintro e wb⟨f,rfl,y,hrd,hgr⟩;obtain⟨hz0,q0,p0,q1,p1⟩:QbE wb w.heap.size:=qbE;obtain⟨hz1,q2,p2,q3,p3,q4,p4⟩:QbD wb wa.heap.size d:=qbD))|(go_at_call 88;refine(Pi g _ _ _ B7 BS BS BS).mo ?_;rintro e wa⟨d,rfl,s,hrd,hgr⟩;obtain⟨hz0,q0,p0,q1,p1⟩:QbE wa w.heap.size:=qbE));go_cut [] (λwc=>∃f2:Stil.DR,Small f2/\Kw wc g (P+20)/\w.grownBy wc (some g)/\Zk wc w.heap.size 0 AG/\Jx wc wa.heap.size d/\Jx wc wb.heap.size f2);case first=>go_wp2_with(go_at_call_of 15 (Value.int IntKind.i64 9);refine(E8 g _ _ _ B7 BS BS BS).mo ?_;rintro e q⟨x,rfl,l,m,hrd,hgr⟩;obtain⟨hz0,q0,p0,q1,p1⟩:QbE q w.heap.size:=qbE;obtain⟨hz1,q2,p2,q3,p3,q4,p4⟩:QbD q wa.heap.size d:=qbD;obtain⟨hz2,q5,p5,q6,p6,q7,p7⟩:QbD q wb.heap.size f:=qbD);{go_meet;exact⟨⟨f.kind,x,f.p⟩,⟨y.1,⟨yCi,yCi⟩,y.2.2⟩,CC,B0,CP,CZ,CZ⟩};go_meet;exact⟨f,y,CC,B0,CP,CZ,CZ⟩
 case rest=>clear q0 q1 q2 q3 q4 p0 p1 p2 p3 p4 hrd;obtain⟨f2,hf2,hrd,I,⟨hz0,q0,q1,p0,p1⟩,⟨hz1,q2,q3,q4,p2,p3,p4⟩,⟨hz2,q5,q6,q7,p5,p6,p7⟩⟩:=hcut;have H:21<=op/\op<=37:=BS;have C:=BZ u;clear u;by_cases B:op=30;{subst B;go_wp2_with(first|(go_at_call_of 15 (Value.int IntKind.i64 3);refine(E8 g _ _ _ B7 BS BS BS).mo ?_;rintro e w3⟨x,rfl,l,m,hrd,hgr⟩;obtain⟨hz0,q0,p0,q1,p1⟩:QbE w3 w.heap.size:=qbE)|(go_at_call_of 15 (Value.int IntKind.i64 2);refine(E8 g _ _ _ B7 BS BS BS).mo ?_;rintro e t⟨x,rfl,l,m,hrd,hgr⟩;obtain⟨hz0,q0,p0,q1,p1⟩:QbE t w.heap.size:=qbE)|(go_at_call_of 44 (5:Nat);refine(X3 g _ _ _ [2,3,4,7,8] _ B7 BS (Dh xAf) BU CY BU BU).mo ?_;rintro e A⟨x,rfl,z,hrd,hgr⟩;simp only[EN,FK,FM]at z;obtain⟨hz0,q0,p0,q1,p1⟩:QbE A w.heap.size:=qbE)|(have _:=h2;(go_at_call 89;refine(Vk g _ _ B7 BS).mo ?_;rintro e j⟨a3,rfl,h3,hrd,hgr⟩;obtain⟨hz0,q0,p0,q1,p1⟩:QbE j w.heap.size:=qbE))|(have _:=h2;(go_at_call 90;refine(Y3 g _ _ B7 BS).mo ?_;rintro e j⟨a3,rfl,h3,hrd,hgr⟩;obtain⟨hz0,q0,p0,q1,p1⟩:QbE j w.heap.size:=qbE))|(have _:=h1;(go_at_call 89;refine(Vk g _ _ B7 BS).mo ?_;rintro e c⟨a2,rfl,h2,hrd,hgr⟩;obtain⟨hz0,q0,p0,q1,p1⟩:QbE c w.heap.size:=qbE))|(have _:=h1;(go_at_call 90;refine(Y3 g _ _ B7 BS).mo ?_;rintro e c⟨a2,rfl,h2,hrd,hgr⟩;obtain⟨hz0,q0,p0,q1,p1⟩:QbE c w.heap.size:=qbE))|(go_at_call 88;refine(Pi g _ _ _ B7 BS BS BS).mo ?_;rintro e w6⟨a1,rfl,h1,hrd,hgr⟩;obtain⟨hz0,q0,p0,q1,p1⟩:QbE w6 w.heap.size:=qbE)|(go_at_call 91;refine(Ju _ _).mo ?_;rw[show Stil.arity 30=2 from rfl];rintro e D⟨rfl,rfl⟩));all_goals refine BH xAt rfl ?_;exact⟨_,_,[a1,a2],rfl,BS,oe 2 (Nb [a1,a2,a3] _ BU BS rfl BU) BU,all2 h1 h2,BU,CC,B0⟩};go_wp2_with (first|(go_at_call_of 15 (Value.int IntKind.i64 3);refine(E8 g _ _ _ B7 BS BS BS).mo ?_;rintro e w3⟨x,rfl,l,m,hrd,hgr⟩;obtain⟨hz0,q0,p0,q1,p1⟩:QbE w3 w.heap.size:=qbE)|(go_at_call_of 15 (Value.int IntKind.i64 2);refine(E8 g _ _ _ B7 BS BS BS).mo ?_;rintro e t⟨x,rfl,l,m,hrd,hgr⟩;obtain⟨hz0,q0,p0,q1,p1⟩:QbE t w.heap.size:=qbE)|(go_at_call_of 44 (5:Nat);refine(X3 g _ _ _ [2,3,4,7,8] _ B7 BS (Dh xAf) BU CY BU BU).mo ?_;rintro e A⟨x,rfl,z,hrd,hgr⟩;simp only[EN,FK,FM]at z;obtain⟨hz0,q0,p0,q1,p1⟩:QbE A w.heap.size:=qbE)|(have _:=h2;(go_at_call 89;refine(Vk g _ _ B7 BS).mo ?_;rintro e j⟨a3,rfl,h3,hrd,hgr⟩;obtain⟨hz0,q0,p0,q1,p1⟩:QbE j w.heap.size:=qbE))|(have _:=h2;(go_at_call 90;refine(Y3 g _ _ B7 BS).mo ?_;rintro e j⟨a3,rfl,h3,hrd,hgr⟩;obtain⟨hz0,q0,p0,q1,p1⟩:QbE j w.heap.size:=qbE))|(have _:=h1;(go_at_call 89;refine(Vk g _ _ B7 BS).mo ?_;rintro e c⟨a2,rfl,h2,hrd,hgr⟩;obtain⟨hz0,q0,p0,q1,p1⟩:QbE c w.heap.size:=qbE))|(have _:=h1;(go_at_call 90;refine(Y3 g _ _ B7 BS).mo ?_;rintro e c⟨a2,rfl,h2,hrd,hgr⟩;obtain⟨hz0,q0,p0,q1,p1⟩:QbE c w.heap.size:=qbE))|(go_at_call 88;refine(Pi g _ _ _ B7 BS BS BS).mo ?_;rintro e w6⟨a1,rfl,h1,hrd,hgr⟩;obtain⟨hz0,q0,p0,q1,p1⟩:QbE w6 w.heap.size:=qbE)|(go_at_call 91;refine(Ju _ _).mo ?_;(first|rw[show Stil.arity 35=3 from rfl]|rw[Bau C.out CB CB CB CB CB CB CB CB CB CB CB B]);rintro e D⟨rfl,rfl⟩));{refine BH xAt rfl ?_;exact⟨_,_,[d],rfl,BS,Nb [d] _ BU BS rfl BU,all1 s,BU,CC,B0⟩};{exact zf0};{exact zf0};{go_region_with (go_at_call 88;refine(Pi g _ _ _ B7 BS BS BS).mo ?_;rintro e w6⟨a1,rfl,h1,hrd,hgr⟩;obtain⟨hz0,q0,p0,q1,p1⟩:QbE w6 w.heap.size:=qbE;obtain⟨hz1,q2,p2,q3,p3,q4,p4⟩:QbD w6 wa.heap.size d:=qbD;obtain⟨hz2,q5,p5,q6,p6,q7,p7⟩:QbD w6 wb.heap.size f2:=qbD);(all_goals go_wp2);all_goals refine BH xAt rfl ?_;exact⟨_,_,[d,a1],rfl,BS,Nb [d,a1] _ BU BS rfl BU,all2 s h1,BU,CC,B0⟩};{exact zf0};{exact zb};{exact zb};{exact zb};{exact zb};{exact zl0};{exact zl0};{exact zd0};{exact zd0};exact zd0
def OD:List (List UInt8 × Nat × Γ × Γ):=
  [([],0,[],[]),
   ([],213,[214],[]),
   ([47],213,[214],[]),
   ([43],213,[214,215],[]),
   ([45],213,[214,215],[]),
   ([60],216,[207,207],[208,208]),
   ([60,61],216,[207,207],[208,208]),
   ([61],216,[207,207],[208,208]),
   ([60,62],216,[207,207],[208,208]),
   ([62,61],216,[207,207],[208,208]),
   ([62],216,[207,207],[208,208]),
   ([],0,[],[]),
   ([],0,[],[]),
   ([],0,[],[]),
   ([],0,[],[]),
   ([],0,[],[]),
   ([],0,[],[]),
   ([],0,[],[]),
   ([],0,[],[]),
   ([],0,[],[]),
   ([],0,[],[]),
   ([111,117,116],217,[218],[]),
   ([115,101,116],217,[219],[]),
   ([114,101,115,101,116],217,[220],[]),
   ([112,117,108,115,101],217,[218,215],[]),
   ([115,116,101,112],217,[221],[]),
   ([116,105,109,101,114],217,[209,210],[]),
   ([104,111,108,100],217,[209,210],[]),
   ([108,97,116,101],217,[209,210],[]),
   ([99,111,117,110,116],217,[222,210],[]),
   ([109,111,118,101],217,[211,207],[212,208]),
   ([97,100,100],217,[211,207,207],[212,208,208]),
   ([115,117,98],217,[211,207,207],[212,208,208]),
   ([109,117,108],217,[211,207,207],[212,208,208]),
   ([100,105,118],217,[211,207,207],[212,208,208]),
   ([114,101,109],217,[211,207,207],[]),
   ([114,101,97,108],217,[212,207],[]),
   ([119,104,111,108,101],217,[211,208],[])]
def fnv(n:Nat):AW:=if n=0 then .nilFunc else .func (.func n) #[] #[]
def Qr(r:List UInt8 × Nat × Γ × Γ):Θ:=
  [.string ⟨r.1.toArray⟩,fnv r.2.1,fnv (r.2.2.1.getD 0 0),fnv (r.2.2.1.getD 1 0),fnv (r.2.2.1.getD 2 0),fnv (r.2.2.2.getD 0 0),fnv (r.2.2.2.getD 1 0),fnv (r.2.2.2.getD 2 0)]
def Kr:Θ:=OD.flatMap Qr
def QU{P:AY}{g:Nat}{t:AZ}{vs tgt:Θ}{cur:δ}{w:AU}{α:Type}(f:Unit->World->Result α)(hvs:vs=tgt)(hg:w.heap[g]?=some (.cells cur t (0,0)))(hl:tgt.length=cur.size)(h1:tgt.all (·.oneCell')=true):
    ((storeCells (AK g 0) vs 0).run P w).andThen f=f () (w.setRow g tgt.toArray):=by subst hvs;rw[run_storeCells_from (P:=P) g t vs 0 cur w hg BS (λv b=>List.all_eq_true.1 h1 v b)];simp[Result.andThen]
def XV(w:AU)(o1 o2 o3 o4:Obj):((((w.alloc o1).alloc o2).alloc o3).alloc o4).heap[w.heap.size]?=some o1:=by show((((w.heap.push o1).push o2).push o3).push o4)[w.z]?=_;simp[Array.getElem?_push];rw[BQ BS,BQ BS]
def UL(w:AU):
    Calls prog 205 #[] w (AN w (.agg Kr.toArray)):=by
 go_enter func205,ntmps205;go_wp2;rw[QU (tgt:=Kr) (cur:=Tryz.zeroCells243) (t:=243)];case hvs=>kernel_rfl
 case hl=>kernel_rfl
 case h1=>kernel_rfl
 case hg=>exact XV _ _ _ _ _
 have⟨W,b⟩:=AA ((((w.alloc (Obj.cells Tryz.zeroCells243 243)).alloc (Obj.cells #[.func (.func 207) #[] #[],.func (.func 207) #[] #[],.nilFunc,.func (.func 208) #[] #[],.func (.func 208) #[] #[],.nilFunc] 237)).alloc (Obj.cells #[.func (.func 209) #[] #[],.func (.func 210) #[] #[],.nilFunc,.nilFunc,.nilFunc,.nilFunc] 237)).alloc (Obj.cells #[.func (.func 211) #[] #[],.func (.func 207) #[] #[],.func (.func 207) #[] #[],.func (.func 212) #[] #[],.func (.func 208) #[] #[],.func (.func 208) #[] #[]] 237));have hg:W.heap[w.z]?=some (.cells Tryz.zeroCells243 243 (0,0)):=by rw[b];exact XV _ _ _ _ _
 have f:AO w W:=by rw[b];(repeat(first|exact BP _ _|assumption|refine Bi ?_ _|refine P5 ?_ _|refine Ud ?_|refine Ie ?_ _ _|refine Rj (DN _) ?_ _|refine Bf ?_ CB))
 rw[<-b];clear b;have d:(loadVar 243 (AL w 0)).run prog (W.setRow w.z Kr.toArray)=.ok (.agg Kr.toArray) (W.setRow w.z Kr.toArray):=
   run_loadVar_row _ _ _ 243 _ (0,0) _ (setRow_heap _ _ _ _ _ _ hg) underlying243 rfl BW
 have c:AO w (W.setRow w.z Kr.toArray):=below_setRow f (DN _) _;generalize W.setRow w.z Kr.toArray=V at d c⊢;rw[Oper.upon_skip];go_wp2;refine BH (v:=.agg Kr.toArray) (by simp[results,results205,Act.put,asAddr,d]) rfl ⟨rfl,c⟩
variable {a:Nat}{op:Int}
def lO:Kr.length=304:=BW
theorem VN:∀(l:List (List UInt8 × Nat × Γ × Γ))(m j:Nat),j<8->(l.flatMap Qr)[m*8+j]?=(l[m]?).bind (λr=>(Qr r)[j]?)
 |[],m,j,_=>by simp
 |r::l,m,j,b=>by
  rw[List.flatMap_cons];cases m with
  |zero=>rw[LR (by simp[Qr];omega)];simp
  |succ k=>
   rw[IG (by simp[Qr];omega)];have:=VN l k j b
   rw[show(k+1)*8+j - (Qr r).length=k*8+j from by simp[Qr];omega];simpa using this
def rowOf(op:Int):List UInt8 × Nat × Γ × Γ:=if 0<=op/\op<38 then OD.getD op.toNat ([],0,[],[]) else([],0,[],[])
theorem Ayt(W:AU)(t:AZ)(m j:Nat)(d:m<38)(c:j<8):(W.alloc (.cells Kr.toArray t)).cell? (AL W (m*8+j))=(Qr (rowOf m))[j]?:=by
 have b:(W.alloc (.cells Kr.toArray t)).cell? (AL W (m*8+j))=Kr[m*8+j]?:=by rw[cell_of_row _ _ _ _ _ _ (heap_alloc_last W _)];simp
 have e:OD.l=38:=BW;rw[b,Kr,VN _ _ _ c,rowOf,BR BS];simp[FA (show m<OD.l by omega)]
def Pj(n:Nat)(P:AY)(w:AU)(a:Ab)(m:Mode):(store a (fnv n) m).run P w=stored P w a (fnv n) m:=run_store P w a _ m (by unfold fnv;split<;>rfl)
def LI(r:List UInt8 × Nat × Γ × Γ):AW:=.agg #[.string ⟨r.1.toArray⟩,fnv r.2.1,fnv (r.2.2.1.getD 0 0),fnv (r.2.2.1.getD 1 0),fnv (r.2.2.1.getD 2 0),fnv (r.2.2.2.getD 0 0),fnv (r.2.2.2.getD 1 0),fnv (r.2.2.2.getD 2 0)]
theorem pP(op:Int)(w:AU):
  Calls prog 203 #[AB op] w (AN w (LI (rowOf op))):=by
 have X:=lO;by_cases h:0<=op/\op<38
 .obtain⟨m,rfl⟩:=Hh h.1;have J:m<38:=BS;have V:=Pj;have⟨r,F⟩:=AA (rowOf (m:Int));have⟨s,C⟩:=AA r.1;obtain⟨u,y⟩:∃n,n=r.2.1:=⟨_,rfl⟩;obtain⟨d,h1⟩:∃n,n=r.2.2.1.getD 0 0:=⟨_,rfl⟩;obtain⟨q,f⟩:∃n,n=r.2.2.1.getD 1 0:=⟨_,rfl⟩;obtain⟨g,x⟩:∃n,n=r.2.2.1.getD 2 0:=⟨_,rfl⟩;obtain⟨l,B⟩:∃n,n=r.2.2.2.getD 0 0:=⟨_,rfl⟩;obtain⟨i,o⟩:∃n,n=r.2.2.2.getD 1 0:=⟨_,rfl⟩;obtain⟨A,E⟩:∃n,n=r.2.2.2.getD 2 0:=⟨_,rfl⟩;have H:LI r=.agg #[.string ⟨s.toArray⟩,fnv u,fnv d,fnv q,fnv g,fnv l,fnv i,fnv A]:=by rw[LI,C,y,h1,f,x,B,o,E]
  have G:Qr r=[.string ⟨s.toArray⟩,fnv u,fnv d,fnv q,fnv g,fnv l,fnv i,fnv A]:=by rw[Qr,C,y,h1,f,x,B,o,E]
  have b:=λW t j(Q:j<8)=>Ayt W t m j J Q;rw[<-F]at b⊢;rw[G]at b;rw[H];have L:=λW t=>b W t 0 BS;have U:=λW t=>b W t 1 BS;have O:=λW t=>b W t 2 BS;have M:=λW t=>b W t 3 BS;have K:=λW t=>b W t 4 BS;have R:=λW t=>b W t 5 BS;have S:=λW t=>b W t 6 BS;have T:=λW t=>b W t 7 BS;simp only[TT,TU,IV]at L U O M K R S T;clear b;clear G H C y h1 f x B o E F h;go_enter func203,ntmps203;go_wp2_with(go_at_call 205;refine(UL _).mo ?_;rintro e D⟨rfl,c⟩;have⟨b,I⟩:=F7 c;have z:=MA c);rw[QU (tgt:=Kr) (cur:=Tryz.zeroCells243) (t:=243)];case hvs=>rfl
  case hl=>kernel_rfl
  case h1=>kernel_rfl
  case hg=>exact heap_alloc_last _ _
  rw[World.setRow_alloc_new,Oper.upon_skip];go_wp2;have k:AO w D:=Bw;refine BH (v:=.agg #[.string ⟨s.toArray⟩,fnv u,fnv d,fnv q,fnv g,fnv l,fnv i,fnv A]) (by simp[results,results203,go_sem,b,z]) rfl ⟨rfl,?_⟩;refine Bi ?_ _;iterate 8 refine Rj (DN _) ?_ _
  exact k
 have N:rowOf op=([],0,[],[]):=by unfold rowOf;rw[BQ h]
 rw[N];go_enter func203,ntmps203;go_wp2_with(go_at_call 205;refine(UL _).mo ?_;rintro e D⟨rfl,c⟩;have⟨b,I⟩:=F7 c;have z:=MA c);rw[QU (tgt:=Kr) (cur:=Tryz.zeroCells243) (t:=243)];case hvs=>rfl
 case hl=>kernel_rfl
 case h1=>kernel_rfl
 case hg=>exact heap_alloc_last _ _
 rw[World.setRow_alloc_new,Oper.upon_skip];have k:AO w D:=Bw;go_wp2;all_goals refine BH (v:=.agg #[.string ⟨#[]⟩,.nilFunc,.nilFunc,.nilFunc,.nilFunc,.nilFunc,.nilFunc,.nilFunc]) (by simp[results,results203,go_sem,b,z]) rfl ⟨rfl,?_⟩
 all_goals
  refine Bi ?_ _;iterate 8 refine Rj (DN _) ?_ _
  exact k
def Um(l:Γ):AW:=.agg #[fnv (l.getD 0 0),fnv (l.getD 1 0),fnv (l.getD 2 0)]
def OT(w:AU):Sem.run prog (binOp BinOp.neq 234 .nilFunc .nilFunc) w=.ok (.bool false) w:=BW
def ND(a:Nat)(w:AU):Sem.run prog (binOp BinOp.neq 234 (.func (.func a) #[] #[]) .nilFunc) w=.ok (.bool true) w:=BW
def KP{n:Nat}(h:n≠0):fnv n=.func (.func n) #[] #[]:=by unfold fnv;rw[BQ h]
def eL:fnv 0=.nilFunc:=rfl
theorem iO(w:AU):
  Calls prog 206 #[.agg #[.nilFunc,.nilFunc,.nilFunc]] w (AN w (AB 0)):=by have c:=OT;have d:=ND;go_enter func206,ntmps206;go_wp2;refine wp_loop_rounds 1 ?_;rw[rounds_succ];go_wp2;go_ret;exact⟨rfl,Bw⟩
theorem iN(a:Nat)(w:AU):
  Calls prog 206 #[.agg #[.func (.func a) #[] #[],.nilFunc,.nilFunc]] w (AN w (AB 1)):=by have c:=OT;have d:=ND;go_enter func206,ntmps206;go_wp2;refine wp_loop_rounds 2 ?_;rw[rounds_succ];go_wp2;rw[rounds_succ];go_wp2;go_ret;exact⟨rfl,Bw⟩
theorem iD(a b:Nat)(w:AU):
  Calls prog 206 #[.agg #[.func (.func a) #[] #[],.func (.func b) #[] #[],.nilFunc]] w (AN w (AB 2)):=by have d:=OT;have f:=ND;go_enter func206,ntmps206;go_wp2;refine wp_loop_rounds 3 ?_;rw[rounds_succ];go_wp2;rw[rounds_succ];go_wp2;rw[rounds_succ];go_wp2;go_ret;exact⟨rfl,Bw⟩
theorem hU(a b c:Nat)(w:AU):
  Calls prog 206 #[.agg #[.func (.func a) #[] #[],.func (.func b) #[] #[],.func (.func c) #[] #[]]] w (AN w (AB 3)):=by have f:=OT;have g:=ND;go_enter func206,ntmps206;go_wp2;refine wp_loop_rounds 4 ?_;rw[rounds_succ];go_wp2;rw[rounds_succ];go_wp2;rw[rounds_succ];go_wp2;rw[rounds_succ];go_wp2;go_ret;exact⟨rfl,Bw⟩
theorem fB(l:Γ)(w:AU)(hl:l.length<=3)(d:∀x∈l,x≠0):
  Calls prog 206 #[Um l] w (AN w (AB l.length)):=by match l,hl,d with|[],_,_=>exact iO w|[a],_,d=>simp only[Um,List.getD,TT,TU,List.getElem?_nil,Option.getD,KP (d a BU),eL];exact iN a w|[a,b],_,d=>simp only[Um,List.getD,TT,TU,List.getElem?_nil,Option.getD,KP (d a BU),KP (d b BU),eL];exact iD a b w|[a,b,c],_,d=>simp only[Um,List.getD,TT,TU,Option.getD,KP (d a BU),KP (d b BU),KP (d c BU)];exact hU a b c w|_::_::_::_::_,hl,_=>simp at hl
def Jd(n:Nat)(p:Stil.DR->Bool):Prop:=(∀args w,(callFunc n args).run prog w=.ok (.enter n args) w)/\∀(d:Stil.DR)(w:AU),Eh w->d.fits->Calls prog n #[.agg #[AB d.kind,AB d.n,AB d.p]] w (AN w (.bool (p d)))
def Pm:List (Stil.DR->Bool)->Ψ->Bool
 |[],[]=>true
 |p::b,d::c=>p d && Pm b c
 |_,_=>false
def Tn(ps:List (Stil.DR->Bool))(ds:Ψ):Bool:=!ds.isEmpty && Pm ps ds
theorem YF:∀(b:List (Stil.DR->Bool))(c:Ψ),c.length≠b.length->Pm b c=false
 |[],[],h=>absurd rfl h
 |[],_::_,_=>rfl
 |_::_,[],_=>rfl
 |p::b,d::c,h=>by
  have:=YF b c C4
  simp[Pm,this]
theorem XA:∀(b:List (Stil.DR->Bool))(c:Ψ)(k:Nat)(e:k<b.length)(f:k<c.length),Pm (b.drop k) (c.drop k)=(b[k] c[k] && Pm (b.drop (k+1)) (c.drop (k+1)))
 |p::b,d::c,0,_,_=>rfl
 |p::b,d::c,k+1,e,f=>by
  have:=XA b c k (by simpa using e) (by simpa using f)
  simpa using this
theorem Avl(l:Γ)(ps:List (Stil.DR->Bool))(a:Δ)(cap:Nat)(ds:Ψ)(w:AU)(hr:Eh w)(hl:l.length=ps.length)(hd:ds.length=ps.length)(X:l.length<=3)(s:∀i(h1:i<l.length)(h2:i<ps.length),l[i]≠0/\Jd l[i] ps[i])(h0:0<ds.length)
  (O:∀i(h:i<ds.length),∃b o,a=some (AK b o)/\b<w.heap.size/\Jr w b (o+i*3) ds[i]) (S:∀x∈ds,x.fits):
  Calls prog 204 #[Um l,AE a ds.length cap] w (AN w (.bool (Pm ps ds))):=by
 have ah:=Pj;obtain⟨v,A⟩:∃f,f=l.getD 0 0:=⟨_,rfl⟩;obtain⟨t,I⟩:∃f,f=l.getD 1 0:=⟨_,rfl⟩;obtain⟨u,H⟩:∃f,f=l.getD 2 0:=⟨_,rfl⟩;have C:Hid (Um l=.agg #[fnv v,fnv t,fnv u]):=by show _=_;rw[Um,A,I,H]
 have HP:Hid (∀W,Calls prog 206 #[.agg #[fnv v,fnv t,fnv u]] W (AN W (AB ds.length))):=by
  intro W
  have:=fB l W X (λx g=>by
   obtain⟨i,hi,rfl⟩:=List.getElem_of_mem g
   exact(s i hi BS).1)
  rw[C.out]at this;rw[hd,<-hl];exact this
 have HC:Hid (∀k(h:k<ds.length),(w.alloc (.cells #[fnv v,fnv t,fnv u] 236)).cell? (AL w k)=some (.func (.func (l.getD k 0)) #[] #[])):=by
  intro k R;have ad:l.getD k 0≠0:=by have j:k<l.length:=BS;have:=(s k j BS).1;simpa[List.getD,FA j]using this
  rw[<-KP ad];have ac:k=0\/k=1\/k=2:=BS;rcases ac with rfl|rfl|rfl<;>simp[go_sem,A,I,H]
 have HF:Hid (∀k(h:k<ds.length)(h2:k<ps.length),Jd (l.getD k 0) ps[k]):=by intro k R ag;have j:k<l.length:=BS;have:=(s k j BS).2;simpa[List.getD,FA j]using this
 have HA:=BZ O;have N:=BZ (λW(h:AO w W)=>hr.below h);have zl:=BZ S;have af:ds.length<=3:=BS;have L:=BZ hd;have al:¬ds=[]:=by intro h;rw[h]at h0;simp at h0
 rw[C.out];clear A I H hl hd X s O hr C S;go_enter func204,ntmps204;go_wp2_with(go_at_call 206;refine(HP _).mo ?_;rintro e w1⟨rfl,c⟩;have⟨hc,aa⟩:=F7 c;have hz:=MA c);go_loopw [19] (λi wr=>∃k:Nat,k<=ds.length/\i=AB k/\Pm ps ds=Pm (ps.drop k) (ds.drop k)/\Below (w.heap.size+1) (w.alloc (.cells #[fnv v,fnv t,fnv u] 236)) wr) (λi _=>ds.length - (intOf i).toNat);case atStart=>exact⟨0,BS,rfl,rfl,by simpa using c⟩
 case round=>
  clear c hc aa hz;obtain⟨k,R,rfl,Y,c⟩:=hrel;have r:=BZ Y;clear Y;have Q:=(Aa _ _).tr (c.mo BS);have aj:w.heap.size<wr.heap.size:=xAj;by_cases m:k<ds.length;{obtain⟨b,o,rfl,M,T⟩:=HA k m;have U:k<ps.length:=(by have:=L.out;omega);have d:=HF k m U;have y:=zl ds[k] (DY m);have q:=BZ (XA ps ds k U m);have⟨x0,x1,x2⟩:=T.below Q M;have ae:=DO M Q.size;have B:wr.cell? (AL w k)=some (.func (.func (l.getD k 0)) #[] #[]):=(by rw[c.cell (p:=(AL w k)) BU];exact HC k m);have⟨p,F⟩:=AA (ps[k]);have⟨x,g⟩:=AA (ds[k]);have⟨n,G⟩:=AA (l.getD k 0);(rw[<-g]at x0 x1 x2 y;rw[<-F,<-g]at q;rw[<-G]at B;rw[<-G,<-F]at d;obtain⟨ai,d⟩:=d;have V:=BZ d;have P:=BZ y;clear G g F T d y;have K:(wr.alloc (.cells #[AB x.kind,AB x.n,AB x.p] 153)).cell? (AL w k)=some (.func (.func n) #[] #[]):=by rwa[World.cell?_alloc_some _ _ _ (by rw[B];rfl)]);have q1:(wr.alloc (.cells #[AB x.kind,AB x.n,AB x.p] 153)).cell? (AL wr 0)=some (AB x.kind):=xAa;have q2:(wr.alloc (.cells #[AB x.kind,AB x.n,AB x.p] 153)).cell? (AL wr 1)=some (AB x.n):=xAa;have q3:(wr.alloc (.cells #[AB x.kind,AB x.n,AB x.p] 153)).cell? (AL wr 2)=some (AB x.p):=xAa;have r0:=cell_regrown K;have r1:=cell_regrown q1;have r2:=cell_regrown q2;have r3:=cell_regrown q3;clear K q1 q2 q3;cases Z:p x;{go_wp2;(refine wp_region_quiet_below BW BW ?_;repeat(go_big_quiet_step ((exact Calls.regrown_of (V _ _ (N _ Bw) P.out)))));refine wpQuiet_nil ?_;intro _ D;obtain⟨⟨J,osq⟩,z⟩:=D;subst z;go_wp2;go_ret;exact⟨Ac (by rw[r.out,q.out,Z];rfl),Bw⟩};have ab:Hid (Pm ps ds=Pm (ps.drop (k+1)) (ds.drop (k+1))):=(by show _=_;rw[r.out,q.out,Z];rfl);clear q r;go_wp2;(refine wp_region_quiet_below BW BW ?_;repeat(go_big_quiet_step ((exact Calls.regrown_of (V _ _ (N _ Bw) P.out)))));refine wpQuiet_nil ?_;intro _ D;obtain⟨⟨J,osq⟩,z⟩:=D;subst z;go_wp2;refine⟨⟨k+1,BS,by go_num,ab.out,?_⟩,xAb⟩;exact(c.alloc BS _).tr ((below_regrown _ J osq).mo B1)}
  .have HE:Hid (Pm ps ds=true):=by
    show _=_
    have:=L.out
    rw[r.out,IU BS,IU BS];rfl
   go_wp2
   go_ret;exact⟨Ac HE.symm,Bw⟩
theorem fm(l:Γ)(ps:List (Stil.DR->Bool))(v:AW)(ds:Ψ)(w:AU)(hr:Eh w)(hl:l.length=ps.length)(m:l.length<=3)(d:∀i(t:i<l.length)(u:i<ps.length),l[i]≠0/\Jd l[i] ps[i])
  (c:Aq w v ds) (f:∀x∈ds,x.fits) (B:ds.length<=9223372036854775807):
  Calls prog 204 #[Um l,v] w (AN w (.bool (Tn ps ds))):=by
 obtain⟨a,cap,rfl,c⟩:=c;by_cases g:ds=[]
 .subst g;have q:=Pj;have b:Hid (Tn ps []=false):=rfl;unfold Um;clear d c f hr;go_enter func204,ntmps204;go_wp2;go_ret;exact⟨Ac b.symm,Bw⟩
 have o:=List.length_pos_iff.2 g;by_cases hd:ds.length=ps.length
 .have b:Tn ps ds=Pm ps ds:=by
   have:ds.isEmpty=false:=by simpa using g
   rw[Tn,this];rfl
  rw[b];exact Avl l ps a cap ds w hr hl hd m d o c f
 have b:Hid (Tn ps ds=false):=by show _=_;rw[Tn,YF ps ds hd,Bool.and_false]
 have q:=Pj
 have j:=BZ (λW=>fB l W m (λx r=>by
  obtain⟨i,hi,rfl⟩:=List.getElem_of_mem r
  exact(d i hi BS).1))
 have z:((ds.length:Int) !=(l.length:Int))=true:=xCd;clear d c f hr hd hl;unfold Um at j⊢;go_enter func204,ntmps204;go_wp2_with(go_at_call 206;refine(j _).mo ?_;rintro e C⟨rfl,k⟩;have⟨A,y⟩:=F7 k;have D:=MA k);go_ret;exact⟨Ac b.symm,Bw⟩
def lP(c x1 x2 x3 x4 x5 x6 b:AW)(w:AU):(Instr.field 239 (.agg #[c,x1,x2,x3,x4,x5,x6,b]) 2).run prog w=.ok (.agg #[x2,x3,x4,x5,x6,b]) w:=BW
def oO(x2 x3 x4 x5 x6 b:AW)(w:AU):(Instr.index 237 (.agg #[x2,x3,x4,x5,x6,b]) (AB 0)).run prog w=.ok (.agg #[x2,x3,x4]) w:=BW
def oM(x2 x3 x4 x5 x6 b:AW)(w:AU):(Instr.index 237 (.agg #[x2,x3,x4,x5,x6,b]) (AB 1)).run prog w=.ok (.agg #[x5,x6,b]) w:=BW
def I6(l:Γ)(ps:List (Stil.DR->Bool)):Prop:=l.length=ps.length/\l.length<=3/\∀i(b:i<l.length)(c:i<ps.length),l[i]≠0/\Jd l[i] ps[i]
theorem UM(op:Int)(l z:List (Stil.DR->Bool))(v:AW)(ds:Ψ)(w:AU)(hr:Eh w)(h0:I6 (rowOf op).2.2.1 l)(h1:I6 (rowOf op).2.2.2 z)
  (U:Aq w v ds) (F:∀x∈ds,x.fits) (V:ds.length<=9223372036854775807):
  Calls prog 193 #[.agg #[AB op,v]] w (AN w (.bool (Tn l ds || Tn z ds))):=by
 have⟨r,i⟩:=AA (rowOf op);rw[<-i]at h0 h1;have Y:Hid (∀W,Calls prog 203 #[AB op] W (AN W (LI r))):=by intro W;rw[i];exact pP op W
 have C:=BZ (λW(h:AO w W)=>U.below h);have T:=BZ (λW(h:AO w W)=>hr.below h);have f:=BZ (λW h=>fm _ _ v ds W (T W h) h0.1 h0.2.1 h0.2.2 (C W h) F V);have g:=BZ (λW h=>fm _ _ v ds W (T W h) h1.1 h1.2.1 h1.2.2 (C W h) F V);obtain⟨a,cap,rfl,_⟩:=U;have⟨s,X⟩:=AA r.1;obtain⟨Z,J⟩:∃n,n=r.2.1:=⟨_,rfl⟩;obtain⟨G,m⟩:∃n,n=r.2.2.1.getD 0 0:=⟨_,rfl⟩;obtain⟨N,j⟩:∃n,n=r.2.2.1.getD 1 0:=⟨_,rfl⟩;obtain⟨H,u⟩:∃n,n=r.2.2.1.getD 2 0:=⟨_,rfl⟩;obtain⟨L,y⟩:∃n,n=r.2.2.2.getD 0 0:=⟨_,rfl⟩;obtain⟨I,o⟩:∃n,n=r.2.2.2.getD 1 0:=⟨_,rfl⟩;obtain⟨R,D⟩:∃n,n=r.2.2.2.getD 2 0:=⟨_,rfl⟩;have M:Um r.2.2.1=.agg #[fnv G,fnv N,fnv H]:=by rw[Um,m,j,u]
 have E:Um r.2.2.2=.agg #[fnv L,fnv I,fnv R]:=by rw[Um,y,o,D]
 have P:LI r=.agg #[.string ⟨s.toArray⟩,fnv Z,fnv G,fnv N,fnv H,fnv L,fnv I,fnv R]:=by rw[LI,X,J,m,j,u,y,o,D]
 rw[M]at f;rw[E]at g;rw[P]at Y;clear h0 h1 hr i X J m j u y o D M E P C;have ac:=Pj;have ae:=lP;have ad:=oO;have ab:=oM;generalize Tn l ds=t0 at f⊢;generalize Tn z ds=t1 at g⊢;go_enter func193,ntmps193;go_wp2_with(go_at_call 203;refine(Y _).mo ?_;rintro e w1⟨rfl,k⟩;have⟨hc,aa⟩:=F7 k;have t:=MA k;have d:=Uf k);cases t0
 .cases t1;{refine wp_loop_rounds 3 ?_;rw[rounds_succ];go_wp2_with(go_at_call 204;refine(f _ (Bi d _)).mo ?_;rintro e O⟨rfl,b⟩;have⟨Q,K⟩:=F7 b;have S:=DO t (DU BU b.size);have c:=Bf (Bi d _) b);rw[rounds_succ];go_wp2_with(go_at_call 204;refine(g _ (Bi c _)).mo ?_;rintro e w3⟨rfl,q⟩;have B:=Bf (Bi c _) q);rw[rounds_succ];go_wp2;go_ret;exact⟨rfl,B⟩};refine wp_loop_rounds 2 ?_;rw[rounds_succ];go_wp2_with(go_at_call 204;refine(f _ (Bi d _)).mo ?_;rintro e O⟨rfl,b⟩;have⟨Q,K⟩:=F7 b;have S:=DO t (DU BU b.size);have c:=Bf (Bi d _) b);rw[rounds_succ];go_wp2_with(go_at_call 204;refine(g _ (Bi c _)).mo ?_;rintro e w3⟨rfl,q⟩;have B:=Bf (Bi c _) q);go_ret;exact⟨rfl,B⟩
 refine wp_loop_rounds 1 ?_;rw[rounds_succ];go_wp2_with(go_at_call 204;refine(f _ (Bi d _)).mo ?_;rintro e O⟨rfl,b⟩;have⟨Q,K⟩:=F7 b;have S:=DO t (DU BU b.size);have c:=Bf (Bi d _) b);go_ret;exact⟨rfl,c⟩
def pl(l:ζ)(d:Stil.DR):Bool:=d.ok && decide (d.kind∈l)
def eP(d:Stil.DR):Bool:=d.ok && decide (d.kind∈([11]:ζ)) && decide (0<=d.n)
def gY:Jd 215 (pl [5]):=⟨enters_of func215 BW rfl,λd w c b=>Bap d w c b.2.1.1 b.2.1.2⟩
def Ba6:Jd 221 (pl [4]):=⟨enters_of func221 BW rfl,λd w c b=>Ban d w c b.2.1.1 b.2.1.2⟩
def Ba5:Jd 209 (pl [7]):=⟨enters_of func209 BW rfl,λd w c b=>Bam d w c b.2.1.1 b.2.1.2⟩
def Ba7:Jd 222 (pl [8]):=⟨enters_of func222 BW rfl,λd w c b=>Bas d w c b.2.1.1 b.2.1.2⟩
def OX:Jd 211 (pl [9]):=⟨enters_of func211 BW rfl,λd w c b=>Baq d w c b.2.1.1 b.2.1.2⟩
def TN:Jd 212 (pl [10]):=⟨enters_of func212 BW rfl,λd w c b=>Bao d w c b.2.1.1 b.2.1.2⟩
def VK:Jd 218 (pl [2,3]):=⟨enters_of func218 BW rfl,λd w c b=>rO d w c b.2.1.1 b.2.1.2⟩
def rB:Jd 219 (pl [2,3,4]):=⟨enters_of func219 BW rfl,λd w c b=>pS d w c b.2.1.1 b.2.1.2⟩
def kY:Jd 220 (pl [2,3,4,7,8]):=⟨enters_of func220 BW rfl,λd w c b=>ie d w c b.2.1.1 b.2.1.2⟩
def cK:Jd 210 eP:=⟨enters_of func210 BW rfl,λd w c b=>Avt d w c b.2.1.1 b.2.1.2⟩
def UY:Jd 214 Stil.DR.isBit:=⟨enters_of func214 BW rfl,λd w c b=>Avx d.kind d.n d.p w c b.2.1.1 b.2.1.2⟩
def Us:Jd 207 Stil.DR.isWhole:=⟨enters_of func207 BW rfl,λd w c b=>vp d.kind d.n d.p w c b.2.1.1 b.2.1.2⟩
def LC:Jd 208 Stil.DR.isReal:=⟨enters_of func208 BW rfl,λd w c b=>y8 d.kind d.n d.p w c b.2.1.1 b.2.1.2⟩
def IE:I6 [] []:=⟨rfl,BU,λi h=>absurd h BU⟩
theorem Lo {p:Stil.DR->Bool}(b:a≠0)(h:Jd a p):I6 [a] [p]:=⟨rfl,BU,λi c d=>by
 have:i=0:=by simp at c;omega
 subst this;exact⟨b,h⟩⟩
theorem IY {b:Nat}{p q:Stil.DR->Bool}(c:a≠0)(h:Jd a p)(e:b≠0)(k:Jd b q):I6 [a,b] [p,q]:=⟨rfl,BU,λi d f=>by
 have:i=0\/i=1:=by simp at d;omega
 rcases this with rfl|rfl
 .exact⟨c,h⟩
 .exact⟨e,k⟩⟩
theorem TL {b c:Nat}{p q r:Stil.DR->Bool}(d:a≠0)(h:Jd a p)(g:b≠0)(k:Jd b q)(f:c≠0)(m:Jd c r):I6 [a,b,c] [p,q,r]:=⟨rfl,BU,λi e j=>by
 have:i=0\/i=1\/i=2:=by simp at e;omega
 rcases this with rfl|rfl|rfl
 .exact⟨d,h⟩
 .exact⟨g,k⟩
 .exact⟨f,m⟩⟩
def CW{p:Prop}(h:p:=by(rcases ds with _|⟨a,_|⟨b,_|⟨c,_|⟨d,r⟩⟩⟩⟩<;>simp[Tn,Pm,Df,Gi,Stil.arity,G3,Oj,pl,eP,Stil.DR.kindIs,Ob,Stil.DR.ok,Stil.DR.isBit,Stil.DR.isWhole,Stil.DR.isReal]<;>try first|omega|grind)):p:=h
theorem vX(op:Int)(h1:1<=op)(e:op<=10):∃p q,I6 (rowOf op).2.2.1 p/\I6 (rowOf op).2.2.2 q/\∀ds,(Tn p ds || Tn q ds)=Df op ds:=by have h:op=1\/op=2\/op=3\/op=4\/op=5\/op=6\/op=7\/op=8\/op=9\/op=10:=BS;rcases h with rfl|rfl|rfl|rfl|rfl|rfl|rfl|rfl|rfl|rfl;all_goals first|exact⟨_,_,Lo BX UY,IE,λds=>CW⟩|exact⟨_,_,IY BX UY BX gY,IE,λds=>CW⟩|exact⟨_,_,IY BX Us BX Us,IY BX LC BX LC,λds=>CW⟩
theorem jh(op:Int)(h1:21<=op)(e:op<=37):∃p q,I6 (rowOf op).2.2.1 p/\I6 (rowOf op).2.2.2 q/\∀ds,(Tn p ds || Tn q ds)=Gi op ds:=by have h:op=21\/op=22\/op=23\/op=24\/op=25\/op=26\/op=27\/op=28\/op=29\/op=30\/op=31\/op=32\/op=33\/op=34\/op=35\/op=36\/op=37:=BS;rcases h with rfl|rfl|rfl|rfl|rfl|rfl|rfl|rfl|rfl|rfl|rfl|rfl|rfl|rfl|rfl|rfl|rfl;all_goals first|exact⟨_,_,Lo BX VK,IE,λds=>CW⟩|exact⟨_,_,Lo BX rB,IE,λds=>CW⟩|exact⟨_,_,Lo BX kY,IE,λds=>CW⟩|exact⟨_,_,IY BX VK BX gY,IE,λds=>CW⟩|exact⟨_,_,Lo BX Ba6,IE,λds=>CW⟩|exact⟨_,_,IY BX Ba5 BX cK,IE,λds=>CW⟩|exact⟨_,_,IY BX Ba7 BX cK,IE,λds=>CW⟩|exact⟨_,_,IY BX OX BX Us,IY BX TN BX LC,λds=>CW⟩|exact⟨_,_,TL BX OX BX Us BX Us,TL BX TN BX LC BX LC,λds=>CW⟩|exact⟨_,_,TL BX OX BX Us BX Us,IE,λds=>CW⟩|exact⟨_,_,IY BX TN BX Us,IE,λds=>CW⟩|exact⟨_,_,IY BX OX BX LC,IE,λds=>CW⟩
def zxa {p:Prop}(h:p:=by
 go_enter func202,ntmps202;go_wp2;all_goals go_ret
 all_goals exact⟨Ac DF,rfl⟩):p:=h
theorem V0(op:Int)(w:AU):
  Calls prog 202 #[AB op] w λe d=>e=.returned (.bool (decide (1<=op/\op<=10)))/\d=w:=by
 by_cases c:1<=op
 .by_cases b:op<=10;{have f:decide (op<=10)=true:=(by simpa using b);exact zxa};have f:decide (op<=10)=false:=by simpa using b
  exact zxa
 have g:decide (1<=op)=false:=by simpa using c
 exact zxa
def Au5{ds:Ψ}(h:¬(1<=op/\op<=10)):Df op ds=false:=by unfold Df;rw[BR BS]
theorem XR(op:Int)(v:AW)(ds:Ψ)(w:AU)(hr:Eh w)(b:Aq w v ds)(j:∀d∈ds,d.fits)(hl:ds.length<=9223372036854775807):
  Calls prog 191 #[.agg #[AB op,v]] w (AN w (.bool (Df op ds))):=by
 by_cases h:1<=op/\op<=10
 .have⟨_,_,f,q1,g⟩:=vX op h.1 h.2;have n:Hid (∀W,AO w W->Calls prog 193 #[.agg #[AB op,v]] W (AN W (.bool (Df op ds)))):=by intro W i;rw[<-g];exact UM op _ _ v ds W (hr.below i) f q1 (b.below i) j hl
  obtain⟨a,cap,rfl,_⟩:=b;have hd:decide (1<=op/\op<=10)=true:=C4;clear f q1 g hr h;go_enter func191,ntmps191;go_wp2_with(first|(go_at_call 202;refine(V0 _ _).mo ?_;rw[hd];rintro e m⟨rfl,rfl⟩)|(go_at_call 193;refine(n _ (Aa _ _)).mo ?_;rintro e o⟨rfl,k⟩));go_ret;exact⟨rfl,Uf k⟩
 have l:Hid (Df op ds=false):=Au5 h;obtain⟨a,cap,rfl,_⟩:=b;have hd:decide (1<=op/\op<=10)=false:=C4;clear hr h;go_enter func191,ntmps191;go_wp2_with(go_at_call 202;refine(V0 _ _).mo ?_;rw[hd];rintro e m⟨rfl,rfl⟩);go_ret;exact⟨Ac l.symm,Aa _ _⟩
def zya {p:Prop}(h:p:=by
 go_enter func192,ntmps192;go_wp2;all_goals go_ret
 all_goals exact⟨Ac DF,rfl⟩):p:=h
theorem ZQ(op:Int)(w:AU):
  Calls prog 192 #[AB op] w λe d=>e=.returned (.bool (decide (21<=op/\op<=37)))/\d=w:=by
 by_cases c:21<=op
 .by_cases b:op<=37;{have f:decide (op<=37)=true:=(by simpa using b);exact zya};have f:decide (op<=37)=false:=by simpa using b
  exact zya
 have g:decide (21<=op)=false:=by simpa using c
 exact zya
def ox{ds:Ψ}(h:¬(21<=op/\op<=37)):Gi op ds=false:=by unfold Gi;rw[BR BS]
theorem Z2(op:Int)(v:AW)(ds:Ψ)(w:AU)(hr:Eh w)(b:Aq w v ds)(j:∀d∈ds,d.fits)(hl:ds.length<=9223372036854775807):
  Calls prog 168 #[.agg #[AB op,v]] w (AN w (.bool (Gi op ds))):=by
 by_cases h:21<=op/\op<=37
 .have⟨_,_,f,q1,g⟩:=jh op h.1 h.2;have n:Hid (∀W,AO w W->Calls prog 193 #[.agg #[AB op,v]] W (AN W (.bool (Gi op ds)))):=by intro W i;rw[<-g];exact UM op _ _ v ds W (hr.below i) f q1 (b.below i) j hl
  obtain⟨a,cap,rfl,_⟩:=b;have hd:decide (21<=op/\op<=37)=true:=C4;clear f q1 g hr h;go_enter func168,ntmps168;go_wp2_with(first|(go_at_call 192;refine(ZQ _ _).mo ?_;rw[hd];rintro e m⟨rfl,rfl⟩)|(go_at_call 193;refine(n _ (Aa _ _)).mo ?_;rintro e o⟨rfl,k⟩));go_ret;exact⟨rfl,Uf k⟩
 have l:Hid (Gi op ds=false):=ox h;obtain⟨a,cap,rfl,_⟩:=b;have hd:decide (21<=op/\op<=37)=false:=C4;clear hr h;go_enter func168,ntmps168;go_wp2_with(go_at_call 192;refine(ZQ _ _).mo ?_;rw[hd];rintro e m⟨rfl,rfl⟩);go_ret;exact⟨Ac l.symm,Aa _ _⟩
