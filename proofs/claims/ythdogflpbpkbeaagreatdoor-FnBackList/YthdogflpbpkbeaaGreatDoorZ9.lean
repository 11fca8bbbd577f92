import Derived.Test.YthdogflpbpkbeaaGreatDoorM51
import Derived.Test.YthdogflpbpkbeaaGreatDoorGc
import Derived.Test.YthdogflpbpkbeaaGreatDoorW13
import Derived.Test.YthdogflpbpkbeaaGreatDoorGe
set_option linter.defProp false
set_option maxHeartbeats 4000000
set_option maxRecDepth 100000
namespace Go.Proofs.YthdogflpbpkbeaaGreatDoor
open Tryz Stil Go.RowKit Go.Sort Go.BigFrame
def MR(F:FuncId)(x:Stil.DK)(L:AP):Prop:=∀(a d:AW)(w:AU)(bs:Γ)(c:Ao),Sv w bs c->Aq w a x.O.args->Eg w d x.K->Calls prog F #[.agg #[AB x.kind,AB x.O.op,a,d]] w (GX Ou 3 73 L w bs c)
def VF(k:Int)(x:Stil.DK)(L:AP):Prop:=∀(a d:AW)(w:AU)(bs:Γ)(c:Ao),Sv w bs c->Aq w a x.O.args->Eg w d x.K->Calls prog 144 #[AB k,.agg #[AB x.kind,AB x.O.op,a,d]] w (GX Ou 3 73 L w bs c)
def zSa{p:Prop}(h:p:=by go_wp2_with(go_at_call 60;refine(HC _ BV _ _ hS).mo ?_;rintro e w1⟨a1,c1,rfl,hS,hb1⟩);go_ret;exact vj hS BV):p:=h
def fe(k:Int)(f:k=2\/k=3)(x:Stil.DK)(M:x.O.args.length<=1048576)(I:(Cf x).length<=900000)(l:x.kind≠1->MR 102 x (Cf x)):VF k x (Dq k x):=by
 intro r y w bs T h c j;have HC:=Af (λW(h:AO w W)cs s hs=>Yb x.O M r W cs s hs (c.below h));have hS:=h.alloc (.cells #[AB x.kind,AB x.O.op,r,y] 63);by_cases a:x.kind=1
 .rw[Ji k x a];rw[a]at hS⊢;obtain⟨C,H,rfl,-⟩:=c;obtain⟨E,A,rfl,-⟩:=j;clear a l h;rcases f with rfl|rfl;all_goals go_enter func144,ntmps144;exact zSa
 rw[Il k x a];have z:=Af (λW(h:AO w W)cs s hs=>l a r y W cs s hs (c.below h) (j.below h));have S:(x.kind==1)=false:=xAr;have⟨L,t⟩:=AA (Cf x);rw[<-t]at z I⊢;obtain⟨C,H,rfl,-⟩:=c;obtain⟨E,A,rfl,-⟩:=j;clear l h t HC;rcases f with rfl|rfl;all_goals go_enter func144,ntmps144;go_wp2_with(first|(go_at_call 102;refine(z _ BV _ _ hS).mo ?_;rintro e w1⟨a1,c1,Q,rfl,d,hS,hb1⟩;have o:AO w w1:=BV;replace d:=Joins.ownsRow_le (base':=w.z) d BU)|(at_builtin;go_loud (refine Bj rfl rfl (NA _ hS d o.size BS) rfl rfl ?_;rintro R O⟨G,K,N,rfl,F,J,D⟩)));go_ret;exact⟨G,K,N,BU,F,J,o.grown D o.size (λk f=>(d.lt _ f).1)⟩
def zh0 {p:Prop}(h:p:=by
 obtain rfl:j=m:=by omega
 have hL:=HL.out;rw[E0 (by rw[<-qG.out];exact DN _)] at hL;have HL2:=Af hL;obtain⟨_,q0,p0,q1,p1,q2,p2,q3,p3⟩:=hb0;clear HL hL;go_wp2;go_ret;rw[<-HL2.out];exact⟨ra,rc,xs,rfl,Joins.ownsRow_le hown (JL _),hS,hB⟩):p:=h
def zOa{p:Prop}(h:p:=by refine⟨⟨j+1,L++M,a3,c3,zs,HJ.out,by go_num,aH.symm,hl2,by rw[DV],hb0,hown3,hS3,hB3⟩,?_⟩;have hj3:=HJ.out;clear HJ;simp[intOf];omega):p:=h
def UW(n:Stil.DK):Stil.shp n->Ci n->Ad n<=1000->MR 102 n (Cf n):=by
 induction n using Gp with
 |h k e kids O=>
  intro F U hs av nv w bs ts h t l;simp only at t l;have z:=oU F;simp only at z;have H:=cB F;have A:=S0 _ F;have C:=(G6 _ _ _).1 U;rw[Dn]at hs A;simp only at hs A;have I:∀x∈kids,Ad x<=1000:=λx hx=>by have:Ad x<=Stil.sizes kids:=Fa Ad kids x hx;omega
  have an:kids.length<=1000:=by have:=Gg kids;omega
  have hS:=h.alloc (.cells #[AB k,AB e.op,av,nv] 63);by_cases h1:k=1;{subst h1;rw[L6];have HC:=Af (λW(h:AO w W)cs K hs=>Yb e C.2.1.2.1 av W cs K hs (t.below h));obtain⟨S,n0,rfl,-⟩:=t;obtain⟨s1,D,rfl,-⟩:=l;clear O I z H U C A F hs h;go_enter func102,ntmps102;exact zSa}
  .have ap:kids≠[]:=by
    rcases H with⟨h,_⟩|⟨_,h,_⟩|⟨_,_,x,h,_⟩
    .exact absurd h h1
    .intro h0;rw[h0]at h;simp at h
    .intro h0;rw[h0]at h;cases h
   obtain⟨x,r,rfl⟩:=PL ap;have fQ:=Af (λW(h:AO w W)=>l.below h);obtain⟨S,n0,rfl,-⟩:=t;obtain⟨s1,D,rfl,G⟩:=l;obtain⟨b,o,rfl,aj,s⟩:=G 0 BU;simp only[IQ,G0,IV]at s;have⟨Q,R,gG,gX,x2,T,eG,fE⟩:=s.open;have J:=Af (λW(h:AO w W)cs K hs=>O x BU (z x BU) (C.2.2.2 x BU) (I x BU) gG gX W cs K hs (eG.below h) (fE.below h));have Z:∀y∈x::r,(Cf y).length<=900000:=λy f=>by have:=S0 y (z y f);have:=I y f;omega
   have af:=Z x BU;obtain⟨s2,n2,rfl,-⟩:=eG;obtain⟨s3,n3,rfl,-⟩:=fE;by_cases h4:k=4
   .subst h4
    obtain rfl:r=[]:=by
     rcases H with⟨h,_⟩|⟨h,_,_⟩|⟨_,_,aA,h,_⟩
     .omega
     .omega
     .simp only[List.cons.injEq]at h;exact h.2
    rw[L8];have⟨X,N⟩:=AA (Cf x)
    rw[<-N]at J af⊢;simp only[DT,DW,EF];clear G s O I F z H hs fQ U C A Z N h;go_enter func102,ntmps102
    go_wp2_with(first|(go_at_call 102;refine(J _ BV _ _ hS).mono ?_;rintro e w1⟨a1,c1,xs,rfl,hown,hS,hb1⟩;have ad:AO w w1:=BV;replace hown:=Joins.ownsRow_le (base':=w.heap.size) hown BU)|(at_builtin;go_loud (refine Bj rfl rfl (NA _ hS hown ad.size BS) rfl rfl ?_;rintro v2 w2⟨a2,c2,zs,rfl,ac,ak,ao⟩)))
    go_ret;exact⟨a2,c2,zs,BU,ac,ak,ad.grown ao ad.size (λk hk=>(hown.lt _ hk).1)⟩
   .have fG:k=2\/k=3:=by
     rcases H with⟨h,_⟩|⟨h,_,_⟩|⟨h,_⟩<;>omega
    have HY:=Af (λy(f:y∈r)=>fe k fG y ((Ea (C.2.2.2 y (Da _ f))).2.1.2.1) (Z y (Da _ f)) λ_=>O y (Da _ f) (z y (Da _ f)) (C.2.2.2 y (Da _ f)) (I y (Da _ f)));have aD:(k==1)=false:=xAr
    have yK:(k==4)=false:=xAr
    have ab:=Jh (k:=k) e x r h1 h4;have Y:Hid (∀j,(Cf x++((r.take j).map (Dq k)).flatten).length<=900000):=by
     intro j;rw[ab]at A;have h2:((r.take j).map (Dq k)).flatten.length<=(r.map (Dq k)).flatten.length:=by
      conv=>rhs;rw[<-KC j r,D4,Ft,DV]
      omega
     rw[DV]at A⊢;omega
    rw[ab];have⟨X,N⟩:=AA (Cf x)
    rw[<-N]at J Y⊢;simp only[DT]at hS⊢;have⟨m,hm⟩:=AA r.length
    have qG:=Af hm;rw[<-hm]at hS⊢;have au:m<=999:=by simp only[DT]at an;omega
    clear G s O I hm F z H hs U C A Z ab af N h;have aE:(0:Int)<(m:Int)+1:=BS
    have hA:=hS;clear hS;go_enter func102,ntmps102
    go_wp2_with(go_at_call 102;refine(J _ BV _ _ hA).mono ?_;rintro e w1⟨a1,c1,xs,rfl,hown,hS,hb1⟩;obtain⟨al,q0,p0,q1,p1,q2,p2,q3,p3⟩:Dm w1 w.heap.size (AB k) (AB e.op) (AE S e.args.length n0) (AE (some (AK b o)) (m+1) D):=qB4)
    have dU:RowKit.Below w.heap.size w w1:=BV;have hb0:Dm w1 w.heap.size (AB k) (AB e.op) (AE S e.args.length n0) (AE (some (AK b o)) (m+1) D):=qN4;replace hown:=Joins.ownsRow_le (base':=w.heap.size+1) hown BU;clear q0 q1 q2 q3 p0 p1 p2 p3 al hb1 Q R x2 T J hA;go_loopw [3,4] (λd i wr=>∃(j:Nat)(L:AP)(ra:Δ)(rc:Nat)(xs:Θ),j<=m/\i=AB ((j:Int)+1)/\Hid (L=X++((r.take j).map (Dq k)).flatten)/\L.length<=900000/\d=AE ra L.length rc/\Dm wr w.heap.size (AB k) (AB e.op) (AE S e.args.length n0) (AE (some (AK b o)) (m+1) D)/\wr.ownsRow (w.heap.size+1) 73 3 (AE ra L.length rc) L.length xs/\Sv wr (ob (AE ra L.length rc)++bs) ((Cc L,xs)::ts)/\AO w wr) (λ_ i _=>m+1 - (intOf i).toNat)
    case atStart=>exact⟨0,X,a1,c1,xs,BS,rfl,by show _=_;simp,by simpa using Y 0,rfl,hb0,hown,hS,dU⟩
    case round=>
     clear hb0 hown hS dU;obtain⟨j,L,ra,rc,xs,hj,rfl,HL,fO,rfl,hb0,hown,hS,hB⟩:=hrel;by_cases ar:j<m
     .have ag:j<r.length:=by have:=qG.out;omega
      have⟨pa,pc,ae,G⟩:=fQ wr hB;simp only[DT,BN,true_and]at ae;obtain⟨rfl,-,rfl⟩:=ae;have⟨b2,o2,yQ,aJ,s⟩:=G (j+1) yBf;simp only[FC,Addr.mk.injEq,Hj]at yQ;obtain⟨rfl,rfl⟩:=yQ;simp only[LQ]at s;have⟨Q,R,av,nv,x2,T,t,l⟩:=s.open;have HI:=Af (λW(h:AO wr W)cs K hs=>HY r[j] (DY ag) av nv W cs K hs (t.below h) (l.below h));have aH:Hid (X++((r.take (j+1)).map (Dq k)).flatten=L++Dq k r[j]):=by
       show _=_
       rw[HL.out,EK ag,D4,Ft];simp
      have hl2:=Y (j+1);rw[aH.out]at hl2;have⟨M,hM⟩:=AA (Dq k r[j])
      rw[<-hM]at HI aH hl2;have⟨y,f⟩:=AA (r[j])
      rw[<-f]at HI Q R t l;obtain⟨u0,m0,rfl,-⟩:=t;obtain⟨u1,m1,rfl,-⟩:=l;have az:(0:Int)<=(j:Int)+1:=BS
      have aw:(j:Int)+1<(m:Int)+1:=BS
      have aB:((j:Int)+1).toNat=j+1:=BS
      have ah:L.length+M.length<=2000000:=by rw[DV]at hl2;omega
      have iR:Hid (∀V:AU,(∀c,c<=w.heap.size->V.heap[c]?=wr.heap[c]?)->(V.cell? (AL w 0)=some (AB k)/\V.cell? (AL w 3)=some (AE (some (AK b o)) (m+1) D)/\V.cell? (AK b (o+(j+1)*4))=some (AB y.kind)/\V.cell? (AK b (o+(j+1)*4+1))=some (AB y.O.op)/\V.cell? (AK b (o+(j+1)*4+2))=some (AE u0 y.O.args.length m0)/\V.cell? (AK b (o+(j+1)*4+3))=some (AE u1 y.K.length m1))):=λV hV=>by
       have⟨_,q0,_,_,_,_,_,q3,_⟩:=id hb0;have e1:=hV b (EO aj);have e0:=hV _ (DN _);exact⟨(BE (a:=(AL w 0)) e0).trans q0,(BE (a:=(AL w 3)) e0).trans q3,(BE (a:=(AK b _)) e1).trans Q,(BE (a:=(AK b _)) e1).trans R,(BE (a:=(AK b _)) e1).trans x2,(BE (a:=(AK b _)) e1).trans T⟩
      have⟨g0,g1,g2,g3,g4,g5⟩:=iR wr (λ_ _=>rfl);have HJ:=BZ ar;have hz:=hb0.1;clear f hM s G HL Q R x2 T Y fQ HY aJ;go_upto_region 10 with fail
      go_region_held3 (λW'=>(W'.cell? (AL w 0)=some (AB k)/\W'.cell? (AL w 3)=some (AE (some (AK b o)) (m+1) D)/\W'.cell? (AK b (o+(j+1)*4))=some (AB y.kind)/\W'.cell? (AK b (o+(j+1)*4+1))=some (AB y.O.op)/\W'.cell? (AK b (o+(j+1)*4+2))=some (AE u0 y.O.args.length m0)/\W'.cell? (AK b (o+(j+1)*4+3))=some (AE u1 y.K.length m1))) (first|with_reducible assumption|with_reducible exact⟨Dl.trans g0,Dl.trans g1,Dl.trans g2,Dl.trans g3,Dl.trans g4,Dl.trans g5⟩|skip) (first|(refine Gj rfl rfl (V7 _ hS hown ac CX ah) rfl rfl ?_;rintro v3 w3⟨a3,c3,zs,rfl,hown3,hS3,aa⟩;have ay:=iR.out w3 (λc hc=>(aa.block c CX (λe=>by have:=(hown.lt _ e.symm).1;omega)).trans (E.block c CX));replace hb0:=(hb0.bel E).gr aa (λe=>by have:=(hown.lt _ e).1;omega);have hB3:=(Bf hB E).grown aa CX (λk hk=>by have:=(hown.lt _ hk).1;omega))|(go_simp;go_at_call 144;refine(HI.out _ ((BP _ _).drew) _ _ hS.drew).mono ?_;rintro e w2⟨a2,c2,ys,rfl,ac,hS,ai⟩;have E:AO wr w2:=((BP wr.heap.size wr).drew).trans ai;have ax:=E.size;have aC:=iR.out w2 (λc hc=>E.block c CX);replace hown:=ownsRow_below hown E))
      all_goals
       go_wp2
       exact zOa
     .exact zh0
variable {g n:Nat}{v:AW}
theorem Ayg(l:AP)(v:AW)(w:AU)(bs:Γ)(ts:Ao)(h:Sv w bs ts)(U:Eo w v l)(hl:l.length<=999999)(J:∀x∈l,x.fits):
  Calls prog 57 #[v] w (GX Ou 3 73 l w bs ts):=by
 obtain⟨a,cap,rfl,M⟩:=U;have HA:=Af M;have HF:=Af J;have ac:=h.1;have Y:=h.box (.cells #[] 73);clear M J h;go_enter func57,ntmps57;go_wp2;go_loopw [3,4] (λd i wr=>∃(j:Nat)(L:AP)(ra:Δ)(rc:Nat)(xs:Θ),j<=l.length/\i=AB j/\Hid (L=l.take j)/\L.length<=999999/\d=AE ra L.length rc/\wr.ownsRow w.heap.size 73 3 (AE ra L.length rc) L.length xs/\Sv wr (ob (AE ra L.length rc)++bs) ((Cc L,xs)::ts)/\AO w wr) (λ_ i _=>l.length - (intOf i).toNat);case atStart=>refine⟨0,[],some (AL w 0),0,[],BS,rfl,rfl,BU,rfl,?_,Y.nil,BV⟩;have:=World.ownsRow_lit (base:=w.heap.size) (e:=73) (size:=3) w #[] 0 BU CH rfl;simpa using this
 case round=>obtain⟨j,L,ra,rc,xs,hj,rfl,HL,fO,rfl,hown,hS,hb⟩:=hrel;by_cases F:j<l.length;{obtain⟨b,o,rfl,K,O⟩:=HA j F;have⟨y,A,av,I,D⟩:=O.below hb K;have X:l[j].O.args.length<=1048576:=(HF _ (DY F)).2.2.1;have aH:Hid (l.take (j+1)=L++[l[j]]):=(by show _=_;rw[HL.out];exact EK F);have hl2:(L++[l[j]]).length<=999999:=(by rw[<-aH.out,FP];omega);have⟨x,Q⟩:=AA (l[j]);(rw[<-Q]at y A D aH X hl2;have S:=Af (D.below (Aa wr (.cells #[] 153)).drew);obtain⟨C,E,rfl,-⟩:=D;have r:b<wr.heap.size:=DO K hb.size;have Z:Hid (((wr.alloc (.cells #[] 153)).drew).ownsRow wr.heap.size 153 3 (AE (some (AL wr 0)) 0 0) 0 []):=by exact zva);have jC:=Af (λW(V:((wr.alloc (.cells #[] 153)).drew).grownBy W (some wr.heap.size))=>(Aa wr (.cells #[] 153)).drew.grown V BU (λk hk=>by cases hk;exact DN _));have ae:(0:Int)<=(j:Int):=BS;have ab:(j:Int)<(l.length:Int):=BS;clear Q O;go_upto_region 5 with fail;go_region_held3 (λW'=>(W'.c (AK b (o+j*3))=some (AB x.code)/\W'.c (AK b (o+j*3+1))=some (AB x.O.op)/\W'.c (AK b (o+j*3+2))=some (AE C x.O.args.length E))) (first|with_reducible assumption|with_reducible exact⟨Dl.tr y,Dl.tr A,Dl.tr I⟩|with_reducible exact⟨Dl.tr ((Be r).tr y),Dl.tr ((Be r).tr A),Dl.tr ((Be r).tr I)⟩|with_reducible exact⟨(Be z).tr s.1,(Be z).tr s.2.1,(Be z).tr s.2.2⟩|skip) (first|(refine Gj rfl rfl (Sv.copyDevs (N:=wr.heap.size) (B:=wr.heap.size) _ (hS.box (.cells #[] 153)).drew S.out Z.out (λb hb=>hS.1 b hb) BU CX) rfl rfl ?_;rintro v5 t⟨R,c5,rfl,T,aa⟩;have jQ:=jC.out t aa;have s:(t.c (AK b (o+j*3))=some (AB x.code)/\t.c (AK b (o+j*3+1))=some (AB x.O.op)/\t.c (AK b (o+j*3+2))=some (AE C x.O.args.length E)):=⟨(jQ.cell (p:=(AK b _)) r).tr y,(jQ.cell (p:=(AK b _)) r).tr A,(jQ.cell (p:=(AK b _)) r).tr I⟩;have z:b<t.heap.size:=DO r jQ.size)|(go_loud (refine Gj rfl rfl (Sv.pushM (f:=Ou) (x:=x) (c:=[AB x.code,AB x.O.op,AE R x.O.args.length c5]) _ kdI (T.mkI (i:=x.code) (op:=x.O.op) (ds:=x.O.args) Av) (Ax (Ax Av)) Av (λ_=>rfl) (ownsRow_below hown jQ) (DU hb.size jQ.size) CX) rfl rfl ?_;rintro v6 H⟨a6,c6,rfl,hown6,hS6,aF,-⟩;have G:=aF.block b z (λe=>by have:=(hown.lt _ e.symm).1;omega);have ad:(H.c (AK b (o+j*3))=some (AB x.code)/\H.c (AK b (o+j*3+1))=some (AB x.O.op)/\H.c (AK b (o+j*3+2))=some (AE C x.O.args.length E)):=⟨(BE G).tr s.1,(BE G).tr s.2.1,(BE G).tr s.2.2⟩)));all_goals exact zza};exact z8
def js(l:AP)(f j:Nat)(a:f<=j)(h:j<l.length):(l.drop f).take (j+1 - f)=(l.drop f).take (j - f)++[l[j]]:=by have e:j+1 - f=(j - f)+1:=BS;rw[e,EK (by rw[List.length_drop];omega),List.getElem_drop];congr 3;omega
theorem Az3{W:AU}{b o cap:Nat}{l:AP}(d:b<W.heap.size)(h:∀i(hi:i<l.length),Z7 W b (o+i*3) l[i])(f m:Nat)(j:f+m<=l.length)(c:n=m):Eo W (AE (some (AK b (o+f*3))) n cap) ((l.drop f).take m):=by
 subst c;have a:((l.drop f).take n).length=n:=by rw[FP,List.length_drop];omega
 refine⟨_,cap,by rw[a],λi hi=>⟨b,o+f*3,rfl,d,?_⟩⟩;rw[a]at hi;have:=h (f+i) BS;rw[List.getElem_take,List.getElem_drop];have e:o+f*3+i*3=o+(f+i)*3:=BS;rw[e];exact this
def LH(c:AP):Tr:=sl (Cc c)
def kd1:Kd 1 53 23:=LL (y:=24) (z:=AG) BX underlying53 BW BX rfl
theorem ux(l:AP)(v:AW)(w:AU)(bs:Γ)(ts:Ao)(h:Sv w bs ts)(S:Eo w v l)(G:∀x∈l,x.fits)(aa:∀a n c,v=.slice a n c->n<=c)(hz:(Az l).1=0):
  Calls prog 24 #[v] w λe E=>∃a n,e=.returned (.slice a (Ej l).length n)/\Sv E bs (([sl ((Ej l).map LH)],[.slice a (Ej l).length n])::ts)/\AO w E:=by
 have hl:=Wx hz;have M:=N7 l BS;have e0:Ej l=Dp [] l:=by unfold Ej;rw[BQ BS]
 rw[e0];have av:∀(u0 u1:AW)(w:AU),(Instr.field 30 (.agg #[u0,u1]) 0).run prog w=.ok u0 w:=λ_ _ _=>by kernel_rfl
 have HF:=Af G;have uM:Hid (∀W,AO w W->Calls prog 8 #[v] W (AN W (.agg #[AB 0,AB 0]))):=by intro W h;have:=Xa l v W (S.below h) BS G;rwa [M.1,M.2]at this
 obtain⟨a,cap,rfl,Q⟩:=S;have ad:=aa _ _ _ rfl;have O:=Af Q;have U:=Af h;have dZ:=Af h.1;have⟨A,H⟩:=AA l.length;have dQ:=BZ H;rw[<-H]at hl uM ad⊢;clear Q G H M aa hz e0 h;go_enter func24,ntmps24;go_wp2_with(go_at_call 8;refine(uM _ BV).mo ?_;rintro e w1⟨rfl,C⟩);have X:=ownsRow_below (World.ownsRow_lit (base:=w.z) (e:=23) (size:=1) w #[] 0 (DN _) CH rfl) C;have ab:=((U.box (.cells #[] 23)).bel C).nil;go_loopw [3,4,5] (λsv fv iv wr=>∃(f j:Nat)(fin:List (AP))(z:Δ)(y:Nat)(F:Θ),f<=j/\j<=A/\sv=AE z fin.length y/\fv=AB f/\iv=AB j/\fin.length<=j/\wr.ownsRow w.z 23 1 (AE z fin.length y) fin.length F/\Sv wr (ob (AE z fin.length y)++bs) ((fin.map LH,F)::ts)/\Dp [] l=fin++Dp ((l.drop f).take (j - f)) (l.drop j)/\AO w wr) (λ_ _ i _=>A - (intOf i).toNat);case atStart=>exact⟨0,0,[],some (AL w 0),0,[],BS,BS,rfl,rfl,rfl,BU,by simpa using X,ab,rfl,BV⟩
 case round=>
  clear C X ab U;obtain⟨f,j,fin,z,y,F,ag,hj,rfl,rfl,rfl,ar,hown,hS,Z,r⟩:=hrel;have s:=Af Z;clear Z;by_cases aw:j<A;{have I:j<l.length:=(by have:=dQ.out;omega);(obtain⟨b,o,rfl,R,V⟩:=O j I;have aj:Hid (∀W,AO wr W->∀i(hi:i<l.length),Z7 W b (o+i*3) l[i]):=by intro W hW i hi;have⟨b1,o1,e1,C,h1⟩:=O i hi;simp only[FC,Addr.mk.injEq,Hj]at e1;obtain⟨rfl,rfl⟩:=e1;exact(h1.below r C).below hW (DO C r.size));have⟨x0,_,mM,_,_⟩:=V.below r R;have ah:b<wr.z:=DO R r.size;have K:=s7 ((l.drop f).take (j - f)) l j I;rw[<-js l f j ag I]at K;rw[K]at s;have⟨x,Y⟩:=AA (l[j]);rw[<-Y]at x0 s;clear Y V K;have d:=s.out;clear s;by_cases t:x.code=11;{rw[BR t]at d;rw[t]at x0;have k1:(0:Int)<=(f:Int):=BS;have k2:(f:Int)<=(j:Int)+1:=BS;have k3:(j:Int)+1<=(cap:Int):=BS;have k4:((j:Int)+1).toNat=j+1:=BS;have⟨sub,D⟩:=AA ((l.drop f).take (j+1 - f));have al:sub.length=j+1 - f:=(by rw[D,FP,List.length_drop];omega);have T:Eo wr (AE (some (AK b (o+f*3))) (j+1 - f) (cap - f)) sub:=(by rw[D];exact Az3 ah (aj wr (BP _ _)) f (j+1 - f) BS rfl);have ai:=Af (Ayg sub _ wr _ _ hS T BS (λak hy=>HF ak (by rw[D]at hy;exact List.mem_of_mem_drop (List.mem_of_mem_take hy))));rw[<-D]at d;have ao:w.z<=wr.z:=r.size;have yu:=BZ d;have iF:=Af hS.1;clear D d t al T;go_wp2_with(first|(go_at_call 57;refine ai.mo ?_;rintro e w5⟨ra,rc,ys,rfl,af,an,L⟩;have jd:=an.ice Av xBc iF.out;have vO:=ownsRow_below hown L;have ap:=L.size)|(at_builtin;go_loud (refine Bj rfl rfl (Sv.pushM (f:=LH) (x:=sub) (c:=[AE ra sub.length rc]) _ kd1 jd (Ax (Ax Av)) Av (λ_=>rfl) vO BS BS) rfl rfl ?_;rintro v7 w7⟨a7,c7,rfl,bH,ae,bW,-⟩)));have N:AO w w5:=r.tr (L.mo ao);have vU:AO w w7:=N.grown bW N.size (λk hk=>(hown.lt k hk).1);go_wp2;refine⟨⟨j+1,j+1,fin++[sub],a7,c7,_,BS,BS,BU,by go_num,by go_num,?_,bH,ae.sub (λ_ h=>h) B8,?_,vU⟩,xAb⟩;{simp only[DV,DT,DW];omega};rw[yu.out,Nat.sub_self];simp};rw[BQ t]at d;have yw:=Af d;have au:(x.code==11)=false:=xAr;clear d t;go_wp2;exact⟨⟨f,j+1,fin,z,y,F,BS,BS,rfl,rfl,by go_num,BS,hown,hS,yw.out,r⟩,xAb⟩}
  .have ac:Dp ((l.drop f).take (j - f)) (l.drop j)=[]:=by
    have e:l.drop j=[]:=IU yDf;rw[e];rfl
   have J:=s.out;rw[ac,EZ]at J;have d:=Af J;clear ac s J
   go_wp2
   go_ret;have hI:=hS.ice Av C6 dZ.out;rw[d.out];exact⟨z,y,rfl,hI.sub (λ_ h=>h) B8,r⟩
def upTo(g:Nat):Γ:=List.range (g+1)
def Jt{b:Nat}:b∈upTo g↔b<=g:=by unfold upTo;rw[List.mem_range];omega
def TM:g∈upTo g:=Jt.2 (DN _)
def PT(h:g<n):∀b∈upTo g,b<n:=λ_ a=>Nat.lt_of_le_of_lt (Jt.1 a) h
theorem Kx{b:Nat}:b∈ob v↔v.ownBlock=some b:=by
 unfold ob;cases v.b with
 |none=>simp|some c=>simp[eq_comm]
theorem ju{P Q:Φ}{w:AU}{ds:Ψ}(h:Jk Q w v ds)(x:∀b,Q b->P b):SlC P w (Ih ds) v:=by
 obtain⟨a,cap,rfl,⟨c,d⟩,f⟩:=h;refine⟨a,cap,BU,by simpa using c,d,λl=>?_⟩;have⟨b,o,e,r,s,_⟩:=f 0 (by cases ds;exact absurd rfl l;simp);refine⟨b,o,Di ds,e,x b r,s,RP ds,λj u t=>?_⟩
 have:=VQ (b:=b) (o:=o) (λi hi=>by
  have⟨z,y,c,_,_,d⟩:=f i hi;rw[e]at c;cases c
  exact d) j u t
 rwa [KX]at this
def Sv.devsNew{Q:Φ}{w:AU}{bs:Γ}{ts:Ao}{ds:Ψ}(h:Sv w bs ts)(hd:Jk Q w v ds)(a:∀b,Q b->b∉bs):Sv w bs (([sl (Ih ds)],[v])::ts):=⟨h.1,BA.2 ⟨I9.2 (ju hd a),h.2⟩⟩
def GR(q g P n k B:Nat)(bs:Γ)(W:AU)(v:AW)(hs:Ao):Prop:=∃(l:AP)(a:Θ),W.ownsRow B 73 3 v l.length a/\Sv W (ob v++bs) ((Cc l,a)::hs)/\(∀i∈l,Rk i/\i.O.args.length<=q)/\(k<=l.length/\l.length<=n)/\Kw W g P
section
variable {u:AW}
variable {q g P P' n n' m k k' B:Nat}{bs:Γ}{w W W':AU}{v:AW}{hs ks:Ao}{es fs:AP}{cs ds:Θ}{i:Stil.Ar}{b:Nat}
def GR.rd(h:GR q g P n k B bs W v hs):Kw W g P:=let ⟨_,_,_,_,_,_,e⟩:=h;e
def GR.lo(h:GR q g P n k B bs W v hs):∀c,v.ownBlock=some c->B<=c/\c<W.heap.size:=let ⟨_,_,a,_⟩:=h;λc d=>a.lt c d
theorem GR.grown(h:GR q g P n k B bs W v hs)(p:g<B)(f:g∈bs)(hg:W.grownBy W' (some g))(hr:Kw W' g P'):GR q g P' n k B bs W' v hs:=by
 obtain⟨l,o,a,b,c,d,_⟩:=h
 exact⟨l,o,a.kept hg (by
  cases j:v.ownBlock with
  |none=>exact .inl rfl
  | some q=>exact .inr λe=>by cases e;have:=(a.lt _ j).1;omega),b.grow hg (λq e=>by cases e;exact EP _ f),c,d,hr⟩
def GR.form(h:GR q g P n k B bs W v hs):∃a c,∃m:Nat,v=.slice a m c:=by obtain⟨l,d,e,_⟩:=h;obtain⟨a,c,rfl,-⟩:=Jw e;exact⟨_,_,_,rfl⟩
theorem GR.drew(h:GR q g P n k B bs W v hs):GR q g P n k B bs W.drew v hs:=by obtain⟨l,f,a,b,c,d,e⟩:=h;exact⟨l,f,a.drew,b.drew,c,d,OH e⟩
theorem GR.later(h:GR q g P n k B bs W v hs)(h1:P<=P')(j:n<=n')(o:k'<=k):GR q g P' n' k' B bs W v hs:=by obtain⟨l,f,a,b,c,d,e⟩:=h;exact⟨l,f,a,b,c,BS,Iw e h1⟩
def GR.set{o:Nat}(h:GR q g P n k B bs W v hs)(j:b∈bs)(h1:b<B)(f:g<b):GR q g P n k B bs (W.setCell (AK b o) u) v hs:=by obtain⟨l,p,a,s,c,d,e⟩:=h;exact⟨l,p,ownsRow_setCell_below a h1 _,s.set (EP _ j),c,d,KW e f _⟩
theorem GR.der(h:GR q g P n k B bs W v hs)(f:∀l d,Sv W (ob v++bs) ((Cc l,d)::hs)->Sv W (ob v++bs) ((Cc l,d)::ks)):GR q g P n k B bs W v ks:=by obtain⟨l,d,a,b,c⟩:=h;exact⟨l,d,a,f l d b,c⟩
def GR.sub(h:GR q g P n k B bs W v hs)(f:∀x∈ks,x∈hs):GR q g P n k B bs W v ks:=h.der λ_ _ s=>s.sub (λ_ h=>h) (BA.2 ⟨.head _,λx a=>.tail _ (f x a)⟩)
def GR.cat(h:GR q g P n k B bs W v hs)(h1:(Cc es,cs)∈hs)(a:(Cc fs,ds)∈hs):GR q g P n k B bs W v ((Cc (es++fs),cs++ds)::hs):=h.der λ_ _ s=>by
 have:=s.cat (Ax h1) (Ax a)
 rw[<-D4]at this;exact this.sub (λ_ h=>h) (BA.2 ⟨.tail _ Av,BA.2 ⟨.head _,λx c=>.tail _ (Ax c)⟩⟩)
theorem GR.code(h:GR q g P n k B bs W v hs)(c:Int):GR q g P n k B bs W v ((Cc [Gh c],[.int .i64 c,.int .i64 0,.slice none 0 0])::hs):=h.der λ_ _ s=>(s.snil.mkI (i:=c) (op:=0) (ds:=[]) Av).sub (λ_ h=>h) (BA.2 ⟨.tail _ (Ax Av),BA.2 ⟨.head _,λ_x a=>.tail _ (Ax (Ax a))⟩⟩)
theorem GR.dev{Q:Φ}(h:GR q g P n k B bs W v hs)(hd:Jk Q W u i.O.args)(a:∀b,Q b->b∉ob v++bs):GR q g P n k B bs W v ((Cc [i],[AB i.code,AB i.O.op,u])::hs):=h.der λ_ _ s=>((s.devsNew hd a).mkI (i:=i.code) (op:=i.O.op) (ds:=i.O.args) Av).sub (λ_ h=>h) (BA.2 ⟨.tail _ (Ax Av),BA.2 ⟨.head _,λ_x c=>.tail _ (Ax (Ax c))⟩⟩)
theorem GR.put(z:AZ)(h:GR q g P n k B bs W v hs)(Q:g<B)(K:B<=W.heap.size)(C:(Cc es,cs)∈hs)(I:∀i∈es,Rk i/\i.O.args.length<=q)(J:n+m<=1000000)(t:es.length=m):
  ∃e d,(Builtin.append_ #[23,23] z #[v,AE (some (AL W 0)) m m]).run prog (W.alloc (.cells cs.toArray 73))=.ok e d/\GR q g P (n+m) (k+m) B bs d e hs/\W.grownBy d v.ownBlock:=by subst t;obtain⟨l,N,y,A,F,O,D⟩:=h;obtain⟨e,d,E,a,c,rfl,o,s,r,-⟩:=Sv.appM (f:=Ou) (L:=l) (M:=es) (u:=AE (some (AL W 0)) es.length es.length) z kdI (A.alloc (.cells cs.toArray 73)) Av (Ax C) (λ_=>rfl) ⟨_,_,by rw[Db],.inr ⟨_,0,rfl,BU,λj u H=>by have:=Ub W cs 73 _ rfl j u H;rwa [KX]at this⟩⟩ (y.alloc _) yBb BS;exact⟨_,d,E,⟨l++es,_,o,s.sub (λ_ h=>h) (BA.2 ⟨.head _,λx G=>.tail _ (Ax G)⟩),λi hi=>(BI.1 hi).elim (F i) (I i),xCr,Qs (Gl D _) r (λk t=>by have:=(y.lt k t).1;omega)⟩,Iy (grown_below (Aa _ _) _) r⟩
theorem GR.ice(h:GR q g P n k B bs W v hs)(e:∀b∈bs,b<B):∃(l:AP)(a:Δ)(c:Nat),v=AE a l.length c/\Sv W bs [([sl (Cc l)],[AE a l.length c])]/\(∀i∈l,Rk i/\i.O.args.length<=q)/\(k<=l.length/\l.length<=n)/\l.length<=c:=by obtain⟨l,s,d,j,r,f,_⟩:=h;obtain⟨a,c,rfl,o⟩:=Jw d;exact⟨l,a,c,rfl,(j.ice Av xBc e).sub (λ_ h=>h) (λx p=>by cases BB.1 p;exact .head _),r,f,o⟩
def GS(q g P n:Nat)(w W:AU)(v:AW)(hs:Ao):Prop:=GR q g P n 0 w.heap.size (upTo g) W v hs/\w.grownBy W (some g)
theorem GS.new(h:Kw w g P):GS q g P 0 w (w.alloc (.cells #[] 73)) (AE (some (AL w 0)) 0 0) []:=by have c:=World.ownsRow_lit (base:=w.z) (e:=73) (size:=3) w #[] 0 BS CH rfl;exact⟨⟨[],[],by simpa using c,(Sv.box (bs:=upTo g) (ts:=[]) ⟨PT (Je h),λx a=>by cases a⟩ _).nil,λ_ h=>CQ,⟨DN _,DN _⟩,Gl h _⟩,grown_below (Aa _ _) _⟩
def GS.rd(h:GS q g P n w W v hs):Kw W g P:=h.1.rd
def GS.grown(h:GS q g P n w W v hs)(a:g<w.heap.size)(hg:W.grownBy W' (some g))(hr:Kw W' g P'):GS q g P' n w W' v hs:=⟨h.1.grown a TM hg hr,Iy h.2 hg⟩
def GS.below(h:GS q g P n w W v hs)(c:g<w.heap.size)(a:AO W W'):GS q g P n w W' v hs:=h.grown c (grown_below a _) (Qs h.rd (grown_below a none) BU)
def GS.later(h:GS q g P n w W v hs)(h1:P<=P')(a:n<=m):GS q g P' m w W v hs:=⟨h.1.later h1 a (DN _),h.2⟩
def GS.sub(h:GS q g P n w W v hs)(k:∀x∈ks,x∈hs):GS q g P n w W v ks:=⟨h.1.sub k,h.2⟩
def GS.cat(h:GS q g P n w W v hs)(h1:(Cc es,cs)∈hs)(a:(Cc fs,ds)∈hs):GS q g P n w W v ((Cc (es++fs),cs++ds)::hs):=⟨h.1.cat h1 a,h.2⟩
def GS.code(h:GS q g P n w W v hs)(c:Int):GS q g P n w W v ((Cc [Gh c],[.int .i64 c,.int .i64 0,.slice none 0 0])::hs):=⟨h.1.code c,h.2⟩
theorem GS.hold{Q:Φ}{a:Δ}{c:Nat}(h:GS q g P n w W v hs)(_y:g<w.heap.size)(hd:Jk Q W (AE a i.O.args.length c) i.O.args)(p:∀b,Q b->b∉ob v++(upTo g)):GS q g P n w (W.alloc (.cells #[AB i.code,AB i.O.op,AE a i.O.args.length c] 73)) v (([sl (Cc [i])],[AE (some (AL W 0)) 1 1])::hs):=by obtain⟨⟨l,t,e,f,r,d,o⟩,s⟩:=h;exact⟨⟨l,t,e.alloc _,(((f.devsNew hd p).mkI (i:=i.code) (op:=i.O.op) (ds:=i.O.args) Av).lit (l:=[Ou i]) Av #[AB i.code,AB i.O.op,AE a i.O.args.l c] _ rfl rfl).sub (λ_ h=>h) (BA.2 ⟨.tail _ (Ax (Ax Av)),BA.2 ⟨.head _,λx j=>.tail _ (Ax (Ax (Ax j)))⟩⟩),r,d,Gl o _⟩,Iy s (grown_below (Aa _ _) _)⟩
theorem GS.held(h:GS q g P n w W v hs)(r:([sl (Cc [i])],[AE (some (AK b 0)) 1 1])∈hs):b<W.heap.size/\∃(a:Δ)(c:Nat),W.cell? (AK b 0)=some (AB i.code)/\W.cell? (AK b 1)=some (AB i.O.op)/\W.cell? (AK b 2)=some (AE a i.O.args.length c)/\GS q g P n w W v ((Cc [i],[AB i.code,AB i.O.op,AE a i.O.args.length c])::hs):=by obtain⟨⟨l,z,j,e,y⟩,C⟩:=h;have⟨F,E,o,_,_,d⟩:=I9.1 (e.2 _ (Ax r));cases o;have⟨_,_,D,t,_,s,f,d⟩:=d BU;cases t;obtain⟨u,rfl,hu⟩:=Qo.1 (Ph.O.1 f);obtain⟨a,c,rfl,_⟩:=hu.slice;simp only[Db]at d f;exact⟨s,a,c,d 0 _ rfl,d 1 _ rfl,d 2 _ rfl,⟨l,z,j,⟨e.1,BA.2 ⟨e.2 _ Av,BA.2 ⟨f,λx A=>e.2 x (Ax A)⟩⟩⟩,y⟩,C⟩
def GS.put(e:AZ)(h:GS q g P n w W v hs)(t:g<w.heap.size)(r:(Cc es,cs)∈hs)(s:∀i∈es,Rk i/\i.O.args.length<=q)(p:n+m<=1000000)(x:es.length=m):
  ∃a d,(Builtin.append_ #[23,23] e #[v,AE (some (AL W 0)) m m]).run prog (W.alloc (.cells cs.toArray 73))=.ok a d/\GS q g P (n+m) w d a hs:=by have⟨a,d,f,l,o⟩:=h.1.put e t h.2.size r s p x;exact⟨a,d,f,⟨l.later (DN _) (DN _) (EH _),h.2.andThen o (λc j=>.inl (h.1.lo c j).1)⟩⟩
end
def K2(q:Nat)(e:Ending)(w w':AU)(g P n:Nat):Prop:=∃(l:AP)(a:Δ)(c:Nat),e=.returned (AE a l.length c)/\Sv w' (upTo g) [([sl (Cc l)],[AE a l.length c])]/\(∀i∈l,Rk i/\i.O.args.length<=q)/\l.length<=n/\l.length<=c/\Kw w' g P/\Below g w w'
def GS.out{q g P n:Nat}{w W:AU}{v:AW}{hs:Ao}(h:GS q g P n w W v hs)(o:g<w.heap.size):K2 q (.returned v) w W g P n:=by obtain⟨l,a,c,rfl,d,e,j,f⟩:=h.1.ice (PT o);exact⟨l,a,c,rfl,d,e,j.2,f,h.rd,Vd h.2 BS⟩
def Qy{c:Int}(h:1<=c/\c<=11):Rk (Gh c)/\(Gh c).O.args.length<=3:=⟨⟨by simp only[Gh];omega,xCv,λ_ h=>CQ,xCv⟩,xCv⟩
