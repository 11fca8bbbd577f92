import Derived.Test.YthdogflpbpkbeaaGreatDoorG3
import Derived.Test.YthdogflpbpkbeaaGreatDoorCH1
import Derived.Test.YthdogflpbpkbeaaGreatDoorZ9
set_option linter.defProp false
set_option maxHeartbeats 4000000
set_option maxRecDepth 100000
namespace Go.Proofs.YthdogflpbpkbeaaGreatDoor
open Tryz Stil Go.RowKit Go.Sort Go.BigFrame
def P8.tail{w:AU}{b o c:Nat}{x:Stil.DK}{r:Ξ}(h:P8 w (AE (some (AK b o)) (r.length+1) c) (x::r)):P8 w (AE (some (AK b (o+4))) r.length (c - 1)) r:=by obtain⟨z,u,e,q,n⟩:=h;simp only[DT,BN,true_and]at e;obtain⟨rfl,rfl⟩:=e;have s:=q.1;rw[DT]at s;refine⟨_,c - 1,rfl,⟨BS,λh=>by cases h⟩,λi hi=>?_⟩;have⟨v,y,f,l,t,j⟩:=n (i+1) yBf;simp only[FC,Addr.mk.injEq,Hj]at f;obtain⟨rfl,rfl⟩:=f;refine⟨b,o+4,rfl,l,t,?_⟩;rw[LQ]at j;have m:o+(i+1)*4=o+4+i*4:=BS;rwa[<-m]
def ZN(x:Stil.DK)(K:Ad x<=1000000)(u:IA 116 x (Ak x)):IA 158 x (Au x):=by
 intro y s w p l;have q:=BZ (λW(h:AO w W)=>u y s W (p.below h) (l.below h));have A:=WG x;have f:Hid (Au x=if x.kind=1 then 1 else 1+Ak x):=rfl;have⟨j,t⟩:=AA (Ak x);have⟨T,v⟩:=AA (Au x);rw[<-t]at q A f;rw[<-v]at f⊢;have⟨k,z⟩:=AA x.kind;rw[<-z]at q f⊢;obtain⟨E,L,rfl,C⟩:=p.S;obtain⟨H,M,rfl,B,_⟩:=l.S;clear u C B t v z p l;by_cases m:k=1
 .subst m;have r:Hid (T=1):=by show _=_;rw[f.out];rfl
  clear f;go_enter func158,ntmps158;go_wp2;go_ret;exact⟨Fp (by rw[r.out];rfl),BV⟩
 have r:Hid (T=1+j):=by show _=_;rw[f.out,BQ m]
 have I:(k==1)=false:=xAr;clear f;go_enter func158,ntmps158;go_wp2_with(go_at_call 116;refine(q _ BV).mo ?_;rintro e J⟨rfl,G⟩);go_ret;exact⟨Fp (by rw[r.out];go_num),BV⟩
def XS(n:Stil.DK):Tu n->Ad n<=1000000->IA 116 n (Ak n):=by
 induction n using Gp with
 |h k e kids B=>
  intro H u av nv w C l;simp only at C l;have⟨N,s⟩:=(Za _ _ _).1 H;rw[Dn]at u;simp only at u;have q:∀x∈kids,Ad x<=1000000:=λx hx=>by have:Ad x<=Stil.sizes kids:=Fa Ad kids x hx;omega
  have I:kids.length<=999999:=by have:=Gg kids;omega
  obtain⟨p0,r0,rfl,U⟩:=C.S;by_cases v:k=1;{subst v;rw[V8];obtain⟨p1,f,rfl,ai,_⟩:=l.S;clear U ai B q I H N s u C l;go_enter func116,ntmps116;go_wp2;go_ret;exact⟨rfl,BV⟩};obtain⟨x,r,rfl⟩:=PL (N v);rw[Ll e x r v];have S:=l;obtain⟨p1,f,rfl,J,aa⟩:=l.S;obtain⟨b,o,rfl,t,E⟩:=aa 0 BU;simp only[IQ,G0,IV]at E;have ag:r.length+1<=f:=by have:=J.1;simp only[DT]at this;exact this
  have R:P8 w (AE (if f=1 then some (AK b o) else some (AK b (o+4))) r.length (f - 1)) r:=by by_cases O:f=1;{rw[BR O];have af:r=[]:=BL.1 BS;subst af;exact⟨_,_,rfl,⟨EH _,λh=>by cases h⟩,λi hi=>by simp at hi⟩};rw[BQ O];exact P8.tail (by simpa only[DT]using S)
  have hE:∀args w,(callFunc 158 args).run prog w=.ok (.enter 158 args) w:=enters_of func158 BW rfl;have X:r.length<=999999:=by simp only[DT]at I;omega
  have z:Hid (∀W,AO w W->Calls prog 157 #[AE (if f=1 then some (AK b o) else some (AK b (o+4))) r.length (f - 1),AB (Ak x),.func (.func 158) #[] #[]] W (AN W (AB (A8 (Ak x) (r.map Au))))):=by intro W h;refine TY r Au 158 hE (λy hy=>?_) _ _ W (R.below h) X;have A:y∈x::r:=Da _ hy;exact ZN y (q y A) (B y A (s y A) (q y A))
  have⟨x0,x1,gG,T,x2,Q,M,L⟩:=E.open;have V:=BZ (λW(h:AO w W)=>B x BU (s x BU) (q x BU) gG T W (M.below h) (L.below h));have⟨G,ac⟩:=AA (Ak x);rw[<-ac]at z V⊢;have⟨ab,Z⟩:=AA (A8 G (r.map Au));rw[<-Z]at z⊢;simp only[DT];have⟨m,hm⟩:=AA r.length;have ak:m+1<=f:=by have:=J.1;simp only[DT]at this;omega
  rw[<-hm]at z X⊢;obtain⟨q0,s0,rfl,ah⟩:=M.S;obtain⟨q1,s1,rfl,ae,_⟩:=L.S;have ap:(k==1)=false:=xAr;clear U ah ae R S aa E hE ac Z B q I hm J C l M L H N s u ag;go_enter func116,ntmps116;go_wp2;have⟨W,D⟩:=AA (w.alloc (.cells #[AB k,AB e.op,AE p0 e.args.length r0,AE (some (AK b o)) (m+1) f] 63));rw[<-D];have j:AO w W:=by rw[D];exact Aa _ _
  have Y:W.c (AL w 3)=some (AE (some (AK b o)) (m+1) f):=by rw[D];simp[go_sem]
  have k0:=cell_regrown ((j.cell (p:=(AK b o)) t).tr x0);have k1:=cell_regrown ((j.cell (p:=(AK b (o+1))) t).tr x1);have k2:=cell_regrown ((j.cell (p:=(AK b (o+2))) t).tr x2);have k3:=cell_regrown ((j.cell (p:=(AK b (o+3))) t).tr Q);have k6:=cell_regrown Y;have an:(1:Int)<=(m:Int)+1:=BS;have al:(m:Int)+1<=(f:Int):=BS;have ao:(0:Int)<(m:Int)+1:=BS;clear D Y x0 x1 x2 Q;refine wp_region_quiet_below BW BW ?_;repeat(go_big_quiet_step ((first|exact Calls.regrown_of (V _ (Ie j _ _))|exact Calls.regrown_of (z _ (Ie j _ _)))))
  refine wpQuiet_nil ?_;intro _ aj;obtain⟨⟨dq,osq⟩,ad⟩:=aj;subst ad;go_wp2;all_goals go_ret
  all_goals exact⟨rfl,Ie j _ _⟩
def Azk(w:AU):P8 w AG []:=⟨none,0,rfl,⟨DN _,λ_=>rfl⟩,λi hi=>by simp at hi⟩
def Azj{W:AU}{n:Stil.DK}{e f:AW}(q:F3 W e n.O.args)(l:P8 W f n.K):P8 (W.alloc (.cells #[AB n.kind,AB n.O.op,e,f] 63)) (AE (some (AL W 0)) 1 1) [n]:=by
 have j:=Aa W (.cells #[AB n.kind,AB n.O.op,e,f] 63);refine⟨_,1,rfl,⟨DN _,λh=>by cases h⟩,λi hi=>?_⟩;have m:i=0:=by simp at hi;exact hi
 subst m;refine⟨W.z,0,rfl,trivial,BU,?_⟩;rw[IQ,NY];exact⟨xAa,xAa,⟨e,xAa,q.below j⟩,⟨f,xAa,l.below j⟩⟩
def nA(n:Stil.DK)(y x:AW)(w:AU)(v:F3 w y n.O.args)(s:P8 w x n.K)(G:Ci n):
  Calls prog 160 #[.agg #[AB n.kind,AB n.O.op,y,x]] w λe D=>∃a c,e=.returned (.slice a (Bv n).length c)/\P8 D (.slice a (Bv n).length c) (Bv n)/\AO w D:=by
 have r:=BZ (λW h=>Ux n y x W (v.below h).at (s.below h).at G);have z:Hid (∀W,AO w W->F3 W y n.O.args/\P8 W x n.K):=λW h=>⟨v.below h,s.below h⟩;obtain⟨H,L,rfl,_⟩:=v.S;obtain⟨A,B,rfl,_,_⟩:=s.S;have l:Hid (Bv n=if Aj n then [] else if n.kind=2 then n.K else [n]):=rfl;have⟨t,E⟩:=AA (Aj n);rw[<-E]at r l;clear v s E;cases t with
 |true=>have e:Bv n=[]:=l.out;rw[e];clear e l;go_enter func160,ntmps160;go_wp2_with(go_at_call 124;refine(r _ BV).mo ?_;rintro e f⟨rfl,m⟩);go_ret;exact⟨none,0,rfl,Azk _,BV⟩
 |false=>
  by_cases u:n.kind=2;{have e:Bv n=n.K:=(by rw[l.out];simp[u]);rw[e];rw[u]at r⊢;clear e l;go_enter func160,ntmps160;go_wp2_with(go_at_call 124;refine(r _ BV).mo ?_;rintro e f⟨rfl,m⟩;have⟨j,C⟩:=F7 m;have J:w.z<f.z:=DO BU m.size;have I:f.cell? (AL w 0)=some (AB 2):=xAq;have K:f.cell? (AL w 3)=some (AE A n.K.l B):=xAq;clear j C);go_ret;have q:AO w f:=BV;exact⟨A,B,rfl,(z _ q).2,q⟩};have e:Bv n=[n]:=by rw[l.out];simp[u]
  rw[e];have O:(n.kind==2)=false:=xAr;clear e l;go_enter func160,ntmps160;go_wp2_with(go_at_call 124;refine(r _ BV).mo ?_;rintro e f⟨rfl,m⟩;have⟨j,C⟩:=F7 m;have J:w.z<f.z:=DO BU m.size;have I:f.cell? (AL w 0)=some (AB n.kind):=xAq;have M:f.cell? (AL w 1)=some (AB n.O.op):=xAq;have N:f.cell? (AL w 2)=some (AE H n.O.args.l L):=xAq;have K:f.cell? (AL w 3)=some (AE A n.K.l B):=xAq;clear j C);go_ret;have q:AO w f:=BV;exact⟨_,_,rfl,Azj (z _ q).1 (z _ q).2,BV⟩
def pB(x:Stil.DL)(hs:Ah x<=1000000)(hf:Ba x)(ac:Et x)(ih:GU 117 x (Bq x)):GU 159 x (Gs x.N (Bq x)):=by
 intro L J cv kv w K H R M;have E:Ci x.N/\Gu x.N/\Stil.CM x.N<=999999:=by obtain⟨n,c,k⟩:=x;rw[Dy]at hs;exact⟨((Ep _ _ _).1 hf).1,((Ee _ _ _).1 ac).1,yCi⟩
 have hE:∀args w,(callFunc 158 args).run prog w=.ok (.enter 158 args) w:=enters_of func158 BW rfl;have S:Hid (∀W,AO w W->Calls prog 117 #[.agg #[AB x.N.kind,AB x.N.O.op,L,J,cv,kv]] W (AN W (AB (Bq x)))):=λW h=>ih L J cv kv W (K.below h) (H.below h) (R.below h) (M.below h);have HB:Hid (∀W,AO w W->Calls prog 160 #[.agg #[AB x.N.kind,AB x.N.O.op,L,J]] W λe C=>∃a c,e=.returned (.slice a (Bv x.N).length c)/\P8 C (.slice a (Bv x.N).length c) (Bv x.N)/\AO W C):=λW h=>nA x.N L J W (K.below h) (H.below h) E.1;have T:(Bv x.N).length<=999999:=by unfold Bv;split;{simp};rename_i h0;have e:Stil.CM x.N=Ad x.N:=BQ h0;split;{have h1:=Gg x.N.K;have h2:=Dn x.N;have h3:=E.2.2;omega};simp
 have I:Hid (∀W v,P8 W v (Bv x.N)->Calls prog 157 #[v,AB (Bq x),.func (.func 158) #[] #[]] W (AN W (AB (Gs x.N (Bq x))))):=by
  intro W v h;refine TY (Bv x.N) Au 158 hE (λy hy=>?_) _ v W h T;have ad:Ad y<=1000000:=by have:=NW x.N y hy;have:=E.2.2;omega
  exact ZN y ad (XS y (YA E.2.1 y hy) ad)
 have⟨B,X⟩:=AA (Bv x.N);have⟨tb,ag⟩:=AA (Bq x);have⟨ae,hR⟩:=AA (Gs x.N (Bq x));rw[<-hR]at I⊢;rw[<-X]at HB I;rw[<-ag]at S I;obtain⟨l,r,rfl,_⟩:=K.S;obtain⟨q,s,rfl,_,_⟩:=H.S;obtain⟨u,m,rfl,_⟩:=R.S;obtain⟨z,t,rfl,_,_⟩:=M.S;clear ih X ag hR hE E T K H R M hf ac;go_enter func159,ntmps159;go_upto_region 1 with fail;have⟨W,G⟩:=AA (w.alloc (A5 x l r q s u m z t 66));rw[<-G];have Q:AO w W:=by rw[G];exact Aa _ _
 have A:w.heap.size<W.heap.size:=by rw[G];simp
 obtain⟨_,Y,-,y1,-,y2,-,Z,-,U,-,y5,-⟩:EB W w.heap.size (AB x.N.kind) (AB x.N.O.op) (AE l x.N.O.args.length r) (AE q x.N.K.length s) (AE u x.C.length m) (AE z x.K.length t):=by rw[G];exact qN6
 have N:Hid (∀V,AO W V->(V.cell? (AL w 0)=some (AB x.N.kind)/\V.cell? (AL w 1)=some (AB x.N.O.op)/\V.cell? (AL w 2)=some (AE l x.N.O.args.length r)/\V.cell? (AL w 3)=some (AE q x.N.K.length s)/\V.cell? (AL w 4)=some (AE u x.C.length m)/\V.cell? (AL w 5)=some (AE z x.K.length t))):=λV h=>⟨(h.cell (p:=(AL w 0)) A).trans Y,(h.cell (p:=(AL w 1)) A).trans y1,(h.cell (p:=(AL w 2)) A).trans y2,(h.cell (p:=(AL w 3)) A).trans Z,(h.cell (p:=(AL w 4)) A).trans U,(h.cell (p:=(AL w 5)) A).trans y5⟩;clear G;go_region_held3 (λD=>(D.cell? (AL w 0)=some (AB x.N.kind)/\D.cell? (AL w 1)=some (AB x.N.O.op)/\D.cell? (AL w 2)=some (AE l x.N.O.args.length r)/\D.cell? (AL w 3)=some (AE q x.N.K.length s)/\D.cell? (AL w 4)=some (AE u x.C.length m)/\D.cell? (AL w 5)=some (AE z x.K.length t))) (first|with_reducible assumption|with_reducible exact⟨Dl.trans Y,Dl.trans y1,Dl.trans y2,Dl.trans Z,Dl.trans U,Dl.trans y5⟩|skip) (first|(go_at_call 160;refine(HB.out _ (by exact Q.drew)).mono ?_;rintro e f⟨a1,c1,rfl,aa,ai⟩;have O:AO W f:=Bf (BP _ _).drew ai;have jA:Hid (∀V,AO f V->P8 V (AE a1 B.length c1) B):=(λV h=>aa.below h);have aj:(f.cell? (AL w 0)=some (AB x.N.kind)/\f.cell? (AL w 1)=some (AB x.N.O.op)/\f.cell? (AL w 2)=some (AE l x.N.O.args.length r)/\f.cell? (AL w 3)=some (AE q x.N.K.length s)/\f.cell? (AL w 4)=some (AE u x.C.length m)/\f.cell? (AL w 5)=some (AE z x.K.length t)):=N.out f O;clear aa)|(go_at_call 117;refine(S.out _ (by exact Bf Q O)).mono ?_;rintro e j⟨rfl,ab⟩;have af:AO W j:=Bf O ab;have al:(j.cell? (AL w 0)=some (AB x.N.kind)/\j.cell? (AL w 1)=some (AB x.N.O.op)/\j.cell? (AL w 2)=some (AE l x.N.O.args.length r)/\j.cell? (AL w 3)=some (AE q x.N.K.length s)/\j.cell? (AL w 4)=some (AE u x.C.length m)/\j.cell? (AL w 5)=some (AE z x.K.length t)):=N.out j af)|(go_at_call 157;refine(I.out _ _ (jA.out _ (by first|exact ab|exact BP _ _))).mono ?_;rintro e w3⟨rfl,ah⟩;have uF:AO W w3:=Bf af ah;have ak:(w3.cell? (AL w 0)=some (AB x.N.kind)/\w3.cell? (AL w 1)=some (AB x.N.O.op)/\w3.cell? (AL w 2)=some (AE l x.N.O.args.length r)/\w3.cell? (AL w 3)=some (AE q x.N.K.length s)/\w3.cell? (AL w 4)=some (AE u x.C.length m)/\w3.cell? (AL w 5)=some (AE z x.K.length t)):=N.out w3 uF));all_goals go_wp2;go_ret;exact⟨rfl,Bf Q uF⟩
def Avm(a:Stil.DL):Ah a<=1000000->Ba a->Et a->GU 117 a (Bq a):=by
 induction a using Fz with
 |h n cs kids C=>
  intro D u z U I O E w m l s j;simp only at m l s j;rw[Dy]at D;have⟨_,_,_,_,r⟩:=(Ep _ _ _).1 u;have⟨_,t⟩:=(Ee _ _ _).1 z;have q:∀x∈kids,Ah x<=1000000:=λx f=>by have:Ah x<=Ja kids:=Fa Ah kids x f;omega
  have B:kids.length<=999999:=xBr;have A:∀args w,(callFunc 159 args).run prog w=.ok (.enter 159 args) w:=enters_of func159 BW rfl;have y:=BZ (λW(h:AO w W)=>OI kids (λk=>Gs k.N (Bq k)) 159 A (λx f=>pB x (q x f) (r x f) (t x f) (C x f (q x f) (r x f) (t x f))) 1 E W (j.below h) B);rw[Oq];have⟨R,v⟩:=AA (A8 1 (kids.map (λk=>Gs k.N (Bq k))));rw[<-v]at y⊢;obtain⟨H,S,rfl,_⟩:=m.S;obtain⟨N,V,rfl,_,_⟩:=l.S;obtain⟨L,K,rfl,_⟩:=s.S;obtain⟨T,J,rfl,_,_⟩:=j.S;clear C v A D u z r t q B m l s j;go_enter func117,ntmps117;go_wp2_with(go_at_call 66;refine(y _ BV).mo ?_;rintro e Q⟨rfl,M⟩);go_ret;exact⟨rfl,BV⟩
def Avo(x:Stil.DL)(U:Ah x<=1000000)(C:Ba x)(t:Et x)(v:Aj x.N=false):GU 67 x (Hm x):=by
 intro r l S X w j f z B;have u:Gu x.N/\Ad x.N<=1000000:=by obtain⟨n,c,k⟩:=x;rw[Dy]at U;have e:Stil.CM n=Ad n:=BQ (by rw[show Aj n=false from v];exact GK);exact⟨((Ee _ _ _).1 t).1,yCi⟩
 have T:Tu x.N:=Stil.full_of _ (u.1.resolve_left (by rw[v];exact GK)).2.2;have H:=BZ (λW(h:AO w W)=>Avm x U C t r l S X W (j.below h) (f.below h) (z.below h) (B.below h));have Y:=BZ (λW(h:AO w W)=>XS x.N T u.2 r l W (j.below h) (f.below h));have O:Hid (Hm x=max (Ak x.N) (Bq x)):=rfl;rw[O.out];have⟨m,aa⟩:=AA (Bq x);have⟨s,E⟩:=AA (Ak x.N);rw[<-aa]at H⊢;rw[<-E]at Y⊢;obtain⟨I,Z,rfl,_⟩:=j.S;obtain⟨R,r1,rfl,_,_⟩:=f.S;obtain⟨N,M,rfl,_⟩:=z.S;obtain⟨p3,J,rfl,_,_⟩:=B.S;clear aa E u T v j f z B C t O;have ac:s<m\/¬s<m:=BS;rcases ac with ae|ae;all_goals
  go_enter func67,ntmps67;go_wp2_with fail;have⟨W,q⟩:=AA (w.alloc (A5 x I Z R r1 N M p3 J 66));rw[<-q];have y:AO w W:=by rw[q];exact Aa _ _
  obtain⟨_,K,-,G,-,Q,-,V,-,D,-,L,-⟩:EB W w.z (AB x.N.kind) (AB x.N.O.op) (AE I x.N.O.args.l Z) (AE R x.N.K.l r1) (AE N x.C.l M) (AE p3 x.K.l J):=xCt;have k0:=cell_regrown K;have k1:=cell_regrown G;have k2:=cell_regrown Q;have k3:=cell_regrown V;have k4:=cell_regrown D;have k5:=cell_regrown L;clear q K G Q V D L;refine wp_region_quiet_below BW BW ?_;repeat(go_big_quiet_step ((first|exact Calls.regrown_of (Y _ (Ie y _ _))|exact Calls.regrown_of (H _ (Ie y _ _)))))
  refine wpQuiet_nil ?_;intro _ ad;obtain⟨⟨dq,osq⟩,ab⟩:=ad;subst ab;go_wp2;go_ret;exact⟨Fp (by congr 1;omega),Ie y _ _⟩
def cw(l:Ek)(s:AW)(w:AU)(hr:Eh w)(hg:Ew w)(C:Dj w s l)(hl:l.length<=1048576)(E:Aw l<=1000000000)(q:∀x∈l,Ba x):
  Calls prog 31 #[s] w (AN w (AB (G7 l))):=by have HC:=Af (λW(h:AO w W)=>Xe l s W [] [] ⟨(λb D=>by cases D),λx f=>by cases f⟩ (hr.below h) (hg.below h) (C.below h) hl E q);have⟨t,A,y⟩:=Kt q;have j:=U6 l;have m:Hid (G7 l=A8 0 ((Ai l).map Hm)):=rfl;have⟨L,u⟩:=AA (Ai l);rw[<-u]at HC t A y m j;have z:∀args w,(callFunc 67 args).run prog w=.ok (.enter 67 args) w:=enters_of func67 BW rfl;have HM:=BZ (λW v(h:Vg W v L)=>OI L Hm 67 z (λx f=>Avo x (by have:=Uh f;omega) (t x f) (j x f).1 (j x f).2) 0 v W h BS);rw[m.out];have⟨R,B⟩:=AA (A8 0 (L.map Hm));rw[<-B]at HM⊢;obtain⟨H,I,rfl,G⟩:=C;clear G hr hg q t A y m u z B j;go_enter func31,ntmps31;exact zta
end Go.Proofs.YthdogflpbpkbeaaGreatDoor
namespace Go.Co
open Go.Conc
section
variable {F:Func}{args:δ}{c d:Code}{g:AX}{i:Nat}{o:Oper}{ops:Array Oper}{rest:Γ}
variable {P:AY}{Stop:AX -> AU -> Prop}{a:Act}{w:AU}{b:Frame}{k:List Item}{cs:List Frame}
def Al(Q:AU->Prop)(w:AU):Prop:=∃e d,Q {w with tape:=e,drawn:=d}
def Al.of{Q:AU->Prop}(h:Q w):Al Q w:=⟨w.tape,w.drawn,h⟩
def V6(p:OkP P)(S:AX->World->Prop)(hr:g.status=.running)(v:∀g w,S g w->g.status=.running)
  (H:∀m d,∃n f j,runN P n (solo g {w with tape:=m,drawn:=d})=.next (solo f j)/\S f j) (h:∀f j,Al (S f) j->Comes P f j Stop):Comes P g w Stop:=by
 intro y sl t hF q;have s:Way P (λf j=>Al (S f) j) g w:=by refine vu p _ (λf j⟨m,d,l⟩=>v _ _ l) (λf j m e⟨x,u,l⟩=>⟨x,u,l⟩) g q hr w fun m d=>?_;have⟨n,f,j,r,l⟩:=H m d;exact⟨n,f,j,r,Al.of l⟩
 exact(vb p s).then (λf j _ l=>h f j l) y sl t hF q
theorem Tz(r:OkP P){fr fr':Frame}{cs cs':List Frame}(p:∀j,stepG P true (G fr cs) j=.go (G fr' cs') j #[])(h:∀l,Al (λx=>x=w) l->Comes P (G fr' cs') l Stop):Comes P (G fr cs) w Stop:=by
 refine V6 r (λm f=>m=G fr' cs'/\Al (λx=>x=w) f) rfl (λg w h=>by rw[h.1];rfl) (fun e d=>?_) ?_
 .refine⟨1,G fr' cs',{w with tape:=e,drawn:=d},?_,rfl,⟨w.tape,w.drawn,rfl⟩⟩;have t:step P (solo (G fr cs) {w with tape:=e,drawn:=d})=.next (solo (G fr' cs') {w with tape:=e,drawn:=d}):=step_lone_go (by rw[show({frame:=fr,callers:=cs,status:=.running,dying:=none}:AX)=G fr cs from rfl,p];rfl);simp only[runN,t]
 rintro m f⟨e,d,rfl,s,q,n⟩;exact h f ⟨s,q,n⟩
def V4(f:OkP P)(h:∀e,Al (λx=>x=w) e->Comes P (G (b.at a (.code c::.code d::k)) cs) e Stop):Comes P (G (b.at a (.code (.seq c d)::k)) cs) w Stop:=
 Tz f (λ_=>stepG_seq) h
def Rh(f:OkP P){j:Nat}(h:∀e,Al (λx=>x=w) e->Comes P (G (b.at a (.inRegion ops (List.range ops.size)::k)) cs) e Stop):Comes P (G (b.at a (.code (.region j ops false)::k)) cs) w Stop:=
 Tz f (λ_=>stepG_region) h
def NJ(f:OkP P)(h:∀e,Al (λx=>x=w) e->Comes P (G (b.at a k) cs) e Stop):Comes P (G (b.at a (.inRegion ops []::k)) cs) w Stop:=
 Tz f (λ_=>stepG_region_end) h
def Qj(l:OkP P){v:AW}(m:ops[i]?=some o)(n:Region.wanted o (yielded ops a.tmps)=true)(p:b.kind≠.early)
  (hr:∀e:AU,(execOp a.eval o).run P e=.ok (.value v) e) (j:∀e:AU,(execOp a.eval o).events P e #[]=#[]) (h:∀f,Al (λx=>x=w) f->Comes P (G (b.at (a.put o.dst v) (.inRegion ops rest::k)) cs) f Stop):Comes P (G (b.at a (.inRegion ops (i::rest)::k)) cs) w Stop:=by refine Tz l (λe=>?_) h;rw[stepG_value m n p (hr e)];unfold listed;rw[j,seen_none]
def Z9(P:AY)(f:FuncId)(args:δ)(w:AU)(Post:AW->World->Prop):Prop:=
 ∀(e:Frame)(cs:List Frame)(Stop:AX->World->Prop),(∀v h,Post v h->Comes P (G (e.finish v) cs) h Stop)->Comes P (G (Frame.enter P f args .normal) (e::cs)) w Stop
theorem XJ(t:OkP P){f:FuncId}{Post:AW->World->Prop}(h:∀j d,Calls P f args {w with tape:=j,drawn:=d} λe l=>∃v,e=.returned v/\Post v l):Z9 P f args w (λv=>Al (Post v)):=by
 intro m cs Stop r;refine V6 t (λq l=>∃v,q=G (m.finish v) cs/\Post v l) rfl (λg w⟨v,h,_⟩=>by rw[h];rfl) (fun j d=>?_) ?_
 .obtain⟨e,l,x,⟨v,rfl,p⟩,⟨n,s⟩,_,u⟩:=h j d (m::cs);refine⟨n+1,G (m.finish v) cs,l,?_,v,rfl,p⟩;rw[runN_add];rw[show solo (G (Frame.enter P f args .normal) (m::cs)) {w with tape:=j,drawn:=d}=lone (Frame.enter P f args .normal) (m::cs) {w with tape:=j,drawn:=d} from rfl,s];have:=step_leave_returned (c:=m) (cs:=cs) u;simp only[runN,this];rfl
 rintro q l⟨j,d,v,rfl,p⟩;exact r v l ⟨j,d,p⟩
theorem Z9.mono{f:FuncId}{Post j:AW->World->Prop}(h:Z9 P f args w Post)(n:∀v e,Post v e->j v e):Z9 P f args w j:=
 λl cs Stop m=>h l cs Stop λv e q=>m v e (n v e q)
abbrev Z9.mo:=@Z9.mono
def enter_at{f:FuncId}(args:δ)(e:P.funcs[f]?=some F)(h:F.body=some c):Frame.enter P f args .normal=(base f).at {tmps:=args++Array.replicate (F.ntmps - args.size) AQ,defers:=[]} [.code c]:=by simp[Frame.enter,e,h,base,Frame.at]
theorem Qf(p:OkP P){f:FuncId}{args:Array Operand}{s:Array AZ}{vals:δ}{Post:AW->World->Prop}(m:ops[i]?=some o)(y:Region.wanted o (yielded ops a.tmps)=true)(J:b.kind≠.early)
  (u:o.op=.call {callee:=.value (.func f),args,argTypes:=s}) (j:P.funcs[f]?=some F) (n:F.body=some c) (t:args.map a.eval=vals) (E:∀e,Al (λx=>x=w) e->Z9 P f vals e Post)
  (h:∀v e,Post v e->Comes P (G (b.at (a.put o.dst v) (.inRegion ops rest::k)) cs) e Stop):Comes P (G (b.at a (.inRegion ops (i::rest)::k)) cs) w Stop:=by
 have z:=p.name f F j;refine Tz p (fr':=Frame.enter P f vals .normal) (cs':=b.at a (.inRegion ops (i::rest)::k)::cs) (λl=>?_) λe I=>E e I _ _ _ λv C H=>?_
 .have⟨q,e,r,B,D⟩:=goes_elim (goes_call (P:=P) (main:=true) (w:=l) (cs:=cs) (k:=k) (rest:=rest) (K:=λq e r=>q=G ((base f).at {tmps:=args.map a.eval++Array.replicate (F.ntmps - (args.map a.eval).size) AQ,defers:=[]} [.code c]) (b.at a (.inRegion ops (i::rest)::k)::cs)/\e=l/\r=#[]) m y J u j z n ⟨rfl,rfl,rfl⟩);obtain⟨rfl,rfl,rfl⟩:=D;rwa[enter_at vals j n,<-t]
 have A:(b.at a (.inRegion ops (i::rest)::k)).finish v=b.at (a.put o.dst v) (.inRegion ops rest::k):=by rw[Frame.finish_at,m];rfl
 rw[A];exact h v C H
theorem SA(v:OkP P){Q:Exit->Act->World->Prop}(u:∀e a w,Q e a w->e=.normal\/e=.ret)(h:∀p d,c.wp P Q a {w with tape:=p,drawn:=d})
  (t:∀f j,Al (Q .normal f) j->Comes P (G (b.at f k) cs) j Stop) (hr:∀f j l,Al (Q .ret f) j->Comes P (G {b.at f l with mode:=.returning} cs) j Stop):Comes P (G (b.at a (.code c::k)) cs) w Stop:=by
 refine V6 v (λr j=>(∃f,Q .normal f j/\r=G (b.at f k) cs)\/∃f l,Q .ret f j/\r=G {b.at f l with mode:=.returning} cs) rfl ?_ (fun p d=>?_) ?_
 .rintro g w (⟨_,_,rfl⟩|⟨_,_,_,rfl⟩)<;>rfl
 .have⟨e,f,j,m,s⟩:=h p d b k cs;rcases u _ _ _ m with rfl|rfl;{obtain⟨n,q⟩:=s;exact⟨n,_,j,q,.inl ⟨f,m,rfl⟩⟩};obtain⟨l,n,q⟩:=s;exact⟨n,_,j,q,.inr ⟨f,l,m,rfl⟩⟩
 rintro r j⟨p,d,⟨f,m,rfl⟩|⟨f,l,m,rfl⟩⟩
 .exact t f j ⟨p,d,m⟩
 exact hr f j l ⟨p,d,m⟩
def IZ:List Code->Code->Code
 |[],d=>d
 |c::l,d=>.seq c (IZ l d)
def WpL(P:AY)(R:Act->World->Prop):List Code->Act->World->Prop
 |[],a,w=>R a w
 |c::l,a,w=>c.wp P (Exit.then (WpL P R l) λ_ _ _=>False) a w
theorem Z6{R:Act->World->Prop}:∀(l:List Code)(a:Act)(w:AU),WpL P R l a w->∃j f,R j f/\Steps P (lone (b.at a (.code (IZ l d)::k)) cs w) (lone (b.at j (.code d::k)) cs f)
 |[],a,w,h=>⟨a,w,h,Steps.refl _ _⟩
 |c::l,a,w,h=>by
  have⟨e,p,q,m,s⟩:=h b (.code (IZ l d)::k) cs;cases e with
  |normal=>
   have⟨j,f,n,r⟩:=Z6 l p q m;exact⟨j,f,n,(Steps.head step_seq s).trans r⟩
  |_=>exact m.elim
theorem QZ(s:OkP P)(l:List Code){R:Act->World->Prop}(h:∀m j,WpL P R l a {w with tape:=m,drawn:=j})(r:∀e f,Al (R e) f->Comes P (G (b.at e (.code d::k)) cs) f Stop):Comes P (G (b.at a (.code (IZ l d)::k)) cs) w Stop:=by
 refine V6 s (λq f=>∃e,R e f/\q=G (b.at e (.code d::k)) cs) rfl ?_ (fun m j=>?_) ?_
 .rintro g w⟨_,_,rfl⟩;rfl
 .have⟨e,f,p,n,t⟩:=Z6 (b:=b) (k:=k) (cs:=cs) (d:=d) l a _ (h m j);exact⟨n,_,f,t,e,p,rfl⟩
 rintro q f⟨m,j,e,p,rfl⟩;exact r e f ⟨m,j,p⟩
theorem tL{Post:AW->World->Prop}(hg:OkG g)(h:Comes P g w λn f=>∀d,AtEnd P (λ_=>False) 0 Post n (f.at d)):
  ∃N last o f p,runNT P (N+1) (solo g w) #[]=(.ended o f,p)/\runN P N (solo g w)=.next last/\step P last=.ended o f/\Conc.Good P Post last o f p:=by
 have⟨N,M,n,f,r,p,m,⟨E,⟨q,s⟩,B,H⟩,_,_,J⟩:=h #[g] none #[] ⟨rfl,⟨_,leavers_one P g⟩,0,past_nil⟩ hg;have K:Goes P true AtRel (λ_ _ _=>False) (AtEnd P (λ_=>False) B Post) 0 n f:=by rintro Q⟨d,rfl⟩;have⟨t,v,G,u,l,I⟩:=J d;exact⟨t,v,G,u,λe j=>⟨(l e j).1,(l e j).2.1,(l e j).2.2.1,MemAct.low_mono (EH _) (l e j).2.2.2⟩,I⟩
 have⟨L,last,o,z,x,O,D,A,y⟩:=beside_ends (sl:=r) (λ_ _ _ h=>h.elim) E s H K;have C:crowd #[g] w none=solo g w:=rfl;rw[C]at m;refine⟨N+L,last,o,z,x,?_,?_,A,y⟩
 .rwa[Nat.add_assoc,runNT_add,m]
 rw[runN_add];have:runN P N (solo g w)=.next (crowd M f r):=by rw[<-runNT_fst _ _ _ #[],m]
 rwa[this]
end
end Go.Co
namespace Go.Proofs.YthdogflpbpkbeaaGreatDoor
open Tryz Stil Go.RowKit Go.Sort Go.BigFrame
def Ayk(n:Stil.DK)(Z:Gu n)(C:Ci n)(J:Stil.CM n<=400):MR 145 n (Bc n):=by
 intro V N w bs ts h t r;have Q:=Z1 Z;have D:Hid (∀y∈Bv n,VF 2 y (Dq 2 y)):=by
  intro y f;have E:Ap y=0/\Ci y/\Ad y<=400:=by have h3:=NW n y f;unfold Bv at f;split at f;{cases f};rename_i K;have ad:=Z.resolve_left K;split at f;{exact⟨N8 ad.2.2 y f,(Ea C).2.2.2 y f,BS⟩};rw[BB.1 f]at h3⊢;exact⟨ad.2.2,C,BS⟩
  exact fe 2 (.inl rfl) y (Ea E.2.1).2.1.2.1 (by have:=SX y E.1;omega) λ_=>UW y (TF y E.1) E.2.1 (DU E.2.2 BX)
 have x:=Af (λW(h:AO w W)=>Y2 n V N W (t.below h) (r.below h) C);have I:=Af (λW(h:AO w W)=>t.below h);have S:=Af (λW(h:AO w W)=>r.below h);have s:Hid (Bv n=if Aj n then [] else if n.kind=2 then n.K else [n]):=rfl;have q:Hid (Bc n=((Bv n).map (Dq 2)).flatten):=rfl;have hS:=h.alloc (.cells #[AB n.kind,AB n.O.op,V,N] 63);obtain⟨H,U,rfl,-⟩:=t;obtain⟨T,R,rfl,-⟩:=r;have ak:n.K.length<=1048576:=(Ea C).2.2.1;clear Z C h;have⟨bb,ac⟩:=AA (Aj n);rw[<-ac]at x s;clear ac;cases bb with
 |true=>
  have ai:Hid (Bc n=[]):=by show _=_;rw[q.out,s.out];rfl
  rw[ai.out];clear s q D I S Q;go_enter func145,ntmps145;go_wp2_with(go_at_call 110;refine(x _ BV).mo ?_;rintro e l⟨rfl,A⟩;replace hS:=hS.bel A);go_ret;exact⟨none,0,[],rfl,BJ _ _ _ _,hS.nil,BV⟩
 |false=>
  by_cases h2:n.kind=2
  .have z:Hid (Bv n=n.K):=(by show _=_;rw[s.out,BQ BX,BR h2]);rw[z.out]at q D;rw[q.out];rw[h2]at x hS⊢;have dW:Hid (∀j,((n.K.take j).map (Dq 2)).flatten.length<=800):=by
    intro j;rw[q.out]at Q;have h2:((n.K.take j).map (Dq 2)).flatten.length<=(n.K.map (Dq 2)).flatten.length:=by
     conv=>rhs;rw[<-KC j n.K,D4,Ft,DV]
     omega
    omega
   have⟨m,hm⟩:=AA n.K.length;have qG:=Af hm;rw[<-hm]at x ak hS⊢;clear s q z Q h2 hm I;have hA:=hS;clear hS;go_enter func145,ntmps145;go_wp2_with(go_at_call 110;refine(x _ BV).mo ?_;rintro e l⟨rfl,A⟩;have hS:=hA.bel A;obtain⟨O,q0,p0,q1,p1,q2,p2,q3,p3⟩:Dm l w.heap.size (AB 2) (AB n.O.op) (AE H n.O.args.length U) (AE T m R):=qB4);have dU:RowKit.Below w.heap.size w l:=BV;have hb0:Dm l w.heap.size (AB 2) (AB n.O.op) (AE H n.O.args.length U) (AE T m R):=qN4;clear q0 q1 q2 q3 p0 p1 p2 p3 A hA;go_loopw [3,4] (λd i wr=>∃(j:Nat)(L:AP)(ra:Δ)(rc:Nat)(xs:Θ),j<=m/\i=AB (j:Int)/\Hid (L=((n.K.take j).map (Dq 2)).flatten)/\L.length<=800/\d=AE ra L.length rc/\Dm wr w.heap.size (AB 2) (AB n.O.op) (AE H n.O.args.length U) (AE T m R)/\wr.ownsRow (w.heap.size+1) 73 3 (AE ra L.length rc) L.length xs/\Sv wr (ob (AE ra L.length rc)++bs) ((Cc L,xs)::ts)/\AO w wr) (λ_ i _=>m - (intOf i).toNat);case atStart=>refine⟨0,[],some (AL l 0),0,[],BS,rfl,by show _=_;simp,BU,rfl,hb0.bel (Aa _ _),?_,(hS.box _).nil,BV⟩;have:=World.ownsRow_lit (base:=w.heap.size+1) (e:=73) (size:=3) l #[] 0 O CH rfl;simpa using this
   case round=>clear hb0 hS dU O;obtain⟨j,L,ra,rc,xs,hj,rfl,HL,fO,rfl,hb0,hown,hS,hB⟩:=hrel;by_cases al:j<m;{have aa:j<n.K.length:=(by have:=qG.out;omega);have⟨pa,pc,af,ag⟩:=S wr hB;simp only[BN]at af;obtain⟨rfl,-,rfl⟩:=af;obtain⟨b,o,rfl,aJ,K⟩:=ag j aa;have⟨x0,x1,V,N,x2,x3,t,r⟩:=K.open;have u:=Af (λW(h:AO wr W)cs Y J=>D n.K[j] (DY aa) V N W cs Y J (t.below h) (r.below h));have aH:Hid (((n.K.take (j+1)).map (Dq 2)).flatten=L++Dq 2 n.K[j]):=(by show _=_;rw[HL.out,EK aa,D4,Ft];simp);have hl2:=dW (j+1);rw[aH.out]at hl2;have⟨M,G⟩:=AA (Dq 2 n.K[j]);rw[<-G]at u aH hl2;have⟨y,f⟩:=AA (n.K[j]);rw[<-f]at u x0 x1 t r;obtain⟨u0,m0,rfl,-⟩:=t;obtain⟨u1,m1,rfl,-⟩:=r;have ap:(0:Int)<=(j:Int):=BS;have an:(j:Int)<(m:Int):=BS;have ah:L.length+M.length<=2000000:=(by rw[DV]at hl2;omega);have HJ:=BZ al;clear f G K ag HL;have⟨O,q0,p0,q1,p1,q2,p2,q3,p3⟩:=id hb0;go_wp2_with(first|(go_at_call 144;refine(u _ BV _ _ hS).mo ?_;rintro e w2⟨a2,c2,ys,rfl,X,hS,B⟩;have ao:=B.size;replace hown:=ownsRow_below hown B)|(at_builtin;go_loud (refine Bj rfl rfl (V7 _ hS hown X BS ah) rfl rfl ?_;rintro v3 w3⟨a3,c3,zs,rfl,hown3,hS3,ab⟩;replace hb0:=(hb0.bel B).gr ab (λe=>by have:=(hown.lt _ e).1;omega);have hB3:=(Bf hB B).grown ab BS (λk hk=>by have:=(hown.lt _ hk).1;omega))));exact zOa};exact zh0
  have z:Hid (Bv n=[n]):=by show _=_;rw[s.out,BQ BX,BQ h2]
  have HL:Hid (Bc n=Dq 2 n):=by show _=_;rw[q.out,z.out];simp
  rw[HL.out];have u:=Af (λW(h:AO w W)cs Y J=>D n (by rw[z.out];exact .head _) _ _ W cs Y J (I W h) (S W h));have⟨M,G⟩:=AA (Dq 2 n);rw[<-G]at u⊢;have ar:(n.kind==2)=false:=xAr;clear s q z D Q I S G HL;go_enter func145,ntmps145;go_wp2_with(first|(go_at_call 110;refine(x _ BV).mo ?_;rintro e l⟨rfl,A⟩;replace hS:=hS.bel A;obtain⟨O,q0,p0,q1,p1,q2,p2,q3,p3⟩:A9 l w.heap.size n H U T R:=qB4;have ae:RowKit.Below w.heap.size w l:=BV)|(go_at_call 144;refine(u _ BV _ _ hS).mo ?_;rintro e w2⟨a2,c2,ys,rfl,X,aj,B⟩));go_ret;exact⟨a2,c2,ys,rfl,Joins.ownsRow_le X ae.size,aj,Bf ae B⟩
end Go.Proofs.YthdogflpbpkbeaaGreatDoor
namespace Go.Co
open Go.Conc
