import Derived.Test.YthdogflpbpkbeaaGreatDoorGO
import Derived.Test.YthdogflpbpkbeaaGreatDoorGJ
set_option linter.defProp false
set_option maxHeartbeats 4000000
set_option maxRecDepth 100000
namespace Go.Proofs.YthdogflpbpkbeaaGreatDoor
open Tryz Stil
section
open Go.RowKit Go.Sort Go.BigFrame Go.Shelf
attribute [local go_sem] Oper.semAt_some
def errOf(c:Int):AW:=if 0<c then .iface 135 (AB c) else .nilIface
def zd {p:Prop}(h:p:=by
 go_enter func190,ntmps190;go_wp2_with(go_at_call 165;refine(HC _).mo ?_;rintro e w1⟨rfl,hb⟩;have⟨hc,hfz⟩:=F7 hb);all_goals go_ret
 all_goals exact⟨Ac (by rw[HX.out];simp),BV⟩):p:=h
def ij(n:Stil.DK)(u s:AW)(w:AU)(x:Aq w u n.O.args)(B:Eg w s n.K)(j:Ci n):
  Calls prog 190 #[.agg #[AB n.kind,AB n.O.op,u,s]] w (AN w (.bool (KO n))):=by
 have⟨_,q,C,_⟩:=Ea j;have A:=q.2.1;obtain⟨y,z,rfl,_⟩:=x;obtain⟨H,I,rfl,_⟩:=B;clear j q;have HC:Hid (∀W,Calls prog 165 #[.agg #[AB n.O.op,AE y n.O.args.length z]] W (AN W (.bool (n.O.op==0 && n.O.args.length==0)))):=λW=>QH _ _ _ _ _ BS;have a:Hid (KO n=if n.kind=1 then decide (n.K.length=0) else if n.kind=2\/n.kind=3 then(n.O.op==0 && n.O.args.length==0) && decide (0<n.K.length) else if n.kind=4 then(n.O.op==0 && n.O.args.length==0) && decide (n.K.length=1) else false):=rfl;have⟨b,o⟩:=AA ((n.O.op==0 && n.O.args.length==0));rw[<-o]at a HC;have⟨f,r⟩:=AA n.K.length;have⟨l,t⟩:=AA n.O.args.length;rw[<-r]at a C⊢;rw[<-t]at HC A⊢;have⟨k,v⟩:=AA n.kind;rw[<-v]at a⊢;have⟨R,m⟩:=AA (KO n);rw[<-m]at a⊢;clear o r t v m;by_cases d:k=1
 .subst d;have HX:Hid (R=((f:Int)==0)):=by show _=_;rw[a.out,BR rfl,FB];simp
  clear a HC;go_enter func190,ntmps190;go_wp2;all_goals go_ret
  all_goals exact⟨Ac C7,BV⟩
 have E:(k==1)=false:=by rwa[DX]
 by_cases c:k=2\/k=3
 .have HX:Hid (R=(b && decide ((0:Int)<(f:Int)))):=by show _=_;rw[a.out,BQ d,BR c,FB];simp
  clear a;cases b;{rcases c with rfl|rfl;{exact zd};exact zd};rcases c with rfl|rfl;{exact zd};exact zd
 have D:(k==2)=false:=by rw[DX];omega
 have F:(k==3)=false:=xAh;by_cases g:k=4
 .subst g;have HX:Hid (R=(b && ((f:Int)==1))):=by show _=_;rw[a.out,BQ d,BQ c,BR rfl,FB];simp;omega
  clear a;cases b;{exact zd};exact zd
 have G:(k==4)=false:=by rwa[DX]
 have HX:Hid (R=false):=by show _=_;rw[a.out,BQ d,BQ c,BQ g]
 clear a HC;go_enter func190,ntmps190;go_wp2;all_goals go_ret
 all_goals exact⟨Ac C7,BV⟩
end
section
open Go.RowKit Go.Sort Go.BigFrame Go.Shelf
def VE(W:AU)(B:Nat)(k op:Int)(a n:AW):Prop:=W.cell? (AK B 0)=some (AB k)/\W.cell? (AK B 1)=some (AB op)/\W.cell? (AK B 2)=some a/\W.cell? (AK B 3)=some n
def Avb{β:Type}(B:Nat)(k op:Int)(a n:AW):Own (λ(_:β)W=>VE W B k op a n):=λ_ _ _ _ d c b=>
 ⟨cell_kept d.1 c b,cell_kept d.2.1 c b,cell_kept d.2.2.1 c b,cell_kept d.2.2.2 c b⟩
end
section
open Go.RowKit Go.Sort Go.BigFrame Go.Shelf
variable {α:Type}
attribute [local go_sem] Oper.semAt_some
def Yk(f:α->Int){a b:List α}(h:a<+:b)(d:0<A7 (a.map f)):A7 (b.map f)=A7 (a.map f):=by obtain⟨c,rfl⟩:=h;rw[D4,Tv,BR d]
def VO(f:α->Int)(l:List α)(x:α)(h:¬0<A7 (l.map f)):A7 ((l++[x]).map f)=if 0<f x then f x else 0:=by rw[D4,Tv,BQ h];simp[A7]
def zra{p:Prop}(h:p:=by exact⟨yQa,Xd (Kept.refl _ _ _) hn hb2,⟨⟨⟨c2,z2⟩,BV⟩,by rw[HX.out];omega,by have:=hb2.size;omega⟩⟩):p:=h
theorem iW(n:Stil.DK)(av kv:AW)(w:AU)(hr:Eh w)(O:Aq w av n.O.args)(L:Eg w kv n.K)(hf:Ci n):
  Calls prog 167 #[.agg #[AB n.kind,AB n.O.op,av,kv]] w (AN w (errOf (Ap n))):=by
 have S:Hid (A7 ((Ez [n]).map Gq)=Ap n):=by show _=_;rw[Wg,ud]
 have ar:=Ld n;have⟨z,hz⟩:=AA (Ap n);rw[<-hz]at S ar⊢;clear hz;refine(callsIn_wide (n:=9)).1 ?_;have bI:=BZ O;have zk:=BZ L;have ai:=BZ (λW(h:AO w W)=>hr.below h);obtain⟨P,r0,rfl,_⟩:=O;obtain⟨Y,r1,rfl,_⟩:=L;refine callsIn_of_wp_marks func167 rfl trivial ?_ rfl;simp only[ntmps167,D1,DT,DW,Nat.reduceAdd,Nat.reduceSub,EV,EW,EY,EX,ED,EA];gi_wp2_with(refine⟨trivial,?_⟩;gi_at_call 166;refine(callsIn_wide.2 (ZL _ _ _ _ _ _ _ _ _)).mono ?_;rintro e j⟨b,A,K,rfl,ah,ag,au,hA,u,x0,x1,x2,x3,hb⟩);simp only[BG]at ah ag au;have ad:AO w j:=BV;have ao:j.cell? (AK (w.heap.size+1) 0)=some .nilIface:=Bn hb;have aj:j.frozen? (AK (w.heap.size+1) 0)=false:=Bt hb;have ay:w.heap.size+2<=j.heap.size:=xBq;have bG:P6 w (λ_=>False) j (AE (some (AK b 0)) 1 1) [n]:=by refine⟨_,1,rfl,λi hi=>⟨b,0,rfl,(λh=>h),AE P n.O.args.length r0,AE Y n.K.length r1,?_⟩⟩;obtain rfl:i=0:=yEh;simp only[G0,EF,IQ];exact⟨x0,x1,x2,x3,bI.out,zk.out⟩
 have HS:Hid (SeqStopsK Fence.wide (9 - 1) prog 200 #[AH K,AH A] (λx:Uk w Ci=>#[Value.agg #[AB x.N.kind,AB x.N.O.op,x.av,x.kv]]) (Kept w.heap.size (λ_=>False)) (λys=>ys.map Uk.N=Ez [n]) (λpre=>pre.map Uk.N<+:Ez [n]) (Ez [n]).length j):=
  cg w Ci (λx I=>⟨(Ea I).2.2.1,(Ea I).2.2.2⟩) (λ_=>False) (λ_ h=>h.elim) 0 A K (λ_ h=>h.elim) (λh=>h) (λh=>h) [n] BU (by simpa using hf) _ j ad (EH _) bG hA u _
 clear bG hb x0 x1 x2 x3 hA u hf;refine wpIn_rangeFunc_ownH rfl BX (gf:=200) (lb:=#[AH K,AH A]) rfl trivial (enters_of func200 BW rfl)
  HS Kept.t (Kept.b BS) (BP _ _) (λ_=>rfl)
  (λpre W=>((W.cell? (AK (w.heap.size+1) 0)=some .nilIface/\W.frozen? (AK (w.heap.size+1) 0)=false)/\AO w W)/\¬0<A7 (pre.map (Gq ∘ Uk.N))/\j.heap.size<=W.heap.size)
  (λc pre W=>(c=.ret/\∃k,0<k/\A7 (pre.map (Gq ∘ Uk.N))=k/\W.cell? (AK (w.heap.size+1) 0)=some (.iface 135 (AB k)))/\AO w W)
  (OwnFrom.and (OwnFrom.and (Own.from (λs A B row g o hr=>⟨cell_kept g.1 o hr,(frozen_kept g.1 o hr).trans g.2⟩) _) (ownFrom_below (DN _) BS)) (OwnFrom.and (ownFrom_pure _ _) (λ_ _ _ _ g o _=>DU g o.size)))
  (λc=>OwnFrom.and (Own.from (λs A B row g o hr=>⟨g.1,g.2.elim λt ht=>⟨t,ht.1,ht.2.1,cell_kept ht.2.2 o hr⟩⟩) _) (ownFrom_below (DN _) BS))
  ⟨⟨⟨ao,aj⟩,ad⟩,by simp[A7],DN _⟩
  (λx V W=>∃C,j.heap.size<=C/\VE W C x.N.kind x.N.O.op x.av x.kv/\V={tmps:=#[A0 n P r0 Y r1,AH w.heap.size,AH (w.heap.size+1),AH C, (A0 n P r0 Y r1),.func (.func 200) #[] #[AH K,AH A],.agg #[AB x.N.kind,AB x.N.O.op,x.av,x.kv],AQ,AQ,AQ,AQ,AQ,AQ,AQ,AQ,AQ,AQ,AQ,AQ,AQ,AQ],defers:=[]})
  (λx V s A B row g o hr=>g.elim λC I=>⟨C,I.1,Avb (β:=Unit) C _ _ _ _ s A B row I.2.1 o (λr e=>(hr r e).2),I.2.2⟩) ?assign ?body ?done ?stop
 case assign=>rintro l pre x W KK⟨⟨⟨d,E⟩,H⟩,F,ak⟩ aC;obtain⟨x,av,kv,O,L,mO⟩:=x;obtain⟨q0,s0,rfl,_⟩:=id O;obtain⟨q1,s1,rfl,_⟩:=id L;gi_wp2;exact aC _ _ ((KeepsOthers.alloc _ _).from _) (Kept.of_below H.size (Aa _ _)) ⟨⟨⟨Pz _ d,Qh _ d E⟩,BV⟩,F,B1⟩ ⟨W.heap.size,BS,⟨xAa,xAa,xAa,xAa⟩,rfl⟩
 case body=>
  rintro l pre x V W ap _⟨⟨⟨d,E⟩,H⟩,F,ak⟩ ⟨C,aw,⟨y0,y1,y2,y3⟩,rfl⟩ al;have m:=Bd d;have uG:=Bd y0;have hn:w.heap.size<=W.heap.size:=BS;have G:=BZ (λX J=>ij x.N x.av x.kv X (x.hav.below J) (x.hkv.below J) x.mem);have N:=BZ (λX J=>XR x.N.O.op x.av x.N.O.args X (ai X J) (x.hav.below J) (Ea x.mem).2.1.2.2 (by have:=(Ea x.mem).2.1.2.1;omega));have q:Hid (A7 ((pre++[x]).map (Gq ∘ Uk.N))=if 0<Gq x.N then Gq x.N else 0):=VO _ _ _ F;have f:Hid (Gq x.N=if KO x.N then(if x.N.kind=1 then(if Df x.N.O.op x.N.O.args then 0 else 3) else 0) else 2):=rfl;have⟨q0,s0,e0,_⟩:=id x.hav;have⟨q1,s1,e1,_⟩:=id x.hkv;rw[e0,e1]at G;rw[e0]at N y2;rw[e1]at y3;have⟨Z,ac⟩:=AA (KO x.N);have⟨Q,ae⟩:=AA (Df x.N.O.op x.N.O.args);have⟨M,af⟩:=AA x.N.kind;rw[<-ac]at G f;rw[<-ae]at N f;rw[<-af]at G f y0;clear ac ae af e0 e1 al ap F;cases Z;{have HX:Hid (A7 ((pre++[x]).map (Gq ∘ Uk.N))=2):=(by show _=_;rw[q.out,f.out];simp);clear q f;gi_wp2_with(refine⟨trivial,?_⟩;gi_at_call 190;refine(CallsIn.inRound l (callsIn_wide.2 (G _ BV))).mono ?_;rintro e W2⟨rfl,hb2⟩;have c2:=(hb2.cell (p:=(AK (w.heap.size+1) 0)) m).trans d;have z2:=(hb2.frozen (p:=(AK (w.heap.size+1) 0)) m).trans E);exact⟨yQa,⟨rfl,2,BS,HX.out,Ff c2⟩,BV⟩};by_cases ab:M=1;{subst ab;cases Q;{have HX:Hid (A7 ((pre++[x]).map (Gq ∘ Uk.N))=3):=(by show _=_;rw[q.out,f.out];simp);clear q f;gi_wp2_with(first|(refine⟨trivial,?_⟩;gi_at_call 190;refine(CallsIn.inRound l (callsIn_wide.2 (G _ BV))).mono ?_;rintro e W2⟨rfl,hb2⟩;have c2:=(hb2.cell (p:=(AK (w.heap.size+1) 0)) m).trans d;have z2:=(hb2.frozen (p:=(AK (w.heap.size+1) 0)) m).trans E;have⟨yP,yL⟩:=F7 hb2)|(refine⟨trivial,?_⟩;gi_at_call 191;refine(CallsIn.inRound l (callsIn_wide.2 (N _ BV))).mono ?_;rintro e W3⟨rfl,y⟩;have U:=(y.cell (p:=(AK (w.heap.size+1) 0)) (Bd c2)).trans c2;have z3:=(y.frozen (p:=(AK (w.heap.size+1) 0)) (Bd c2)).trans z2));exact⟨yQa,⟨rfl,3,BS,HX.out,Ff U⟩,BV⟩};have HX:Hid (A7 ((pre++[x]).map (Gq ∘ Uk.N))=0):=(by show _=_;rw[q.out,f.out];simp);clear q f;gi_wp2_with(first|(refine⟨trivial,?_⟩;gi_at_call 190;refine(CallsIn.inRound l (callsIn_wide.2 (G _ BV))).mono ?_;rintro e W2⟨rfl,hb2⟩;have c2:=(hb2.cell (p:=(AK (w.heap.size+1) 0)) m).trans d;have z2:=(hb2.frozen (p:=(AK (w.heap.size+1) 0)) m).trans E;have⟨yP,yL⟩:=F7 hb2)|(refine⟨trivial,?_⟩;gi_at_call 191;refine(CallsIn.inRound l (callsIn_wide.2 (N _ BV))).mono ?_;rintro e W3⟨rfl,y⟩;have U:=(y.cell (p:=(AK (w.heap.size+1) 0)) (Bd c2)).trans c2;have z3:=(y.frozen (p:=(AK (w.heap.size+1) 0)) (Bd c2)).trans z2));exact⟨yQa,Xd (Xd (Kept.refl _ _ _) hn hb2) hn y,⟨⟨⟨U,z3⟩,BV⟩,by rw[HX.out];omega,by have:=hb2.size;have:=y.size;omega⟩⟩};have ax:(M==1)=false:=by rwa[DX]
  have HX:Hid (A7 ((pre++[x]).map (Gq ∘ Uk.N))=0):=by show _=_;rw[q.out,f.out];simp[ab]
  clear q f;gi_wp2_with(refine⟨trivial,?_⟩;gi_at_call 190;refine(CallsIn.inRound l (callsIn_wide.2 (G _ BV))).mono ?_;rintro e W2⟨rfl,hb2⟩;have c2:=(hb2.cell (p:=(AK (w.heap.size+1) 0)) m).trans d;have z2:=(hb2.frozen (p:=(AK (w.heap.size+1) 0)) m).trans E;have⟨yP,yL⟩:=F7 hb2);refine⟨trivial,?_⟩;gi_wp2;exact zra
 case done=>
  rintro D ys W hD hS⟨⟨⟨d,E⟩,H⟩,F,_⟩ u;rw[<-IW,hS,S.out]at F;have HX:Hid (errOf z=.nilIface):=by show _=_;unfold errOf;rw[BQ F]
  gi_wp2;have aa:=(KeepsOthers.setCell W (AK (w.heap.size+1) 0) .nilIface).same D _ u rfl;refine⟨BU,.inl ⟨_,_,rfl,run_takeDeferred aa,?_⟩⟩;have T:=cell_kept (Ff d (v:=.nilIface)) (grownBy_putObj' _ D (.deferred none)) (λr e=>by cases e;exact⟨_,aa,rfl⟩);refine⟨.nilIface,?_,C7,(H.setCell (p:=(AK (w.heap.size+1) 0)) BU _).trans (belowK_b (w:=w) (DN _) _ D _ _ BS aa rfl rfl)⟩;simp[results,Tryz.f167,go_sem,T]
 case stop=>
  rintro D c pre W hD an⟨⟨rfl,k,hk,R,d⟩,H⟩ u;have qf:z=k:=by rw[<-IW]at R;have:=Yk Gq an (by rwa[R]);rw[S.out,R]at this;exact this
  have HX:Hid (errOf z=.iface 135 (AB k)):=by show _=_;unfold errOf;rw[qf,BR hk]
  gi_wp2;refine⟨BU,.inl ⟨_,_,rfl,run_takeDeferred u,?_⟩⟩;have T:=cell_kept d (grownBy_putObj' _ D (.deferred none)) (λr e=>by cases e;exact⟨_,u,rfl⟩);refine⟨.iface 135 (AB k),?_,C7,H.trans (belowK_b (w:=w) (DN _) W D _ _ BS u rfl rfl)⟩;simp[results,Tryz.f167,go_sem,T]
end
section
open Go.RowKit Go.Sort Go.BigFrame
def Oc{c:Int}(h:0<c):errOf c=.iface 135 (AB c):=by unfold errOf;rw[BR h]
def Q8{c:Int}(h:¬0<c):errOf c=.nilIface:=by unfold errOf;rw[BQ h]
def za {p:Prop}(h:p:=by
 clear hbs;obtain⟨m,hm,rfl,hcb,hB⟩:=hrel;have jC:=BZ hcb;clear hcb;have hz:w.heap.size<wr.heap.size:=by have:=hB.size;simp at this;omega
 have c0:wr.cell? (AL w 0)=some (AB n.kind):=Bn hB;have f0:wr.frozen? (AL w 0)=false:=Bt hB;have c1:wr.cell? (AL w 1)=some (AB n.O.op):=Bn hB;have f1:wr.frozen? (AL w 1)=false:=Bt hB;have c2:wr.cell? (AL w 2)=some (AE p0 n.O.args.length r0):=Bn hB;have f2:wr.frozen? (AL w 2)=false:=Bt hB;have c3:wr.cell? (AL w 3)=some (AE p1 n.K.length r1):=Bn hB;have f3:wr.frozen? (AL w 3)=false:=Bt hB;have c4:wr.cell? (AL w 4)=some (AE p2 lc r2):=Bn hB;have f4:wr.frozen? (AL w 4)=false:=Bt hB;have c5:wr.cell? (AL w 5)=some (AE p3 lk r3):=Bn hB;have f5:wr.frozen? (AL w 5)=false:=Bt hB;have hbw:=(Aa _ _).tr (hB.mo BS);by_cases hlt:m<lc
 .have hlt':m<coils.length:=by have:=uT.out;omega
  obtain⟨b,o,rfl,hbl,hce⟩:=l7 m hlt';have⟨x0,zK,x1,jG⟩:=hce.below hbw hbl;have fH:=oN _ (DY hlt');have HI:=BZ (λW hW=>Z2 coils[m].op zK coils[m].args W (HRR W (hbw.tr (hW.mo hbw.size))) (jG.below hW) fH.2.2 (by have:=fH.2.1;omega));have HD:Hid (Dt coils=(!Gi coils[m].op coils[m].args || Dt (coils.drop (m+1)))):=by show _=_;rw[jC.out,Xi _ _ hlt']
  have⟨ic,hic⟩:=AA (Gi coils[m].op coils[m].args);rw[<-hic]at HI HD;have⟨y,hy⟩:=AA (coils[m]);rw[<-hy]at HI x0;obtain⟨t1,t2,g1,_⟩:=jG;rw[<-hy]at g1;subst g1;clear hic hy hce fH jC;cases ic;{have HX:Hid (R=3):=(by show _=_;rw[HR2.out,HD.out];rfl);go_wp2_with(go_at_call 168;refine(HI _ BV).mo ?_;rintro e w3⟨rfl,hb3⟩);go_ret;exact⟨by rw[HX.out,Oc BS];rfl,BV⟩};have HX:Hid (Dt coils=Dt (coils.drop (m+1))):=by show _=_;rw[HD.out];rfl
  go_wp2_with(go_at_call 168;refine(HI _ BV).mo ?_;rintro e w3⟨rfl,hb3⟩);exact⟨⟨m+1,BS,by go_num,HX.out,hB.tr (((Aa _ _).tr (hb3.mo BU)).mo hz)⟩,by simp[intOf];omega⟩
 have hcb0:Dt coils=false:=by rw[jC.out,IU (by have:=uT.out;omega)];rfl
 have HR3:Hid (R=if lc=0/\lk=0 then 5 else 0):=by show _=_;rw[HR2.out,hcb0];rfl
 clear hcb0 jC HR2;by_cases hl0:lc=0/\lk=0
 .have HX:Hid (R=5):=by show _=_;rw[HR3.out,BR hl0]
  obtain⟨rfl,rfl⟩:=hl0;clear HR3;go_wp2;go_ret;exact⟨by rw[HX.out,Oc BS];rfl,BV⟩
 have HX:Hid (R=0):=by show _=_;rw[HR3.out,BQ hl0]
 clear HR3;have hcase:((lc:Int)==0)=false\/((lk:Int)==0)=false:=by by_cases h:lc=0;{right;rw[DX];omega};left;rw[DX];omega
 clear hl0;rcases hcase with hq|hq
 .go_wp2;all_goals go_ret
  all_goals exact⟨by rw[HX.out,Q8 BS];rfl,BV⟩
 go_wp2;all_goals go_ret
 all_goals exact⟨by rw[HX.out,Q8 BS];rfl,BV⟩):p:=h
def ia(x:Stil.DL)(A l N Q:AW)(w:AU)(hr:Eh w)(k:Aq w A x.N.O.args)(j:Eg w l x.N.K)(O:F9 w N x.C)(S:Dj w Q x.K)(F:Ba x):
  Calls prog 126 #[.agg #[AB x.N.kind,AB x.N.O.op,A,l,N,Q]] w (AN w (errOf (C9 x))):=by
 obtain⟨n,coils,kids⟩:=x;simp only at k j O S⊢;have⟨q,P,C,K,_⟩:=Io F;simp only at q P C K;have r:=BZ (λW hW=>Ux n A l W (k.below hW) (j.below hW) q);have f:=BZ (λW hW=>iW n A l W (hr.below hW) (k.below hW) (j.below hW) q);have oN:=BZ C;have HRR:=BZ (λW(h:AO w W)=>hr.below h);obtain⟨p0,r0,rfl,_⟩:=k;obtain⟨p1,r1,rfl,_⟩:=j;obtain⟨p2,r2,rfl,J⟩:=O;obtain⟨p3,r3,rfl,_⟩:=S;have l7:=BZ J;have d:Hid (C9 ⟨n,coils,kids⟩=if Aj n=false/\0<Ap n then Ap n else if Dt coils then 3 else if coils.length=0/\kids.length=0 then 5 else 0):=rfl;have⟨D,L⟩:=AA (Aj n);have⟨u,H⟩:=AA (Ap n);rw[<-L]at r d;rw[<-H]at f d;have⟨lc,E⟩:=AA coils.length;have⟨lk,M⟩:=AA kids.length;have uT:=BZ E;rw[<-E]at P d⊢;rw[<-M]at K d⊢;have⟨R,G⟩:=AA (C9 ⟨n,coils,kids⟩);rw[<-G]at d⊢;clear F q C J L H E M G hr;cases D
 .by_cases g:0<u;{have HX:Hid (R=u):=(by show _=_;rw[d.out];simp[g]);rw[Oc g]at f;go_enter func126,ntmps126;go_wp2_with(first|(go_at_call 124;refine(r _ BV).mo ?_;rintro e s⟨rfl,c⟩;have⟨z,B⟩:=F7 c)|(go_at_call 167;refine(f _ BV).mo ?_;rintro e I⟨rfl,t⟩));go_ret;exact⟨by rw[HX.out,Oc g];rfl,BV⟩};have HR2:Hid (R=if Dt coils then 3 else if lc=0/\lk=0 then 5 else 0):=by show _=_;rw[d.out];simp[g]
  rw[Q8 g]at f;clear d;go_enter func126,ntmps126;go_wp2_with(first|(go_at_call 124;refine(r _ BV).mo ?_;rintro e s⟨rfl,c⟩;have⟨z,B⟩:=F7 c;have T:w.z<s.z:=DO BU c.size)|(go_at_call 167;refine(f _ BV).mo ?_;rintro e I⟨rfl,t⟩;have⟨V,U⟩:=F7 t));have hbs:Below (w.z+1) (w.alloc (.cells #[AB n.kind,AB n.O.op,AE p0 n.O.args.length r0,AE p1 n.K.length r1,AE p2 lc r2,AE p3 lk r3] 66)) I:=by have h1:=c.size;simp only[BG]at c h1;exact c.tr (t.mo h1)
  clear c t z B V U T;go_loopw [19] (λi wr=>∃m:Nat,m<=lc/\i=AB m/\Dt coils=Dt (coils.drop m)/\Below (w.z+1) (w.alloc (.cells #[AB n.kind,AB n.O.op,AE p0 n.O.args.length r0,AE p1 n.K.length r1,AE p2 lc r2,AE p3 lk r3] 66)) wr) (λi _=>lc - (intOf i).toNat);case atStart=>exact⟨0,BS,rfl,rfl,hbs⟩
  case round=>exact za
 have HR2:Hid (R=if Dt coils then 3 else if lc=0/\lk=0 then 5 else 0):=by show _=_;rw[d.out];simp
 clear d f;go_enter func126,ntmps126;go_wp2_with(go_at_call 124;refine(r _ BV).mo ?_;rintro e s⟨rfl,c⟩;have⟨z,B⟩:=F7 c);have hbs:Below (w.z+1) (w.alloc (.cells #[AB n.kind,AB n.O.op,AE p0 n.O.args.length r0,AE p1 n.K.length r1,AE p2 lc r2,AE p3 lk r3] 66)) s:=by simpa using c
 clear c z B;go_loopw [19] (λi wr=>∃m:Nat,m<=lc/\i=AB m/\Dt coils=Dt (coils.drop m)/\Below (w.z+1) (w.alloc (.cells #[AB n.kind,AB n.O.op,AE p0 n.O.args.length r0,AE p1 n.K.length r1,AE p2 lc r2,AE p3 lk r3] 66)) wr) (λi _=>lc - (intOf i).toNat);case atStart=>exact⟨0,BS,rfl,rfl,hbs⟩
 case round=>exact za
end
section
open Go.RowKit Go.Sort Go.BigFrame Go.Shelf
attribute [local go_sem] Oper.semAt_some
def Avr(x:Stil.DL)(S G Z kv:AW)(w:AU)(hr:Eh w)(Q:Aq w S x.N.O.args)(E:Eg w G x.N.K)(aa:F9 w Z x.C)(T:Dj w kv x.K)(hf:Ba x):
  Calls prog 76 #[.agg #[AB x.N.kind,AB x.N.O.op,S,G,Z,kv]] w (AN w (errOf (Fv x))):=by
 have r:Hid (Fv x=if Aj x.N then 4 else Cb x):=rfl;have vC:Hid (A7 ((Eb [x]).map C9)=Cb x):=by show _=_;rw[<-WI];simp[Eb]
 have aQ:=BZ (λW hW=>Ux x.N S G W (Q.below hW) (E.below hW) (Io hf).1);have an:=BZ (λW(h:AO w W)=>hr.below h);have bI:Hid (Aq w S x.N.O.args/\Eg w G x.N.K/\F9 w Z x.C/\Dj w kv x.K):=⟨Q,E,aa,T⟩;obtain⟨F,J,rfl,_⟩:=Q;obtain⟨I,L,rfl,_⟩:=E;obtain⟨Y,U,rfl,_⟩:=aa;obtain⟨p3,X,rfl,_⟩:=T;have⟨R,hR⟩:=AA (Fv x);have⟨z,hz⟩:=AA (Cb x);have⟨nn,aj⟩:=AA (Aj x.N);rw[<-hR]at r⊢;rw[<-hz]at r vC;rw[<-aj]at r aQ;clear hR hz aj;refine(callsIn_wide (n:=9)).1 ?_;cases nn
 .have HX:Hid (R=z):=by show _=_;rw[r.out];simp
  clear r;refine callsIn_of_wp_marks func76 rfl trivial ?_ rfl;simp only[ntmps76,D1,DT,DW,Nat.reduceAdd,Nat.reduceSub,EV,EW,EY,EX,ED,EA];gi_wp2_with(first|(refine⟨trivial,?_⟩;gi_at_call 124;refine(callsIn_wide.2 (aQ _ BV)).mono ?_;rintro e d⟨rfl,l⟩;have⟨ap,aw⟩:=F7 l)|(refine⟨trivial,?_⟩;gi_at_call 123;refine(callsIn_wide.2 (ZM _ _ _ _)).mono ?_;rintro e f⟨A,K,rfl,al,aA,hA,o,hb⟩));have aB:AO w d:=BV;have ah:AO w f:=BV;have h9:=l.size;have h1:=hb.size;simp only[BG]at al aA h9 h1;have x0:f.cell? (AL d 0)=some (AB x.N.kind):=Bn hb;have x1:f.cell? (AL d 1)=some (AB x.N.O.op):=Bn hb;have x2:f.cell? (AL d 2)=some (AE F x.N.O.args.length J):=Bn hb;have x3:f.cell? (AL d 3)=some (AE I x.N.K.length L):=Bn hb;have x4:f.cell? (AL d 4)=some (AE Y x.C.length U):=Bn hb;have x5:f.cell? (AL d 5)=some (AE p3 x.K.length X):=Bn hb;have ay:f.cell? (AK (w.heap.size+1) 0)=some .nilIface:=by rw[hb.cell (p:=(AK (w.heap.size+1) 0)) B1,(Aa d _).cell (p:=(AK (w.heap.size+1) 0)) (show w.heap.size+1<d.heap.size by omega),l.cell (p:=(AK (w.heap.size+1) 0)) BU];simp[go_sem]
  have ao:f.frozen? (AK (w.heap.size+1) 0)=false:=by rw[hb.frozen (p:=(AK (w.heap.size+1) 0)) B1,(Aa d _).frozen (p:=(AK (w.heap.size+1) 0)) (show w.heap.size+1<d.heap.size by omega),l.frozen (p:=(AK (w.heap.size+1) 0)) BU];simp[go_sem]
  have aE:w.heap.size+2<=f.heap.size:=BS;have bG:Ol w (λ_=>False) f (AE (some (AL d 0)) 1 1) [x]:=by refine⟨_,1,rfl,λi hi=>⟨d.heap.size,0,rfl,(λh=>h),AE F x.N.O.args.length J,AE I x.N.K.length L,AE Y x.C.length U,AE p3 x.K.length X,?_⟩⟩;obtain rfl:i=0:=yEh;simp only[G0,EF,IQ];exact⟨x0,x1,x2,x3,x4,x5,bI.out⟩
  have HS:Hid (SeqStopsK Fence.wide (9 - 1) prog 186 #[AH K,AH A] (λy:Ro w Ba=>#[Value.agg #[AB y.A.N.kind,AB y.A.N.O.op,y.av,y.nv,y.cv,y.kv]]) (Kept w.heap.size (λ_=>False)) (λys=>ys.map Ro.A=Eb [x]) (λpre=>pre.map Ro.A<+:Eb [x]) (Eb [x]).length f):=
   ck w Ba (λy hy=>⟨(Io hy).2.2.2.1,(Io hy).2.2.2.2⟩) (λ_=>False) (λ_ h=>h.elim) 0 A K (λ_ h=>h.elim) (λh=>h) (λh=>h) [x] BU (by simpa using hf) _ f ah (EH _) bG hA o _
  clear bG hb l ap aw x0 x1 x2 x3 x4 x5 hA o hf;refine wpIn_rangeFunc_ownH rfl BX (gf:=186) (lb:=#[AH K,AH A]) rfl trivial (enters_of func186 BW rfl)
   HS Kept.t (Kept.b BS) (BP _ _) (λ_=>rfl)
   (λpre W=>((W.cell? (AK (w.heap.size+1) 0)=some .nilIface/\W.frozen? (AK (w.heap.size+1) 0)=false)/\AO w W)/\¬0<A7 (pre.map (C9 ∘ Ro.A))/\f.heap.size<=W.heap.size)
   (λc pre W=>(c=.ret/\∃k,0<k/\A7 (pre.map (C9 ∘ Ro.A))=k/\W.cell? (AK (w.heap.size+1) 0)=some (.iface 135 (AB k)))/\AO w W)
   (OwnFrom.and (OwnFrom.and (Own.from (λs A ab row j m hr=>⟨cell_kept j.1 m hr,(frozen_kept j.1 m hr).trans j.2⟩) _) (ownFrom_below (DN _) BS)) (OwnFrom.and (ownFrom_pure _ _) (λ_ _ _ _ j m _=>DU j m.size)))
   (λc=>OwnFrom.and (Own.from (λs A ab row j m hr=>⟨j.1,j.2.elim λt ht=>⟨t,ht.1,ht.2.1,cell_kept ht.2.2 m hr⟩⟩) _) (ownFrom_below (DN _) BS))
   ⟨⟨⟨ay,ao⟩,ah⟩,by simp[A7],DN _⟩
   (λy a' W=>∃q,f.heap.size<=q/\PS W q y.A.N.kind y.A.N.O.op y.av y.nv y.cv y.kv/\a'={tmps:=#[A4 x F J I L Y U p3 X,AH w.heap.size,AH (w.heap.size+1),AH q,AQ,AH w.heap.size, (A0 x.N F J I L),.bool false,AQ, (A4 x F J I L Y U p3 X),AE (some (AL d 0)) 1 1,.func (.func 186) #[] #[AH K,AH A],.agg #[AB y.A.N.kind,AB y.A.N.O.op,y.av,y.nv,y.cv,y.kv],AQ,AQ,AQ,AQ,AQ],defers:=[]})
   (λy a' s A ab row j m hr=>j.elim λq hx=>⟨q,hx.1,ZG (β:=Unit) q _ _ _ _ _ _ s A ab row hx.2.1 m (λae e=>(hr ae e).2),hx.2.2⟩) ?assign ?body ?done ?stop
  case assign=>rintro ag pre y W KK⟨⟨⟨g,N⟩,B⟩,u,ar⟩ aC;obtain⟨y,S,G,Z,kv,Q,E,aa,T,mO⟩:=y;obtain⟨q0,s0,rfl,_⟩:=id Q;obtain⟨q1,s1,rfl,_⟩:=id E;obtain⟨q2,s2,rfl,_⟩:=id aa;obtain⟨q3,s3,rfl,_⟩:=id T;gi_wp2;exact aC _ _ ((KeepsOthers.alloc _ _).from _) (Kept.of_below B.size (Aa _ _)) ⟨⟨⟨Pz _ g,Qh _ g N⟩,BV⟩,u,B1⟩ ⟨W.heap.size,BS,⟨xAa,xAa,xAa,xAa,xAa,xAa⟩,rfl⟩
  case body=>rintro ag pre y a' W az _⟨⟨⟨g,N⟩,B⟩,u,ar⟩ ⟨q,aD,⟨y0,y1,y2,y3,y4,y5⟩,rfl⟩ au;have V:=Bd g;have hn:w.heap.size<=W.heap.size:=BS;have C:=BZ (λai M=>ia y.A y.av y.nv y.cv y.kv ai (an ai M) (y.hav.below M) (y.hnv.below M) (y.hcv.below M) (y.hkv.below M) y.mem);have P:Hid (A7 ((pre++[y]).map (C9 ∘ Ro.A))=if 0<C9 y.A then C9 y.A else 0):=VO _ _ _ u;have⟨q0,s0,e0,_⟩:=id y.hav;have⟨q1,s1,e1,_⟩:=id y.hnv;have⟨q2,s2,e2,_⟩:=id y.hcv;have⟨q3,s3,e3,_⟩:=id y.hkv;rw[e0,e1,e2,e3]at C;rw[e0]at y2;rw[e1]at y3;rw[e2]at y4;rw[e3]at y5;have⟨H,ak⟩:=AA (C9 y.A);rw[<-ak]at C P;clear ak e0 e1 e2 e3 au az u;by_cases O:0<H;{rw[Oc O]at C;have HX:Hid (A7 ((pre++[y]).map (C9 ∘ Ro.A))=H):=(by show _=_;rw[P.out,BR O]);clear P;gi_wp2_with(refine⟨trivial,?_⟩;gi_at_call 126;refine(CallsIn.inRound ag (callsIn_wide.2 (C _ BV))).mono ?_;rintro e W2⟨rfl,hb2⟩;have c2:=(hb2.cell (p:=(AK (w.heap.size+1) 0)) V).trans g;have z2:=(hb2.frozen (p:=(AK (w.heap.size+1) 0)) V).trans N);exact⟨yQa,⟨rfl,H,O,HX.out,Ff c2⟩,BV⟩};rw[Q8 O]at C;have HX:Hid (A7 ((pre++[y]).map (C9 ∘ Ro.A))=0):=(by show _=_;rw[P.out,BQ O]);clear P;gi_wp2_with(refine⟨trivial,?_⟩;gi_at_call 126;refine(CallsIn.inRound ag (callsIn_wide.2 (C _ BV))).mono ?_;rintro e W2⟨rfl,hb2⟩;have c2:=(hb2.cell (p:=(AK (w.heap.size+1) 0)) V).trans g;have z2:=(hb2.frozen (p:=(AK (w.heap.size+1) 0)) V).trans N);exact zra
  case done=>(rintro D ys W hD hS⟨⟨⟨g,N⟩,B⟩,u,_⟩ o;rw[<-IW,hS,vC.out]at u;have HY:Hid (errOf R=.nilIface):=by show _=_;rw[HX.out,Q8 u]);gi_wp2;have af:=(KeepsOthers.setCell W (AK (w.heap.size+1) 0) .nilIface).same D _ o rfl;refine⟨BU,.inl ⟨_,_,rfl,run_takeDeferred af,?_⟩⟩;have ad:=cell_kept (Ff g (v:=.nilIface)) (grownBy_putObj' _ D (.deferred none)) (λae e=>by cases e;exact⟨_,af,rfl⟩);refine⟨.nilIface,?_,by rw[HY.out],(B.setCell (p:=(AK (w.heap.size+1) 0)) BU _).trans (belowK_b (w:=w) (DN _) _ D _ _ BS af rfl rfl)⟩;simp[results,Tryz.f76,go_sem,ad]
  case stop=>(rintro D c pre W hD ax⟨⟨rfl,k,hk,ac,g⟩,B⟩ o;have qf:z=k:=by rw[<-IW]at ac;have:=Yk C9 ax (by rwa[ac]);rw[vC.out,ac]at this;exact this);have HY:Hid (errOf R=.iface 135 (AB k)):=(by show _=_;rw[HX.out,qf,Oc hk]);gi_wp2;refine⟨BU,.inl ⟨_,_,rfl,run_takeDeferred o,?_⟩⟩;have ad:=cell_kept g (grownBy_putObj' _ D (.deferred none)) (λae e=>by cases e;exact⟨_,o,rfl⟩);refine⟨.iface 135 (AB k),?_,by rw[HY.out],B.trans (belowK_b (w:=w) (DN _) W D _ _ BS o rfl rfl)⟩;simp[results,Tryz.f76,go_sem,ad]
 have HX:Hid (R=4):=by show _=_;rw[r.out];simp
 clear r;refine callsIn_of_wp_marks func76 rfl trivial ?_ rfl;simp only[ntmps76,D1,DT,DW,Nat.reduceAdd,Nat.reduceSub,EV,EW,EY,EX,ED,EA];gi_wp2_with(refine⟨trivial,?_⟩;gi_at_call 124;refine(callsIn_wide.2 (aQ _ BV)).mono ?_;rintro e d⟨rfl,l⟩;have c9:d.cell? (AK (w.heap.size+1) 0)=some .nilIface:=(Bn l);have z9:d.frozen? (AK (w.heap.size+1) 0)=false:=(Bt l));refine⟨.iface 135 (AB 4),?_,by rw[HX.out,Oc BS],BV⟩;simp[results,Tryz.f76,go_sem,c9]
end
open Go.RowKit Go.Sort Go.BigFrame
def lookOf(many:Bool)(p:Int × Nat):AW:=if many then .iface 135 (AB 1) else if 0<p.1 then .iface 138 (.agg #[AB p.2,.iface 135 (AB p.1)]) else .nilIface
def Avk(l:Ek)(K:AW)(w:AU)(hr:Eh w)(g:Dj w K l)(hl:l.length<=1048576)(U:Aw l<=1000000000)(C:∀x∈l,Ba x):
  Calls prog 36 #[K] w (AN w (lookOf (decide (40<l.length\/400<Aw l)) (Es l 0))):=by
 have u:=BZ (λW d=>ya l K 400 W (g.below d) C hl U BS BS);have HF:=BZ C;have ab:=BZ (λW(h:AO w W)=>hr.below h);obtain⟨a,cap,rfl,L⟩:=g;have HC:=BZ L;have⟨c,D⟩:=AA l.length;have⟨z,T⟩:=AA (Aw l);have dQ:=BZ D;rw[<-D]at hl u⊢;rw[<-T]at u U⊢;have⟨Q,G⟩:=AA (Es l 0);rw[<-G];have y:=BZ G;have⟨R,H⟩:=AA (lookOf (decide (40<c\/400<z)) Q);rw[<-H];have f:=BZ H;clear L C D T G H hr;by_cases h1:40<c
 .have m:Hid (R=.iface 135 (AB 1)):=by show _=_;rw[f.out,FG (.inl h1)];rfl
  clear f y;go_enter func36,ntmps36;go_wp2;go_ret;exact⟨by rw[m.out];rfl,BV⟩
 by_cases h2:400<z
 .have m:Hid (R=.iface 135 (AB 1)):=by show _=_;rw[f.out,FG (.inr h2)];rfl
  clear f y;go_enter func36,ntmps36;go_wp2_with(go_at_call 75;refine(u _ BV).mo ?_;rintro e X⟨r,rfl,_,Z,ae,V⟩;have ad:=Z BS;clear Z);go_ret;exact⟨by rw[m.out];rfl,BV⟩
 have m:Hid (R=lookOf false Q):=by show _=_;rw[f.out,FW BS]
 clear f;go_enter func36,ntmps36;go_wp2_with(go_at_call 75;refine(u _ BV).mo ?_;rintro e X⟨r,rfl,ac,_,ae,V⟩;have ad:¬(400:Int)<r:=BS;clear ac);have Y:AO w X:=BV;clear V;go_loopw [17] (λi wr=>∃j:Nat,j<=c/\i=AB j/\Q=Es (l.drop j) j/\AO w wr) (λi _=>c - (intOf i).toNat);case atStart=>exact⟨0,BS,rfl,y.out,Y⟩
 case round=>
  clear Y y;obtain⟨j,hj,rfl,S,v⟩:=hrel;have B:=BZ S;clear S;by_cases ag:j<c;{have E:j<l.length:=(by have:=dQ.out;omega);(obtain⟨b,o,rfl,aa,O⟩:=HC j E;have⟨M,xP,xO,x4,x5,J,g⟩:=(Pg.below v _ _ _ O aa).open;have⟨x0,x1,mM,xN,x2,x3,I,A⟩:=M.open;have k:=BZ (λW d=>Avr l[j] mM xN xP xO W (ab W (v.tr (d.mo v.size))) (I.below d) (A.below d) (J.below d) (g.below d) (HF _ (DY E)));have F:Hid (Q=if 0<Fv l[j] then(Fv l[j],j) else Es (l.drop (j+1)) (j+1)):=by show _=_;rw[B.out,Zt l j E]);have⟨s,N⟩:=AA (Fv l[j]);have⟨x,P⟩:=AA (l[j]);rw[<-N]at k F;rw[<-P]at k x0 x1 I A J g;obtain⟨t0,u0,rfl,_⟩:=I;obtain⟨t1,u1,rfl,_⟩:=A;obtain⟨t2,u2,rfl,_⟩:=J;obtain⟨t3,u3,rfl,_⟩:=g;clear N P O M B;by_cases q:0<s;{have t:Hid (R=.iface 138 (.agg #[AB j,.iface 135 (AB s)])):=(by show _=_;rw[m.out,F.out,BR q];unfold lookOf;simp[q]);rw[Oc q]at k;go_wp2_with(go_at_call 76;refine(k _ BV).mo ?_;rintro e w4⟨rfl,af⟩);go_ret;exact⟨by rw[t.out];rfl,BV⟩};have t:Hid (Q=Es (l.drop (j+1)) (j+1)):=(by show _=_;rw[F.out,BQ q]);rw[Q8 q]at k;go_wp2_with(go_at_call 76;refine(k _ BV).mo ?_;rintro e w4⟨rfl,af⟩);exact⟨⟨j+1,BS,by go_num,t.out,BV⟩,xAb⟩};have t:Hid (R=.nilIface):=by show _=_;rw[m.out,B.out,IU yDf];rfl
  go_wp2;go_ret;exact⟨by rw[t.out];rfl,v⟩
