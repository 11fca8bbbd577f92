import Derived.Test.YtgnkpbhknkinoaaGreatDoorGO
import Derived.Test.YtgnkpbhknkinoaaGreatDoorGJ
set_option linter.defProp false
set_option maxHeartbeats 4000000
set_option maxRecDepth 100000
namespace Go.Proofs.YtgnkpbhknkinoaaGreatDoor
open Tryz Stil
section
open Go.RowKit Go.Sort Go.BigFrame Go.Shelf
attribute [local go_sem] Oper.semAt_some
def errOf(c:Int):AW:=if 0<c then .iface 176 (AB c) else .nilIface
def zd {p:Prop}(h:p:=by
 go_enter func190,ntmps190;go_wp2_with(go_at_call 164;refine(HC _).mo ?_;rintro e w1⟨rfl,hb⟩;have⟨hc,hfz⟩:=F8 hb);all_goals go_ret
 all_goals exact⟨Ad (by rw[HX.out];simp),BV⟩):p:=h
def Azv(n:Stil.DI)(r v:AW)(w:AU)(C:Ar w r n.O.args)(B:Fe w v n.K)(u:Cj n):
  Calls prog 190 #[.agg #[AB n.kind,AB n.O.op,r,v]] w (AN w (.bool (KH n))):=by
 have⟨_,j,y,_⟩:=D8 u;have z:=j.2.1;obtain⟨A,x,rfl,_⟩:=C;obtain⟨I,H,rfl,_⟩:=B;clear u j;have HC:Hid (∀W,Calls prog 164 #[.agg #[AB n.O.op,AE A n.O.args.length x]] W (AN W (.bool (n.O.op==0 && n.O.args.length==0)))):=λW=>P2 _ _ _ _ _ BS;have a:Hid (KH n=if n.kind=1 then decide (n.K.length=0) else if n.kind=2\/n.kind=3 then(n.O.op==0 && n.O.args.length==0) && decide (0<n.K.length) else if n.kind=4 then(n.O.op==0 && n.O.args.length==0) && decide (n.K.length=1) else false):=rfl;have⟨b,o⟩:=AA ((n.O.op==0 && n.O.args.length==0));rw[<-o]at a HC;have⟨f,l⟩:=AA n.K.length;have⟨s,t⟩:=AA n.O.args.length;rw[<-l]at a y⊢;rw[<-t]at HC z⊢;have⟨k,q⟩:=AA n.kind;rw[<-q]at a⊢;have⟨R,m⟩:=AA (KH n);rw[<-m]at a⊢;clear o l t q m;by_cases d:k=1
 .subst d;have HX:Hid (R=((f:Int)==0)):=by show _=_;rw[a.out,BR rfl,E6];simp
  clear a HC;go_enter func190,ntmps190;go_wp2;all_goals go_ret
  all_goals exact⟨Ad C6,BV⟩
 have F:(k==1)=false:=by rwa[DV]
 by_cases c:k=2\/k=3
 .have HX:Hid (R=(b && decide ((0:Int)<(f:Int)))):=by show _=_;rw[a.out,BQ d,BR c,E6];simp
  clear a;cases b;{rcases c with rfl|rfl;{exact zd};exact zd};rcases c with rfl|rfl;{exact zd};exact zd
 have E:(k==2)=false:=by rw[DV];omega
 have D:(k==3)=false:=xAf;by_cases g:k=4
 .subst g;have HX:Hid (R=(b && ((f:Int)==1))):=by show _=_;rw[a.out,BQ d,BQ c,BR rfl,E6];simp;omega
  clear a;cases b;{exact zd};exact zd
 have G:(k==4)=false:=by rwa[DV]
 have HX:Hid (R=false):=by show _=_;rw[a.out,BQ d,BQ c,BQ g]
 clear a HC;go_enter func190,ntmps190;go_wp2;all_goals go_ret
 all_goals exact⟨Ad C6,BV⟩
end
section
open Go.RowKit Go.Sort Go.BigFrame Go.Shelf
def UK(W:AU)(B:Nat)(k op:Int)(a n:AW):Prop:=W.cell? (AK B 0)=some (AB k)/\W.cell? (AK B 1)=some (AB op)/\W.cell? (AK B 2)=some a/\W.cell? (AK B 3)=some n
def Aum{β:Type}(B:Nat)(k op:Int)(a n:AW):Own (λ(_:β)W=>UK W B k op a n):=λ_ _ _ _ b c d=>
 ⟨cell_kept b.1 c d,cell_kept b.2.1 c d,cell_kept b.2.2.1 c d,cell_kept b.2.2.2 c d⟩
end
section
open Go.RowKit Go.Sort Go.BigFrame Go.Shelf
variable {α:Type}
attribute [local go_sem] Oper.semAt_some
def Ye(f:α->Int){a b:List α}(h:a<+:b)(d:0<Az (a.map f)):Az (b.map f)=Az (a.map f):=by obtain⟨c,rfl⟩:=h;rw[D2,Tn,BR d]
def VO(f:α->Int)(l:List α)(x:α)(h:¬0<Az (l.map f)):Az ((l++[x]).map f)=if 0<f x then f x else 0:=by rw[D2,Tn,BQ h];simp[Az]
def zra{p:Prop}(h:p:=by exact⟨yQa,Wy (Kept.refl _ _ _) hn hb2,⟨⟨⟨c2,z2⟩,BV⟩,by rw[HX.out];omega,by have:=hb2.size;omega⟩⟩):p:=h
theorem Azs(n:Stil.DI)(R Z:AW)(w:AU)(hr:Ee w)(N:Ar w R n.O.args)(J:Fe w Z n.K)(hf:Cj n):
  Calls prog 179 #[.agg #[AB n.kind,AB n.O.op,R,Z]] w (AN w (errOf (Am n))):=by
 have T:Hid (Az ((Et [n]).map Gj)=Am n):=by show _=_;rw[WQ,tg]
 have ap:=La n;have⟨z,hz⟩:=AA (Am n);rw[<-hz]at T ap⊢;clear hz;refine(callsIn_wide (n:=9)).1 ?_;have aZ:=BX N;have xg:=BX J;have an:=BX (λW(h:AO w W)=>hr.below h);obtain⟨U,r0,rfl,_⟩:=N;obtain⟨p1,S,rfl,_⟩:=J;refine callsIn_of_wp_marks func179 rfl trivial ?_ rfl;simp only[ntmps179,Db,DO,DU,Nat.reduceAdd,Nat.reduceSub,ES,ET,EV,EU,EB,D4];gi_wp2_with(refine⟨trivial,?_⟩;gi_at_call 178;refine(callsIn_wide.2 (XY _ _ _ _ _ _ _ _ _)).mono ?_;rintro e j⟨b,A,K,rfl,ao,al,ak,hA,q,x0,x1,x2,x3,hb⟩);simp only[BG]at ao al ak;have ag:AO w j:=BV;have ar:j.cell? (AK (w.heap.size+1) 0)=some .nilIface:=B0 hb;have ax:j.frozen? (AK (w.heap.size+1) 0)=false:=B1 hb;have ay:w.heap.size+2<=j.heap.size:=xBl;have aX:Px w (λ_=>False) j (AE (some (AK b 0)) 1 1) [n]:=by refine⟨_,1,rfl,λi hi=>⟨b,0,rfl,(λh=>h),AE U n.O.args.length r0,AE p1 n.K.length S,?_⟩⟩;obtain rfl:i=0:=yEf;simp only[GZ,ED,II];exact⟨x0,x1,x2,x3,aZ.out,xg.out⟩
 have HS:Hid (SeqStopsK Fence.wide (9 - 1) prog 194 #[AH K,AH A] (λx:Ug w Cj=>#[Value.agg #[AB x.N.kind,AB x.N.O.op,x.av,x.kv]]) (Kept w.heap.size (λ_=>False)) (λys=>ys.map Ug.N=Et [n]) (λpre=>pre.map Ug.N<+:Et [n]) (Et [n]).length j):=
  ZU w Cj (λx H=>⟨(D8 H).2.2.1,(D8 H).2.2.2⟩) (λ_=>False) (λ_ h=>h.elim) 0 A K (λ_ h=>h.elim) (λh=>h) (λh=>h) [n] BU (by simpa using hf) _ j ag (EI _) aX hA q _
 clear aX hb x0 x1 x2 x3 hA q hf;refine wpIn_rangeFunc_ownH rfl BZ (gf:=194) (lb:=#[AH K,AH A]) rfl trivial (enters_of func194 BW rfl)
  HS Kept.t (Kept.b BS) (BP _ _) (λ_=>rfl)
  (λpre W=>((W.cell? (AK (w.heap.size+1) 0)=some .nilIface/\W.frozen? (AK (w.heap.size+1) 0)=false)/\AO w W)/\¬0<Az (pre.map (Gj ∘ Ug.N))/\j.heap.size<=W.heap.size)
  (λc pre W=>(c=.ret/\∃k,0<k/\Az (pre.map (Gj ∘ Ug.N))=k/\W.cell? (AK (w.heap.size+1) 0)=some (.iface 176 (AB k)))/\AO w W)
  (OwnFrom.and (OwnFrom.and (Own.from (λs A ab row g o hr=>⟨cell_kept g.1 o hr,(frozen_kept g.1 o hr).trans g.2⟩) _) (ownFrom_below (DK _) BS)) (OwnFrom.and (ownFrom_pure _ _) (λ_ _ _ _ g o _=>DR g o.size)))
  (λc=>OwnFrom.and (Own.from (λs A ab row g o hr=>⟨g.1,g.2.elim λt ht=>⟨t,ht.1,ht.2.1,cell_kept ht.2.2 o hr⟩⟩) _) (ownFrom_below (DK _) BS))
  ⟨⟨⟨ar,ax⟩,ag⟩,by simp[Az],DK _⟩
  (λx P W=>∃C,j.heap.size<=C/\UK W C x.N.kind x.N.O.op x.av x.kv/\P={tmps:=#[A0 n U r0 p1 S,AH w.heap.size,AH (w.heap.size+1),AH C, (A0 n U r0 p1 S),.func (.func 194) #[] #[AH K,AH A],.agg #[AB x.N.kind,AB x.N.O.op,x.av,x.kv],AQ,AQ,AQ,AQ,AQ,AQ,AQ,AQ,AQ,AQ,AQ,AQ,AQ,AQ],defers:=[]})
  (λx P s A ab row g o hr=>g.elim λC H=>⟨C,H.1,Aum (β:=Unit) C _ _ _ _ s A ab row H.2.1 o (λr e=>(hr r e).2),H.2.2⟩) ?assign ?body ?done ?stop
 case assign=>rintro l pre x W KK⟨⟨⟨d,F⟩,G⟩,E,aw⟩ aA;obtain⟨x,R,Z,N,J,mF⟩:=x;obtain⟨q0,s0,rfl,_⟩:=id N;obtain⟨q1,s1,rfl,_⟩:=id J;gi_wp2;exact aA _ _ ((KeepsOthers.alloc _ _).from _) (Kept.of_below G.size (Aa _ _)) ⟨⟨⟨Po _ d,Qd _ d F⟩,BV⟩,E,Bw⟩ ⟨W.heap.size,BS,⟨AP,AP,AP,AP⟩,rfl⟩
 case body=>
  rintro l pre x P W ai _⟨⟨⟨d,F⟩,G⟩,E,aw⟩ ⟨C,az,⟨y0,y1,y2,y3⟩,rfl⟩ aj;have u:=Ba d;have tY:=Ba y0;have hn:w.heap.size<=W.heap.size:=BS;have B:=BX (λX I=>Azv x.N x.av x.kv X (x.hav.below I) (x.hkv.below I) x.mem);have L:=BX (λX I=>XA x.N.O.op x.av x.N.O.args X (an X I) (x.hav.below I) (D8 x.mem).2.1.2.2 (by have:=(D8 x.mem).2.1.2.1;omega));have m:Hid (Az ((pre++[x]).map (Gj ∘ Ug.N))=if 0<Gj x.N then Gj x.N else 0):=VO _ _ _ E;have f:Hid (Gj x.N=if KH x.N then(if x.N.kind=1 then(if Dc x.N.O.op x.N.O.args then 0 else 3) else 0) else 2):=rfl;have⟨q0,s0,e0,_⟩:=id x.hav;have⟨q1,s1,e1,_⟩:=id x.hkv;rw[e0,e1]at B;rw[e0]at L y2;rw[e1]at y3;have⟨aa,ah⟩:=AA (KH x.N);have⟨Q,af⟩:=AA (Dc x.N.O.op x.N.O.args);have⟨M,ae⟩:=AA x.N.kind;rw[<-ah]at B f;rw[<-af]at L f;rw[<-ae]at B f y0;clear ah af ae e0 e1 aj ai E;cases aa;{have HX:Hid (Az ((pre++[x]).map (Gj ∘ Ug.N))=2):=(by show _=_;rw[m.out,f.out];simp);clear m f;gi_wp2_with(refine⟨trivial,?_⟩;gi_at_call 190;refine(CallsIn.inRound l (callsIn_wide.2 (B _ BV))).mono ?_;rintro e O⟨rfl,hb2⟩;have c2:=(hb2.cell (p:=(AK (w.heap.size+1) 0)) u).trans d;have z2:=(hb2.frozen (p:=(AK (w.heap.size+1) 0)) u).trans F);exact⟨yQa,⟨rfl,2,BS,HX.out,E8 c2⟩,BV⟩};by_cases V:M=1;{subst V;cases Q;{have HX:Hid (Az ((pre++[x]).map (Gj ∘ Ug.N))=3):=(by show _=_;rw[m.out,f.out];simp);clear m f;gi_wp2_with(first|(refine⟨trivial,?_⟩;gi_at_call 190;refine(CallsIn.inRound l (callsIn_wide.2 (B _ BV))).mono ?_;rintro e O⟨rfl,hb2⟩;have c2:=(hb2.cell (p:=(AK (w.heap.size+1) 0)) u).trans d;have z2:=(hb2.frozen (p:=(AK (w.heap.size+1) 0)) u).trans F;have⟨yD,xZ⟩:=F8 hb2)|(refine⟨trivial,?_⟩;gi_at_call 184;refine(CallsIn.inRound l (callsIn_wide.2 (L _ BV))).mono ?_;rintro e W3⟨rfl,y⟩;have c3:=(y.cell (p:=(AK (w.heap.size+1) 0)) (Ba c2)).trans c2;have z3:=(y.frozen (p:=(AK (w.heap.size+1) 0)) (Ba c2)).trans z2));exact⟨yQa,⟨rfl,3,BS,HX.out,E8 c3⟩,BV⟩};have HX:Hid (Az ((pre++[x]).map (Gj ∘ Ug.N))=0):=(by show _=_;rw[m.out,f.out];simp);clear m f;gi_wp2_with(first|(refine⟨trivial,?_⟩;gi_at_call 190;refine(CallsIn.inRound l (callsIn_wide.2 (B _ BV))).mono ?_;rintro e O⟨rfl,hb2⟩;have c2:=(hb2.cell (p:=(AK (w.heap.size+1) 0)) u).trans d;have z2:=(hb2.frozen (p:=(AK (w.heap.size+1) 0)) u).trans F;have⟨yD,xZ⟩:=F8 hb2)|(refine⟨trivial,?_⟩;gi_at_call 184;refine(CallsIn.inRound l (callsIn_wide.2 (L _ BV))).mono ?_;rintro e W3⟨rfl,y⟩;have c3:=(y.cell (p:=(AK (w.heap.size+1) 0)) (Ba c2)).trans c2;have z3:=(y.frozen (p:=(AK (w.heap.size+1) 0)) (Ba c2)).trans z2));exact⟨yQa,Wy (Wy (Kept.refl _ _ _) hn hb2) hn y,⟨⟨⟨c3,z3⟩,BV⟩,by rw[HX.out];omega,by have:=hb2.size;have:=y.size;omega⟩⟩};have aB:(M==1)=false:=by rwa[DV]
  have HX:Hid (Az ((pre++[x]).map (Gj ∘ Ug.N))=0):=by show _=_;rw[m.out,f.out];simp[V]
  clear m f;gi_wp2_with(refine⟨trivial,?_⟩;gi_at_call 190;refine(CallsIn.inRound l (callsIn_wide.2 (B _ BV))).mono ?_;rintro e O⟨rfl,hb2⟩;have c2:=(hb2.cell (p:=(AK (w.heap.size+1) 0)) u).trans d;have z2:=(hb2.frozen (p:=(AK (w.heap.size+1) 0)) u).trans F;have⟨yD,xZ⟩:=F8 hb2);refine⟨trivial,?_⟩;gi_wp2;exact zra
 case done=>
  rintro D ys W hD hS⟨⟨⟨d,F⟩,G⟩,E,_⟩ q;rw[<-IP,hS,T.out]at E;have HX:Hid (errOf z=.nilIface):=by show _=_;unfold errOf;rw[BQ E]
  gi_wp2;have ac:=(KeepsOthers.setCell W (AK (w.heap.size+1) 0) .nilIface).same D _ q rfl;refine⟨BU,.inl ⟨_,_,rfl,run_takeDeferred ac,?_⟩⟩;have Y:=cell_kept (E8 d (v:=.nilIface)) (grownBy_putObj' _ D (.deferred none)) (λr e=>by cases e;exact⟨_,ac,rfl⟩);refine⟨.nilIface,?_,C6,(G.setCell (p:=(AK (w.heap.size+1) 0)) BU _).trans (belowK_b (w:=w) (DK _) _ D _ _ BS ac rfl rfl)⟩;simp[results,Tryz.f179,go_sem,Y]
 case stop=>
  rintro D c pre W hD au⟨⟨rfl,k,hk,ad,d⟩,G⟩ q;have lg:z=k:=by rw[<-IP]at ad;have:=Ye Gj au (by rwa[ad]);rw[T.out,ad]at this;exact this
  have HX:Hid (errOf z=.iface 176 (AB k)):=by show _=_;unfold errOf;rw[lg,BR hk]
  gi_wp2;refine⟨BU,.inl ⟨_,_,rfl,run_takeDeferred q,?_⟩⟩;have Y:=cell_kept d (grownBy_putObj' _ D (.deferred none)) (λr e=>by cases e;exact⟨_,q,rfl⟩);refine⟨.iface 176 (AB k),?_,C6,G.trans (belowK_b (w:=w) (DK _) W D _ _ BS q rfl rfl)⟩;simp[results,Tryz.f179,go_sem,Y]
end
section
open Go.RowKit Go.Sort Go.BigFrame
def N9{c:Int}(h:0<c):errOf c=.iface 176 (AB c):=by unfold errOf;rw[BR h]
def Q4{c:Int}(h:¬0<c):errOf c=.nilIface:=by unfold errOf;rw[BQ h]
def za {p:Prop}(h:p:=by
 clear hbs;obtain⟨m,hm,rfl,hcb,hB⟩:=hrel;have iW:=BX hcb;clear hcb;have hz:w.heap.size<wr.heap.size:=by have:=hB.size;simp at this;omega
 have c0:wr.cell? (AL w 0)=some (AB n.kind):=B0 hB;have f0:wr.frozen? (AL w 0)=false:=B1 hB;have c1:wr.cell? (AL w 1)=some (AB n.O.op):=B0 hB;have f1:wr.frozen? (AL w 1)=false:=B1 hB;have c2:wr.cell? (AL w 2)=some (AE p0 n.O.args.length r0):=B0 hB;have f2:wr.frozen? (AL w 2)=false:=B1 hB;have c3:wr.cell? (AL w 3)=some (AE p1 n.K.length r1):=B0 hB;have f3:wr.frozen? (AL w 3)=false:=B1 hB;have c4:wr.cell? (AL w 4)=some (AE p2 lc r2):=B0 hB;have f4:wr.frozen? (AL w 4)=false:=B1 hB;have c5:wr.cell? (AL w 5)=some (AE p3 lk r3):=B0 hB;have f5:wr.frozen? (AL w 5)=false:=B1 hB;have hbw:=(Aa _ _).tr (hB.mo BS);by_cases hlt:m<lc
 .have hlt':m<coils.length:=by have:=uI.out;omega
  obtain⟨b,o,rfl,hbl,hce⟩:=ji m hlt';have⟨x0,yV,x1,jB⟩:=hce.below hbw hbl;have fD:=nZ _ (DW hlt');have HI:=BX (λW hW=>ZI coils[m].op yV coils[m].args W (HRR W (hbw.tr (hW.mo hbw.size))) (jB.below hW) fD.2.2 (by have:=fD.2.1;omega));have HD:Hid (Dq coils=(!F7 coils[m].op coils[m].args || Dq (coils.drop (m+1)))):=by show _=_;rw[iW.out,Xc _ _ hlt']
  have⟨ic,hic⟩:=AA (F7 coils[m].op coils[m].args);rw[<-hic]at HI HD;have⟨y,hy⟩:=AA (coils[m]);rw[<-hy]at HI x0;obtain⟨t1,t2,g1,_⟩:=jB;rw[<-hy]at g1;subst g1;clear hic hy hce fD iW;cases ic;{have HX:Hid (R=3):=(by show _=_;rw[HR2.out,HD.out];rfl);go_wp2_with(go_at_call 180;refine(HI _ BV).mo ?_;rintro e w3⟨rfl,hb3⟩);go_ret;exact⟨by rw[HX.out,N9 BS];rfl,BV⟩};have HX:Hid (Dq coils=Dq (coils.drop (m+1))):=by show _=_;rw[HD.out];rfl
  go_wp2_with(go_at_call 180;refine(HI _ BV).mo ?_;rintro e w3⟨rfl,hb3⟩);exact⟨⟨m+1,BS,by go_num,HX.out,hB.tr (((Aa _ _).tr (hb3.mo BU)).mo hz)⟩,by simp[intOf];omega⟩
 have hcb0:Dq coils=false:=by rw[iW.out,IJ (by have:=uI.out;omega)];rfl
 have HR3:Hid (R=if lc=0/\lk=0 then 5 else 0):=by show _=_;rw[HR2.out,hcb0];rfl
 clear hcb0 iW HR2;by_cases hl0:lc=0/\lk=0
 .have HX:Hid (R=5):=by show _=_;rw[HR3.out,BR hl0]
  obtain⟨rfl,rfl⟩:=hl0;clear HR3;go_wp2;go_ret;exact⟨by rw[HX.out,N9 BS];rfl,BV⟩
 have HX:Hid (R=0):=by show _=_;rw[HR3.out,BQ hl0]
 clear HR3;have hcase:((lc:Int)==0)=false\/((lk:Int)==0)=false:=by by_cases h:lc=0;{right;rw[DV];omega};left;rw[DV];omega
 clear hl0;rcases hcase with hq|hq
 .go_wp2;all_goals go_ret
  all_goals exact⟨by rw[HX.out,Q4 BS];rfl,BV⟩
 go_wp2;all_goals go_ret
 all_goals exact⟨by rw[HX.out,Q4 BS];rfl,BV⟩):p:=h
def Azt(x:Stil.DJ)(s B F S:AW)(w:AU)(hr:Ee w)(t:Ar w s x.N.O.args)(q:Fe w B x.N.K)(P:G6 w F x.C)(O:Dx w S x.K)(Q:Bh x):
  Calls prog 161 #[.agg #[AB x.N.kind,AB x.N.O.op,s,B,F,S]] w (AN w (errOf (Cm x))):=by
 obtain⟨n,coils,kids⟩:=x;simp only at t q P O⊢;have⟨r,L,D,G,_⟩:=Ig Q;simp only at r L D G;have l:=BX (λW hW=>Us n s B W (t.below hW) (q.below hW) r);have f:=BX (λW hW=>Azs n s B W (hr.below hW) (t.below hW) (q.below hW) r);have nZ:=BX D;have HRR:=BX (λW(h:AO w W)=>hr.below h);obtain⟨p0,r0,rfl,_⟩:=t;obtain⟨p1,r1,rfl,_⟩:=q;obtain⟨p2,r2,rfl,H⟩:=P;obtain⟨p3,r3,rfl,_⟩:=O;have ji:=BX H;have d:Hid (Cm ⟨n,coils,kids⟩=if Ai n=false/\0<Am n then Am n else if Dq coils then 3 else if coils.length=0/\kids.length=0 then 5 else 0):=rfl;have⟨C,M⟩:=AA (Ai n);have⟨j,K⟩:=AA (Am n);rw[<-M]at l d;rw[<-K]at f d;have⟨lc,E⟩:=AA coils.length;have⟨lk,I⟩:=AA kids.length;have uI:=BX E;rw[<-E]at L d⊢;rw[<-I]at G d⊢;have⟨R,J⟩:=AA (Cm ⟨n,coils,kids⟩);rw[<-J]at d⊢;clear Q r D H M K E I J hr;cases C
 .by_cases g:0<j;{have HX:Hid (R=j):=(by show _=_;rw[d.out];simp[g]);rw[N9 g]at f;go_enter func161,ntmps161;go_wp2_with(first|(go_at_call 131;refine(l _ BV).mo ?_;rintro e k⟨rfl,c⟩;have⟨A,u⟩:=F8 c)|(go_at_call 179;refine(f _ BV).mo ?_;rintro e N⟨rfl,z⟩));go_ret;exact⟨by rw[HX.out,N9 g];rfl,BV⟩};have HR2:Hid (R=if Dq coils then 3 else if lc=0/\lk=0 then 5 else 0):=by show _=_;rw[d.out];simp[g]
  rw[Q4 g]at f;clear d;go_enter func161,ntmps161;go_wp2_with(first|(go_at_call 131;refine(l _ BV).mo ?_;rintro e k⟨rfl,c⟩;have⟨A,u⟩:=F8 c;have T:w.z<k.z:=DL BU c.size)|(go_at_call 179;refine(f _ BV).mo ?_;rintro e N⟨rfl,z⟩;have⟨U,X⟩:=F8 z));have hbs:Below (w.z+1) (w.alloc (.cells #[AB n.kind,AB n.O.op,AE p0 n.O.args.length r0,AE p1 n.K.length r1,AE p2 lc r2,AE p3 lk r3] 59)) N:=by have h1:=c.size;simp only[BG]at c h1;exact c.tr (z.mo h1)
  clear c z A u U X T;go_loopw [19] (λi wr=>∃m:Nat,m<=lc/\i=AB m/\Dq coils=Dq (coils.drop m)/\Below (w.z+1) (w.alloc (.cells #[AB n.kind,AB n.O.op,AE p0 n.O.args.length r0,AE p1 n.K.length r1,AE p2 lc r2,AE p3 lk r3] 59)) wr) (λi _=>lc - (intOf i).toNat);case atStart=>exact⟨0,BS,rfl,rfl,hbs⟩
  case round=>exact za
 have HR2:Hid (R=if Dq coils then 3 else if lc=0/\lk=0 then 5 else 0):=by show _=_;rw[d.out];simp
 clear d f;go_enter func161,ntmps161;go_wp2_with(go_at_call 131;refine(l _ BV).mo ?_;rintro e k⟨rfl,c⟩;have⟨A,u⟩:=F8 c);have hbs:Below (w.z+1) (w.alloc (.cells #[AB n.kind,AB n.O.op,AE p0 n.O.args.length r0,AE p1 n.K.length r1,AE p2 lc r2,AE p3 lk r3] 59)) k:=by simpa using c
 clear c A u;go_loopw [19] (λi wr=>∃m:Nat,m<=lc/\i=AB m/\Dq coils=Dq (coils.drop m)/\Below (w.z+1) (w.alloc (.cells #[AB n.kind,AB n.O.op,AE p0 n.O.args.length r0,AE p1 n.K.length r1,AE p2 lc r2,AE p3 lk r3] 59)) wr) (λi _=>lc - (intOf i).toNat);case atStart=>exact⟨0,BS,rfl,rfl,hbs⟩
 case round=>exact za
end
section
open Go.RowKit Go.Sort Go.BigFrame Go.Shelf
attribute [local go_sem] Oper.semAt_some
def Au2(x:Stil.DJ)(H L Z kv:AW)(w:AU)(hr:Ee w)(Q:Ar w H x.N.O.args)(P:Fe w L x.N.K)(V:G6 w Z x.C)(U:Dx w kv x.K)(hf:Bh x):
  Calls prog 127 #[.agg #[AB x.N.kind,AB x.N.O.op,H,L,Z,kv]] w (AN w (errOf (Fh x))):=by
 have r:Hid (Fh x=if Ai x.N then 4 else Cb x):=rfl;have uP:Hid (Az ((D9 [x]).map Cm)=Cb x):=by show _=_;rw[<-VU];simp[D9]
 have aK:=BX (λW hW=>Us x.N H L W (Q.below hW) (P.below hW) (Ig hf).1);have au:=BX (λW(h:AO w W)=>hr.below h);have aZ:Hid (Ar w H x.N.O.args/\Fe w L x.N.K/\G6 w Z x.C/\Dx w kv x.K):=⟨Q,P,V,U⟩;obtain⟨J,M,rfl,_⟩:=Q;obtain⟨S,I,rfl,_⟩:=P;obtain⟨T,Y,rfl,_⟩:=V;obtain⟨p3,X,rfl,_⟩:=U;have⟨R,hR⟩:=AA (Fh x);have⟨z,hz⟩:=AA (Cb x);have⟨nn,ah⟩:=AA (Ai x.N);rw[<-hR]at r⊢;rw[<-hz]at r uP;rw[<-ah]at r aK;clear hR hz ah;refine(callsIn_wide (n:=9)).1 ?_;cases nn
 .have HX:Hid (R=z):=by show _=_;rw[r.out];simp
  clear r;refine callsIn_of_wp_marks func127 rfl trivial ?_ rfl;simp only[ntmps127,Db,DO,DU,Nat.reduceAdd,Nat.reduceSub,ES,ET,EV,EU,EB,D4];gi_wp2_with(first|(refine⟨trivial,?_⟩;gi_at_call 131;refine(callsIn_wide.2 (aK _ BV)).mono ?_;rintro e d⟨rfl,o⟩;have⟨ao,aB⟩:=F8 o)|(refine⟨trivial,?_⟩;gi_at_call 159;refine(callsIn_wide.2 (XZ _ _ _ _)).mono ?_;rintro e f⟨A,K,rfl,ar,ap,hA,m,hb⟩));have aE:AO w d:=BV;have ak:AO w f:=BV;have h9:=o.size;have h1:=hb.size;simp only[BG]at ar ap h9 h1;have x0:f.cell? (AL d 0)=some (AB x.N.kind):=B0 hb;have x1:f.cell? (AL d 1)=some (AB x.N.O.op):=B0 hb;have x2:f.cell? (AL d 2)=some (AE J x.N.O.args.length M):=B0 hb;have x3:f.cell? (AL d 3)=some (AE S x.N.K.length I):=B0 hb;have x4:f.cell? (AL d 4)=some (AE T x.C.length Y):=B0 hb;have x5:f.cell? (AL d 5)=some (AE p3 x.K.length X):=B0 hb;have ax:f.cell? (AK (w.heap.size+1) 0)=some .nilIface:=by rw[hb.cell (p:=(AK (w.heap.size+1) 0)) Bw,(Aa d _).cell (p:=(AK (w.heap.size+1) 0)) (show w.heap.size+1<d.heap.size by omega),o.cell (p:=(AK (w.heap.size+1) 0)) BU];simp[go_sem]
  have az:f.frozen? (AK (w.heap.size+1) 0)=false:=by rw[hb.frozen (p:=(AK (w.heap.size+1) 0)) Bw,(Aa d _).frozen (p:=(AK (w.heap.size+1) 0)) (show w.heap.size+1<d.heap.size by omega),o.frozen (p:=(AK (w.heap.size+1) 0)) BU];simp[go_sem]
  have aC:w.heap.size+2<=f.heap.size:=BS;have aX:Og w (λ_=>False) f (AE (some (AL d 0)) 1 1) [x]:=by refine⟨_,1,rfl,λi hi=>⟨d.heap.size,0,rfl,(λh=>h),AE J x.N.O.args.length M,AE S x.N.K.length I,AE T x.C.length Y,AE p3 x.K.length X,?_⟩⟩;obtain rfl:i=0:=yEf;simp only[GZ,ED,II];exact⟨x0,x1,x2,x3,x4,x5,aZ.out⟩
  have HS:Hid (SeqStopsK Fence.wide (9 - 1) prog 186 #[AH K,AH A] (λy:Rk w Bh=>#[Value.agg #[AB y.A.N.kind,AB y.A.N.O.op,y.av,y.nv,y.cv,y.kv]]) (Kept w.heap.size (λ_=>False)) (λys=>ys.map Rk.A=D9 [x]) (λpre=>pre.map Rk.A<+:D9 [x]) (D9 [x]).length f):=
   ZV w Bh (λy hy=>⟨(Ig hy).2.2.2.1,(Ig hy).2.2.2.2⟩) (λ_=>False) (λ_ h=>h.elim) 0 A K (λ_ h=>h.elim) (λh=>h) (λh=>h) [x] BU (by simpa using hf) _ f ak (EI _) aX hA m _
  clear aX hb o ao aB x0 x1 x2 x3 x4 x5 hA m hf;refine wpIn_rangeFunc_ownH rfl BZ (gf:=186) (lb:=#[AH K,AH A]) rfl trivial (enters_of func186 BW rfl)
   HS Kept.t (Kept.b BS) (BP _ _) (λ_=>rfl)
   (λpre W=>((W.cell? (AK (w.heap.size+1) 0)=some .nilIface/\W.frozen? (AK (w.heap.size+1) 0)=false)/\AO w W)/\¬0<Az (pre.map (Cm ∘ Rk.A))/\f.heap.size<=W.heap.size)
   (λc pre W=>(c=.ret/\∃k,0<k/\Az (pre.map (Cm ∘ Rk.A))=k/\W.cell? (AK (w.heap.size+1) 0)=some (.iface 176 (AB k)))/\AO w W)
   (OwnFrom.and (OwnFrom.and (Own.from (λs A ad row j l hr=>⟨cell_kept j.1 l hr,(frozen_kept j.1 l hr).trans j.2⟩) _) (ownFrom_below (DK _) BS)) (OwnFrom.and (ownFrom_pure _ _) (λ_ _ _ _ j l _=>DR j l.size)))
   (λc=>OwnFrom.and (Own.from (λs A ad row j l hr=>⟨j.1,j.2.elim λt ht=>⟨t,ht.1,ht.2.1,cell_kept ht.2.2 l hr⟩⟩) _) (ownFrom_below (DK _) BS))
   ⟨⟨⟨ax,az⟩,ak⟩,by simp[Az],DK _⟩
   (λy a' W=>∃q,f.heap.size<=q/\PK W q y.A.N.kind y.A.N.O.op y.av y.nv y.cv y.kv/\a'={tmps:=#[A4 x J M S I T Y p3 X,AH w.heap.size,AH (w.heap.size+1),AH q,AQ,AH w.heap.size, (A0 x.N J M S I),.bool false,AQ, (A4 x J M S I T Y p3 X),AE (some (AL d 0)) 1 1,.func (.func 186) #[] #[AH K,AH A],.agg #[AB y.A.N.kind,AB y.A.N.O.op,y.av,y.nv,y.cv,y.kv],AQ,AQ,AQ,AQ,AQ],defers:=[]})
   (λy a' s A ad row j l hr=>j.elim λq hx=>⟨q,hx.1,ZH (β:=Unit) q _ _ _ _ _ _ s A ad row hx.2.1 l (λab e=>(hr ab e).2),hx.2.2⟩) ?assign ?body ?done ?stop
  case assign=>rintro af pre y W KK⟨⟨⟨g,N⟩,B⟩,u,ay⟩ aA;obtain⟨y,H,L,Z,kv,Q,P,V,U,mF⟩:=y;obtain⟨q0,s0,rfl,_⟩:=id Q;obtain⟨q1,s1,rfl,_⟩:=id P;obtain⟨q2,s2,rfl,_⟩:=id V;obtain⟨q3,s3,rfl,_⟩:=id U;gi_wp2;exact aA _ _ ((KeepsOthers.alloc _ _).from _) (Kept.of_below B.size (Aa _ _)) ⟨⟨⟨Po _ g,Qd _ g N⟩,BV⟩,u,Bw⟩ ⟨W.heap.size,BS,⟨AP,AP,AP,AP,AP,AP⟩,rfl⟩
  case body=>rintro af pre y a' W al _⟨⟨⟨g,N⟩,B⟩,u,ay⟩ ⟨q,aD,⟨y0,y1,y2,y3,y4,y5⟩,rfl⟩ an;have aa:=Ba g;have hn:w.heap.size<=W.heap.size:=BS;have C:=BX (λai O=>Azt y.A y.av y.nv y.cv y.kv ai (au ai O) (y.hav.below O) (y.hnv.below O) (y.hcv.below O) (y.hkv.below O) y.mem);have G:Hid (Az ((pre++[y]).map (Cm ∘ Rk.A))=if 0<Cm y.A then Cm y.A else 0):=VO _ _ _ u;have⟨q0,s0,e0,_⟩:=id y.hav;have⟨q1,s1,e1,_⟩:=id y.hnv;have⟨q2,s2,e2,_⟩:=id y.hcv;have⟨q3,s3,e3,_⟩:=id y.hkv;rw[e0,e1,e2,e3]at C;rw[e0]at y2;rw[e1]at y3;rw[e2]at y4;rw[e3]at y5;have⟨F,aj⟩:=AA (Cm y.A);rw[<-aj]at C G;clear aj e0 e1 e2 e3 an al u;by_cases E:0<F;{rw[N9 E]at C;have HX:Hid (Az ((pre++[y]).map (Cm ∘ Rk.A))=F):=(by show _=_;rw[G.out,BR E]);clear G;gi_wp2_with(refine⟨trivial,?_⟩;gi_at_call 161;refine(CallsIn.inRound af (callsIn_wide.2 (C _ BV))).mono ?_;rintro e W2⟨rfl,hb2⟩;have c2:=(hb2.cell (p:=(AK (w.heap.size+1) 0)) aa).trans g;have z2:=(hb2.frozen (p:=(AK (w.heap.size+1) 0)) aa).trans N);exact⟨yQa,⟨rfl,F,E,HX.out,E8 c2⟩,BV⟩};rw[Q4 E]at C;have HX:Hid (Az ((pre++[y]).map (Cm ∘ Rk.A))=0):=(by show _=_;rw[G.out,BQ E]);clear G;gi_wp2_with(refine⟨trivial,?_⟩;gi_at_call 161;refine(CallsIn.inRound af (callsIn_wide.2 (C _ BV))).mono ?_;rintro e W2⟨rfl,hb2⟩;have c2:=(hb2.cell (p:=(AK (w.heap.size+1) 0)) aa).trans g;have z2:=(hb2.frozen (p:=(AK (w.heap.size+1) 0)) aa).trans N);exact zra
  case done=>(rintro D ys W hD hS⟨⟨⟨g,N⟩,B⟩,u,_⟩ m;rw[<-IP,hS,uP.out]at u;have HY:Hid (errOf R=.nilIface):=by show _=_;rw[HX.out,Q4 u]);gi_wp2;have ag:=(KeepsOthers.setCell W (AK (w.heap.size+1) 0) .nilIface).same D _ m rfl;refine⟨BU,.inl ⟨_,_,rfl,run_takeDeferred ag,?_⟩⟩;have ac:=cell_kept (E8 g (v:=.nilIface)) (grownBy_putObj' _ D (.deferred none)) (λab e=>by cases e;exact⟨_,ag,rfl⟩);refine⟨.nilIface,?_,by rw[HY.out],(B.setCell (p:=(AK (w.heap.size+1) 0)) BU _).trans (belowK_b (w:=w) (DK _) _ D _ _ BS ag rfl rfl)⟩;simp[results,Tryz.f127,go_sem,ac]
  case stop=>(rintro D c pre W hD aw⟨⟨rfl,k,hk,ae,g⟩,B⟩ m;have lg:z=k:=by rw[<-IP]at ae;have:=Ye Cm aw (by rwa[ae]);rw[uP.out,ae]at this;exact this);have HY:Hid (errOf R=.iface 176 (AB k)):=(by show _=_;rw[HX.out,lg,N9 hk]);gi_wp2;refine⟨BU,.inl ⟨_,_,rfl,run_takeDeferred m,?_⟩⟩;have ac:=cell_kept g (grownBy_putObj' _ D (.deferred none)) (λab e=>by cases e;exact⟨_,m,rfl⟩);refine⟨.iface 176 (AB k),?_,by rw[HY.out],B.trans (belowK_b (w:=w) (DK _) W D _ _ BS m rfl rfl)⟩;simp[results,Tryz.f127,go_sem,ac]
 have HX:Hid (R=4):=by show _=_;rw[r.out];simp
 clear r;refine callsIn_of_wp_marks func127 rfl trivial ?_ rfl;simp only[ntmps127,Db,DO,DU,Nat.reduceAdd,Nat.reduceSub,ES,ET,EV,EU,EB,D4];gi_wp2_with(refine⟨trivial,?_⟩;gi_at_call 131;refine(callsIn_wide.2 (aK _ BV)).mono ?_;rintro e d⟨rfl,o⟩;have c9:d.cell? (AK (w.heap.size+1) 0)=some .nilIface:=(B0 o);have z9:d.frozen? (AK (w.heap.size+1) 0)=false:=(B1 o));refine⟨.iface 176 (AB 4),?_,by rw[HX.out,N9 BS],BV⟩;simp[results,Tryz.f127,go_sem,c9]
end
open Go.RowKit Go.Sort Go.BigFrame
def lookOf(many:Bool)(p:Int × Nat):AW:=if many then .iface 176 (AB 1) else if 0<p.1 then .iface 179 (.agg #[AB p.2,.iface 176 (AB p.1)]) else .nilIface
def Auu(l:List Stil.DJ)(G:AW)(w:AU)(hr:Ee w)(f:Dx w G l)(hl:l.length<=1048576)(S:Au l<=1000000000)(I:∀x∈l,Bh x):
  Calls prog 95 #[G] w (AN w (lookOf (decide (40<l.length\/400<Au l)) (Ej l 0))):=by
 have y:=BX (λW d=>wA l G 400 W (f.below d) I hl S BS BS);have HF:=BX I;have ad:=BX (λW(h:AO w W)=>hr.below h);obtain⟨a,cap,rfl,O⟩:=f;have HC:=BX O;have⟨c,A⟩:=AA l.length;have⟨z,T⟩:=AA (Au l);have dN:=BX A;rw[<-A]at hl y⊢;rw[<-T]at y S⊢;have⟨Q,E⟩:=AA (Ej l 0);rw[<-E];have u:=BX E;have⟨R,F⟩:=AA (lookOf (decide (40<c\/400<z)) Q);rw[<-F];have g:=BX F;clear O I A T E F hr;by_cases h1:40<c
 .have k:Hid (R=.iface 176 (AB 1)):=by show _=_;rw[g.out,FX (.inl h1)];rfl
  clear g u;go_enter func95,ntmps95;go_wp2;go_ret;exact⟨by rw[k.out];rfl,BV⟩
 by_cases h2:400<z
 .have k:Hid (R=.iface 176 (AB 1)):=by show _=_;rw[g.out,FX (.inr h2)];rfl
  clear g u;go_enter func95,ntmps95;go_wp2_with(go_at_call 126;refine(y _ BV).mo ?_;rintro e N⟨r,rfl,_,Z,aa,M⟩;have ae:=Z BS;clear Z);go_ret;exact⟨by rw[k.out];rfl,BV⟩
 have k:Hid (R=lookOf false Q):=by show _=_;rw[g.out,FM BS]
 clear g;go_enter func95,ntmps95;go_wp2_with(go_at_call 126;refine(y _ BV).mo ?_;rintro e N⟨r,rfl,ab,_,aa,M⟩;have ae:¬(400:Int)<r:=BS;clear ab);have V:AO w N:=BV;clear M;go_loopw [17] (λi wr=>∃j:Nat,j<=c/\i=AB j/\Q=Ej (l.drop j) j/\AO w wr) (λi _=>c - (intOf i).toNat);case atStart=>exact⟨0,BS,rfl,u.out,V⟩
 case round=>
  clear V u;obtain⟨j,hj,rfl,Y,v⟩:=hrel;have B:=BX Y;clear Y;by_cases ag:j<c;{have H:j<l.length:=(by have:=dN.out;omega);(obtain⟨b,o,rfl,af,U⟩:=HC j H;have⟨L,xB,xA,x4,x5,C,f⟩:=(Ri.below v _ _ _ U af).open;have⟨x0,x1,mD,wZ,x2,x3,K,J⟩:=L.open;have m:=BX (λW d=>Au2 l[j] mD wZ xB xA W (ad W (v.tr (d.mo v.size))) (K.below d) (J.below d) (C.below d) (f.below d) (HF _ (DW H)));have D:Hid (Q=if 0<Fh l[j] then(Fh l[j],j) else Ej (l.drop (j+1)) (j+1)):=by show _=_;rw[B.out,Zk l j H]);have⟨s,P⟩:=AA (Fh l[j]);have⟨x,X⟩:=AA (l[j]);rw[<-P]at m D;rw[<-X]at m x0 x1 K J C f;obtain⟨t0,u0,rfl,_⟩:=K;obtain⟨t1,u1,rfl,_⟩:=J;obtain⟨t2,u2,rfl,_⟩:=C;obtain⟨t3,u3,rfl,_⟩:=f;clear P X U L B;by_cases t:0<s;{have q:Hid (R=.iface 179 (.agg #[AB j,.iface 176 (AB s)])):=(by show _=_;rw[k.out,D.out,BR t];unfold lookOf;simp[t]);rw[N9 t]at m;go_wp2_with(go_at_call 127;refine(m _ BV).mo ?_;rintro e w4⟨rfl,ac⟩);go_ret;exact⟨by rw[q.out];rfl,BV⟩};have q:Hid (Q=Ej (l.drop (j+1)) (j+1)):=(by show _=_;rw[D.out,BQ t]);rw[Q4 t]at m;go_wp2_with(go_at_call 127;refine(m _ BV).mo ?_;rintro e w4⟨rfl,ac⟩);exact⟨⟨j+1,BS,by go_num,q.out,BV⟩,EX⟩};have q:Hid (R=.nilIface):=by show _=_;rw[k.out,B.out,IJ yDd];rfl
  go_wp2;go_ret;exact⟨by rw[q.out];rfl,v⟩
