import Derived.Test.YtmnnkedjoecehaaGreatDoorS33
import Derived.Conc.LeavingOf
set_option maxHeartbeats 8000000
set_option maxRecDepth 100000
namespace Stil
theorem Axv (kids:List B9)(j:Nat)(h:j<kids.length):((kids.mapIdx (λi a=>I7 kids.length i a)).take (j+1)).flatten=((kids.mapIdx (λi a=>I7 kids.length i a)).take j).flatten++(Ew kids.length j++(Dl kids[j].net++C9 kids[j])):=by
 rw[EB BV,FD];simp[I7,IQ]
end Stil
namespace Go.Proofs.YtmnnkedjoecehaaGreatDoor
open Tryz Stil Go.RowKit Go.Sort Go.BigFrame
def TD (f:FuncId)(x:Stil.B9)(is:List Stil.Gf):Prop:=∀(j h i g:Value) (w:World),Tv w j x.net.one.args->Ls w h x.net.kids->Vj w i x.coils->U0 w g x.kids->
 Calls prog f #[.agg #[AB x.net.kind,AB x.net.one.op,j,h,i,g]] w λe w'=>∃(a:Option Addr) (c:Nat) (d:List MI),e=.returned (AE a d.length c)/\d.map MI.inst=is/\J5 w' w.heap.size (AE a d.length c) d/\AO w w'
theorem kK {w w1:World}{base b1:Nat}{v:Value}{d:List MI}{m:MI}(h:J5 w base v d)(c:EOk w1 b1 m.e)(h1:w.heap.size<=b1)(f:base<=w.heap.size):EOk w1 base m.e/\Aside v m.e.av:=
 ⟨Joins.ownsRow_le c AQ,He (n:=w.heap.size) (λk a=>(h.1.lt k a).2) (λk a=>CM h1 (c.lt k a).1)⟩
theorem s_tail (a:Stil.B9):E5 a->Dh a->Ak a<=400->TD 40 a (C9 a):=by
 induction a using Fq with
 | h n r kids ih=>
  intro aC aW hs av nv cv kv w J aa ac Y;simp only at J aa ac Y;have ay:=ZJ _ aC;rw[Cf] at hs ay;have⟨_,gJ⟩:=(Eg _ _ _).1 aC;have⟨_,_,aE,_,xA⟩:=(Fz _ _ _).1 aW;have aH:∀x∈kids,Ak x<=400:=λx t=>by have:Ak x<=Iu kids:=Eb Ak kids x t;omega
  have bu:kids.length<=400:=by have:=Oj kids;omega
  have bh:r.length<=400:=AQ
  have IH:=AV (λx t=>ih x t (gJ x t) (xA x t) (aH x t));have aB:Hid (∀x∈kids,KL 70 x.net (Dl x.net)):=by
   intro x t;have h1:=gJ x t;have h2:=aH x t;have h3:=xA x t;obtain⟨xn,xc,xk⟩:=x;rw[Cf] at h2;exact gx xn ((Eg _ _ _).1 h1).1 ((Fz _ _ _).1 h3).1 AQ
  have jD:=AV (λW (h:AO w W)=>Y.below h);have uf:=AV (λW (h:AO w W)=>(ac.below h).at);have yT:=AV (λx t=>(aE x t).2.1);have wB:=AV (λe he av W h=>RF e av W h (aE e he).2.1);rw[Xc] at ay ⊢;have dX:Hid (∀(j:Nat) (H:List MI),H.map MI.inst=Ig r++((kids.mapIdx (λi a=>I7 kids.length i a)).take j).flatten->H.length<=800):=by
   intro j H h;rw[<-CW (f:=MI.inst),h];have h2:((kids.mapIdx (λi a=>I7 kids.length i a)).take j).flatten.length<=(kids.mapIdx (λi a=>I7 kids.length i a)).flatten.length:=by
    conv=>rhs;rw[<-IA j (kids.mapIdx (λi a=>I7 kids.length i a)),FD,CO]
    omega
   rw[CO] at ay ⊢;omega
  obtain⟨p0,r0,rfl,a7⟩:=J.shape;obtain⟨p1,r1,rfl,bc,_⟩:=aa.shape;obtain⟨p2,r2,rfl,a9⟩:=ac.shape;obtain⟨p3,r3,rfl,ao,_⟩:=Y.shape;clear a7 bc a9 ao ih aH J aa ac Y gJ aC aW aE xA ay;go_enter func40,ntmps40
  go_wp2
  obtain⟨W0,an⟩:∃W,W=w.alloc (.cells #[AB n.kind,AB n.one.op,AE p0 n.one.args.length r0,AE p1 n.kids.length r1,AE p2 r.length r2,AE p3 kids.length r3] 62):=⟨_,rfl⟩
  rw[<-an];have aF:W0.heap.size=w.heap.size+1:=by rw[an];simp
  have aN:AO w W0:=by rw[an];exact Aa _ _
  have aY:W0.cell? (AL w 4)=some (AE p2 r.length r2):=by rw[an];simp[go_sem]
  have aT:W0.cell? (AL w 5)=some (AE p3 kids.length r3):=by rw[an];simp[go_sem]
  clear an;have a8:=AV aF;have⟨W,hW⟩:=AA (W0.alloc (.cells #[] 48))
  rw[<-hW];have aV:Hid (J5 W (w.heap.size+1) (AE (some (AK (w.heap.size+1) 0)) 0 0) []):=by
   rw[hW,<-aF];exact⟨World.ownsRow_lit W0 #[] 0 (CG _) A6 rfl,λx t=>by cases t⟩
  have ax:Below (w.heap.size+1) W0 W:=by rw[hW];exact(Aa W0 _).mono AQ
  have bf:=aN.trans (ax.mono AQ);have nN:w.heap.size<W.heap.size:=by have:=ax.size;omega
  have y4:=(World.cell?_of_block (a:=(AL w 4)) (ax.block _ AU)).trans aY;have y5:=(World.cell?_of_block (a:=(AL w 5)) (ax.block _ AU)).trans aT;clear hW aY aT aN ax aF a8;go_loopw [3,4] (λd i wr=>∃(j:Nat) (F:Option Addr) (E:Nat) (g:List MI),j<=r.length/\i=AB (j:Int)/\d=AE F g.length E/\g.map MI.inst=Ig (r.take j)/\J5 wr (w.heap.size+1) (AE F g.length E) g/\Below (w.heap.size+1) W wr) (λ_ i _=>r.length - (intOf i).toNat)
  case atStart=>exact⟨0,_,_,[],AQ,rfl,rfl,by simp[Ig],aV.out,Below.refl _ _⟩
  case round=>
   obtain⟨j,F,E,g,hj,rfl,rfl,ak,aw,z⟩:=hrel;have iV:=AV ak;have X:=AV aw;have aM:g.length=j:=by
    have:=congrArg List.length ak
    rw[CW,Ig,CW,FP] at this;omega
   have eF:=AV aM;have a6:g.length<=400:=AQ
   clear ak aw aV aM;have D:=bf.trans (z.mono AQ);have U:=CB nN z.size;have bm:=(World.cell?_of_block (a:=(AL w 4)) (z.block _ AU)).trans y4;by_cases ag:j<r.length
   ·have⟨pa,pc,au,ar⟩:=uf wr D
    simp only[Value.slice.injEq,true_and] at au;obtain⟨rfl,rfl⟩:=au;have⟨b2,o2,iY,aD,hn⟩:=ar j ag;subst iY;obtain⟨x0,av,x1,J⟩:=hn;have HI:=AV (λV h=>wB r[j] (CJ ag) av V (J.below h));have aX:Hid (Ig (r.take (j+1))=Ig (r.take j)++[⟨10,r[j]⟩]):=by
     show _=_
     unfold Ig;rw[EB ag,CU];rfl
    have⟨y,hy⟩:=AA (r[j])
    rw[<-hy] at HI aX x0 J;obtain⟨bw,bq,rfl,_⟩:=J;have bg:(j:Int)<(r.length:Int):=AQ
    clear hy ar wB uf IH aB jD dX yT
    go_wp2_with (first | (go_at_call 68;refine(HI _ (Below.refl _ _)).mono ?_;rintro e w2 ⟨O,Q,rfl,aO,C⟩;have uO:=AV aO;clear aO) | (at_builtin;refine Gw (m:=⟨10,⟨y.op,y.args,AE O y.args.length Q⟩⟩) rfl _ _ rfl (w.heap.size+1) F E g rfl rfl (X.below C) (kK (m:=⟨10,⟨y.op,y.args,AE O y.args.length Q⟩⟩) X uO (CG _) AQ) AQ (by have:=C.size;omega) ?_;intro I M w3 hr3 ab;have ae:=AV hr3;clear hr3;have q:=z.trans ((C.mono AQ).trans ab)))
    exact⟨⟨j+1,I,M,g++[⟨10,⟨y.op,y.args,AE O y.args.length Q⟩⟩],AQ,by go_num,by rw[CO];rfl,by rw[CU,iV.out,aX.out];rfl,by rw[CO];exact ae.out,q⟩,by simp[intOf];omega⟩
   ·obtain rfl:j=r.length:=by omega
    have al:=iV.out;rw[IV] at al;have dZ:=AV al;have wF:=(World.cell?_of_block (a:=(AL w 5)) (z.block _ AU)).trans y5;clear al iV y5 uf wB yT eF;obtain⟨wk,ba⟩:∃wk:World,wk=wr:=⟨wr,rfl⟩
    subst ba
    go_wp2
    go_loopw [3,6] (λd i wr=>∃(j:Nat) (F:Option Addr) (E:Nat) (g:List MI),j<=kids.length/\i=AB (j:Int)/\d=AE F g.length E/\g.map MI.inst=Ig r++((kids.mapIdx (λi a=>I7 kids.length i a)).take j).flatten/\J5 wr (w.heap.size+1) (AE F g.length E) g/\Below (w.heap.size+1) wk wr) (λ_ i _=>kids.length - (intOf i).toNat)
    case atStart=>exact⟨0,F,E,g,AQ,rfl,rfl,by rw[dZ.out];simp,X.out,Below.refl _ _⟩
    case round=>
     clear X dZ;obtain⟨wo,aZ⟩:∃wo:World,wo=wk:=⟨_,rfl⟩
     clear aZ wo;have bb:=D;have bn:=U;have bs:=z;clear D U z;obtain⟨j,F,E,g,hj,rfl,rfl,ak,aw,z⟩:=hrel;have iV:=AV ak;have X:=AV aw;have a6:=dX j g ak;clear ak aw;have D:=bb.trans (z.mono AQ);have U:=CB bn z.size;have aI:=(World.cell?_of_block (a:=(AL w 5)) (z.block _ AU)).trans wF;by_cases ag:j<kids.length
     ·have⟨pa,pc,au,_,ar⟩:=(jD w (Below.refl _ _)).shape
      simp only[Value.slice.injEq,true_and] at au;obtain⟨rfl,rfl⟩:=au;have⟨b,o,iY,aD,hn⟩:=ar j ag;subst iY;have⟨aU,cv,kv,x4,x5,ac,Y⟩:=hn.open;have⟨x0,x1,av,nv,x2,x3,J,aa⟩:=aU.open;have HI:Hid (∀V0,AO w V0->∀{V},AO V0 V->Calls prog 40 #[.agg #[AB kids[j].net.kind,AB kids[j].net.one.op,av,nv,cv,kv]] V λe w'=>∃(a:Option Addr) (c:Nat) (H:List MI),e=.returned (AE a H.length c)/\H.map MI.inst=C9 kids[j]/\J5 w' V.heap.size (AE a H.length c) H/\AO V w'):=λV0 h0 V h=>IH kids[j] (CJ ag) av nv cv kv V ((J.below h0).below h) ((aa.below h0).below h) ((ac.below h0).below h) ((Y.below h0).below h)
      have sD:Hid (∀V0,AO w V0->∀{V},AO V0 V->Calls prog 70 #[.agg #[AB kids[j].net.kind,AB kids[j].net.one.op,av,nv]] V λe w'=>∃(a:Option Addr) (c:Nat) (H:List MI),e=.returned (AE a H.length c)/\H.map MI.inst=Dl kids[j].net/\J5 w' V.heap.size (AE a H.length c) H/\AO V w'):=λV0 h0 V h=>aB kids[j] (CJ ag) av nv V ((J.below h0).below h) ((aa.below h0).below h)
      have aX:=Axv kids j ag;have jS:Hid (∀L:List MI,L.map MI.inst=g.map MI.inst++Ew kids.length j->∀k l:List MI,k.map MI.inst=Dl kids[j].net->(L.length+k.length<=1000000)/\(l.map MI.inst=C9 kids[j]->((L++k).length+l.length<=1000000)/\((L++k)++l).map MI.inst=Ig r++((kids.mapIdx (λi a=>I7 kids.length i a)).take (j+1)).flatten)):=by
       intro L hL k l K;have e0:∀l:List MI,l.map MI.inst=C9 kids[j]->((L++k)++l).map MI.inst=Ig r++((kids.mapIdx (λi a=>I7 kids.length i a)).take (j+1)).flatten:=λl u=>by rw[CU,CU,hL,iV.out,K,u,aX];simp only[EI]
       refine⟨?_,λu=>⟨?_,e0 l u⟩⟩
       ·obtain⟨wM,wY⟩:∃wM:List MI,wM.map MI.inst=C9 kids[j]:=⟨(C9 kids[j]).map λi=>⟨i.code,⟨i.one.op,i.one.args,AG⟩⟩,by rw[EZ];exact(JU λi _=>rfl).trans (List.map_id _)⟩
        have:=dX _ _ (e0 wM wY)
        rw[CO,CO] at this;omega
       ·have:=dX _ _ (e0 l u)
        rw[CO] at this;omega
      clear aX;have⟨x,t⟩:=AA (kids[j])
      rw[<-t] at HI sD jS x0 x1 J aa ac Y;obtain⟨q0,s0,rfl,_⟩:=J.shape;obtain⟨q1,s1,rfl,_,_⟩:=aa.shape;obtain⟨q2,s2,rfl,_⟩:=ac.shape;obtain⟨q3,s3,rfl,_,_⟩:=Y.shape;have mW:Hid (∀V,Below (w.heap.size+1) wr V->V.cell? (AL w 5)=some (AE (some (AK b o)) kids.length r3)/\V.cell? (AK b (o+j*6))=some (AB x.net.kind)/\V.cell? (AK b (o+j*6+1))=some (AB x.net.one.op)/\V.cell? (AK b (o+j*6+2))=some (AE q0 x.net.one.args.length s0)/\V.cell? (AK b (o+j*6+3))=some (AE q1 x.net.kids.length s1)/\V.cell? (AK b (o+j*6+4))=some (AE q2 x.coils.length s2)/\V.cell? (AK b (o+j*6+5))=some (AE q3 x.kids.length s3)):=λV hV=>by
       have e0:V.heap[w.heap.size]?=wr.heap[w.heap.size]?:=hV.block _ AQ;have e1:=(hV.block _ AQ).trans (D.block b aD);exact⟨(World.cell?_of_block (a:=(AL w 5)) e0).trans aI,(World.cell?_of_block (a:=(AK b _)) e1).trans x0,(World.cell?_of_block (a:=(AK b _)) e1).trans x1,(World.cell?_of_block (a:=(AK b _)) e1).trans x2,(World.cell?_of_block (a:=(AK b _)) e1).trans x3,(World.cell?_of_block (a:=(AK b _)) e1).trans x4,(World.cell?_of_block (a:=(AK b _)) e1).trans x5⟩
      have⟨br,bp,bo,bi,bk,bj,bv⟩:=mW wr (Below.refl _ _);have bg:(j:Int)<(kids.length:Int):=AQ
      clear t hn aU ar J aa ac Y x0 x1 x2 x3 x4 x5 dX IH aB jD aI wF aD;have og:Hid (IntKind.i64.wrap ((kids.length:Int) - 1)=(kids.length:Int) - 1):=by show _=_;rw[IntKind.wrap_i64];omega
      by_cases Z:kids.length=1
      ·have e1:((kids.length:Int)==1)=true:=by simp[Z]
       have yR:Hid (Ew kids.length j=[]):=by show _=_;simp[Ew,Z]
       have A:=AV (jS g (by rw[yR.out];simp[iV.out]));clear jS;clear Z og
       go_wp2_with (first | (at_builtin;refine Es rfl _ _ rfl (w.heap.size+1) w3.heap.size w3 I M (g++k) l a4 c4 B1 rfl ae uJ R (CG _) ((A k l B.out).2 N.out).1 AQ ?_;intro a5 c5 w5 P ai;have lS:=AV P;clear P;have iM:=z.trans (q.trans ((R.mono AQ).trans ai))) | (go_at_call 40;refine(HI w3 gU (Below.refl _ _)).mono ?_;rintro e w4 ⟨a4,c4,l,rfl,u,T,R⟩;have N:=AV u;have uJ:=AV T;clear u T) | (at_builtin;refine Es rfl _ _ rfl (w.heap.size+1) wr.heap.size wr F E g k O Q B1 rfl X kY C (CG _) (A k [] B.out).1 AQ ?_;intro I M w3 hr3 ab;have ae:Hid (J5 w3 (w.heap.size+1) (.slice I (g++k).length M) (g++k)):=yEe;clear hr3;have q:=((Below.refl (w.heap.size+1) wr)).trans ((C.mono AQ).trans ab);have ao:=CB U q.size;have gU:=D.trans (q.mono AQ);have⟨y7,uo,uX,aG,uV,aA,uU⟩:=mW w3 q) | (go_at_call 70;refine(sD wr (D.trans (((Below.refl (w.heap.size+1) wr)).mono AQ)) (Below.refl _ _)).mono ?_;rintro e w2 ⟨O,Q,k,rfl,K,S,C⟩;have B:=AV K;have kY:=AV S;clear K S))
       exact⟨⟨j+1,a5,c5,(g++k)++l,AQ,by go_num,by rw[Value.slice.injEq];refine⟨rfl,?_,rfl⟩;simp only[CO];try omega,((A k l B.out).2 N.out).2,by rw[CO];exact lS.out,iM⟩,by simp[intOf];omega⟩
      have e1:((kids.length:Int)==1)=false:=by rw[CS];omega
      by_cases aj:j=0
      ·have e2:((j:Int)==0)=true:=by simp[aj]
       have yR:Hid (Ew kids.length j=[Iw 7]):=by show _=_;simp[Ew,Z,aj]
       have A:=AV (jS (g++[mi0 7]) yDf);clear jS;clear Z aj og
       go_wp2_with (first | (at_builtin;refine Es rfl _ _ rfl (w.heap.size+1) w3.heap.size w3 I M ((g++[mi0 7])++k) l a4 c4 B1 rfl ae uJ R (CG _) ((A k l B.out).2 N.out).1 AQ ?_;intro a5 c5 w5 P ai;have lS:=AV P;clear P;have iM:=z.trans (q.trans ((R.mono AQ).trans ai))) | (go_at_call 40;refine(HI w3 gU (Below.refl _ _)).mono ?_;rintro e w4 ⟨a4,c4,l,rfl,u,T,R⟩;have N:=AV u;have uJ:=AV T;clear u T) | (at_builtin;refine Es rfl _ _ rfl (w.heap.size+1) s.heap.size s af cf (g++[mi0 7]) k O Q B1 rfl oU kY C (CG _) (A k [] B.out).1 AQ ?_;intro I M w3 hr3 ab;have ae:Hid (J5 w3 (w.heap.size+1) (.slice I ((g++[mi0 7])++k).length M) ((g++[mi0 7])++k)):=yEe;clear hr3;have q:=(G).trans ((C.mono AQ).trans ab);have ao:=CB U q.size;have gU:=D.trans (q.mono AQ);have⟨y7,uo,uX,aG,uV,aA,uU⟩:=mW w3 q) | (go_at_call 70;refine(sD s (D.trans ((G).mono AQ)) (Below.refl _ _)).mono ?_;rintro e w2 ⟨O,Q,k,rfl,K,S,C⟩;have B:=AV K;have kY:=AV S;clear K S) | (at_builtin;refine Gw (m:=mi0 7) rfl _ _ rfl (w.heap.size+1) F E g rfl rfl X (Ix _ _ _ _) AQ AQ ?_;intro af cf s ah ap;have oU:Hid (J5 s (w.heap.size+1) (.slice af (g++[mi0 7]).length cf) (g++[mi0 7])):=(by rw[CO];exact ah);clear ah;have G:=ap;have fP:=CB U G.size;have⟨aR,aP,aJ,aK,aQ,aL,aS⟩:=mW s G))
       exact⟨⟨j+1,a5,c5,((g++[mi0 7])++k)++l,AQ,by go_num,by rw[Value.slice.injEq];refine⟨rfl,?_,rfl⟩;simp only[CO,CH,CP];try omega,((A k l B.out).2 N.out).2,by rw[CO];exact lS.out,iM⟩,by simp[intOf];omega⟩
      have e2:((j:Int)==0)=false:=by rw[CS];omega
      have vg:=og.out;by_cases az:j+1=kids.length
      ·have e3:((j:Int)==(kids.length:Int) - 1)=true:=by rw[ED];omega
       have yR:Hid (Ew kids.length j=[Iw 9]):=by show _=_;simp[Ew,Z,aj,az]
       have A:=AV (jS (g++[mi0 9]) yDf);clear jS;clear Z aj az og
       go_wp2_with (first | (at_builtin;refine Es rfl _ _ rfl (w.heap.size+1) w3.heap.size w3 I M ((g++[mi0 9])++k) l a4 c4 B1 rfl ae uJ R (CG _) ((A k l B.out).2 N.out).1 AQ ?_;intro a5 c5 w5 P ai;have lS:=AV P;clear P;have iM:=z.trans (q.trans ((R.mono AQ).trans ai))) | (go_at_call 40;refine(HI w3 gU (Below.refl _ _)).mono ?_;rintro e w4 ⟨a4,c4,l,rfl,u,T,R⟩;have N:=AV u;have uJ:=AV T;clear u T) | (at_builtin;refine Es rfl _ _ rfl (w.heap.size+1) s.heap.size s af cf (g++[mi0 9]) k O Q B1 rfl oU kY C (CG _) (A k [] B.out).1 AQ ?_;intro I M w3 hr3 ab;have ae:Hid (J5 w3 (w.heap.size+1) (.slice I ((g++[mi0 9])++k).length M) ((g++[mi0 9])++k)):=yEe;clear hr3;have q:=(G).trans ((C.mono AQ).trans ab);have ao:=CB U q.size;have gU:=D.trans (q.mono AQ);have⟨y7,uo,uX,aG,uV,aA,uU⟩:=mW w3 q) | (go_at_call 70;refine(sD s (D.trans ((G).mono AQ)) (Below.refl _ _)).mono ?_;rintro e w2 ⟨O,Q,k,rfl,K,S,C⟩;have B:=AV K;have kY:=AV S;clear K S) | (at_builtin;refine Gw (m:=mi0 9) rfl _ _ rfl (w.heap.size+1) F E g rfl rfl X (Ix _ _ _ _) AQ AQ ?_;intro af cf s ah ap;have oU:Hid (J5 s (w.heap.size+1) (.slice af (g++[mi0 9]).length cf) (g++[mi0 9])):=(by rw[CO];exact ah);clear ah;have G:=ap;have fP:=CB U G.size;have⟨aR,aP,aJ,aK,aQ,aL,aS⟩:=mW s G))
       exact⟨⟨j+1,a5,c5,((g++[mi0 9])++k)++l,AQ,by go_num,by rw[Value.slice.injEq];refine⟨rfl,?_,rfl⟩;simp only[CO,CH,CP];try omega,((A k l B.out).2 N.out).2,by rw[CO];exact lS.out,iM⟩,by simp[intOf];omega⟩
      have e3:((j:Int)==(kids.length:Int) - 1)=false:=by rw[CS];omega
      have yR:Hid (Ew kids.length j=[Iw 8]):=by show _=_;simp[Ew,Z,aj,az]
      have A:=AV (jS (g++[mi0 8]) yDf);clear jS;clear Z aj az og
      go_wp2_with (first | (at_builtin;refine Es rfl _ _ rfl (w.heap.size+1) w3.heap.size w3 I M ((g++[mi0 8])++k) l a4 c4 B1 rfl ae uJ R (CG _) ((A k l B.out).2 N.out).1 AQ ?_;intro a5 c5 w5 P ai;have lS:=AV P;clear P;have iM:=z.trans (q.trans ((R.mono AQ).trans ai))) | (go_at_call 40;refine(HI w3 gU (Below.refl _ _)).mono ?_;rintro e w4 ⟨a4,c4,l,rfl,u,T,R⟩;have N:=AV u;have uJ:=AV T;clear u T) | (at_builtin;refine Es rfl _ _ rfl (w.heap.size+1) s.heap.size s af cf (g++[mi0 8]) k O Q B1 rfl oU kY C (CG _) (A k [] B.out).1 AQ ?_;intro I M w3 hr3 ab;have ae:Hid (J5 w3 (w.heap.size+1) (.slice I ((g++[mi0 8])++k).length M) ((g++[mi0 8])++k)):=yEe;clear hr3;have q:=(G).trans ((C.mono AQ).trans ab);have ao:=CB U q.size;have gU:=D.trans (q.mono AQ);have⟨y7,uo,uX,aG,uV,aA,uU⟩:=mW w3 q) | (go_at_call 70;refine(sD s (D.trans ((G).mono AQ)) (Below.refl _ _)).mono ?_;rintro e w2 ⟨O,Q,k,rfl,K,S,C⟩;have B:=AV K;have kY:=AV S;clear K S) | (at_builtin;refine Gw (m:=mi0 8) rfl _ _ rfl (w.heap.size+1) F E g rfl rfl X (Ix _ _ _ _) AQ AQ ?_;intro af cf s ah ap;have oU:Hid (J5 s (w.heap.size+1) (.slice af (g++[mi0 8]).length cf) (g++[mi0 8])):=(by rw[CO];exact ah);clear ah;have G:=ap;have fP:=CB U G.size;have⟨aR,aP,aJ,aK,aQ,aL,aS⟩:=mW s G))
      exact⟨⟨j+1,a5,c5,((g++[mi0 8])++k)++l,AQ,by go_num,by rw[Value.slice.injEq];refine⟨rfl,?_,rfl⟩;simp only[CO,CH,CP];try omega,((A k l B.out).2 N.out).2,by rw[CO];exact lS.out,iM⟩,by simp[intOf];omega⟩
     ·obtain rfl:j=kids.length:=by omega
      have al:=iV.out;rw[EC AU] at al;have qo:=AV al;clear al
      go_wp2
      go_ret;exact⟨F,E,g,rfl,qo.out,X.le AQ,D⟩
theorem xl (l:List Stil.B9)(s:Value)(w:World)(t:E8 w s l)(hl:l.length<=1048576)(ar:Aw l<=1000000000)(F:∀x∈l,Dh x):
  Calls prog 18 #[s] w λe w'=>∃(a:Option Addr) (c:Nat) (q:List MI),e=.returned (AE a q.length c)/\q.map MI.inst=Ho l/\J5 w' w.heap.size (AE a q.length c) q/\AO w w':=by
 have Z:Hid (∀W,AO w W->Calls prog 34 #[s] W λe w'=>Q6 w' W.heap.size (Aq l) e/\AO W w'):=λW h=>N5 l s W (t.below h) hl ar F
 have⟨kR,nR,lQ⟩:=Kq F;have G:Hid (∀x∈Aq l,KL 39 x.net (Bv x.net)/\TD 40 x (C9 x)):=by
  intro x r;by_cases h0:(Ah l).1=0
  ·have P:=(Uc F h0).1 x r
   have aa:=kR x r;have hs:=P.size;refine⟨?_,s_tail x P.fineA aa hs⟩;have O:=P.net;obtain⟨Q,xc,xk⟩:=x;rw[Cf] at hs;refine S5 Q (RE Q O.2.2) ((Fz _ _ _).1 aa).1 ?_;have:=Stil.size_le Q
   omega
  ·rw[show Aq l=[] by unfold Aq;rw[if_neg h0]] at r
   cases r
 have I:Hid (∀(j:Nat) (q:List MI),q.map MI.inst=(((Aq l).map Ea).take j).flatten->q.length<=800):=by
  intro j q h;rw[<-CW (f:=MI.inst),h];have O:=Xi F;unfold Ho at O;have h2:(((Aq l).map Ea).take j).flatten.length<=((Aq l).map Ea).flatten.length:=by
   conv=>rhs;rw[<-IA j ((Aq l).map Ea),FD,CO]
   omega
  omega
 have ny:Hid (Ho l=((Aq l).map Ea).flatten):=rfl;rw[ny.out];have⟨L,hL⟩:=AA (Aq l)
 rw[<-hL] at Z G I lQ ⊢;obtain⟨p0,r0,rfl,_⟩:=t;clear hL ny kR nR F;go_enter func18,ntmps18
 go_wp2_with (go_at_call 34;refine(Z _ AW).mono ?_;rintro e g ⟨⟨a1,c1,ns,rfl,R,ao⟩,ay⟩;have Y:Hid (U0 g (AE a1 ns.length c1) L):=(by have:=(AOk.T _ (V7 ao).1).2.2.2;have hk:(RJ (AE a1 ns.length c1) ns).arm.kids=L:=(by rw[Bz.arm_eq];exact R);rw[hk] at this;exact this);have ai:ns.length=L.length:=(by rw[<-R,CW]);clear ao R)
 rw[ai] at Y;clear ai;have aW:AO w g:=ay;go_loopw [4,5] (λd i wr=>∃(j:Nat) (z:Option Addr) (y:Nat) (k:List MI),j<=L.length/\i=AB (j:Int)/\d=AE z k.length y/\k.map MI.inst=((L.map Ea).take j).flatten/\J5 wr g.heap.size (AE z k.length y) k/\AO g wr) (λ_ i _=>L.length - (intOf i).toNat)
 case atStart=>
  refine⟨0,some (AL g 0),0,[],AQ,rfl,rfl,AU,⟨?_,λx r=>by cases r⟩,Aa g _⟩;exact World.ownsRow_lit g #[] 0 (CG _) A6 rfl
 case round=>
  obtain⟨j,z,y,k,hj,rfl,rfl,S,ag,C⟩:=hrel;have iV:Hid (k.map MI.inst=((L.map Ea).take j).flatten):=S;have jR:Hid (J5 wr g.heap.size (AE z k.length y) k):=ag;have aF:k.length<=800:=I j k S;clear S ag;have jE:g.heap.size<=wr.heap.size:=C.size;by_cases hlt:j<L.length
  ·have⟨pa,pc,ae,_,ac⟩:=Y.shape
   simp only[Value.slice.injEq,true_and] at ae;obtain⟨rfl,rfl⟩:=ae;have⟨b,o,iY,ah,hn⟩:=ac j hlt;subst iY;have⟨ak,cv,s,x4,x5,K,t⟩:=hn.open;have⟨x0,N,H,M,x2,x3,E,D⟩:=ak.open;have HI:Hid (∀V,AO g V->Calls prog 40 #[.agg #[AB L[j].net.kind,AB L[j].net.one.op,H,M,cv,s]] V λe w'=>∃(a:Option Addr) (c:Nat) (q:List MI),e=.returned (AE a q.length c)/\q.map MI.inst=C9 L[j]/\J5 w' V.heap.size (AE a q.length c) q/\AO V w'):=λV h=>(G L[j] (CJ hlt)).2 H M cv s V (E.below h) (D.below h) (K.below h) (t.below h)
   have sD:Hid (∀V,AO g V->Calls prog 39 #[.agg #[AB L[j].net.kind,AB L[j].net.one.op,H,M]] V λe w'=>∃(a:Option Addr) (c:Nat) (q:List MI),e=.returned (AE a q.length c)/\q.map MI.inst=Bv L[j].net/\J5 w' V.heap.size (AE a q.length c) q/\AO V w'):=λV h=>(G L[j] (CJ hlt)).1 H M V (E.below h) (D.below h)
   have aX:((L.map Ea).take (j+1)).flatten=((L.map Ea).take j).flatten++(Bv L[j].net++(C9 L[j]++[Iw 11])):=by
    rw[EB Bm,FD];simp[Ea]
   have eU:Hid (∀kb kt:List MI,kb.map MI.inst=Bv L[j].net->kt.map MI.inst=C9 L[j]->(k.length+kb.length+kt.length+1<=800)/\(((k++kb)++kt)++[mi0 11]).map MI.inst=((L.map Ea).take (j+1)).flatten):=by
    intro kb kt u J;have e0:(((k++kb)++kt)++[mi0 11]).map MI.inst=((L.map Ea).take (j+1)).flatten:=by
     rw[CU,CU,CU,iV.out,u,J,aX];simp only[EI];rfl
    have:=I _ _ e0
    simp only[CO,CH,CP] at this;exact⟨AQ,e0⟩
   clear aX;have ab:Hid (∀kb:List MI,kb.map MI.inst=Bv L[j].net->k.length+kb.length<=800):=by
    intro kb u;obtain⟨U,wY⟩:∃U:List MI,U.map MI.inst=C9 L[j]:=⟨(C9 L[j]).map λi=>⟨i.code,⟨i.one.op,i.one.args,AG⟩⟩,by rw[EZ];exact(JU λi _=>rfl).trans (List.map_id _)⟩
    have:=(eU kb U u wY).1
    omega
   have⟨x,r⟩:=AA (L[j])
   rw[<-r] at HI sD eU ab x0 N E D K t;obtain⟨q0,s0,rfl,_⟩:=E.shape;obtain⟨q1,s1,rfl,_,_⟩:=D.shape;obtain⟨q2,s2,rfl,_⟩:=K.shape;obtain⟨q3,s3,rfl,_,_⟩:=t.shape;have mW:Hid (∀V,AO g V->V.cell? (AK b (o+j*6))=some (AB x.net.kind)/\V.cell? (AK b (o+j*6+1))=some (AB x.net.one.op)/\V.cell? (AK b (o+j*6+2))=some (AE q0 x.net.one.args.length s0)/\V.cell? (AK b (o+j*6+3))=some (AE q1 x.net.kids.length s1)/\V.cell? (AK b (o+j*6+4))=some (AE q2 x.coils.length s2)/\V.cell? (AK b (o+j*6+5))=some (AE q3 x.kids.length s3)):=λV hV=>by
    have A:V.heap[b]?=g.heap[b]?:=hV.block b ah;exact⟨(World.cell?_of_block (a:=(AK b _)) A).trans x0,(World.cell?_of_block (a:=(AK b _)) A).trans N,(World.cell?_of_block (a:=(AK b _)) A).trans x2,(World.cell?_of_block (a:=(AK b _)) A).trans x3,(World.cell?_of_block (a:=(AK b _)) A).trans x4,(World.cell?_of_block (a:=(AK b _)) A).trans x5⟩
   have⟨aH,aG,aB,aD,aC,aI⟩:=mW wr C;have aK:(j:Int)<(L.length:Int):=AQ
   clear r hn ak ac E D K t x0 N x2 x3 x4 x5 I G Y Z ah
   go_wp2_with (first | (at_builtin;refine Gw (m:=mi0 11) rfl _ _ rfl g.heap.size a5 c5 ((k++kb)++kt) (by first | rfl | (simp[Act.eval,Nat.add_assoc];done) | (simp[Act.eval];omega)) (by first | rfl | (simp[Act.eval];done)) lS (Ix _ _ _ _) yGh iM.size ?_;intro a6 c6 w6 kH aw;have ax:Hid (J5 w6 g.heap.size (AE a6 (((k++kb)++kt).length+1) c6) (((k++kb)++kt)++[mi0 11])):=kH;clear kH;have au:AO g w6:=iM.trans aw) | (at_builtin;refine Es rfl _ _ rfl g.heap.size w3.heap.size w3 a3 c3 (k++kb) kt a4 c4 (by first | rfl | (simp[Act.eval];done)) rfl aA uJ af (CG _) yGh B.size ?_;intro a5 c5 w5 lJ ap;have lS:Hid (J5 w5 g.heap.size (.slice a5 ((k++kb)++kt).length c5) ((k++kb)++kt)):=(by rw[CO];exact lJ);clear lJ;have iM:AO g w5:=B.trans ((af.mono B.size).trans ap)) | (go_at_call 40;refine(HI w3 B).mono ?_;rintro e w4 ⟨a4,c4,kt,rfl,J,al,af⟩;have nH:Hid (kt.map MI.inst=C9 x):=J;have uJ:Hid (J5 w4 w3.heap.size (AE a4 kt.length c4) kt):=al;clear J al) | (at_builtin;refine Es rfl _ _ rfl g.heap.size wr.heap.size wr z y k kb a2 c2 rfl rfl jR kY an (CG _) (by have:=ab kb HKB.out;omega) jE ?_;intro a3 c3 w3 hr3 az;have aA:Hid (J5 w3 g.heap.size (.slice a3 (k++kb).length c3) (k++kb)):=yEe;clear hr3;have B:AO g w3:=C.trans ((an.mono jE).trans az);have⟨uo,uX,aJ,uV,aE,uU⟩:=mW w3 B) | (go_at_call 39;refine(sD wr C).mono ?_;rintro e w2 ⟨a2,c2,kb,rfl,u,aj,an⟩;have HKB:Hid (kb.map MI.inst=Bv x.net):=u;have kY:Hid (J5 w2 wr.heap.size (AE a2 kb.length c2) kb):=aj;clear u aj))
   exact⟨⟨j+1,a6,c6,((k++kb)++kt)++[mi0 11],AQ,by go_num,by rw[Value.slice.injEq];refine⟨rfl,?_,rfl⟩;simp only[CO,CH,CP];try omega,(eU kb kt HKB nH.out).2,by rw[CO];exact ax.out,au⟩,by simp[intOf];omega⟩
  ·obtain rfl:j=L.length:=by omega
   have X:=iV.out;rw[EC AU] at X;have qo:Hid (k.map MI.inst=(L.map Ea).flatten):=X;clear X
   go_wp2
   go_ret;exact⟨z,y,k,rfl,qo.out,jR.le aW.size,aW.trans (C.mono aW.size)⟩
theorem J5.nil (w:World)(base:Nat):J5 w base AG []:=⟨World.ownsRow_nil _ _ _ _,λx a=>by cases a⟩
theorem YB (l:List Stil.B9)(f:Value)(w:World)(i:E8 w f l)(hl:l.length<=1048576)(g:Aw l<=1000000000)(j:∀x∈l,Dh x):
  Calls prog 6 #[f] w λe w'=>∃(a:Option Addr) (c:Nat) (d:List MI),e=.returned (.tuple #[AE a d.length c,AB (Gq l).2])/\d.map MI.inst=(Gq l).1/\J5 w' w.heap.size (AE a d.length c) d/\AO w w':=by
 have k:=AV (λW h=>VE l f W (i.below h) hl g j);have m:=AV (λW h=>Ayb l f W (i.below h) hl g j);have o:=AV (λW h=>xo l f W (i.below h) hl g j);have q:=AV (λW h=>xl l f W (i.below h) hl g j);have F:Gq l=if 0<(Ah l).1 then([],1) else if 16<Jo l\/8<Ia l then([],2) else(Ho l,0):=rfl
 obtain⟨N,O,rfl,_⟩:=i;rw[F];clear F j g;generalize (Ah l).1=c at*;generalize (Ah l).2=r at*;generalize Jo l=x at*;generalize Ia l=y at*;generalize Ho l=L at*;have P:=OM;by_cases C:0<c
 ·rw[if_pos C]
  clear m o q;go_enter func6,ntmps6
  go_wp2_with (go_at_call 15;refine(k _ AW).mono ?_;rintro e s ⟨rfl,t⟩)
  refine bodyPost_ret (v:=.tuple #[AG,AB 1]) (by simp[results,results6,go_sem]) rfl ⟨none,0,[],rfl,rfl,J5.nil _ _,AW⟩
 rw[if_neg C];by_cases M:(16:Int)<x
 ·rw[if_pos (.inl AQ)]
  clear o q;go_enter func6,ntmps6
  go_wp2_with (first | (go_at_call 15;refine(k _ AW).mono ?_;rintro e s ⟨rfl,t⟩) | (go_at_call 16;refine(m _ AW).mono ?_;rintro e A ⟨rfl,B⟩))
  refine bodyPost_ret (v:=.tuple #[AG,AB 2]) (by simp[results,results6,go_sem]) rfl ⟨none,0,[],rfl,rfl,J5.nil _ _,AW⟩
 by_cases J:(8:Int)<y
 ·rw[if_pos (.inr AQ)]
  clear q;go_enter func6,ntmps6
  go_wp2_with (first | (go_at_call 15;refine(k _ AW).mono ?_;rintro e s ⟨rfl,t⟩) | (go_at_call 16;refine(m _ AW).mono ?_;rintro e A ⟨rfl,B⟩) | (go_at_call 17;refine(o _ AW).mono ?_;rintro e w3 ⟨rfl,H⟩))
  refine bodyPost_ret (v:=.tuple #[AG,AB 2]) (by simp[results,results6,go_sem]) rfl ⟨none,0,[],rfl,rfl,J5.nil _ _,AW⟩
 rw[if_neg AQ];go_enter func6,ntmps6
 go_wp2_with (first | (go_at_call 15;refine(k _ AW).mono ?_;rintro e s ⟨rfl,t⟩) | (go_at_call 16;refine(m _ AW).mono ?_;rintro e A ⟨rfl,B⟩) | (go_at_call 17;refine(o _ AW).mono ?_;rintro e w3 ⟨rfl,H⟩) | (go_at_call 18;refine(q _ AW).mono ?_;rintro e K ⟨z,D,d,rfl,E,u,Q⟩;have G:=AV (u.le (by have:AO w w3:=AW;exact this.size));have I:=AV E;clear u E))
 refine bodyPost_ret (v:=.tuple #[AE z d.length D,AB 0]) (by simp[results,results6,go_sem]) rfl ⟨z,D,d,rfl,I.out,G.out,AW⟩
end Go.Proofs.YtmnnkedjoecehaaGreatDoor
namespace Stil
theorem Wj {k:Int}(h:i64 k):(Iw k).fits:=⟨h,by unfold i64;simp[Iw],by simp[Iw],λd hd=>by cases hd⟩
theorem YV {k:Int}{n:B8}(d:k=2\/k=3)(c:Dz n)(h:∀x∈Bv n,x.fits):∀x∈Bq k n,x.fits:=by
 intro x a;unfold Bq RI at a;split at a
 ·rw[List.mem_singleton.1 a];exact⟨by unfold i64;simp only;omega,(D5 c).2.1⟩
 ·rcases List.mem_append.1 a with a | a
  ·exact h x a
  ·rw[List.mem_singleton.1 a];exact Wj yDg
theorem TU (n:B8):Aj n=0->Dz n->∀x∈Bv n,x.fits:=by
 refine Fp (λn=>Aj n=0->Dz n->∀x∈Bv n,x.fits) ?_ n;intro k e kids g i o x a;have c:=(Lc _ _ _).1 o;have d:=Oe i;simp only at d;rcases F5 i with⟨rfl,rfl⟩ | ⟨s,j,_⟩ | ⟨rfl,_,y,rfl,_⟩
 ·rw[Oy] at a
  rw[List.mem_singleton.1 a];exact⟨by unfold i64;simp only;omega,c.2.1⟩
 ·cases kids with
  | nil=>simp at j
  | cons y r=>
   rw[Mc e y r AQ AQ] at a;rcases List.mem_append.1 a with a | a
   ·exact g y AU (d y AU) (c.2.2.2 y AU) x a
   ·have⟨l,q,m⟩:=List.mem_flatten.1 a
    obtain⟨z,f,rfl⟩:=List.mem_map.1 q;exact YV AQ (c.2.2.2 z (by simp[f])) (g z (by simp[f]) (d z (by simp[f])) (c.2.2.2 z (by simp[f]))) x m
 ·rw[Oz] at a
  rcases List.mem_append.1 a with a | a
  ·exact g y AU (d y AU) (c.2.2.2 y AU) x a
  ·rw[List.mem_singleton.1 a];exact Wj yDg
theorem pA {n:B8}(h:Ht n)(d:Dz n):∀x∈Dl n,x.fits:=by
 intro x j;have⟨l,i,g⟩:=List.mem_flatten.1 j;obtain⟨y,a,rfl⟩:=List.mem_map.1 i;have c:Aj y=0/\Dz y:=by
  unfold Cj at a;split at a
  ·cases a
  ·rename_i f
   have e:=h.resolve_left f;split at a
   ·exact⟨Oe e.2.2 y a,(D5 d).2.2.2 y a⟩
   ·rw[List.mem_singleton.1 a];exact⟨e.2.2,d⟩
 exact YV (.inl rfl) c.2 (TU y c.1 c.2) x g
theorem pZ (a:B9):E5 a->Dh a->∀x∈C9 a,x.fits:=by
 refine Fq (λa=>E5 a->Dh a->∀x∈C9 a,x.fits) ?_ a;intro n z kids q m k x e;have⟨_,g⟩:=(Eg _ _ _).1 m;have⟨_,_,t,_,j⟩:=(Fz _ _ _).1 k;rw[Xc] at e;rcases List.mem_append.1 e with e | e
 ·obtain⟨c,s,rfl⟩:=List.mem_map.1 e
  exact⟨by unfold i64;simp only;omega,t c s⟩
 ·have⟨l,u,d⟩:=List.mem_flatten.1 e
  obtain⟨i,hi,rfl⟩:=List.mem_iff_getElem.1 u;simp only[List.length_mapIdx] at hi;simp only[List.getElem_mapIdx,I7,IQ,EN] at d;have f:=CJ hi;rcases d with d | d | d
  ·unfold Ew at d
   split at d
   ·cases d
   ·split at d
    ·rw[List.mem_singleton.1 d];exact Wj yDg
    ·split at d<;>(rw[List.mem_singleton.1 d];exact Wj yDg)
  ·have o:=g _ f
   have r:=j _ f;generalize kids[i]=y at*;obtain⟨B,C,A⟩:=y;exact pA ((Eg _ _ _).1 o).1 ((Fz _ _ _).1 r).1 x d
  ·exact q _ f (g _ f) (j _ f) x d
theorem yv {l:List B9}(f:∀x∈l,Dh x):∀x∈Ho l,x.fits:=by
 intro x n;have⟨r,m,e⟩:=List.mem_flatten.1 n;obtain⟨a,c,rfl⟩:=List.mem_map.1 m;by_cases g:(Ah l).1=0
 ·have d:=(Uc f g).1 a c
  have i:=(Kq f).1 a c;have j:=d.net;have k:=d.fineA;clear d;unfold Ea at e;rcases List.mem_append.1 e with h | h
  ·exact TU _ j.2.2 (Ih i).1 x h
  ·rcases List.mem_append.1 h with h | h
   ·exact pZ a k i x h
   ·rw[List.mem_singleton.1 h];exact Wj yDg
 ·rw[show Aq l=[] by unfold Aq;rw[if_neg g]] at c
  cases c
end Stil
namespace Go.Proofs.YtmnnkedjoecehaaGreatDoor
open Tryz Go.RowKit Go.Sort Go.BigFrame Go.Co
def IPk (base:Nat)(w:World)(L:List Stil.Gf)(v:Value)(b:Nat)(qs:List (List Pl)):Prop:=
 Jx w v b 0 qs/\Vh w (Jz b 0 qs)/\(Jz b 0 qs).Nodup/\(∀p∈Jz b 0 qs,base<=p.1)/\(0<qs.length->base<=b)/\Zc base w v L/\(Jz b 0 qs).length<=4611686018427387000
theorem ej (b:Nat):∀(o:Nat) (qs:List (List Pl)) (N:Nat),(∀q∈qs,q.length<=N)->(Jz b o qs).length<=qs.length*(N+2)
 | _,[],_,_=>by simp[Jz]
 | o,q::r,N,h=>by
  have a:=ej b (o+3) r N λx hx=>h x BQ
  have c:=h q AU;rw[Jz];simp only[CH,CO,Nat.add_mul,Nat.one_mul];omega
theorem EY.pk {w:World}{base:Nat}{v:Value}{c:List MI}(h:EY w base v c)(Y:∀x∈c,x.e.ds.length<=1048576)(hl:c.length<=1048576):∃b qs,IPk base w (c.map MI.inst) v b qs:=by
 obtain⟨al,G,z,A,s,Q⟩:=h;by_cases R:c.length=0
 ·obtain rfl:=List.length_eq_zero_iff.1 R
  obtain⟨a,cap,rfl⟩:=Af z;refine⟨0,[],⟨⟨a,cap,rfl,λh=>BE⟩,λi hi=>(by cases hi)⟩,λp j=>(by cases j),M9,λp j=>(by cases j),λh=>BE,⟨a,cap,rfl,λi hi=>(by cases hi)⟩,by simp[Jz]⟩
 have⟨g,cap,F,K,S,ag,B⟩:=Bg z AQ;have V:=λx d=>VK (A x d)
 obtain⟨f,n⟩:∃f:MI->List Pl,∀x∈c,JI x.e.av (f x)/\Vh w (f x)/\(f x).Nodup/\(∀p∈f x,base<=p.1/\x.e.av.ownBlock=some p.1)/\(f x).length=3*x.e.ds.length:=by
  classical
  refine⟨λx=>if h:∃t:List Pl,JI x.e.av t/\Vh w t/\t.Nodup/\(∀p∈t,base<=p.1/\x.e.av.ownBlock=some p.1)/\t.length=3*x.e.ds.length then h.choose else [],λx d=>?_⟩;have h:=V x d;simp only[h,dite_true];exact h.choose_spec
 have N:∀i (h:i<c.length),w.cell? (AK g (i*3))=some (AB c[i].code)/\w.cell? (AK g (i*3+1))=some (AB c[i].e.op)/\w.cell? (AK g (i*3+2))=some c[i].e.av:=by
  intro i hi;have ab:∀(l:List MI) (i:Nat) (h:i<l.length),(Gy l)[i*3]?=some (AB l[i].code)/\(Gy l)[i*3+1]?=some (AB l[i].e.op)/\(Gy l)[i*3+2]?=some l[i].e.av:=by
   intro l;induction l with
   | nil=>intro i h;cases h
   | cons m r M=>
    intro i h;have e:Gy (m::r)=AB m.code::AB m.e.op::m.e.av::Gy r:=rfl;cases i with
    | zero=>exact⟨rfl,rfl,rfl⟩
    | succ i=>
     have⟨J,D,H⟩:=M i BV;have e1:(i+1)*3=i*3+1+1+1:=AQ
     rw[e,e1];exact⟨J,D,H⟩
  have⟨J,D,H⟩:=ab c i hi;exact⟨B _ _ J,B _ _ D,B _ _ H⟩
 have U:∀x∈c,∀p∈f x,p.1≠g:=λx d p j e=>by
  have⟨_,_,_,E,_⟩:=n x d;have h5:=Q p.1 (List.mem_filterMap.2 ⟨x.e.av,FC (f:=λy:MI=>y.e.av) d,(E p j).2⟩);omega
 have ac:=VW (w:=w) (b:=g) (cap:=cap) (l:=c.map MI.inst) (qs:=c.map f) S AU (λi hi=>by
   simp only[CW] at hi;have⟨C,I,P⟩:=N i hi;have⟨Z,_⟩:=n c[i] (CJ hi);simp only[EH];exact⟨C,I,_,P,Z,Dj.of_owns (A _ (CJ hi))⟩) (λo=>by
   have X:=z;rw[F] at X;exact X.frozenAt o) (λq u=>by
   obtain⟨x,d,rfl⟩:=List.mem_map.1 u;have⟨_,W,h3,_⟩:=n x d;exact⟨W,h3,U x d⟩) (by
   rw[List.pairwise_map];have j:c.Pairwise λx y=>∀k,x.e.av.ownBlock=some k->y.e.av.ownBlock≠some k:=by
    clear N U n V B z A Y hl R Q F ag;induction c with
    | nil=>exact List.Pairwise.nil
    | cons m r M=>
     rw[CQ] at s;unfold bl at s;rw[List.filterMap_cons] at s;refine List.pairwise_cons.2 ⟨λy O k hk ai=>?_,?_⟩
     ·rw[hk] at s
      exact(List.nodup_cons.1 s).1 (List.mem_filterMap.2 ⟨y.e.av,FC (f:=λaj:MI=>aj.e.av) O,ai⟩)
     ·refine M ?_
      unfold bl
      revert s
      cases m.e.av.ownBlock with
      | none=>exact id
      | some k=>exact λh=>(List.nodup_cons.1 h).2
   refine j.imp_of_mem fun {x y} d O ak p aa af=>?_
   have⟨_,_,_,E,_⟩:=n x d;have⟨_,_,_,ae,_⟩:=n y O
   exact ak p.1 (E p aa).2 (ae p af).2)
 obtain⟨T,s2,s3,_⟩:=ac;rw[CW] at T;rw[F];refine⟨g,c.map f,T,s2,s3,λp j=>?_,λ_=>by omega,?_,?_⟩
 ·rcases Ue g _ 0 p j with⟨i,_,e | e⟩ | ⟨q,u,ah⟩
  ·rw[e];exact CM G K
  ·rw[e];exact CM G K
  ·obtain⟨x,d,rfl⟩:=List.mem_map.1 u
   exact((n x d).2.2.2.1 p ah).1
 ·refine⟨some (AK g 0),cap,by rw[CW],λi hi=>?_⟩
  simp only[CW] at hi;have⟨C,I,P⟩:=N i hi;simp only[EH];refine⟨g,0,rfl,CM G K,S,?_⟩;rw[CV];exact⟨C,I,_,P,Kr.of_owns (A _ (CJ hi))⟩
 ·have:=ej g 0 (c.map f) 3145728 λq u=>by
   obtain⟨x,d,rfl⟩:=List.mem_map.1 u;have:=(n x d).2.2.2.2
   have:=Y x d
   omega
  rw[CW] at this;have W:c.length*(3145728+2)<=1048576*(3145728+2):=E6 _ hl;omega
section
variable {base:Nat}{w w':World}{L:List Stil.Gf}{v:Value}{b:Nat}{qs:List (List Pl)}
end
end Go.Proofs.YtmnnkedjoecehaaGreatDoor
set_option maxHeartbeats 4000000
set_option maxRecDepth 100000
namespace Go.Proofs.YtmnnkedjoecehaaGreatDoor
open Tryz Stil Go.RowKit Go.Sort Go.BigFrame
theorem Ls.tail {w:World}{b o c:Nat}{x:Stil.B8}{r:List Stil.B8}(h:Ls w (AE (some (AK b o)) (r.length+1) c) (x::r)):Ls w (AE (some (AK b (o+4))) r.length (c - 1)) r:=by
 obtain⟨t,y,e,j,m⟩:=h;simp only[CH,Value.slice.injEq,true_and] at e;obtain⟨rfl,rfl⟩:=e;have l:=j.1;rw[CH] at l;refine⟨_,c - 1,rfl,⟨AQ,λh=>by cases h⟩,λi hi=>?_⟩;have⟨s,u,d,g,n,f⟩:=m (i+1) (by simp only[CH];omega);simp only[C0,Addr.mk.injEq,FG] at d;obtain⟨rfl,rfl⟩:=d;refine⟨b,o+4,rfl,g,n,?_⟩;rw[K5] at f;have q:o+(i+1)*4=o+4+i*4:=AQ
 rw[<-q];exact f
theorem XQ (x:Stil.B8)(I:Ai x<=1000000)(r:FT 58 x (Bc x)):FT 95 x (Di x):=by
 intro p q w d g;have j:Hid (∀W,AO w W->Calls prog 58 #[.agg #[AB x.kind,AB x.one.op,p,q]] W (AN W (AB (Bc x)))):=λW h=>r p q W (d.below h) (g.below h)
 have A:=UW x;have c:Hid (Di x=if x.kind=1 then 1 else 1+Bc x):=rfl;have⟨l,u⟩:=AA (Bc x)
 have⟨T,t⟩:=AA (Di x)
 rw[<-u] at j A c;rw[<-t] at c ⊢;have⟨k,s⟩:=AA x.kind
 rw[<-s] at j c ⊢;obtain⟨D,H,rfl,y⟩:=d.shape;obtain⟨J,B,rfl,z,_⟩:=g.shape;clear r y z u t s d g;by_cases f:k=1
 ·subst f
  have m:Hid (T=1):=by show _=_;rw[c.out];rfl
  clear c;go_enter func95,ntmps95
  go_wp2
  go_ret;exact⟨Fj (by rw[m.out];rfl),AW⟩
 ·have m:Hid (T=1+l):=by show _=_;rw[c.out,if_neg f]
  have C:(k==1)=false:=by rw[CS];exact f
  clear c;go_enter func95,ntmps95
  go_wp2_with (go_at_call 58;refine(j _ AW).mono ?_;rintro e E ⟨rfl,G⟩)
  go_ret;exact⟨Fj (by rw[m.out];go_num),AW⟩
theorem Vi (n:Stil.B8):Vq n->Ai n<=1000000->FT 58 n (Bc n):=by
 induction n using Fp with
 | h k e kids q=>
  intro H B av nv w z f;simp only at z f;have⟨D,l⟩:=(Zu _ _ _).1 H;rw[Ej] at B;simp only at B;have g:∀x∈kids,Ai x<=1000000:=λx hx=>by have:Ai x<=Stil.sizes kids:=Eb Ai kids x hx;omega
  have K:kids.length<=999999:=by have:=Jl kids;omega
  obtain⟨p0,r0,rfl,T⟩:=z.shape;by_cases j:k=1
  ·subst j
   rw[Y8];obtain⟨p1,c,rfl,ah,_⟩:=f.shape;clear T ah q g K H D l B z f;go_enter func58,ntmps58
   go_wp2
   go_ret;exact⟨rfl,AW⟩
  ·obtain⟨x,r,rfl⟩:=M3 (D j)
   rw[Qq e x r j];have Z:=f;obtain⟨p1,c,rfl,E,V⟩:=f.shape;obtain⟨b,o,rfl,A,C⟩:=V 0 AU;simp only[EO,FQ,ER] at C;have ag:r.length+1<=c:=by have:=E.1;simp only[CH] at this;exact this
   have U:Ls w (AE (if c=1 then some (AK b o) else some (AK b (o+4))) r.length (c - 1)) r:=by
    by_cases h2:c=1
    ·rw[if_pos h2]
     have aj:r=[]:=List.length_eq_zero_iff.1 AQ;subst aj;exact⟨_,_,rfl,⟨DZ _,λh=>by cases h⟩,λi hi=>by simp at hi⟩
    ·rw[if_neg h2]
     exact Ls.tail (by simpa only[CH] using Z)
   have hE:∀args w,(callFunc 95 args).run prog w=.ok (.enter 95 args) w:=enters_of func95 AX rfl;have aa:r.length<=999999:=by simp only[CH] at K;omega
   have s:Hid (∀W,AO w W->Calls prog 94 #[AE (if c=1 then some (AK b o) else some (AK b (o+4))) r.length (c - 1),AB (Bc x), .func (.func 95) #[] #[]] W (AN W (AB (Cc (Bc x) (r.map Di))))):=by
    intro W h;refine eZ r Di 95 hE (λy hy=>?_) _ _ W (U.below h) aa;have u:y∈x::r:=CN _ hy;exact XQ y (g y u) (q y u (l y u) (g y u))
   have⟨x0,L,S,X,Q,x3,J,G⟩:=C.open;have Y:Hid (∀W,AO w W->Calls prog 58 #[.agg #[AB x.kind,AB x.one.op,S,X]] W (AN W (AB (Bc x)))):=λW h=>q x AU (l x AU) (g x AU) S X W (J.below h) (G.below h)
   have⟨I,ab⟩:=AA (Bc x)
   rw[<-ab] at s Y ⊢;have⟨R,M⟩:=AA (Cc I (r.map Di))
   rw[<-M] at s ⊢;simp only[CH];have⟨m,O⟩:=AA r.length
   have ao:m+1<=c:=by have:=E.1;simp only[CH] at this;omega
   rw[<-O] at s aa ⊢;obtain⟨q0,s0,rfl,ai⟩:=J.shape;obtain⟨q1,s1,rfl,ac,_⟩:=G.shape;have an:(k==1)=false:=by rw[CS];exact j
   clear T ai ac U Z V C hE ab M q g K O E z f J G H D l B ag;go_enter func58,ntmps58
   go_wp2
   have⟨W,t⟩:=AA (w.alloc (.cells #[AB k,AB e.op,AE p0 e.args.length r0,AE (some (AK b o)) (m+1) c] 59))
   rw[<-t];have d:AO w W:=by rw[t];exact Aa _ _
   have N:W.cell? (AL w 3)=some (AE (some (AK b o)) (m+1) c):=by rw[t];simp[go_sem]
   have k0:=cell_regrown ((d.cell (p:=(AK b o)) A).trans x0);have k1:=cell_regrown ((d.cell (p:=(AK b (o+1))) A).trans L);have k2:=cell_regrown ((d.cell (p:=(AK b (o+2))) A).trans Q);have k3:=cell_regrown ((d.cell (p:=(AK b (o+3))) A).trans x3);have k6:=cell_regrown N;have ak:(1:Int)<=(m:Int)+1:=AQ
   have ap:(m:Int)+1<=(c:Int):=AQ
   have al:(0:Int)<(m:Int)+1:=AQ
   clear t N x0 L Q x3;refine wp_region_quiet_below AX AX ?_;repeat (go_big_quiet_step ((first | exact Calls.regrown_of (Y _ (G5 d _ _)) | exact Calls.regrown_of (s _ (G5 d _ _)))))
   refine wpQuiet_nil ?_;intro _ ae;obtain⟨⟨dq,osq⟩,af⟩:=ae;subst af
   go_wp2
   all_goals go_ret
   all_goals exact⟨rfl,G5 d _ _⟩
theorem Ay7 (w:World):Ls w AG []:=⟨none,0,rfl,⟨CG _,λ_=>rfl⟩,λi hi=>by simp at hi⟩
theorem Ay6 {W:World}{n:Stil.B8}{d c:Value}(g:Tv W d n.one.args)(f:Ls W c n.kids):Ls (W.alloc (.cells #[AB n.kind,AB n.one.op,d,c] 59)) (AE (some (AL W 0)) 1 1) [n]:=by
 have e:=Aa W (.cells #[AB n.kind,AB n.one.op,d,c] 59);refine⟨_,1,rfl,⟨CG _,λh=>by cases h⟩,λi hi=>?_⟩;have j:i=0:=by simp at hi;exact hi
 subst j;refine⟨W.heap.size,0,rfl,trivial,AU,?_⟩;rw[EO,Sj];exact⟨by simp[go_sem],by simp[go_sem],⟨d,by simp[go_sem],g.below e⟩,⟨c,by simp[go_sem],f.below e⟩⟩
theorem i7 (n:Stil.B8)(s x:Value)(w:World)(r:Tv w s n.one.args)(u:Ls w x n.kids)(J:Dz n):
  Calls prog 97 #[.agg #[AB n.kind,AB n.one.op,s,x]] w λe w'=>∃a c,e=.returned (.slice a (Cj n).length c)/\Ls w' (.slice a (Cj n).length c) (Cj n)/\AO w w':=by
 have m:=AV (λW h=>Ve n s x W (r.below h).at (u.below h).at J);have A:Hid (∀W,AO w W->Tv W s n.one.args/\Ls W x n.kids):=λW h=>⟨r.below h,u.below h⟩
 obtain⟨E,H,rfl,_⟩:=r.shape;obtain⟨B,y,rfl,_,_⟩:=u.shape;have g:Hid (Cj n=if Am n then [] else if n.kind=2 then n.kids else [n]):=rfl;have⟨t,C⟩:=AA (Am n)
 rw[<-C] at m g;clear r u C;cases t with
 | true=>
  have e:Cj n=[]:=g.out;rw[e];clear e g;go_enter func97,ntmps97
  go_wp2_with (go_at_call 91;refine(m _ AW).mono ?_;rintro e d ⟨rfl,j⟩)
  go_ret;exact⟨none,0,rfl,Ay7 _,AW⟩
 | false=>
  by_cases q:n.kind=2
  ·have e:Cj n=n.kids:=by rw[g.out];simp[q]
   rw[e];rw[q] at m ⊢;clear e g;go_enter func97,ntmps97
   go_wp2_with (go_at_call 91;refine(m _ AW).mono ?_;rintro e d ⟨rfl,j⟩;have⟨f,z⟩:=En j;have D:w.heap.size<d.heap.size:=CB AU j.size;have I:d.cell? (AL w 0)=some (AB 2):=(by rw[f _ _ AU];simp[go_sem]);have G:d.cell? (AL w 3)=some (AE B n.kids.length y):=(by rw[f _ _ AU];simp[go_sem]);clear f z)
   go_ret;have l:AO w d:=AW;exact⟨B,y,rfl,(A _ l).2,l⟩
  ·have e:Cj n=[n]:=by rw[g.out];simp[q]
   rw[e];have K:(n.kind==2)=false:=by rw[CS];exact q
   clear e g;go_enter func97,ntmps97
   go_wp2_with (go_at_call 91;refine(m _ AW).mono ?_;rintro e d ⟨rfl,j⟩;have⟨f,z⟩:=En j;have D:w.heap.size<d.heap.size:=CB AU j.size;have I:d.cell? (AL w 0)=some (AB n.kind):=(by rw[f _ _ AU];simp[go_sem]);have L:d.cell? (AL w 1)=some (AB n.one.op):=(by rw[f _ _ AU];simp[go_sem]);have M:d.cell? (AL w 2)=some (AE E n.one.args.length H):=(by rw[f _ _ AU];simp[go_sem]);have G:d.cell? (AL w 3)=some (AE B n.kids.length y):=(by rw[f _ _ AU];simp[go_sem]);clear f z)
   go_ret;have l:AO w d:=AW;exact⟨_,_,rfl,Ay6 (A _ l).1 (A _ l).2,AW⟩
theorem k9 (x:Stil.B9)(hs:Ak x<=1000000)(hf:Dh x)(aa:E5 x)(ih:FN 59 x (Df x)):FN 96 x (Gz x.net (Df x)):=by
 intro E L cv N w l z J H;have g:Dz x.net/\Ht x.net/\Stil.BK x.net<=999999:=by
  obtain⟨n,c,k⟩:=x;rw[Cf] at hs;exact⟨((Fz _ _ _).1 hf).1,((Eg _ _ _).1 aa).1,by simp only;omega⟩
 have hE:∀args w,(callFunc 95 args).run prog w=.ok (.enter 95 args) w:=enters_of func95 AX rfl;have HT:Hid (∀W,AO w W->Calls prog 59 #[.agg #[AB x.net.kind,AB x.net.one.op,E,L,cv,N]] W (AN W (AB (Df x)))):=λW h=>ih E L cv N W (l.below h) (z.below h) (J.below h) (H.below h)
 have HB:=AV (λW h=>i7 x.net E L W (l.below h) (z.below h) g.1);have Q:(Cj x.net).length<=999999:=by
  unfold Cj;split
  ·simp
  ·rename_i h0
   have e:Stil.BK x.net=Ai x.net:=if_neg h0;split
   ·have h1:=Jl x.net.kids
    have h2:=Ej x.net;have h3:=g.2.2;omega
   ·simp
 have t:Hid (∀W v,Ls W v (Cj x.net)->Calls prog 94 #[v,AB (Df x), .func (.func 95) #[] #[]] W (AN W (AB (Gz x.net (Df x))))):=by
  intro W v h;refine eZ (Cj x.net) Di 95 hE (λy hy=>?_) _ v W h Q;have ac:Ai y<=1000000:=by have:=Ln x.net y hy;have:=g.2.2;omega
  exact XQ y ac (Vi y (WJ g.2.1 y hy) ac)
 have⟨B,hB⟩:=AA (Cj x.net)
 have⟨tb,ae⟩:=AA (Df x)
 have⟨R,S⟩:=AA (Gz x.net (Df x))
 rw[<-S] at t ⊢;rw[<-hB] at HB t;rw[<-ae] at HT t;obtain⟨u,s,rfl,_⟩:=l.shape;obtain⟨A,q,rfl,_,_⟩:=z.shape;obtain⟨m,C,rfl,_⟩:=J.shape;obtain⟨r,D,rfl,_,_⟩:=H.shape;clear ih hB ae S hE g Q l z J H hf aa;go_enter func96,ntmps96;go_upto_region 1 with fail
 have⟨W,j⟩:=AA (w.alloc (.cells #[AB x.net.kind,AB x.net.one.op,AE u x.net.one.args.length s,AE A x.net.kids.length q,AE m x.coils.length C,AE r x.kids.length D] 62))
 rw[<-j];have M:AO w W:=by rw[j];exact Aa _ _
 have f:w.heap.size<W.heap.size:=by rw[j];simp
 obtain⟨_,⟨y0,X,y2,T,y4,O⟩,_⟩:B6 W w.heap.size (AB x.net.kind) (AB x.net.one.op) (AE u x.net.one.args.length s) (AE A x.net.kids.length q) (AE m x.coils.length C) (AE r x.kids.length D):=by rw[j];exact B6.new _ _ _ _ _ _ _ _
 have G:Hid (∀V,AO W V->(V.cell? (AL w 0)=some (AB x.net.kind)/\V.cell? (AL w 1)=some (AB x.net.one.op)/\V.cell? (AL w 2)=some (AE u x.net.one.args.length s)/\V.cell? (AL w 3)=some (AE A x.net.kids.length q)/\V.cell? (AL w 4)=some (AE m x.coils.length C)/\V.cell? (AL w 5)=some (AE r x.kids.length D))):=λV h=>⟨(h.cell (p:=(AL w 0)) f).trans y0,(h.cell (p:=(AL w 1)) f).trans X,(h.cell (p:=(AL w 2)) f).trans y2,(h.cell (p:=(AL w 3)) f).trans T,(h.cell (p:=(AL w 4)) f).trans y4,(h.cell (p:=(AL w 5)) f).trans O⟩
 clear j
 go_region_held3 (λd=>(d.cell? (AL w 0)=some (AB x.net.kind)/\d.cell? (AL w 1)=some (AB x.net.one.op)/\d.cell? (AL w 2)=some (AE u x.net.one.args.length s)/\d.cell? (AL w 3)=some (AE A x.net.kids.length q)/\d.cell? (AL w 4)=some (AE m x.coils.length C)/\d.cell? (AL w 5)=some (AE r x.kids.length D))) (first | with_reducible assumption | with_reducible exact⟨Gs.trans y0,Gs.trans X,Gs.trans y2,Gs.trans T,Gs.trans y4,Gs.trans O⟩ | skip) (first | (go_at_call 97;refine(HB.out _ (by exact M.drew)).mono ?_;rintro e I ⟨a1,c1,rfl,Z,af⟩;have K:=Bh (Below.refl _ _).drew af;have fM:Hid (∀V,AO I V->Ls V (AE a1 B.length c1) B):=(λV h=>Z.below h);have ah:=G.out I K;clear Z) | (go_at_call 59;refine(HT.out _ (by exact Bh M K)).mono ?_;rintro e w2 ⟨rfl,ab⟩;have Y:=Bh K ab;have aj:=G.out w2 Y) | (go_at_call 94;refine(t.out _ _ (fM.out _ (by first | exact ab | exact Below.refl _ _))).mono ?_;rintro e w3 ⟨rfl,ag⟩;have U:=Bh Y ag;have ai:=G.out w3 U))
 all_goals
  go_wp2
  go_ret;exact⟨rfl,Bh M U⟩
theorem Ave (a:Stil.B9):Ak a<=1000000->Dh a->E5 a->FN 59 a (Df a):=by
 induction a using Fq with
 | h n cs kids A=>
  intro B C z D I J r w f g l d;simp only at f g l d;rw[Cf] at B;have⟨_,_,_,_,j⟩:=(Fz _ _ _).1 C;have⟨_,m⟩:=(Eg _ _ _).1 z;have q:∀x∈kids,Ak x<=1000000:=λx c=>by have:Ak x<=Iu kids:=Eb Ak kids x c;omega
  have s:kids.length<=999999:=by have:=Oj kids;omega
  have y:∀args w,(callFunc 96 args).run prog w=.ok (.enter 96 args) w:=enters_of func96 AX rfl;have u:Hid (∀W,AO w W->Calls prog 27 #[r,AB 1, .func (.func 96) #[] #[]] W λe w'=>e=.returned (AB (Cc 1 (kids.map (λk=>Gz k.net (Df k)))))/\AO W w'):=λW h=>MF kids (λk=>Gz k.net (Df k)) 96 y (λx c=>k9 x (q x c) (j x c) (m x c) (A x c (q x c) (j x c) (m x c))) 1 r W (d.below h) s
  rw[Xd];have⟨R,t⟩:=AA (Cc 1 (kids.map (λk=>Gz k.net (Df k))))
  rw[<-t] at u ⊢;obtain⟨H,N,rfl,_⟩:=f.shape;obtain⟨O,G,rfl,_,_⟩:=g.shape;obtain⟨E,Q,rfl,_⟩:=l.shape;obtain⟨L,S,rfl,_,_⟩:=d.shape;clear A t y B C z j m q s f g l d;go_enter func59,ntmps59
  go_wp2_with (go_at_call 27;refine(u _ AW).mono ?_;rintro e K ⟨rfl,M⟩)
  go_ret;exact⟨rfl,AW⟩
theorem Avh (x:Stil.B9)(N:Ak x<=1000000)(Z:Dh x)(t:E5 x)(y:Am x.net=false):FN 29 x (Jc x):=by
 intro f j J A w d g z r;have u:Ht x.net/\Ai x.net<=1000000:=by
  obtain⟨n,c,k⟩:=x;rw[Cf] at N;have e:Stil.BK n=Ai n:=if_neg (by rw[show Am n=false from y];exact FV);exact⟨((Eg _ _ _).1 t).1,by simp only;omega⟩
 have G:=Stil.full_of _ (u.1.resolve_left (by rw[y];exact FV)).2.2;have L:Hid (∀W,AO w W->Calls prog 59 #[.agg #[AB x.net.kind,AB x.net.one.op,f,j,J,A]] W (AN W (AB (Df x)))):=λW h=>Ave x N Z t f j J A W (d.below h) (g.below h) (z.below h) (r.below h)
 have T:Hid (∀W,AO w W->Calls prog 58 #[.agg #[AB x.net.kind,AB x.net.one.op,f,j]] W (AN W (AB (Bc x.net)))):=λW h=>Vi x.net G u.2 f j W (d.below h) (g.below h)
 have D:Hid (Jc x=max (Bc x.net) (Df x)):=rfl;rw[D.out];have⟨q,Y⟩:=AA (Df x)
 have⟨m,S⟩:=AA (Bc x.net)
 rw[<-Y] at L ⊢;rw[<-S] at T ⊢;obtain⟨H,M,rfl,_⟩:=d.shape;obtain⟨O,E,rfl,_,_⟩:=g.shape;obtain⟨C,U,rfl,_⟩:=z.shape;obtain⟨K,V,rfl,_,_⟩:=r.shape;clear Y S u G y d g z r Z t D;have aa:m<q\/¬m<q:=AQ
 rcases aa with ac | ac
 all_goals
  go_enter func29,ntmps29
  go_wp2_with fail
  have⟨W,l⟩:=AA (w.alloc (.cells #[AB x.net.kind,AB x.net.one.op,AE H x.net.one.args.length M,AE O x.net.kids.length E,AE C x.coils.length U,AE K x.kids.length V] 62))
  rw[<-l];have s:AO w W:=by rw[l];exact Aa _ _
  obtain⟨_,⟨R,Q,X,I,y4,B⟩,_⟩:B6 W w.heap.size (AB x.net.kind) (AB x.net.one.op) (AE H x.net.one.args.length M) (AE O x.net.kids.length E) (AE C x.coils.length U) (AE K x.kids.length V):=by rw[l];exact B6.new _ _ _ _ _ _ _ _
  have k0:=cell_regrown R;have k1:=cell_regrown Q;have k2:=cell_regrown X;have k3:=cell_regrown I;have k4:=cell_regrown y4;have k5:=cell_regrown B;clear l R Q X I y4 B;refine wp_region_quiet_below AX AX ?_;repeat (go_big_quiet_step ((first | exact Calls.regrown_of (T _ (G5 s _ _)) | exact Calls.regrown_of (L _ (G5 s _ _)))))
  refine wpQuiet_nil ?_;intro _ ae;obtain⟨⟨dq,osq⟩,ab⟩:=ae;subst ab
  go_wp2
  go_ret;exact⟨Fj (by congr 1;omega),G5 s _ _⟩
theorem YZ (l:List Stil.B9)(g:Value)(w:World)(hr:Ep w)(hg:Ff w)(z:E8 w g l)(hl:l.length<=1048576)(D:Aw l<=1000000000)(q:∀x∈l,Dh x):
  Calls prog 12 #[g] w (AN w (AB (Jo l))):=by
 have B:=AV (λW h=>OI l g W (hr.below h) (hg.below h) (z.below h) hl D q);have⟨m,r,C⟩:=Kq q;have d:=Vo l;have j:Hid (Jo l=Cc 0 ((Aq l).map Jc)):=rfl;have⟨L,A⟩:=AA (Aq l)
 rw[<-A] at B m r C j d;have u:∀args w,(callFunc 29 args).run prog w=.ok (.enter 29 args) w:=enters_of func29 AX rfl;have s:Hid (∀W v,U0 W v L->Calls prog 27 #[v,AB 0, .func (.func 29) #[] #[]] W (AN W (AB (Cc 0 (L.map Jc))))):=λW v h=>MF L Jc 29 u (λx f=>Avh x (by have:=Uw f;omega) (m x f) (d x f).1 (d x f).2) 0 v W h AQ
 rw[j.out];have⟨R,t⟩:=AA (Cc 0 (L.map Jc))
 rw[<-t] at s ⊢;obtain⟨J,N,rfl,I⟩:=z;clear I hr hg q m r C j A u t d;go_enter func12,ntmps12
 go_wp2_with (first | (go_at_call 28;refine(B _ AW).mono ?_;rintro e G ⟨⟨a,c,H,rfl,hm,hrw⟩,M⟩;have y:U0 G (AE a H.length c) L:=yBj;have E:=AV y;clear y hrw hm) | (go_at_call 27;refine(s _ _ E.out).mono ?_;rintro e O ⟨rfl,K⟩))
 go_ret;exact⟨rfl,AW⟩
end Go.Proofs.YtmnnkedjoecehaaGreatDoor
namespace Go.Co
open Go.Conc
variable {P:Program}{a:Act}
theorem Qv {R:Act->World->Prop}{c:Code}{l:List Code}{w:World}(h:c.wp P (Exit.then (WpL P R l) λ_ _ _=>False) a w):WpL P R (c::l) a w:=h
theorem QM {R:Act->World->Prop}{w:World}(h:R a w):WpL P R [] a w:=h
theorem fl {Stop:Goroutine->World->Prop}{w:World}(t:OkP P){f:FuncId}{args:Array Value}{v:Value}{Post:World->Prop}(h:∀j d,Calls P f args {w with tape:=j,drawn:=d} λe w'=>e=.returned v/\Post w')
  (s:∀(c:Frame) (w' W:World),c.leaving P W (.returned v)->c.fn=f->Al Post w'->Comes P (G c []) w' Stop):Comes P (G (Frame.enter P f args .normal) []) w Stop:=by
 refine Ws t (λr w'=>∃c,r=G c []/\c.leaving P w' (.returned v)/\c.fn=f/\Post w') rfl (λg w ⟨c,h,_⟩=>by rw[h];rfl) (fun j d=>?_) ?_
 ·obtain⟨e,w',q,⟨rfl,l⟩,⟨n,u⟩,m,p⟩:=h j d []
  exact⟨n,G q [],w',u,q,rfl,p,m,l⟩
 ·rintro r w' ⟨j,d,c,rfl,p,m,l⟩
  exact s c w' _ p m ⟨j,d,l⟩
end Go.Co
namespace Go.Proofs.YtmnnkedjoecehaaGreatDoor
open Tryz Go.RowKit Go.Sort Go.BigFrame Go.Co
theorem EY.insts {w:World}{base:Nat}{v:Value}{e:List MI}{L:List Stil.Gf}(h:EY w base v e)(c:e.map MI.inst=L)(f:∀x∈L,x.fits)(hl:L.length<=800):H8 w v L:=by
 have⟨b,q,d⟩:=h.pk (λx g=>(f _ (by rw[<-c];exact FC g)).2.2.1) (by rw[<-c,CW] at hl;omega);rw[c] at d;exact d.2.2.2.2.2.1.at
def TJ (F:FuncId)(w:World)(g':Goroutine)(w':World):Prop:=∃c:Frame,g'=Go.Conc.G c []/\c.mode=.returning/\c.defers=[]/\c.kind=.normal/\c.fn=F/\c.tmps.getD 2 undef=.bool true/\CZ w.heap.size w w'
section
variable {w w':World}{v:Value}
theorem E8.blw {l:List Stil.B9}(h:E8 w v l)(c:CZ w.heap.size w w'):E8 w' v l:=by
 have e:E8 {w' with tape:=w.tape,drawn:=0} v l=E8 w' v l:=AX
 exact e ▸ h.below (c.tape 0)
theorem H8.blw {l:List Stil.Gf}(h:H8 w v l)(c:CZ w.heap.size w w'):H8 w' v l:=by
 have e:H8 {w' with tape:=w.tape,drawn:=0} v l=H8 w' v l:=AX
 exact e ▸ h.below (c.tape 0)
theorem Ep.blw (h:Ep w)(c:CZ w.heap.size w w'):Ep w':=by
 have e:Ep {w' with tape:=w.tape,drawn:=0}=Ep w':=AX
 exact e ▸ h.below (c.tape 0)
theorem Ff.blw (h:Ff w)(c:CZ w.heap.size w w'):Ff w':=by
 have e:Ff {w' with tape:=w.tape,drawn:=0}=Ff w':=AX
 exact e ▸ h.below (c.tape 0)
theorem Tp.blw {B:Nat}(h:Tp w w'):CZ B w w':=by obtain⟨c,d,rfl⟩:=h;exact⟨rfl,rfl,CG _,λ_ _=>rfl⟩
end
section
open Go.Conc
variable {Stop:Goroutine -> World -> Prop}{a:Act}{w W0:World}{b:Frame}{k:List Item}{cs:List Frame}{ops:Array Oper}{i:Nat}{rest:List Nat}{o:Oper}
theorem cP (t:Tp W0 w)(v:Value)(h:∀w',Tp W0 w'->Go.Co.Comes prog (G (b.at (a.put o.dst v) (.inRegion ops rest::k)) cs) w' Stop)(ho:ops[i]?=some o:=by rfl)(hw:Region.wanted o (yielded ops a.tmps)=true:=by rfl)(hk:b.kind≠.early:=by simp[Go.Conc.base])
  (hr:∀w₁:World,(execOp a.eval o).run prog w₁=.ok (.value v) w₁:=by(intro _;first | (simp[Act.put];go_simp;done) | (simp[Act.put];go_simp;simp[*];done) | (simp[Act.put, *];go_simp;done)))
  (he:∀w₁:World,(execOp a.eval o).events prog w₁ #[]=#[]:=by(intro _;first | (simp[go_sem];done) | rfl)):Go.Co.Comes prog (G (b.at a (.inRegion ops (i::rest)::k)) cs) w Stop:=Qo okP ho hw hk hr he λw' q=>h w' (t.al q)
theorem cN (t:Tp W0 w)(h:∀w',Tp W0 w'->Go.Co.Comes prog (G (b.at a k) cs) w' Stop):Go.Co.Comes prog (G (b.at a (.inRegion ops []::k)) cs) w Stop:=LZ okP λw' q=>h w' (t.al q)
theorem cR {e:Nat}{d:Code}(h:∀w',Tp w w'->Go.Co.Comes prog (G (b.at a (.inRegion ops (List.range ops.size)::.code d::k)) cs) w' Stop):Go.Co.Comes prog (G (b.at a (.code (.seq (.region e ops false) d)::k)) cs) w Stop:=P7 okP λ_ q=>Pn okP λw' c=>h w' (((Tp.refl w).al q).al c)
theorem cC (t:Tp W0 w){f:FuncId}{F:Func}{c:Code}{args:Array Operand}{ats:Array TypeId}(vals:Array Value){Post:Value->World->Prop}(hf:prog.funcs[f]?=some F)(hcall:∀w',Tp W0 w'->GX prog f vals w' Post)
  (h:∀v w',Post v w'->Go.Co.Comes prog (G (b.at (a.put o.dst v) (.inRegion ops rest::k)) cs) w' Stop) (ho:ops[i]?=some o:=by rfl) (hw:Region.wanted o (yielded ops a.tmps)=true:=by rfl) (hk:b.kind≠.early:=by simp[Go.Conc.base])
  (hop:o.op=.call {callee:=.value (.func f),args,argTypes:=ats}:=by rfl) (hb:F.body=some c:=by rfl) (hargs:args.map a.eval=vals:=by simp[Act.eval,Act.put]):Go.Co.Comes prog (G (b.at a (.inRegion ops (i::rest)::k)) cs) w Stop:=OS okP ho hw hk hop hf hb hargs (λw' q=>hcall w' (t.al q)) h
theorem Tp.lw {W w':World}(t:Tp W0 W)(c:CZ W.heap.size W w'):CZ W0.heap.size W0 w':=by obtain⟨e,d,rfl⟩:=t;exact⟨c.os,c.out,c.size,c.block⟩
end
open Go.Conc
variable {F:FuncId}{fn:Func}
theorem jN (m:prog.funcs[F]?=some fn)(e:fn.results=#[.tmp 2])(g:prog.inits.idxOf? F=none){fr:Frame}(f:fr.mode=.returning)(hd:fr.defers=[])(h:fr.kind=.normal)(j:fr.fn=F)(c:fr.tmps.getD 2 undef=.bool true)(W:World):
  stepG prog true (G fr []) W=.ended (.done (.bool true)) W #[]:=by
 have d:=resultsC_tmp (P:=prog) e fr.tmps W;rw[c] at d;obtain⟨n,defers,kind,l⟩:=fr;simp_all[G,stepG,unwind,doReturn,seen,GStep.after]
theorem jc {c:Code}(g:prog.funcs[F]?=some fn)(j:fn.body=some c)(u:fn.results=#[.tmp 2])(l:prog.inits.idxOf? F=none){args:Array Value}{W:World}{Post:Value->World->Prop}
  (h:Go.Co.Comes prog (G (Frame.enter prog F args .normal) []) W (TJ F W)) (s:∀w',CZ W.heap.size W w'->Post (.bool true) w'):
  ∃N last o w' f,runNT prog (N+1) (solo (G (Frame.enter prog F args .normal) []) W) #[]=(.ended o w',f)/\runN prog N (solo (G (Frame.enter prog F args .normal) []) W)=.next last/\step prog last=.ended o w'/\Conc.Good prog Post last o w' f:=by
 rw[Go.Co.enter_at args g j] at h ⊢;refine rj ⟨λi hi=>?_,λc q=>by cases q⟩ (h.mono λy w' _ hF d=>?_)
 ·obtain rfl:i=.code c:=by simpa[G,Frame.at,Go.Conc.base] using hi
  trivial
 ·obtain⟨x,rfl,m,hd,n,t,r,e⟩:=hF
  exact⟨rfl, .bool true,#[],jN g u l m hd n t r _,AU,s _ ⟨e.os,e.out,e.size,e.block⟩⟩
end Go.Proofs.YtmnnkedjoecehaaGreatDoor
namespace Go.Proofs.YtmnnkedjoecehaaGreatDoor
open Tryz Stil Go.RowKit Go.Sort Go.BigFrame Go.Co
theorem mz {l:List Stil.B9}(h:(Gq l).2≠0):(Gq l).1=[]:=by
 unfold Gq at h ⊢;split
 ·rfl
 ·split
  ·rfl
  ·rename_i c d
   rw[if_neg c,if_neg d] at h;exact absurd rfl h
theorem EY.nil (w:World)(base:Nat):EY w base AG []:=⟨base,CG _,World.ownsRow_nil _ _ _ _,(λx c=>by cases c),M9,(λk d=>by cases d)⟩
theorem Az6 (l:List Stil.B9)(f:Value)(w:World)(hr:Ep w)(hg:Ff w)(q:E8 w f l)(hl:l.length<=1048576)(m:Aw l<=1000000000)(r:∀x∈l,Dh x)(d:(Gq l).2≠0):
  Calls prog 5 #[f] w (AN w (.tuple #[AG,AB (Gq l).2])):=by
 have j:=AV (λW h=>OH l f W (hr.below h) (hg.below h) (q.below h) hl m r);have t:=AV (λW h=>YZ l f W (hr.below h) (hg.below h) (q.below h) hl m r);have u:=AV (λW h=>XT l f W (hr.below h) (hg.below h) (q.below h) hl m r);have s:=(NY l).1;have B:Gq l=if 0<(Ah l).1 then([],1) else if 16<Jo l\/8<Ia l then([],2) else(Ho l,0):=rfl
 obtain⟨H,I,rfl,_⟩:=q;rw[B] at d ⊢;clear B r m hr hg;generalize (Ah l).1=c at*;generalize Jo l=x at*;generalize Ia l=y at*;by_cases g:0<c
 ·rw[if_pos g]
  rw[Fo AQ] at j;clear t u d g s;go_enter func5,ntmps5
  go_wp2_with (go_at_call 11;refine(j _ AW).mono ?_;rintro e z ⟨rfl,A⟩)
  refine bodyPost_ret (v:=.tuple #[AG,AB 1]) (by simp[results,results5,go_sem]) rfl ⟨rfl,AW⟩
 rw[if_neg g] at d ⊢;rw[JP AQ] at j;by_cases G:(16:Int)<x
 ·rw[if_pos (.inl AQ)]
  clear u d g s;go_enter func5,ntmps5
  go_wp2_with (first | (go_at_call 11;refine(j _ AW).mono ?_;rintro e z ⟨rfl,A⟩) | (go_at_call 12;refine(t _ AW).mono ?_;rintro e D ⟨rfl,C⟩))
  refine bodyPost_ret (v:=.tuple #[AG,AB 2]) (by simp[results,results5,go_sem]) rfl ⟨rfl,AW⟩
 by_cases E:(8:Int)<y
 ·rw[if_pos (.inr AQ)]
  clear d g s;go_enter func5,ntmps5
  go_wp2_with (first | (go_at_call 11;refine(j _ AW).mono ?_;rintro e z ⟨rfl,A⟩) | (go_at_call 12;refine(t _ AW).mono ?_;rintro e D ⟨rfl,C⟩) | (go_at_call 13;refine(u _ AW).mono ?_;rintro e w3 ⟨rfl,J⟩))
  refine bodyPost_ret (v:=.tuple #[AG,AB 2]) (by simp[results,results5,go_sem]) rfl ⟨rfl,AW⟩
 rw[if_neg AQ] at d;exact absurd rfl d
theorem YP (l:List Stil.B9)(g:Value)(w:World)(hr:Ep w)(hg:Ff w)(u:E8 w g l)(hl:l.length<=1048576)(B:Aw l<=1000000000)(G:∀x∈l,Dh x):
  GX prog 5 #[g] w λv w'=>∃(ac:Value) (j:List MI),v=.tuple #[ac,AB (Gq l).2]/\j.map MI.inst=(Gq l).1/\EY w' w.heap.size ac j/\CZ w.heap.size w w':=by
 by_cases L:¬(Gq l).2=0
 ·refine(WE okP (Post:=λr w'=>r=.tuple #[AG,AB (Gq l).2]/\CZ w.heap.size w w') fun f d=>?_).mono λr w' ⟨f,d,K,C⟩=>⟨AG,[],K,(mz L).symm,EY.nil _ _,C.os,C.out,C.size,C.block⟩
  have e1:Ep {w with tape:=f,drawn:=d}=Ep w:=AX
  have e2:Ff {w with tape:=f,drawn:=d}=Ff w:=AX
  have e3:E8 {w with tape:=f,drawn:=d} g l=E8 w g l:=AX
  exact(Az6 l g {w with tape:=f,drawn:=d} (e1 ▸ hr) (e2 ▸ hg) (e3 ▸ u) hl B G L).mono λe w' h=>⟨_,h.1,rfl,h.2.os,h.2.output,h.2.size,h.2.block⟩
 have⟨S,U,D⟩:=RH (Decidable.not_not.1 L);rw[RG S U D];clear L;intro fr cs Stop hn;have E:∃c0 c1 d,Tryz.f5.body=some (IC [c0,c1] d):=⟨_,_,_,rfl⟩
 obtain⟨c0,c1,d,E⟩:=E;have fG:=Go.Conc.resultsC_tmp2 (P:=prog) (fn:=Tryz.f5) rfl;rw[Go.Co.enter_at #[g] func5 E];simp only[ntmps5,Cd,CH,CP,Nat.reduceAdd,Nat.reduceSub,DK,DL,DJ,DN,C5,C4];unfold Tryz.f5 at E;simp only[IC] at E;cases E;obtain⟨N,ae⟩:∃N:Act->World->Prop,N=(λH W=>(∃(u2 u3 u4 u5 u6 u7 u8 u9 ah ab an aa ai af ak:Value),H=⟨#[g,undef,u2,u3,u4,u5,u6,u7,u8,u9,ah,ab,an,aa,ai,af,ak,undef,undef],[]⟩)/\CZ w.heap.size w W):=⟨_,rfl⟩
 have T:=AV ae;clear ae;refine OQ okP [_,_] (R:=N) ?_ ?_
 ·intro f s
  obtain⟨W,M⟩:∃W:World,W={w with tape:=f,drawn:=s}:=⟨_,rfl⟩
  rw[<-M];have m:Tp w W:=⟨f,s,M⟩
  have fZ:Hid (∀c,AO W c->CZ w.heap.size w c):=by
   intro c h;subst M;exact⟨h.os,h.output,h.size,h.block⟩
  have HT:Hid (∀c,AO W c->Calls prog 11 #[g] c (AN c (.bool true))):=by
   intro c h;have J:=OH l g c ((hr.blw m.blw).below h) ((hg.blw m.blw).below h) ((u.blw m.blw).below h) hl B G;rw[JP S] at J;exact J
  have HB:=AV (λc h=>YZ l g c ((hr.blw m.blw).below h) ((hg.blw m.blw).below h) ((u.blw m.blw).below h) hl B G);have HK:=AV (λc h=>XT l g c ((hr.blw m.blw).below h) ((hg.blw m.blw).below h) ((u.blw m.blw).below h) hl B G);have K:¬(16:Int)<(Jo l:Int):=AQ
  have J:¬(8:Int)<(Ia l:Int):=AQ
  clear U D S;generalize Jo l=x at*;generalize Ia l=y at*;clear M m hr hg u hl B G hn;refine Qv ?_
  go_wp2
  refine Qv ?_
  go_wp2_with (first | (go_at_call 11;refine(HT _ AW).mono ?_;rintro e w1 ⟨rfl,aA⟩) | (go_at_call 12;refine(HB _ AW).mono ?_;rintro e w2 ⟨rfl,aC⟩) | (go_at_call 13;refine(HK _ AW).mono ?_;rintro e w3 ⟨rfl,aB⟩))
  refine QM ?_;rw[T.out];exact⟨⟨_,_,_,_,_,_,_,_,_,_,_,_,_,_,_,rfl⟩,fZ _ AW⟩
 intro H Z ao;rw[T.out] at ao;clear T N S U D;obtain⟨f,s,⟨u2,u3,u4,u5,u6,u7,u8,u9,ah,ab,an,aa,ai,af,ak,rfl⟩,t⟩:=ao;replace t:CZ w.heap.size w Z:=⟨t.os,t.out,t.size,t.block⟩
 refine P7 okP λx1 h=>?_
 have t1:=(Tp.refl Z).al h;refine Pn okP λx2 h=>?_
 have t2:=t1.al h;simp only[Cd,CH,CP,Nat.reduceAdd,CV,List.range,List.range.loop];refine Qo okP rfl Ab yFi (v:=g) (λ_=>by go_simp) (λ_=>by simp[go_sem]) λx3 h=>?_
 have t3:=t2.al h;have ny:∀c,Tp Z c->GX prog 14 #[g] c λv w'=>∃j:List MI,j.map MI.inst=Ho l/\EY w' w.heap.size v j/\CZ w.heap.size w w':=by
  intro c A;have q:=t.trans A.blw;refine(Avv l g c (hr.blw q) (hg.blw q) (u.blw q) hl B G).mono λr w' ⟨j,K,⟨au,J,C,h4,h5,h6⟩,h7⟩=>⟨j,K,⟨au,CM q.size J,C,λx hx=>Joins.ownsRow_le (h4 x hx) q.size,h5,λk D=>⟨CM q.size (h6 k D).1,(h6 k D).2⟩⟩,q.trans (h7.le q.size)⟩
 refine OS okP rfl Ab yFi rfl func14 rfl (vals:=#[g]) (by simp[Act.eval,Act.put]) (λc h=>ny c (t3.al h)) λz I hp=>?_
 obtain⟨j,ap,hO,O⟩:=hp;clear ny t1 t2 t3 h;refine Qo okP rfl Ab yFi (v:=z) (λ_=>by simp[Act.put];go_simp) (λ_=>by simp[go_sem]) λx4 h=>?_
 have t4:=(Tp.refl I).al h;refine Qo okP rfl Ab yFi (v:=AB 0) (λ_=>by simp[Act.put];go_simp) (λ_=>by simp[go_sem]) λx5 h=>?_
 have t5:=t4.al h;refine LZ okP λX h=>?_
 have t6:=t5.al h;clear t4 t5 h;simp only[Act.put];refine L0 okP (Q:=λe a w'=>e=.ret/\a.defers=[]/\a.tmps.getD 2 undef=z/\a.tmps.getD 3 undef=AB 0/\Tp X w') (λe a w h=>.inr h.1) (fun f s=>?_) ?_ ?_
 ·have A:Tp X {X with tape:=f,drawn:=s}:=⟨f,s,rfl⟩
  revert A
  generalize {X with tape:=f,drawn:=s}=Y;intro A
  go_wp2
 ·rintro H w' ⟨f,d,h,_⟩
  cases h
 ·rintro H w' az ⟨f,d,_,hd,av,aw,A⟩
  refine Jn okP (fr':=fr.finish (.tuple #[z,AB 0])) (cs':=cs) (λag=>?_) λax h=>?_
  ·have V:=fG H.tmps
   rw[av,aw] at V;exact Go.Conc.stepG_leave (b:=Go.Conc.base 5) rfl hd func5 (V ag).1 (V ag).2
  ·have ar:Tp I ax:=by
    obtain⟨aj,d1,rfl⟩:=t6;obtain⟨ay,d2,rfl⟩:=A.al ⟨f,d,rfl⟩;exact(show Tp I _ from⟨ay,d2,rfl⟩).al h
   obtain⟨aj,d1,rfl⟩:=ar;have e:EY {I with tape:=aj,drawn:=d1} w.heap.size z j=EY I w.heap.size z j:=AX
   exact hn _ _ ⟨z,j,rfl,ap,e ▸ hO,O.os,O.out,O.size,O.block⟩
