import Derived.Test.YtifcnfeppdbjdaaGreatDoorS33
import Derived.Test.YtifcnfeppdbjdaaGreatDoorCI4
import Derived.Conc.LeavingOf
set_option maxHeartbeats 8000000
set_option maxRecDepth 100000
namespace Stil
theorem Axh (kids:List B8)(j:Nat)(h:j<kids.length):((kids.mapIdx (λi a=>Jn kids.length i a)).take (j+1)).flatten=((kids.mapIdx (λi a=>Jn kids.length i a)).take j).flatten++(Ff kids.length j++(Dy kids[j].net++Dl kids[j])):=by
 rw[D2 BR,E6];simp[Jn,JE]
end Stil
namespace Go.Proofs.YtifcnfeppdbjdaaGreatDoor
open Tryz Stil Go.RowKit Go.Sort Go.BigFrame
def SY (f:FuncId)(x:Stil.B8)(is:List Stil.Io):Prop:=∀(j h g i:Value) (w:World),Td w j x.net.one.args->Lp w h x.net.kids->U7 w g x.coils->Uo w i x.kids->
 Calls prog f #[.agg #[AB x.net.kind,AB x.net.one.op,j,h,g,i]] w λe w'=>∃(a:Option Addr) (c:Nat) (d:List MI),e=.returned (AE a d.length c)/\d.map MI.inst=is/\Jz w' w.heap.size (AE a d.length c) d/\AO w w'
theorem j9 {w w1:World}{base b1:Nat}{v:Value}{d:List MI}{m:MI}(h:Jz w base v d)(c:EOk w1 b1 m.e)(h1:w.heap.size<=b1)(f:base<=w.heap.size):EOk w1 base m.e/\Aside v m.e.av:=
 ⟨Joins.ownsRow_le c AQ,Ho (n:=w.heap.size) (λk a=>(h.1.lt k a).2) (λk a=>CJ h1 (c.lt k a).1)⟩
theorem s_tail (a:Stil.B8):E8 a->Dh a->Aj a<=400->SY 25 a (Dl a):=by
 induction a using Gl with
 | h n r kids ih=>
  intro aF aY hs av nv cv kv w I aa ae ac;simp only at I aa ae ac;have aA:=YT _ aF;rw[Ce] at hs aA;have⟨_,gI⟩:=(En _ _ _).1 aF;have⟨_,_,aD,_,wL⟩:=(F7 _ _ _).1 aY;have aE:∀x∈kids,Aj x<=400:=λx s=>by have:Aj x<=I5 kids:=D9 Aj kids x s;omega
  have bj:kids.length<=400:=by have:=Og kids;omega
  have bs:r.length<=400:=AQ
  have IH:=AV (λx s=>ih x s (gI x s) (wL x s) (aE x s));have aG:Hid (∀x∈kids,KC 54 x.net (Dy x.net)):=by
   intro x s;have h1:=gI x s;have h2:=aE x s;have h3:=wL x s;obtain⟨xn,xc,xk⟩:=x;rw[Ce] at h2;exact fS xn ((En _ _ _).1 h1).1 ((F7 _ _ _).1 h3).1 AQ
  have jA:=AV (λW (h:AO w W)=>ac.below h);have qx:=AV (λW (h:AO w W)=>(ae.below h).at);have yH:=AV (λx s=>(aD x s).2.1);have vP:=AV (λe he av W h=>RE e av W h (aD e he).2.1);rw[Wj] at aA ⊢;have dY:Hid (∀(j:Nat) (H:List MI),H.map MI.inst=Iu r++((kids.mapIdx (λi a=>Jn kids.length i a)).take j).flatten->H.length<=800):=by
   intro j H h;rw[<-CW (f:=MI.inst),h];have h2:((kids.mapIdx (λi a=>Jn kids.length i a)).take j).flatten.length<=(kids.mapIdx (λi a=>Jn kids.length i a)).flatten.length:=by
    conv=>rhs;rw[<-IG j (kids.mapIdx (λi a=>Jn kids.length i a)),E6,CM]
    omega
   rw[CM] at aA ⊢;omega
  obtain⟨p0,r0,rfl,bc⟩:=I.shape;obtain⟨p1,r1,rfl,bh,_⟩:=aa.shape;obtain⟨p2,r2,rfl,a8⟩:=ae.shape;obtain⟨p3,r3,rfl,aw,_⟩:=ac.shape;clear bc bh a8 aw ih aE I aa ae ac gI aF aY aD wL aA;go_enter func25,ntmps25
  go_wp2
  obtain⟨W0,ap⟩:∃W,W=w.alloc (.cells #[AB n.kind,AB n.one.op,AE p0 n.one.args.length r0,AE p1 n.kids.length r1,AE p2 r.length r2,AE p3 kids.length r3] 62):=⟨_,rfl⟩
  rw[<-ap];have aI:W0.heap.size=w.heap.size+1:=by rw[ap];simp
  have aK:AO w W0:=by rw[ap];exact Aa _ _
  have aM:W0.cell? (AL w 4)=some (AE p2 r.length r2):=by rw[ap];simp[go_sem]
  have aW:W0.cell? (AL w 5)=some (AE p3 kids.length r3):=by rw[ap];simp[go_sem]
  clear ap;have bb:=AV aI;have⟨W,hW⟩:=AA (W0.alloc (.cells #[] 53))
  rw[<-hW];have aU:Hid (Jz W (w.heap.size+1) (AE (some (AK (w.heap.size+1) 0)) 0 0) []):=by
   rw[hW,<-aI];exact⟨World.ownsRow_lit W0 #[] 0 (CG _) A6 rfl,λx s=>by cases s⟩
  have ar:Below (w.heap.size+1) W0 W:=by rw[hW];exact(Aa W0 _).mono AQ
  have a9:=aK.trans (ar.mono AQ);have nM:w.heap.size<W.heap.size:=by have:=ar.size;omega
  have y4:=(World.cell?_of_block (a:=(AL w 4)) (ar.block _ AU)).trans aM;have y5:=(World.cell?_of_block (a:=(AL w 5)) (ar.block _ AU)).trans aW;clear hW aM aW aK ar aI bb;go_loopw [3,4] (λd i wr=>∃(j:Nat) (G:Option Addr) (D:Nat) (g:List MI),j<=r.length/\i=AB (j:Int)/\d=AE G g.length D/\g.map MI.inst=Iu (r.take j)/\Jz wr (w.heap.size+1) (AE G g.length D) g/\Below (w.heap.size+1) W wr) (λ_ i _=>r.length - (intOf i).toNat)
  case atStart=>exact⟨0,_,_,[],AQ,rfl,rfl,by simp[Iu],aU.out,Below.refl _ _⟩
  case round=>
   obtain⟨j,G,D,g,hj,rfl,rfl,al,au,C⟩:=hrel;have fU:=AV al;have U:=AV au;have aZ:g.length=j:=by
    have:=congrArg List.length al
    rw[CW,Iu,CW,FY] at this;omega
   have fE:=AV aZ;have bg:g.length<=400:=AQ
   clear al au aU aZ;have F:=a9.trans (C.mono AQ);have X:=CB nM C.size;have bz:=(World.cell?_of_block (a:=(AL w 4)) (C.block _ AU)).trans y4;by_cases aj:j<r.length
   ·have⟨pa,pc,az,ax⟩:=qx wr F
    simp only[Value.slice.injEq,true_and] at az;obtain⟨rfl,rfl⟩:=az;have⟨b2,o2,iT,aJ,hn⟩:=ax j aj;subst iT;obtain⟨x0,av,x1,I⟩:=hn;have HI:=AV (λV h=>vP r[j] (CN aj) av V (I.below h));have aX:Hid (Iu (r.take (j+1))=Iu (r.take j)++[⟨10,r[j]⟩]):=by
     show _=_
     unfold Iu;rw[D2 aj,CU];rfl
    have⟨y,hy⟩:=AA (r[j])
    rw[<-hy] at HI aX x0 I;obtain⟨bq,bm,rfl,_⟩:=I;have bf:(j:Int)<(r.length:Int):=AQ
    clear hy ax vP qx IH aG jA dY yH
    go_wp2_with (first | (go_at_call 52;refine(HI _ (Below.refl _ _)).mono ?_;rintro e w2 ⟨P,R,rfl,aQ,z⟩;have uN:=AV aQ;clear aQ) | (at_builtin;refine G7 (m:=⟨10,⟨y.op,y.args,AE P y.args.length R⟩⟩) rfl _ _ rfl (w.heap.size+1) G D g rfl rfl (U.below z) (j9 (m:=⟨10,⟨y.op,y.args,AE P y.args.length R⟩⟩) U uN (CG _) AQ) AQ (by have:=z.size;omega) ?_;intro M J w3 hr3 Z;have ab:=AV hr3;clear hr3;have q:=C.trans ((z.mono AQ).trans Z)))
    exact⟨⟨j+1,M,J,g++[⟨10,⟨y.op,y.args,AE P y.args.length R⟩⟩],AQ,by go_num,by rw[CM];rfl,by rw[CU,fU.out,aX.out];rfl,by rw[CM];exact ab.out,q⟩,by simp[intOf];omega⟩
   ·obtain rfl:j=r.length:=by omega
    have ak:=fU.out;rw[Gk] at ak;have eF:=AV ak;have vT:=(World.cell?_of_block (a:=(AL w 5)) (C.block _ AU)).trans y5;clear ak fU y5 qx vP yH fE;obtain⟨wk,bi⟩:∃wk:World,wk=wr:=⟨wr,rfl⟩
    subst bi
    go_wp2
    go_loopw [3,6] (λd i wr=>∃(j:Nat) (G:Option Addr) (D:Nat) (g:List MI),j<=kids.length/\i=AB (j:Int)/\d=AE G g.length D/\g.map MI.inst=Iu r++((kids.mapIdx (λi a=>Jn kids.length i a)).take j).flatten/\Jz wr (w.heap.size+1) (AE G g.length D) g/\Below (w.heap.size+1) wk wr) (λ_ i _=>kids.length - (intOf i).toNat)
    case atStart=>exact⟨0,G,D,g,AQ,rfl,rfl,by rw[eF.out];simp,U.out,Below.refl _ _⟩
    case round=>
     clear U eF;obtain⟨wo,ba⟩:∃wo:World,wo=wk:=⟨_,rfl⟩
     clear ba wo;have a7:=F;have zZ:=X;have bk:=C;clear F X C;obtain⟨j,G,D,g,hj,rfl,rfl,al,au,C⟩:=hrel;have fU:=AV al;have U:=AV au;have bg:=dY j g al;clear al au;have F:=a7.trans (C.mono AQ);have X:=CB zZ C.size;have aV:=(World.cell?_of_block (a:=(AL w 5)) (C.block _ AU)).trans vT;by_cases aj:j<kids.length
     ·have⟨pa,pc,az,_,ax⟩:=(jA w (Below.refl _ _)).shape
      simp only[Value.slice.injEq,true_and] at az;obtain⟨rfl,rfl⟩:=az;have⟨b,o,iT,aJ,hn⟩:=ax j aj;subst iT;have⟨aT,cv,kv,x4,x5,ae,ac⟩:=hn.open;have⟨x0,x1,av,nv,x2,x3,I,aa⟩:=aT.open;have HI:Hid (∀Y,AO w Y->∀{V},AO Y V->Calls prog 25 #[.agg #[AB kids[j].net.kind,AB kids[j].net.one.op,av,nv,cv,kv]] V λe w'=>∃(a:Option Addr) (c:Nat) (H:List MI),e=.returned (AE a H.length c)/\H.map MI.inst=Dl kids[j]/\Jz w' V.heap.size (AE a H.length c) H/\AO V w'):=λY h0 V h=>IH kids[j] (CN aj) av nv cv kv V ((I.below h0).below h) ((aa.below h0).below h) ((ae.below h0).below h) ((ac.below h0).below h)
      have rZ:Hid (∀Y,AO w Y->∀{V},AO Y V->Calls prog 54 #[.agg #[AB kids[j].net.kind,AB kids[j].net.one.op,av,nv]] V λe w'=>∃(a:Option Addr) (c:Nat) (H:List MI),e=.returned (AE a H.length c)/\H.map MI.inst=Dy kids[j].net/\Jz w' V.heap.size (AE a H.length c) H/\AO V w'):=λY h0 V h=>aG kids[j] (CN aj) av nv V ((I.below h0).below h) ((aa.below h0).below h)
      have aX:=Axh kids j aj;have jO:Hid (∀L:List MI,L.map MI.inst=g.map MI.inst++Ff kids.length j->∀k l:List MI,k.map MI.inst=Dy kids[j].net->(L.length+k.length<=1000000)/\(l.map MI.inst=Dl kids[j]->((L++k).length+l.length<=1000000)/\((L++k)++l).map MI.inst=Iu r++((kids.mapIdx (λi a=>Jn kids.length i a)).take (j+1)).flatten)):=by
       intro L hL k l K;have e0:∀l:List MI,l.map MI.inst=Dl kids[j]->((L++k)++l).map MI.inst=Iu r++((kids.mapIdx (λi a=>Jn kids.length i a)).take (j+1)).flatten:=λl u=>by rw[CU,CU,hL,fU.out,K,u,aX];simp only[EV]
       refine⟨?_,λu=>⟨?_,e0 l u⟩⟩
       ·obtain⟨wB,wJ⟩:∃wB:List MI,wB.map MI.inst=Dl kids[j]:=⟨(Dl kids[j]).map λi=>⟨i.code,⟨i.one.op,i.one.args,AG⟩⟩,by rw[FI];exact(JL λi _=>rfl).trans (List.map_id _)⟩
        have:=dY _ _ (e0 wB wJ)
        rw[CM,CM] at this;omega
       ·have:=dY _ _ (e0 l u)
        rw[CM] at this;omega
      clear aX;have⟨x,s⟩:=AA (kids[j])
      rw[<-s] at HI rZ jO x0 x1 I aa ae ac;obtain⟨q0,s0,rfl,_⟩:=I.shape;obtain⟨q1,s1,rfl,_,_⟩:=aa.shape;obtain⟨q2,s2,rfl,_⟩:=ae.shape;obtain⟨q3,s3,rfl,_,_⟩:=ac.shape;have mQ:Hid (∀V,Below (w.heap.size+1) wr V->V.cell? (AL w 5)=some (AE (some (AK b o)) kids.length r3)/\V.cell? (AK b (o+j*6))=some (AB x.net.kind)/\V.cell? (AK b (o+j*6+1))=some (AB x.net.one.op)/\V.cell? (AK b (o+j*6+2))=some (AE q0 x.net.one.args.length s0)/\V.cell? (AK b (o+j*6+3))=some (AE q1 x.net.kids.length s1)/\V.cell? (AK b (o+j*6+4))=some (AE q2 x.coils.length s2)/\V.cell? (AK b (o+j*6+5))=some (AE q3 x.kids.length s3)):=λV hV=>by
       have e0:V.heap[w.heap.size]?=wr.heap[w.heap.size]?:=hV.block _ AQ;have e1:=(hV.block _ AQ).trans (F.block b aJ);exact⟨(World.cell?_of_block (a:=(AL w 5)) e0).trans aV,(World.cell?_of_block (a:=(AK b _)) e1).trans x0,(World.cell?_of_block (a:=(AK b _)) e1).trans x1,(World.cell?_of_block (a:=(AK b _)) e1).trans x2,(World.cell?_of_block (a:=(AK b _)) e1).trans x3,(World.cell?_of_block (a:=(AK b _)) e1).trans x4,(World.cell?_of_block (a:=(AK b _)) e1).trans x5⟩
      have⟨br,bn,bv,bu,bp,bw,bo⟩:=mQ wr (Below.refl _ _);have bf:(j:Int)<(kids.length:Int):=AQ
      clear s hn aT ax I aa ae ac x0 x1 x2 x3 x4 x5 dY IH aG jA aV vT aJ;have lm:Hid (IntKind.i64.wrap ((kids.length:Int) - 1)=(kids.length:Int) - 1):=by show _=_;rw[IntKind.wrap_i64];omega
      by_cases ag:kids.length=1
      ·have e1:((kids.length:Int)==1)=true:=by simp[ag]
       have yF:Hid (Ff kids.length j=[]):=by show _=_;simp[Ff,ag]
       have A:=AV (jO g (by rw[yF.out];simp[fU.out]));clear jO;clear ag lm
       go_wp2_with (first | (at_builtin;refine Eo rfl _ _ rfl (w.heap.size+1) w3.heap.size w3 M J (g++k) l a4 c4 B1 rfl ab uI O (CG _) ((A k l B.out).2 T.out).1 AQ ?_;intro a5 c5 w5 Q an;have lH:=AV Q;clear Q;have iL:=C.trans (q.trans ((O.mono AQ).trans an))) | (go_at_call 25;refine(HI w3 gQ (Below.refl _ _)).mono ?_;rintro e w4 ⟨a4,c4,l,rfl,u,S,O⟩;have T:=AV u;have uI:=AV S;clear u S) | (at_builtin;refine Eo rfl _ _ rfl (w.heap.size+1) wr.heap.size wr G D g k P R B1 rfl U oP z (CG _) (A k [] B.out).1 AQ ?_;intro M J w3 hr3 Z;have ab:Hid (Jz w3 (w.heap.size+1) (.slice M (g++k).length J) (g++k)):=yEf;clear hr3;have q:=((Below.refl (w.heap.size+1) wr)).trans ((z.mono AQ).trans Z);have aw:=CB X q.size;have gQ:=F.trans (q.mono AQ);have⟨yj,tq,su,aH,ry,aC,ru⟩:=mQ w3 q) | (go_at_call 54;refine(rZ wr (F.trans (((Below.refl (w.heap.size+1) wr)).mono AQ)) (Below.refl _ _)).mono ?_;rintro e w2 ⟨P,R,k,rfl,K,N,z⟩;have B:=AV K;have oP:=AV N;clear K N))
       exact⟨⟨j+1,a5,c5,(g++k)++l,AQ,by go_num,by rw[Value.slice.injEq];refine⟨rfl,?_,rfl⟩;simp only[CM];try omega,((A k l B.out).2 T.out).2,by rw[CM];exact lH.out,iL⟩,by simp[intOf];omega⟩
      have e1:((kids.length:Int)==1)=false:=by rw[CS];omega
      by_cases ao:j=0
      ·have e2:((j:Int)==0)=true:=by simp[ao]
       have yF:Hid (Ff kids.length j=[I9 7]):=by show _=_;simp[Ff,ag,ao]
       have A:=AV (jO (g++[mi0 7]) yDf);clear jO;clear ag ao lm
       go_wp2_with (first | (at_builtin;refine Eo rfl _ _ rfl (w.heap.size+1) w3.heap.size w3 M J ((g++[mi0 7])++k) l a4 c4 B1 rfl ab uI O (CG _) ((A k l B.out).2 T.out).1 AQ ?_;intro a5 c5 w5 Q an;have lH:=AV Q;clear Q;have iL:=C.trans (q.trans ((O.mono AQ).trans an))) | (go_at_call 25;refine(HI w3 gQ (Below.refl _ _)).mono ?_;rintro e w4 ⟨a4,c4,l,rfl,u,S,O⟩;have T:=AV u;have uI:=AV S;clear u S) | (at_builtin;refine Eo rfl _ _ rfl (w.heap.size+1) t.heap.size t af cf (g++[mi0 7]) k P R B1 rfl og oP z (CG _) (A k [] B.out).1 AQ ?_;intro M J w3 hr3 Z;have ab:Hid (Jz w3 (w.heap.size+1) (.slice M ((g++[mi0 7])++k).length J) ((g++[mi0 7])++k)):=yEf;clear hr3;have q:=(E).trans ((z.mono AQ).trans Z);have aw:=CB X q.size;have gQ:=F.trans (q.mono AQ);have⟨yj,tq,su,aH,ry,aC,ru⟩:=mQ w3 q) | (go_at_call 54;refine(rZ t (F.trans ((E).mono AQ)) (Below.refl _ _)).mono ?_;rintro e w2 ⟨P,R,k,rfl,K,N,z⟩;have B:=AV K;have oP:=AV N;clear K N) | (at_builtin;refine G7 (m:=mi0 7) rfl _ _ rfl (w.heap.size+1) G D g rfl rfl U (IV _ _ _ _) AQ AQ ?_;intro af cf t ah ay;have og:Hid (Jz t (w.heap.size+1) (.slice af (g++[mi0 7]).length cf) (g++[mi0 7])):=(by rw[CM];exact ah);clear ah;have E:=ay;have fO:=CB X E.size;have⟨aL,aO,aS,a6,aN,aR,aP⟩:=mQ t E))
       exact⟨⟨j+1,a5,c5,((g++[mi0 7])++k)++l,AQ,by go_num,by rw[Value.slice.injEq];refine⟨rfl,?_,rfl⟩;simp only[CM,CH,CO];try omega,((A k l B.out).2 T.out).2,by rw[CM];exact lH.out,iL⟩,by simp[intOf];omega⟩
      have e2:((j:Int)==0)=false:=by rw[CS];omega
      have ai:=lm.out;by_cases aB:j+1=kids.length
      ·have e3:((j:Int)==(kids.length:Int) - 1)=true:=by rw[EC];omega
       have yF:Hid (Ff kids.length j=[I9 9]):=by show _=_;simp[Ff,ag,ao,aB]
       have A:=AV (jO (g++[mi0 9]) yDf);clear jO;clear ag ao aB lm
       go_wp2_with (first | (at_builtin;refine Eo rfl _ _ rfl (w.heap.size+1) w3.heap.size w3 M J ((g++[mi0 9])++k) l a4 c4 B1 rfl ab uI O (CG _) ((A k l B.out).2 T.out).1 AQ ?_;intro a5 c5 w5 Q an;have lH:=AV Q;clear Q;have iL:=C.trans (q.trans ((O.mono AQ).trans an))) | (go_at_call 25;refine(HI w3 gQ (Below.refl _ _)).mono ?_;rintro e w4 ⟨a4,c4,l,rfl,u,S,O⟩;have T:=AV u;have uI:=AV S;clear u S) | (at_builtin;refine Eo rfl _ _ rfl (w.heap.size+1) t.heap.size t af cf (g++[mi0 9]) k P R B1 rfl og oP z (CG _) (A k [] B.out).1 AQ ?_;intro M J w3 hr3 Z;have ab:Hid (Jz w3 (w.heap.size+1) (.slice M ((g++[mi0 9])++k).length J) ((g++[mi0 9])++k)):=yEf;clear hr3;have q:=(E).trans ((z.mono AQ).trans Z);have aw:=CB X q.size;have gQ:=F.trans (q.mono AQ);have⟨yj,tq,su,aH,ry,aC,ru⟩:=mQ w3 q) | (go_at_call 54;refine(rZ t (F.trans ((E).mono AQ)) (Below.refl _ _)).mono ?_;rintro e w2 ⟨P,R,k,rfl,K,N,z⟩;have B:=AV K;have oP:=AV N;clear K N) | (at_builtin;refine G7 (m:=mi0 9) rfl _ _ rfl (w.heap.size+1) G D g rfl rfl U (IV _ _ _ _) AQ AQ ?_;intro af cf t ah ay;have og:Hid (Jz t (w.heap.size+1) (.slice af (g++[mi0 9]).length cf) (g++[mi0 9])):=(by rw[CM];exact ah);clear ah;have E:=ay;have fO:=CB X E.size;have⟨aL,aO,aS,a6,aN,aR,aP⟩:=mQ t E))
       exact⟨⟨j+1,a5,c5,((g++[mi0 9])++k)++l,AQ,by go_num,by rw[Value.slice.injEq];refine⟨rfl,?_,rfl⟩;simp only[CM,CH,CO];try omega,((A k l B.out).2 T.out).2,by rw[CM];exact lH.out,iL⟩,by simp[intOf];omega⟩
      have e3:((j:Int)==(kids.length:Int) - 1)=false:=by rw[CS];omega
      have yF:Hid (Ff kids.length j=[I9 8]):=by show _=_;simp[Ff,ag,ao,aB]
      have A:=AV (jO (g++[mi0 8]) yDf);clear jO;clear ag ao aB lm
      go_wp2_with (first | (at_builtin;refine Eo rfl _ _ rfl (w.heap.size+1) w3.heap.size w3 M J ((g++[mi0 8])++k) l a4 c4 B1 rfl ab uI O (CG _) ((A k l B.out).2 T.out).1 AQ ?_;intro a5 c5 w5 Q an;have lH:=AV Q;clear Q;have iL:=C.trans (q.trans ((O.mono AQ).trans an))) | (go_at_call 25;refine(HI w3 gQ (Below.refl _ _)).mono ?_;rintro e w4 ⟨a4,c4,l,rfl,u,S,O⟩;have T:=AV u;have uI:=AV S;clear u S) | (at_builtin;refine Eo rfl _ _ rfl (w.heap.size+1) t.heap.size t af cf (g++[mi0 8]) k P R B1 rfl og oP z (CG _) (A k [] B.out).1 AQ ?_;intro M J w3 hr3 Z;have ab:Hid (Jz w3 (w.heap.size+1) (.slice M ((g++[mi0 8])++k).length J) ((g++[mi0 8])++k)):=yEf;clear hr3;have q:=(E).trans ((z.mono AQ).trans Z);have aw:=CB X q.size;have gQ:=F.trans (q.mono AQ);have⟨yj,tq,su,aH,ry,aC,ru⟩:=mQ w3 q) | (go_at_call 54;refine(rZ t (F.trans ((E).mono AQ)) (Below.refl _ _)).mono ?_;rintro e w2 ⟨P,R,k,rfl,K,N,z⟩;have B:=AV K;have oP:=AV N;clear K N) | (at_builtin;refine G7 (m:=mi0 8) rfl _ _ rfl (w.heap.size+1) G D g rfl rfl U (IV _ _ _ _) AQ AQ ?_;intro af cf t ah ay;have og:Hid (Jz t (w.heap.size+1) (.slice af (g++[mi0 8]).length cf) (g++[mi0 8])):=(by rw[CM];exact ah);clear ah;have E:=ay;have fO:=CB X E.size;have⟨aL,aO,aS,a6,aN,aR,aP⟩:=mQ t E))
      exact⟨⟨j+1,a5,c5,((g++[mi0 8])++k)++l,AQ,by go_num,by rw[Value.slice.injEq];refine⟨rfl,?_,rfl⟩;simp only[CM,CH,CO];try omega,((A k l B.out).2 T.out).2,by rw[CM];exact lH.out,iL⟩,by simp[intOf];omega⟩
     ·obtain rfl:j=kids.length:=by omega
      have ak:=fU.out;rw[EA AU] at ak;have pq:=AV ak;clear ak
      go_wp2
      go_ret;exact⟨G,D,g,rfl,pq.out,U.le AQ,F⟩
theorem WR (l:List Stil.B8)(s:Value)(w:World)(t:Fe w s l)(hl:l.length<=1048576)(ar:Bz l<=1000000000)(F:∀x∈l,Dh x):
  Calls prog 9 #[s] w λe w'=>∃(a:Option Addr) (c:Nat) (q:List MI),e=.returned (AE a q.length c)/\q.map MI.inst=Hy l/\Jz w' w.heap.size (AE a q.length c) q/\AO w w':=by
 have zF:Hid (∀W,AO w W->Calls prog 23 #[s] W λe w'=>QZ w' W.heap.size (Aq l) e/\AO W w'):=λW h=>OE l s W (t.below h) hl ar F
 have⟨kN,nP,qH⟩:=Kt F;have G:Hid (∀x∈Aq l,KC 24 x.net (Dc x.net)/\SY 25 x (Dl x)):=by
  intro x r;by_cases h0:(Aw l).1=0
  ·have X:=(Tm F h0).1 x r
   have ah:=kN x r;have hs:=X.size;refine⟨?_,s_tail x X.fineA ah hs⟩;have Q:=X.net;obtain⟨N,xc,xk⟩:=x;rw[Ce] at hs;refine Ss N (RD N Q.2.2) ((F7 _ _ _).1 ah).1 ?_;have:=Stil.size_le N
   omega
  ·rw[show Aq l=[] by unfold Aq;rw[if_neg h0]] at r
   cases r
 have K:Hid (∀(j:Nat) (q:List MI),q.map MI.inst=(((Aq l).map Ez).take j).flatten->q.length<=800):=by
  intro j q h;rw[<-CW (f:=MI.inst),h];have Q:=P7 F;unfold Hy at Q;have h2:(((Aq l).map Ez).take j).flatten.length<=((Aq l).map Ez).flatten.length:=by
   conv=>rhs;rw[<-IG j ((Aq l).map Ez),E6,CM]
   omega
  omega
 have lg:Hid (Hy l=((Aq l).map Ez).flatten):=rfl;rw[lg.out];have⟨L,hL⟩:=AA (Aq l)
 rw[<-hL] at zF G K qH ⊢;obtain⟨p0,r0,rfl,_⟩:=t;clear hL lg kN nP F;go_enter func9,ntmps9
 go_wp2_with (go_at_call 23;refine(zF _ AW).mono ?_;rintro e g ⟨⟨a1,c1,ns,rfl,O,ak⟩,aA⟩;have Y:Hid (Uo g (AE a1 ns.length c1) L):=(by have:=(AOk.T _ (Vp ak).1).2.2.2;have hk:(Q6 (AE a1 ns.length c1) ns).arm.kids=L:=(by rw[Bq.arm_eq];exact O);rw[hk] at this;exact this);have ai:ns.length=L.length:=(by rw[<-O,CW]);clear ak O)
 rw[ai] at Y;clear ai;have R:AO w g:=aA;go_loopw [4,5] (λd i wr=>∃(j:Nat) (A:Option Addr) (u:Nat) (k:List MI),j<=L.length/\i=AB (j:Int)/\d=AE A k.length u/\k.map MI.inst=((L.map Ez).take j).flatten/\Jz wr g.heap.size (AE A k.length u) k/\AO g wr) (λ_ i _=>L.length - (intOf i).toNat)
 case atStart=>
  refine⟨0,some (AL g 0),0,[],AQ,rfl,rfl,AU,⟨?_,λx r=>by cases r⟩,Aa g _⟩;exact World.ownsRow_lit g #[] 0 (CG _) A6 rfl
 case round=>
  obtain⟨j,A,u,k,hj,rfl,rfl,S,af,E⟩:=hrel;have fU:Hid (k.map MI.inst=((L.map Ez).take j).flatten):=S;have jM:Hid (Jz wr g.heap.size (AE A k.length u) k):=af;have aH:k.length<=800:=K j k S;clear S af;have jB:g.heap.size<=wr.heap.size:=E.size;by_cases hlt:j<L.length
  ·have⟨pa,pc,al,_,aj⟩:=Y.shape
   simp only[Value.slice.injEq,true_and] at al;obtain⟨rfl,rfl⟩:=al;have⟨b,o,iT,ao,hn⟩:=aj j hlt;subst iT;have⟨ag,cv,s,x4,x5,M,t⟩:=hn.open;have⟨Z,x1,I,H,x2,x3,D,C⟩:=ag.open;have HI:Hid (∀V,AO g V->Calls prog 25 #[.agg #[AB L[j].net.kind,AB L[j].net.one.op,I,H,cv,s]] V λe w'=>∃(a:Option Addr) (c:Nat) (q:List MI),e=.returned (AE a q.length c)/\q.map MI.inst=Dl L[j]/\Jz w' V.heap.size (AE a q.length c) q/\AO V w'):=λV h=>(G L[j] (CN hlt)).2 I H cv s V (D.below h) (C.below h) (M.below h) (t.below h)
   have rZ:Hid (∀V,AO g V->Calls prog 24 #[.agg #[AB L[j].net.kind,AB L[j].net.one.op,I,H]] V λe w'=>∃(a:Option Addr) (c:Nat) (q:List MI),e=.returned (AE a q.length c)/\q.map MI.inst=Dc L[j].net/\Jz w' V.heap.size (AE a q.length c) q/\AO V w'):=λV h=>(G L[j] (CN hlt)).1 I H V (D.below h) (C.below h)
   have aX:((L.map Ez).take (j+1)).flatten=((L.map Ez).take j).flatten++(Dc L[j].net++(Dl L[j]++[I9 11])):=by
    rw[D2 BZ,E6];simp[Ez]
   have eP:Hid (∀kb kt:List MI,kb.map MI.inst=Dc L[j].net->kt.map MI.inst=Dl L[j]->(k.length+kb.length+kt.length+1<=800)/\(((k++kb)++kt)++[mi0 11]).map MI.inst=((L.map Ez).take (j+1)).flatten):=by
    intro kb kt z J;have e0:(((k++kb)++kt)++[mi0 11]).map MI.inst=((L.map Ez).take (j+1)).flatten:=by
     rw[CU,CU,CU,fU.out,z,J,aX];simp only[EV];rfl
    have:=K _ _ e0
    simp only[CM,CH,CO] at this;exact⟨AQ,e0⟩
   clear aX;have ae:Hid (∀kb:List MI,kb.map MI.inst=Dc L[j].net->k.length+kb.length<=800):=by
    intro kb z;obtain⟨U,wJ⟩:∃U:List MI,U.map MI.inst=Dl L[j]:=⟨(Dl L[j]).map λi=>⟨i.code,⟨i.one.op,i.one.args,AG⟩⟩,by rw[FI];exact(JL λi _=>rfl).trans (List.map_id _)⟩
    have:=(eP kb U z wJ).1
    omega
   have⟨x,r⟩:=AA (L[j])
   rw[<-r] at HI rZ eP ae Z x1 D C M t;obtain⟨q0,s0,rfl,_⟩:=D.shape;obtain⟨q1,s1,rfl,_,_⟩:=C.shape;obtain⟨q2,s2,rfl,_⟩:=M.shape;obtain⟨q3,s3,rfl,_,_⟩:=t.shape;have mQ:Hid (∀V,AO g V->V.cell? (AK b (o+j*6))=some (AB x.net.kind)/\V.cell? (AK b (o+j*6+1))=some (AB x.net.one.op)/\V.cell? (AK b (o+j*6+2))=some (AE q0 x.net.one.args.length s0)/\V.cell? (AK b (o+j*6+3))=some (AE q1 x.net.kids.length s1)/\V.cell? (AK b (o+j*6+4))=some (AE q2 x.coils.length s2)/\V.cell? (AK b (o+j*6+5))=some (AE q3 x.kids.length s3)):=λV hV=>by
    have y:V.heap[b]?=g.heap[b]?:=hV.block b ao;exact⟨(World.cell?_of_block (a:=(AK b _)) y).trans Z,(World.cell?_of_block (a:=(AK b _)) y).trans x1,(World.cell?_of_block (a:=(AK b _)) y).trans x2,(World.cell?_of_block (a:=(AK b _)) y).trans x3,(World.cell?_of_block (a:=(AK b _)) y).trans x4,(World.cell?_of_block (a:=(AK b _)) y).trans x5⟩
   have⟨aB,aJ,aG,aE,aK,aD⟩:=mQ wr E;have aF:(j:Int)<(L.length:Int):=AQ
   clear r hn ag aj D C M t Z x1 x2 x3 x4 x5 K G Y zF ao
   go_wp2_with (first | (at_builtin;refine G7 (m:=mi0 11) rfl _ _ rfl g.heap.size a5 c5 ((k++kb)++kt) (by first | rfl | (simp[Act.eval,Nat.add_assoc];done) | (simp[Act.eval];omega)) (by first | rfl | (simp[Act.eval];done)) lH (IV _ _ _ _) yGg iL.size ?_;intro a6 c6 w6 kE ay;have az:Hid (Jz w6 g.heap.size (AE a6 (((k++kb)++kt).length+1) c6) (((k++kb)++kt)++[mi0 11])):=kE;clear kE;have ap:AO g w6:=iL.trans ay) | (at_builtin;refine Eo rfl _ _ rfl g.heap.size w3.heap.size w3 a3 c3 (k++kb) kt a4 c4 (by first | rfl | (simp[Act.eval];done)) rfl ax uI ac (CG _) yGg B.size ?_;intro a5 c5 w5 lD aw;have lH:Hid (Jz w5 g.heap.size (.slice a5 ((k++kb)++kt).length c5) ((k++kb)++kt)):=(by rw[CM];exact lD);clear lD;have iL:AO g w5:=B.trans ((ac.mono B.size).trans aw)) | (go_at_call 25;refine(HI w3 B).mono ?_;rintro e w4 ⟨a4,c4,kt,rfl,J,an,ac⟩;have nD:Hid (kt.map MI.inst=Dl x):=J;have uI:Hid (Jz w4 w3.heap.size (AE a4 kt.length c4) kt):=an;clear J an) | (at_builtin;refine Eo rfl _ _ rfl g.heap.size wr.heap.size wr A u k kb a2 c2 rfl rfl jM oP ab (CG _) (by have:=ae kb HKB.out;omega) jB ?_;intro a3 c3 w3 hr3 au;have ax:Hid (Jz w3 g.heap.size (.slice a3 (k++kb).length c3) (k++kb)):=yEf;clear hr3;have B:AO g w3:=E.trans ((ab.mono jB).trans au);have⟨tq,su,aI,ry,aC,ru⟩:=mQ w3 B) | (go_at_call 24;refine(rZ wr E).mono ?_;rintro e w2 ⟨a2,c2,kb,rfl,z,aa,ab⟩;have HKB:Hid (kb.map MI.inst=Dc x.net):=z;have oP:Hid (Jz w2 wr.heap.size (AE a2 kb.length c2) kb):=aa;clear z aa))
   exact⟨⟨j+1,a6,c6,((k++kb)++kt)++[mi0 11],AQ,by go_num,by rw[Value.slice.injEq];refine⟨rfl,?_,rfl⟩;simp only[CM,CH,CO];try omega,(eP kb kt HKB nD.out).2,by rw[CM];exact az.out,ap⟩,by simp[intOf];omega⟩
  ·obtain rfl:j=L.length:=by omega
   have P:=fU.out;rw[EA AU] at P;have pq:Hid (k.map MI.inst=(L.map Ez).flatten):=P;clear P
   go_wp2
   go_ret;exact⟨A,u,k,rfl,pq.out,jM.le R.size,R.trans (E.mono R.size)⟩
theorem Jz.nil (w:World)(base:Nat):Jz w base AG []:=⟨World.ownsRow_nil _ _ _ _,λx a=>by cases a⟩
theorem Axw (l:List Stil.B8)(f:Value)(w:World)(g:Fe w f l)(hl:l.length<=1048576)(i:Bz l<=1000000000)(j:∀x∈l,Dh x):
  Calls prog 7 #[f] w λe w'=>∃(a:Option Addr) (c:Nat) (d:List MI),e=.returned (.tuple #[AE a d.length c,AB (Hu l).2])/\d.map MI.inst=(Hu l).1/\Jz w' w.heap.size (AE a d.length c) d/\AO w w':=by
 have o:=AV (λW h=>NR l f W (g.below h) hl i j);have k:=AV (λW h=>Axx l f W (g.below h) hl i j);have m:=AV (λW h=>wh l f W (g.below h) hl i j);have q:=AV (λW h=>WR l f W (g.below h) hl i j);have A:Hu l=if 0<(Aw l).1 then([],1) else if 16<Jm l\/8<Hz l then([],2) else(Hy l,0):=rfl
 obtain⟨J,M,rfl,_⟩:=g;rw[A];clear A j i;generalize (Aw l).1=c at*;generalize (Aw l).2=r at*;generalize Jm l=x at*;generalize Hz l=y at*;generalize Hy l=L at*;have Q:=OL;by_cases u:0<c
 ·rw[if_pos u]
  clear k m q;go_enter func7,ntmps7
  go_wp2_with (go_at_call 13;refine(o _ AW).mono ?_;rintro e s ⟨rfl,t⟩)
  refine bodyPost_ret (v:=.tuple #[AG,AB 1]) (by simp[results,results7,go_sem]) rfl ⟨none,0,[],rfl,rfl,Jz.nil _ _,AW⟩
 rw[if_neg u];by_cases O:(16:Int)<x
 ·rw[if_pos (.inl AQ)]
  clear m q;go_enter func7,ntmps7
  go_wp2_with (first | (go_at_call 13;refine(o _ AW).mono ?_;rintro e s ⟨rfl,t⟩) | (go_at_call 21;refine(k _ AW).mono ?_;rintro e D ⟨rfl,E⟩))
  refine bodyPost_ret (v:=.tuple #[AG,AB 2]) (by simp[results,results7,go_sem]) rfl ⟨none,0,[],rfl,rfl,Jz.nil _ _,AW⟩
 by_cases P:(8:Int)<y
 ·rw[if_pos (.inr AQ)]
  clear q;go_enter func7,ntmps7
  go_wp2_with (first | (go_at_call 13;refine(o _ AW).mono ?_;rintro e s ⟨rfl,t⟩) | (go_at_call 21;refine(k _ AW).mono ?_;rintro e D ⟨rfl,E⟩) | (go_at_call 22;refine(m _ AW).mono ?_;rintro e w3 ⟨rfl,G⟩))
  refine bodyPost_ret (v:=.tuple #[AG,AB 2]) (by simp[results,results7,go_sem]) rfl ⟨none,0,[],rfl,rfl,Jz.nil _ _,AW⟩
 rw[if_neg AQ];go_enter func7,ntmps7
 go_wp2_with (first | (go_at_call 13;refine(o _ AW).mono ?_;rintro e s ⟨rfl,t⟩) | (go_at_call 21;refine(k _ AW).mono ?_;rintro e D ⟨rfl,E⟩) | (go_at_call 22;refine(m _ AW).mono ?_;rintro e w3 ⟨rfl,G⟩) | (go_at_call 9;refine(q _ AW).mono ?_;rintro e K ⟨B,z,d,rfl,C,F,N⟩;have H:=AV (F.le (by have:AO w w3:=AW;exact this.size));have I:=AV C;clear F C))
 refine bodyPost_ret (v:=.tuple #[AE B d.length z,AB 0]) (by simp[results,results7,go_sem]) rfl ⟨B,z,d,rfl,I.out,H.out,AW⟩
end Go.Proofs.YtifcnfeppdbjdaaGreatDoor
namespace Stil
theorem Vu {k:Int}(h:i64 k):(I9 k).fits:=⟨h,by unfold i64;simp[I9],by simp[I9],λd hd=>by cases hd⟩
theorem YK {k:Int}{n:B9}(d:k=2\/k=3)(c:Dw n)(h:∀x∈Dc n,x.fits):∀x∈Df k n,x.fits:=by
 intro x a;unfold Df RB at a;split at a
 ·rw[List.mem_singleton.1 a];exact⟨by unfold i64;simp only;omega,(Dz c).2.1⟩
 ·rcases List.mem_append.1 a with a | a
  ·exact h x a
  ·rw[List.mem_singleton.1 a];exact Vu yDh
theorem TJ (n:B9):Ai n=0->Dw n->∀x∈Dc n,x.fits:=by
 refine Gf (λn=>Ai n=0->Dw n->∀x∈Dc n,x.fits) ?_ n;intro k e kids g i j x a;have c:=(Lc _ _ _).1 j;have f:=Pj i;simp only at f;rcases H6 i with⟨rfl,rfl⟩ | ⟨s,m,_⟩ | ⟨rfl,_,y,rfl,_⟩
 ·rw[Qb] at a
  rw[List.mem_singleton.1 a];exact⟨by unfold i64;simp only;omega,c.2.1⟩
 ·cases kids with
  | nil=>simp at m
  | cons y r=>
   rw[O0 e y r AQ AQ] at a;rcases List.mem_append.1 a with a | a
   ·exact g y AU (f y AU) (c.2.2.2 y AU) x a
   ·have⟨l,o,q⟩:=List.mem_flatten.1 a
    obtain⟨z,d,rfl⟩:=List.mem_map.1 o;exact YK AQ (c.2.2.2 z (by simp[d])) (g z (by simp[d]) (f z (by simp[d])) (c.2.2.2 z (by simp[d]))) x q
 ·rw[Qc] at a
  rcases List.mem_append.1 a with a | a
  ·exact g y AU (f y AU) (c.2.2.2 y AU) x a
  ·rw[List.mem_singleton.1 a];exact Vu yDh
theorem pB {n:B9}(h:Iq n)(d:Dw n):∀x∈Dy n,x.fits:=by
 intro x i;have⟨l,f,g⟩:=List.mem_flatten.1 i;obtain⟨y,a,rfl⟩:=List.mem_map.1 f;have c:Ai y=0/\Dw y:=by
  unfold Ci at a;split at a
  ·cases a
  ·rename_i j
   have e:=h.resolve_left j;split at a
   ·exact⟨Pj e.2.2 y a,(Dz d).2.2.2 y a⟩
   ·rw[List.mem_singleton.1 a];exact⟨e.2.2,d⟩
 exact YK (.inl rfl) c.2 (TJ y c.1 c.2) x g
theorem pR (a:B8):E8 a->Dh a->∀x∈Dl a,x.fits:=by
 refine Gl (λa=>E8 a->Dh a->∀x∈Dl a,x.fits) ?_ a;intro n A kids o r u x e;have⟨_,j⟩:=(En _ _ _).1 r;have⟨_,_,s,_,g⟩:=(F7 _ _ _).1 u;rw[Wj] at e;rcases List.mem_append.1 e with e | e
 ·obtain⟨c,t,rfl⟩:=List.mem_map.1 e
  exact⟨by unfold i64;simp only;omega,s c t⟩
 ·have⟨l,q,d⟩:=List.mem_flatten.1 e
  obtain⟨i,hi,rfl⟩:=List.mem_iff_getElem.1 q;simp only[List.length_mapIdx] at hi;simp only[List.getElem_mapIdx,Jn,JE,E7] at d;have f:=CN hi;rcases d with d | d | d
  ·unfold Ff at d
   split at d
   ·cases d
   ·split at d
    ·rw[List.mem_singleton.1 d];exact Vu yDh
    ·split at d<;>(rw[List.mem_singleton.1 d];exact Vu yDh)
  ·have m:=j _ f
   have k:=g _ f;generalize kids[i]=y at*;obtain⟨B,z,C⟩:=y;exact pB ((En _ _ _).1 m).1 ((F7 _ _ _).1 k).1 x d
  ·exact o _ f (j _ f) (g _ f) x d
theorem WZ {l:List B8}(e:∀x∈l,Dh x):∀x∈Hy l,x.fits:=by
 intro x j;have⟨r,m,f⟩:=List.mem_flatten.1 j;obtain⟨a,c,rfl⟩:=List.mem_map.1 m;by_cases i:(Aw l).1=0
 ·have d:=(Tm e i).1 a c
  have g:=(Kt e).1 a c;have k:=d.net;have n:=d.fineA;clear d;unfold Ez at f;rcases List.mem_append.1 f with h | h
  ·exact TJ _ k.2.2 (Il g).1 x h
  ·rcases List.mem_append.1 h with h | h
   ·exact pR a n g x h
   ·rw[List.mem_singleton.1 h];exact Vu yDh
 ·rw[show Aq l=[] by unfold Aq;rw[if_neg i]] at c
  cases c
end Stil
namespace Go.Proofs.YtifcnfeppdbjdaaGreatDoor
open Tryz Go.RowKit Go.Sort Go.BigFrame Go.Co
def IPk (base:Nat)(w:World)(L:List Stil.Io)(v:Value)(b:Nat)(qs:List (List Pl)):Prop:=
 R2 w v b 0 qs/\JX w (Pq b 0 qs)/\(Pq b 0 qs).Nodup/\(∀p∈Pq b 0 qs,base<=p.1)/\(0<qs.length->base<=b)/\PR base w v L/\(Pq b 0 qs).length<=4611686018427387000
theorem eL (b:Nat):∀(o:Nat) (qs:List (List Pl)) (N:Nat),(∀q∈qs,q.length<=N)->(Pq b o qs).length<=qs.length*(N+2)
 | _,[],_,_=>by simp[Pq]
 | o,q::r,N,h=>by
  have c:=eL b (o+3) r N λx hx=>h x BS
  have a:=h q AU;rw[Pq];simp only[CH,CM,Nat.add_mul,Nat.one_mul];omega
theorem ES.pk {w:World}{base:Nat}{v:Value}{c:List MI}(h:ES w base v c)(W:∀x∈c,x.e.ds.length<=1048576)(hl:c.length<=1048576):∃b qs,IPk base w (c.map MI.inst) v b qs:=by
 obtain⟨al,K,z,B,s,U⟩:=h;by_cases R:c.length=0
 ·obtain rfl:=List.length_eq_zero_iff.1 R
  obtain⟨a,cap,rfl⟩:=Ah z;refine⟨0,[],⟨⟨a,cap,rfl,λh=>BE⟩,λi hi=>(by cases hi)⟩,λp j=>(by cases j),M4,λp j=>(by cases j),λh=>BE,⟨a,cap,rfl,λi hi=>(by cases hi)⟩,by simp[Pq]⟩
 have⟨g,cap,N,F,T,ae,A⟩:=Cb z AQ;have Q:=λx d=>uv (B x d)
 obtain⟨f,n⟩:∃f:MI->List Pl,∀x∈c,KW x.e.av (f x)/\JX w (f x)/\(f x).Nodup/\(∀p∈f x,base<=p.1/\x.e.av.ownBlock=some p.1)/\(f x).length=3*x.e.ds.length:=by
  classical
  refine⟨λx=>if h:∃u:List Pl,KW x.e.av u/\JX w u/\u.Nodup/\(∀p∈u,base<=p.1/\x.e.av.ownBlock=some p.1)/\u.length=3*x.e.ds.length then h.choose else [],λx d=>?_⟩;have h:=Q x d;simp only[h,dite_true];exact h.choose_spec
 have O:∀i (h:i<c.length),w.cell? (AK g (i*3))=some (AB c[i].code)/\w.cell? (AK g (i*3+1))=some (AB c[i].e.op)/\w.cell? (AK g (i*3+2))=some c[i].e.av:=by
  intro i hi;have ag:∀(l:List MI) (i:Nat) (h:i<l.length),(Gh l)[i*3]?=some (AB l[i].code)/\(Gh l)[i*3+1]?=some (AB l[i].e.op)/\(Gh l)[i*3+2]?=some l[i].e.av:=by
   intro l;induction l with
   | nil=>intro i h;cases h
   | cons m r G=>
    intro i h;have e:Gh (m::r)=AB m.code::AB m.e.op::m.e.av::Gh r:=rfl;cases i with
    | zero=>exact⟨rfl,rfl,rfl⟩
    | succ i=>
     have⟨M,J,P⟩:=G i BR;have e1:(i+1)*3=i*3+1+1+1:=AQ
     rw[e,e1];exact⟨M,J,P⟩
  have⟨M,J,P⟩:=ag c i hi;exact⟨A _ _ M,A _ _ J,A _ _ P⟩
 have Y:∀x∈c,∀p∈f x,p.1≠g:=λx d p j e=>by
  have⟨_,_,_,I,_⟩:=n x d;have h5:=U p.1 (List.mem_filterMap.2 ⟨x.e.av,FX (f:=λy:MI=>y.e.av) d,(I p j).2⟩);omega
 have ac:=vW (w:=w) (b:=g) (cap:=cap) (l:=c.map MI.inst) (qs:=c.map f) T AU (λi hi=>by
   simp only[CW] at hi;have⟨E,C,D⟩:=O i hi;have⟨h1,_⟩:=n c[i] (CN hi);simp only[EI];exact⟨E,C,_,D,h1,Dk.of_owns (B _ (CN hi))⟩) (λo=>by
   have X:=z;rw[N] at X;exact X.frozenAt o) (λq t=>by
   obtain⟨x,d,rfl⟩:=List.mem_map.1 t;have⟨_,V,h3,_⟩:=n x d;exact⟨V,h3,Y x d⟩) (by
   rw[List.pairwise_map];have j:c.Pairwise λx y=>∀k,x.e.av.ownBlock=some k->y.e.av.ownBlock≠some k:=by
    clear O Y n Q A z B W hl R U N ae;induction c with
    | nil=>exact List.Pairwise.nil
    | cons m r G=>
     rw[CP] at s;unfold bl at s;rw[List.filterMap_cons] at s;refine List.pairwise_cons.2 ⟨λy H k hk af=>?_,?_⟩
     ·rw[hk] at s
      exact(List.nodup_cons.1 s).1 (List.mem_filterMap.2 ⟨y.e.av,FX (f:=λai:MI=>ai.e.av) H,af⟩)
     ·refine G ?_
      unfold bl
      revert s
      cases m.e.av.ownBlock with
      | none=>exact id
      | some k=>exact λh=>(List.nodup_cons.1 h).2
   refine j.imp_of_mem fun {x y} d H ak p ab aa=>?_
   have⟨_,_,_,I,_⟩:=n x d;have⟨_,_,_,ah,_⟩:=n y H
   exact ak p.1 (I p ab).2 (ah p aa).2)
 obtain⟨S,Z,s3,_⟩:=ac;rw[CW] at S;rw[N];refine⟨g,c.map f,S,Z,s3,λp j=>?_,λ_=>by omega,?_,?_⟩
 ·rcases Vt g _ 0 p j with⟨i,_,e | e⟩ | ⟨q,t,aj⟩
  ·rw[e];exact CJ K F
  ·rw[e];exact CJ K F
  ·obtain⟨x,d,rfl⟩:=List.mem_map.1 t
   exact((n x d).2.2.2.1 p aj).1
 ·refine⟨some (AK g 0),cap,by rw[CW],λi hi=>?_⟩
  simp only[CW] at hi;have⟨E,C,D⟩:=O i hi;simp only[EI];refine⟨g,0,rfl,CJ K F,T,?_⟩;rw[CV];exact⟨E,C,_,D,Ny.of_owns (B _ (CN hi))⟩
 ·have:=eL g 0 (c.map f) 3145728 λq t=>by
   obtain⟨x,d,rfl⟩:=List.mem_map.1 t;have:=(n x d).2.2.2.2
   have:=W x d
   omega
  rw[CW] at this;have V:c.length*(3145728+2)<=1048576*(3145728+2):=FD _ hl;omega
section
variable {base : Nat}{w w' : World}{L : List Stil.Io}{v : Value}{b : Nat}{qs : List (List Pl)}
end
end Go.Proofs.YtifcnfeppdbjdaaGreatDoor
set_option maxHeartbeats 4000000
set_option maxRecDepth 100000
namespace Go.Proofs.YtifcnfeppdbjdaaGreatDoor
open Tryz Stil Go.RowKit Go.Sort Go.BigFrame
theorem Lp.tail {w:World}{b o c:Nat}{x:Stil.B9}{r:List Stil.B9}(h:Lp w (AE (some (AK b o)) (r.length+1) c) (x::r)):Lp w (AE (some (AK b (o+4))) r.length (c - 1)) r:=by
 obtain⟨s,u,e,m,j⟩:=h;simp only[CH,Value.slice.injEq,true_and] at e;obtain⟨rfl,rfl⟩:=e;have l:=m.1;rw[CH] at l;refine⟨_,c - 1,rfl,⟨AQ,λh=>by cases h⟩,λi hi=>?_⟩;have⟨t,y,f,n,g,d⟩:=j (i+1) (by simp only[CH];omega);simp only[CZ,Addr.mk.injEq,E0] at f;obtain⟨rfl,rfl⟩:=f;refine⟨b,o+4,rfl,n,g,?_⟩;rw[J1] at d;have q:o+(i+1)*4=o+4+i*4:=AQ
 rw[<-q];exact d
theorem WC (x:Stil.B9)(E:Af x<=1000000)(r:FM 58 x (Bf x)):FM 91 x (Di x):=by
 intro q p w l f;have d:Hid (∀W,AO w W->Calls prog 58 #[.agg #[AB x.kind,AB x.one.op,q,p]] W (AN W (AB (Bf x)))):=λW h=>r q p W (l.below h) (f.below h)
 have A:=TS x;have c:Hid (Di x=if x.kind=1 then 1 else 1+Bf x):=rfl;have⟨m,u⟩:=AA (Bf x)
 have⟨T,s⟩:=AA (Di x)
 rw[<-u] at d A c;rw[<-s] at c ⊢;have⟨k,t⟩:=AA x.kind
 rw[<-t] at d c ⊢;obtain⟨C,D,rfl,y⟩:=l.shape;obtain⟨B,G,rfl,z,_⟩:=f.shape;clear r y z u s t l f;by_cases j:k=1
 ·subst j
  have g:Hid (T=1):=by show _=_;rw[c.out];rfl
  clear c;go_enter func91,ntmps91
  go_wp2
  go_ret;exact⟨F5 (by rw[g.out];rfl),AW⟩
 ·have g:Hid (T=1+m):=by show _=_;rw[c.out,if_neg j]
  have I:(k==1)=false:=by rw[CS];exact j
  clear c;go_enter func91,ntmps91
  go_wp2_with (go_at_call 58;refine(d _ AW).mono ?_;rintro e H ⟨rfl,J⟩)
  go_ret;exact⟨F5 (by rw[g.out];go_num),AW⟩
theorem VH (n:Stil.B9):Ve n->Af n<=1000000->FM 58 n (Bf n):=by
 induction n using Gf with
 | h k e kids q=>
  intro G l av nv w u f;simp only at u f;have⟨D,t⟩:=(Zf _ _ _).1 G;rw[Eg] at l;simp only at l;have g:∀x∈kids,Af x<=1000000:=λx hx=>by have:Af x<=Stil.sizes kids:=D9 Af kids x hx;omega
  have C:kids.length<=999999:=by have:=Js kids;omega
  obtain⟨p0,r0,rfl,Q⟩:=u.shape;by_cases s:k=1
  ·subst s
   rw[Yr];obtain⟨p1,c,rfl,ah,_⟩:=f.shape;clear Q ah q g C G D t l u f;go_enter func58,ntmps58
   go_wp2
   go_ret;exact⟨rfl,AW⟩
  ·obtain⟨x,r,rfl⟩:=MW (D s)
   rw[Qj e x r s];have L:=f;obtain⟨p1,c,rfl,K,U⟩:=f.shape;obtain⟨b,o,rfl,B,H⟩:=U 0 AU;simp only[EP,FG,EO] at H;have ac:r.length+1<=c:=by have:=K.1;simp only[CH] at this;exact this
   have S:Lp w (AE (if c=1 then some (AK b o) else some (AK b (o+4))) r.length (c - 1)) r:=by
    by_cases h2:c=1
    ·rw[if_pos h2]
     have aa:r=[]:=List.length_eq_zero_iff.1 AQ;subst aa;exact⟨_,_,rfl,⟨DI _,λh=>by cases h⟩,λi hi=>by simp at hi⟩
    ·rw[if_neg h2]
     exact Lp.tail (by simpa only[CH] using L)
   have V:∀args w,(callFunc 91 args).run prog w=.ok (.enter 91 args) w:=enters_of func91 AX rfl;have N:r.length<=999999:=by simp only[CH] at C;omega
   have A:Hid (∀W,AO w W->Calls prog 90 #[AE (if c=1 then some (AK b o) else some (AK b (o+4))) r.length (c - 1),AB (Bf x), .func (.func 91) #[] #[]] W (AN W (AB (Bo (Bf x) (r.map Di))))):=by
    intro W h;refine eN r Di 91 V (λy hy=>?_) _ _ W (S.below h) N;have z:y∈x::r:=CQ _ hy;exact WC y (g y z) (q y z (t y z) (g y z))
   have⟨Y,x1,M,T,x2,x3,E,I⟩:=H.open;have HZ:Hid (∀W,AO w W->Calls prog 58 #[.agg #[AB x.kind,AB x.one.op,M,T]] W (AN W (AB (Bf x)))):=λW h=>q x AU (t x AU) (g x AU) M T W (E.below h) (I.below h)
   have⟨J,X⟩:=AA (Bf x)
   rw[<-X] at A HZ ⊢;have⟨R,Z⟩:=AA (Bo J (r.map Di))
   rw[<-Z] at A ⊢;simp only[CH];have⟨m,O⟩:=AA r.length
   have ai:m+1<=c:=by have:=K.1;simp only[CH] at this;omega
   rw[<-O] at A N ⊢;obtain⟨q0,s0,rfl,af⟩:=E.shape;obtain⟨q1,s1,rfl,ag,_⟩:=I.shape;have an:(k==1)=false:=by rw[CS];exact s
   clear Q af ag S L U H V X Z q g C O K u f E I G D t l ac;go_enter func58,ntmps58
   go_wp2
   have⟨W,j⟩:=AA (w.alloc (.cells #[AB k,AB e.op,AE p0 e.args.length r0,AE (some (AK b o)) (m+1) c] 59))
   rw[<-j];have d:AO w W:=by rw[j];exact Aa _ _
   have y3:W.cell? (AL w 3)=some (AE (some (AK b o)) (m+1) c):=by rw[j];simp[go_sem]
   have k0:=cell_regrown ((d.cell (p:=(AK b o)) B).trans Y);have k1:=cell_regrown ((d.cell (p:=(AK b (o+1))) B).trans x1);have k2:=cell_regrown ((d.cell (p:=(AK b (o+2))) B).trans x2);have k3:=cell_regrown ((d.cell (p:=(AK b (o+3))) B).trans x3);have k6:=cell_regrown y3;have al:(1:Int)<=(m:Int)+1:=AQ
   have aj:(m:Int)+1<=(c:Int):=AQ
   have ak:(0:Int)<(m:Int)+1:=AQ
   clear j y3 Y x1 x2 x3;refine wp_region_quiet_below AX AX ?_;repeat (go_big_quiet_step ((first | exact Calls.regrown_of (HZ _ (Gq d _ _)) | exact Calls.regrown_of (A _ (Gq d _ _)))))
   refine wpQuiet_nil ?_;intro _ ab;obtain⟨⟨dq,osq⟩,ae⟩:=ab;subst ae
   go_wp2
   all_goals go_ret
   all_goals exact⟨rfl,Gq d _ _⟩
theorem Ay0 (w:World):Lp w AG []:=⟨none,0,rfl,⟨CG _,λ_=>rfl⟩,λi hi=>by simp at hi⟩
theorem Ayz {W:World}{n:Stil.B9}{d c:Value}(g:Td W d n.one.args)(j:Lp W c n.kids):Lp (W.alloc (.cells #[AB n.kind,AB n.one.op,d,c] 59)) (AE (some (AL W 0)) 1 1) [n]:=by
 have e:=Aa W (.cells #[AB n.kind,AB n.one.op,d,c] 59);refine⟨_,1,rfl,⟨CG _,λh=>by cases h⟩,λi hi=>?_⟩;have f:i=0:=by simp at hi;exact hi
 subst f;refine⟨W.heap.size,0,rfl,trivial,AU,?_⟩;rw[EP,Rt];exact⟨by simp[go_sem],by simp[go_sem],⟨d,by simp[go_sem],g.below e⟩,⟨c,by simp[go_sem],j.below e⟩⟩
theorem iU (n:Stil.B9)(r q:Value)(w:World)(u:Td w r n.one.args)(s:Lp w q n.kids)(D:Dw n):
  Calls prog 93 #[.agg #[AB n.kind,AB n.one.op,r,q]] w λe w'=>∃a c,e=.returned (.slice a (Ci n).length c)/\Lp w' (.slice a (Ci n).length c) (Ci n)/\AO w w':=by
 have m:=AV (λW h=>U4 n r q W (u.below h).at (s.below h).at D);have A:Hid (∀W,AO w W->Td W r n.one.args/\Lp W q n.kids):=λW h=>⟨u.below h,s.below h⟩
 obtain⟨E,H,rfl,_⟩:=u.shape;obtain⟨z,B,rfl,_,_⟩:=s.shape;have g:Hid (Ci n=if Am n then [] else if n.kind=2 then n.kids else [n]):=rfl;have⟨t,C⟩:=AA (Am n)
 rw[<-C] at m g;clear u s C;cases t with
 | true=>
  have e:Ci n=[]:=g.out;rw[e];clear e g;go_enter func93,ntmps93
  go_wp2_with (go_at_call 83;refine(m _ AW).mono ?_;rintro e d ⟨rfl,j⟩)
  go_ret;exact⟨none,0,rfl,Ay0 _,AW⟩
 | false=>
  by_cases x:n.kind=2
  ·have e:Ci n=n.kids:=by rw[g.out];simp[x]
   rw[e];rw[x] at m ⊢;clear e g;go_enter func93,ntmps93
   go_wp2_with (go_at_call 83;refine(m _ AW).mono ?_;rintro e d ⟨rfl,j⟩;have⟨f,y⟩:=Ef j;have J:w.heap.size<d.heap.size:=CB AU j.size;have I:d.cell? (AL w 0)=some (AB 2):=(by rw[f _ _ AU];simp[go_sem]);have G:d.cell? (AL w 3)=some (AE z n.kids.length B):=(by rw[f _ _ AU];simp[go_sem]);clear f y)
   go_ret;have l:AO w d:=AW;exact⟨z,B,rfl,(A _ l).2,l⟩
  ·have e:Ci n=[n]:=by rw[g.out];simp[x]
   rw[e];have L:(n.kind==2)=false:=by rw[CS];exact x
   clear e g;go_enter func93,ntmps93
   go_wp2_with (go_at_call 83;refine(m _ AW).mono ?_;rintro e d ⟨rfl,j⟩;have⟨f,y⟩:=Ef j;have J:w.heap.size<d.heap.size:=CB AU j.size;have I:d.cell? (AL w 0)=some (AB n.kind):=(by rw[f _ _ AU];simp[go_sem]);have K:d.cell? (AL w 1)=some (AB n.one.op):=(by rw[f _ _ AU];simp[go_sem]);have M:d.cell? (AL w 2)=some (AE E n.one.args.length H):=(by rw[f _ _ AU];simp[go_sem]);have G:d.cell? (AL w 3)=some (AE z n.kids.length B):=(by rw[f _ _ AU];simp[go_sem]);clear f y)
   go_ret;have l:AO w d:=AW;exact⟨_,_,rfl,Ayz (A _ l).1 (A _ l).2,AW⟩
theorem lB (x:Stil.B8)(hs:Aj x<=1000000)(Z:Dh x)(ac:E8 x)(Y:FC 59 x (C9 x)):FC 92 x (Ha x.net (C9 x)):=by
 intro L K cv O w D z H G;have j:Dw x.net/\Iq x.net/\Stil.BK x.net<=999999:=by
  obtain⟨n,c,k⟩:=x;rw[Ce] at hs;exact⟨((F7 _ _ _).1 Z).1,((En _ _ _).1 ac).1,by simp only;omega⟩
 have hE:∀args w,(callFunc 91 args).run prog w=.ok (.enter 91 args) w:=enters_of func91 AX rfl;have HT:Hid (∀W,AO w W->Calls prog 59 #[.agg #[AB x.net.kind,AB x.net.one.op,L,K,cv,O]] W (AN W (AB (C9 x)))):=λW h=>Y L K cv O W (D.below h) (z.below h) (H.below h) (G.below h)
 have U:=AV (λW h=>iU x.net L K W (D.below h) (z.below h) j.1);have af:(Ci x.net).length<=999999:=by
  unfold Ci;split
  ·simp
  ·rename_i h0
   have e:Stil.BK x.net=Af x.net:=if_neg h0;split
   ·have h1:=Js x.net.kids
    have h2:=Eg x.net;have h3:=j.2.2;omega
   ·simp
 have C:Hid (∀W v,Lp W v (Ci x.net)->Calls prog 90 #[v,AB (C9 x), .func (.func 91) #[] #[]] W (AN W (AB (Ha x.net (C9 x))))):=by
  intro W v h;refine eN (Ci x.net) Di 91 hE (λy hy=>?_) _ v W h af;have ae:Af y<=1000000:=by have:=LS x.net y hy;have:=j.2.2;omega
  exact WC y ae (VH y (VC j.2.1 y hy) ae)
 have⟨B,hB⟩:=AA (Ci x.net)
 have⟨S,Q⟩:=AA (C9 x)
 have⟨R,T⟩:=AA (Ha x.net (C9 x))
 rw[<-T] at C ⊢;rw[<-hB] at U C;rw[<-Q] at HT C;obtain⟨q,r,rfl,_⟩:=D.shape;obtain⟨m,A,rfl,_,_⟩:=z.shape;obtain⟨l,t,rfl,_⟩:=H.shape;obtain⟨u,s,rfl,_,_⟩:=G.shape;clear Y hB Q T hE j af D z H G Z ac;go_enter func92,ntmps92;go_upto_region 1 with fail
 have⟨W,g⟩:=AA (w.alloc (.cells #[AB x.net.kind,AB x.net.one.op,AE q x.net.one.args.length r,AE m x.net.kids.length A,AE l x.coils.length t,AE u x.kids.length s] 62))
 rw[<-g];have J:AO w W:=by rw[g];exact Aa _ _
 have f:w.heap.size<W.heap.size:=by rw[g];simp
 obtain⟨_,⟨y0,y1,y2,y3,y4,N⟩,_⟩:B6 W w.heap.size (AB x.net.kind) (AB x.net.one.op) (AE q x.net.one.args.length r) (AE m x.net.kids.length A) (AE l x.coils.length t) (AE u x.kids.length s):=by rw[g];exact B6.new _ _ _ _ _ _ _ _
 have M:Hid (∀V,AO W V->(V.cell? (AL w 0)=some (AB x.net.kind)/\V.cell? (AL w 1)=some (AB x.net.one.op)/\V.cell? (AL w 2)=some (AE q x.net.one.args.length r)/\V.cell? (AL w 3)=some (AE m x.net.kids.length A)/\V.cell? (AL w 4)=some (AE l x.coils.length t)/\V.cell? (AL w 5)=some (AE u x.kids.length s))):=λV h=>⟨(h.cell (p:=(AL w 0)) f).trans y0,(h.cell (p:=(AL w 1)) f).trans y1,(h.cell (p:=(AL w 2)) f).trans y2,(h.cell (p:=(AL w 3)) f).trans y3,(h.cell (p:=(AL w 4)) f).trans y4,(h.cell (p:=(AL w 5)) f).trans N⟩
 clear g
 go_region_held3 (λd=>(d.cell? (AL w 0)=some (AB x.net.kind)/\d.cell? (AL w 1)=some (AB x.net.one.op)/\d.cell? (AL w 2)=some (AE q x.net.one.args.length r)/\d.cell? (AL w 3)=some (AE m x.net.kids.length A)/\d.cell? (AL w 4)=some (AE l x.coils.length t)/\d.cell? (AL w 5)=some (AE u x.kids.length s))) (first | with_reducible assumption | with_reducible exact⟨Gz.trans y0,Gz.trans y1,Gz.trans y2,Gz.trans y3,Gz.trans y4,Gz.trans N⟩ | skip) (first | (go_at_call 93;refine(U.out _ (by exact J.drew)).mono ?_;rintro e I ⟨a1,c1,rfl,ab,ag⟩;have E:=Bc (Below.refl _ _).drew ag;have fK:Hid (∀V,AO I V->Lp V (AE a1 B.length c1) B):=(λV h=>ab.below h);have ai:=M.out I E;clear ab) | (go_at_call 59;refine(HT.out _ (by exact Bc J E)).mono ?_;rintro e w2 ⟨rfl,X⟩;have aa:=Bc E X;have ak:=M.out w2 aa) | (go_at_call 90;refine(C.out _ _ (fK.out _ (by first | exact X | exact Below.refl _ _))).mono ?_;rintro e w3 ⟨rfl,ah⟩;have jr:=Bc aa ah;have aj:=M.out w3 jr))
 all_goals
  go_wp2
  go_ret;exact⟨rfl,Bc J jr⟩
theorem yS (a:Stil.B8):Aj a<=1000000->Dh a->E8 a->FC 59 a (C9 a):=by
 induction a using Gl with
 | h n cs kids A=>
  intro y r u G D O s w q l j d;simp only at q l j d;rw[Ce] at y;have⟨_,_,_,_,f⟩:=(F7 _ _ _).1 r;have⟨_,m⟩:=(En _ _ _).1 u;have g:∀x∈kids,Aj x<=1000000:=λx c=>by have:Aj x<=I5 kids:=D9 Aj kids x c;omega
  have t:kids.length<=999999:=by have:=Og kids;omega
  have C:∀args w,(callFunc 92 args).run prog w=.ok (.enter 92 args) w:=enters_of func92 AX rfl;have B:Hid (∀W,AO w W->Calls prog 27 #[s,AB 1, .func (.func 92) #[] #[]] W λe w'=>e=.returned (AB (Bo 1 (kids.map (λk=>Ha k.net (C9 k)))))/\AO W w'):=λW h=>MC kids (λk=>Ha k.net (C9 k)) 92 C (λx c=>lB x (g x c) (f x c) (m x c) (A x c (g x c) (f x c) (m x c))) 1 s W (d.below h) t
  rw[Wl];have⟨R,z⟩:=AA (Bo 1 (kids.map (λk=>Ha k.net (C9 k))))
  rw[<-z] at B ⊢;obtain⟨H,I,rfl,_⟩:=q.shape;obtain⟨E,M,rfl,_,_⟩:=l.shape;obtain⟨S,K,rfl,_⟩:=j.shape;obtain⟨L,J,rfl,_,_⟩:=d.shape;clear A z C y r u f m g t q l j d;go_enter func59,ntmps59
  go_wp2_with (go_at_call 27;refine(B _ AW).mono ?_;rintro e N ⟨rfl,Q⟩)
  go_ret;exact⟨rfl,AW⟩
theorem yX (x:Stil.B8)(Q:Aj x<=1000000)(A:Dh x)(u:E8 x)(r:Am x.net=false):FC 28 x (Jh x):=by
 intro f d U C w q m t s;have z:Iq x.net/\Af x.net<=1000000:=by
  obtain⟨n,c,k⟩:=x;rw[Ce] at Q;have e:Stil.BK n=Af n:=if_neg (by rw[show Am n=false from r];exact FO);exact⟨((En _ _ _).1 u).1,by simp only;omega⟩
 have T:=Stil.full_of _ (z.1.resolve_left (by rw[r];exact FO)).2.2;have HT:Hid (∀W,AO w W->Calls prog 59 #[.agg #[AB x.net.kind,AB x.net.one.op,f,d,U,C]] W (AN W (AB (C9 x)))):=λW h=>yS x Q A u f d U C W (q.below h) (m.below h) (t.below h) (s.below h)
 have V:Hid (∀W,AO w W->Calls prog 58 #[.agg #[AB x.net.kind,AB x.net.one.op,f,d]] W (AN W (AB (Bf x.net)))):=λW h=>VH x.net T z.2 f d W (q.below h) (m.below h)
 have R:Hid (Jh x=max (Bf x.net) (C9 x)):=rfl;rw[R.out];have⟨j,D⟩:=AA (C9 x)
 have⟨g,K⟩:=AA (Bf x.net)
 rw[<-D] at HT ⊢;rw[<-K] at V ⊢;obtain⟨H,J,rfl,_⟩:=q.shape;obtain⟨E,S,rfl,_,_⟩:=m.shape;obtain⟨Z,M,rfl,_⟩:=t.shape;obtain⟨N,L,rfl,_,_⟩:=s.shape;clear D K z T r q m t s A u R;have aa:g<j\/¬g<j:=AQ
 rcases aa with ac | ac
 all_goals
  go_enter func28,ntmps28
  go_wp2_with fail
  have⟨W,l⟩:=AA (w.alloc (.cells #[AB x.net.kind,AB x.net.one.op,AE H x.net.one.args.length J,AE E x.net.kids.length S,AE Z x.coils.length M,AE N x.kids.length L] 62))
  rw[<-l];have y:AO w W:=by rw[l];exact Aa _ _
  obtain⟨_,⟨O,G,X,I,Y,B⟩,_⟩:B6 W w.heap.size (AB x.net.kind) (AB x.net.one.op) (AE H x.net.one.args.length J) (AE E x.net.kids.length S) (AE Z x.coils.length M) (AE N x.kids.length L):=by rw[l];exact B6.new _ _ _ _ _ _ _ _
  have k0:=cell_regrown O;have k1:=cell_regrown G;have k2:=cell_regrown X;have k3:=cell_regrown I;have k4:=cell_regrown Y;have k5:=cell_regrown B;clear l O G X I Y B;refine wp_region_quiet_below AX AX ?_;repeat (go_big_quiet_step ((first | exact Calls.regrown_of (V _ (Gq y _ _)) | exact Calls.regrown_of (HT _ (Gq y _ _)))))
  refine wpQuiet_nil ?_;intro _ ab;obtain⟨⟨dq,osq⟩,ae⟩:=ab;subst ae
  go_wp2
  go_ret;exact⟨F5 (by congr 1;omega),Gq y _ _⟩
theorem PL (l:List Stil.B8)(g:Value)(w:World)(hr:Et w)(hg:Fh w)(t:Fe w g l)(hl:l.length<=1048576)(E:Bz l<=1000000000)(q:∀x∈l,Dh x):
  Calls prog 11 #[g] w (AN w (AB (Jm l))):=by
 have s:=AV (λW h=>N4 l g W (hr.below h) (hg.below h) (t.below h) hl E q);have⟨j,z,r⟩:=Kt q;have d:=Vb l;have m:Hid (Jm l=Bo 0 ((Aq l).map Jh)):=rfl;have⟨L,u⟩:=AA (Aq l)
 rw[<-u] at s j z r m d;have C:∀args w,(callFunc 28 args).run prog w=.ok (.enter 28 args) w:=enters_of func28 AX rfl;have A:Hid (∀W v,Uo W v L->Calls prog 27 #[v,AB 0, .func (.func 28) #[] #[]] W (AN W (AB (Bo 0 (L.map Jh))))):=λW v h=>MC L Jh 28 C (λx f=>yX x (by have:=Uk f;omega) (j x f) (d x f).1 (d x f).2) 0 v W h AQ
 rw[m.out];have⟨R,y⟩:=AA (Bo 0 (L.map Jh))
 rw[<-y] at A ⊢;obtain⟨J,K,rfl,H⟩:=t;clear H hr hg q j z r m u C y d;go_enter func11,ntmps11
 go_wp2_with (first | (go_at_call 20;refine(s _ AW).mono ?_;rintro e D ⟨⟨a,c,G,rfl,hm,hrw⟩,O⟩;have B:Uo D (AE a G.length c) L:=yCa;have I:=AV B;clear B hrw hm) | (go_at_call 27;refine(A _ _ I.out).mono ?_;rintro e M ⟨rfl,N⟩))
 go_ret;exact⟨rfl,AW⟩
end Go.Proofs.YtifcnfeppdbjdaaGreatDoor
namespace Go.Co
open Go.Conc
variable {P:Program}{a:Act}
theorem KG {R:Act->World->Prop}{c:Code}{l:List Code}{w:World}(h:c.wp P (Exit.then (WpL P R l) λ_ _ _=>False) a w):WpL P R (c::l) a w:=h
theorem d6 {R:Act->World->Prop}{w:World}(h:R a w):WpL P R [] a w:=h
theorem e8 {Stop:Goroutine->World->Prop}{w:World}(t:OkP P){f:FuncId}{args:Array Value}{v:Value}{Post:World->Prop}(h:∀j d,Calls P f args {w with tape:=j,drawn:=d} λe w'=>e=.returned v/\Post w')
  (s:∀(c:Frame) (w' W:World),c.leaving P W (.returned v)->c.fn=f->Al Post w'->Comes P (G c []) w' Stop):Comes P (G (Frame.enter P f args .normal) []) w Stop:=by
 refine V4 t (λr w'=>∃c,r=G c []/\c.leaving P w' (.returned v)/\c.fn=f/\Post w') rfl (λg w ⟨c,h,_⟩=>by rw[h];rfl) (fun j d=>?_) ?_
 ·obtain⟨e,w',q,⟨rfl,m⟩,⟨n,u⟩,l,p⟩:=h j d []
  exact⟨n,G q [],w',u,q,rfl,p,l,m⟩
 ·rintro r w' ⟨j,d,c,rfl,p,l,m⟩
  exact s c w' _ p l ⟨j,d,m⟩
end Go.Co
namespace Go.Proofs.YtifcnfeppdbjdaaGreatDoor
open Tryz Go.RowKit Go.Sort Go.BigFrame Go.Co
theorem ES.insts {w:World}{base:Nat}{v:Value}{e:List MI}{L:List Stil.Io}(h:ES w base v e)(c:e.map MI.inst=L)(f:∀x∈L,x.fits)(hl:L.length<=800):Hw w v L:=by
 have⟨b,q,d⟩:=h.pk (λx g=>(f _ (by rw[<-c];exact FX g)).2.2.1) (by rw[<-c,CW] at hl;omega);rw[c] at d;exact d.2.2.2.2.2.1.at
def S8 (F:FuncId)(w:World)(g':Goroutine)(w':World):Prop:=∃c:Frame,g'=Go.Conc.G c []/\c.mode=.returning/\c.defers=[]/\c.kind=.normal/\c.fn=F/\c.tmps.getD 2 undef=.bool true/\C6 w.heap.size w w'
section
variable {w w' : World}{v : Value}
theorem Fe.blw {l:List Stil.B8}(h:Fe w v l)(c:C6 w.heap.size w w'):Fe w' v l:=by
 have e:Fe {w' with tape:=w.tape,drawn:=0} v l=Fe w' v l:=AX
 exact e ▸ h.below (c.tape 0)
theorem Hw.blw {l:List Stil.Io}(h:Hw w v l)(c:C6 w.heap.size w w'):Hw w' v l:=by
 have e:Hw {w' with tape:=w.tape,drawn:=0} v l=Hw w' v l:=AX
 exact e ▸ h.below (c.tape 0)
theorem Et.blw (h:Et w)(c:C6 w.heap.size w w'):Et w':=by
 have e:Et {w' with tape:=w.tape,drawn:=0}=Et w':=AX
 exact e ▸ h.below (c.tape 0)
theorem Fh.blw (h:Fh w)(c:C6 w.heap.size w w'):Fh w':=by
 have e:Fh {w' with tape:=w.tape,drawn:=0}=Fh w':=AX
 exact e ▸ h.below (c.tape 0)
theorem Tp.blw {B:Nat}(h:Tp w w'):C6 B w w':=by obtain⟨c,d,rfl⟩:=h;exact⟨rfl,rfl,CG _,λ_ _=>rfl⟩
end
section
open Go.Conc
variable {Stop : Goroutine -> World -> Prop}{a : Act}{w W0 : World}{b : Frame}{k : List Item}{cs : List Frame}{ops : Array Oper}{i : Nat}{rest : List Nat}{o : Oper}
theorem cP (t:Tp W0 w)(v:Value)(h:∀w',Tp W0 w'->Go.Co.Comes prog (G (b.at (a.put o.dst v) (.inRegion ops rest::k)) cs) w' Stop)(ho:ops[i]?=some o:=by rfl)(hw:Region.wanted o (yielded ops a.tmps)=true:=by rfl)(hk:b.kind≠.early:=by simp[Go.Conc.base])
  (hr:∀w₁:World,(execOp a.eval o).run prog w₁=.ok (.value v) w₁:=by(intro _;first | (simp[Act.put];go_simp;done) | (simp[Act.put];go_simp;simp[*];done) | (simp[Act.put, *];go_simp;done)))
  (he:∀w₁:World,(execOp a.eval o).events prog w₁ #[]=#[]:=by(intro _;first | (simp[go_sem];done) | rfl)):Go.Co.Comes prog (G (b.at a (.inRegion ops (i::rest)::k)) cs) w Stop:=Qh okP ho hw hk hr he λw' q=>h w' (t.al q)
theorem cN (t:Tp W0 w)(h:∀w',Tp W0 w'->Go.Co.Comes prog (G (b.at a k) cs) w' Stop):Go.Co.Comes prog (G (b.at a (.inRegion ops []::k)) cs) w Stop:=LG okP λw' q=>h w' (t.al q)
theorem cR {e:Nat}{d:Code}(h:∀w',Tp w w'->Go.Co.Comes prog (G (b.at a (.inRegion ops (List.range ops.size)::.code d::k)) cs) w' Stop):Go.Co.Comes prog (G (b.at a (.code (.seq (.region e ops false) d)::k)) cs) w Stop:=V3 okP λ_ q=>Rk okP λw' c=>h w' (((Tp.refl w).al q).al c)
theorem cC (t:Tp W0 w){f:FuncId}{F:Func}{c:Code}{args:Array Operand}{ats:Array TypeId}(vals:Array Value){Post:Value->World->Prop}(hf:prog.funcs[f]?=some F)(hcall:∀w',Tp W0 w'->GH prog f vals w' Post)
  (h:∀v w',Post v w'->Go.Co.Comes prog (G (b.at (a.put o.dst v) (.inRegion ops rest::k)) cs) w' Stop) (ho:ops[i]?=some o:=by rfl) (hw:Region.wanted o (yielded ops a.tmps)=true:=by rfl) (hk:b.kind≠.early:=by simp[Go.Conc.base])
  (hop:o.op=.call {callee:=.value (.func f),args,argTypes:=ats}:=by rfl) (hb:F.body=some c:=by rfl) (hargs:args.map a.eval=vals:=by simp[Act.eval,Act.put]):Go.Co.Comes prog (G (b.at a (.inRegion ops (i::rest)::k)) cs) w Stop:=OP okP ho hw hk hop hf hb hargs (λw' q=>hcall w' (t.al q)) h
theorem Tp.lw {W w':World}(t:Tp W0 W)(c:C6 W.heap.size W w'):C6 W0.heap.size W0 w':=by obtain⟨e,d,rfl⟩:=t;exact⟨c.os,c.out,c.size,c.block⟩
end
open Go.Conc
variable {F:FuncId}{fn:Func}
theorem ir (h:prog.funcs[F]?=some fn)(d:fn.results=#[.tmp 2])(n:prog.inits.idxOf? F=none){fr:Frame}(j:fr.mode=.returning)(hd:fr.defers=[])(f:fr.kind=.normal)(g:fr.fn=F)(c:fr.tmps.getD 2 undef=.bool true)(W:World):
  stepG prog true (G fr []) W=.ended (.done (.bool true)) W #[]:=by
 have e:=resultsC_tmp (P:=prog) d fr.tmps W;rw[c] at e;obtain⟨l,defers,kind,m⟩:=fr;simp_all[G,stepG,unwind,doReturn,seen,GStep.after]
theorem iv {c:Code}(g:prog.funcs[F]?=some fn)(t:fn.body=some c)(r:fn.results=#[.tmp 2])(q:prog.inits.idxOf? F=none){args:Array Value}{W:World}{Post:Value->World->Prop}
  (h:Go.Co.Comes prog (G (Frame.enter prog F args .normal) []) W (S8 F W)) (n:∀w',C6 W.heap.size W w'->Post (.bool true) w'):
  ∃N last o w' f,runNT prog (N+1) (solo (G (Frame.enter prog F args .normal) []) W) #[]=(.ended o w',f)/\runN prog N (solo (G (Frame.enter prog F args .normal) []) W)=.next last/\step prog last=.ended o w'/\Conc.Good prog Post last o w' f:=by
 rw[Go.Co.enter_at args g t] at h ⊢;refine rR ⟨λi hi=>?_,λc u=>by cases u⟩ (h.mono λx w' _ hF d=>?_)
 ·obtain rfl:i=.code c:=by simpa[G,Frame.at,Go.Conc.base] using hi
  trivial
 ·obtain⟨y,rfl,m,hd,s,l,j,e⟩:=hF
  exact⟨rfl, .bool true,#[],ir g r q m hd s l j _,AU,n _ ⟨e.os,e.out,e.size,e.block⟩⟩
end Go.Proofs.YtifcnfeppdbjdaaGreatDoor
namespace Go.Proofs.YtifcnfeppdbjdaaGreatDoor
open Tryz Stil Go.RowKit Go.Sort Go.BigFrame Go.Co
theorem mh {l:List Stil.B8}(h:(Hu l).2≠0):(Hu l).1=[]:=by
 unfold Hu at h ⊢;split
 ·rfl
 ·split
  ·rfl
  ·rename_i c d
   rw[if_neg c,if_neg d] at h;exact absurd rfl h
theorem ES.nil (w:World)(base:Nat):ES w base AG []:=⟨base,CG _,World.ownsRow_nil _ _ _ _,(λx d=>by cases d),M4,(λk c=>by cases c)⟩
theorem Azy (l:List Stil.B8)(f:Value)(w:World)(hr:Et w)(hg:Fh w)(m:Fe w f l)(hl:l.length<=1048576)(q:Bz l<=1000000000)(r:∀x∈l,Dh x)(d:(Hu l).2≠0):
  Calls prog 5 #[f] w (AN w (.tuple #[AG,AB (Hu l).2])):=by
 have j:=AV (λW h=>N2 l f W (hr.below h) (hg.below h) (m.below h) hl q r);have t:=AV (λW h=>PL l f W (hr.below h) (hg.below h) (m.below h) hl q r);have u:=AV (λW h=>N3 l f W (hr.below h) (hg.below h) (m.below h) hl q r);have s:=(Xd l).1;have z:Hu l=if 0<(Aw l).1 then([],1) else if 16<Jm l\/8<Hz l then([],2) else(Hy l,0):=rfl
 obtain⟨G,H,rfl,_⟩:=m;rw[z] at d ⊢;clear z r q hr hg;generalize (Aw l).1=c at*;generalize Jm l=x at*;generalize Hz l=y at*;by_cases g:0<c
 ·rw[if_pos g]
  rw[FW AQ] at j;clear t u d g s;go_enter func5,ntmps5
  go_wp2_with (go_at_call 18;refine(j _ AW).mono ?_;rintro e A ⟨rfl,B⟩)
  refine bodyPost_ret (v:=.tuple #[AG,AB 1]) (by simp[results,results5,go_sem]) rfl ⟨rfl,AW⟩
 rw[if_neg g] at d ⊢;rw[JH AQ] at j;by_cases I:(16:Int)<x
 ·rw[if_pos (.inl AQ)]
  clear u d g s;go_enter func5,ntmps5
  go_wp2_with (first | (go_at_call 18;refine(j _ AW).mono ?_;rintro e A ⟨rfl,B⟩) | (go_at_call 11;refine(t _ AW).mono ?_;rintro e C ⟨rfl,D⟩))
  refine bodyPost_ret (v:=.tuple #[AG,AB 2]) (by simp[results,results5,go_sem]) rfl ⟨rfl,AW⟩
 by_cases J:(8:Int)<y
 ·rw[if_pos (.inr AQ)]
  clear d g s;go_enter func5,ntmps5
  go_wp2_with (first | (go_at_call 18;refine(j _ AW).mono ?_;rintro e A ⟨rfl,B⟩) | (go_at_call 11;refine(t _ AW).mono ?_;rintro e C ⟨rfl,D⟩) | (go_at_call 12;refine(u _ AW).mono ?_;rintro e w3 ⟨rfl,E⟩))
  refine bodyPost_ret (v:=.tuple #[AG,AB 2]) (by simp[results,results5,go_sem]) rfl ⟨rfl,AW⟩
 rw[if_neg AQ] at d;exact absurd rfl d
theorem Azz (l:List Stil.B8)(g:Value)(w:World)(hr:Et w)(hg:Fh w)(A:Fe w g l)(hl:l.length<=1048576)(t:Bz l<=1000000000)(D:∀x∈l,Dh x):
  GH prog 5 #[g] w λv w'=>∃(ac:Value) (j:List MI),v=.tuple #[ac,AB (Hu l).2]/\j.map MI.inst=(Hu l).1/\ES w' w.heap.size ac j/\C6 w.heap.size w w':=by
 by_cases N:¬(Hu l).2=0
 ·refine(VW okP (Post:=λr w'=>r=.tuple #[AG,AB (Hu l).2]/\C6 w.heap.size w w') fun f d=>?_).mono λr w' ⟨f,d,L,C⟩=>⟨AG,[],L,(mh N).symm,ES.nil _ _,C.os,C.out,C.size,C.block⟩
  have e1:Et {w with tape:=f,drawn:=d}=Et w:=AX
  have e2:Fh {w with tape:=f,drawn:=d}=Fh w:=AX
  have e3:Fe {w with tape:=f,drawn:=d} g l=Fe w g l:=AX
  exact(Azy l g {w with tape:=f,drawn:=d} (e1 ▸ hr) (e2 ▸ hg) (e3 ▸ A) hl t D N).mono λe w' h=>⟨_,h.1,rfl,h.2.os,h.2.output,h.2.size,h.2.block⟩
 have⟨S,T,G⟩:=me (Decidable.not_not.1 N);rw[R7 S T G];clear N;intro fr cs Stop hn;have z:∃c0 c1 d,Tryz.f5.body=some (HO [c0,c1] d):=⟨_,_,_,rfl⟩
 obtain⟨c0,c1,d,z⟩:=z;have kD:=Go.Conc.resultsC_tmp2 (P:=prog) (fn:=Tryz.f5) rfl;rw[Go.Co.enter_at #[g] func5 z];simp only[ntmps5,Cd,CH,CO,Nat.reduceAdd,Nat.reduceSub,DN,DO,DL,DR,C5,C4];unfold Tryz.f5 at z;simp only[HO] at z;cases z;obtain⟨M,ak⟩:∃M:Act->World->Prop,M=(λH W=>(∃(u2 u3 u4 u5 u6 u7 u8 u9 aj aa ai ab an af ah:Value),H=⟨#[g,undef,u2,u3,u4,u5,u6,u7,u8,u9,aj,aa,ai,ab,an,af,ah,undef,undef],[]⟩)/\C6 w.heap.size w W):=⟨_,rfl⟩
 have U:=AV ak;clear ak;refine XB okP [_,_] (R:=M) ?_ ?_
 ·intro f s
  obtain⟨W,K⟩:∃W:World,W={w with tape:=f,drawn:=s}:=⟨_,rfl⟩
  rw[<-K];have m:Tp w W:=⟨f,s,K⟩
  have iZ:Hid (∀c,AO W c->C6 w.heap.size w c):=by
   intro c h;subst K;exact⟨h.os,h.output,h.size,h.block⟩
  have HT:Hid (∀c,AO W c->Calls prog 18 #[g] c (AN c (.bool true))):=by
   intro c h;have J:=N2 l g c ((hr.blw m.blw).below h) ((hg.blw m.blw).below h) ((A.blw m.blw).below h) hl t D;rw[JH S] at J;exact J
  have HB:=AV (λc h=>PL l g c ((hr.blw m.blw).below h) ((hg.blw m.blw).below h) ((A.blw m.blw).below h) hl t D);have HK:=AV (λc h=>N3 l g c ((hr.blw m.blw).below h) ((hg.blw m.blw).below h) ((A.blw m.blw).below h) hl t D);have L:¬(16:Int)<(Jm l:Int):=AQ
  have J:¬(8:Int)<(Hz l:Int):=AQ
  clear T G S;generalize Jm l=x at*;generalize Hz l=y at*;clear K m hr hg A hl t D hn;refine KG ?_
  go_wp2
  refine KG ?_
  go_wp2_with (first | (go_at_call 18;refine(HT _ AW).mono ?_;rintro e w1 ⟨rfl,aC⟩) | (go_at_call 11;refine(HB _ AW).mono ?_;rintro e w2 ⟨rfl,az⟩) | (go_at_call 12;refine(HK _ AW).mono ?_;rintro e w3 ⟨rfl,aB⟩))
  refine d6 ?_;rw[U.out];exact⟨⟨_,_,_,_,_,_,_,_,_,_,_,_,_,_,_,rfl⟩,iZ _ AW⟩
 intro H V ag;rw[U.out] at ag;clear U M S T G;obtain⟨f,s,⟨u2,u3,u4,u5,u6,u7,u8,u9,aj,aa,ai,ab,an,af,ah,rfl⟩,u⟩:=ag;replace u:C6 w.heap.size w V:=⟨u.os,u.out,u.size,u.block⟩
 refine V3 okP λx1 h=>?_
 have t1:=(Tp.refl V).al h;refine Rk okP λx2 h=>?_
 have t2:=t1.al h;simp only[Cd,CH,CO,Nat.reduceAdd,CV,List.range,List.range.loop];refine Qh okP rfl Ao yFj (v:=g) (λ_=>by go_simp) (λ_=>by simp[go_sem]) λx3 h=>?_
 have t3:=t2.al h;have lg:∀c,Tp V c->GH prog 6 #[g] c λv w'=>∃j:List MI,j.map MI.inst=Hy l/\ES w' w.heap.size v j/\C6 w.heap.size w w':=by
  intro c E;have q:=u.trans E.blw;refine(Wz l g c (hr.blw q) (hg.blw q) (A.blw q) hl t D).mono λr w' ⟨j,L,⟨av,J,C,h4,h5,h6⟩,h7⟩=>⟨j,L,⟨av,CJ q.size J,C,λx hx=>Joins.ownsRow_le (h4 x hx) q.size,h5,λk G=>⟨CJ q.size (h6 k G).1,(h6 k G).2⟩⟩,q.trans (h7.le q.size)⟩
 refine OP okP rfl Ao yFj rfl func6 rfl (vals:=#[g]) (by simp[Act.eval,Act.put]) (λc h=>lg c (t3.al h)) λB I hp=>?_
 obtain⟨j,au,hO,O⟩:=hp;clear lg t1 t2 t3 h;refine Qh okP rfl Ao yFj (v:=B) (λ_=>by simp[Act.put];go_simp) (λ_=>by simp[go_sem]) λx4 h=>?_
 have t4:=(Tp.refl I).al h;refine Qh okP rfl Ao yFj (v:=AB 0) (λ_=>by simp[Act.put];go_simp) (λ_=>by simp[go_sem]) λx5 h=>?_
 have t5:=t4.al h;refine LG okP λX h=>?_
 have t6:=t5.al h;clear t4 t5 h;simp only[Act.put];refine ZE okP (Q:=λe a w'=>e=.ret/\a.defers=[]/\a.tmps.getD 2 undef=B/\a.tmps.getD 3 undef=AB 0/\Tp X w') (λe a w h=>.inr h.1) (fun f s=>?_) ?_ ?_
 ·have E:Tp X {X with tape:=f,drawn:=s}:=⟨f,s,rfl⟩
  revert E
  generalize {X with tape:=f,drawn:=s}=Y;intro E
  go_wp2
 ·rintro H w' ⟨f,d,h,_⟩
  cases h
 ·rintro H w' aA ⟨f,d,_,hd,ay,ax,E⟩
  refine Ug okP (fr':=fr.finish (.tuple #[B,AB 0])) (cs':=cs) (λae=>?_) λaw h=>?_
  ·have Z:=kD H.tmps
   rw[ay,ax] at Z;exact Go.Conc.stepG_leave (b:=Go.Conc.base 5) rfl hd func5 (Z ae).1 (Z ae).2
  ·have ar:Tp I aw:=by
    obtain⟨ao,d1,rfl⟩:=t6;obtain⟨ap,d2,rfl⟩:=E.al ⟨f,d,rfl⟩;exact(show Tp I _ from⟨ap,d2,rfl⟩).al h
   obtain⟨ao,d1,rfl⟩:=ar;have e:ES {I with tape:=ao,drawn:=d1} w.heap.size B j=ES I w.heap.size B j:=AX
   exact hn _ _ ⟨B,j,rfl,au,e ▸ hO,O.os,O.out,O.size,O.block⟩
