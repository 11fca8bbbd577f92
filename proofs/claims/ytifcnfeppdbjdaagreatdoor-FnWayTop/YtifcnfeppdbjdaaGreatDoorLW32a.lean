import Derived.Test.YtifcnfeppdbjdaaGreatDoorS33
import Derived.Test.YtifcnfeppdbjdaaGreatDoorCI4
namespace Stil
theorem Axh (kids:List B8)(j:Nat)(h:j<kids.length):((kids.mapIdx (λi a=>Jn kids.length i a)).take (j+1)).flatten=((kids.mapIdx (λi a=>Jn kids.length i a)).take j).flatten++(Ff kids.length j++(Dy kids[j].net++Dl kids[j])):=by
 rw[D2 BR,E6];simp[Jn,JE]
end Stil
namespace Go.Proofs.YtifcnfeppdbjdaaGreatDoor
open Tryz Stil Go.RowKit Go.Sort Go.BigFrame
def SY (f:FuncId)(x:Stil.B8)(is:List Stil.Io):Prop:=∀(j h g i:Value) (w:World),Td w j x.net.one.args->Lp w h x.net.kids->U7 w g x.coils->Uo w i x.kids->
 Calls prog f #[.agg #[AB x.net.kind,AB x.net.one.op,j,h,g,i]] w λe w'=>∃(a:Option Addr) (c:Nat) (d:List MI),e=.returned (AE a d.length c)/\d.map MI.inst=is/\Jz w' w.heap.size (AE a d.length c) d/\AO w w'
theorem j9 {w w1:World}{base b1:Nat}{v:Value}{d:List MI}{m:MI}(h:Jz w base v d)(c:EOk w1 b1 m.e)(h1:w.heap.size<=b1)(f:base<=w.heap.size):EOk w1 base m.e/\Aside v m.e.av:=
 ⟨Joins.ownsRow_le c AQ,Ho (n:=w.heap.size) (λk a=>(h.1.lt k a).2) (λk a=>CJ h1 (c.lt k a).1)⟩
set_option maxHeartbeats 8000000 in
set_option maxRecDepth 100000 in
theorem s_tail (a:Stil.B8):E8 a->Dh a->Aj a<=400->SY 25 a (Dl a):=by
 induction a using Gl with
 | h n r kids ih=>
  intro aF aY hs av nv cv kv w I aa ae ac;simp only at I aa ae ac;have aA:=YT _ aF;rw[Ce] at hs aA;obtain⟨_,gI⟩:=(En _ _ _).1 aF;obtain⟨_,_,aD,_,wL⟩:=(F7 _ _ _).1 aY;have aE:∀x∈kids,Aj x<=400:=λx s=>by have:Aj x<=I5 kids:=D9 Aj kids x s;omega
  have bj:kids.length<=400:=by have:=Og kids;omega
  have bs:r.length<=400:=AQ
  have IH:=AV (λx s=>ih x s (gI x s) (wL x s) (aE x s));have aG:Hid (∀x∈kids,KC 54 x.net (Dy x.net)):=by
   intro x s;have h1:=gI x s;have h2:=aE x s;have h3:=wL x s;obtain⟨xn,xc,xk⟩:=x;rw[Ce] at h2;exact fS xn ((En _ _ _).1 h1).1 ((F7 _ _ _).1 h3).1 AQ
  have jA:=AV (λW (h:AO w W)=>ac.below h);have qx:=AV (λW (h:AO w W)=>(ae.below h).at);have yH:=AV (λx s=>(aD x s).2.1);have vP:=AV (λe he av W h=>RE e av W h (aD e he).2.1);rw[Wj] at aA ⊢;have dY:Hid (∀(j:Nat) (H:List MI),H.map MI.inst=Iu r++((kids.mapIdx (λi a=>Jn kids.length i a)).take j).flatten->H.length<=800):=by
   intro j H h;rw[<-CW (f:=MI.inst),h];have h2:((kids.mapIdx (λi a=>Jn kids.length i a)).take j).flatten.length<=(kids.mapIdx (λi a=>Jn kids.length i a)).flatten.length:=by
    conv=>rhs;rw[<-IG j (kids.mapIdx (λi a=>Jn kids.length i a)),E6,CM]
    omega
   rw[CM] at aA ⊢;omega
  obtain⟨p0,r0,rfl,bc⟩:=I.shape;obtain⟨p1,r1,rfl,bh,_⟩:=aa.shape;obtain⟨p2,r2,rfl,a8⟩:=ae.shape;obtain⟨p3,r3,rfl,aw,_⟩:=ac.shape;clear bc bh a8 aw ih aE I aa ae ac gI aF aY aD wL aA;go_enter func25,ntmps25
  go_wp2
  obtain⟨W0,ap⟩:∃W,W=w.alloc (.cells #[AB n.kind,AB n.one.op,AE p0 n.one.args.length r0,AE p1 n.kids.length r1,AE p2 r.length r2,AE p3 kids.length r3] 62):=⟨_,rfl⟩
  rw[<-ap];have aI:W0.heap.size=w.heap.size+1:=by rw[ap];simp
  have aK:AO w W0:=by rw[ap];exact Aa _ _
  have aM:W0.cell? (AL w 4)=some (AE p2 r.length r2):=by rw[ap];simp[go_sem]
  have aW:W0.cell? (AL w 5)=some (AE p3 kids.length r3):=by rw[ap];simp[go_sem]
  clear ap;have bb:=AV aI;obtain⟨W,hW⟩:=AA (W0.alloc (.cells #[] 53))
  rw[<-hW];have aU:Hid (Jz W (w.heap.size+1) (AE (some (AK (w.heap.size+1) 0)) 0 0) []):=by
   rw[hW,<-aI];exact⟨World.ownsRow_lit W0 #[] 0 (CG _) A6 rfl,λx s=>by cases s⟩
  have ar:Below (w.heap.size+1) W0 W:=by rw[hW];exact(Aa W0 _).mono AQ
  have a9:=aK.trans (ar.mono AQ);have nM:w.heap.size<W.heap.size:=by have:=ar.size;omega
  have y4:=(World.cell?_of_block (a:=(AL w 4)) (ar.block _ AU)).trans aM;have y5:=(World.cell?_of_block (a:=(AL w 5)) (ar.block _ AU)).trans aW;clear hW aM aW aK ar aI bb;go_loopw [3,4] (λd i wr=>∃(j:Nat) (G:Option Addr) (D:Nat) (g:List MI),j<=r.length/\i=AB (j:Int)/\d=AE G g.length D/\g.map MI.inst=Iu (r.take j)/\Jz wr (w.heap.size+1) (AE G g.length D) g/\Below (w.heap.size+1) W wr) (λ_ i _=>r.length - (intOf i).toNat)
  case atStart=>exact⟨0,_,_,[],AQ,rfl,rfl,by simp[Iu],aU.out,Below.refl _ _⟩
  case round=>
   obtain⟨j,G,D,g,hj,rfl,rfl,al,au,C⟩:=hrel;have fU:=AV al;have U:=AV au;have aZ:g.length=j:=by
    have:=congrArg List.length al
    rw[CW,Iu,CW,FY] at this;omega
   have fE:=AV aZ;have bg:g.length<=400:=AQ
   clear al au aU aZ;have F:=a9.trans (C.mono AQ);have X:=CB nM C.size;have bz:=(World.cell?_of_block (a:=(AL w 4)) (C.block _ AU)).trans y4;by_cases aj:j<r.length
   ·obtain⟨pa,pc,az,ax⟩:=qx wr F
    simp only[Value.slice.injEq,true_and] at az;obtain⟨rfl,rfl⟩:=az;obtain⟨b2,o2,iT,aJ,hn⟩:=ax j aj;subst iT;obtain⟨x0,av,x1,I⟩:=hn;have HI:=AV (λV h=>vP r[j] (CN aj) av V (I.below h));have aX:Hid (Iu (r.take (j+1))=Iu (r.take j)++[⟨10,r[j]⟩]):=by
     show _=_
     unfold Iu;rw[D2 aj,CU];rfl
    obtain⟨y,hy⟩:=AA (r[j])
    rw[<-hy] at HI aX x0 I;obtain⟨bq,bm,rfl,_⟩:=I;have bf:(j:Int)<(r.length:Int):=AQ
    clear hy ax vP qx IH aG jA dY yH
    go_wp2_with (first | (go_at_call 52;refine(HI _ (Below.refl _ _)).mono ?_;rintro e w2 ⟨P,R,rfl,aQ,z⟩;have uN:=AV aQ;clear aQ) | (at_builtin;refine G7 (m:=⟨10,⟨y.op,y.args,AE P y.args.length R⟩⟩) rfl _ _ rfl (w.heap.size+1) G D g rfl rfl (U.below z) (j9 (m:=⟨10,⟨y.op,y.args,AE P y.args.length R⟩⟩) U uN (CG _) AQ) AQ (by have:=z.size;omega) ?_;intro M J w3 hr3 Z;have ab:=AV hr3;clear hr3;have q:=C.trans ((z.mono AQ).trans Z)))
    exact⟨⟨j+1,M,J,g++[⟨10,⟨y.op,y.args,AE P y.args.length R⟩⟩],AQ,by go_num,by rw[CM];rfl,by rw[CU,fU.out,aX.out];rfl,by rw[CM];exact ab.out,q⟩,by simp[intOf];omega⟩
   ·obtain rfl:j=r.length:=by omega
    have ak:=fU.out;rw[Gk] at ak;have eF:=AV ak;have vT:=(World.cell?_of_block (a:=(AL w 5)) (C.block _ AU)).trans y5;clear ak fU y5 qx vP yH fE;obtain⟨wk,bi⟩:∃wk:World,wk=wr:=⟨wr,rfl⟩
    subst bi
    go_wp2
    go_loopw [3,6] (λd i wr=>∃(j:Nat) (G:Option Addr) (D:Nat) (g:List MI),j<=kids.length/\i=AB (j:Int)/\d=AE G g.length D/\g.map MI.inst=Iu r++((kids.mapIdx (λi a=>Jn kids.length i a)).take j).flatten/\Jz wr (w.heap.size+1) (AE G g.length D) g/\Below (w.heap.size+1) wk wr) (λ_ i _=>kids.length - (intOf i).toNat)
    case atStart=>exact⟨0,G,D,g,AQ,rfl,rfl,by rw[eF.out];simp,U.out,Below.refl _ _⟩
    case round=>
     clear U eF;obtain⟨wo,ba⟩:∃wo:World,wo=wk:=⟨_,rfl⟩
     clear ba wo;have a7:=F;have zZ:=X;have bk:=C;clear F X C;obtain⟨j,G,D,g,hj,rfl,rfl,al,au,C⟩:=hrel;have fU:=AV al;have U:=AV au;have bg:=dY j g al;clear al au;have F:=a7.trans (C.mono AQ);have X:=CB zZ C.size;have aV:=(World.cell?_of_block (a:=(AL w 5)) (C.block _ AU)).trans vT;by_cases aj:j<kids.length
     ·obtain⟨pa,pc,az,_,ax⟩:=(jA w (Below.refl _ _)).shape
      simp only[Value.slice.injEq,true_and] at az;obtain⟨rfl,rfl⟩:=az;obtain⟨b,o,iT,aJ,hn⟩:=ax j aj;subst iT;obtain⟨aT,cv,kv,x4,x5,ae,ac⟩:=hn.open;obtain⟨x0,x1,av,nv,x2,x3,I,aa⟩:=aT.open;have HI:Hid (∀Y,AO w Y->∀{V},AO Y V->Calls prog 25 #[.agg #[AB kids[j].net.kind,AB kids[j].net.one.op,av,nv,cv,kv]] V λe w'=>∃(a:Option Addr) (c:Nat) (H:List MI),e=.returned (AE a H.length c)/\H.map MI.inst=Dl kids[j]/\Jz w' V.heap.size (AE a H.length c) H/\AO V w'):=λY h0 V h=>IH kids[j] (CN aj) av nv cv kv V ((I.below h0).below h) ((aa.below h0).below h) ((ae.below h0).below h) ((ac.below h0).below h)
      have rZ:Hid (∀Y,AO w Y->∀{V},AO Y V->Calls prog 54 #[.agg #[AB kids[j].net.kind,AB kids[j].net.one.op,av,nv]] V λe w'=>∃(a:Option Addr) (c:Nat) (H:List MI),e=.returned (AE a H.length c)/\H.map MI.inst=Dy kids[j].net/\Jz w' V.heap.size (AE a H.length c) H/\AO V w'):=λY h0 V h=>aG kids[j] (CN aj) av nv V ((I.below h0).below h) ((aa.below h0).below h)
      have aX:=Axh kids j aj;have jO:Hid (∀L:List MI,L.map MI.inst=g.map MI.inst++Ff kids.length j->∀k l:List MI,k.map MI.inst=Dy kids[j].net->(L.length+k.length<=1000000)/\(l.map MI.inst=Dl kids[j]->((L++k).length+l.length<=1000000)/\((L++k)++l).map MI.inst=Iu r++((kids.mapIdx (λi a=>Jn kids.length i a)).take (j+1)).flatten)):=by
       intro L hL k l K;have e0:∀l:List MI,l.map MI.inst=Dl kids[j]->((L++k)++l).map MI.inst=Iu r++((kids.mapIdx (λi a=>Jn kids.length i a)).take (j+1)).flatten:=λl u=>by rw[CU,CU,hL,fU.out,K,u,aX];simp only[EV]
       refine⟨?_,λu=>⟨?_,e0 l u⟩⟩
       ·obtain⟨wB,wJ⟩:∃wB:List MI,wB.map MI.inst=Dl kids[j]:=⟨(Dl kids[j]).map λi=>⟨i.code,⟨i.one.op,i.one.args,AG⟩⟩,by rw[FI];exact(JL λi _=>rfl).trans (List.map_id _)⟩
        have:=dY _ _ (e0 wB wJ)
        rw[CM,CM] at this;omega
       ·have:=dY _ _ (e0 l u)
        rw[CM] at this;omega
      clear aX;obtain⟨x,s⟩:=AA (kids[j])
      rw[<-s] at HI rZ jO x0 x1 I aa ae ac;obtain⟨q0,s0,rfl,_⟩:=I.shape;obtain⟨q1,s1,rfl,_,_⟩:=aa.shape;obtain⟨q2,s2,rfl,_⟩:=ae.shape;obtain⟨q3,s3,rfl,_,_⟩:=ac.shape;have mQ:Hid (∀V,Below (w.heap.size+1) wr V->V.cell? (AL w 5)=some (AE (some (AK b o)) kids.length r3)/\V.cell? (AK b (o+j*6))=some (AB x.net.kind)/\V.cell? (AK b (o+j*6+1))=some (AB x.net.one.op)/\V.cell? (AK b (o+j*6+2))=some (AE q0 x.net.one.args.length s0)/\V.cell? (AK b (o+j*6+3))=some (AE q1 x.net.kids.length s1)/\V.cell? (AK b (o+j*6+4))=some (AE q2 x.coils.length s2)/\V.cell? (AK b (o+j*6+5))=some (AE q3 x.kids.length s3)):=λV hV=>by
       have e0:V.heap[w.heap.size]?=wr.heap[w.heap.size]?:=hV.block _ AQ;have e1:=(hV.block _ AQ).trans (F.block b aJ);exact⟨(World.cell?_of_block (a:=(AL w 5)) e0).trans aV,(World.cell?_of_block (a:=(AK b _)) e1).trans x0,(World.cell?_of_block (a:=(AK b _)) e1).trans x1,(World.cell?_of_block (a:=(AK b _)) e1).trans x2,(World.cell?_of_block (a:=(AK b _)) e1).trans x3,(World.cell?_of_block (a:=(AK b _)) e1).trans x4,(World.cell?_of_block (a:=(AK b _)) e1).trans x5⟩
      obtain⟨br,bn,bv,bu,bp,bw,bo⟩:=mQ wr (Below.refl _ _);have bf:(j:Int)<(kids.length:Int):=AQ
      clear s hn aT ax I aa ae ac x0 x1 x2 x3 x4 x5 dY IH aG jA aV vT aJ;have lm:Hid (IntKind.i64.wrap ((kids.length:Int) - 1)=(kids.length:Int) - 1):=by show _=_;rw[IntKind.wrap_i64];omega
      by_cases ag:kids.length=1
      ·have e1:((kids.length:Int)==1)=true:=by simp[ag]
       have yF:Hid (Ff kids.length j=[]):=by show _=_;simp[Ff,ag]
       have A:=AV (jO g (by rw[yF.out];simp[fU.out]));clear jO;clear ag lm
       go_wp2_with (first | (at_builtin;refine Eo rfl _ _ rfl (w.heap.size+1) w3.heap.size w3 M J (g++k) l a4 c4 B1 rfl ab uI O (CG _) ((A k l B.out).2 T.out).1 AQ ?_;intro a5 c5 w5 Q an;have lH:=AV Q;clear Q;have iL:=C.trans (q.trans ((O.mono AQ).trans an))) | (go_at_call 25;refine(HI w3 gQ (Below.refl _ _)).mono ?_;rintro e w4 ⟨a4,c4,l,rfl,u,S,O⟩;have T:=AV u;have uI:=AV S;clear u S) | (at_builtin;refine Eo rfl _ _ rfl (w.heap.size+1) wr.heap.size wr G D g k P R B1 rfl U oP z (CG _) (A k [] B.out).1 AQ ?_;intro M J w3 hr3 Z;have ab:Hid (Jz w3 (w.heap.size+1) (.slice M (g++k).length J) (g++k)):=yEf;clear hr3;have q:=((Below.refl (w.heap.size+1) wr)).trans ((z.mono AQ).trans Z);have aw:=CB X q.size;have gQ:=F.trans (q.mono AQ);obtain⟨yj,tq,su,aH,ry,aC,ru⟩:=mQ w3 q) | (go_at_call 54;refine(rZ wr (F.trans (((Below.refl (w.heap.size+1) wr)).mono AQ)) (Below.refl _ _)).mono ?_;rintro e w2 ⟨P,R,k,rfl,K,N,z⟩;have B:=AV K;have oP:=AV N;clear K N))
       exact⟨⟨j+1,a5,c5,(g++k)++l,AQ,by go_num,by rw[Value.slice.injEq];refine⟨rfl,?_,rfl⟩;simp only[CM];try omega,((A k l B.out).2 T.out).2,by rw[CM];exact lH.out,iL⟩,by simp[intOf];omega⟩
      have e1:((kids.length:Int)==1)=false:=by rw[CS];omega
      by_cases ao:j=0
      ·have e2:((j:Int)==0)=true:=by simp[ao]
       have yF:Hid (Ff kids.length j=[I9 7]):=by show _=_;simp[Ff,ag,ao]
       have A:=AV (jO (g++[mi0 7]) yDf);clear jO;clear ag ao lm
       go_wp2_with (first | (at_builtin;refine Eo rfl _ _ rfl (w.heap.size+1) w3.heap.size w3 M J ((g++[mi0 7])++k) l a4 c4 B1 rfl ab uI O (CG _) ((A k l B.out).2 T.out).1 AQ ?_;intro a5 c5 w5 Q an;have lH:=AV Q;clear Q;have iL:=C.trans (q.trans ((O.mono AQ).trans an))) | (go_at_call 25;refine(HI w3 gQ (Below.refl _ _)).mono ?_;rintro e w4 ⟨a4,c4,l,rfl,u,S,O⟩;have T:=AV u;have uI:=AV S;clear u S) | (at_builtin;refine Eo rfl _ _ rfl (w.heap.size+1) t.heap.size t af cf (g++[mi0 7]) k P R B1 rfl og oP z (CG _) (A k [] B.out).1 AQ ?_;intro M J w3 hr3 Z;have ab:Hid (Jz w3 (w.heap.size+1) (.slice M ((g++[mi0 7])++k).length J) ((g++[mi0 7])++k)):=yEf;clear hr3;have q:=(E).trans ((z.mono AQ).trans Z);have aw:=CB X q.size;have gQ:=F.trans (q.mono AQ);obtain⟨yj,tq,su,aH,ry,aC,ru⟩:=mQ w3 q) | (go_at_call 54;refine(rZ t (F.trans ((E).mono AQ)) (Below.refl _ _)).mono ?_;rintro e w2 ⟨P,R,k,rfl,K,N,z⟩;have B:=AV K;have oP:=AV N;clear K N) | (at_builtin;refine G7 (m:=mi0 7) rfl _ _ rfl (w.heap.size+1) G D g rfl rfl U (IV _ _ _ _) AQ AQ ?_;intro af cf t ah ay;have og:Hid (Jz t (w.heap.size+1) (.slice af (g++[mi0 7]).length cf) (g++[mi0 7])):=(by rw[CM];exact ah);clear ah;have E:=ay;have fO:=CB X E.size;obtain⟨aL,aO,aS,a6,aN,aR,aP⟩:=mQ t E))
       exact⟨⟨j+1,a5,c5,((g++[mi0 7])++k)++l,AQ,by go_num,by rw[Value.slice.injEq];refine⟨rfl,?_,rfl⟩;simp only[CM,CH,CO];try omega,((A k l B.out).2 T.out).2,by rw[CM];exact lH.out,iL⟩,by simp[intOf];omega⟩
      have e2:((j:Int)==0)=false:=by rw[CS];omega
      have ai:=lm.out;by_cases aB:j+1=kids.length
      ·have e3:((j:Int)==(kids.length:Int) - 1)=true:=by rw[EC];omega
       have yF:Hid (Ff kids.length j=[I9 9]):=by show _=_;simp[Ff,ag,ao,aB]
       have A:=AV (jO (g++[mi0 9]) yDf);clear jO;clear ag ao aB lm
       go_wp2_with (first | (at_builtin;refine Eo rfl _ _ rfl (w.heap.size+1) w3.heap.size w3 M J ((g++[mi0 9])++k) l a4 c4 B1 rfl ab uI O (CG _) ((A k l B.out).2 T.out).1 AQ ?_;intro a5 c5 w5 Q an;have lH:=AV Q;clear Q;have iL:=C.trans (q.trans ((O.mono AQ).trans an))) | (go_at_call 25;refine(HI w3 gQ (Below.refl _ _)).mono ?_;rintro e w4 ⟨a4,c4,l,rfl,u,S,O⟩;have T:=AV u;have uI:=AV S;clear u S) | (at_builtin;refine Eo rfl _ _ rfl (w.heap.size+1) t.heap.size t af cf (g++[mi0 9]) k P R B1 rfl og oP z (CG _) (A k [] B.out).1 AQ ?_;intro M J w3 hr3 Z;have ab:Hid (Jz w3 (w.heap.size+1) (.slice M ((g++[mi0 9])++k).length J) ((g++[mi0 9])++k)):=yEf;clear hr3;have q:=(E).trans ((z.mono AQ).trans Z);have aw:=CB X q.size;have gQ:=F.trans (q.mono AQ);obtain⟨yj,tq,su,aH,ry,aC,ru⟩:=mQ w3 q) | (go_at_call 54;refine(rZ t (F.trans ((E).mono AQ)) (Below.refl _ _)).mono ?_;rintro e w2 ⟨P,R,k,rfl,K,N,z⟩;have B:=AV K;have oP:=AV N;clear K N) | (at_builtin;refine G7 (m:=mi0 9) rfl _ _ rfl (w.heap.size+1) G D g rfl rfl U (IV _ _ _ _) AQ AQ ?_;intro af cf t ah ay;have og:Hid (Jz t (w.heap.size+1) (.slice af (g++[mi0 9]).length cf) (g++[mi0 9])):=(by rw[CM];exact ah);clear ah;have E:=ay;have fO:=CB X E.size;obtain⟨aL,aO,aS,a6,aN,aR,aP⟩:=mQ t E))
       exact⟨⟨j+1,a5,c5,((g++[mi0 9])++k)++l,AQ,by go_num,by rw[Value.slice.injEq];refine⟨rfl,?_,rfl⟩;simp only[CM,CH,CO];try omega,((A k l B.out).2 T.out).2,by rw[CM];exact lH.out,iL⟩,by simp[intOf];omega⟩
      have e3:((j:Int)==(kids.length:Int) - 1)=false:=by rw[CS];omega
      have yF:Hid (Ff kids.length j=[I9 8]):=by show _=_;simp[Ff,ag,ao,aB]
      have A:=AV (jO (g++[mi0 8]) yDf);clear jO;clear ag ao aB lm
      go_wp2_with (first | (at_builtin;refine Eo rfl _ _ rfl (w.heap.size+1) w3.heap.size w3 M J ((g++[mi0 8])++k) l a4 c4 B1 rfl ab uI O (CG _) ((A k l B.out).2 T.out).1 AQ ?_;intro a5 c5 w5 Q an;have lH:=AV Q;clear Q;have iL:=C.trans (q.trans ((O.mono AQ).trans an))) | (go_at_call 25;refine(HI w3 gQ (Below.refl _ _)).mono ?_;rintro e w4 ⟨a4,c4,l,rfl,u,S,O⟩;have T:=AV u;have uI:=AV S;clear u S) | (at_builtin;refine Eo rfl _ _ rfl (w.heap.size+1) t.heap.size t af cf (g++[mi0 8]) k P R B1 rfl og oP z (CG _) (A k [] B.out).1 AQ ?_;intro M J w3 hr3 Z;have ab:Hid (Jz w3 (w.heap.size+1) (.slice M ((g++[mi0 8])++k).length J) ((g++[mi0 8])++k)):=yEf;clear hr3;have q:=(E).trans ((z.mono AQ).trans Z);have aw:=CB X q.size;have gQ:=F.trans (q.mono AQ);obtain⟨yj,tq,su,aH,ry,aC,ru⟩:=mQ w3 q) | (go_at_call 54;refine(rZ t (F.trans ((E).mono AQ)) (Below.refl _ _)).mono ?_;rintro e w2 ⟨P,R,k,rfl,K,N,z⟩;have B:=AV K;have oP:=AV N;clear K N) | (at_builtin;refine G7 (m:=mi0 8) rfl _ _ rfl (w.heap.size+1) G D g rfl rfl U (IV _ _ _ _) AQ AQ ?_;intro af cf t ah ay;have og:Hid (Jz t (w.heap.size+1) (.slice af (g++[mi0 8]).length cf) (g++[mi0 8])):=(by rw[CM];exact ah);clear ah;have E:=ay;have fO:=CB X E.size;obtain⟨aL,aO,aS,a6,aN,aR,aP⟩:=mQ t E))
      exact⟨⟨j+1,a5,c5,((g++[mi0 8])++k)++l,AQ,by go_num,by rw[Value.slice.injEq];refine⟨rfl,?_,rfl⟩;simp only[CM,CH,CO];try omega,((A k l B.out).2 T.out).2,by rw[CM];exact lH.out,iL⟩,by simp[intOf];omega⟩
     ·obtain rfl:j=kids.length:=by omega
      have ak:=fU.out;rw[EA AU] at ak;have pq:=AV ak;clear ak
      go_wp2
      go_ret;exact⟨G,D,g,rfl,pq.out,U.le AQ,F⟩
set_option maxHeartbeats 4000000 in
set_option maxRecDepth 100000 in
theorem WR (l:List Stil.B8)(s:Value)(w:World)(t:Fe w s l)(hl:l.length<=1048576)(ar:Bz l<=1000000000)(F:∀x∈l,Dh x):
  Calls prog 9 #[s] w λe w'=>∃(a:Option Addr) (c:Nat) (q:List MI),e=.returned (AE a q.length c)/\q.map MI.inst=Hy l/\Jz w' w.heap.size (AE a q.length c) q/\AO w w':=by
 have zF:Hid (∀W,AO w W->Calls prog 23 #[s] W λe w'=>QZ w' W.heap.size (Aq l) e/\AO W w'):=λW h=>OE l s W (t.below h) hl ar F
 obtain⟨kN,nP,qH⟩:=Kt F;have G:Hid (∀x∈Aq l,KC 24 x.net (Dc x.net)/\SY 25 x (Dl x)):=by
  intro x r;by_cases h0:(Aw l).1=0
  ·have X:=(Tm F h0).1 x r
   have ah:=kN x r;have hs:=X.size;refine⟨?_,s_tail x X.fineA ah hs⟩;have Q:=X.net;obtain⟨N,xc,xk⟩:=x;rw[Ce] at hs;refine Ss N (RD N Q.2.2) ((F7 _ _ _).1 ah).1 ?_;have:=Stil.size_le N
   omega
  ·rw[show Aq l=[] by unfold Aq;rw[if_neg h0]] at r
   cases r
 have K:Hid (∀(j:Nat) (q:List MI),q.map MI.inst=(((Aq l).map Ez).take j).flatten->q.length<=800):=by
  intro j q h;rw[<-CW (f:=MI.inst),h];have Q:=P7 F;unfold Hy at Q;have h2:(((Aq l).map Ez).take j).flatten.length<=((Aq l).map Ez).flatten.length:=by
   conv=>rhs;rw[<-IG j ((Aq l).map Ez),E6,CM]
   omega
  omega
 have lg:Hid (Hy l=((Aq l).map Ez).flatten):=rfl;rw[lg.out];obtain⟨L,hL⟩:=AA (Aq l)
 rw[<-hL] at zF G K qH ⊢;obtain⟨p0,r0,rfl,_⟩:=t;clear hL lg kN nP F;go_enter func9,ntmps9
 go_wp2_with (go_at_call 23;refine(zF _ AW).mono ?_;rintro e g ⟨⟨a1,c1,ns,rfl,O,ak⟩,aA⟩;have Y:Hid (Uo g (AE a1 ns.length c1) L):=(by have:=(AOk.T _ (Vp ak).1).2.2.2;have hk:(Q6 (AE a1 ns.length c1) ns).arm.kids=L:=(by rw[Bq.arm_eq];exact O);rw[hk] at this;exact this);have ai:ns.length=L.length:=(by rw[<-O,CW]);clear ak O)
 rw[ai] at Y;clear ai;have R:AO w g:=aA;go_loopw [4,5] (λd i wr=>∃(j:Nat) (A:Option Addr) (u:Nat) (k:List MI),j<=L.length/\i=AB (j:Int)/\d=AE A k.length u/\k.map MI.inst=((L.map Ez).take j).flatten/\Jz wr g.heap.size (AE A k.length u) k/\AO g wr) (λ_ i _=>L.length - (intOf i).toNat)
 case atStart=>
  refine⟨0,some (AL g 0),0,[],AQ,rfl,rfl,AU,⟨?_,λx r=>by cases r⟩,Aa g _⟩;exact World.ownsRow_lit g #[] 0 (CG _) A6 rfl
 case round=>
  obtain⟨j,A,u,k,hj,rfl,rfl,S,af,E⟩:=hrel;have fU:Hid (k.map MI.inst=((L.map Ez).take j).flatten):=S;have jM:Hid (Jz wr g.heap.size (AE A k.length u) k):=af;have aH:k.length<=800:=K j k S;clear S af;have jB:g.heap.size<=wr.heap.size:=E.size;by_cases hlt:j<L.length
  ·obtain⟨pa,pc,al,_,aj⟩:=Y.shape
   simp only[Value.slice.injEq,true_and] at al;obtain⟨rfl,rfl⟩:=al;obtain⟨b,o,iT,ao,hn⟩:=aj j hlt;subst iT;obtain⟨ag,cv,s,x4,x5,M,t⟩:=hn.open;obtain⟨Z,x1,I,H,x2,x3,D,C⟩:=ag.open;have HI:Hid (∀V,AO g V->Calls prog 25 #[.agg #[AB L[j].net.kind,AB L[j].net.one.op,I,H,cv,s]] V λe w'=>∃(a:Option Addr) (c:Nat) (q:List MI),e=.returned (AE a q.length c)/\q.map MI.inst=Dl L[j]/\Jz w' V.heap.size (AE a q.length c) q/\AO V w'):=λV h=>(G L[j] (CN hlt)).2 I H cv s V (D.below h) (C.below h) (M.below h) (t.below h)
   have rZ:Hid (∀V,AO g V->Calls prog 24 #[.agg #[AB L[j].net.kind,AB L[j].net.one.op,I,H]] V λe w'=>∃(a:Option Addr) (c:Nat) (q:List MI),e=.returned (AE a q.length c)/\q.map MI.inst=Dc L[j].net/\Jz w' V.heap.size (AE a q.length c) q/\AO V w'):=λV h=>(G L[j] (CN hlt)).1 I H V (D.below h) (C.below h)
   have aX:((L.map Ez).take (j+1)).flatten=((L.map Ez).take j).flatten++(Dc L[j].net++(Dl L[j]++[I9 11])):=by
    rw[D2 BZ,E6];simp[Ez]
   have eP:Hid (∀kb kt:List MI,kb.map MI.inst=Dc L[j].net->kt.map MI.inst=Dl L[j]->(k.length+kb.length+kt.length+1<=800)/\(((k++kb)++kt)++[mi0 11]).map MI.inst=((L.map Ez).take (j+1)).flatten):=by
    intro kb kt z J;have e0:(((k++kb)++kt)++[mi0 11]).map MI.inst=((L.map Ez).take (j+1)).flatten:=by
     rw[CU,CU,CU,fU.out,z,J,aX];simp only[EV];rfl
    have:=K _ _ e0
    simp only[CM,CH,CO] at this;exact⟨AQ,e0⟩
   clear aX;have ae:Hid (∀kb:List MI,kb.map MI.inst=Dc L[j].net->k.length+kb.length<=800):=by
    intro kb z;obtain⟨U,wJ⟩:∃U:List MI,U.map MI.inst=Dl L[j]:=⟨(Dl L[j]).map λi=>⟨i.code,⟨i.one.op,i.one.args,AG⟩⟩,by rw[FI];exact(JL λi _=>rfl).trans (List.map_id _)⟩
    have:=(eP kb U z wJ).1
    omega
   obtain⟨x,r⟩:=AA (L[j])
   rw[<-r] at HI rZ eP ae Z x1 D C M t;obtain⟨q0,s0,rfl,_⟩:=D.shape;obtain⟨q1,s1,rfl,_,_⟩:=C.shape;obtain⟨q2,s2,rfl,_⟩:=M.shape;obtain⟨q3,s3,rfl,_,_⟩:=t.shape;have mQ:Hid (∀V,AO g V->V.cell? (AK b (o+j*6))=some (AB x.net.kind)/\V.cell? (AK b (o+j*6+1))=some (AB x.net.one.op)/\V.cell? (AK b (o+j*6+2))=some (AE q0 x.net.one.args.length s0)/\V.cell? (AK b (o+j*6+3))=some (AE q1 x.net.kids.length s1)/\V.cell? (AK b (o+j*6+4))=some (AE q2 x.coils.length s2)/\V.cell? (AK b (o+j*6+5))=some (AE q3 x.kids.length s3)):=λV hV=>by
    have y:V.heap[b]?=g.heap[b]?:=hV.block b ao;exact⟨(World.cell?_of_block (a:=(AK b _)) y).trans Z,(World.cell?_of_block (a:=(AK b _)) y).trans x1,(World.cell?_of_block (a:=(AK b _)) y).trans x2,(World.cell?_of_block (a:=(AK b _)) y).trans x3,(World.cell?_of_block (a:=(AK b _)) y).trans x4,(World.cell?_of_block (a:=(AK b _)) y).trans x5⟩
   obtain⟨aB,aJ,aG,aE,aK,aD⟩:=mQ wr E;have aF:(j:Int)<(L.length:Int):=AQ
   clear r hn ag aj D C M t Z x1 x2 x3 x4 x5 K G Y zF ao
   go_wp2_with (first | (at_builtin;refine G7 (m:=mi0 11) rfl _ _ rfl g.heap.size a5 c5 ((k++kb)++kt) (by first | rfl | (simp[Act.eval,Nat.add_assoc];done) | (simp[Act.eval];omega)) (by first | rfl | (simp[Act.eval];done)) lH (IV _ _ _ _) yGg iL.size ?_;intro a6 c6 w6 kE ay;have az:Hid (Jz w6 g.heap.size (AE a6 (((k++kb)++kt).length+1) c6) (((k++kb)++kt)++[mi0 11])):=kE;clear kE;have ap:AO g w6:=iL.trans ay) | (at_builtin;refine Eo rfl _ _ rfl g.heap.size w3.heap.size w3 a3 c3 (k++kb) kt a4 c4 (by first | rfl | (simp[Act.eval];done)) rfl ax uI ac (CG _) yGg B.size ?_;intro a5 c5 w5 lD aw;have lH:Hid (Jz w5 g.heap.size (.slice a5 ((k++kb)++kt).length c5) ((k++kb)++kt)):=(by rw[CM];exact lD);clear lD;have iL:AO g w5:=B.trans ((ac.mono B.size).trans aw)) | (go_at_call 25;refine(HI w3 B).mono ?_;rintro e w4 ⟨a4,c4,kt,rfl,J,an,ac⟩;have nD:Hid (kt.map MI.inst=Dl x):=J;have uI:Hid (Jz w4 w3.heap.size (AE a4 kt.length c4) kt):=an;clear J an) | (at_builtin;refine Eo rfl _ _ rfl g.heap.size wr.heap.size wr A u k kb a2 c2 rfl rfl jM oP ab (CG _) (by have:=ae kb HKB.out;omega) jB ?_;intro a3 c3 w3 hr3 au;have ax:Hid (Jz w3 g.heap.size (.slice a3 (k++kb).length c3) (k++kb)):=yEf;clear hr3;have B:AO g w3:=E.trans ((ab.mono jB).trans au);obtain⟨tq,su,aI,ry,aC,ru⟩:=mQ w3 B) | (go_at_call 24;refine(rZ wr E).mono ?_;rintro e w2 ⟨a2,c2,kb,rfl,z,aa,ab⟩;have HKB:Hid (kb.map MI.inst=Dc x.net):=z;have oP:Hid (Jz w2 wr.heap.size (AE a2 kb.length c2) kb):=aa;clear z aa))
   exact⟨⟨j+1,a6,c6,((k++kb)++kt)++[mi0 11],AQ,by go_num,by rw[Value.slice.injEq];refine⟨rfl,?_,rfl⟩;simp only[CM,CH,CO];try omega,(eP kb kt HKB nD.out).2,by rw[CM];exact az.out,ap⟩,by simp[intOf];omega⟩
  ·obtain rfl:j=L.length:=by omega
   have P:=fU.out;rw[EA AU] at P;have pq:Hid (k.map MI.inst=(L.map Ez).flatten):=P;clear P
   go_wp2
   go_ret;exact⟨A,u,k,rfl,pq.out,jM.le R.size,R.trans (E.mono R.size)⟩
theorem Jz.nil (w:World)(base:Nat):Jz w base AG []:=⟨World.ownsRow_nil _ _ _ _,λx a=>by cases a⟩
set_option maxHeartbeats 4000000 in
set_option maxRecDepth 100000 in
theorem Axw (l:List Stil.B8)(f:Value)(w:World)(g:Fe w f l)(hl:l.length<=1048576)(i:Bz l<=1000000000)(j:∀x∈l,Dh x):
  Calls prog 7 #[f] w λe w'=>∃(a:Option Addr) (c:Nat) (d:List MI),e=.returned (.tuple #[AE a d.length c,AB (Hu l).2])/\d.map MI.inst=(Hu l).1/\Jz w' w.heap.size (AE a d.length c) d/\AO w w':=by
 have o:=AV (λW h=>NR l f W (g.below h) hl i j);have k:=AV (λW h=>Axx l f W (g.below h) hl i j);have m:=AV (λW h=>wh l f W (g.below h) hl i j);have q:=AV (λW h=>WR l f W (g.below h) hl i j);have A:Hu l=if 0<(Aw l).1 then([],1) else if 16<Jm l\/8<Hz l then([],2) else(Hy l,0):=rfl
 obtain⟨J,M,rfl,_⟩:=g;rw[A];clear A j i;generalize (Aw l).1=c at*;generalize (Aw l).2=r at*;generalize Jm l=x at*;generalize Hz l=y at*;generalize Hy l=L at*;have Q:=OL;by_cases u:0<c
 ·rw[if_pos u]
  clear k m q;go_enter func7,ntmps7
  go_wp2_with (go_at_call 13;refine(o _ AW).mono ?_;rintro e s ⟨rfl,t⟩)
  refine bodyPost_ret (v:=.tuple #[AG,AB 1]) (by simp[results,results7,go_sem]) rfl ⟨none,0,[],rfl,rfl,Jz.nil _ _,AW⟩
 rw[if_neg u];by_cases O:(16:Int)<x
 ·rw[if_pos (.inl AQ)]
  clear m q;go_enter func7,ntmps7
  go_wp2_with (first | (go_at_call 13;refine(o _ AW).mono ?_;rintro e s ⟨rfl,t⟩) | (go_at_call 21;refine(k _ AW).mono ?_;rintro e D ⟨rfl,E⟩))
  refine bodyPost_ret (v:=.tuple #[AG,AB 2]) (by simp[results,results7,go_sem]) rfl ⟨none,0,[],rfl,rfl,Jz.nil _ _,AW⟩
 by_cases P:(8:Int)<y
 ·rw[if_pos (.inr AQ)]
  clear q;go_enter func7,ntmps7
  go_wp2_with (first | (go_at_call 13;refine(o _ AW).mono ?_;rintro e s ⟨rfl,t⟩) | (go_at_call 21;refine(k _ AW).mono ?_;rintro e D ⟨rfl,E⟩) | (go_at_call 22;refine(m _ AW).mono ?_;rintro e w3 ⟨rfl,G⟩))
  refine bodyPost_ret (v:=.tuple #[AG,AB 2]) (by simp[results,results7,go_sem]) rfl ⟨none,0,[],rfl,rfl,Jz.nil _ _,AW⟩
 rw[if_neg AQ];go_enter func7,ntmps7
 go_wp2_with (first | (go_at_call 13;refine(o _ AW).mono ?_;rintro e s ⟨rfl,t⟩) | (go_at_call 21;refine(k _ AW).mono ?_;rintro e D ⟨rfl,E⟩) | (go_at_call 22;refine(m _ AW).mono ?_;rintro e w3 ⟨rfl,G⟩) | (go_at_call 9;refine(q _ AW).mono ?_;rintro e K ⟨B,z,d,rfl,C,F,N⟩;have H:=AV (F.le (by have:AO w w3:=AW;exact this.size));have I:=AV C;clear F C))
 refine bodyPost_ret (v:=.tuple #[AE B d.length z,AB 0]) (by simp[results,results7,go_sem]) rfl ⟨B,z,d,rfl,I.out,H.out,AW⟩
end Go.Proofs.YtifcnfeppdbjdaaGreatDoor
namespace Stil
theorem Vu {k:Int}(h:i64 k):(I9 k).fits:=⟨h,by unfold i64;simp[I9],by simp[I9],λd hd=>by cases hd⟩
theorem YK {k:Int}{n:B9}(d:k=2\/k=3)(c:Dw n)(h:∀x∈Dc n,x.fits):∀x∈Df k n,x.fits:=by
 intro x a;unfold Df RB at a;split at a
 ·rw[List.mem_singleton.1 a];exact⟨by unfold i64;simp only;omega,(Dz c).2.1⟩
 ·rcases List.mem_append.1 a with a | a
  ·exact h x a
  ·rw[List.mem_singleton.1 a];exact Vu yDh
theorem TJ (n:B9):Ai n=0->Dw n->∀x∈Dc n,x.fits:=by
 refine Gf (λn=>Ai n=0->Dw n->∀x∈Dc n,x.fits) ?_ n;intro k e kids g i j x a;have c:=(Lc _ _ _).1 j;have f:=Pj i;simp only at f;rcases H6 i with⟨rfl,rfl⟩ | ⟨s,m,_⟩ | ⟨rfl,_,y,rfl,_⟩
 ·rw[Qb] at a
  rw[List.mem_singleton.1 a];exact⟨by unfold i64;simp only;omega,c.2.1⟩
 ·cases kids with
  | nil=>simp at m
  | cons y r=>
   rw[O0 e y r AQ AQ] at a;rcases List.mem_append.1 a with a | a
   ·exact g y AU (f y AU) (c.2.2.2 y AU) x a
   ·obtain⟨l,o,q⟩:=List.mem_flatten.1 a
    obtain⟨z,d,rfl⟩:=List.mem_map.1 o;exact YK AQ (c.2.2.2 z (by simp[d])) (g z (by simp[d]) (f z (by simp[d])) (c.2.2.2 z (by simp[d]))) x q
 ·rw[Qc] at a
  rcases List.mem_append.1 a with a | a
  ·exact g y AU (f y AU) (c.2.2.2 y AU) x a
  ·rw[List.mem_singleton.1 a];exact Vu yDh
theorem pB {n:B9}(h:Iq n)(d:Dw n):∀x∈Dy n,x.fits:=by
 intro x i;obtain⟨l,f,g⟩:=List.mem_flatten.1 i;obtain⟨y,a,rfl⟩:=List.mem_map.1 f;have c:Ai y=0/\Dw y:=by
  unfold Ci at a;split at a
  ·cases a
  ·rename_i j
   have e:=h.resolve_left j;split at a
   ·exact⟨Pj e.2.2 y a,(Dz d).2.2.2 y a⟩
   ·rw[List.mem_singleton.1 a];exact⟨e.2.2,d⟩
 exact YK (.inl rfl) c.2 (TJ y c.1 c.2) x g
theorem pR (a:B8):E8 a->Dh a->∀x∈Dl a,x.fits:=by
 refine Gl (λa=>E8 a->Dh a->∀x∈Dl a,x.fits) ?_ a;intro n A kids o r u x e;obtain⟨_,j⟩:=(En _ _ _).1 r;obtain⟨_,_,s,_,g⟩:=(F7 _ _ _).1 u;rw[Wj] at e;rcases List.mem_append.1 e with e | e
 ·obtain⟨c,t,rfl⟩:=List.mem_map.1 e
  exact⟨by unfold i64;simp only;omega,s c t⟩
 ·obtain⟨l,q,d⟩:=List.mem_flatten.1 e
  obtain⟨i,hi,rfl⟩:=List.mem_iff_getElem.1 q;simp only[List.length_mapIdx] at hi;simp only[List.getElem_mapIdx,Jn,JE,E7] at d;have f:=CN hi;rcases d with d | d | d
  ·unfold Ff at d
   split at d
   ·cases d
   ·split at d
    ·rw[List.mem_singleton.1 d];exact Vu yDh
    ·split at d<;>(rw[List.mem_singleton.1 d];exact Vu yDh)
  ·have m:=j _ f
   have k:=g _ f;generalize kids[i]=y at*;obtain⟨B,z,C⟩:=y;exact pB ((En _ _ _).1 m).1 ((F7 _ _ _).1 k).1 x d
  ·exact o _ f (j _ f) (g _ f) x d
theorem WZ {l:List B8}(e:∀x∈l,Dh x):∀x∈Hy l,x.fits:=by
 intro x j;obtain⟨r,m,f⟩:=List.mem_flatten.1 j;obtain⟨a,c,rfl⟩:=List.mem_map.1 m;by_cases i:(Aw l).1=0
 ·have d:=(Tm e i).1 a c
  have g:=(Kt e).1 a c;have k:=d.net;have n:=d.fineA;clear d;unfold Ez at f;rcases List.mem_append.1 f with h | h
  ·exact TJ _ k.2.2 (Il g).1 x h
  ·rcases List.mem_append.1 h with h | h
   ·exact pR a n g x h
   ·rw[List.mem_singleton.1 h];exact Vu yDh
 ·rw[show Aq l=[] by unfold Aq;rw[if_neg i]] at c
  cases c
end Stil
namespace Go.Proofs.YtifcnfeppdbjdaaGreatDoor
open Tryz Go.RowKit Go.Sort Go.BigFrame Go.Co
def IPk (base:Nat)(w:World)(L:List Stil.Io)(v:Value)(b:Nat)(qs:List (List Pl)):Prop:=
 R2 w v b 0 qs/\JX w (Pq b 0 qs)/\(Pq b 0 qs).Nodup/\(∀p∈Pq b 0 qs,base<=p.1)/\(0<qs.length->base<=b)/\PR base w v L/\(Pq b 0 qs).length<=4611686018427387000
theorem eL (b:Nat):∀(o:Nat) (qs:List (List Pl)) (N:Nat),(∀q∈qs,q.length<=N)->(Pq b o qs).length<=qs.length*(N+2)
 | _,[],_,_=>by simp[Pq]
 | o,q::r,N,h=>by
  have c:=eL b (o+3) r N λx hx=>h x BS
  have a:=h q AU;rw[Pq];simp only[CH,CM,Nat.add_mul,Nat.one_mul];omega
theorem ES.pk {w:World}{base:Nat}{v:Value}{c:List MI}(h:ES w base v c)(W:∀x∈c,x.e.ds.length<=1048576)(hl:c.length<=1048576):∃b qs,IPk base w (c.map MI.inst) v b qs:=by
 obtain⟨al,K,z,B,s,U⟩:=h;by_cases R:c.length=0
 ·obtain rfl:=List.length_eq_zero_iff.1 R
  obtain⟨a,cap,rfl⟩:=Ah z;refine⟨0,[],⟨⟨a,cap,rfl,λh=>BE⟩,λi hi=>(by cases hi)⟩,λp j=>(by cases j),M4,λp j=>(by cases j),λh=>BE,⟨a,cap,rfl,λi hi=>(by cases hi)⟩,by simp[Pq]⟩
 obtain⟨g,cap,N,F,T,ae,A⟩:=Cb z AQ;have Q:=λx d=>uv (B x d)
 obtain⟨f,n⟩:∃f:MI->List Pl,∀x∈c,KW x.e.av (f x)/\JX w (f x)/\(f x).Nodup/\(∀p∈f x,base<=p.1/\x.e.av.ownBlock=some p.1)/\(f x).length=3*x.e.ds.length:=by
  classical
  refine⟨λx=>if h:∃u:List Pl,KW x.e.av u/\JX w u/\u.Nodup/\(∀p∈u,base<=p.1/\x.e.av.ownBlock=some p.1)/\u.length=3*x.e.ds.length then h.choose else [],λx d=>?_⟩;have h:=Q x d;simp only[h,dite_true];exact h.choose_spec
 have O:∀i (h:i<c.length),w.cell? (AK g (i*3))=some (AB c[i].code)/\w.cell? (AK g (i*3+1))=some (AB c[i].e.op)/\w.cell? (AK g (i*3+2))=some c[i].e.av:=by
  intro i hi;have ag:∀(l:List MI) (i:Nat) (h:i<l.length),(Gh l)[i*3]?=some (AB l[i].code)/\(Gh l)[i*3+1]?=some (AB l[i].e.op)/\(Gh l)[i*3+2]?=some l[i].e.av:=by
   intro l;induction l with
   | nil=>intro i h;cases h
   | cons m r G=>
    intro i h;have e:Gh (m::r)=AB m.code::AB m.e.op::m.e.av::Gh r:=rfl;cases i with
    | zero=>exact⟨rfl,rfl,rfl⟩
    | succ i=>
     obtain⟨M,J,P⟩:=G i BR;have e1:(i+1)*3=i*3+1+1+1:=AQ
     rw[e,e1];exact⟨M,J,P⟩
  obtain⟨M,J,P⟩:=ag c i hi;exact⟨A _ _ M,A _ _ J,A _ _ P⟩
 have Y:∀x∈c,∀p∈f x,p.1≠g:=λx d p j e=>by
  obtain⟨_,_,_,I,_⟩:=n x d;have h5:=U p.1 (List.mem_filterMap.2 ⟨x.e.av,FX (f:=λy:MI=>y.e.av) d,(I p j).2⟩);omega
 have ac:=vW (w:=w) (b:=g) (cap:=cap) (l:=c.map MI.inst) (qs:=c.map f) T AU (λi hi=>by
   simp only[CW] at hi;obtain⟨E,C,D⟩:=O i hi;obtain⟨h1,_⟩:=n c[i] (CN hi);simp only[EI];exact⟨E,C,_,D,h1,Dk.of_owns (B _ (CN hi))⟩) (λo=>by
   have X:=z;rw[N] at X;exact X.frozenAt o) (λq t=>by
   obtain⟨x,d,rfl⟩:=List.mem_map.1 t;obtain⟨_,V,h3,_⟩:=n x d;exact⟨V,h3,Y x d⟩) (by
   rw[List.pairwise_map];have j:c.Pairwise λx y=>∀k,x.e.av.ownBlock=some k->y.e.av.ownBlock≠some k:=by
    clear O Y n Q A z B W hl R U N ae;induction c with
    | nil=>exact List.Pairwise.nil
    | cons m r G=>
     rw[CP] at s;unfold bl at s;rw[List.filterMap_cons] at s;refine List.pairwise_cons.2 ⟨λy H k hk af=>?_,?_⟩
     ·rw[hk] at s
      exact(List.nodup_cons.1 s).1 (List.mem_filterMap.2 ⟨y.e.av,FX (f:=λai:MI=>ai.e.av) H,af⟩)
     ·refine G ?_
      unfold bl
      revert s
      cases m.e.av.ownBlock with
      | none=>exact id
      | some k=>exact λh=>(List.nodup_cons.1 h).2
   refine j.imp_of_mem fun {x y} d H ak p ab aa=>?_
   obtain⟨_,_,_,I,_⟩:=n x d;obtain⟨_,_,_,ah,_⟩:=n y H
   exact ak p.1 (I p ab).2 (ah p aa).2)
 obtain⟨S,Z,s3,_⟩:=ac;rw[CW] at S;rw[N];refine⟨g,c.map f,S,Z,s3,λp j=>?_,λ_=>by omega,?_,?_⟩
 ·rcases Vt g _ 0 p j with⟨i,_,e | e⟩ | ⟨q,t,aj⟩
  ·rw[e];exact CJ K F
  ·rw[e];exact CJ K F
  ·obtain⟨x,d,rfl⟩:=List.mem_map.1 t
   exact((n x d).2.2.2.1 p aj).1
 ·refine⟨some (AK g 0),cap,by rw[CW],λi hi=>?_⟩
  simp only[CW] at hi;obtain⟨E,C,D⟩:=O i hi;simp only[EI];refine⟨g,0,rfl,CJ K F,T,?_⟩;rw[CV];exact⟨E,C,_,D,Ny.of_owns (B _ (CN hi))⟩
 ·have:=eL g 0 (c.map f) 3145728 λq t=>by
   obtain⟨x,d,rfl⟩:=List.mem_map.1 t;have:=(n x d).2.2.2.2
   have:=W x d
   omega
  rw[CW] at this;have V:c.length*(3145728+2)<=1048576*(3145728+2):=FD _ hl;omega
section
variable {base : Nat}{w w' : World}{L : List Stil.Io}{v : Value}{b : Nat}{qs : List (List Pl)}
end
