import Derived.Test.YtifcnfeppdbjdaaGreatDoorG5
set_option maxHeartbeats 4000000
set_option maxRecDepth 100000
namespace Go.Proofs.YtifcnfeppdbjdaaGreatDoor
open Tryz Stil Go.RowKit Go.Sort Go.BigFrame
theorem zj0 {p:Prop}(h:p:=by
 go_enter func53,ntmps53
 go_wp2_with (go_at_call 52;refine(HC _ AW).mono ?_;rintro e w1 ⟨a1,c1,rfl,ho1,hb1⟩)
 go_ret;exact uP _ _ _ (Joins.ownsRow_le ho1 AU) (by have:=hb1.size;simp at this;omega) AW):p:=h
theorem SB (k:Int)(J:k=2\/k=3)(x:Stil.B9)(T:x.one.args.length<=1048576)(S:(Dc x).length<=900000)(I:x.kind≠1->KC 24 x (Dc x)):NI k x (Df k x):=by
 intro N M w r A;have z:=AV (λW (h:AO w W)=>(r.below h).at);have s:=AV (λd W h=>I d N M W (r.below h) (A.below h));obtain⟨Z,r0,rfl,R⟩:=r.shape;obtain⟨Y,r1,rfl,V,_⟩:=A.shape;clear I R V r A;by_cases d:x.kind=1
 ·have o:=AV (Qz k x d)
  rw[o.out];have HC:=AV (λW h=>RE x.one _ W (z W h) T);rw[d];clear o s z d;have K:∀(W:World) (a:Option Addr) (c:Nat),W.ownsRow w.heap.size 55 3 (AE a x.one.args.length c) x.one.args.length (Au x.one.args)->w.heap.size<=W.heap.size->AO w W->∃(H:Option Addr) (G:Nat) (b:List MI),Ending.returned (AE (some (AL W 0)) 1 1)=.returned (AE H b.length G)/\b.map MI.inst=[⟨k,x.one⟩]/\Jz (W.alloc (.cells #[AB k,AB x.one.op,AE a x.one.args.length c] 53)) w.heap.size (AE H b.length G) b/\AO w (W.alloc (.cells #[AB k,AB x.one.op,AE a x.one.args.length c] 53)):=by
   intro W a c U X O;exact⟨_,1,[⟨k,⟨x.one.op,x.one.args,AE a x.one.args.length c⟩⟩],rfl,rfl,Jz.single (m:=⟨k,⟨x.one.op,x.one.args,AE a x.one.args.length c⟩⟩) U X,Bd O _⟩
  have uP:=K;clear K;rcases J with rfl | rfl
  ·exact zj0
  ·exact zj0
 ·have o:=AV (Oc k x d)
  rw[o.out];have aa:(x.kind==1)=false:=by rw[CS];exact d
  have D:=s d;have E:=AV D;have F:∀b:List MI,b.map MI.inst=Dc x->b.length<=900000:=λb h=>by rw[<-CW (f:=MI.inst),h];exact S
  have L:=AV F;clear o s D z d F;rcases J with rfl | rfl
  ·go_enter func53,ntmps53
   go_wp2_with (first | (go_at_call 24;refine(E _ AW).mono ?_;rintro e w1 ⟨a1,c1,b,rfl,g,q,hb1⟩;have j:=AV g;clear g;have P:=L b j.out;have u:Hid (Jz w1 w.heap.size (AE a1 b.length c1) b):=q.le AU;clear q;have l:AO w w1:=AW) | (at_builtin;refine G7 (m:=mi0 4) rfl _ _ rfl w.heap.size a1 c1 b rfl rfl u (IV _ _ _ _) AQ l.size ?_;intro v y Q i B;have C:=AV i;clear i;have t:=l.trans B))
   go_ret;exact⟨v,y,b++[mi0 4],by rw[CM];rfl,by rw[CU,j.out];rfl,by rw[CM];exact C.out,t⟩
  ·go_enter func53,ntmps53
   go_wp2_with (first | (go_at_call 24;refine(E _ AW).mono ?_;rintro e w1 ⟨a1,c1,b,rfl,g,q,hb1⟩;have j:=AV g;clear g;have P:=L b j.out;have u:Hid (Jz w1 w.heap.size (AE a1 b.length c1) b):=q.le AU;clear q;have l:AO w w1:=AW) | (at_builtin;refine G7 (m:=mi0 5) rfl _ _ rfl w.heap.size a1 c1 b rfl rfl u (IV _ _ _ _) AQ l.size ?_;intro v y Q i B;have C:=AV i;clear i;have t:=l.trans B))
   go_ret;exact⟨v,y,b++[mi0 5],by rw[CM];rfl,by rw[CU,j.out];rfl,by rw[CM];exact C.out,t⟩
theorem Ss (n:Stil.B9):Stil.shp n->Dw n->Af n<=1000->KC 24 n (Dc n):=by
 induction n using Gf with
 | h k e kids U=>
  intro Q af T av nv w u t;simp only at u t;have G:=j3 Q;simp only at G;have P:=XT Q;have E:=QS _ Q;have D:=(Lc _ _ _).1 af;rw[Eg] at T;simp only at T;have z:∀x∈kids,Af x<=1000:=λx hx=>by have:Af x<=Stil.sizes kids:=D9 Af kids x hx;omega
  have ab:kids.length<=1000:=by have:=Js kids;omega
  by_cases h1:k=1
  ·subst h1
   rw[Qb];have HC:Hid (∀W,AO w W->Calls prog 52 #[.agg #[AB e.op,av]] W λr C=>∃a c,r=.returned (.agg #[AB e.op,AE a e.args.length c])/\C.ownsRow W.heap.size 55 3 (AE a e.args.length c) e.args.length (Au e.args)/\AO W C):=λW h=>RE e _ W ((u.below h).at) D.2.1.2.1
   obtain⟨p0,r0,rfl,K⟩:=u.shape;obtain⟨p1,r1,rfl,an,_⟩:=t.shape;have uP:Hid (∀(W:World) (a:Option Addr) (c:Nat),W.ownsRow w.heap.size 55 3 (AE a e.args.length c) e.args.length (Au e.args)->w.heap.size<=W.heap.size->AO w W->∃(a':Option Addr) (c':Nat) (g:List MI),Ending.returned (AE (some (AL W 0)) 1 1)=.returned (AE a' g.length c')/\g.map MI.inst=[⟨1,e⟩]/\Jz (W.alloc (.cells #[AB 1,AB e.op,AE a e.args.length c] 53)) w.heap.size (AE a' g.length c') g/\AO w (W.alloc (.cells #[AB 1,AB e.op,AE a e.args.length c] 53))):=by
    intro W a c ho hb hB;exact⟨_,1,[⟨1,⟨e.op,e.args,AE a e.args.length c⟩⟩],rfl,rfl,Jz.single (m:=⟨1,⟨e.op,e.args,AE a e.args.length c⟩⟩) ho hb,Bd hB _⟩
   clear K an U z ab Q G P T u t af D E;go_enter func24,ntmps24
   go_wp2_with (go_at_call 52;refine(HC _ AW).mono ?_;rintro e A ⟨L,N,rfl,aJ,F⟩)
   go_ret;exact uP _ _ _ (Joins.ownsRow_le aJ AU) (by have:=F.size;simp at this;omega) AW
  ·have aK:kids≠[]:=by
    rcases P with⟨h,_⟩ | ⟨_,h,_⟩ | ⟨_,_,x,h,_⟩
    ·exact absurd h h1
    ·intro h0;rw[h0] at h;simp at h
    ·intro h0;rw[h0] at h;cases h
   obtain⟨x,r,rfl⟩:=MW aK;have jA:Hid (∀W,AO w W->Lp W nv (x::r)):=λW h=>t.below h
   obtain⟨p0,r0,rfl,K⟩:=u.shape;obtain⟨p1,r1,rfl,aH,M⟩:=t.shape;obtain⟨b,o,rfl,ag,B⟩:=M 0 AU;simp only[EP,FG,EO] at B;have⟨x0,x1,jW,jT,x2,x3,eY,eX⟩:=B.open;have HZ:Hid (∀W,AO w W->Calls prog 24 #[.agg #[AB x.kind,AB x.one.op,jW,jT]] W λe C=>∃(a:Option Addr) (c:Nat) (g:List MI),e=.returned (AE a g.length c)/\g.map MI.inst=Dc x/\Jz C W.heap.size (AE a g.length c) g/\AO W C):=λW h=>U x AU (G x AU) (D.2.2.2 x AU) (z x AU) jW jT W (eY.below h) (eX.below h)
   have ac:∀y∈x::r,(Dc y).length<=900000:=λy s=>by have:=QS y (G y s);have:=z y s;omega
   have ap:r.length<=999:=by simp only[CH] at ab;omega
   have ak:k=4->r=[]:=by
    intro h4;rcases P with⟨h,_⟩ | ⟨h,_,_⟩ | ⟨_,_,aS,h,_⟩
    ·omega
    ·omega
    ·simp only[List.cons.injEq] at h;exact h.2
   obtain⟨q0,s0,rfl,ay⟩:=eY.shape;obtain⟨q1,s1,rfl,aB,_⟩:=eX.shape;have az:Hid (∀g:List MI,g.map MI.inst=Dc x->g.length<=900000):=λg h=>by rw[<-CW (f:=MI.inst),h];exact ac x AU
   by_cases h4:k=4
   ·subst h4
    have aI:=ak rfl;subst aI;rw[Qc];simp only[CH,CO,CV];clear K ay aB M B U z ab aH u t eY eX Q G P T ak jA af D E ac ap;go_enter func24,ntmps24
    go_wp2_with (first | (go_at_call 24;refine(HZ _ AW).mono ?_;rintro e A ⟨L,N,g,rfl,Z,aa,F⟩;have oH:Hid (g.map MI.inst=Dc x):=Z;clear Z;have aQ:=az g oH.out;have ae:Hid (Jz A w.heap.size (AE L g.length N) g):=aa.le AU;clear aa;have aV:AO w A:=AW) | (at_builtin;refine G7 (m:=mi0 6) rfl _ _ rfl w.heap.size L N g rfl rfl ae (IV _ _ _ _) AQ aV.size ?_;intro Y c2 O S J;have ai:Hid (Jz O w.heap.size (AE Y (g.length+1) c2) (g++[mi0 6])):=S;clear S;have aP:AO w O:=aV.trans J))
    go_ret;exact⟨Y,c2,g++[mi0 6],by rw[CM];rfl,by rw[CU,oH.out];rfl,by rw[CM];exact ai.out,aP⟩
   ·have gJ:k=2\/k=3:=by
     rcases P with⟨h,_⟩ | ⟨h,_,_⟩ | ⟨h,_⟩<;>omega
    have HY:Hid (∀y∈r,NI k y (Df k y)):=λy s=>SB k gJ y ((Dz (D.2.2.2 y (CQ _ s))).2.1.2.1) (ac y (CQ _ s)) λ_=>U y (CQ _ s) (G y (CQ _ s)) (D.2.2.2 y (CQ _ s)) (z y (CQ _ s))
    have a5:(k==1)=false:=by rw[CS];exact h1
    have gm:(k==4)=false:=by rw[CS];exact h4
    have al:=O0 (k:=k) e x r h1 h4;have dY:Hid (∀(j:Nat) (g:List MI),g.map MI.inst=Dc x++((r.take j).map (Df k)).flatten->g.length<=900000):=by
     intro j g h;rw[<-CW (f:=MI.inst),h];rw[al] at E;have h2:((r.take j).map (Df k)).flatten.length<=(r.map (Df k)).flatten.length:=by
      conv=>rhs;rw[<-IG j r,CU,E6,CM]
      omega
     rw[CM] at E ⊢;rw[Eg] at E;simp only at E;omega
    rw[al];simp only[CH];have⟨m,hm⟩:=AA r.length
    have aU:Hid (m=r.length):=hm;rw[<-hm] at ap ⊢;clear K ay aB M B U z ab hm aH u t eY eX Q G P T ak af D E ac al az;have aZ:(0:Int)<(m:Int)+1:=AQ
    go_enter func24,ntmps24
    go_wp2_with (go_at_call 24;refine(HZ _ AW).mono ?_;rintro e A ⟨L,N,g,rfl,Z,aa,F⟩;have oH:Hid (g.map MI.inst=Dc x):=Z;clear Z;have ae:Hid (Jz A (w.heap.size+1) (AE L g.length N) g):=aa.le AU;clear aa;have y0:A.cell? (AL w 0)=some (AB k):=(A3 F);have y3:A.cell? (AL w 3)=some (AE (some (AK b o)) (m+1) r1):=(A3 F);have an:w.heap.size<A.heap.size:=CB AU F.size)
    have aV:AO w A:=AW;clear F x0 x1 x2 x3 HZ;have iD:Hid (b<w.heap.size):=ag;clear ag;go_loopw [3,4] (λd i wr=>∃(j:Nat) (R:Option Addr) (H:Nat) (l:List MI),j<=m/\i=AB ((j:Int)+1)/\d=AE R l.length H/\l.map MI.inst=Dc x++((r.take j).map (Df k)).flatten/\Jz wr (w.heap.size+1) (AE R l.length H) l/\Below (w.heap.size+1) A wr) (λ_ i _=>m+1 - (intOf i).toNat)
    case atStart=>exact⟨0,L,N,g,AQ,rfl,rfl,by rw[oH.out];simp,ae.out,Below.refl _ _⟩
    case round=>
     obtain⟨j,R,H,l,hj,rfl,rfl,ar,X,hb⟩:=hrel;have fU:Hid (l.map MI.inst=Dc x++((r.take j).map (Df k)).flatten):=ar;have jM:Hid (Jz wr (w.heap.size+1) (AE R l.length H) l):=X;clear ar X oH ae;have aG:AO w wr:=aV.trans (hb.mono AQ);have jB:w.heap.size<wr.heap.size:=CB an hb.size;have aE:wr.cell? (AL w 0)=some (AB k):=(World.cell?_of_block (a:=(AL w 0)) (hb.block _ AU)).trans y0;have rq:wr.cell? (AL w 3)=some (AE (some (AK b o)) (m+1) r1):=(World.cell?_of_block (a:=(AL w 3)) (hb.block _ AU)).trans y3;by_cases aY:j<m
     ·have X:j<r.length:=by have:=aU.out;omega
      have⟨pa,pc,aF,_,M⟩:=(jA wr aG).shape;simp only[CH,Value.slice.injEq,true_and] at aF;obtain⟨rfl,rfl⟩:=aF;have⟨b2,o2,iT,ag,B⟩:=M (j+1) (by simp only[CH];omega);simp only[CZ,Addr.mk.injEq,E0] at iT;obtain⟨rfl,rfl⟩:=iT;simp only[J1] at B;have⟨x0,x1,av,nv,x2,x3,u,t⟩:=B.open;have HI:Hid (∀V,AO wr V->Calls prog 53 #[AB k, .agg #[AB r[j].kind,AB r[j].one.op,av,nv]] V λe C=>∃(a:Option Addr) (c:Nat) (g:List MI),e=.returned (AE a g.length c)/\g.map MI.inst=Df k r[j]/\Jz C V.heap.size (AE a g.length c) g/\AO V C):=λV h=>HY r[j] (CN X) av nv V (u.below h) (t.below h)
      have aX:Hid (((r.take (j+1)).map (Df k)).flatten=((r.take j).map (Df k)).flatten++Df k r[j]):=by
       show _=_
       rw[D2 X,CU,E6];simp
      have⟨y,s⟩:=AA (r[j])
      rw[<-s] at HI aX x0 x1 u t;obtain⟨ax,ao,rfl,K⟩:=u.shape;obtain⟨aA,aC,rfl,kC,_⟩:=t.shape;have aW:(0:Int)<=(j:Int)+1:=AQ
      have aT:(j:Int)+1<(m:Int)+1:=AQ
      have a7:((j:Int)+1).toNat=j+1:=AQ
      have eP:Hid (∀q:List MI,q.map MI.inst=Df k y->l.length+q.length<=1000000/\(l++q).map MI.inst=Dc x++((r.take (j+1)).map (Df k)).flatten):=by
       intro q z;have h1:(l++q).map MI.inst=Dc x++((r.take (j+1)).map (Df k)).flatten:=by rw[CU,fU.out,z,aX.out,EV]
       have h2:=dY _ _ h1;rw[CM] at h2;exact⟨AQ,h1⟩
      have mQ:Hid (∀V,Below (w.heap.size+1) wr V->(V.cell? (AL w 0)=some (AB k)/\V.cell? (AL w 3)=some (AE (some (AK b o)) (m+1) r1)/\V.cell? (AK b (o+(j+1)*4))=some (AB y.kind)/\V.cell? (AK b (o+(j+1)*4+1))=some (AB y.one.op)/\V.cell? (AK b (o+(j+1)*4+2))=some (AE ax y.one.args.length ao)/\V.cell? (AK b (o+(j+1)*4+3))=some (AE aA y.kids.length aC))):=λV hV=>by
       have aR:=iD.out;have e0:V.heap[w.heap.size]?=wr.heap[w.heap.size]?:=hV.block _ AQ;have e1:V.heap[b]?=wr.heap[b]?:=hV.block _ AQ;exact⟨(World.cell?_of_block (a:=(AL w 0)) e0).trans aE,(World.cell?_of_block (a:=(AL w 3)) e0).trans rq,(World.cell?_of_block (a:=(AK b _)) e1).trans x0,(World.cell?_of_block (a:=(AK b _)) e1).trans x1,(World.cell?_of_block (a:=(AK b _)) e1).trans x2,(World.cell?_of_block (a:=(AK b _)) e1).trans x3⟩
      clear K kC s B M u t ag aX jA HY;go_upto_region 10 with fail
      go_region_held3 (λI=>(I.cell? (AL w 0)=some (AB k)/\I.cell? (AL w 3)=some (AE (some (AK b o)) (m+1) r1)/\I.cell? (AK b (o+(j+1)*4))=some (AB y.kind)/\I.cell? (AK b (o+(j+1)*4+1))=some (AB y.one.op)/\I.cell? (AK b (o+(j+1)*4+2))=some (AE ax y.one.args.length ao)/\I.cell? (AK b (o+(j+1)*4+3))=some (AE aA y.kids.length aC))) (first | with_reducible assumption | with_reducible exact⟨JZ.trans aE,JZ.trans rq,JZ.trans x0,JZ.trans x1,JZ.trans x2,JZ.trans x3⟩ | skip) (first | (refine ot rfl _ _ rfl (w.heap.size+1) wr.heap.size wr R H l q Y c2 rfl rfl jM.out ai.out J (CG _) (eP.out q dQ.out).1 BF ?_;intro a3 c3 w3 aw au;have aO:Hid (Jz w3 (w.heap.size+1) (AE a3 (l.length+q.length) c3) (l++q)):=aw;clear aw;have aL:Below (w.heap.size+1) A w3:=hb.trans ((J.mono BF).trans au);have aM:=mQ.out w3 ((J.mono BF).trans au)) | (go_simp;go_at_call 53;refine(HI.out _ yEb).mono ?_;rintro e O ⟨Y,c2,q,rfl,z,S,aD⟩;have dQ:Hid (q.map MI.inst=Df k y):=z;have ai:Hid (Jz O wr.heap.size (AE Y q.length c2) q):=S;have J:AO wr O:=((Below.refl wr.heap.size wr).drew).trans aD;have aN:=mQ.out O (J.mono BF);clear z S aD))
      all_goals
       have aj:=eP q dQ.out;have vN:Hid ((l++q).map MI.inst=Dc x++((r.take (j+1)).map (Df k)).flatten):=aj.2;have a6:=aj.1;clear aj eP mQ aM aN HI
       go_wp2
       exact⟨⟨j+1,a3,c3,l++q,AQ,by go_num,by rw[CM],vN.out,by rw[CM];exact aO.out,aL⟩,by simp[intOf];omega⟩
     ·obtain rfl:j=m:=by omega
      have ah:=fU.out;rw[EA (by rw[<-aU.out];exact CG _)] at ah;have eF:Hid (l.map MI.inst=Dc x++(r.map (Df k)).flatten):=ah;clear ah
      go_wp2
      go_ret;exact⟨R,H,l,rfl,eF.out,jM.le AQ,aG⟩
theorem fS (n:Stil.B9)(hf:Iq n)(G:Dw n)(hs:Stil.BK n<=400):KC 54 n (Dy n):=by
 intro D C w s r;have Q:=XE hf;have H:Hid (∀y∈Ci n,NI 2 y (Df 2 y)):=by
  intro y o;have J:Ai y=0/\Dw y/\Af y<=400:=by
   have h3:=LS n y o;unfold Ci at o;split at o
   ·cases o
   ·rename_i U
    have ah:=hf.resolve_left U;split at o
    ·exact⟨Pj ah.2.2 y o,(Dz G).2.2.2 y o,AQ⟩
    ·rw[List.mem_singleton.1 o] at h3 ⊢;exact⟨ah.2.2,G,AQ⟩
  exact SB 2 (.inl rfl) y (Dz J.2.1).2.1.2.1 (by have:=QM y J.1;omega) λ_=>Ss y (RD y J.1) J.2.1 (CJ J.2.2 AY)
 have F:Hid (∀W,AO w W->Calls prog 62 #[.agg #[AB n.kind,AB n.one.op,D,C]] W (AN W (.bool (Am n)))):=by
  intro W h;exact LL n D C W ((s.below h).at) ((r.below h).at) (by have:=(Dz G).2.1.2.1;omega) (by have:=(Dz G).2.2.1;omega)
 have T:Hid (∀W,AO w W->Td W D n.one.args):=λW h=>s.below h
 have L:Hid (∀W,AO w W->Lp W C n.kids):=λW h=>r.below h
 have t:Hid (Ci n=if Am n then [] else if n.kind=2 then n.kids else [n]):=rfl;have u:Hid (Dy n=((Ci n).map (Df 2)).flatten):=rfl;obtain⟨p0,r0,rfl,ab⟩:=s.shape;obtain⟨N,R,rfl,ac,z⟩:=r.shape;have ak:n.kids.length<=1048576:=(Dz G).2.2.1;clear ab ac s r hf G;have⟨X,ag⟩:=AA (Am n)
 rw[<-ag] at F t;clear ag;cases X with
 | true=>
  have aw:Hid (Dy n=[]):=by show _=_;rw[u.out,t.out];rfl
  rw[aw.out];clear t u H T L Q z;go_enter func54,ntmps54
  go_wp2_with (go_at_call 62;refine(F _ AW).mono ?_;rintro e l ⟨rfl,q⟩)
  go_ret;exact⟨none,0,[],rfl,rfl,⟨World.ownsRow_nil _ _ _ _,λx Z=>by cases Z⟩,AW⟩
 | false=>
  by_cases h2:n.kind=2
  ·have K:Hid (Ci n=n.kids):=by show _=_;rw[t.out,if_neg AY,if_pos h2]
   rw[K.out] at u H;rw[u.out];rw[h2] at F ⊢;have ax:=z;have dY:Hid (∀(j:Nat) (k:List MI),k.map MI.inst=((n.kids.take j).map (Df 2)).flatten->k.length<=800):=by
    intro j k h;rw[<-CW (f:=MI.inst),h];rw[u.out] at Q;have h2:((n.kids.take j).map (Df 2)).flatten.length<=(n.kids.map (Df 2)).flatten.length:=by
     conv=>rhs;rw[<-IG j n.kids,CU,E6,CM]
     omega
    omega
   have⟨m,hm⟩:=AA n.kids.length
   have aU:Hid (m=n.kids.length):=hm;rw[<-hm] at F ak ⊢;clear t u K Q z ax h2 hm T;go_enter func54,ntmps54
   go_wp2_with (go_at_call 62;refine(F _ AW).mono ?_;rintro e l ⟨rfl,q⟩;have y0:l.cell? (AL w 0)=some (AB 2):=(A3 q);have y3:l.cell? (AL w 3)=some (AE N m R):=(A3 q);have ac:w.heap.size<l.heap.size:=CB AU q.size;have aV:AO w l:=AW;clear q)
   go_loopw [3,4] (λd i wr=>∃(j:Nat) (I:Option Addr) (B:Nat) (b:List MI),j<=m/\i=AB (j:Int)/\d=AE I b.length B/\b.map MI.inst=((n.kids.take j).map (Df 2)).flatten/\Jz wr (w.heap.size+1) (AE I b.length B) b/\Below (w.heap.size+1) l wr) (λ_ i _=>m - (intOf i).toNat)
   case atStart=>
    refine⟨0,some (AL l 0),0,[],AQ,rfl,rfl,AU,⟨?_,λx Z=>by cases Z⟩,((Aa l _).mono AQ)⟩;exact World.ownsRow_lit l #[] 0 AQ A6 rfl
   case round=>
    obtain⟨j,I,B,b,hj,rfl,rfl,ae,E,hb⟩:=hrel;have fU:Hid (b.map MI.inst=((n.kids.take j).map (Df 2)).flatten):=ae;have jM:Hid (Jz wr (w.heap.size+1) (AE I b.length B) b):=E;clear ae E;have aj:AO w wr:=aV.trans (hb.mono AQ);have jB:w.heap.size<wr.heap.size:=CB ac hb.size;have rq:wr.cell? (AL w 3)=some (AE N m R):=(World.cell?_of_block (a:=(AL w 3)) (hb.block _ AU)).trans y3;by_cases aB:j<m
    ·have E:j<n.kids.length:=by have:=aU.out;omega
     have⟨pa,pc,ai,_,z⟩:=(L wr aj).shape;simp only[Value.slice.injEq,true_and] at ai;obtain⟨rfl,rfl⟩:=ai;have⟨b2,o2,iT,aF,U⟩:=z j E;subst iT;have⟨x0,x1,D,C,x2,x3,s,r⟩:=U.open;have HI:Hid (∀V,AO wr V->Calls prog 53 #[AB 2, .agg #[AB n.kids[j].kind,AB n.kids[j].one.op,D,C]] V λe A=>∃(a:Option Addr) (c:Nat) (k:List MI),e=.returned (AE a k.length c)/\k.map MI.inst=Df 2 n.kids[j]/\Jz A V.heap.size (AE a k.length c) k/\AO V A):=λV h=>H n.kids[j] (CN E) D C V (s.below h) (r.below h)
     have aX:Hid (((n.kids.take (j+1)).map (Df 2)).flatten=((n.kids.take j).map (Df 2)).flatten++Df 2 n.kids[j]):=by
      show _=_
      rw[D2 E,CU,E6];simp
     have⟨y,o⟩:=AA (n.kids[j])
     rw[<-o] at HI aX x0 x1 s r;obtain⟨az,ay,rfl,ab⟩:=s.shape;obtain⟨aC,aD,rfl,kC,_⟩:=r.shape;have eP:Hid (∀g:List MI,g.map MI.inst=Df 2 y->b.length+g.length<=1000000/\(b++g).map MI.inst=((n.kids.take (j+1)).map (Df 2)).flatten):=by
      intro g O;have h1:(b++g).map MI.inst=((n.kids.take (j+1)).map (Df 2)).flatten:=by rw[CU,fU.out,O,aX.out]
      have h2:=dY _ _ h1;rw[CM] at h2;exact⟨AQ,h1⟩
     clear ab kC o U z s r aX L H;have aA:(j:Int)<(m:Int):=AQ
     go_wp2_with (first | (go_at_call 53;refine(HI _ (Below.refl _ _)).mono ?_;rintro e w2 ⟨P,S,g,rfl,O,M,aa⟩;have dQ:Hid (g.map MI.inst=Df 2 y):=O;have an:Hid (Jz w2 wr.heap.size (AE P g.length S) g):=M;clear O M) | (at_builtin;refine Eo rfl _ _ rfl (w.heap.size+1) wr.heap.size wr I B b g P S rfl rfl jM an aa (CG _) (eP g dQ.out).1 AQ ?_;intro a3 c3 w3 af ao;have au:Hid (Jz w3 (w.heap.size+1) (AE a3 (b.length+g.length) c3) (b++g)):=af;clear af;have ap:Below (w.heap.size+1) l w3:=hb.trans ((aa.mono AQ).trans ao)))
     exact⟨⟨j+1,a3,c3,b++g,AQ,by go_num,by rw[CM],(eP g dQ.out).2,by rw[CM];exact au.out,ap⟩,by simp[intOf];omega⟩
    ·obtain rfl:j=m:=by omega
     have Y:=fU.out;rw[EA (by rw[<-aU.out];exact CG _)] at Y;have eF:Hid (b.map MI.inst=(n.kids.map (Df 2)).flatten):=Y;clear Y
     go_wp2
     go_ret;exact⟨I,B,b,rfl,eF.out,jM.le AQ,aj⟩
  ·have K:Hid (Dy n=Df 2 n):=by
    show _=_
    rw[u.out,t.out,if_neg AY,if_neg h2];simp
   have xq:Hid (∀W,AO w W->Calls prog 53 #[AB 2, .agg #[AB n.kind,AB n.one.op,AE p0 n.one.args.length r0,AE N n.kids.length R]] W λe A=>∃(a:Option Addr) (c:Nat) (k:List MI),e=.returned (AE a k.length c)/\k.map MI.inst=Df 2 n/\Jz A W.heap.size (AE a k.length c) k/\AO W A):=λW h=>H n (by rw[t.out,if_neg AY,if_neg h2];simp) _ _ W (T W h) (L W h)
   rw[K.out];have aE:(n.kind==2)=false:=by rw[CS];exact h2
   clear t u K H T L Q z h2;go_enter func54,ntmps54
   go_wp2_with (first | (go_at_call 62;refine(F _ AW).mono ?_;rintro e l ⟨rfl,q⟩;have y0:l.cell? (AL w 0)=some (AB n.kind):=(A3 q);have y1:l.cell? (AL w 1)=some (AB n.one.op):=(A3 q);have y2:l.cell? (AL w 2)=some (AE p0 n.one.args.length r0):=(A3 q);have y3:l.cell? (AL w 3)=some (AE N n.kids.length R):=(A3 q)) | (go_at_call 53;refine(xq _ AW).mono ?_;rintro e w2 ⟨P,S,k,rfl,ar,M,aa⟩;have al:=q.size;simp only[World.alloc,K0] at al))
   go_ret;exact⟨P,S,k,rfl,ar,M.le AQ,AW⟩
