import Derived.Test.YtmnnkedjoecehaaGreatDoorGt
set_option maxHeartbeats 4000000
set_option maxRecDepth 100000
namespace Go.Proofs.YtmnnkedjoecehaaGreatDoor
open Tryz Stil Go.RowKit Go.Sort Go.BigFrame
variable {base:Nat}
def Rj:Ap:=⟨0,0,[],AG,AG,[]⟩
theorem Zp:Rj.net=Stil.none0:=by rw[Ap.net_eq];rfl
theorem Ni:Rj.vals=[AG,AG]:=by rw[Ap.vals_eq];rfl
theorem YT (w:World)(base:Nat):MOk w base Rj:=(Jt _ _ _).2 ⟨World.ownsRow_nil _ _ _ _,World.ownsRow_nil _ _ _ _,λx a=>by cases a⟩
theorem QX {x:Value}(hx:x∈Rj.vals):x.ownBlock=none:=by
 rw[Ni] at hx;simp only[C7,KI,DR,or_self] at hx;rw[hx];rfl
theorem Lo {w1 i:World}{l lA:Nat}{e c:Value}{b:List Eo}{d:List Bz}(h:Vy w1 l e b)(f:Tj i lA c d)(r:AO w1 i)(h1:base<=l)(s:w1.heap.size<=lA)(t:base<=lA):
  Lu i base ⟨Rj,e,b,c,d⟩/\∀x∈(Bz.mk Rj e b c d).vals,∀q,x.ownBlock=some q->(l<=q/\q<w1.heap.size)\/(lA<=q/\q<i.heap.size):=by
 have m:(Bz.mk Rj e b c d).vals=Rj.vals++((e::Gv b)++(c::Iq d)):=Bz.vals_eq _;have o:=(h.below r).le h1;have p:=f.le t;refine⟨⟨(Ji _ _ _).2 ⟨YT _ _,⟨o.1,o.2.1⟩,p.1,p.2.1⟩,?_⟩,?_⟩
 ·rw[m,JW]
  refine⟨?_,List.pairwise_append.2 ⟨h.2.2,f.2.2,λx a y u=>He (n:=w1.heap.size) (λk j=>(h.lt x a k j).2) (λk j=>CM s (f.lt y u k j).1)⟩,λx a y _=>.inl (QX a)⟩;rw[Ni];exact List.pairwise_cons.2 ⟨λy _=>P9 y,G2 _ _⟩
 ·intro x a q g
  rw[m] at a;rcases List.mem_append.1 a with a | a
  ·rw[QX a] at g;cases g
  rcases List.mem_append.1 a with a | a
  ·exact .inl (h.lt x a q g)
  ·exact .inr (f.lt x a q g)
theorem Lu.setNet {w:World}{lo:Nat}{m:Bz}{a:Ap}(h:Lu w base m)(b:Lt w base a)(hl:∀x∈a.vals,∀q,x.ownBlock=some q->lo<=q)(c:∀x∈m.vals,∀q,x.ownBlock=some q->q<lo):Lu w base ⟨a,m.cv,m.coils,m.kv,m.kids⟩:=by
 obtain⟨g,d⟩:=h;obtain⟨_,j,l,f⟩:=(Ji _ _ _).1 g;have e:(Bz.mk a m.cv m.coils m.kv m.kids).vals=a.vals++((m.cv::Gv m.coils)++(m.kv::Iq m.kids)):=Bz.vals_eq _;have o:m.vals=m.net.vals++((m.cv::Gv m.coils)++(m.kv::Iq m.kids)):=Bz.vals_eq _;rw[o] at d c;refine⟨(Ji _ _ _).2 ⟨b.1,j,l,f⟩,?_⟩;rw[e];exact List.pairwise_append.2 ⟨b.2,(List.pairwise_append.1 d).2.1,λx i y k=>(He (n:=lo) (c y (Da _ k)) (hl x i)).symm⟩
theorem Lu.setN {w:World}{b:Nat}{m:Bz}{g f d e:Value}(h:Lu w base m)(c:∀x∈m.vals,x.ownBlock≠some b):Lu ((((w.setCell (AK b 0) g).setCell (AK b 1) f).setCell (AK b 2) d).setCell (AK b 3) e) base m:=
 Lu.setO (Lu.setO (Lu.setO (Lu.setO h (a:=(AK b 0)) c g) (a:=(AK b 1)) c f) (a:=(AK b 2)) c d) (a:=(AK b 3)) c e
theorem Yx {w:World}(m:Bz)(h:AOk w base m):∃k o d n j e l ns i f a c g b,m=⟨⟨k,o,d,AE n d.length j,AE e ns.length l,ns⟩,AE i a.length f,a,AE c b.length g,b⟩:=by
 obtain⟨⟨k,o,d,v,x,ns⟩,y,a,u,b⟩:=m;obtain⟨t,⟨p,_⟩,s,_⟩:=(Ji _ _ _).1 h;obtain⟨q,r,_⟩:=(Jt _ _ _).1 t;simp only at p s q r;obtain⟨n,j,rfl⟩:=Af q;obtain⟨e,l,rfl⟩:=Af r;obtain⟨i,f,rfl⟩:=Af p;obtain⟨c,g,rfl⟩:=Af s;exact⟨k,o,d,n,j,e,l,ns,i,f,a,c,g,b,rfl⟩
theorem YW {w:World}{a:Option Addr}{c:Nat}{m:Bz}(h:w.ownsRow base 62 6 (AE a 1 c) 1 (Jg [m])):∃g,a=some (AK g 0)/\g<w.heap.size/\w.cell? (AK g 0)=some (AB m.net.kind)/\w.cell? (AK g 1)=some (AB m.net.op)/\w.cell? (AK g 2)=some m.net.av/\w.cell? (AK g 3)=some m.net.kv/\w.cell? (AK g 4)=some m.cv/\w.cell? (AK g 5)=some m.kv:=by
 obtain⟨g,cap,d,_,k,_,b⟩:=Bg h AQ;simp only[Value.slice.injEq] at d;obtain⟨q1,l,e,j,i,f⟩:=Wx [m] 0 AU;exact⟨g,d.1,k,by simpa using b _ _ q1,by simpa using b _ _ l,by simpa using b _ _ e,by simpa using b _ _ j,by simpa using b _ _ i,by simpa using b _ _ f⟩
def NSt (w wc:World)(B:Nat)(m:Bz):Prop:=w.heap.size+2<=B/\NT wc B m/\Lu wc (w.heap.size+2) m/\(∀x∈m.vals,x.ownBlock≠some B)/\B6 wc (w.heap.size+1) (AB 0) (AB 0) AG AG AG AG/\AO w wc
theorem zr {p:Prop}(h:p:=by
 have hlt5:=iC.1
 have pJ:∀x∈(Bz.mk ⟨mk,aH,aG,AE xa aG.length ya,AE xb dA.length yb,dA⟩ (AE xc dB.length yc) dB (AE xd aF.length yd) aF).vals,x.ownBlock≠some B:=by
  intro x hx e;rcases fU.out x hx _ e with⟨y,hy,e2⟩ | h
  ·exact qg y hy e2
  ·omega
 have hb2:=HB2.out;refine⟨⟨⟨mk,aH,aG,AE xa aG.length ya,AE xb dA.length yb,dA⟩,AE xc dB.length yc,dB,AE xd aF.length yd,aF⟩,⟨hb2,iD.set6,Lu.setO6 aT pJ,pJ,((mV.drew).grown rY yS.out).set6O hBne,?_⟩,?_,?_,?_⟩
 ·have vO:=(jU.drew).grown rY jU.size rZ.out
  have hle:w.heap.size<=B:=AQ
  exact Dq hle (Dq hle (Dq hle (Dq hle (Dq hle (Dq hle vO _) _) _) _) _) _
 ·rw[aO.out,CU]
  exact HJ2.out
 ·rw[aO.out,CU]
  exact dZ.out
 ·rw[aO.out]
  exact CG _):p:=h
theorem z8 {p:Prop}(h:p:=by
 rw[<-yN.out]
 refine(Uo _ ?_).symm;intro kid e h;have e':=(congrArg Stil.B9.kids HE.out).symm.trans e;simp only[List.cons.injEq,FG] at e';rcases h with h | h
 ·have h2:=congrArg List.length ((congrArg Stil.B9.coils HE.out).symm.trans h)
  simp only[CW,CP] at h2;have:=eF.out
  omega
 ·rw[<-e'] at h
  simp only at h;rw[<-HT2.out] at h;cases h):p:=h
theorem zt0 {p:Prop}(h:p:=by
 have e:=kF.out
 rw[Bz.arm_eq] at e ⊢;simp only[Stil.B9.mk.injEq] at e ⊢;exact⟨by rw[aO.out,dY.out],e.2.1,e.2.2⟩):p:=h
theorem zA0 {p:Prop}(h:p:=by
 have xH:=Bh hbw hb4
 have hle:w.heap.size<=B:=AQ
 exact Dq hle (Dq hle (Dq hle (Dq hle xH _) _) _) _):p:=h
theorem Az0 (a:Stil.B9):Dh a->Ak a<=900000->∀(av nv cv kv:Value) (w:World),Dj w av a.net.one.args->Gg w nv a.net.kids->Ir w cv a.coils->E8 w kv a.kids->Calls prog 57 #[.agg #[AB a.net.kind,AB a.net.one.op,av,nv,cv,kv]] w λe w'=>K0 w' w.heap.size (Bo a) e/\AO w w':=by
 induction a using Fq with
 | h n F kids ih=>
  intro aI P av nv cv kv w ap aJ a6 aQ;obtain⟨ba,bz,bg,aM,dF⟩:=(Fz _ _ _).1 aI;simp only at ap aJ a6 aQ;have aS:∀x∈kids,Ak x<=900000:=by
   intro x hx;have:Ak x<=Iu kids:=Eb Ak kids x hx;rw[Cf] at P;omega
  have bq:kids.length<=999999:=by
   have h1:kids.length<=Iu kids:=by
    clear ih aI P aQ aM dF aS;unfold Iu;induction kids with
    | nil=>simp
    | cons x bS b8=>
     have:=Stil.Np x
     simp only[CH,CQ,DO];omega
   rw[Cf] at P;omega
  have bn:F.length<=999999:=by
   rw[Cf] at P;omega
  have bf:Am n=false->Ai n<=999999:=by
   intro h;rw[Cf] at P;have e:Stil.BK n=Ai n:=if_neg yDi;omega
  have H1:=AV (λW h=>vh F (λx hx av w ap=>OG x.op av x.args w ap (bg x hx).2.1) cv W (a6.below h) bn);have H2:=AV (λW h=>VY kids (λx hx=>ih x hx (dF x hx) (aS x hx)) kv W (aQ.below h) bq);have H3:=AV (λW h=>Ve n av nv W (ap.below h) (aJ.below h) ba);have H4:=AV (λhn W h=>Azz n ba (bf hn) av nv W (ap.below h) (aJ.below h));have HJ:=AV (Pg n F kids);have HM:Hid (Z9 900000 ⟨U2 n,F,kids.map Bo⟩):=by
   have:=QB aI P (λx hx=>Zo x (dF x hx) (aS x hx))
   exact⟨this.1,CM this.2 P⟩
  obtain⟨aE,hT⟩:=AA (Bo ⟨n,F,kids⟩)
  rw[<-hT] at HJ ⊢;obtain⟨ks,iw⟩:=AA (kids.map Bo)
  rw[<-iw] at HJ HM H2;obtain⟨p0,r0,rfl,bF⟩:=ap;obtain⟨p1,r1,rfl,ak⟩:=aJ;obtain⟨p2,r2,rfl,aj⟩:=a6;obtain⟨p3,r3,rfl,bN⟩:=aQ;clear bF ak aj bN ih aI P ba bz bg aM dF aS bq bn bf hT iw;go_enter func57,ntmps57;go_upto_region 1 with fail
  go_step3
  go_upto_region 1 with fail
  obtain⟨W,hW⟩:=AA ((w.alloc (.cells #[AB n.kind,AB n.one.op,AE p0 n.one.args.length r0,AE p1 n.kids.length r1,AE p2 F.length r2,AE p3 kids.length r3] 62)).alloc (.cells #[AB 0,AB 0,AG,AG,AG,AG] 62))
  rw[<-hW];have hA:B6 W w.heap.size (AB n.kind) (AB n.one.op) (AE p0 n.one.args.length r0) (AE p1 n.kids.length r1) (AE p2 F.length r2) (AE p3 kids.length r3):=by rw[hW];exact(B6.new w _ _ _ _ _ _ _).at (Aa _ _)
  have hZ:B6 W (w.heap.size+1) (AB 0) (AB 0) AG AG AG AG:=by rw[hW];have:=B6.new (w.alloc (.cells #[AB n.kind,AB n.one.op,AE p0 n.one.args.length r0,AE p1 n.kids.length r1,AE p2 F.length r2,AE p3 kids.length r3] 62)) (AB 0) (AB 0) AG AG AG AG 62;simpa using this
  have bj:W.heap.size=w.heap.size+2:=by rw[hW];simp
  have az:AO w W:=by rw[hW];exact Bi (Aa _ _) _
  clear hW;have HA:=AV hA;have HZ:=AV hZ;have bG:=AV bj;have ao:w.heap.size<W.heap.size:=AQ
  obtain⟨_,⟨_,_,_,_,p4,p5⟩,_⟩:=hA;clear hZ bj;go_cut [3] (λs3 wc=>∃(B:Nat) (m:Bz),s3=AH B/\NSt w wc B m/\m.arm=⟨Stil.none0,F,ks⟩/\B6 wc w.heap.size (AB n.kind) (AB n.one.op) (AE p0 n.one.args.length r0) (AE p1 n.kids.length r1) (AE p2 F.length r2) (AE p3 kids.length r3))
  case first=>
   go_region_held3 (λW'=>(W'.cell? (AL w 4)=some (AE p2 F.length r2)/\W'.cell? (AL w 5)=some (AE p3 kids.length r3))) (first | with_reducible assumption | with_reducible exact⟨Gs.trans p4,Gs.trans p5⟩ | with_reducible exact⟨Gs.trans ((Ez ao).trans p4),Gs.trans ((Ez ao).trans p5)⟩ | with_reducible exact⟨(Ez aj).trans ac.1,(Ez aj).trans ac.2⟩ | with_reducible exact⟨(Ez ak).trans aD.1,(Ez ak).trans aD.2⟩ | with_reducible exact⟨set6O a3 ac.1,set6O a3 ac.2⟩ | with_reducible exact⟨set6O (KH aj) ((Ez aj).trans ac.1),set6O (KH aj) ((Ez aj).trans ac.2)⟩ | skip) (first | (go_at_call 90;refine(H1.out _ (by first | exact az.drew | exact(Bi az _).drew)).mono ?_;rintro e w1 ⟨ra,rc,Q,rfl,G,aC,ar⟩;have L:AO W w1:=(by first | exact Bh (Below.refl _ _).drew ar | exact Bh (Bi (Below.refl _ _) _).drew ar);have aP:=az.trans (L.mono az.size);have ak:=CB ao L.size;have aD:(w1.cell? (AL w 4)=some (AE p2 F.length r2)/\w1.cell? (AL w 5)=some (AE p3 kids.length r3)):=⟨(L.cell (p:=(AL w 4)) ao).trans p4,(L.cell (p:=(AL w 5)) ao).trans p5⟩;have su:=AV G;have ry:Hid (Vy w1 _ (AE ra Q.length rc) Q):=aC;have bA:Hid (Below _ _ w1):=ar;(try have bw:=(B6.new W _ _ _ _ _ _ 62).drew.at ar);clear G aC) | (go_at_call 56;refine(H2.out _ (by first | exact aP | exact Bi aP _)).mono ?_;rintro e w2 ⟨sa,sc,N,rfl,G,aC,hb2⟩;have K:AO w1 w2:=(by first | exact hb2 | exact Bh (Bi (Below.refl _ _) _) hb2);have ab:=aP.trans (K.mono aP.size);have aj:=CB ak K.size;have ac:(w2.cell? (AL w 4)=some (AE p2 F.length r2)/\w2.cell? (AL w 5)=some (AE p3 kids.length r3)):=⟨(K.cell (p:=(AL w 4)) ak).trans aD.1,(K.cell (p:=(AL w 5)) ak).trans aD.2⟩;have a8:=AV G;have uS:Hid (Tj w2 _ (AE sa N.length sc) N):=aC;have HB2:Hid (Below _ _ w2):=hb2;(first | (have ax:=bw.at hb2;have a3:=KH ao;have dH:=AV ax;obtain⟨_,⟨t0,t1,t2,t3,t4,t5⟩,f⟩:=ax;have f0:=f 0 BF;have E:=f 1 BF;have f2:=f 2 BF;have f3:=f 3 BF;have f4:=f 4 BF;have f5:=f 5 BF;clear f bw) | (have ax:=(B6.new w1 _ _ _ _ _ _ 62).at hb2;have a3:=KH ak;have dH:=AV ax;obtain⟨_,⟨t0,t1,t2,t3,t4,t5⟩,f⟩:=ax;have f0:=f 0 BF;have E:=f 1 BF;have f2:=f 2 BF;have f3:=f 3 BF;have f4:=f 4 BF;have f5:=f 5 BF;clear f) | skip);clear G aC))
   ·go_wp2
    go_meet;have bm:=bG.out;have R:=Bh L K;obtain⟨ho,hv⟩:=Lo (base:=w.heap.size+2) ry uS K yGe (CG _) (by have:=L.size;omega);have P:=R.size;refine⟨w2.heap.size,⟨Rj,AE ra Q.length rc,Q,AE sa N.length sc,N⟩,rfl,⟨AQ,B6.new _ _ _ _ _ _ _ _,ho.below (Aa _ _),λx hx e=>by(have h:=hv x hx _ e;have:=K.size;omega),(HZ.at R).at (Aa _ _),Bi ab _⟩,?_,(HA.at R).at (Aa _ _)⟩;rw[Bz.arm_eq];simp only;rw[su.out,a8.out,Zp]
   ·go_wp2
    go_meet;have bm:=bG.out;have R:=Bh L K;obtain⟨ho,hv⟩:=Lo (base:=w.heap.size+2) ry uS K yGe AU (by have:=L.size;simp;omega);have P:=R.size;have bR:=L.size;have H:∀x∈(Bz.mk Rj (AE ra Q.length rc) Q (AE sa N.length sc) N).vals,x.ownBlock≠some w1.heap.size:=λx hx e=>by(have h:=hv x hx _ e;simp at h;omega)
    refine⟨w1.heap.size,⟨Rj,AE ra Q.length rc,Q,AE sa N.length sc,N⟩,rfl,⟨by omega,dH.out.set6,Lu.setO6 ho H,H,(HZ.out.at R).set6O BF,by clear ar hb2 L K;exact AW⟩,?_,(HA.out.at R).set6O BF⟩;rw[Bz.arm_eq];simp only;rw[su.out,a8.out,Zp]
   ·go_wp2
    go_meet;have bm:=bG.out;have R:=Bh L K;obtain⟨ho,hv⟩:=Lo (base:=w.heap.size+2) ry uS K (by show _<=(W.alloc _).heap.size;simp;omega) (CG _) (by have:=L.size;omega);have P:=R.size;have bR:=CB (by show W.heap.size<(W.alloc _).heap.size;simp) bA.size;have H:∀x∈(Bz.mk Rj (AE ra Q.length rc) Q (AE sa N.length sc) N).vals,x.ownBlock≠some W.heap.size:=λx hx e=>by(have h:=hv x hx _ e;have h2:W.heap.size<(W.alloc (.cells #[.int .i64 0,.int .i64 0,.slice none 0 0,.slice none 0 0,.slice none 0 0,.slice none 0 0] 62)).drew.heap.size:=(by show W.heap.size<(W.alloc _).heap.size;simp);omega)
    refine⟨W.heap.size,⟨Rj,AE ra Q.length rc,Q,AE sa N.length sc,N⟩,rfl,⟨by omega,dH.out.set6,Lu.setO6 ho H,H,(HZ.out.at R).set6O BF,by clear ar hb2 L K;exact AW⟩,?_,(HA.out.at R).set6O BF⟩;rw[Bz.arm_eq];simp only;rw[su.out,a8.out,Zp]
  case rest=>
   clear p4 p5 az ao bG HA HZ;obtain⟨B,m,rfl,al,ay,hA⟩:=hcut;have ah:=AV al;have kF:=AV ay;have HA:=AV hA;clear al ay H1 H2;obtain⟨au,⟨bp,bi,bu,zV,bK,bI⟩,bH⟩:=hA;clear bH;obtain⟨ab,ae,aa,H,ag,hbw⟩:=ah.out;obtain⟨t,ht⟩:=AA (Am n)
   have HT:=AV ht;have fM:Hid (∀W,AO wc W->Calls prog 91 #[.agg #[AB n.kind,AB n.one.op,AE p0 n.one.args.length r0,AE p1 n.kids.length r1]] W (AN W (.bool t))):=by rw[ht];exact λW h=>H3 W (hbw.trans (h.mono hbw.size))
   have dP:Hid (t=false->∀W,AO wc W->Calls prog 92 #[.agg #[AB n.kind,AB n.one.op,AE p0 n.one.args.length r0,AE p1 n.kids.length r1]] W λe w'=>Si w' W.heap.size (Au n) e/\AO W w'):=by rw[ht];exact λhn W h=>H4 hn W (hbw.trans (h.mono hbw.size))
   clear ht H3 H4 ab ae aa H ag hbw;go_upto_if 14 with(go_at_call 91;refine(fM _ AW).mono ?_;rintro e w3 ⟨rfl,af⟩;obtain⟨aw,aN⟩:=En af;have wO:=CB au af.size;have q0:w3.cell? (AL w 0)=_:=(aw _ _ au).trans bp;have q1:w3.cell? (AL w 1)=_:=(aw _ _ au).trans bi;have q2:w3.cell? (AL w 2)=_:=(aw _ _ au).trans bu;have q3:w3.cell? (AL w 3)=_:=(aw _ _ au).trans zV;clear aw aN)
   clear fM;have jO:Hid (NSt w w3 B m):=by
    obtain⟨ab,ae,aa,H,ag,hbw⟩:=ah.out;exact⟨ab,ae.at af,aa.below af,H,ag.at af,Bh hbw af⟩
   have nT:=AV (λh=>dP h w3 af);clear ah HA au bp bi bu zV bK bI af dP;go_cut [] (λwd=>∃m:Bz,NSt w wd B m/\m.arm=⟨U2 n,F,ks⟩)
   case first=>
    cases t with
    | true=>
     have dY:Hid (U2 n=n/\n=Stil.none0):=⟨if_pos HT.symm,Yw HT.symm⟩
     clear nT
     go_wp2
     go_meet;exact⟨m,jO.out,by rw[kF.out,dY.out.1,dY.out.2]⟩
    | false=>
     have dY:Hid (U2 n=Au n):=if_neg (by rw[<-HT.out];exact FV);have zS:=AV (nT rfl);clear nT
     go_wp2_with (go_at_call 92;refine zS.mono ?_;rintro e b ⟨⟨mk,aH,aG,s0,t0,j,t1,aF,rfl,ai,G⟩,hb4⟩;have aT:=AV ai;have aO:=AV G;clear ai G;have rD:Hid (NT b B m):=B6.at jO.2.1 hb4;obtain⟨b6,⟨y0,y1,y2,y3,_,_⟩,Z⟩:=rD.out;have f0:=Z 0 AQ;have E:=Z 1 AQ;have f2:=Z 2 AQ;have f3:=Z 3 AQ;clear Z)
     go_meet;obtain⟨ab,ae,aa,H,ag,hbw⟩:=jO.out;have b9:=hb4.size;have P:=hbw.size;have b7:=ae.1;have hN:Lt b (w.heap.size+2) ⟨mk,aH,aG,AE s0 aG.length t0,AE j aF.length t1,aF⟩:=aT.le AQ;have gm:=Lu.setNet (aa.below hb4) hN (λx hx q hq=>(aT.1.lt _ x hx q hq).1) (λx hx q hq=>(aa.1.lt _ x hx q hq).2);have pM:∀x∈(Bz.mk ⟨mk,aH,aG,AE s0 aG.length t0,AE j aF.length t1,aF⟩ m.cv m.coils m.kv m.kids).vals,x.ownBlock≠some B:=by
      intro x hx e;rw[Bz.vals_eq] at hx;rcases List.mem_append.1 hx with hx | hx
      ·have:=(aT.1.lt _ x hx _ e).1;omega
      ·exact H x (by rw[Bz.vals_eq];exact Da _ hx) e
     refine⟨⟨⟨mk,aH,aG,AE s0 aG.length t0,AE j aF.length t1,aF⟩,m.cv,m.coils,m.kv,m.kids⟩,⟨ab,B6.setN rD.out,Lu.setN gm pM,pM,B6.set4O (ag.at hb4) AQ,?_⟩,?_⟩
     ·exact zA0
     ·exact zt0
   case rest=>
    rename_i wd;obtain⟨m2,al,ay⟩:=hcut;clear kF jO nT q0 q1 q2 q3;have ah:=AV al;have kF:=AV ay;clear al ay
    go_wp2
    go_step3
    go_wp2
    go_loopg [] (Iu m2.arm.kids) (λk wr=>∃m:Bz,NSt w wr B m/\Stil.joined m.arm=aE/\Z9 900000 m.arm/\Iu m.arm.kids<=k)
    case atStart=>
     exact⟨m2,ah.out,by rw[kF.out,HJ.out],by rw[kF.out];exact HM.out,CG _⟩
    case round=>
     clear ah kF HJ HM HT;obtain⟨m3,al,bc,a9,bo⟩:=hrel;obtain⟨ab,ae,aa,H,ag,hbw⟩:=al;obtain⟨U,T,D,Y,S,X,V,C,E,M,j,h1,j1,bM,rfl⟩:=Yx m3 aa.1;have iL:B6 wr B (AB U) (AB T) (AE Y D.length S) (AE X C.length V) (AE E j.length M) (AE h1 bM.length j1):=ae;have dH:=AV iL;have fO:=AV aa;have dY:=AV H;have uG:=AV ag;have fZ:=AV hbw;have yN:=AV bc;have bC:=AV a9;have bO:=AV bo;have HB2:=AV ab;have aM:bM.length<=900000/\j.length<=900000:=by
      have h0:=a9.2;rw[Bz.arm_eq,Cf] at h0;simp only[CW] at h0;have h1:(bM.map Bz.arm).length<=Iu (bM.map Bz.arm):=Oj _;rw[CW] at h1;omega
     obtain⟨wZ,bE⟩:=aM;obtain⟨J,⟨x0,x1,x2,x3,x4,x5⟩,Z⟩:=iL;obtain⟨I,⟨z0,z1,z2,z3,z4,z5⟩,mP⟩:=ag;have y0:=mP 0 AQ;have y1:=mP 1 AQ;have y2:=mP 2 AQ;have y3:=mP 3 AQ;have y4:=mP 4 AQ;have y5:=mP 5 AQ;have hBne:w.heap.size+1≠B:=AQ
     clear ae aa H hbw bc a9 bo ab mP wO;by_cases hk:bM.length=1
     ·obtain⟨kid,rfl⟩:=List.length_eq_one_iff.1 hk
      obtain⟨_,_,aX,aV⟩:=(Ji _ _ _).1 fO.1;simp only at aX aV;obtain⟨r,o,c,u,s,z,e2,d,f2,g2,A,h2,j2,l,rfl⟩:=Yx kid (aV kid AU);obtain⟨g,rfl,an,q0,q1,q2,q3,q4,q5⟩:=YW aX;simp only[EF] at*;have bk:=(Ji _ _ _).1 (aV (Bz.mk ⟨r,o,c,AE u c.length s,AE z d.length e2,d⟩ (AE f2 A.length g2) A (AE h2 l.length j2) l) AU);obtain⟨aN,O⟩:=MOk.from _ bk.1;have HE:Hid ((Bz.mk ⟨U,T,D,AE Y D.length S,AE X C.length V,C⟩ (AE E j.length M) j (AE (some (AK g 0)) 1 j1) [(Bz.mk ⟨r,o,c,AE u c.length s,AE z d.length e2,d⟩ (AE f2 A.length g2) A (AE h2 l.length j2) l)]).arm=⟨(Ap.mk U T D (AE Y D.length S) (AE X C.length V) C).net,j.map Eo.elem,[⟨(Ap.mk r o c (AE u c.length s) (AE z d.length e2) d).net,A.map Eo.elem,l.map Bz.arm⟩]⟩):=by
       show _=_
       rw[Bz.arm_eq];simp only[CQ,C6];rw[Bz.arm_eq (Bz.mk ⟨r,o,c,AE u c.length s,AE z d.length e2,d⟩ (AE f2 A.length g2) A (AE h2 l.length j2) l)]
      have wX:=bC.out;rw[HE.out] at wX;have br:=Qf wX (CG _);simp only at br;obtain⟨bs,ac,bh,bb,aZ,bv⟩:=br;simp only[CW] at aZ;have kE:Hid (∀W,AO wr W->Calls prog 91 #[.agg #[AB r,AB o,AE u c.length s,AE z d.length e2]] W (AN W (.bool (Am (Ap.mk r o c (AE u c.length s) (AE z d.length e2) d).net)))):=by
       intro W h;have:=Ve (Ap.mk r o c (AE u c.length s) (AE z d.length e2) d).net _ _ W (aN.at.below h) (O.at.below h) bb
       have e:=Ap.net_eq (Ap.mk r o c (AE u c.length s) (AE z d.length e2) d);have qL:(Ap.mk r o c (AE u c.length s) (AE z d.length e2) d).net.kind=r:=by rw[e]
       have qJ:(Ap.mk r o c (AE u c.length s) (AE z d.length e2) d).net.one.op=o:=by rw[e]
       rw[qL,qJ] at this;exact this
      have oK:=AV (λW h=>Avi U T D Y S X V C E M j (some (AK g 0)) j1 r o c u s z e2 d f2 g2 A h2 j2 l (w.heap.size+2) W (fO.below h) (CM (by have:=HB2.out;omega) h.size) ac bh bb aZ);have aW:Value.slice E j.length M∈(Bz.mk ⟨U,T,D,AE Y D.length S,AE X C.length V,C⟩ (AE E j.length M) j (AE (some (AK g 0)) 1 j1) [(Bz.mk ⟨r,o,c,AE u c.length s,AE z d.length e2,d⟩ (AE f2 A.length g2) A (AE h2 l.length j2) l)]).vals:=by rw[Bz.vals_eq];simp
      have eX:=AV (dY _ aW);have rZ:Hid (∀q,(Value.slice E j.length M).ownBlock=some q->w.heap.size<=q):=λq hq=>by have:=(fO.1.lt _ _ aW q hq).1;omega
      have yS:Hid ((Value.slice E j.length M).ownBlock≠some (w.heap.size+1)):=λe=>by have:=(fO.1.lt _ _ aW _ e).1;omega
      have qx:Hid (Iu (l.map Bz.arm)<gk):=by
       have h1:=bO.out;rw[HE.out] at h1;exact CB bv h1
      have lY:=yN.out;rw[HE.out] at lY;obtain⟨X1,aK⟩:∃a5,a5=(Ap.mk U T D (AE Y D.length S) (AE X C.length V) C).net:=⟨_,rfl⟩
      obtain⟨X2,aR⟩:∃a5,a5=(Ap.mk r o c (AE u c.length s) (AE z d.length e2) d).net:=⟨_,rfl⟩
      obtain⟨t2,aL⟩:∃t,t=Am (Ap.mk r o c (AE u c.length s) (AE z d.length e2) d).net:=⟨_,rfl⟩
      obtain⟨OV,zJ⟩:=AA ((Bz.mk ⟨U,T,D,AE Y D.length S,AE X C.length V,C⟩ (AE E j.length M) j (AE (some (AK g 0)) 1 j1) [(Bz.mk ⟨r,o,c,AE u c.length s,AE z d.length e2,d⟩ (AE f2 A.length g2) A (AE h2 l.length j2) l)]).vals)
      obtain⟨ln,aU⟩:=AA j.length
      have eF:=AV aU;have HT2:=AV aL;rw[<-aL] at kE;have qZ:Hid (j.map Eo.elem=[]\/t2=true->Stil.joined ⟨L8 X1 X2,j.map Eo.elem++A.map Eo.elem,l.map Bz.arm⟩=aE):=by
       intro h;rw[aK,aR,<-lY];exact(VT _ _ ⟨(Ap.mk r o c (AE u c.length s) (AE z d.length e2) d).net,A.map Eo.elem,l.map Bz.arm⟩ (by rw[<-aL];exact h)).symm
      have dZ:Hid (Z9 900000 ⟨L8 X1 X2,j.map Eo.elem++A.map Eo.elem,l.map Bz.arm⟩):=by rw[aK,aR];exact bs
      have qg:Hid (∀x∈OV,x.ownBlock≠some B):=by rw[zJ];exact dY.out
      rw[<-aK,<-aR,<-zJ,<-aU] at oK;rw[<-aU] at x4 dH bE eX rZ yS;have jW:=AV (λW (h:AO wr W)=>fO.below h);clear hk aX aV bk aN O wX bs ac bh bb aZ bv lY aK aR aL zJ aU aW fO dY wZ;by_cases hc:0<ln
      ·cases t2 with
       | false=>
        clear oK qZ Z
        go_wp2_with (go_at_call 91;refine(kE _ AW).mono ?_;rintro e b ⟨rfl,hb4⟩;obtain⟨i,O⟩:=En hb4;have xW:=CB J hb4.size;have xJ:=CB I hb4.size;have bL:b.cell? (AK B 0)=_:=(i _ _ J).trans x0;have bJ:b.cell? (AK B 1)=_:=(i _ _ J).trans x1;have bQ:b.cell? (AK B 2)=_:=(i _ _ J).trans x2;have bB:b.cell? (AK B 3)=_:=(i _ _ J).trans x3;have bP:b.cell? (AK B 4)=_:=(i _ _ J).trans x4;have bD:b.cell? (AK B 5)=_:=(i _ _ J).trans x5;have v0:b.cell? (AK (w.heap.size+1) 0)=_:=(i _ _ I).trans z0;have v1:b.cell? (AK (w.heap.size+1) 1)=_:=(i _ _ I).trans z1;have v2:b.cell? (AK (w.heap.size+1) 2)=_:=(i _ _ I).trans z2;have v3:b.cell? (AK (w.heap.size+1) 3)=_:=(i _ _ I).trans z3;have v4:b.cell? (AK (w.heap.size+1) 4)=_:=(i _ _ I).trans z4;have v5:b.cell? (AK (w.heap.size+1) 5)=_:=(i _ _ I).trans z5;have bX:b.frozen? (AK (w.heap.size+1) 0)=_:=(O _ _ I).trans y0;have b0:b.frozen? (AK (w.heap.size+1) 1)=_:=(O _ _ I).trans y1;have bT:b.frozen? (AK (w.heap.size+1) 2)=_:=(O _ _ I).trans y2;have bV:b.frozen? (AK (w.heap.size+1) 3)=_:=(O _ _ I).trans y3;have bZ:b.frozen? (AK (w.heap.size+1) 4)=_:=(O _ _ I).trans y4;have bW:b.frozen? (AK (w.heap.size+1) 5)=_:=(O _ _ I).trans y5;clear i O)
        have yV:=AV (Bh fZ hb4);have lF:=jW b hb4;rw[Exit.noGoto_ret];refine bodyPost_ret (v:=.agg #[AB U,AB T,AE Y D.length S,AE X C.length V,AE E ln M,AE (some (AK g 0)) 1 j1]) (by simp[results,results57,go_sem,v0,v1,v2,v3,v4,v5]) rfl ⟨⟨U,T,D,Y,S,C,X,V,j,E,M,[(Bz.mk ⟨r,o,c,AE u c.length s,AE z d.length e2,d⟩ (AE f2 A.length g2) A (AE h2 l.length j2) l)],(some (AK g 0)),j1,by rw[<-eF.out];rfl,?_,?_⟩,?_⟩
        ·exact Lu.le (Lu.setO6 (base:=w.heap.size+2) lF (λx hx e=>by have:=(lF.1.lt _ x hx _ e).1;omega)) AQ
        ·exact z8
        ·exact Dq (Db _) (Dq (Db _) (Dq (Db _) (Dq (Db _) (Dq (Db _) (Dq (Db _) yV _) _) _) _) _) _
       | true=>
        have HJ2:=AV (qZ (.inr rfl));clear qZ Z jW HE HT2 z0 z1 z2 z3 z4 z5 y0 y1 y2 y3 y4 y5;go_upto_region 6 with(go_at_call 91;refine(kE _ AW).mono ?_;rintro e b ⟨rfl,hb4⟩;obtain⟨i,O⟩:=En hb4;have xW:=CB J hb4.size;have xJ:=CB I hb4.size;have bL:b.cell? (AK B 0)=_:=(i _ _ J).trans x0;have bJ:b.cell? (AK B 1)=_:=(i _ _ J).trans x1;have bQ:b.cell? (AK B 2)=_:=(i _ _ J).trans x2;have bB:b.cell? (AK B 3)=_:=(i _ _ J).trans x3;have bP:b.cell? (AK B 4)=_:=(i _ _ J).trans x4;have bD:b.cell? (AK B 5)=_:=(i _ _ J).trans x5;have Q0:b.cell? (AK g 0)=_:=(i _ _ an).trans q0;have Q1:b.cell? (AK g 1)=_:=(i _ _ an).trans q1;have Q2:b.cell? (AK g 2)=_:=(i _ _ an).trans q2;have Q3:b.cell? (AK g 3)=_:=(i _ _ an).trans q3;have Q4:b.cell? (AK g 4)=_:=(i _ _ an).trans q4;have Q5:b.cell? (AK g 5)=_:=(i _ _ an).trans q5;have bY:=CB an hb4.size;clear i O)
        have iC:=AV (dH.at hb4);have mV:=AV (uG.at hb4);have jU:=AV (Bh fZ hb4);have a7:=AV (λW h=>oK W (Bh hb4 h));clear oK x0 x1 x2 x3 x4 x5 q0 q1 q2 q3 q4 q5 hb4 kE
        go_region_with (first | (go_at_call 93;refine(a7 _ yEa).mono ?_;rintro e w5 ⟨⟨mk,aH,aG,xa,ya,dA,xb,yb,dB,xc,yc,aF,xd,yd,rfl,ai,G,aA⟩,aB⟩;have aT:=AV ai;have aO:=AV G;have fU:Hid (∀x∈(Bz.mk ⟨mk,aH,aG,AE xa aG.length ya,AE xb dA.length yb,dA⟩ (AE xc dB.length yc) dB (AE xd aF.length yd) aF).vals,∀q,x.ownBlock=some q->(∃y∈OV,y.ownBlock=some q)\/b.heap.size<=q):=aA;have rY:=AV aB;have iD:=AV ((iC.drew).grown aB eX.out);obtain⟨qI,⟨t0,t1,t2,t3,t4,t5⟩,f⟩:=iD.out;have u0:=f 0 AQ;have u1:=f 1 AQ;have u2:=f 2 AQ;have u3:=f 3 AQ;have u4:=f 4 AQ;have u5:=f 5 AQ;clear ai G aA f))
        all_goals
         go_wp2
         go_roundg (Iu (l.map Bz.arm))
         rotate_left
         ·exact qx.out
         ·exact zr
      ·obtain rfl:ln=0:=by omega
       have HJ2:=AV (qZ (.inl (by rw[List.length_eq_zero_iff.1 eF.out.symm];rfl)));clear qZ Z jW HE HT2 z0 z1 z2 z3 z4 z5 y0 y1 y2 y3 y4 y5 kE;go_upto_region 6 with fail
       have iC:=AV dH.out;have mV:=AV uG.out;have jU:=AV fZ.out;have a7:=AV oK.out;clear oK
       go_region_with (first | (go_at_call 93;refine(a7 _ yEa).mono ?_;rintro e w5 ⟨⟨mk,aH,aG,xa,ya,dA,xb,yb,dB,xc,yc,aF,xd,yd,rfl,ai,G,aA⟩,aB⟩;have aT:=AV ai;have aO:=AV G;have fU:Hid (∀x∈(Bz.mk ⟨mk,aH,aG,AE xa aG.length ya,AE xb dA.length yb,dA⟩ (AE xc dB.length yc) dB (AE xd aF.length yd) aF).vals,∀q,x.ownBlock=some q->(∃y∈OV,y.ownBlock=some q)\/wr.heap.size<=q):=aA;have rY:=AV aB;have iD:=AV ((iC.drew).grown aB eX.out);obtain⟨qI,⟨t0,t1,t2,t3,t4,t5⟩,f⟩:=iD.out;have u0:=f 0 AQ;have u1:=f 1 AQ;have u2:=f 2 AQ;have u3:=f 3 AQ;have u4:=f 4 AQ;have u5:=f 5 AQ;clear ai G aA f))
       all_goals
        go_wp2
        go_roundg (Iu (l.map Bz.arm))
        rotate_left
        ·exact qx.out
        ·exact zr
     ·have bU:((bM.length:Int) !=1)=true:=by rw[bne_iff_ne];omega
      have ah:=AV (λkid (e:(bM.map Bz.arm)=[kid])=>hk (by have:=congrArg List.length e;simpa using this));clear hk Z
      go_wp2
      rw[Exit.noGoto_ret];refine bodyPost_ret (v:=.agg #[AB U,AB T,AE Y D.length S,AE X C.length V,AE E j.length M,AE h1 bM.length j1]) (by simp[results,results57,go_sem,z0,z1,z2,z3,z4,z5]) rfl ⟨⟨U,T,D,Y,S,C,X,V,j,E,M,bM,h1,j1,rfl,?_,?_⟩,?_⟩
      ·exact Lu.le (Lu.setO6 (base:=w.heap.size+2) fO (λx hx e=>by have:=(fO.1.lt _ x hx _ e).1;omega)) AQ
      ·rw[<-yN.out]
       refine(Uo _ ?_).symm;intro kid e _;rw[Bz.arm_eq] at e;exact ah kid e
      ·exact Dq (Db _) (Dq (Db _) (Dq (Db _) (Dq (Db _) (Dq (Db _) (Dq (Db _) fZ _) _) _) _) _) _
