import Derived.Test.YtifcnfeppdbjdaaGreatDoorGt
namespace Go.Proofs.YtifcnfeppdbjdaaGreatDoor
open Tryz Stil Go.RowKit Go.Sort Go.BigFrame
variable {base:Nat}
def Qy:Ak:=⟨0,0,[],AG,AG,[]⟩
theorem Y9:Qy.net=Stil.none0:=by rw[Ak.net_eq];rfl
theorem NT:Qy.vals=[AG,AG]:=by rw[Ak.vals_eq];rfl
theorem YI (w:World)(base:Nat):MOk w base Qy:=(Jw _ _ _).2 ⟨World.ownsRow_nil _ _ _ _,World.ownsRow_nil _ _ _ _,λx a=>by cases a⟩
theorem QL {x:Value}(hx:x∈Qy.vals):x.ownBlock=none:=by
 rw[NT] at hx;simp only[DF,M6,DK,or_self] at hx;rw[hx];rfl
theorem LU {w1 g:World}{l lA:Nat}{b c:Value}{e:List Ej}{d:List Bq}(i:Vj w1 l b e)(h:Su g lA c d)(t:AO w1 g)(h1:base<=l)(u:w1.heap.size<=lA)(r:base<=lA):
  Lt g base ⟨Qy,b,e,c,d⟩/\∀x∈(Bq.mk Qy b e c d).vals,∀q,x.ownBlock=some q->(l<=q/\q<w1.heap.size)\/(lA<=q/\q<g.heap.size):=by
 have o:(Bq.mk Qy b e c d).vals=Qy.vals++((b::G6 e)++(c::Iy d)):=Bq.vals_eq _;have p:=(i.below t).le h1;have m:=h.le r;refine⟨⟨(Jp _ _ _).2 ⟨YI _ _,⟨p.1,p.2.1⟩,m.1,m.2.1⟩,?_⟩,?_⟩
 ·rw[o,A9p]
  refine⟨?_,List.pairwise_append.2 ⟨i.2.2,h.2.2,λx a y s=>Ho (n:=w1.heap.size) (λk j=>(i.lt x a k j).2) (λk j=>CJ u (h.lt y s k j).1)⟩,λx a y _=>.inl (QL a)⟩;rw[NT];exact List.pairwise_cons.2 ⟨λy _=>Py y,G1 _ _⟩
 ·intro x a q f
  rw[o] at a;rcases List.mem_append.1 a with a | a
  ·rw[QL a] at f;cases f
  rcases List.mem_append.1 a with a | a
  ·exact .inl (i.lt x a q f)
  ·exact .inr (h.lt x a q f)
theorem Lt.setNet {w:World}{lo:Nat}{m:Bq}{a:Ak}(h:Lt w base m)(b:Ls w base a)(hl:∀x∈a.vals,∀q,x.ownBlock=some q->lo<=q)(c:∀x∈m.vals,∀q,x.ownBlock=some q->q<lo):Lt w base ⟨a,m.cv,m.coils,m.kv,m.kids⟩:=by
 obtain⟨k,d⟩:=h;obtain⟨_,e,i,o⟩:=(Jp _ _ _).1 k;have l:(Bq.mk a m.cv m.coils m.kv m.kids).vals=a.vals++((m.cv::G6 m.coils)++(m.kv::Iy m.kids)):=Bq.vals_eq _;have j:m.vals=m.net.vals++((m.cv::G6 m.coils)++(m.kv::Iy m.kids)):=Bq.vals_eq _;rw[j] at d c;refine⟨(Jp _ _ _).2 ⟨b.1,e,i,o⟩,?_⟩;rw[l];exact List.pairwise_append.2 ⟨b.2,(List.pairwise_append.1 d).2.1,λx g y f=>(Ho (n:=lo) (c y (D3 _ f)) (hl x g)).symm⟩
theorem Lt.setN {w:World}{b:Nat}{m:Bq}{e g f d:Value}(h:Lt w base m)(c:∀x∈m.vals,x.ownBlock≠some b):Lt ((((w.setCell (AK b 0) e).setCell (AK b 1) g).setCell (AK b 2) f).setCell (AK b 3) d) base m:=
 Lt.setO (Lt.setO (Lt.setO (Lt.setO h (a:=(AK b 0)) c e) (a:=(AK b 1)) c g) (a:=(AK b 2)) c f) (a:=(AK b 3)) c d
theorem Yf {w:World}(m:Bq)(h:AOk w base m):∃k o d l c g j ns n e a i f b,m=⟨⟨k,o,d,AE l d.length c,AE g ns.length j,ns⟩,AE n a.length e,a,AE i b.length f,b⟩:=by
 obtain⟨⟨k,o,d,x,u,ns⟩,y,a,v,b⟩:=m;obtain⟨t,⟨s,_⟩,p,_⟩:=(Jp _ _ _).1 h;obtain⟨r,q,_⟩:=(Jw _ _ _).1 t;simp only at s p r q;obtain⟨l,c,rfl⟩:=Ah r;obtain⟨g,j,rfl⟩:=Ah q;obtain⟨n,e,rfl⟩:=Ah s;obtain⟨i,f,rfl⟩:=Ah p;exact⟨k,o,d,l,c,g,j,ns,n,e,a,i,f,b,rfl⟩
theorem YL {w:World}{a:Option Addr}{c:Nat}{m:Bq}(h:w.ownsRow base 62 6 (AE a 1 c) 1 (Jl [m])):∃g,a=some (AK g 0)/\g<w.heap.size/\w.cell? (AK g 0)=some (AB m.net.kind)/\w.cell? (AK g 1)=some (AB m.net.op)/\w.cell? (AK g 2)=some m.net.av/\w.cell? (AK g 3)=some m.net.kv/\w.cell? (AK g 4)=some m.cv/\w.cell? (AK g 5)=some m.kv:=by
 obtain⟨g,cap,d,_,l,_,b⟩:=Cb h AQ;simp only[Value.slice.injEq] at d;obtain⟨q1,i,e,f,j,k⟩:=V7 [m] 0 AU;exact⟨g,d.1,l,by simpa using b _ _ q1,by simpa using b _ _ i,by simpa using b _ _ e,by simpa using b _ _ f,by simpa using b _ _ j,by simpa using b _ _ k⟩
def NSt (w wc:World)(B:Nat)(m:Bq):Prop:=w.heap.size+2<=B/\NM wc B m/\Lt wc (w.heap.size+2) m/\(∀x∈m.vals,x.ownBlock≠some B)/\B6 wc (w.heap.size+1) (AB 0) (AB 0) AG AG AG AG/\AO w wc
theorem zr {p:Prop}(h:p:=by
 have hlt5:=gZ.1
 have pG:∀x∈(Bq.mk ⟨mk,aJ,aG,AE xa aG.length ya,AE xb dB.length yb,dB⟩ (AE xc dD.length yc) dD (AE xd aF.length yd) aF).vals,x.ownBlock≠some B:=by
  intro x hx e;rcases fQ.out x hx _ e with⟨y,hy,e2⟩ | h
  ·exact ou y hy e2
  ·omega
 have hb2:=HB2.out;refine⟨⟨⟨mk,aJ,aG,AE xa aG.length ya,AE xb dB.length yb,dB⟩,AE xc dD.length yc,dD,AE xd aF.length yd,aF⟩,⟨hb2,iC.set6,Lt.setO6 aT pG,pG,((mP.drew).grown rX yG.out).set6O hBne,?_⟩,?_,?_,?_⟩
 ·have vI:=(jQ.drew).grown rX jQ.size rY.out
  have hle:w.heap.size<=B:=AQ
  exact Dj hle (Dj hle (Dj hle (Dj hle (Dj hle (Dj hle vI _) _) _) _) _) _
 ·rw[aO.out,CU]
  exact HJ2.out
 ·rw[aO.out,CU]
  exact eF.out
 ·rw[aO.out]
  exact CG _):p:=h
theorem z8 {p:Prop}(h:p:=by
 rw[<-yB.out]
 refine(Ue _ ?_).symm;intro kid e h;have e':=(congrArg Stil.B8.kids HE.out).symm.trans e;simp only[List.cons.injEq,E0] at e';rcases h with h | h
 ·have h2:=congrArg List.length ((congrArg Stil.B8.coils HE.out).symm.trans h)
  simp only[CW,CO] at h2;have:=fE.out
  omega
 ·rw[<-e'] at h
  simp only at h;rw[<-HT2.out] at h;cases h):p:=h
theorem zs0 {p:Prop}(h:p:=by
 have e:=jZ.out
 rw[Bq.arm_eq] at e ⊢;simp only[Stil.B8.mk.injEq] at e ⊢;exact⟨by rw[aO.out,dZ.out],e.2.1,e.2.2⟩):p:=h
theorem zz0 {p:Prop}(h:p:=by
 have wQ:=Bc hbw hb4
 have hle:w.heap.size<=B:=AQ
 exact Dj hle (Dj hle (Dj hle (Dj hle wQ _) _) _) _):p:=h
set_option maxHeartbeats 4000000 in
set_option maxRecDepth 100000 in
theorem Azs (a:Stil.B8):Dh a->Aj a<=900000->∀(av nv cv kv:Value) (w:World),Dk w av a.net.one.args->Gn w nv a.net.kids->Iz w cv a.coils->Fe w kv a.kids->Calls prog 46 #[.agg #[.int .i64 a.net.kind, .int .i64 a.net.one.op,av,nv,cv,kv]] w λe w'=>KX w' w.heap.size (Dt a) e/\Below w.heap.size w w':=by
 induction a using Gl with
 | h n I kids ih=>
  intro aM N av nv cv kv w au aV a5 aR;obtain⟨a8,bK,bc,aK,dH⟩:=(F7 _ _ _).1 aM;simp only at au aV a5 aR;have aQ:∀x∈kids,Aj x<=900000:=by
   intro x hx;have:Aj x<=I5 kids:=D9 Aj kids x hx;rw[Ce] at N;omega
  have bv:kids.length<=999999:=by
   have h1:kids.length<=I5 kids:=by
    clear ih aM N aR aK dH aQ;unfold I5;induction kids with
    | nil=>simp
    | cons x bX bU=>
     have:=Stil.Nh x
     simp only[CH,CP,DW];omega
   rw[Ce] at N;omega
  have bk:I.length<=999999:=by
   rw[Ce] at N;omega
  have bs:Am n=false->Af n<=999999:=by
   intro h;rw[Ce] at N;have e:Stil.BK n=Af n:=if_neg yDj;omega
  have H1:=AV (λW h=>vi I (λx hx av w au=>Wm x.op av x.args w au (bc x hx).2.1) cv W (a5.below h) bk);have H2:=AV (λW h=>UO kids (λx hx=>ih x hx (dH x hx) (aQ x hx)) kv W (aR.below h) bv);have H3:=AV (λW h=>U4 n av nv W (au.below h) (aV.below h) a8);have H4:=AV (λhn W h=>Azr n a8 (bs hn) av nv W (au.below h) (aV.below h));have HJ:=AV (Oz n I kids);have HM:Hid (Zo 900000 ⟨Us n,I,kids.map Dt⟩):=by
   have:=QG aM N (λx hx=>Y8 x (dH x hx) (aQ x hx))
   exact⟨this.1,CJ this.2 N⟩
  obtain⟨aS,hT⟩:∃aS,aS=Dt ⟨n,I,kids⟩:=⟨_,rfl⟩
  rw[<-hT] at HJ ⊢;obtain⟨ks,dw⟩:∃ks,ks=kids.map Dt:=⟨_,rfl⟩
  rw[<-dw] at HJ HM H2;obtain⟨p0,r0,rfl,bO⟩:=au;obtain⟨p1,r1,rfl,aj⟩:=aV;obtain⟨p2,r2,rfl,ag⟩:=a5;obtain⟨p3,r3,rfl,bI⟩:=aR;clear bO aj ag bI ih aM N a8 bK bc aK dH aQ bv bk bs hT dw;go_enter func46,ntmps46;go_upto_region 1 with fail
  go_step3
  go_upto_region 1 with fail
  obtain⟨W,hW⟩:∃W,W=(w.alloc (.cells #[.int .i64 n.kind, .int .i64 n.one.op, .slice p0 n.one.args.length r0, .slice p1 n.kids.length r1, .slice p2 I.length r2, .slice p3 kids.length r3] 62)).alloc (.cells #[.int .i64 0, .int .i64 0, .slice none 0 0, .slice none 0 0, .slice none 0 0, .slice none 0 0] 62):=⟨_,rfl⟩
  rw[<-hW];have hA:B6 W w.heap.size (.int .i64 n.kind) (.int .i64 n.one.op) (.slice p0 n.one.args.length r0) (.slice p1 n.kids.length r1) (.slice p2 I.length r2) (.slice p3 kids.length r3):=by rw[hW];exact(B6.new w _ _ _ _ _ _ _).at (Aa _ _)
  have hZ:B6 W (w.heap.size+1) (.int .i64 0) (.int .i64 0) (.slice none 0 0) (.slice none 0 0) (.slice none 0 0) (.slice none 0 0):=by rw[hW];have:=B6.new (w.alloc (.cells #[.int .i64 n.kind, .int .i64 n.one.op, .slice p0 n.one.args.length r0, .slice p1 n.kids.length r1, .slice p2 I.length r2, .slice p3 kids.length r3] 62)) (.int .i64 0) (.int .i64 0) (.slice none 0 0) (.slice none 0 0) (.slice none 0 0) (.slice none 0 0) 62;simpa using this
  have bf:W.heap.size=w.heap.size+2:=by rw[hW];simp
  have aB:Below w.heap.size w W:=by rw[hW];exact Bd (Aa _ _) _
  clear hW;have HA:=AV hA;have HZ:=AV hZ;have bH:=AV bf;have al:w.heap.size<W.heap.size:=AQ
  obtain⟨_,⟨_,_,_,_,p4,p5⟩,_⟩:=hA;clear hZ bf;go_cut [3] (λs3 wc=>∃(B:Nat) (m:Bq),s3=.pointer (some ⟨B,0,none⟩)/\NSt w wc B m/\m.arm=⟨Stil.none0,I,ks⟩/\B6 wc w.heap.size (.int .i64 n.kind) (.int .i64 n.one.op) (.slice p0 n.one.args.length r0) (.slice p1 n.kids.length r1) (.slice p2 I.length r2) (.slice p3 kids.length r3))
  case first=>
   go_region_held3 (λW'=>(W'.cell? ⟨w.heap.size,4,none⟩=some (.slice p2 I.length r2)/\W'.cell? ⟨w.heap.size,5,none⟩=some (.slice p3 kids.length r3))) (first | with_reducible assumption | with_reducible exact⟨Gz.trans p4,Gz.trans p5⟩ | with_reducible exact⟨Gz.trans ((Ey al).trans p4),Gz.trans ((Ey al).trans p5)⟩ | with_reducible exact⟨(Ey ag).trans ac.1,(Ey ag).trans ac.2⟩ | with_reducible exact⟨(Ey aj).trans aE.1,(Ey aj).trans aE.2⟩ | with_reducible exact⟨set6O a3 ac.1,set6O a3 ac.2⟩ | with_reducible exact⟨set6O (K3 ag) ((Ey ag).trans ac.1),set6O (K3 ag) ((Ey ag).trans ac.2)⟩ | skip) (first | (go_at_call 81;refine(H1.out _ (by first | exact aB.drew | exact(Bd aB _).drew)).mono ?_;rintro e Z ⟨ra,rc,P,rfl,G,az,ar⟩;have L:Below W.heap.size W Z:=(by first | exact Bc (Below.refl _ _).drew ar | exact Bc (Bd (Below.refl _ _) _).drew ar);have aU:=aB.trans (L.mono aB.size);have aj:=CB al L.size;have aE:(Z.cell? ⟨w.heap.size,4,none⟩=some (.slice p2 I.length r2)/\Z.cell? ⟨w.heap.size,5,none⟩=some (.slice p3 kids.length r3)):=⟨(L.cell (p:=⟨w.heap.size,4,none⟩) al).trans p4,(L.cell (p:=⟨w.heap.size,5,none⟩) al).trans p5⟩;have qo:=AV G;have qm:Hid (Vj Z _ (.slice ra P.length rc) P):=az;have bM:Hid (Below _ _ Z):=ar;(try have bw:=(B6.new W _ _ _ _ _ _ 62).drew.at ar);clear G az) | (go_at_call 45;refine(H2.out _ (by first | exact aU | exact Bd aU _)).mono ?_;rintro e w2 ⟨sa,sc,Q,rfl,G,az,hb2⟩;have K:Below Z.heap.size Z w2:=(by first | exact hb2 | exact Bc (Bd (Below.refl _ _) _) hb2);have ab:=aU.trans (K.mono aU.size);have ag:=CB aj K.size;have ac:(w2.cell? ⟨w.heap.size,4,none⟩=some (.slice p2 I.length r2)/\w2.cell? ⟨w.heap.size,5,none⟩=some (.slice p3 kids.length r3)):=⟨(K.cell (p:=⟨w.heap.size,4,none⟩) aj).trans aE.1,(K.cell (p:=⟨w.heap.size,5,none⟩) aj).trans aE.2⟩;have bb:=AV G;have uS:Hid (Su w2 _ (.slice sa Q.length sc) Q):=az;have HB2:Hid (Below _ _ w2):=hb2;(first | (have ay:=bw.at hb2;have a3:=K3 al;have bY:=AV ay;obtain⟨_,⟨t0,t1,t2,t3,t4,t5⟩,f⟩:=ay;have f0:=f 0 BF;have E:=f 1 BF;have f2:=f 2 BF;have f3:=f 3 BF;have f4:=f 4 BF;have f5:=f 5 BF;clear f bw) | (have ay:=(B6.new Z _ _ _ _ _ _ 62).at hb2;have a3:=K3 aj;have bY:=AV ay;obtain⟨_,⟨t0,t1,t2,t3,t4,t5⟩,f⟩:=ay;have f0:=f 0 BF;have E:=f 1 BF;have f2:=f 2 BF;have f3:=f 3 BF;have f4:=f 4 BF;have f5:=f 5 BF;clear f) | skip);clear G az))
   ·go_wp2
    go_meet;have bg:=bH.out;have U:=Bc L K;obtain⟨ho,hv⟩:=LU (base:=w.heap.size+2) qm uS K yGe (CG _) (by have:=L.size;omega);have N:=U.size;refine⟨w2.heap.size,⟨Qy, .slice ra P.length rc,P, .slice sa Q.length sc,Q⟩,rfl,⟨AQ,B6.new _ _ _ _ _ _ _ _,ho.below (Aa _ _),λx hx e=>by(have h:=hv x hx _ e;have:=K.size;omega),(HZ.at U).at (Aa _ _),Bd ab _⟩,?_,(HA.at U).at (Aa _ _)⟩;rw[Bq.arm_eq];simp only;rw[qo.out,bb.out,Y9]
   ·go_wp2
    go_meet;have bg:=bH.out;have U:=Bc L K;obtain⟨ho,hv⟩:=LU (base:=w.heap.size+2) qm uS K yGe AU (by have:=L.size;simp;omega);have N:=U.size;have bC:=L.size;have F:∀x∈(Bq.mk Qy (.slice ra P.length rc) P (.slice sa Q.length sc) Q).vals,x.ownBlock≠some Z.heap.size:=λx hx e=>by(have h:=hv x hx _ e;simp at h;omega)
    refine⟨Z.heap.size,⟨Qy, .slice ra P.length rc,P, .slice sa Q.length sc,Q⟩,rfl,⟨by omega,bY.out.set6,Lt.setO6 ho F,F,(HZ.out.at U).set6O BF,by clear ar hb2 L K;exact AW⟩,?_,(HA.out.at U).set6O BF⟩;rw[Bq.arm_eq];simp only;rw[qo.out,bb.out,Y9]
   ·go_wp2
    go_meet;have bg:=bH.out;have U:=Bc L K;obtain⟨ho,hv⟩:=LU (base:=w.heap.size+2) qm uS K (by show _<=(W.alloc _).heap.size;simp;omega) (CG _) (by have:=L.size;omega);have N:=U.size;have bC:=CB (by show W.heap.size<(W.alloc _).heap.size;simp) bM.size;have F:∀x∈(Bq.mk Qy (.slice ra P.length rc) P (.slice sa Q.length sc) Q).vals,x.ownBlock≠some W.heap.size:=λx hx e=>by(have h:=hv x hx _ e;have h2:W.heap.size<(W.alloc (.cells #[.int .i64 0, .int .i64 0, .slice none 0 0, .slice none 0 0, .slice none 0 0, .slice none 0 0] 62)).drew.heap.size:=(by show W.heap.size<(W.alloc _).heap.size;simp);omega)
    refine⟨W.heap.size,⟨Qy, .slice ra P.length rc,P, .slice sa Q.length sc,Q⟩,rfl,⟨by omega,bY.out.set6,Lt.setO6 ho F,F,(HZ.out.at U).set6O BF,by clear ar hb2 L K;exact AW⟩,?_,(HA.out.at U).set6O BF⟩;rw[Bq.arm_eq];simp only;rw[qo.out,bb.out,Y9]
  case rest=>
   clear p4 p5 aB al bH HA HZ;obtain⟨B,m,rfl,an,aA,hA⟩:=hcut;have af:=AV an;have jZ:=AV aA;have HA:=AV hA;clear an aA H1 H2;obtain⟨ap,⟨bm,br,bj,zJ,y9,y8⟩,bF⟩:=hA;clear bF;obtain⟨ab,ak,aa,F,ae,hbw⟩:=af.out;obtain⟨t,ht⟩:∃t,t=Am n:=⟨_,rfl⟩
   have HT:=AV ht;have fK:Hid (∀W,Below wc.heap.size wc W->Calls prog 83 #[.agg #[.int .i64 n.kind, .int .i64 n.one.op, .slice p0 n.one.args.length r0, .slice p1 n.kids.length r1]] W λe w'=>e=.returned (.bool t)/\Below W.heap.size W w'):=by rw[ht];exact λW h=>H3 W (hbw.trans (h.mono hbw.size))
   have dO:Hid (t=false->∀W,Below wc.heap.size wc W->Calls prog 84 #[.agg #[.int .i64 n.kind, .int .i64 n.one.op, .slice p0 n.one.args.length r0, .slice p1 n.kids.length r1]] W λe w'=>Rq w' W.heap.size (Ap n) e/\Below W.heap.size W w'):=by rw[ht];exact λhn W h=>H4 hn W (hbw.trans (h.mono hbw.size))
   clear ht H3 H4 ab ak aa F ae hbw;go_upto_if 14 with(go_at_call 83;refine(fK _ AW).mono ?_;rintro e w3 ⟨rfl,ai⟩;obtain⟨aC,aD⟩:=Ef ai;have wC:=CB ap ai.size;have q0:w3.cell? ⟨w.heap.size,0,none⟩=_:=(aC _ _ ap).trans bm;have q1:w3.cell? ⟨w.heap.size,1,none⟩=_:=(aC _ _ ap).trans br;have q2:w3.cell? ⟨w.heap.size,2,none⟩=_:=(aC _ _ ap).trans bj;have q3:w3.cell? ⟨w.heap.size,3,none⟩=_:=(aC _ _ ap).trans zJ;clear aC aD)
   clear fK;have jK:Hid (NSt w w3 B m):=by
    obtain⟨ab,ak,aa,F,ae,hbw⟩:=af.out;exact⟨ab,ak.at ai,aa.below ai,F,ae.at ai,Bc hbw ai⟩
   have nT:=AV (λh=>dO h w3 ai);clear af HA ap bm br bj zJ y9 y8 ai dO;go_cut [] (λwd=>∃m:Bq,NSt w wd B m/\m.arm=⟨Us n,I,ks⟩)
   case first=>
    cases t with
    | true=>
     have dZ:Hid (Us n=n/\n=Stil.none0):=⟨if_pos HT.symm,IZ HT.symm⟩
     clear nT
     go_wp2
     go_meet;exact⟨m,jK.out,by rw[jZ.out,dZ.out.1,dZ.out.2]⟩
    | false=>
     have dZ:Hid (Us n=Ap n):=if_neg (by rw[<-HT.out];exact FO);have zG:=AV (nT rfl);clear nT
     go_wp2_with (go_at_call 84;refine zG.mono ?_;rintro e b ⟨⟨mk,aJ,aG,s0,t0,j,t1,aF,rfl,ah,G⟩,hb4⟩;have aT:=AV ah;have aO:=AV G;clear ah G;have nI:Hid (NM b B m):=B6.at jK.2.1 hb4;obtain⟨b7,⟨y0,y1,y2,y3,_,_⟩,fP⟩:=nI.out;have f0:=fP 0 AQ;have E:=fP 1 AQ;have f2:=fP 2 AQ;have f3:=fP 3 AQ;clear fP)
     go_meet;obtain⟨ab,ak,aa,F,ae,hbw⟩:=jK.out;have bR:=hb4.size;have N:=hbw.size;have bV:=ak.1;have hN:Ls b (w.heap.size+2) ⟨mk,aJ,aG, .slice s0 aG.length t0, .slice j aF.length t1,aF⟩:=aT.le AQ;have bu:=Lt.setNet (aa.below hb4) hN (λx hx q hq=>(aT.1.lt _ x hx q hq).1) (λx hx q hq=>(aa.1.lt _ x hx q hq).2);have pI:∀x∈(Bq.mk ⟨mk,aJ,aG, .slice s0 aG.length t0, .slice j aF.length t1,aF⟩ m.cv m.coils m.kv m.kids).vals,x.ownBlock≠some B:=by
      intro x hx e;rw[Bq.vals_eq] at hx;rcases List.mem_append.1 hx with hx | hx
      ·have:=(aT.1.lt _ x hx _ e).1;omega
      ·exact F x (by rw[Bq.vals_eq];exact D3 _ hx) e
     refine⟨⟨⟨mk,aJ,aG, .slice s0 aG.length t0, .slice j aF.length t1,aF⟩,m.cv,m.coils,m.kv,m.kids⟩,⟨ab,B6.setN nI.out,Lt.setN bu pI,pI,B6.set4O (ae.at hb4) AQ,?_⟩,?_⟩
     ·exact zz0
     ·exact zs0
   case rest=>
    rename_i wd;obtain⟨m2,an,aA⟩:=hcut;clear jZ jK nT q0 q1 q2 q3;have af:=AV an;have jZ:=AV aA;clear an aA
    go_wp2
    go_step3
    go_wp2
    go_loopg [] (I5 m2.arm.kids) (λk wr=>∃m:Bq,NSt w wr B m/\Stil.joined m.arm=aS/\Zo 900000 m.arm/\I5 m.arm.kids<=k)
    case atStart=>
     exact⟨m2,af.out,by rw[jZ.out,HJ.out],by rw[jZ.out];exact HM.out,CG _⟩
    case round=>
     clear af jZ HJ HM HT;obtain⟨m3,an,bp,aX,bz⟩:=hrel;obtain⟨ab,ak,aa,F,ae,hbw⟩:=an;obtain⟨T,X,C,V,R,S,Y,D,E,O,j,h1,j1,bP,rfl⟩:=Yf m3 aa.1;have iK:B6 wr B (.int .i64 T) (.int .i64 X) (.slice V C.length R) (.slice S D.length Y) (.slice E j.length O) (.slice h1 bP.length j1):=ak;have bY:=AV iK;have fM:=AV aa;have dZ:=AV F;have uF:=AV ae;have iZ:=AV hbw;have yB:=AV bp;have bL:=AV aX;have bJ:=AV bz;have HB2:=AV ab;have aK:bP.length<=900000/\j.length<=900000:=by
      have h0:=aX.2;rw[Bq.arm_eq,Ce] at h0;simp only[CW] at h0;have h1:(bP.map Bq.arm).length<=I5 (bP.map Bq.arm):=Og _;rw[CW] at h1;omega
     obtain⟨wK,bA⟩:=aK;obtain⟨J,⟨x0,x1,x2,x3,x4,x5⟩,fP⟩:=iK;obtain⟨H,⟨z0,z1,z2,z3,z4,z5⟩,mM⟩:=ae;have y0:=mM 0 AQ;have y1:=mM 1 AQ;have y2:=mM 2 AQ;have y3:=mM 3 AQ;have y4:=mM 4 AQ;have y5:=mM 5 AQ;have hBne:w.heap.size+1≠B:=AQ
     clear ak aa F hbw bp aX bz ab mM wC;by_cases hk:bP.length=1
     ·obtain⟨kid,rfl⟩:=List.length_eq_one_iff.1 hk
      obtain⟨_,_,ba,aI⟩:=(Jp _ _ _).1 fM.1;simp only at ba aI;obtain⟨r,o,c,s,z,u,e2,d,f2,g2,A,h2,j2,l,rfl⟩:=Yf kid (aI kid AU);obtain⟨g,rfl,ao,q0,q1,q2,q3,q4,q5⟩:=YL ba;simp only[ED] at*;have bo:=(Jp _ _ _).1 (aI (Bq.mk ⟨r,o,c, .slice s c.length z, .slice u d.length e2,d⟩ (.slice f2 A.length g2) A (.slice h2 l.length j2) l) AU);obtain⟨aD,M⟩:=MOk.from _ bo.1;have HE:Hid ((Bq.mk ⟨T,X,C, .slice V C.length R, .slice S D.length Y,D⟩ (.slice E j.length O) j (.slice (some ⟨g,0,none⟩) 1 j1) [(Bq.mk ⟨r,o,c, .slice s c.length z, .slice u d.length e2,d⟩ (.slice f2 A.length g2) A (.slice h2 l.length j2) l)]).arm=⟨(Ak.mk T X C (.slice V C.length R) (.slice S D.length Y) D).net,j.map Ej.elem,[⟨(Ak.mk r o c (.slice s c.length z) (.slice u d.length e2) d).net,A.map Ej.elem,l.map Bq.arm⟩]⟩):=by
       show _=_
       rw[Bq.arm_eq];simp only[CP,C3];rw[Bq.arm_eq (Bq.mk ⟨r,o,c, .slice s c.length z, .slice u d.length e2,d⟩ (.slice f2 A.length g2) A (.slice h2 l.length j2) l)]
      have wI:=bL.out;rw[HE.out] at wI;have bn:=QY wI (CG _);simp only at bn;obtain⟨bi,ac,bh,aY,a7,bq⟩:=bn;simp only[CW] at a7;have jY:Hid (∀W,Below wr.heap.size wr W->Calls prog 83 #[.agg #[.int .i64 r, .int .i64 o, .slice s c.length z, .slice u d.length e2]] W λe w'=>e=.returned (.bool (Am (Ak.mk r o c (.slice s c.length z) (.slice u d.length e2) d).net))/\Below W.heap.size W w'):=by
       intro W h;have:=U4 (Ak.mk r o c (.slice s c.length z) (.slice u d.length e2) d).net _ _ W (aD.at.below h) (M.at.below h) aY
       have e:=Ak.net_eq (Ak.mk r o c (.slice s c.length z) (.slice u d.length e2) d);have qL:(Ak.mk r o c (.slice s c.length z) (.slice u d.length e2) d).net.kind=r:=by rw[e]
       have qJ:(Ak.mk r o c (.slice s c.length z) (.slice u d.length e2) d).net.one.op=o:=by rw[e]
       rw[qL,qJ] at this;exact this
      have oJ:=AV (λW h=>Ava T X C V R S Y D E O j (some ⟨g,0,none⟩) j1 r o c s z u e2 d f2 g2 A h2 j2 l (w.heap.size+2) W (fM.below h) (CJ (by have:=HB2.out;omega) h.size) ac bh aY a7);have aP:Value.slice E j.length O∈(Bq.mk ⟨T,X,C, .slice V C.length R, .slice S D.length Y,D⟩ (.slice E j.length O) j (.slice (some ⟨g,0,none⟩) 1 j1) [(Bq.mk ⟨r,o,c, .slice s c.length z, .slice u d.length e2,d⟩ (.slice f2 A.length g2) A (.slice h2 l.length j2) l)]).vals:=by rw[Bq.vals_eq];simp
      have eU:=AV (dZ _ aP);have rY:Hid (∀q,(Value.slice E j.length O).ownBlock=some q->w.heap.size<=q):=λq hq=>by have:=(fM.1.lt _ _ aP q hq).1;omega
      have yG:Hid ((Value.slice E j.length O).ownBlock≠some (w.heap.size+1)):=λe=>by have:=(fM.1.lt _ _ aP _ e).1;omega
      have qg:Hid (I5 (l.map Bq.arm)<gk):=by
       have h1:=bJ.out;rw[HE.out] at h1;exact CB bq h1
      have lU:=yB.out;rw[HE.out] at lU;obtain⟨X1,aN⟩:∃a9,a9=(Ak.mk T X C (.slice V C.length R) (.slice S D.length Y) D).net:=⟨_,rfl⟩
      obtain⟨X2,aW⟩:∃a9,a9=(Ak.mk r o c (.slice s c.length z) (.slice u d.length e2) d).net:=⟨_,rfl⟩
      obtain⟨t2,aH⟩:∃t,t=Am (Ak.mk r o c (.slice s c.length z) (.slice u d.length e2) d).net:=⟨_,rfl⟩
      obtain⟨OV,yU⟩:∃OV,OV=(Bq.mk ⟨T,X,C, .slice V C.length R, .slice S D.length Y,D⟩ (.slice E j.length O) j (.slice (some ⟨g,0,none⟩) 1 j1) [(Bq.mk ⟨r,o,c, .slice s c.length z, .slice u d.length e2,d⟩ (.slice f2 A.length g2) A (.slice h2 l.length j2) l)]).vals:=⟨_,rfl⟩
      obtain⟨ln,aL⟩:∃ln,ln=j.length:=⟨_,rfl⟩
      have fE:=AV aL;have HT2:=AV aH;rw[<-aH] at jY;have rC:Hid (j.map Ej.elem=[]\/t2=true->Stil.joined ⟨Lu X1 X2,j.map Ej.elem++A.map Ej.elem,l.map Bq.arm⟩=aS):=by
       intro h;rw[aN,aW,<-lU];exact(UL _ _ ⟨(Ak.mk r o c (.slice s c.length z) (.slice u d.length e2) d).net,A.map Ej.elem,l.map Bq.arm⟩ (by rw[<-aH];exact h)).symm
      have eF:Hid (Zo 900000 ⟨Lu X1 X2,j.map Ej.elem++A.map Ej.elem,l.map Bq.arm⟩):=by rw[aN,aW];exact bi
      have ou:Hid (∀x∈OV,x.ownBlock≠some B):=by rw[yU];exact dZ.out
      rw[<-aN,<-aW,<-yU,<-aL] at oJ;rw[<-aL] at x4 bY bA eU rY yG;have jS:=AV (λW (h:Below wr.heap.size wr W)=>fM.below h);clear hk ba aI bo aD M wI bi ac bh aY a7 bq lU aN aW aH yU aL aP fM dZ wK;by_cases hc:0<ln
      ·cases t2 with
       | false=>
        clear oJ rC fP
        go_wp2_with (go_at_call 83;refine(jY _ AW).mono ?_;rintro e b ⟨rfl,hb4⟩;obtain⟨i,M⟩:=Ef hb4;have xC:=CB J hb4.size;have wS:=CB H hb4.size;have bG:b.cell? ⟨B,0,none⟩=_:=(i _ _ J).trans x0;have bN:b.cell? ⟨B,1,none⟩=_:=(i _ _ J).trans x1;have bQ:b.cell? ⟨B,2,none⟩=_:=(i _ _ J).trans x2;have bE:b.cell? ⟨B,3,none⟩=_:=(i _ _ J).trans x3;have bB:b.cell? ⟨B,4,none⟩=_:=(i _ _ J).trans x4;have bD:b.cell? ⟨B,5,none⟩=_:=(i _ _ J).trans x5;have v0:b.cell? ⟨w.heap.size+1,0,none⟩=_:=(i _ _ H).trans z0;have v1:b.cell? ⟨w.heap.size+1,1,none⟩=_:=(i _ _ H).trans z1;have v2:b.cell? ⟨w.heap.size+1,2,none⟩=_:=(i _ _ H).trans z2;have v3:b.cell? ⟨w.heap.size+1,3,none⟩=_:=(i _ _ H).trans z3;have v4:b.cell? ⟨w.heap.size+1,4,none⟩=_:=(i _ _ H).trans z4;have v5:b.cell? ⟨w.heap.size+1,5,none⟩=_:=(i _ _ H).trans z5;have bW:b.frozen? ⟨w.heap.size+1,0,none⟩=_:=(M _ _ H).trans y0;have b9:b.frozen? ⟨w.heap.size+1,1,none⟩=_:=(M _ _ H).trans y1;have b8:b.frozen? ⟨w.heap.size+1,2,none⟩=_:=(M _ _ H).trans y2;have bS:b.frozen? ⟨w.heap.size+1,3,none⟩=_:=(M _ _ H).trans y3;have bT:b.frozen? ⟨w.heap.size+1,4,none⟩=_:=(M _ _ H).trans y4;have b6:b.frozen? ⟨w.heap.size+1,5,none⟩=_:=(M _ _ H).trans y5;clear i M)
        have yJ:=AV (Bc iZ hb4);have kT:=jS b hb4;rw[Exit.noGoto_ret];refine bodyPost_ret (v:=.agg #[.int .i64 T, .int .i64 X, .slice V C.length R, .slice S D.length Y, .slice E ln O, .slice (some ⟨g,0,none⟩) 1 j1]) (by simp[results,results46,go_sem,v0,v1,v2,v3,v4,v5]) rfl ⟨⟨T,X,C,V,R,D,S,Y,j,E,O,[(Bq.mk ⟨r,o,c, .slice s c.length z, .slice u d.length e2,d⟩ (.slice f2 A.length g2) A (.slice h2 l.length j2) l)],(some ⟨g,0,none⟩),j1,by rw[<-fE.out];rfl,?_,?_⟩,?_⟩
        ·exact Lt.le (Lt.setO6 (base:=w.heap.size+2) kT (λx hx e=>by have:=(kT.1.lt _ x hx _ e).1;omega)) AQ
        ·exact z8
        ·exact Dj (DZ _) (Dj (DZ _) (Dj (DZ _) (Dj (DZ _) (Dj (DZ _) (Dj (DZ _) yJ _) _) _) _) _) _
       | true=>
        have HJ2:=AV (rC (.inr rfl));clear rC fP jS HE HT2 z0 z1 z2 z3 z4 z5 y0 y1 y2 y3 y4 y5;go_upto_region 6 with(go_at_call 83;refine(jY _ AW).mono ?_;rintro e b ⟨rfl,hb4⟩;obtain⟨i,M⟩:=Ef hb4;have xC:=CB J hb4.size;have wS:=CB H hb4.size;have bG:b.cell? ⟨B,0,none⟩=_:=(i _ _ J).trans x0;have bN:b.cell? ⟨B,1,none⟩=_:=(i _ _ J).trans x1;have bQ:b.cell? ⟨B,2,none⟩=_:=(i _ _ J).trans x2;have bE:b.cell? ⟨B,3,none⟩=_:=(i _ _ J).trans x3;have bB:b.cell? ⟨B,4,none⟩=_:=(i _ _ J).trans x4;have bD:b.cell? ⟨B,5,none⟩=_:=(i _ _ J).trans x5;have Q0:b.cell? ⟨g,0,none⟩=_:=(i _ _ ao).trans q0;have Q1:b.cell? ⟨g,1,none⟩=_:=(i _ _ ao).trans q1;have Q2:b.cell? ⟨g,2,none⟩=_:=(i _ _ ao).trans q2;have Q3:b.cell? ⟨g,3,none⟩=_:=(i _ _ ao).trans q3;have Q4:b.cell? ⟨g,4,none⟩=_:=(i _ _ ao).trans q4;have Q5:b.cell? ⟨g,5,none⟩=_:=(i _ _ ao).trans q5;have bZ:=CB ao hb4.size;clear i M)
        have gZ:=AV (bY.at hb4);have mP:=AV (uF.at hb4);have jQ:=AV (Bc iZ hb4);have a6:=AV (λW h=>oJ W (Bc hb4 h));clear oJ x0 x1 x2 x3 x4 x5 q0 q1 q2 q3 q4 q5 hb4 jY
        go_region_with (first | (go_at_call 85;refine(a6 _ yEb).mono ?_;rintro e w5 ⟨⟨mk,aJ,aG,xa,ya,dB,xb,yb,dD,xc,yc,aF,xd,yd,rfl,ah,G,ax⟩,aw⟩;have aT:=AV ah;have aO:=AV G;have fQ:Hid (∀x∈(Bq.mk ⟨mk,aJ,aG, .slice xa aG.length ya, .slice xb dB.length yb,dB⟩ (.slice xc dD.length yc) dD (.slice xd aF.length yd) aF).vals,∀q,x.ownBlock=some q->(∃y∈OV,y.ownBlock=some q)\/b.heap.size<=q):=ax;have rX:=AV aw;have iC:=AV ((gZ.drew).grown aw eU.out);obtain⟨qI,⟨t0,t1,t2,t3,t4,t5⟩,f⟩:=iC.out;have u0:=f 0 AQ;have u1:=f 1 AQ;have u2:=f 2 AQ;have u3:=f 3 AQ;have u4:=f 4 AQ;have u5:=f 5 AQ;clear ah G ax f))
        all_goals
         go_wp2
         go_roundg (I5 (l.map Bq.arm))
         rotate_left
         ·exact qg.out
         ·exact zr
      ·obtain rfl:ln=0:=by omega
       have HJ2:=AV (rC (.inl (by rw[List.length_eq_zero_iff.1 fE.out.symm];rfl)));clear rC fP jS HE HT2 z0 z1 z2 z3 z4 z5 y0 y1 y2 y3 y4 y5 jY;go_upto_region 6 with fail
       have gZ:=AV bY.out;have mP:=AV uF.out;have jQ:=AV iZ.out;have a6:=AV oJ.out;clear oJ
       go_region_with (first | (go_at_call 85;refine(a6 _ yEb).mono ?_;rintro e w5 ⟨⟨mk,aJ,aG,xa,ya,dB,xb,yb,dD,xc,yc,aF,xd,yd,rfl,ah,G,ax⟩,aw⟩;have aT:=AV ah;have aO:=AV G;have fQ:Hid (∀x∈(Bq.mk ⟨mk,aJ,aG, .slice xa aG.length ya, .slice xb dB.length yb,dB⟩ (.slice xc dD.length yc) dD (.slice xd aF.length yd) aF).vals,∀q,x.ownBlock=some q->(∃y∈OV,y.ownBlock=some q)\/wr.heap.size<=q):=ax;have rX:=AV aw;have iC:=AV ((gZ.drew).grown aw eU.out);obtain⟨qI,⟨t0,t1,t2,t3,t4,t5⟩,f⟩:=iC.out;have u0:=f 0 AQ;have u1:=f 1 AQ;have u2:=f 2 AQ;have u3:=f 3 AQ;have u4:=f 4 AQ;have u5:=f 5 AQ;clear ah G ax f))
       all_goals
        go_wp2
        go_roundg (I5 (l.map Bq.arm))
        rotate_left
        ·exact qg.out
        ·exact zr
     ·have b0:((bP.length:Int) !=1)=true:=by rw[bne_iff_ne];omega
      have af:=AV (λkid (e:(bP.map Bq.arm)=[kid])=>hk (by have:=congrArg List.length e;simpa using this));clear hk fP
      go_wp2
      rw[Exit.noGoto_ret];refine bodyPost_ret (v:=.agg #[.int .i64 T, .int .i64 X, .slice V C.length R, .slice S D.length Y, .slice E j.length O, .slice h1 bP.length j1]) (by simp[results,results46,go_sem,z0,z1,z2,z3,z4,z5]) rfl ⟨⟨T,X,C,V,R,D,S,Y,j,E,O,bP,h1,j1,rfl,?_,?_⟩,?_⟩
      ·exact Lt.le (Lt.setO6 (base:=w.heap.size+2) fM (λx hx e=>by have:=(fM.1.lt _ x hx _ e).1;omega)) AQ
      ·rw[<-yB.out]
       refine(Ue _ ?_).symm;intro kid e _;rw[Bq.arm_eq] at e;exact af kid e
      ·exact Dj (DZ _) (Dj (DZ _) (Dj (DZ _) (Dj (DZ _) (Dj (DZ _) (Dj (DZ _) iZ _) _) _) _) _) _
