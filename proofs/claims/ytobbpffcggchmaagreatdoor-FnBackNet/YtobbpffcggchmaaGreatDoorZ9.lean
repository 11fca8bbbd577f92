import Derived.Test.YtobbpffcggchmaaGreatDoorGt
import Derived.Test.YtobbpffcggchmaaGreatDoorY7g
import Derived.Deep.LoopGhost
import Derived.Deep.RegionHeld3
namespace Go.Proofs.YtobbpffcggchmaaGreatDoor
open Tryz
open Stil
open Go.RowKit Go.Sort Go.BigFrame
variable {base:Nat}
def Rq:Ah:=⟨0,0,[], .slice none 0 0, .slice none 0 0,[]⟩
theorem Abf:Rq.net=Stil.none0:=by rw[Ah.net_eq];rfl
theorem Yy:Rq.vals=[.slice none 0 0, .slice none 0 0]:=by rw[Ah.vals_eq];rfl
theorem Alg (w:World)(base:Nat):MOk w base Rq:=(Ee _ _ _).2 ⟨World.ownsRow_nil _ _ _ _,World.ownsRow_nil _ _ _ _,λx a=>by cases a⟩
theorem Aof {x:Value}(hx:x∈Rq.vals):x.ownBlock=none:=by
 rw[Yy] at hx;simp only[A9o,Bch,Bax,or_self] at hx;rw[hx];rfl
theorem Afh {w1 f:World}{m i:Nat}{c e:Value}{b:List Fg}{d:List Dw}(h:Yb w1 m c b)(g:Ue f i e d)(u:Below w1.heap.size w1 f)(h1:base<=m)(t:w1.heap.size<=i)(v:base<=i):
  Qz f base ⟨Rq,c,b,e,d⟩/\∀x∈(Dw.mk Rq c b e d).vals,∀q,x.ownBlock=some q->(m<=q/\q<w1.heap.size)\/(i<=q/\q<f.heap.size):=by
 have p:(Dw.mk Rq c b e d).vals=Rq.vals++((c::Hq b)++(e::Il d)):=Dw.vals_eq _;have o:=(h.below u).le h1;have r:=g.le v;refine⟨⟨(Lj _ _ _).2 ⟨Alg _ _,⟨o.1,o.2.1⟩,r.1,r.2.1⟩,?_⟩,?_⟩
 ·rw[p,A9q]
  refine⟨?_,List.pairwise_append.2 ⟨h.2.2,g.2.2,λx a y s=>Eg (n:=w1.heap.size) (λk l=>(h.lt x a k l).2) (λk l=>A9f t (g.lt y s k l).1)⟩,λx a y _=>.inl (Aof a)⟩;rw[Yy];exact List.pairwise_cons.2 ⟨λy _=>Le y,Baw _ _⟩
 ·intro x a q j
  rw[p] at a;rcases List.mem_append.1 a with a | a
  ·rw[Aof a] at j;cases j
  rcases List.mem_append.1 a with a | a
  ·exact .inl (h.lt x a q j)
  ·exact .inr (g.lt x a q j)
theorem Qz.setNet {w:World}{lo:Nat}{m:Dw}{a:Ah}(h:Qz w base m)(d:I7 w base a)(hl:∀x∈a.vals,∀q,x.ownBlock=some q->lo<=q)(c:∀x∈m.vals,∀q,x.ownBlock=some q->q<lo):Qz w base ⟨a,m.cv,m.coils,m.kv,m.kids⟩:=by
 obtain⟨k,b⟩:=h;obtain⟨_,l,g,j⟩:=(Lj _ _ _).1 k;have i:(Dw.mk a m.cv m.coils m.kv m.kids).vals=a.vals++((m.cv::Hq m.coils)++(m.kv::Il m.kids)):=Dw.vals_eq _;have o:m.vals=m.net.vals++((m.cv::Hq m.coils)++(m.kv::Il m.kids)):=Dw.vals_eq _;rw[o] at b c;refine⟨(Lj _ _ _).2 ⟨d.1,l,g,j⟩,?_⟩;rw[i];exact List.pairwise_append.2 ⟨d.2,(List.pairwise_append.1 b).2.1,λx f y e=>(Eg (n:=lo) (c y (A9b _ e)) (hl x f)).symm⟩
theorem Qz.setN {w:World}{b:Nat}{m:Dw}{d u1 u2 u3:Value}(h:Qz w base m)(c:∀x∈m.vals,x.ownBlock≠some b):Qz ((((w.setCell ⟨b,0,none⟩ d).setCell ⟨b,1,none⟩ u1).setCell ⟨b,2,none⟩ u2).setCell ⟨b,3,none⟩ u3) base m:=
 Qz.setO (Qz.setO (Qz.setO (Qz.setO h (a:=⟨b,0,none⟩) c d) (a:=⟨b,1,none⟩) c u1) (a:=⟨b,2,none⟩) c u2) (a:=⟨b,3,none⟩) c u3
theorem Aln {w:World}(m:Dw)(h:AOk w base m):∃k o d c f j i ns g n b e l a,m=⟨⟨k,o,d, .slice c d.length f, .slice j ns.length i,ns⟩, .slice g b.length n,b, .slice e a.length l,a⟩:=by
 obtain⟨⟨k,o,d,u,x,ns⟩,v,b,y,a⟩:=m;obtain⟨t,⟨r,_⟩,p,_⟩:=(Lj _ _ _).1 h;obtain⟨s,q,_⟩:=(Ee _ _ _).1 t;simp only at r p s q;obtain⟨c,f,rfl⟩:=Ac s;obtain⟨j,i,rfl⟩:=Ac q;obtain⟨g,n,rfl⟩:=Ac r;obtain⟨e,l,rfl⟩:=Ac p;exact⟨k,o,d,c,f,j,i,ns,g,n,b,e,l,a,rfl⟩
theorem Ayo {w:World}{a:Option Addr}{c:Nat}{m:Dw}(h:w.ownsRow base 38 6 (.slice a 1 c) 1 (Jl [m])):∃g,a=some ⟨g,0,none⟩/\g<w.heap.size/\w.cell? ⟨g,0,none⟩=some (.int .i64 m.net.kind)/\w.cell? ⟨g,1,none⟩=some (.int .i64 m.net.op)/\w.cell? ⟨g,2,none⟩=some m.net.av/\w.cell? ⟨g,3,none⟩=some m.net.kv/\w.cell? ⟨g,4,none⟩=some m.cv/\w.cell? ⟨g,5,none⟩=some m.kv:=by
 obtain⟨g,cap,d,_,f,_,b⟩:=Cf h omz;simp only[Value.slice.injEq] at d;obtain⟨q1,i,l,k,e,j⟩:=U0 [m] 0 spz;exact⟨g,d.1,f,by simpa using b _ _ q1,by simpa using b _ _ i,by simpa using b _ _ l,by simpa using b _ _ k,by simpa using b _ _ e,by simpa using b _ _ j⟩
def NSt (w wc:World)(B:Nat)(m:Dw):Prop:=w.heap.size+2<=B/\A8u wc B m/\Qz wc (w.heap.size+2) m/\(∀x∈m.vals,x.ownBlock≠some B)/\B6 wc (w.heap.size+1) (.int .i64 0) (.int .i64 0) (.slice none 0 0) (.slice none 0 0) (.slice none 0 0) (.slice none 0 0)/\Below w.heap.size w wc
theorem zr {p:Prop}(h:p:=by
 have ji:=mZ.1
 have lJ:∀x∈(Dw.mk ⟨mk,aJ,aF, .slice xa aF.length ya, .slice xb jW.length yb,jW⟩ (.slice xc jX.length yc) jX (.slice xd aC.length yd) aC).vals,x.ownBlock≠some B:=by
  intro x hx e;rcases jJ x hx _ e with⟨y,hy,e2⟩ | h
  ·exact yC y hy e2
  ·omega
 have hb2:=HB2.out;refine⟨⟨⟨mk,aJ,aF, .slice xa aF.length ya, .slice xb jW.length yb,jW⟩, .slice xc jX.length yc,jX, .slice xd aC.length yd,aC⟩,⟨hb2,nC.set6,Qz.setO6 bG lJ,lJ,((sD.drew).grown qQ vk.out).set6O hBne,?_⟩,?_,?_,?_⟩
 ·have oM:=(nD.drew).grown qQ nD.size uI.out
  have hle:w.heap.size<=B:=omz
  exact Ep hle (Ep hle (Ep hle (Ep hle (Ep hle (Ep hle oM _) _) _) _) _) _
 ·rw[aQ.out,A9h]
  exact HJ2.out
 ·rw[aQ.out,A9h]
  exact nN.out
 ·rw[aQ.out]
  exact A88 _):p:=h
set_option maxHeartbeats 4000000 in
set_option maxRecDepth 100000 in
theorem Ay4 (a:Stil.Arm):D7 a->Ed a<=900000->∀(av nv cv kv:Value) (w:World),A7 w av a.net.one.args->D8 w nv a.net.kids->Fh w cv a.coils->Eb w kv a.kids->Calls prog 65 #[.agg #[.int .i64 a.net.kind, .int .i64 a.net.one.op,av,nv,cv,kv]] w λe w'=>Ar0 w' w.heap.size (D5 a) e/\Below w.heap.size w w':=by
 induction a using I9 with
 | h n K kids ih=>
  intro aT S av nv cv kv w aw aS a5 aP;obtain⟨aZ,bO,bs,aG,fA⟩:=(Gh _ _ _).1 aT;simp only at aw aS a5 aP;have aV:∀x∈kids,Ed x<=900000:=by
   intro x hx;have:Ed x<=Jv kids:=Hr Ed kids x hx;rw[Ey] at S;omega
  have bn:kids.length<=999999:=by
   have h1:kids.length<=Jv kids:=by
    clear ih aT S aP aG fA aV;unfold Jv;induction kids with
    | nil=>simp
    | cons x b0 cb=>
     have:=Pj x
     simp only[A84,A9l,Bac];omega
   rw[Ey] at S;omega
  have bk:K.length<=999999:=by
   rw[Ey] at S;omega
  have bo:Bl n=false->Aj n<=999999:=by
   intro h;rw[Ey] at S;have e:Stil.nsz n=Aj n:=if_neg yDi;omega
  have H1:=hid (λW h=>Aou K (λx hx av w aw=>Oc x.op av x.args w aw (bs x hx).2.1) cv W (a5.below h) bk);have H2:=hid (λW h=>Aev kids (λx hx=>ih x hx (fA x hx) (aV x hx)) kv W (aP.below h) bn);have H3:=hid (λW h=>Tm n av nv W (aw.below h) (aS.below h) aZ);have H4:=hid (λhn W h=>Ay3 n aZ (bo hn) av nv W (aw.below h) (aS.below h));have HJ:=hid (N8 n K kids);have HM:Hid (Abh 900000 ⟨Wh n,K,kids.map D5⟩):=by
   have:=Arw aT S (λx hx=>Abd x (fA x hx) (aV x hx))
   exact⟨this.1,A9f this.2 S⟩
  obtain⟨aO,hT⟩:∃aO,aO=D5 ⟨n,K,kids⟩:=⟨_,rfl⟩
  rw[<-hT] at HJ ⊢;obtain⟨ks,wI⟩:∃ks,ks=kids.map D5:=⟨_,rfl⟩
  rw[<-wI] at HJ HM H2;obtain⟨p0,r0,rfl,bz⟩:=aw;obtain⟨p1,r1,rfl,ah⟩:=aS;obtain⟨p2,r2,rfl,ae⟩:=a5;obtain⟨p3,r3,rfl,bI⟩:=aP;clear bz ah ae bI ih aT S aZ bO bs aG fA aV bn bk bo hT wI;go_enter func65,ntmps65;go_upto_region 1 with fail
  go_step3
  go_upto_region 1 with fail
  obtain⟨W,hW⟩:∃W,W=(w.alloc (.cells #[.int .i64 n.kind, .int .i64 n.one.op, .slice p0 n.one.args.length r0, .slice p1 n.kids.length r1, .slice p2 K.length r2, .slice p3 kids.length r3] 38)).alloc (.cells #[.int .i64 0, .int .i64 0, .slice none 0 0, .slice none 0 0, .slice none 0 0, .slice none 0 0] 38):=⟨_,rfl⟩
  rw[<-hW];have hA:B6 W w.heap.size (.int .i64 n.kind) (.int .i64 n.one.op) (.slice p0 n.one.args.length r0) (.slice p1 n.kids.length r1) (.slice p2 K.length r2) (.slice p3 kids.length r3):=by rw[hW];exact(B6.new w _ _ _ _ _ _ _).at (Aa _ _)
  have hZ:B6 W (w.heap.size+1) (.int .i64 0) (.int .i64 0) (.slice none 0 0) (.slice none 0 0) (.slice none 0 0) (.slice none 0 0):=by rw[hW];have:=B6.new (w.alloc (.cells #[.int .i64 n.kind, .int .i64 n.one.op, .slice p0 n.one.args.length r0, .slice p1 n.kids.length r1, .slice p2 K.length r2, .slice p3 kids.length r3] 38)) (.int .i64 0) (.int .i64 0) (.slice none 0 0) (.slice none 0 0) (.slice none 0 0) (.slice none 0 0) 38;simpa using this
  have bp:W.heap.size=w.heap.size+2:=by rw[hW];simp
  have az:Below w.heap.size w W:=by rw[hW];exact Be (Aa _ _) _
  clear hW;have HA:=hid hA;have HZ:=hid hZ;have dZ:=hid bp;have ao:w.heap.size<W.heap.size:=omz
  obtain⟨_,⟨_,_,_,_,p4,p5⟩,_⟩:=hA;clear hZ bp;go_cut [3] (λs3 wc=>∃(B:Nat) (m:Dw),s3=.pointer (some ⟨B,0,none⟩)/\NSt w wc B m/\m.arm=⟨Stil.none0,K,ks⟩/\B6 wc w.heap.size (.int .i64 n.kind) (.int .i64 n.one.op) (.slice p0 n.one.args.length r0) (.slice p1 n.kids.length r1) (.slice p2 K.length r2) (.slice p3 kids.length r3))
  case first=>
   go_region_held3 (λW'=>(W'.cell? ⟨w.heap.size,4,none⟩=some (.slice p2 K.length r2)/\W'.cell? ⟨w.heap.size,5,none⟩=some (.slice p3 kids.length r3))) (first | with_reducible assumption | with_reducible exact⟨Jr.trans p4,Jr.trans p5⟩ | with_reducible exact⟨Jr.trans ((Iq ao).trans p4),Jr.trans ((Iq ao).trans p5)⟩ | with_reducible exact⟨(Iq ae).trans ac.1,(Iq ae).trans ac.2⟩ | with_reducible exact⟨(Iq ah).trans aR.1,(Iq ah).trans aR.2⟩ | with_reducible exact⟨set6O aY ac.1,set6O aY ac.2⟩ | with_reducible exact⟨set6O (Bcb ae) ((Iq ae).trans ac.1),set6O (Bcb ae) ((Iq ae).trans ac.2)⟩ | skip) (first | (go_at_call 95;refine(H1.out _ (by first | exact az.drew | exact(Be az _).drew)).mono ?_;rintro e w1 ⟨ra,rc,Q,rfl,H,aB,ar⟩;have N:Below W.heap.size W w1:=(by first | exact Dj (Below.refl _ _).drew ar | exact Dj (Be (Below.refl _ _) _).drew ar);have aH:=az.trans (N.mono az.size);have ah:=A82 ao N.size;have aR:(w1.cell? ⟨w.heap.size,4,none⟩=some (.slice p2 K.length r2)/\w1.cell? ⟨w.heap.size,5,none⟩=some (.slice p3 kids.length r3)):=⟨(N.cell (p:=⟨w.heap.size,4,none⟩) ao).trans p4,(N.cell (p:=⟨w.heap.size,5,none⟩) ao).trans p5⟩;have kP:=hid H;have qU:Hid (Yb w1 _ (.slice ra Q.length rc) Q):=aB;have bF:Hid (Below _ _ w1):=ar;(try have bu:=(B6.new W _ _ _ _ _ _ 38).drew.at ar);clear H aB) | (go_at_call 64;refine(H2.out _ (by first | exact aH | exact Be aH _)).mono ?_;rintro e w2 ⟨sa,sc,P,rfl,H,aB,hb2⟩;have L:Below w1.heap.size w1 w2:=(by first | exact hb2 | exact Dj (Be (Below.refl _ _) _) hb2);have aa:=aH.trans (L.mono aH.size);have ae:=A82 ah L.size;have ac:(w2.cell? ⟨w.heap.size,4,none⟩=some (.slice p2 K.length r2)/\w2.cell? ⟨w.heap.size,5,none⟩=some (.slice p3 kids.length r3)):=⟨(L.cell (p:=⟨w.heap.size,4,none⟩) ah).trans aR.1,(L.cell (p:=⟨w.heap.size,5,none⟩) ah).trans aR.2⟩;have xm:=hid H;have xh:Hid (Ue w2 _ (.slice sa P.length sc) P):=aB;have HB2:Hid (Below _ _ w2):=hb2;(first | (have aE:=bu.at hb2;have aY:=Bcb ao;have cO:=hid aE;obtain⟨_,⟨t0,t1,t2,t3,t4,t5⟩,f⟩:=aE;have f0:=f 0 yBa;have F:=f 1 yBa;have f2:=f 2 yBa;have f3:=f 3 yBa;have f4:=f 4 yBa;have f5:=f 5 yBa;clear f bu) | (have aE:=(B6.new w1 _ _ _ _ _ _ 38).at hb2;have aY:=Bcb ah;have cO:=hid aE;obtain⟨_,⟨t0,t1,t2,t3,t4,t5⟩,f⟩:=aE;have f0:=f 0 yBa;have F:=f 1 yBa;have f2:=f 2 yBa;have f3:=f 3 yBa;have f4:=f 4 yBa;have f5:=f 5 yBa;clear f) | skip);clear H aB))
   ·go_wp2
    go_meet;have bq:=dZ.out;have V:=Dj N L;obtain⟨ho,hv⟩:=Afh (base:=w.heap.size+2) qU xh L (by show _<=W.heap.size;omega) (A88 _) (by have:=N.size;omega);have S:=V.size;refine⟨w2.heap.size,⟨Rq, .slice ra Q.length rc,Q, .slice sa P.length sc,P⟩,rfl,⟨omz,B6.new _ _ _ _ _ _ _ _,ho.below (Aa _ _),λx hx e=>by(have h:=hv x hx _ e;have:=L.size;omega),(HZ.at V).at (Aa _ _),Be aa _⟩,?_,(HA.at V).at (Aa _ _)⟩;rw[Dw.arm_eq];simp only;rw[kP.out,xm.out,Abf]
   ·go_wp2
    go_meet;have bq:=dZ.out;have V:=Dj N L;obtain⟨ho,hv⟩:=Afh (base:=w.heap.size+2) qU xh L (by show _<=W.heap.size;omega) spz (by have:=N.size;simp;omega);have S:=V.size;have bM:=N.size;have J:∀x∈(Dw.mk Rq (.slice ra Q.length rc) Q (.slice sa P.length sc) P).vals,x.ownBlock≠some w1.heap.size:=λx hx e=>by(have h:=hv x hx _ e;simp at h;omega)
    refine⟨w1.heap.size,⟨Rq, .slice ra Q.length rc,Q, .slice sa P.length sc,P⟩,rfl,⟨by omega,cO.out.set6,Qz.setO6 ho J,J,(HZ.out.at V).set6O yBa,by clear ar hb2 N L;exact blA⟩,?_,(HA.out.at V).set6O yBa⟩;rw[Dw.arm_eq];simp only;rw[kP.out,xm.out,Abf]
   ·go_wp2
    go_meet;have bq:=dZ.out;have V:=Dj N L;obtain⟨ho,hv⟩:=Afh (base:=w.heap.size+2) qU xh L (by show _<=(W.alloc _).heap.size;simp;omega) (A88 _) (by have:=N.size;omega);have S:=V.size;have bM:=A82 (by show W.heap.size<(W.alloc _).heap.size;simp) bF.size;have J:∀x∈(Dw.mk Rq (.slice ra Q.length rc) Q (.slice sa P.length sc) P).vals,x.ownBlock≠some W.heap.size:=λx hx e=>by(have h:=hv x hx _ e;have h2:W.heap.size<(W.alloc (.cells #[.int .i64 0, .int .i64 0, .slice none 0 0, .slice none 0 0, .slice none 0 0, .slice none 0 0] 38)).drew.heap.size:=(by show W.heap.size<(W.alloc _).heap.size;simp);omega)
    refine⟨W.heap.size,⟨Rq, .slice ra Q.length rc,Q, .slice sa P.length sc,P⟩,rfl,⟨by omega,cO.out.set6,Qz.setO6 ho J,J,(HZ.out.at V).set6O yBa,by clear ar hb2 N L;exact blA⟩,?_,(HA.out.at V).set6O yBa⟩;rw[Dw.arm_eq];simp only;rw[kP.out,xm.out,Abf]
  case rest=>
   clear p4 p5 az ao dZ HA HZ;obtain⟨B,m,rfl,an,aA,hA⟩:=hcut;have ai:=hid an;have sO:=hid aA;have HA:=hid hA;clear an aA H1 H2;obtain⟨au,⟨bv,br,bi,y7,bA,bJ⟩,bL⟩:=hA;clear bL;obtain⟨aa,aj,ab,J,ag,M⟩:=ai.out;obtain⟨t,ht⟩:∃t,t=Bl n:=⟨_,rfl⟩
   have HT:=hid ht;have sN:Hid (∀W,Below wc.heap.size wc W->Calls prog 62 #[.agg #[.int .i64 n.kind, .int .i64 n.one.op, .slice p0 n.one.args.length r0, .slice p1 n.kids.length r1]] W λe w'=>e=.returned (.bool t)/\Below W.heap.size W w'):=by rw[ht];exact λW h=>H3 W (M.trans (h.mono M.size))
   have kM:Hid (t=false->∀W,Below wc.heap.size wc W->Calls prog 96 #[.agg #[.int .i64 n.kind, .int .i64 n.one.op, .slice p0 n.one.args.length r0, .slice p1 n.kids.length r1]] W λe w'=>Afm w' W.heap.size (Ci n) e/\Below W.heap.size W w'):=by rw[ht];exact λhn W h=>H4 hn W (M.trans (h.mono M.size))
   clear ht H3 H4 aa aj ab J ag M;go_upto_if 14 with(go_at_call 62;refine(sN _ blA).mono ?_;rintro e w3 ⟨rfl,af⟩;obtain⟨ay,aI⟩:=Eh af;have gm:=A82 au af.size;have q0:w3.cell? ⟨w.heap.size,0,none⟩=_:=(ay _ _ au).trans bv;have q1:w3.cell? ⟨w.heap.size,1,none⟩=_:=(ay _ _ au).trans br;have q2:w3.cell? ⟨w.heap.size,2,none⟩=_:=(ay _ _ au).trans bi;have q3:w3.cell? ⟨w.heap.size,3,none⟩=_:=(ay _ _ au).trans y7;clear ay aI)
   clear sN;have dS:Hid (NSt w w3 B m):=by
    obtain⟨aa,aj,ab,J,ag,M⟩:=ai.out;exact⟨aa,aj.at af,ab.below af,J,ag.at af,Dj M af⟩
   have qP:=hid (λh=>kM h w3 af);clear ai HA au bv br bi y7 bA bJ af kM;go_cut [] (λwd=>∃m:Dw,NSt w wd B m/\m.arm=⟨Wh n,K,ks⟩)
   case first=>
    cases t with
    | true=>
     have iC:Hid (Wh n=n/\n=Stil.none0):=⟨if_pos HT.symm,Abe HT.symm⟩
     clear qP
     go_wp2
     go_meet;exact⟨m,dS.out,by rw[sO.out,iC.out.1,iC.out.2]⟩
    | false=>
     have iC:Hid (Wh n=Ci n):=if_neg (by rw[<-HT.out];exact Bai);have bP:=hid (qP rfl);clear qP
     go_wp2_with (go_at_call 96;refine bP.mono ?_;rintro e b ⟨⟨mk,aJ,aF,s0,t0,j,t1,aC,rfl,ak,H⟩,l⟩;have bG:=hid ak;have aQ:=hid H;clear ak H;have yT:Hid (A8u b B m):=B6.at dS.2.1 l;obtain⟨bW,⟨y0,y1,y2,y3,_,_⟩,nM⟩:=yT.out;have f0:=nM 0 omz;have F:=nM 1 omz;have f2:=nM 2 omz;have f3:=nM 3 omz;clear nM)
     go_meet;obtain⟨aa,aj,ab,J,ag,M⟩:=dS.out;have b7:=l.size;have S:=M.size;have ca:=aj.1;have hN:I7 b (w.heap.size+2) ⟨mk,aJ,aF, .slice s0 aF.length t0, .slice j aC.length t1,aC⟩:=bG.le omz;have bS:=Qz.setNet (ab.below l) hN (λx hx q hq=>(bG.1.lt _ x hx q hq).1) (λx hx q hq=>(ab.1.lt _ x hx q hq).2);have vX:∀x∈(Dw.mk ⟨mk,aJ,aF, .slice s0 aF.length t0, .slice j aC.length t1,aC⟩ m.cv m.coils m.kv m.kids).vals,x.ownBlock≠some B:=by
      intro x hx e;rw[Dw.vals_eq] at hx;rcases List.mem_append.1 hx with hx | hx
      ·have:=(bG.1.lt _ x hx _ e).1;omega
      ·exact J x (by rw[Dw.vals_eq];exact A9b _ hx) e
     refine⟨⟨⟨mk,aJ,aF, .slice s0 aF.length t0, .slice j aC.length t1,aC⟩,m.cv,m.coils,m.kv,m.kids⟩,⟨aa,B6.setN yT.out,Qz.setN bS vX,vX,B6.set4O (ag.at l) omz,?_⟩,?_⟩
     ·have lu:=Dj M l
      have hle:w.heap.size<=B:=omz
      exact Ep hle (Ep hle (Ep hle (Ep hle lu _) _) _) _
     ·have e:=sO.out
      rw[Dw.arm_eq] at e ⊢;simp only[Stil.Arm.mk.injEq] at e ⊢;exact⟨by rw[aQ.out,iC.out],e.2.1,e.2.2⟩
   case rest=>
    rename_i wd;obtain⟨m2,an,aA⟩:=hcut;clear sO dS qP q0 q1 q2 q3;have ai:=hid an;have sO:=hid aA;clear an aA
    go_wp2
    go_step3
    go_wp2
    go_loopg [] (Jv m2.arm.kids) (λk wr=>∃m:Dw,NSt w wr B m/\Stil.joined m.arm=aO/\Abh 900000 m.arm/\Jv m.arm.kids<=k)
    case atStart=>
     exact⟨m2,ai.out,by rw[sO.out,HJ.out],by rw[sO.out];exact HM.out,A88 _⟩
    case round=>
     clear ai sO HJ HM HT;obtain⟨m3,an,ba,a9,bj⟩:=hrel;obtain⟨aa,aj,ab,J,ag,M⟩:=an;obtain⟨k1,Z,E,Y,U,X,T,D,F,R,j,h1,j1,nR,rfl⟩:=Aln m3 ab.1;have wP:B6 wr B (.int .i64 k1) (.int .i64 Z) (.slice Y E.length U) (.slice X D.length T) (.slice F j.length R) (.slice h1 nR.length j1):=aj;have cO:=hid wP;have qX:=hid ab;have iC:=hid J;have bc:=hid ag;have fH:=hid M;have uw:=hid ba;have bD:=hid a9;have bE:=hid bj;have HB2:=hid aa;have aG:nR.length<=900000/\j.length<=900000:=by
      have h0:=a9.2;rw[Dw.arm_eq,Ey] at h0;simp only[A9j] at h0;have h1:(nR.map Dw.arm).length<=Jv (nR.map Dw.arm):=Aer _;rw[A9j] at h1;omega
     obtain⟨jm,bB⟩:=aG;obtain⟨G,⟨x0,x1,x2,x3,x4,x5⟩,nM⟩:=wP;obtain⟨I,⟨z0,z1,z2,z3,z4,z5⟩,rU⟩:=ag;have y0:=rU 0 omz;have y1:=rU 1 omz;have y2:=rU 2 omz;have y3:=rU 3 omz;have y4:=rU 4 omz;have y5:=rU 5 omz;have hBne:w.heap.size+1≠B:=omz
     clear aj ab J M ba a9 bj aa rU gm;by_cases hk:nR.length=1
     ·obtain⟨al,rfl⟩:=List.length_eq_one_iff.1 hk
      obtain⟨_,_,a7,aN⟩:=(Lj _ _ _).1 qX.1;simp only at a7 aN;obtain⟨r,s,d,z,u,A,e2,c,f2,g2,C,h2,j2,o,rfl⟩:=Aln al (aN al spz);obtain⟨g,rfl,ap,q0,q1,q2,q3,q4,q5⟩:=Ayo a7;simp only[A93] at*;have bw:=(Lj _ _ _).1 (aN (Dw.mk ⟨r,s,d, .slice z d.length u, .slice A c.length e2,c⟩ (.slice f2 C.length g2) C (.slice h2 o.length j2) o) spz);obtain⟨aI,O⟩:=MOk.from _ bw.1;have HE:Hid ((Dw.mk ⟨k1,Z,E, .slice Y E.length U, .slice X D.length T,D⟩ (.slice F j.length R) j (.slice (some ⟨g,0,none⟩) 1 j1) [(Dw.mk ⟨r,s,d, .slice z d.length u, .slice A c.length e2,c⟩ (.slice f2 C.length g2) C (.slice h2 o.length j2) o)]).arm=⟨(Ah.mk k1 Z E (.slice Y E.length U) (.slice X D.length T) D).net,j.map Fg.elem,[⟨(Ah.mk r s d (.slice z d.length u) (.slice A c.length e2) c).net,C.map Fg.elem,o.map Dw.arm⟩]⟩):=by
       show _=_
       rw[Dw.arm_eq];simp only[A9l,A97];rw[Dw.arm_eq (Dw.mk ⟨r,s,d, .slice z d.length u, .slice A c.length e2,c⟩ (.slice f2 C.length g2) C (.slice h2 o.length j2) o)]
      have jf:=bD.out;rw[HE.out] at jf;have bf:=Ayr jf (A88 _);simp only at bf;obtain⟨bb,ac,bh,a6,a3,bm⟩:=bf;simp only[A9j] at a3;have qO:Hid (∀W,Below wr.heap.size wr W->Calls prog 62 #[.agg #[.int .i64 r, .int .i64 s, .slice z d.length u, .slice A c.length e2]] W λe w'=>e=.returned (.bool (Bl (Ah.mk r s d (.slice z d.length u) (.slice A c.length e2) c).net))/\Below W.heap.size W w'):=by
       intro W h;have:=Tm (Ah.mk r s d (.slice z d.length u) (.slice A c.length e2) c).net _ _ W (aI.at.below h) (O.at.below h) a6
       have e:=Ah.net_eq (Ah.mk r s d (.slice z d.length u) (.slice A c.length e2) c);have xI:(Ah.mk r s d (.slice z d.length u) (.slice A c.length e2) c).net.kind=r:=by rw[e]
       have xH:(Ah.mk r s d (.slice z d.length u) (.slice A c.length e2) c).net.one.op=s:=by rw[e]
       rw[xI,xH] at this;exact this
      have uH:=hid (λW h=>Atj k1 Z E Y U X T D F R j (some ⟨g,0,none⟩) j1 r s d z u A e2 c f2 g2 C h2 j2 o (w.heap.size+2) W (qX.below h) (A9f (by have:=HB2.out;omega) h.size) ac bh a6 a3);have aU:Value.slice F j.length R∈(Dw.mk ⟨k1,Z,E, .slice Y E.length U, .slice X D.length T,D⟩ (.slice F j.length R) j (.slice (some ⟨g,0,none⟩) 1 j1) [(Dw.mk ⟨r,s,d, .slice z d.length u, .slice A c.length e2,c⟩ (.slice f2 C.length g2) C (.slice h2 o.length j2) o)]).vals:=by rw[Dw.vals_eq];simp
      have iQ:=hid (iC _ aU);have uI:Hid (∀q,(Value.slice F j.length R).ownBlock=some q->w.heap.size<=q):=λq hq=>by have:=(qX.1.lt _ _ aU q hq).1;omega
      have vk:Hid ((Value.slice F j.length R).ownBlock≠some (w.heap.size+1)):=λe=>by have:=(qX.1.lt _ _ aU _ e).1;omega
      have bg:Hid (Jv (o.map Dw.arm)<gk):=by
       have h1:=bE.out;rw[HE.out] at h1;exact A82 bm h1
      have rM:=uw.out;rw[HE.out] at rM;obtain⟨X1,aW⟩:∃a8,a8=(Ah.mk k1 Z E (.slice Y E.length U) (.slice X D.length T) D).net:=⟨_,rfl⟩
      obtain⟨X2,aM⟩:∃a8,a8=(Ah.mk r s d (.slice z d.length u) (.slice A c.length e2) c).net:=⟨_,rfl⟩
      obtain⟨t2,aK⟩:∃t,t=Bl (Ah.mk r s d (.slice z d.length u) (.slice A c.length e2) c).net:=⟨_,rfl⟩
      obtain⟨OV,tZ⟩:∃OV,OV=(Dw.mk ⟨k1,Z,E, .slice Y E.length U, .slice X D.length T,D⟩ (.slice F j.length R) j (.slice (some ⟨g,0,none⟩) 1 j1) [(Dw.mk ⟨r,s,d, .slice z d.length u, .slice A c.length e2,c⟩ (.slice f2 C.length g2) C (.slice h2 o.length j2) o)]).vals:=⟨_,rfl⟩
      obtain⟨ln,aL⟩:∃ln,ln=j.length:=⟨_,rfl⟩
      have bZ:=hid aL;have aX:=hid aK;rw[<-aK] at qO;have yJ:Hid (j.map Fg.elem=[]\/t2=true->Stil.joined ⟨Ny X1 X2,j.map Fg.elem++C.map Fg.elem,o.map Dw.arm⟩=aO):=by
       intro h;rw[aW,aM,<-rM];exact(Aoo _ _ ⟨(Ah.mk r s d (.slice z d.length u) (.slice A c.length e2) c).net,C.map Fg.elem,o.map Dw.arm⟩ (by rw[<-aK];exact h)).symm
      have nN:Hid (Abh 900000 ⟨Ny X1 X2,j.map Fg.elem++C.map Fg.elem,o.map Dw.arm⟩):=by rw[aW,aM];exact bb
      have yC:Hid (∀x∈OV,x.ownBlock≠some B):=by rw[tZ];exact iC.out
      rw[<-aW,<-aM,<-tZ,<-aL] at uH;rw[<-aL] at x4 cO bB iQ uI vk;have sZ:=hid (λW (h:Below wr.heap.size wr W)=>qX.below h);clear hk a7 aN bw aI O jf bb ac bh a6 a3 bm rM aW aM aK tZ aL aU qX iC jm;by_cases hc:0<ln
      ·cases t2 with
       | false=>
        clear uH yJ nM
        go_wp2_with (go_at_call 62;refine(qO _ blA).mono ?_;rintro e b ⟨rfl,l⟩;obtain⟨i,O⟩:=Eh l;have pg:=A82 G l.size;have mr:=A82 I l.size;have bR:b.cell? ⟨B,0,none⟩=_:=(i _ _ G).trans x0;have bQ:b.cell? ⟨B,1,none⟩=_:=(i _ _ G).trans x1;have bC:b.cell? ⟨B,2,none⟩=_:=(i _ _ G).trans x2;have bN:b.cell? ⟨B,3,none⟩=_:=(i _ _ G).trans x3;have bK:b.cell? ⟨B,4,none⟩=_:=(i _ _ G).trans x4;have bH:b.cell? ⟨B,5,none⟩=_:=(i _ _ G).trans x5;have v0:b.cell? ⟨w.heap.size+1,0,none⟩=_:=(i _ _ I).trans z0;have v1:b.cell? ⟨w.heap.size+1,1,none⟩=_:=(i _ _ I).trans z1;have v2:b.cell? ⟨w.heap.size+1,2,none⟩=_:=(i _ _ I).trans z2;have v3:b.cell? ⟨w.heap.size+1,3,none⟩=_:=(i _ _ I).trans z3;have v4:b.cell? ⟨w.heap.size+1,4,none⟩=_:=(i _ _ I).trans z4;have v5:b.cell? ⟨w.heap.size+1,5,none⟩=_:=(i _ _ I).trans z5;have bV:b.frozen? ⟨w.heap.size+1,0,none⟩=_:=(O _ _ I).trans y0;have bY:b.frozen? ⟨w.heap.size+1,1,none⟩=_:=(O _ _ I).trans y1;have bU:b.frozen? ⟨w.heap.size+1,2,none⟩=_:=(O _ _ I).trans y2;have bX:b.frozen? ⟨w.heap.size+1,3,none⟩=_:=(O _ _ I).trans y3;have b9:b.frozen? ⟨w.heap.size+1,4,none⟩=_:=(O _ _ I).trans y4;have b8:b.frozen? ⟨w.heap.size+1,5,none⟩=_:=(O _ _ I).trans y5;clear i O)
        have wz:=hid (Dj fH l);have qW:=sZ b l;rw[Exit.noGoto_ret];refine bodyPost_ret (v:=.agg #[.int .i64 k1, .int .i64 Z, .slice Y E.length U, .slice X D.length T, .slice F ln R, .slice (some ⟨g,0,none⟩) 1 j1]) (by simp[results,results65,go_sem,v0,v1,v2,v3,v4,v5]) rfl ⟨⟨k1,Z,E,Y,U,D,X,T,j,F,R,[(Dw.mk ⟨r,s,d, .slice z d.length u, .slice A c.length e2,c⟩ (.slice f2 C.length g2) C (.slice h2 o.length j2) o)],(some ⟨g,0,none⟩),j1,by rw[<-bZ.out];rfl,?_,?_⟩,?_⟩
        ·exact Qz.le (Qz.setO6 (base:=w.heap.size+2) qW (λx hx e=>by have:=(qW.1.lt _ x hx _ e).1;omega)) omz
        ·rw[<-uw.out]
         refine(Y1 _ ?_).symm;intro al e h;have e':=(congrArg Stil.Arm.kids HE.out).symm.trans e;simp only[List.cons.injEq,Bbx] at e';rcases h with h | h
         ·have h2:=congrArg List.length ((congrArg Stil.Arm.coils HE.out).symm.trans h)
          simp only[A9j,A85] at h2;have:=bZ.out
          omega
         ·rw[<-e'] at h
          simp only at h;rw[<-aX.out] at h;cases h
        ·exact Ep (Bap _) (Ep (Bap _) (Ep (Bap _) (Ep (Bap _) (Ep (Bap _) (Ep (Bap _) wz _) _) _) _) _) _
       | true=>
        have HJ2:=hid (yJ (.inr rfl));clear yJ nM sZ HE aX z0 z1 z2 z3 z4 z5 y0 y1 y2 y3 y4 y5;go_upto_region 6 with(go_at_call 62;refine(qO _ blA).mono ?_;rintro e b ⟨rfl,l⟩;obtain⟨i,O⟩:=Eh l;have pg:=A82 G l.size;have mr:=A82 I l.size;have bR:b.cell? ⟨B,0,none⟩=_:=(i _ _ G).trans x0;have bQ:b.cell? ⟨B,1,none⟩=_:=(i _ _ G).trans x1;have bC:b.cell? ⟨B,2,none⟩=_:=(i _ _ G).trans x2;have bN:b.cell? ⟨B,3,none⟩=_:=(i _ _ G).trans x3;have bK:b.cell? ⟨B,4,none⟩=_:=(i _ _ G).trans x4;have bH:b.cell? ⟨B,5,none⟩=_:=(i _ _ G).trans x5;have Q0:b.cell? ⟨g,0,none⟩=_:=(i _ _ ap).trans q0;have Q1:b.cell? ⟨g,1,none⟩=_:=(i _ _ ap).trans q1;have Q2:b.cell? ⟨g,2,none⟩=_:=(i _ _ ap).trans q2;have Q3:b.cell? ⟨g,3,none⟩=_:=(i _ _ ap).trans q3;have Q4:b.cell? ⟨g,4,none⟩=_:=(i _ _ ap).trans q4;have Q5:b.cell? ⟨g,5,none⟩=_:=(i _ _ ap).trans q5;have bT:=A82 ap l.size;clear i O)
        have mZ:=hid (cO.at l);have sD:=hid (bc.at l);have nD:=hid (Dj fH l);have uy:=hid (λW h=>uH W (Dj l h));clear uH x0 x1 x2 x3 x4 x5 q0 q1 q2 q3 q4 q5 l qO
        go_region_with (first | (go_at_call 97;refine(uy _ yAc).mono ?_;rintro e w5 ⟨⟨mk,aJ,aF,xa,ya,jW,xb,yb,jX,xc,yc,aC,xd,yd,rfl,ak,H,ax⟩,aD⟩;have bG:=hid ak;have aQ:=hid H;have jJ:Hid (∀x∈(Dw.mk ⟨mk,aJ,aF, .slice xa aF.length ya, .slice xb jW.length yb,jW⟩ (.slice xc jX.length yc) jX (.slice xd aC.length yd) aC).vals,∀q,x.ownBlock=some q->(∃y∈OV,y.ownBlock=some q)\/b.heap.size<=q):=ax;have qQ:=hid aD;have nC:=hid ((mZ.drew).grown aD iQ.out);obtain⟨o9,⟨t0,t1,t2,t3,t4,t5⟩,f⟩:=nC.out;have u0:=f 0 omz;have u1:=f 1 omz;have u2:=f 2 omz;have u3:=f 3 omz;have u4:=f 4 omz;have u5:=f 5 omz;clear ak H ax f))
        all_goals
         go_wp2
         go_roundg (Jv (o.map Dw.arm))
         rotate_left
         ·exact bg.out
         ·exact zr
      ·obtain rfl:ln=0:=by omega
       have HJ2:=hid (yJ (.inl (by rw[List.length_eq_zero_iff.1 bZ.out.symm];rfl)));clear yJ nM sZ HE aX z0 z1 z2 z3 z4 z5 y0 y1 y2 y3 y4 y5 qO;go_upto_region 6 with fail
       have mZ:=hid cO.out;have sD:=hid bc.out;have nD:=hid fH.out;have uy:=hid uH.out;clear uH
       go_region_with (first | (go_at_call 97;refine(uy _ yAc).mono ?_;rintro e w5 ⟨⟨mk,aJ,aF,xa,ya,jW,xb,yb,jX,xc,yc,aC,xd,yd,rfl,ak,H,ax⟩,aD⟩;have bG:=hid ak;have aQ:=hid H;have jJ:Hid (∀x∈(Dw.mk ⟨mk,aJ,aF, .slice xa aF.length ya, .slice xb jW.length yb,jW⟩ (.slice xc jX.length yc) jX (.slice xd aC.length yd) aC).vals,∀q,x.ownBlock=some q->(∃y∈OV,y.ownBlock=some q)\/wr.heap.size<=q):=ax;have qQ:=hid aD;have nC:=hid ((mZ.drew).grown aD iQ.out);obtain⟨o9,⟨t0,t1,t2,t3,t4,t5⟩,f⟩:=nC.out;have u0:=f 0 omz;have u1:=f 1 omz;have u2:=f 2 omz;have u3:=f 3 omz;have u4:=f 4 omz;have u5:=f 5 omz;clear ak H ax f))
       all_goals
        go_wp2
        go_roundg (Jv (o.map Dw.arm))
        rotate_left
        ·exact bg.out
        ·exact zr
     ·have b6:((nR.length:Int) !=1)=true:=by rw[bne_iff_ne];omega
      have ai:=hid (λal (e:(nR.map Dw.arm)=[al])=>hk (by have:=congrArg List.length e;simpa using this));clear hk nM
      go_wp2
      rw[Exit.noGoto_ret];refine bodyPost_ret (v:=.agg #[.int .i64 k1, .int .i64 Z, .slice Y E.length U, .slice X D.length T, .slice F j.length R, .slice h1 nR.length j1]) (by simp[results,results65,go_sem,z0,z1,z2,z3,z4,z5]) rfl ⟨⟨k1,Z,E,Y,U,D,X,T,j,F,R,nR,h1,j1,rfl,?_,?_⟩,?_⟩
      ·exact Qz.le (Qz.setO6 (base:=w.heap.size+2) qX (λx hx e=>by have:=(qX.1.lt _ x hx _ e).1;omega)) omz
      ·rw[<-uw.out]
       refine(Y1 _ ?_).symm;intro al e _;rw[Dw.arm_eq] at e;exact ai al e
      ·exact Ep (Bap _) (Ep (Bap _) (Ep (Bap _) (Ep (Bap _) (Ep (Bap _) (Ep (Bap _) fH _) _) _) _) _) _
end Go.Proofs.YtobbpffcggchmaaGreatDoor
