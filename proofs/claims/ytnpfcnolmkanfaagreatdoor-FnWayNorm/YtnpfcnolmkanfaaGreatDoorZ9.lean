import Derived.Test.YtnpfcnolmkanfaaGreatDoorGt
import Derived.Test.YtnpfcnolmkanfaaGreatDoorY7g
import Derived.Deep.LoopGhost
import Derived.Deep.RegionHeld3
namespace Go.Proofs.YtnpfcnolmkanfaaGreatDoor
open Tryz
open Stil
open Go.RowKit Go.Sort Go.BigFrame
variable {base:Nat}
def Pz:Aq:=⟨0,0,[], .slice none 0 0, .slice none 0 0,[]⟩
theorem X6:Pz.net=Stil.none0:=by rw[Aq.net_eq];rfl
theorem Za:Pz.vals=[.slice none 0 0, .slice none 0 0]:=by rw[Aq.vals_eq];rfl
theorem Akp (w:World)(base:Nat):MOk w base Pz:=(Jb _ _ _).2 ⟨World.ownsRow_nil _ _ _ _,World.ownsRow_nil _ _ _ _,λx a=>by cases a⟩
theorem Anp {x:Value}(hx:x∈Pz.vals):x.ownBlock=none:=by
 rw[Za] at hx;simp only[A6n,A9e,A7u,or_self] at hx;rw[hx];rfl
theorem Aa5 {w1 f:World}{l lA:Nat}{d b:Value}{c:List D8}{e:List Bj}(h:Ud w1 l d c)(i:Qw f lA b e)(s:Below w1.heap.size w1 f)(h1:base<=l)(u:w1.heap.size<=lA)(t:base<=lA):
  J8 f base ⟨Pz,d,c,b,e⟩/\∀x∈(Bj.mk Pz d c b e).vals,∀q,x.ownBlock=some q->(l<=q/\q<w1.heap.size)\/(lA<=q/\q<f.heap.size):=by
 have m:(Bj.mk Pz d c b e).vals=Pz.vals++((d::Gg c)++(b::Hy e)):=Bj.vals_eq _;have p:=(h.below s).le h1;have o:=i.le t;refine⟨⟨(Il _ _ _).2 ⟨Akp _ _,⟨p.1,p.2.1⟩,o.1,o.2.1⟩,?_⟩,?_⟩
 ·rw[m,A6p]
  refine⟨?_,List.pairwise_append.2 ⟨h.2.2,i.2.2,λx a y r=>Ij (n:=w1.heap.size) (λk j=>(h.lt x a k j).2) (λk j=>A6e u (i.lt y r k j).1)⟩,λx a y _=>.inl (Anp a)⟩;rw[Za];exact List.pairwise_cons.2 ⟨λy _=>Qe y,A7t _ _⟩
 ·intro x a q g
  rw[m] at a;rcases List.mem_append.1 a with a | a
  ·rw[Anp a] at g;cases g
  rcases List.mem_append.1 a with a | a
  ·exact .inl (h.lt x a q g)
  ·exact .inr (i.lt x a q g)
theorem J8.setNet {w:World}{lo:Nat}{m:Bj}{a:Aq}(h:J8 w base m)(c:J7 w base a)(hl:∀x∈a.vals,∀q,x.ownBlock=some q->lo<=q)(d:∀x∈m.vals,∀q,x.ownBlock=some q->q<lo):J8 w base ⟨a,m.cv,m.coils,m.kv,m.kids⟩:=by
 obtain⟨f,b⟩:=h;obtain⟨_,o,l,g⟩:=(Il _ _ _).1 f;have j:(Bj.mk a m.cv m.coils m.kv m.kids).vals=a.vals++((m.cv::Gg m.coils)++(m.kv::Hy m.kids)):=Bj.vals_eq _;have k:m.vals=m.net.vals++((m.cv::Gg m.coils)++(m.kv::Hy m.kids)):=Bj.vals_eq _;rw[k] at b d;refine⟨(Il _ _ _).2 ⟨c.1,o,l,g⟩,?_⟩;rw[j];exact List.pairwise_append.2 ⟨c.2,(List.pairwise_append.1 b).2.1,λx e y i=>(Ij (n:=lo) (d y (A6a _ i)) (hl x e)).symm⟩
theorem J8.setN {w:World}{b:Nat}{m:Bj}{f d g e:Value}(h:J8 w base m)(c:∀x∈m.vals,x.ownBlock≠some b):J8 ((((w.setCell ⟨b,0,none⟩ f).setCell ⟨b,1,none⟩ d).setCell ⟨b,2,none⟩ g).setCell ⟨b,3,none⟩ e) base m:=
 J8.setO (J8.setO (J8.setO (J8.setO h (a:=⟨b,0,none⟩) c f) (a:=⟨b,1,none⟩) c d) (a:=⟨b,2,none⟩) c g) (a:=⟨b,3,none⟩) c e
theorem Xd {w:World}(m:Bj)(h:AOk w base m):∃k o d l n j e ns c g b i f a,m=⟨⟨k,o,d, .slice l d.length n, .slice j ns.length e,ns⟩, .slice c b.length g,b, .slice i a.length f,a⟩:=by
 obtain⟨⟨k,o,d,y,v,ns⟩,x,b,u,a⟩:=m;obtain⟨t,⟨s,_⟩,r,_⟩:=(Il _ _ _).1 h;obtain⟨p,q,_⟩:=(Jb _ _ _).1 t;simp only at s r p q;obtain⟨l,n,rfl⟩:=Aj p;obtain⟨j,e,rfl⟩:=Aj q;obtain⟨c,g,rfl⟩:=Aj s;obtain⟨i,f,rfl⟩:=Aj r;exact⟨k,o,d,l,n,j,e,ns,c,g,b,i,f,a,rfl⟩
theorem Akw {w:World}{a:Option Addr}{c:Nat}{m:Bj}(h:w.ownsRow base 46 6 (.slice a 1 c) 1 (Ip [m])):∃g,a=some ⟨g,0,none⟩/\g<w.heap.size/\w.cell? ⟨g,0,none⟩=some (.int .i64 m.net.kind)/\w.cell? ⟨g,1,none⟩=some (.int .i64 m.net.op)/\w.cell? ⟨g,2,none⟩=some m.net.av/\w.cell? ⟨g,3,none⟩=some m.net.kv/\w.cell? ⟨g,4,none⟩=some m.cv/\w.cell? ⟨g,5,none⟩=some m.kv:=by
 obtain⟨g,cap,d,_,e,_,b⟩:=Bo h omz;simp only[Value.slice.injEq] at d;obtain⟨q1,f,l,k,i,j⟩:=Rl [m] 0 spz;exact⟨g,d.1,e,by simpa using b _ _ q1,by simpa using b _ _ f,by simpa using b _ _ l,by simpa using b _ _ k,by simpa using b _ _ i,by simpa using b _ _ j⟩
def NSt (w wc:World)(B:Nat)(m:Bj):Prop:=w.heap.size+2<=B/\A5t wc B m/\J8 wc (w.heap.size+2) m/\(∀x∈m.vals,x.ownBlock≠some B)/\B6 wc (w.heap.size+1) (.int .i64 0) (.int .i64 0) (.slice none 0 0) (.slice none 0 0) (.slice none 0 0) (.slice none 0 0)/\Below w.heap.size w wc
theorem zr {p:Prop}(h:p:=by
 have tq:=fQ.1
 have nG:∀x∈(Bj.mk ⟨mk,aK,aG, .slice xa aG.length ya, .slice xb bY.length yb,bY⟩ (.slice xc bZ.length yc) bZ (.slice xd aF.length yd) aF).vals,x.ownBlock≠some B:=by
  intro x hx e;rcases fC x hx _ e with⟨y,hy,e2⟩ | h
  ·exact au y hy e2
  ·omega
 have hb2:=HB2.out;refine⟨⟨⟨mk,aK,aG, .slice xa aG.length ya, .slice xb bY.length yb,bY⟩, .slice xc bZ.length yc,bZ, .slice xd aF.length yd,aF⟩,⟨hb2,fU.set6,J8.setO6 aU nG,nG,((kT.drew).grown pM vX.out).set6O hBne,?_⟩,?_,?_,?_⟩
 ·have uT:=(iV.drew).grown pM iV.size pO.out
  have hle:w.heap.size<=B:=omz
  exact Di hle (Di hle (Di hle (Di hle (Di hle (Di hle uT _) _) _) _) _) _
 ·rw[aQ.out,A6g]
  exact HJ2.out
 ·rw[aQ.out,A6g]
  exact rJ.out
 ·rw[aQ.out]
  exact A57 _):p:=h
theorem za0 {p:Prop}(h:p:=by
 rw[<-vT.out]
 refine(Ru _ ?_).symm;intro kid e h;have e':=(congrArg Stil.Arm.kids HE.out).symm.trans e;simp only[List.cons.injEq,A8u] at e';rcases h with h | h
 ·have h2:=congrArg List.length ((congrArg Stil.Arm.coils HE.out).symm.trans h)
  simp only[A6i,A54] at h2;have:=gY.out
  omega
 ·rw[<-e'] at h
  simp only at h;rw[<-HT2.out] at h;cases h):p:=h
theorem zt0 {p:Prop}(h:p:=by
 have e:=jF.out
 rw[Bj.arm_eq] at e ⊢;simp only[Stil.Arm.mk.injEq] at e ⊢;exact⟨by rw[aQ.out,eU.out],e.2.1,e.2.2⟩):p:=h
theorem zA0 {p:Prop}(h:p:=by
 have uD:=Du hbw hb4
 have hle:w.heap.size<=B:=omz
 exact Di hle (Di hle (Di hle (Di hle uD _) _) _) _):p:=h
set_option maxHeartbeats 4000000 in
set_option maxRecDepth 100000 in
theorem Axa (a:Stil.Arm):Cm a->Aw a<=900000->∀(av nv cv kv:Value) (w:World),Dh w av a.net.one.args->E8 w nv a.net.kids->Hz w cv a.coils->Ea w kv a.kids->Calls prog 39 #[.agg #[.int .i64 a.net.kind, .int .i64 a.net.one.op,av,nv,cv,kv]] w λe w'=>Amg w' w.heap.size (Dc a) e/\Below w.heap.size w w':=by
 induction a using Fz with
 | h n I kids ih=>
  intro aP M av nv cv kv w ap aM bb aS;obtain⟨a8,bz,bi,aL,dV⟩:=(Gi _ _ _).1 aP;simp only at ap aM bb aS;have aO:∀x∈kids,Aw x<=900000:=by
   intro x hx;have:Aw x<=Ig kids:=Ed Aw kids x hx;rw[Dp] at M;omega
  have bg:kids.length<=999999:=by
   have h1:kids.length<=Ig kids:=by
    clear ih aP M aS aL dV aO;unfold Ig;induction kids with
    | nil=>simp
    | cons x bO bQ=>
     have:=Stil.La x
     simp only[A53,A6k,A7b];omega
   rw[Dp] at M;omega
  have bw:I.length<=999999:=by
   rw[Dp] at M;omega
  have br:Ar n=false->Am n<=999999:=by
   intro h;rw[Dp] at M;have e:Stil.nsz n=Am n:=if_neg yDf;omega
  have H1:=hid (λW h=>An3 I (λx hx av w ap=>Ag7 x.op av x.args w ap (bi x hx).2.1) cv W (bb.below h) bw);have H2:=hid (λW h=>Aem kids (λx hx=>ih x hx (dV x hx) (aO x hx)) kv W (aS.below h) bg);have H3:=hid (λW h=>Ti n av nv W (ap.below h) (aM.below h) a8);have H4:=hid (λhn W h=>Aw9 n a8 (br hn) av nv W (ap.below h) (aM.below h));have HJ:=hid (Nu n I kids);have HM:Hid (Yl 900000 ⟨Sm n,I,kids.map Dc⟩):=by
   have:=Ajl aP M (λx hx=>X5 x (dV x hx) (aO x hx))
   exact⟨this.1,A6e this.2 M⟩
  obtain⟨aE,hT⟩:∃aE,aE=Dc ⟨n,I,kids⟩:=⟨_,rfl⟩
  rw[<-hT] at HJ ⊢;obtain⟨ks,yM⟩:∃ks,ks=kids.map Dc:=⟨_,rfl⟩
  rw[<-yM] at HJ HM H2;obtain⟨p0,r0,rfl,bE⟩:=ap;obtain⟨p1,r1,rfl,af⟩:=aM;obtain⟨p2,r2,rfl,ag⟩:=bb;obtain⟨p3,r3,rfl,bB⟩:=aS;clear bE af ag bB ih aP M a8 bz bi aL dV aO bg bw br hT yM;go_enter func39,ntmps39;go_upto_region 1 with fail
  go_step3
  go_upto_region 1 with fail
  obtain⟨W,hW⟩:∃W,W=(w.alloc (.cells #[.int .i64 n.kind, .int .i64 n.one.op, .slice p0 n.one.args.length r0, .slice p1 n.kids.length r1, .slice p2 I.length r2, .slice p3 kids.length r3] 46)).alloc (.cells #[.int .i64 0, .int .i64 0, .slice none 0 0, .slice none 0 0, .slice none 0 0, .slice none 0 0] 46):=⟨_,rfl⟩
  rw[<-hW];have hA:B6 W w.heap.size (.int .i64 n.kind) (.int .i64 n.one.op) (.slice p0 n.one.args.length r0) (.slice p1 n.kids.length r1) (.slice p2 I.length r2) (.slice p3 kids.length r3):=by rw[hW];exact(B6.new w _ _ _ _ _ _ _).at (Aa _ _)
  have hZ:B6 W (w.heap.size+1) (.int .i64 0) (.int .i64 0) (.slice none 0 0) (.slice none 0 0) (.slice none 0 0) (.slice none 0 0):=by rw[hW];have:=B6.new (w.alloc (.cells #[.int .i64 n.kind, .int .i64 n.one.op, .slice p0 n.one.args.length r0, .slice p1 n.kids.length r1, .slice p2 I.length r2, .slice p3 kids.length r3] 46)) (.int .i64 0) (.int .i64 0) (.slice none 0 0) (.slice none 0 0) (.slice none 0 0) (.slice none 0 0) 46;simpa using this
  have bq:W.heap.size=w.heap.size+2:=by rw[hW];simp
  have aA:Below w.heap.size w W:=by rw[hW];exact Cc (Aa _ _) _
  clear hW;have HA:=hid hA;have HZ:=hid hZ;have bP:=hid bq;have al:w.heap.size<W.heap.size:=omz
  obtain⟨_,⟨_,_,_,_,p4,p5⟩,_⟩:=hA;clear hZ bq;go_cut [3] (λs3 wc=>∃(B:Nat) (m:Bj),s3=.pointer (some ⟨B,0,none⟩)/\NSt w wc B m/\m.arm=⟨Stil.none0,I,ks⟩/\B6 wc w.heap.size (.int .i64 n.kind) (.int .i64 n.one.op) (.slice p0 n.one.args.length r0) (.slice p1 n.kids.length r1) (.slice p2 I.length r2) (.slice p3 kids.length r3))
  case first=>
   go_region_held3 (λW'=>(W'.cell? ⟨w.heap.size,4,none⟩=some (.slice p2 I.length r2)/\W'.cell? ⟨w.heap.size,5,none⟩=some (.slice p3 kids.length r3))) (first | with_reducible assumption | with_reducible exact⟨F8.trans p4,F8.trans p5⟩ | with_reducible exact⟨F8.trans ((Eg al).trans p4),F8.trans ((Eg al).trans p5)⟩ | with_reducible exact⟨(Eg ag).trans ab.1,(Eg ag).trans ab.2⟩ | with_reducible exact⟨(Eg af).trans aH.1,(Eg af).trans aH.2⟩ | with_reducible exact⟨set6O a9 ab.1,set6O a9 ab.2⟩ | with_reducible exact⟨set6O (A88 ag) ((Eg ag).trans ab.1),set6O (A88 ag) ((Eg ag).trans ab.2)⟩ | skip) (first | (go_at_call 67;refine(H1.out _ (by first | exact aA.drew | exact(Cc aA _).drew)).mono ?_;rintro e w1 ⟨ra,rc,P,rfl,H,aw,ao⟩;have K:Below W.heap.size W w1:=(by first | exact Du (Below.refl _ _).drew ao | exact Du (Cc (Below.refl _ _) _).drew ao);have aT:=aA.trans (K.mono aA.size);have af:=A51 al K.size;have aH:(w1.cell? ⟨w.heap.size,4,none⟩=some (.slice p2 I.length r2)/\w1.cell? ⟨w.heap.size,5,none⟩=some (.slice p3 kids.length r3)):=⟨(K.cell (p:=⟨w.heap.size,4,none⟩) al).trans p4,(K.cell (p:=⟨w.heap.size,5,none⟩) al).trans p5⟩;have dw:=hid H;have dn:Hid (Ud w1 _ (.slice ra P.length rc) P):=aw;have bF:Hid (Below _ _ w1):=ao;(try have bu:=(B6.new W _ _ _ _ _ _ 46).drew.at ao);clear H aw) | (go_at_call 38;refine(H2.out _ (by first | exact aT | exact Cc aT _)).mono ?_;rintro e w2 ⟨sa,sc,Q,rfl,H,aw,hb2⟩;have L:Below w1.heap.size w1 w2:=(by first | exact hb2 | exact Du (Cc (Below.refl _ _) _) hb2);have Z:=aT.trans (L.mono aT.size);have ag:=A51 af L.size;have ab:(w2.cell? ⟨w.heap.size,4,none⟩=some (.slice p2 I.length r2)/\w2.cell? ⟨w.heap.size,5,none⟩=some (.slice p3 kids.length r3)):=⟨(L.cell (p:=⟨w.heap.size,4,none⟩) af).trans aH.1,(L.cell (p:=⟨w.heap.size,5,none⟩) af).trans aH.2⟩;have aY:=hid H;have rO:Hid (Qw w2 _ (.slice sa Q.length sc) Q):=aw;have HB2:Hid (Below _ _ w2):=hb2;(first | (have aC:=bu.at hb2;have a9:=A88 al;have dA:=hid aC;obtain⟨_,⟨t0,t1,t2,t3,t4,t5⟩,f⟩:=aC;have f0:=f 0 yBe;have E:=f 1 yBe;have f2:=f 2 yBe;have f3:=f 3 yBe;have f4:=f 4 yBe;have f5:=f 5 yBe;clear f bu) | (have aC:=(B6.new w1 _ _ _ _ _ _ 46).at hb2;have a9:=A88 af;have dA:=hid aC;obtain⟨_,⟨t0,t1,t2,t3,t4,t5⟩,f⟩:=aC;have f0:=f 0 yBe;have E:=f 1 yBe;have f2:=f 2 yBe;have f3:=f 3 yBe;have f4:=f 4 yBe;have f5:=f 5 yBe;clear f) | skip);clear H aw))
   ·go_wp2
    go_meet;have bs:=bP.out;have X:=Du K L;obtain⟨ho,hv⟩:=Aa5 (base:=w.heap.size+2) dn rO L yFf (A57 _) (by have:=K.size;omega);have M:=X.size;refine⟨w2.heap.size,⟨Pz, .slice ra P.length rc,P, .slice sa Q.length sc,Q⟩,rfl,⟨omz,B6.new _ _ _ _ _ _ _ _,ho.below (Aa _ _),λx hx e=>by(have h:=hv x hx _ e;have:=L.size;omega),(HZ.at X).at (Aa _ _),Cc Z _⟩,?_,(HA.at X).at (Aa _ _)⟩;rw[Bj.arm_eq];simp only;rw[dw.out,aY.out,X6]
   ·go_wp2
    go_meet;have bs:=bP.out;have X:=Du K L;obtain⟨ho,hv⟩:=Aa5 (base:=w.heap.size+2) dn rO L yFf spz (by have:=K.size;simp;omega);have M:=X.size;have bC:=K.size;have G:∀x∈(Bj.mk Pz (.slice ra P.length rc) P (.slice sa Q.length sc) Q).vals,x.ownBlock≠some w1.heap.size:=λx hx e=>by(have h:=hv x hx _ e;simp at h;omega)
    refine⟨w1.heap.size,⟨Pz, .slice ra P.length rc,P, .slice sa Q.length sc,Q⟩,rfl,⟨by omega,dA.out.set6,J8.setO6 ho G,G,(HZ.out.at X).set6O yBe,by clear ao hb2 K L;exact blA⟩,?_,(HA.out.at X).set6O yBe⟩;rw[Bj.arm_eq];simp only;rw[dw.out,aY.out,X6]
   ·go_wp2
    go_meet;have bs:=bP.out;have X:=Du K L;obtain⟨ho,hv⟩:=Aa5 (base:=w.heap.size+2) dn rO L (by show _<=(W.alloc _).heap.size;simp;omega) (A57 _) (by have:=K.size;omega);have M:=X.size;have bC:=A51 (by show W.heap.size<(W.alloc _).heap.size;simp) bF.size;have G:∀x∈(Bj.mk Pz (.slice ra P.length rc) P (.slice sa Q.length sc) Q).vals,x.ownBlock≠some W.heap.size:=λx hx e=>by(have h:=hv x hx _ e;have h2:W.heap.size<(W.alloc (.cells #[.int .i64 0, .int .i64 0, .slice none 0 0, .slice none 0 0, .slice none 0 0, .slice none 0 0] 46)).drew.heap.size:=(by show W.heap.size<(W.alloc _).heap.size;simp);omega)
    refine⟨W.heap.size,⟨Pz, .slice ra P.length rc,P, .slice sa Q.length sc,Q⟩,rfl,⟨by omega,dA.out.set6,J8.setO6 ho G,G,(HZ.out.at X).set6O yBe,by clear ao hb2 K L;exact blA⟩,?_,(HA.out.at X).set6O yBe⟩;rw[Bj.arm_eq];simp only;rw[dw.out,aY.out,X6]
  case rest=>
   clear p4 p5 aA al bP HA HZ;obtain⟨B,m,rfl,an,ay,hA⟩:=hcut;have ae:=hid an;have jF:=hid ay;have HA:=hid hA;clear an ay H1 H2;obtain⟨ar,⟨bo,bj,bv,xB,oh,og⟩,xe⟩:=hA;clear xe;obtain⟨Z,ah,aa,G,aj,hbw⟩:=ae.out;obtain⟨t,ht⟩:∃t,t=Ar n:=⟨_,rfl⟩
   have HT:=hid ht;have eX:Hid (∀W,Below wc.heap.size wc W->Calls prog 69 #[.agg #[.int .i64 n.kind, .int .i64 n.one.op, .slice p0 n.one.args.length r0, .slice p1 n.kids.length r1]] W λe w'=>e=.returned (.bool t)/\Below W.heap.size W w'):=by rw[ht];exact λW h=>H3 W (hbw.trans (h.mono hbw.size))
   have dO:Hid (t=false->∀W,Below wc.heap.size wc W->Calls prog 70 #[.agg #[.int .i64 n.kind, .int .i64 n.one.op, .slice p0 n.one.args.length r0, .slice p1 n.kids.length r1]] W λe w'=>Qi w' W.heap.size (Au n) e/\Below W.heap.size W w'):=by rw[ht];exact λhn W h=>H4 hn W (hbw.trans (h.mono hbw.size))
   clear ht H3 H4 Z ah aa G aj hbw;go_upto_if 14 with(go_at_call 69;refine(eX _ blA).mono ?_;rintro e w3 ⟨rfl,ai⟩;obtain⟨aB,aR⟩:=D7 ai;have tC:=A51 ar ai.size;have q0:w3.cell? ⟨w.heap.size,0,none⟩=_:=(aB _ _ ar).trans bo;have q1:w3.cell? ⟨w.heap.size,1,none⟩=_:=(aB _ _ ar).trans bj;have q2:w3.cell? ⟨w.heap.size,2,none⟩=_:=(aB _ _ ar).trans bv;have q3:w3.cell? ⟨w.heap.size,3,none⟩=_:=(aB _ _ ar).trans xB;clear aB aR)
   clear eX;have iR:Hid (NSt w w3 B m):=by
    obtain⟨Z,ah,aa,G,aj,hbw⟩:=ae.out;exact⟨Z,ah.at ai,aa.below ai,G,aj.at ai,Du hbw ai⟩
   have lQ:=hid (λh=>dO h w3 ai);clear ae HA ar bo bj bv xB oh og ai dO;go_cut [] (λwd=>∃m:Bj,NSt w wd B m/\m.arm=⟨Sm n,I,ks⟩)
   case first=>
    cases t with
    | true=>
     have eU:Hid (Sm n=n/\n=Stil.none0):=⟨if_pos HT.symm,Abq HT.symm⟩
     clear lQ
     go_wp2
     go_meet;exact⟨m,iR.out,by rw[jF.out,eU.out.1,eU.out.2]⟩
    | false=>
     have eU:Hid (Sm n=Au n):=if_neg (by rw[<-HT.out];exact A7h);have wX:=hid (lQ rfl);clear lQ
     go_wp2_with (go_at_call 70;refine wX.mono ?_;rintro e b ⟨⟨mk,aK,aG,s0,t0,j,t1,aF,rfl,ac,H⟩,hb4⟩;have aU:=hid ac;have aQ:=hid H;clear ac H;have oN:Hid (A5t b B m):=B6.at iR.2.1 hb4;obtain⟨bM,⟨y0,y1,y2,y3,_,_⟩,fB⟩:=oN.out;have f0:=fB 0 omz;have E:=fB 1 omz;have f2:=fB 2 omz;have f3:=fB 3 omz;clear fB)
     go_meet;obtain⟨Z,ah,aa,G,aj,hbw⟩:=iR.out;have tu:=hb4.size;have M:=hbw.size;have bH:=ah.1;have hN:J7 b (w.heap.size+2) ⟨mk,aK,aG, .slice s0 aG.length t0, .slice j aF.length t1,aF⟩:=aU.le omz;have yE:=J8.setNet (aa.below hb4) hN (λx hx q hq=>(aU.1.lt _ x hx q hq).1) (λx hx q hq=>(aa.1.lt _ x hx q hq).2);have nH:∀x∈(Bj.mk ⟨mk,aK,aG, .slice s0 aG.length t0, .slice j aF.length t1,aF⟩ m.cv m.coils m.kv m.kids).vals,x.ownBlock≠some B:=by
      intro x hx e;rw[Bj.vals_eq] at hx;rcases List.mem_append.1 hx with hx | hx
      ·have:=(aU.1.lt _ x hx _ e).1;omega
      ·exact G x (by rw[Bj.vals_eq];exact A6a _ hx) e
     refine⟨⟨⟨mk,aK,aG, .slice s0 aG.length t0, .slice j aF.length t1,aF⟩,m.cv,m.coils,m.kv,m.kids⟩,⟨Z,B6.setN oN.out,J8.setN yE nH,nH,B6.set4O (aj.at hb4) omz,?_⟩,?_⟩
     ·exact zA0
     ·exact zt0
   case rest=>
    rename_i wd;obtain⟨m2,an,ay⟩:=hcut;clear jF iR lQ q0 q1 q2 q3;have ae:=hid an;have jF:=hid ay;clear an ay
    go_wp2
    go_step3
    go_wp2
    go_loopg [] (Ig m2.arm.kids) (λk wr=>∃m:Bj,NSt w wr B m/\Stil.joined m.arm=aE/\Yl 900000 m.arm/\Ig m.arm.kids<=k)
    case atStart=>
     exact⟨m2,ae.out,by rw[jF.out,HJ.out],by rw[jF.out];exact HM.out,A57 _⟩
    case round=>
     clear ae jF HJ HM HT;obtain⟨m3,an,bc,a6,bk⟩:=hrel;obtain⟨Z,ah,aa,G,aj,hbw⟩:=an;obtain⟨Y,U,D,S,R,V,T,C,E,N,j,h1,j1,bJ,rfl⟩:=Xd m3 aa.1;have gQ:B6 wr B (.int .i64 Y) (.int .i64 U) (.slice S D.length R) (.slice V C.length T) (.slice E j.length N) (.slice h1 bJ.length j1):=ah;have dA:=hid gQ;have fA:=hid aa;have eU:=hid G;have qZ:=hid aj;have iH:=hid hbw;have vT:=hid bc;have zq:=hid a6;have bD:=hid bk;have HB2:=hid Z;have aL:bJ.length<=900000/\j.length<=900000:=by
      have h0:=a6.2;rw[Bj.arm_eq,Dp] at h0;simp only[A6i] at h0;have h1:(bJ.map Bj.arm).length<=Ig (bJ.map Bj.arm):=Rt _;rw[A6i] at h1;omega
     obtain⟨tY,bA⟩:=aL;obtain⟨F,⟨x0,x1,x2,x3,x4,x5⟩,fB⟩:=gQ;obtain⟨J,⟨z0,z1,z2,z3,z4,z5⟩,kR⟩:=aj;have y0:=kR 0 omz;have y1:=kR 1 omz;have y2:=kR 2 omz;have y3:=kR 3 omz;have y4:=kR 4 omz;have y5:=kR 5 omz;have hBne:w.heap.size+1≠B:=omz
     clear ah aa G hbw bc a6 bk Z kR tC;by_cases hk:bJ.length=1
     ·obtain⟨kid,rfl⟩:=List.length_eq_one_iff.1 hk
      obtain⟨_,_,a5,aW⟩:=(Il _ _ _).1 fA.1;simp only at a5 aW;obtain⟨o,r,d,z,A,u,e2,c,f2,g2,s,h2,j2,l,rfl⟩:=Xd kid (aW kid spz);obtain⟨g,rfl,ak,q0,q1,q2,q3,q4,q5⟩:=Akw a5;simp only[A62] at*;have bm:=(Il _ _ _).1 (aW (Bj.mk ⟨o,r,d, .slice z d.length A, .slice u c.length e2,c⟩ (.slice f2 s.length g2) s (.slice h2 l.length j2) l) spz);obtain⟨aR,O⟩:=MOk.from _ bm.1;have HE:Hid ((Bj.mk ⟨Y,U,D, .slice S D.length R, .slice V C.length T,C⟩ (.slice E j.length N) j (.slice (some ⟨g,0,none⟩) 1 j1) [(Bj.mk ⟨o,r,d, .slice z d.length A, .slice u c.length e2,c⟩ (.slice f2 s.length g2) s (.slice h2 l.length j2) l)]).arm=⟨(Aq.mk Y U D (.slice S D.length R) (.slice V C.length T) C).net,j.map D8.elem,[⟨(Aq.mk o r d (.slice z d.length A) (.slice u c.length e2) c).net,s.map D8.elem,l.map Bj.arm⟩]⟩):=by
       show _=_
       rw[Bj.arm_eq];simp only[A6k,A66];rw[Bj.arm_eq (Bj.mk ⟨o,r,d, .slice z d.length A, .slice u c.length e2,c⟩ (.slice f2 s.length g2) s (.slice h2 l.length j2) l)]
      have tX:=zq.out;rw[HE.out] at tX;have bh:=Anx tX (A57 _);simp only at bh;obtain⟨bf,ab,bp,a3,a7,bn⟩:=bh;simp only[A6i] at a7;have jE:Hid (∀W,Below wr.heap.size wr W->Calls prog 69 #[.agg #[.int .i64 o, .int .i64 r, .slice z d.length A, .slice u c.length e2]] W λe w'=>e=.returned (.bool (Ar (Aq.mk o r d (.slice z d.length A) (.slice u c.length e2) c).net))/\Below W.heap.size W w'):=by
       intro W h;have:=Ti (Aq.mk o r d (.slice z d.length A) (.slice u c.length e2) c).net _ _ W (aR.at.below h) (O.at.below h) a3
       have e:=Aq.net_eq (Aq.mk o r d (.slice z d.length A) (.slice u c.length e2) c);have nY:(Aq.mk o r d (.slice z d.length A) (.slice u c.length e2) c).net.kind=o:=by rw[e]
       have nX:(Aq.mk o r d (.slice z d.length A) (.slice u c.length e2) c).net.one.op=r:=by rw[e]
       rw[nY,nX] at this;exact this
      have mF:=hid (λW h=>Ar1 Y U D S R V T C E N j (some ⟨g,0,none⟩) j1 o r d z A u e2 c f2 g2 s h2 j2 l (w.heap.size+2) W (fA.below h) (A6e (by have:=HB2.out;omega) h.size) ab bp a3 a7);have aD:Value.slice E j.length N∈(Bj.mk ⟨Y,U,D, .slice S D.length R, .slice V C.length T,C⟩ (.slice E j.length N) j (.slice (some ⟨g,0,none⟩) 1 j1) [(Bj.mk ⟨o,r,d, .slice z d.length A, .slice u c.length e2,c⟩ (.slice f2 s.length g2) s (.slice h2 l.length j2) l)]).vals:=by rw[Bj.vals_eq];simp
      have dX:=hid (eU _ aD);have pO:Hid (∀q,(Value.slice E j.length N).ownBlock=some q->w.heap.size<=q):=λq hq=>by have:=(fA.1.lt _ _ aD q hq).1;omega
      have vX:Hid ((Value.slice E j.length N).ownBlock≠some (w.heap.size+1)):=λe=>by have:=(fA.1.lt _ _ aD _ e).1;omega
      have cu:Hid (Ig (l.map Bj.arm)<gk):=by
       have h1:=bD.out;rw[HE.out] at h1;exact A51 bn h1
      have kH:=vT.out;rw[HE.out] at kH;obtain⟨X1,aJ⟩:∃aZ,aZ=(Aq.mk Y U D (.slice S D.length R) (.slice V C.length T) C).net:=⟨_,rfl⟩
      obtain⟨X2,aI⟩:∃aZ,aZ=(Aq.mk o r d (.slice z d.length A) (.slice u c.length e2) c).net:=⟨_,rfl⟩
      obtain⟨t2,aN⟩:∃t,t=Ar (Aq.mk o r d (.slice z d.length A) (.slice u c.length e2) c).net:=⟨_,rfl⟩
      obtain⟨OV,wP⟩:∃OV,OV=(Bj.mk ⟨Y,U,D, .slice S D.length R, .slice V C.length T,C⟩ (.slice E j.length N) j (.slice (some ⟨g,0,none⟩) 1 j1) [(Bj.mk ⟨o,r,d, .slice z d.length A, .slice u c.length e2,c⟩ (.slice f2 s.length g2) s (.slice h2 l.length j2) l)]).vals:=⟨_,rfl⟩
      obtain⟨ln,aV⟩:∃ln,ln=j.length:=⟨_,rfl⟩
      have gY:=hid aV;have HT2:=hid aN;rw[<-aN] at jE;have oL:Hid (j.map D8.elem=[]\/t2=true->Stil.joined ⟨Ko X1 X2,j.map D8.elem++s.map D8.elem,l.map Bj.arm⟩=aE):=by
       intro h;rw[aJ,aI,<-kH];exact(Aej _ _ ⟨(Aq.mk o r d (.slice z d.length A) (.slice u c.length e2) c).net,s.map D8.elem,l.map Bj.arm⟩ (by rw[<-aN];exact h)).symm
      have rJ:Hid (Yl 900000 ⟨Ko X1 X2,j.map D8.elem++s.map D8.elem,l.map Bj.arm⟩):=by rw[aJ,aI];exact bf
      have au:Hid (∀x∈OV,x.ownBlock≠some B):=by rw[wP];exact eU.out
      rw[<-aJ,<-aI,<-wP,<-aV] at mF;rw[<-aV] at x4 dA bA dX pO vX;have iZ:=hid (λW (h:Below wr.heap.size wr W)=>fA.below h);clear hk a5 aW bm aR O tX bf ab bp a3 a7 bn kH aJ aI aN wP aV aD fA eU tY;by_cases hc:0<ln
      ·cases t2 with
       | false=>
        clear mF oL fB
        go_wp2_with (go_at_call 69;refine(jE _ blA).mono ?_;rintro e b ⟨rfl,hb4⟩;obtain⟨i,O⟩:=D7 hb4;have uS:=A51 F hb4.size;have uH:=A51 J hb4.size;have xw:b.cell? ⟨B,0,none⟩=_:=(i _ _ F).trans x0;have xu:b.cell? ⟨B,1,none⟩=_:=(i _ _ F).trans x1;have xq:b.cell? ⟨B,2,none⟩=_:=(i _ _ F).trans x2;have xm:b.cell? ⟨B,3,none⟩=_:=(i _ _ F).trans x3;have xh:b.cell? ⟨B,4,none⟩=_:=(i _ _ F).trans x4;have xg:b.cell? ⟨B,5,none⟩=_:=(i _ _ F).trans x5;have v0:b.cell? ⟨w.heap.size+1,0,none⟩=_:=(i _ _ J).trans z0;have v1:b.cell? ⟨w.heap.size+1,1,none⟩=_:=(i _ _ J).trans z1;have v2:b.cell? ⟨w.heap.size+1,2,none⟩=_:=(i _ _ J).trans z2;have v3:b.cell? ⟨w.heap.size+1,3,none⟩=_:=(i _ _ J).trans z3;have v4:b.cell? ⟨w.heap.size+1,4,none⟩=_:=(i _ _ J).trans z4;have v5:b.cell? ⟨w.heap.size+1,5,none⟩=_:=(i _ _ J).trans z5;have bR:b.frozen? ⟨w.heap.size+1,0,none⟩=_:=(O _ _ J).trans y0;have bL:b.frozen? ⟨w.heap.size+1,1,none⟩=_:=(O _ _ J).trans y1;have bI:b.frozen? ⟨w.heap.size+1,2,none⟩=_:=(O _ _ J).trans y2;have bS:b.frozen? ⟨w.heap.size+1,3,none⟩=_:=(O _ _ J).trans y3;have bK:b.frozen? ⟨w.heap.size+1,4,none⟩=_:=(O _ _ J).trans y4;have bG:b.frozen? ⟨w.heap.size+1,5,none⟩=_:=(O _ _ J).trans y5;clear i O)
        have vZ:=hid (Du iH hb4);have jU:=iZ b hb4;rw[Exit.noGoto_ret];refine bodyPost_ret (v:=.agg #[.int .i64 Y, .int .i64 U, .slice S D.length R, .slice V C.length T, .slice E ln N, .slice (some ⟨g,0,none⟩) 1 j1]) (by simp[results,results39,go_sem,v0,v1,v2,v3,v4,v5]) rfl ⟨⟨Y,U,D,S,R,C,V,T,j,E,N,[(Bj.mk ⟨o,r,d, .slice z d.length A, .slice u c.length e2,c⟩ (.slice f2 s.length g2) s (.slice h2 l.length j2) l)],(some ⟨g,0,none⟩),j1,by rw[<-gY.out];rfl,?_,?_⟩,?_⟩
        ·exact J8.le (J8.setO6 (base:=w.heap.size+2) jU (λx hx e=>by have:=(jU.1.lt _ x hx _ e).1;omega)) omz
        ·exact za0
        ·exact Di (A7n _) (Di (A7n _) (Di (A7n _) (Di (A7n _) (Di (A7n _) (Di (A7n _) vZ _) _) _) _) _) _
       | true=>
        have HJ2:=hid (oL (.inr rfl));clear oL fB iZ HE HT2 z0 z1 z2 z3 z4 z5 y0 y1 y2 y3 y4 y5;go_upto_region 6 with(go_at_call 69;refine(jE _ blA).mono ?_;rintro e b ⟨rfl,hb4⟩;obtain⟨i,O⟩:=D7 hb4;have uS:=A51 F hb4.size;have uH:=A51 J hb4.size;have xw:b.cell? ⟨B,0,none⟩=_:=(i _ _ F).trans x0;have xu:b.cell? ⟨B,1,none⟩=_:=(i _ _ F).trans x1;have xq:b.cell? ⟨B,2,none⟩=_:=(i _ _ F).trans x2;have xm:b.cell? ⟨B,3,none⟩=_:=(i _ _ F).trans x3;have xh:b.cell? ⟨B,4,none⟩=_:=(i _ _ F).trans x4;have xg:b.cell? ⟨B,5,none⟩=_:=(i _ _ F).trans x5;have Q0:b.cell? ⟨g,0,none⟩=_:=(i _ _ ak).trans q0;have Q1:b.cell? ⟨g,1,none⟩=_:=(i _ _ ak).trans q1;have Q2:b.cell? ⟨g,2,none⟩=_:=(i _ _ ak).trans q2;have Q3:b.cell? ⟨g,3,none⟩=_:=(i _ _ ak).trans q3;have Q4:b.cell? ⟨g,4,none⟩=_:=(i _ _ ak).trans q4;have Q5:b.cell? ⟨g,5,none⟩=_:=(i _ _ ak).trans q5;have uj:=A51 ak hb4.size;clear i O)
        have fQ:=hid (dA.at hb4);have kT:=hid (qZ.at hb4);have iV:=hid (Du iH hb4);have ba:=hid (λW h=>mF W (Du hb4 h));clear mF x0 x1 x2 x3 x4 x5 q0 q1 q2 q3 q4 q5 hb4 jE
        go_region_with (first | (go_at_call 71;refine(ba _ yFc).mono ?_;rintro e w5 ⟨⟨mk,aK,aG,xa,ya,bY,xb,yb,bZ,xc,yc,aF,xd,yd,rfl,ac,H,ax⟩,az⟩;have aU:=hid ac;have aQ:=hid H;have fC:Hid (∀x∈(Bj.mk ⟨mk,aK,aG, .slice xa aG.length ya, .slice xb bY.length yb,bY⟩ (.slice xc bZ.length yc) bZ (.slice xd aF.length yd) aF).vals,∀q,x.ownBlock=some q->(∃y∈OV,y.ownBlock=some q)\/b.heap.size<=q):=ax;have pM:=hid az;have fU:=hid ((fQ.drew).grown az dX.out);obtain⟨nV,⟨t0,t1,t2,t3,t4,t5⟩,f⟩:=fU.out;have u0:=f 0 omz;have u1:=f 1 omz;have u2:=f 2 omz;have u3:=f 3 omz;have u4:=f 4 omz;have u5:=f 5 omz;clear ac H ax f))
        all_goals
         go_wp2
         go_roundg (Ig (l.map Bj.arm))
         rotate_left
         ·exact cu.out
         ·exact zr
      ·obtain rfl:ln=0:=by omega
       have HJ2:=hid (oL (.inl (by rw[List.length_eq_zero_iff.1 gY.out.symm];rfl)));clear oL fB iZ HE HT2 z0 z1 z2 z3 z4 z5 y0 y1 y2 y3 y4 y5 jE;go_upto_region 6 with fail
       have fQ:=hid dA.out;have kT:=hid qZ.out;have iV:=hid iH.out;have ba:=hid mF.out;clear mF
       go_region_with (first | (go_at_call 71;refine(ba _ yFc).mono ?_;rintro e w5 ⟨⟨mk,aK,aG,xa,ya,bY,xb,yb,bZ,xc,yc,aF,xd,yd,rfl,ac,H,ax⟩,az⟩;have aU:=hid ac;have aQ:=hid H;have fC:Hid (∀x∈(Bj.mk ⟨mk,aK,aG, .slice xa aG.length ya, .slice xb bY.length yb,bY⟩ (.slice xc bZ.length yc) bZ (.slice xd aF.length yd) aF).vals,∀q,x.ownBlock=some q->(∃y∈OV,y.ownBlock=some q)\/wr.heap.size<=q):=ax;have pM:=hid az;have fU:=hid ((fQ.drew).grown az dX.out);obtain⟨nV,⟨t0,t1,t2,t3,t4,t5⟩,f⟩:=fU.out;have u0:=f 0 omz;have u1:=f 1 omz;have u2:=f 2 omz;have u3:=f 3 omz;have u4:=f 4 omz;have u5:=f 5 omz;clear ac H ax f))
       all_goals
        go_wp2
        go_roundg (Ig (l.map Bj.arm))
        rotate_left
        ·exact cu.out
        ·exact zr
     ·have bN:((bJ.length:Int) !=1)=true:=by rw[bne_iff_ne];omega
      have ae:=hid (λkid (e:(bJ.map Bj.arm)=[kid])=>hk (by have:=congrArg List.length e;simpa using this));clear hk fB
      go_wp2
      rw[Exit.noGoto_ret];refine bodyPost_ret (v:=.agg #[.int .i64 Y, .int .i64 U, .slice S D.length R, .slice V C.length T, .slice E j.length N, .slice h1 bJ.length j1]) (by simp[results,results39,go_sem,z0,z1,z2,z3,z4,z5]) rfl ⟨⟨Y,U,D,S,R,C,V,T,j,E,N,bJ,h1,j1,rfl,?_,?_⟩,?_⟩
      ·exact J8.le (J8.setO6 (base:=w.heap.size+2) fA (λx hx e=>by have:=(fA.1.lt _ x hx _ e).1;omega)) omz
      ·rw[<-vT.out]
       refine(Ru _ ?_).symm;intro kid e _;rw[Bj.arm_eq] at e;exact ae kid e
      ·exact Di (A7n _) (Di (A7n _) (Di (A7n _) (Di (A7n _) (Di (A7n _) (Di (A7n _) iH _) _) _) _) _) _
end Go.Proofs.YtnpfcnolmkanfaaGreatDoor
