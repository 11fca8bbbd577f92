import Derived.Test.YtgnkpbhknkinoaaGreatDoorBT10
import Derived.Test.YtgnkpbhknkinoaaGreatDoorGe
import Derived.Maps.OwnIn
import Derived.Test.YtgnkpbhknkinoaaGreatDoorCE7
import Derived.Conc.AppendWalk
set_option linter.defProp false
set_option maxHeartbeats 8000000
set_option maxRecDepth 100000
namespace Go.Proofs.YtgnkpbhknkinoaaGreatDoor
open Tryz Stil Go.RowKit Go.Sort Go.BigFrame
variable {A W wE:AU}{P n o:Nat}{bs:List Nat}{v:AW}
theorem V9.off{w:AU}{a:Option Ab}{c:Nat}(f:w.cell? (AK P 0)=some (AE a n c)):∀{e:List Nat}{g:List SN}{v:AW},V9 w e g v->P∉e
 |[],_,_,_,d=>by cases d
 |_::_,[],_,h,_=>h.elim
 |b::e,s::g,v,h,d=>by
  obtain⟨_,_,⟨k,_⟩,p,_,j⟩:=h;rcases BD.1 d with rfl|d
  .rw[k]at f;cases f
  .exact V9.off f j d
theorem Rw.box{w:AU}{B:Nat}{e:List Nat}{ts:Ao}{f:List SN}(h:Rw w B bs ts e f v)(o:Obj):Rw (w.alloc o) B (w.heap.size::bs) ts e f v:=
 ⟨h.link.below (Aa _ _),(h.sv.box o).sub (λx j=>by simp only[FU,EK] at j ⊢;rcases j with h | h | h;exact .inr (.inl h);exact .inl h;exact .inr (.inr h)) λ_ h=>h,λs c=>(h.oks s c).below (Aa _ _),h.apart,λb g=>⟨DL (h.free b g).1 BU,(h.free b g).2⟩,λs c q k d=>by
  rcases BD.1 d with rfl|d
  .exact Kx _ (h.low s c _ k)
  .exact h.off s c q k d⟩
theorem Sv.mkAN{w:AU}{ts:Ao}{n:Stil.DI}{k p u x y:AW}{es:List Stil.Elem}{ms:List Stil.DJ}(h:Sv w bs ts)(h1:([Gy n],[k,p,v,u])∈ts)(c:([sl (Ho es)],[x])∈ts)(f:([sl (Iy ms)],[y])∈ts):Sv w bs (([J6 ⟨n,es,ms⟩],[k,p,v,u,x,y])::ts):=h.der (y:=([_],_)) λ_ b=>by
 have⟨_,_,e,g,d⟩:=K5.1 (O8.O.1 (b _ h1));cases e;exact O8.O.2 (MC.2 ⟨_,_,_,_,rfl,g,d,Iz.1 (b _ c),Iz.1 (b _ f)⟩)
def zOa {p:Prop}(h:p:=by
 have h2:=hC.suffix.2.2;rcases hK with⟨_,e,_⟩|⟨_,_,y,e,_⟩|⟨_,h⟩
 .rw[e];simp
 .rw[e];simp
 have h3:=Y4 h;omega):p:=h
theorem fF(N:Nat)(w0:World)(b o:Nat)(L:List Stil.Aw)(aK:NA N w0 b o L)(au:LAt w0 b o L)(hl:L.length<=1000)(aV:∀i∈L,i.fits)(l r:List Stil.Aw)(x:Stil.DJ)(zu:List Nat)(ah:List SN)(jy:Option Addr)(w:World)(bs:List Nat)(ts us:List (List Tr × List Value))(dV:w0.heap.size∈bs)(m:∀B,Rw w B bs us zu ah (.pointer jy))(a7:∀x∈ts,x∈us)(ab:Ft 1 (ah.map SN.n))(h:Stil.Wh (N+1) (ah.map SN.n) l x r)(d:EC w0 w b o L l):
  Calls prog 86 #[.pointer (some ⟨w0.heap.size,0,none⟩),.pointer jy] w λe S=>JR x bs ts e S/\EC w0 S b o L r/\w.grownBy S (some w0.heap.size):=by
 obtain⟨l1,l2,hN,hC,hK⟩:=h;have ai:=Af au;have HF:=Af aV;have hP:w0.heap.size<w.heap.size:=d.lt;have aH:b<w0.heap.size:=by cases l with|nil=>exact hN.elim|cons i l=>have h2:=d.suf.length_le;exact au.lt (i:=0) (by simp only[DO]at h2;omega)
 have br:l1.length<=1000:=by have:=hN.suffix.1.length_le;have:=d.suf.length_le;omega
 have bi:x.C.length<=1000:=by have:=hC.suffix.2.2;omega
 obtain⟨xn,wG,G⟩:=x;simp only at hN hC hK bi;have a5:G.length<=1000:=by exact zOa
 have aF:=Af (λW cs I(hS:Sv W cs I)(hp:w0.heap.size∈cs)(hr:EC w0 W b o L l2)=>nL N w0 b o L aK ai hl l2 r G W cs I hS hp hK hr a5);have HN:=Af hN;have HC:=Af hC;have fQ:=Af m;have uG:=Af ab;have uD:=Af d;have wB:=Af (m 0).bsLt;clear aK au aV d hN hC hK m ab;have bA:=kU;go_enter func86,ntmps86;go_wp2;go_loopw [1] (λsv wr=>∃(E:List Stil.Aw)(ls:List Nat)(ss:List SN)(po:Option Addr)(I:List (List Tr × List Value)),sv=.pointer po/\Rw wr (w.heap.size+1) (w.heap.size::bs) I ls ss (.pointer po)/\(∀x∈ts,x∈I)/\Stil.Xx (ss.map SN.n) E xn l1/\EC w0 wr b o L E/\Ft (1+2*(L.length - E.length)) (ss.map SN.n)/\B6 wr w.heap.size (.int .i64 0) (.int .i64 0) (.slice none 0 0) (.slice none 0 0) (.slice none 0 0) (.slice none 0 0)/\w.grownBy wr (some w0.heap.size)) (λ_ wr=>Xm wr w0.heap.size);case atStart=>exact⟨l,zu,ah,jy,us,rfl,(fQ _).box _,a7,HN.out,uD.below (Aa _ _) uD.lt,⟨uG.1,DR uG.2 BS⟩,B6.new _ _ _ _ _ _ _ _,grown_of (Aa _ _) _⟩
 case round=>
  clear HN fQ uG uD;obtain⟨E,ls,ss,po,I,rfl,m,az,K,d,ab,H,R⟩:=hrel;cases E with
  |nil=>exact K.elim
  |cons i j=>
   obtain⟨ba,cap,Z,hJ,ak,al,aW,c0,x0,-,-,-⟩:=d.inst ai.out;have oV:w0.heap.size<wr.heap.size:=d.lt;have aN:b<wr.heap.size:=Nat.lt_trans aH oV;have aG:j.length+1<=1000:=xBj;have bu:w.heap.size<wr.heap.size:=H.1;have dN:Hid (Xm wr w0.heap.size=j.length+1):=d.len;rw[Stil.Xx]at K;by_cases h7:i.code<7
   .rw[if_pos h7]at K;(obtain⟨bk,ap,K⟩:=K;rw[DZ]at ap;have af:i.fits:=HF i (d.suf.subset BU);have uH:Hid (∀W,Calls prog 112 #[.int .i64 i.code] W λe S=>e=.returned (.bool true)/\S=W):=λW=>by have h2:=W7 i.code W;rw[FX BS]at h2;exact h2);have eF:=Af (OV L j i b o w0 wr d ai hl);have ae:=m.link.off c0;have a2:=Af (λ(W:World)(Z:Value)(hg:wr.grownBy W (some w0.heap.size))(hd:Ar W Z i.O.args)=>tG i Z ls ss (.pointer po) W (w.heap.size+1) (1+2*(L.length - (i::j).length)) _ I (m.grownP hg (.tail _ dV) ae) hd af bk h7 ap ab BS (DR BS hg.size))
    have eG:=Af (λ(J u:World) (uT:List SN) (g5:wr.grownBy J (some w0.heap.size)) (r5:EC w0 J b o L j) (z:Below (w.heap.size+1) J u) (bg:uT.map SN.n=Lr i.code i.O (ss.map SN.n))=>(show Stil.Xx (uT.map SN.n) j xn l1/\EC w0 u b o L j/\Ft (1+2*(L.length - j.length)) (uT.map SN.n)/\B6 u w.heap.size (.int .i64 0) (.int .i64 0) (.slice none 0 0) (.slice none 0 0) (.slice none 0 0) (.slice none 0 0)/\w.grownBy u (some w0.heap.size) from by
     rw[bg];have h5:=PN (c:=i.code) af.2 ab BS;have e5:1+2*(L.length - (i::j).length)+2=1+2*(L.length - j.length):=BS
     rw[e5]at h5
     exact⟨K,r5.below z BS,h5,(H.grown g5 (λe=>by injection e with e;omega)).below z (EO _),Sr (R.trans g5) z (JJ _)⟩))
    clear K m ab H R d ak al ap ae af;go_wp2_with(first|(go_at_call 112;refine(uH _).mono ?_;rintro e w4⟨rfl,aA⟩;obtain rfl:=aA.symm)|(go_at_call 87;refine eF.mono ?_;rintro e J⟨⟨ta,ua,rfl,ag⟩,aQ,ad⟩;have aB:=Af ag;have kN:=Af aQ;have kD:=Af ad;clear ag aQ ad)|(go_at_call 113;refine(a2 _ _ kD aB.out).mono ?_;rintro e u⟨b7,a3,uT,bm,rfl,bg,aO,z⟩;have bh:=Af aO;have zQ:=Af (eG J u uT kD kN z bg);clear aO bg z));exact⟨⟨j,b7::a3,uT,_,bm++I,rfl,bh.out,λx hx=>EM _ (az x hx),zQ.out⟩,by rw[zQ.out.2.1.len,dN.out];omega⟩
   rw[if_neg h7]at K;(obtain⟨ay,rfl⟩:=K;have uH:Hid (∀W,Calls prog 112 #[.int .i64 i.code] W λe S=>e=.returned (.bool false)/\S=W):=λW=>by have h2:=W7 i.code W;rw[FM BS]at h2;exact h2);have aZ:ss.length=1:=(by have:=congrArg List.length ay;simpa using this);(obtain⟨s,rfl⟩:=List.length_eq_one_iff.1 aZ;have aD:s.n=xn:=by simpa using ay);(obtain⟨g,bF,rfl,aS,bn,⟨y0,y1,y2,y3⟩,_⟩:=m.link.cons;obtain rfl:po=some ⟨g,0,none⟩:=by injection aS);obtain⟨⟨q1,q2,hd⟩,q3,q4,aT⟩:=(m.oks s (.head _)).forms m.sv λ_ h=>h;have HI:Hid (Sv wr (w.heap.size::bs) (([Gy s.n],s.cells)::I)):=SN.ice m.head (m.oks s (.head _)) m.notIn;have aw:=Af d;have jM:=Af H;have zL:=Af R;have a8:=Af az;obtain⟨n,wI,wH,jG⟩:=s;simp only at hd aT y0 y1 y2 y3 aD;subst hd aT aD;clear m ay d ab H R aS ak al aZ az;obtain⟨t,bj⟩:∃t:World,t=wr:=⟨wr,rfl⟩;subst bj;go_wp2_with(go_at_call 112;refine(uH _).mono ?_;rintro e w4⟨rfl,aA⟩;obtain rfl:=aA.symm);go_loopw [] (λwr=>∃(E:List Stil.Aw)(ao k:List Stil.Elem)(D:Option Addr)(C:Nat)(xs:List Value),B6 wr t.heap.size (.int .i64 n.kind) (.int .i64 n.O.op) (.slice q1 n.O.args.length q2) (.slice q3 n.K.length q4) (.slice D k.length C) (.slice none 0 0)/\wr.ownsRow (w.heap.size+1) 53 2 (.slice D k.length C) k.length xs/\(Value.slice D k.length C).ownBlock≠some t.heap.size/\Sv wr (ob (.slice D k.length C)++(t.heap.size::w.heap.size::bs)) ((Ho k,xs)::([Gy n],[.int .i64 n.kind,.int .i64 n.O.op,.slice q1 n.O.args.length q2,.slice q3 n.K.length q4])::I)/\k++ao=wG/\Stil.Ll E ao l2/\EC w0 wr b o L E/\B6 wr w.heap.size (.int .i64 0) (.int .i64 0) (.slice none 0 0) (.slice none 0 0) (.slice none 0 0) (.slice none 0 0)/\w.grownBy wr (some w0.heap.size)) (λwr=>Xm wr w0.heap.size);case atStart=>exact⟨i::j,wG,[],none,0,[],B6.new _ _ _ _ _ _ _ _,World.ownsRow_nil _ _ _ _,(λe=>by cases e),(HI.box _).nil,rfl,HC.out,aw.below (Aa _ _) aw.lt,jM.at (Aa _ _),zL.trans (grown_of (Aa _ _) _)⟩
   case round=>
    clear HC HI aw jM zL uH dN y0 y1 y2 y3 bn aW c0 x0 hJ oV aN aG h7;obtain⟨E,ao,k,D,C,xs,H,an,ae,hS,aj,T,d,ax,R⟩:=hrel;cases E with
    |nil=>exact T.elim
    |cons i j=>
     obtain⟨ba,cap,Z,hJ,ak,al,aW,c0,x0,-,-,-⟩:=d.inst ai.out;have oV:w0.heap.size<wr.heap.size:=d.lt;have aN:b<wr.heap.size:=Nat.lt_trans aH oV;have aG:j.length+1<=1000:=xBj;have dN:Hid (Xm wr w0.heap.size=j.length+1):=d.len;have yQ:t.heap.size<wr.heap.size:=H.1;have Y:=Af (λW(h:wr.grownBy W (some w0.heap.size))=>H.grown h (λe=>by injection e with e;omega));have ve:=Af (λW(h:wr.grownBy W (some w0.heap.size))=>ax.grown h (λe=>by injection e with e;omega));have ar:=Af (λW(h:wr.grownBy W (some w0.heap.size))=>Vj an h BS);have ig:=Af (λW(h:wr.grownBy W (some w0.heap.size))=>hS.grow h (λq F=>by cases F;exact EM _ (.tail _ (.tail _ dV))));have dW:=Af d;have jc:=Af aj;have zL:=Af R;have qZ:Hid ((Value.slice D k.length C).ownBlock≠some t.heap.size):=ae;have gY:=Af (λq(F:(Value.slice D k.length C).ownBlock=some q)=>(an.lt q F).1);have bz:k.length<=1000:=(by have h2:=congrArg List.length aj;simp only[DT]at h2;omega);by_cases aL:i.code=10;{rw[Stil.Ll,if_pos aL]at T;obtain⟨cs2,rfl,T⟩:=T;have yf:=Af T;have af:i.fits:=HF i (d.suf.subset BU);have eF:=Af (λW(h:Below wr.heap.size wr W)=>(OV L j i b o w0 W (d.below h d.lt) ai hl).mono (λe S hh=>And.intro hh.1 (And.intro hh.2.1 (OH h hh.2.2))));have bJ:=Af (λ(W:World)(Z:Value)(hd:Ar W Z i.O.args)cs us hs=>Kt i.O af.2.2.1 Z W cs us hs hd);obtain⟨-,⟨-,-,-,-,y4,-⟩,-⟩:=H;clear T af ak al aj d an ae hS ax R;go_upto_region 5 with fail;go_region_law(first|(refine Gf rfl rfl (Sv.pushM (f:=Qs) (x:=i.O) (c:=[.int .i64 i.O.op,.slice ac i.O.args.length cd]) _ kd2 (uq.mkE (.head _)) (.tail _ (.tail _ (.head _))) (.head _) (λ_=>rfl) (ar u V.out) BS BS) rfl rfl ?_;rintro v6 w6⟨a6,c6,rfl,aU,aR,aC,bD⟩;obtain⟨bw,⟨-,-,-,-,bC,-⟩,kL⟩:=(Y u V.out).grown aC qZ.out;have bE:=kL 4 BS;have X:=Af (And.intro aU (And.intro aR (And.intro aC bD)));clear aU aR aC bD kL)|(go_simp;go_at_call 114;refine(bJ J _ aB _ _ (ig J kD.out)).mono ?_;rintro e u⟨ac,cd,rfl,aI,z⟩;have uq:=Af aI;have V:Hid (wr.grownBy u (some w0.heap.size)):=(kD.trans (grown_of z _));have uz:Hid (EC w0 u b o L j):=(kN.below z kN.lt);obtain⟨bp,⟨-,-,-,-,bB,-⟩,-⟩:=Y u V.out;clear aI z)|(go_simp;go_at_call 87;refine(eF _ yDb).mono ?_;rintro e J⟨⟨ta,ua,rfl,ag⟩,aQ,ad⟩;have aB:=Af ag;have kN:=Af aQ;have kD:=Af ad;obtain⟨bo,⟨-,-,-,-,bv,-⟩,-⟩:=Y J ad;clear ag aQ ad));all_goals go_wp2;have e1:(k++[i.O]).length=k.length+1:=BU;rw[<-e1];have bQ:=V.size;have aX:=X.2.2.2 t.heap.size BS qZ.out;have hR:EC w0 (w6.setCell ⟨t.heap.size,4,none⟩ (.slice a6 (k++[i.O]).length c6)) b o L j:=(uz.grown X.2.2.1 (λq F=>by have:=gY q F;omega)).setB BS _;exact⟨⟨j,cs2,k++[i.O],a6,c6,_,((Y u V.out).grown X.2.2.1 qZ.out).set4 _,Di X.1 aX,aX,(X.2.1.set (EM _ (.head _))).sub (λ_ h=>h) B8,by rw[EG];exact jc.out,yf.out,hR,((ve u V.out).grown X.2.2.1 (λe=>by have:=gY _ e;omega)).setO BS _,Oy ((zL.trans V.out).andThen X.2.2.1 (λq F=>.inl (by have:=gY q F;omega))) BS _⟩,by rw[hR.len,dN.out];omega⟩};rw[Stil.Ll,if_neg aL]at T;obtain⟨rfl,rfl⟩:=T;rw[EW]at aj;subst aj;have bc:=Af (aF wr _ _ hS (EM _ (.tail _ (.tail _ dV))) d);clear d hS an ae ig jc aF ak al dN;obtain⟨-,⟨-,-,-,-,-,y5⟩,fz⟩:=H;go_upto_region 7 with(go_at_call 115;refine bc.mono ?_;rintro e w9⟨⟨M,U,rfl,aE⟩,mO,sU⟩;obtain⟨z9,⟨-,-,-,-,-,bf⟩,aP⟩:=Y w9 sU;have bb:=aP 5 BS;clear aP);have bq:=sU.size;have wK:=ar w9 sU;have aJ:=(Y w9 sU).set5 (.slice M G.length U);have aM:=(ve w9 sU).setO (c:=t.heap.size) (o:=5) BS (.slice M G.length U)
     have hI:=aE.ice2 (v:=.slice D k.length C) (.tail _ (.head _)) (by rw[DZ];exact wK) (λq F hm=>by
      have h1:=gY q F;rcases List.mem_cons.1 hm with rfl|hm
      .exact qZ F
      rcases List.mem_cons.1 hm with rfl|hm
      .omega
      .have:=wB q hm;omega)
     have hA:=(hI.mkAN (n:=n) (es:=k) (ms:=G) (.tail _ (.tail _ (.tail _ (.head _)))) (.head _) (.tail _ (.head _))).set (b:=t.heap.size) (o:=5) (x:=.slice M G.length U) (.head _);have rf:=mO.setB (B:=t.heap.size) (p:=5) BS (.slice M G.length U);have su:=Oy (b:=t.heap.size) (o:=5) (zL.trans sU) BS (.slice M G.length U);obtain⟨wz,aY⟩:∃wz,wz=w9.setCell ⟨t.heap.size,5,none⟩ (.slice M G.length U):=⟨_,rfl⟩;rw[<-aY]at aJ aM hA rf su⊢;obtain⟨zx,⟨k0,k1,k2,k3,k4,k5⟩,-⟩:=aJ;obtain⟨zr,⟨t0,t1,t2,t3,t4,t5⟩,aa⟩:=aM;have f0:=aa 0 BS;have f1:=aa 1 BS;have f2:=aa 2 BS;have f3:=aa 3 BS;have f4:=aa 4 BS;have f5:=aa 5 BS;have HE:=Af (And.intro hA (And.intro rf su));clear aa aY hI wK aE mO sU z9 bf bb ar Y ve hA rf su y5 fz ax R;go_wp2;(refine bodyPost_ret (v:=.agg #[.int .i64 n.kind,.int .i64 n.O.op,.slice q1 n.O.args.length q2,.slice q3 n.K.length q4,.slice D k.length C,.slice M G.length U]) (by simp[results,results86,go_sem,t0,t1,t2,t3,t4,t5]) rfl ?_;refine⟨⟨q1,q2,q3,q4,D,C,M,U,rfl,(HE.1.set6 (.tail _ (.head _))).sub (λx hx=>.tail _ (.tail _ hx)) (List.forall_mem_cons.2 ⟨.head _,λx hx=>.tail _ (.tail _ (.tail _ (.tail _ (.tail _ (a8 x hx)))))⟩)⟩,(((((HE.2.1.setB hP _).setB hP _).setB hP _).setB hP _).setB hP _).setB hP _,?_⟩;repeat(refine Oy ?_ (DK _) _));exact HE.2.2
theorem fL(w0:AU)(b o:Nat)(L:List Stil.Aw)(c:LAt w0 b o L)(hl:L.length<=1000)(d:∀i∈L,i.fits):∀N,NA N w0 b o L
 |0=>λ_ _ _ _ _ _ _ h=>h.elim
 |N+1=>λl r y Q W bs k h e f hS g=>fF N w0 b o L (fL w0 b o L c hl d N) c hl d l r y [Q] [zeroS] (some (AK Q 0)) W bs k _ g (λ_=>vq f hS) (λ_x j=>EM _ j) X0 h e
theorem nQ(w0:AU)(b o:Nat)(L:List Stil.Aw)(g:LAt w0 b o L)(hl:L.length<=1000)(j:∀i∈L,i.fits)(N:Nat)(l r:List Stil.Aw)(y:Stil.DJ)(W:AU)(bs:List Nat)(ts:Ao)(hS:Sv W bs ts)(k:w0.heap.size∈bs)(h:Stil.Wh (N+1) [] l y r)(hr:EC w0 W b o L l):
  Calls prog 86 #[AH w0.heap.size,.pointer none] W λe f=>JR y bs ts e f/\EC w0 f b o L r/\W.grownBy f (some w0.heap.size):=
 fF N w0 b o L (fL w0 b o L g hl j N) g hl j l r y [] [] none W bs ts ts k (λ_=>⟨rfl,hS,(λm p=>by cases p),List.Pairwise.nil,(λc d=>by cases d),(λc d=>by cases d)⟩) (λ_ h=>h) ⟨(λn q=>by cases q),by simp[Stil.sizes]⟩ h hr
open Go.Shelf
def qs{w w':AU}(h:w.grownBy w' (some P))(b:n<=P)(d:n<=w.heap.size):Below n w w':=⟨h.os,h.tape,h.output,h.size,λk c=>h.block k BS (λe=>by injection e with e;omega)⟩
def cutAt(W:AU)(P:Nat):AU:={W with heap:=W.heap.extract 0 P}
def Sz(h:P<=W.heap.size):(cutAt W P).heap.size=P:=by unfold cutAt;simp only[Array.size_extract];omega
def XK(h:P<=W.heap.size):Below P (cutAt W P) W:=by refine⟨rfl,rfl,rfl,by rwa[Sz h],λk b=>?_⟩;unfold cutAt;simp only[Array.getElem?_extract];rw[BR BS];simp
def gj{w:AU}(h:Below n w W)(f:n<=P)(e:w.heap.size<=P)(b:P<=W.heap.size):Below n w (cutAt W P):=by refine⟨h.os,h.tape,h.output,by rwa[Sz b],λk d=>?_⟩;have c:=(XK b).block k BS;rw[<-c];exact h.block k d
structure RdP(wE W:AU)(P b o:Nat)(L l:List Stil.Aw):Prop where
 old:AO wE W
 ge:wE.heap.size<=P
 lt:P<W.heap.size
 c0:∃(cap:Nat)(q:Option Ab),l.length<=cap/\W.cell? (AK P 0)=some (AE q l.length cap)/\(l≠[]->q=some (AK b (o+(L.length - l.length)*3)))
 f0:W.frozen? (AK P 0)=false
 suf:l<:+L
def RdP.rd9{b:Nat}{L l:List Stil.Aw}(h:RdP wE W P b o L l):EC (cutAt W P) W b o L l:=by
 have e:=Sz (EL h.lt);refine⟨?_,by rw[e];exact h.lt,?_,?_,h.suf⟩
 .rw[e];exact XK (EL h.lt)
 .rw[e];exact h.c0
 rw[e];exact h.f0
def RdP.lat{b:Nat}{L l:List Stil.Aw}(h:RdP wE W P b o L l)(c:LAt wE b o L):LAt (cutAt W P) b o L:=by have e:=Sz (EL h.lt);have f:=gj h.old h.ge h.ge (EL h.lt);have:=h.ge;exact⟨λd=>by rw[e];exact DL (c.1 d) h.ge,λi hi=>(c.2 i hi).below f (c.lt hi)⟩
theorem RdP.next{d:World}{b:Nat}{L l r:List Stil.Aw}(h:RdP wE A P b o L l)(hr:EC (cutAt A P) W b o L r)(hg:A.grownBy W (some P))(g:Below wE.heap.size W d)(j:d.heap[P]?=W.heap[P]?):RdP wE d P b o L r:=by have e:=Sz (EL h.lt);have c:=h.ge;obtain⟨cap,q,k,f,m⟩:=hr.c0;rw[e]at f;have f0:=hr.f0;rw[e]at f0;refine⟨?_,c,DL (DL h.lt hg.size) g.size,⟨cap,q,k,(World.cell?_of_block j).trans f,m⟩,(World.frozen?_of_block j).trans f0,hr.suf⟩;exact(h.old.trans (qs hg c (EL (Nat.lt_of_le_of_lt c h.lt)))).trans g
def RdP.len{b:Nat}{L l:List Stil.Aw}(h:RdP wE W P b o L l):Xm W P=l.length:=by have⟨cap,q,_,c0,_⟩:=h.c0;unfold Xm;rw[c0]
def W9{k:Nat}(h:A.grownBy W (some P))(c:k<A.heap.size)(b:k≠P):W.heap[k]?=A.heap[k]?:=h.block k c (λe=>by injection e with e;exact b e)
def Kq(n P:Nat)(W b:AU):Prop:=Below n W b/\b.heap[P]?=W.heap[P]?
theorem Azr(a:Option Addr)(c cap:Nat)(w:World):Calls prog 48 #[.slice a c cap] w λe b=>e=.returned (.func (.func 85) #[] #[.pointer (some ⟨w.heap.size,0,none⟩)])/\b.cell? ⟨w.heap.size,0,none⟩=some (.slice a c cap)/\w.heap.size<b.heap.size/\Below w.heap.size w b:=by have d:∀(fn:Fn)(first cap:Array Value)(w:World),(Instr.makeFunc fn first cap).run prog w=.ok (.func fn first cap) w:=λ_ _ _ _=>rfl;go_enter func48,ntmps48;go_wp2;go_ret;exact⟨rfl,by simp[go_sem],BU,BV⟩
end Go.Proofs.YtgnkpbhknkinoaaGreatDoor
namespace Go.Co
open Go.Conc
def EF(P:AY){α:Type}:Sem α->Prop
  |.pure _=>True
  |.load m _ k=>m=.plain/\∀v,EF P (k v)
  |.store m _ _ k=>m=.plain/\EF P k
  |.new _ k=>∀r,EF P (k r)
  |.shape _ k=>∀s,EF P (k s)
  |.freeze _ _ k=>EF P k
  |.frozen _ k=>∀b,EF P (k b)
  |.getObj _ _=>False
  |.setObj _ _ _=>False
  |.choose _ k=>∀n,EF P (k n)
  |.sys _ _=>False
  |.program k=>EF P (k P)
  |.mark m k=>m=.noRoom/\EF P k
  |.halt _=>True
section
variable {P:AY}{α β:Type}
theorem Ayd{f:α->Sem β}(d:∀a,EF P (f a)):∀(s:Sem α),EF P s->EF P (s.bind f):=by
 intro s;induction s with
 |pure a=>exact λ_=>d a|load m a k b=>exact λh=>⟨h.1,λv=>b v (h.2 v)⟩|store m a v k b=>exact λh=>⟨h.1,b h.2⟩|new o k b=>exact λh v=>b v (h v)|shape r k b=>exact λh v=>b v (h v)|freeze a n k b=>exact λh=>b h|frozen a k b=>exact λh v=>b v (h v)|getObj r k b=>exact λh=>h.elim|setObj r o k b=>exact λh=>h.elim|choose q k b=>exact λh v=>b v (h v)|sys c k b=>exact λh=>h.elim|program k b=>exact λh=>b P h|mark m k b=>exact λh=>⟨h.1,b h.2⟩|halt x=>exact λ_=>trivial
def Nl{s:Sem α}{f:α->Sem β}(c:EF P s)(b:∀a,EF P (f a)):EF P (s>>=f):=Ayd b s c
def gx{a:α}:EF P (pure a:Sem α):=trivial
def EvP(e:Event):Prop:=(∀a,e.loc=.cell a->e.sync=false)/\(∀m,e.loc=.mark m->m=.noRoom)
def zKa {p:Prop}(h:p:=by
 rcases Array.mem_append.1 he with he|he
 . exact h e he
 . obtain⟨x,_,rfl⟩:=Array.mem_map.1 he
   exact⟨λ_ _=>rfl,λm hm=>by cases hm⟩):p:=h
theorem yF:∀(s:Sem α),EF P s->∀(w:AU)(f:Array Event),(∀e∈f,EvP e)->∀e∈(s.runT P w f).2,EvP e:=by
 intro s;induction s with
 |pure a=>exact λ_ w f h=>h
 |load m a k b=>
  rintro⟨rfl,d⟩ w f h;simp only[Sem.runT];split
  . refine b _ (d _) _ _ λe he=>?_
    rcases Array.mem_push.1 he with he|rfl
    . exact h e he
    . exact⟨λ_ _=>rfl,λm hm=>by cases hm⟩
  . split
    . refine b _ (d _) _ _ λe he=>?_
      exact zKa
    . exact h
 |store m a v k b=>
  rintro⟨rfl,d⟩ w f h;have key:∀g(j:Array Ab),∀e∈(k.runT P g (f++j.map λx=>⟨.cell x,true,false⟩)).2,EvP e:=λg j=>by refine b d _ _ λe he=>?_;exact zKa
  have l:∀g(x:Ab),∀e∈(k.runT P g (f.push ⟨.cell x,true,false⟩)).2,EvP e:=λg x=>by
   refine b d _ _ λe he=>?_;rcases Array.mem_push.1 he with he|rfl
   . exact h e he
   . exact⟨λ_ _=>rfl,λm hm=>by cases hm⟩
  cases v<;>simp only[Sem.runT]<;>first
   |exact h
   | (split
      . split
        . exact h
        . exact l _ _
      . split
        . exact key _ _
        . exact h)
 |new o k b=>exact λd w f h=>b _ (d _) _ _ h|shape r k b=>exact λd w f h=>b _ (d _) _ _ h|freeze a n k b=>exact λd w f h=>b d _ _ h|frozen a k b=>exact λd w f h=>b _ (d _) _ _ h|getObj r k b=>exact λh=>h.elim|setObj r o k b=>exact λh=>h.elim
 |choose q k b=>
  intro d w f h;simp only[Sem.runT];split
  . exact b _ (d _) _ _ h
  . exact b _ (d _) _ _ h
 |sys c k b=>exact λh=>h.elim|program k b=>exact λd w f h=>b _ d _ _ h
 |mark m k b=>
  rintro⟨rfl,d⟩ w f h;refine b d _ _ λe he=>?_;rcases Array.mem_push.1 he with he|rfl
  . exact h e he
  . refine⟨λ_ hm=>?_,λm hm=>?_⟩
    . cases hm
    . cases hm;rfl
 |halt x=>exact λ_ w f h=>h
theorem Vh(a:Ab):∀(n i:Nat)(acc:Array AW),EF P (loadCellsFrom a i n acc)
  |0,_,_=>trivial
  |n+1,i,_acc=>Nl (s:=load (a.add i)) ⟨rfl,λ_=>trivial⟩ λ_v=>Vh a n (i+1) _
theorem Zg(a:Ab):∀(b:List AW)(i:Nat),EF P (storeCells a b i)
  |[],_=>trivial
  |v::b,i=>Nl (s:=store (a.add i) v) ⟨rfl,trivial⟩ λ_=>Zg a b (i+1)
def rR(size n:Nat)(v:AW):EF P (Builtin.firstCells size n v):=by unfold Builtin.firstCells;split<;>first|exact trivial|exact Vh _ _ _ _
theorem ez{c:Prop}[Decidable c]{x y:Sem α}(hx:EF P x)(b:EF P y):EF P (if c then x else y):=by split<;>assumption
def Ax9(m:String):EF P (stuck m:Sem α):=trivial
def qq(u:Unsupported):EF P (unsupported u:Sem α):=trivial
def YP(q:Question):EF P (choose q):=λ_=>trivial
def YO:EF P (mark .noRoom):=⟨rfl,trivial⟩
def Aya(r:Nat):EF P (shape r):=λ_=>trivial
def yC(a:Ab):EF P (frozen a):=λ_=>trivial
def rL(t:AZ):EF P (underlying t):=by unfold underlying;show EF P (_:Sem _);refine Nl (s:=program) trivial λp=>?_;split<;>trivial
def X7(t:AZ):EF P (typeInfo t):=by unfold typeInfo;refine Nl (s:=program) trivial λp=>?_;split<;>trivial
def xo(t:AZ):EF P (sizeOf t):=by unfold sizeOf;exact Nl (X7 t) λ_=>trivial
def sL(t:AZ):EF P (zeroValue t):=by unfold zeroValue;refine Nl (X7 t) λ_=>?_;split<;>trivial
def Aye(v:AW):EF P (asInt v):=by unfold asInt asIntOf;repeat' first|exact trivial|refine Nl ?_ (λ_=>?_)|split
def Ayb(v:AW):EF P (Builtin.lenOf v):=by unfold Builtin.lenOf;split<;>trivial
def rN(a:Ab)(n:Nat):EF P (Builtin.holdsCells a n):=by unfold Builtin.holdsCells;refine Nl (Aya _) λ_=>?_;split<;>trivial
def vm(n:Nat):EF P (askRoom n):=by
 unfold askRoom;split
 . exact YO
 . trivial
def x7(t:AZ)(vs:Array AW):EF P (newRow t vs):=by unfold newRow;repeat' first|exact trivial|exact YP _|(exact λ_=>trivial)|refine Nl ?_ (λ_=>?_)|split
def pu(e:RuntimeError):EF P (runtimePanic e:Sem α):=by unfold runtimePanic;refine Nl (s:=program) trivial λp=>?_;repeat' first|exact trivial|(exact λ_=>trivial)|refine Nl ?_ (λ_=>?_)|split
def s6(size b n:Nat)(base:Option Ab)(x:AW):EF P (Builtin.mayShare size b n base x):=by unfold Builtin.mayShare;repeat' first|exact trivial|exact rN _ _|exact yC _|refine Nl ?_ (λ_=>?_)|refine ez ?_ ?_|split
theorem yW(ts:Array AZ)(t:AZ)(args:Array AW):EF P (Builtin.append_ ts t args):=by unfold Builtin.append_;repeat' first|with_reducible exact gx|with_reducible exact Ax9 _|with_reducible exact qq _|with_reducible exact rL _|with_reducible exact xo _|with_reducible exact X7 _|with_reducible exact sL _|with_reducible exact Aye _|with_reducible exact Ayb _|with_reducible exact YP _|with_reducible exact YO|with_reducible exact vm _|with_reducible exact x7 _ _|with_reducible exact pu _|with_reducible exact s6 _ _ _ _ _|with_reducible exact rR _ _ _|with_reducible exact Zg _ _ _|with_reducible refine Nl ?_ (λ_=>?_)|with_reducible refine ez ?_ ?_|split|dsimp only
end
def X8{w w':AU}{base:Nat}{e:AZ}{size:Nat}{v:AW}{n:Nat}{xs:List AW}(h:w.ownsRow base e size v n xs)(f:∀k,v.ownBlock=some k->w'.heap[k]?=w.heap[k]?):w'.ownsRow base e size v n xs:=by
 refine⟨h.1,?_⟩;rcases h.2 with c|⟨g,cap,cur,hv,d,b,rest⟩
 .exact .inl c
 exact .inr ⟨g,cap,cur,hv,d,(f g yFc).tr b,rest⟩
section
variable {τ:Type}{P:AY}{main:Bool}{Low:Nat}{pre:τ -> AU -> Prop}{ok:τ -> (Nat -> Prop) -> AU -> AX -> Prop}{fn:FuncId}{Q:Xi τ}{a:Act}{x:τ}{O:Nat -> Prop}{w:AU}
variable {ops:Array Oper}{i:Nat}{rest:List Nat}{o:Oper}
theorem Wb(af:OkL P main Low pre ok)(ho:ops[i]?=some o)(hw:Region.wanted o (yielded ops a.tmps)=true)(s y:Operand)(t:AZ)(T:o.op=.call {callee:=.builtin .append,args:=#[s,y],argTypes:=#[t,t]})
  (e:AZ) (D:TypeInfo) (z:AW) (size bytes:Nat) (ht:P.underlying t=some (.slice e)) (hi:P.info? e=some D) (V:D.zero=some z) (U:D.size=size) (Y:D.bytes=bytes) (ah:z.cells.size=size) (ae:0<size)
  (v:AW) (n:Nat) (xs:List AW) (M:a.eval s=v) (ac:w.ownsRow Low e size v n xs) (I:∀k,v.ownBlock=some k->O k)
  (b c:Nat) (news:List AW) (hx:a.eval y=AE (some (AK b 0)) 1 c) (hl:news.length=size) (R:O b) (aa:∀j u,news[j]?=some u->w.cell? (AK b j)=some u) (h1:∀u∈news,u.oneCell'=true)
  (S:n+1<=maxLen) (Z:(n+1)*bytes<=140737488355328) {w₀:AU} (hF:Held Low w₀ O w)
  (h:∀C B H,B.ownsRow Low e size C (n+1) (xs++news)->(∀k,C.ownBlock=some k->H k)->(∀k,C.ownBlock=some k->some k=v.ownBlock\/¬O k)->(∀k,O k->H k)->(∀k,O k->some k≠v.ownBlock->B.heap[k]?=w.heap[k]?)->Held Low w₀ H B->
   Va ok fn ops rest Q (a.put o.dst C) x H B):Va ok fn ops (i::rest) Q a x O w:=by
 refine Ya af ho hw λG r _ ai hK=>?_;have K:=X8 ac λk f=>r.mine k (I k f);have X:∀j u,news[j]?=some u->G.c (((AK b 0):Ab).add j)=some u:=λj u hu=>by
  have:=aa j u hu;have e:((AK b 0):Ab).add j=(AK b j):=by unfold Addr.add;split<;>simp_all
  rw[e];rw[<-this];exact BE (r.mine b R)
 have L:news.l=1*size:=BS;have⟨C,B,hr,N,d,_,g⟩:=run_append_own_at (P:=P) G Low t o.type e D z size bytes ht hi V U Y ah ae v n xs K (AK b 0) 1 c news L X h1 S Z (DR hF.low r.size);refine uponK_append s y t T M hx hr (hK _ _ ⟨⟨λk F hn=>d.block k F λe=>hn (I k e.symm),d.size,d.tape,d.os,d.output,λJ E=>?_⟩,?_⟩)
 .replace E:=mem_listed E;rw[events_append_op s y t T M hx]at E;have hp:=yF (P:=P) _ (yW _ _ _) G #[] (λe he=>by simp at he) J E;rcases events_append_where G Low t o.type e D z size bytes ht hi V U Y v n xs K (AK b 0) 1 c news L X h1 S Z J E with⟨ad,e1,h⟩|⟨m,rfl,hm⟩;{refine .inl ⟨ad,J.write,?_,.inl (.inl ?_)⟩;{obtain⟨aj,wr,sy⟩:=J;simp only at e1;subst e1;rw[show sy=false from hp.1 ad rfl]};rcases h with⟨_,h⟩|h;{rwa[h]};exact I _ h.symm};rw[show m=.noRoom from hm];exact .inr rfl
 have q:=hF.rely r;refine h C B _ N (λk f=>?_) (λk f=>?_) (λk r=>.inl r) (λk l ag=>(d.block k (q.up k l) ag).tr (r.mine k l)) ⟨λk F=>?_,DR q.low d.size,λk l=>?_,?_,?_⟩
 .rcases g with g|g;{exact .inl (I k (g.symm.tr f))};have ab:=(N.lt k f).2;rw[g]at f;cases f;exact .inr ⟨DK _,ab⟩
 .rcases g with g|g;{exact .inl (f.symm.tr g)};rw[g]at f;cases f;exact .inr λhO=>Kx _ (q.up _ hO)
 .refine(d.block k (DL F q.low) λe=>?_).tr (q.still k F);have:=(K.lt k e.symm).1;omega
 .rcases l with l|⟨_,l⟩;{exact DL (q.up k l) d.size};exact l
 .exact d.os.tr q.os
 exact d.output.tr q.out
def PI{w₀ c:AU}(hF:Held Low w₀ O w)(d:Keep Low O w c)(ob:Obj):
  ∃e,e=(λb=>O b\/b=c.heap.size)/\Dm Low O e w (c.alloc ob)/\Held Low w₀ e (c.alloc ob)/\e c.heap.size/\Low<=c.heap.size/\(∀x,O x->x≠c.heap.size)/\(c.alloc ob).heap[c.heap.size]?=some ob:=
 ⟨_,rfl,d.ext.tr ((hF.rely d).ext _),(hF.rely d).new _,.inr rfl,(hF.rely d).low,λx f=>by have:=(hF.rely d).up x f;omega,by simp only[World.alloc];exact TB⟩
def Dm.row{w w':AU}{d:Nat->Prop}{base:Nat}{e:AZ}{size:Nat}{v:AW}{n:Nat}{xs:List AW}(h:Dm Low O d w w')(hr:w.ownsRow base e size v n xs)(b:∀k,v.ownBlock=some k->O k\/k<Low):w'.ownsRow base e size v n xs:=
 X8 hr λk c=>(b k c).elim (h.mine k) (h.still k)
end
