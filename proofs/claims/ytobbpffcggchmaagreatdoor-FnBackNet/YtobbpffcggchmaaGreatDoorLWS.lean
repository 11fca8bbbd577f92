import Derived.Test.YtobbpffcggchmaaGreatDoorHl
import Derived.Test.YtobbpffcggchmaaGreatDoorKe
import Derived.WalkLawsBesides
import Derived.Deep.Light
import Derived.Defers
import Derived.Recover
namespace Go.Proofs.YtobbpffcggchmaaGreatDoor
open Tryz
open Go.RowKit Go.Sort Go.BigFrame
variable {P g n q:Nat}{W:World}{v:Value}
theorem Cc.wide {q':Nat}{w:World}(h:Cc q w W g P v n)(f:q<=q'):Cc q' w W g P v n:=by
 obtain⟨l,e,a,b,c,d⟩:=h;exact⟨l,e,a,b,λi hi=>⟨(c i hi).1,by have:=(c i hi).2;omega⟩,d⟩
theorem Cc.gr {w:World}(h:Cc q w W g P v n):w.grownBy W (some g):=by
 obtain⟨l,i,a,b,c,d,e,f⟩:=h;exact f
def lenOf:Value->Nat
 | .slice _ m _=>m
 | _=>0
theorem Azs {w:World}{u:Value}{d:List Stil.Dev}(h:Ej (Off g u) w v d):Gw w g v d:=by
 obtain⟨a,c,rfl,l,e⟩:=h;exact⟨a,c,rfl,l,λi hi=>by obtain⟨b,o,f,k,j⟩:=e i hi;exact⟨b,o,f,k.1,j⟩⟩
set_option maxHeartbeats 4000000 in
set_option maxRecDepth 100000 in
theorem Awv (g P:Nat)(w:World)(l:List Stil.F7)(v:Value)(hr:Kq w g P)(hv:J8 (λb=>g<b) w v l)(ht:∀i∈l,Pv i/\i.one.args.length<=3)(hn:l.length<=76000)(hP:P<=50000000):
  Calls prog 19 #[.pointer (some ⟨g,0,none⟩),v] w λe w'=>Abv 4 e w w' g (P+4000) 80000:=by
 have f:=Sr hr;obtain⟨a1,c1,rfl,-⟩:=id hv;have HV:Hid (J8 (λb=>g<b/\b<w.heap.size) w (.slice a1 l.length c1) l):=hv.mono λb h1 h2=>⟨h2,h1⟩
 have HT:Hid (∀i∈l,Pv i/\i.one.args.length<=3):=ht;have HR:Hid (Kq w g P):=hr;clear hv ht hr;go_enter func19,ntmps19;go_upto_if 15 with(at_builtin;refine Aa4 rfl _ _ rfl (λb=>g<b/\b<w.heap.size) w l (.slice a1 l.length c1) rfl rfl rfl HV omz ?_;intro d t w3 xs ao aM l7 bz bP)
 have dS:Hid (Cc 3 w w3 g P (.slice (some ⟨d,0,none⟩) l.length t) l.length):=Aom HR HT ao aM l7 bP;have bu:l.length<=t:=by
  obtain⟨a',c',hv,aT,-⟩:=Iy ao;injection hv with h1 h2 h3
  subst h3;exact aT.1
 clear HV HT HR ao aM bP;have bm:g<w3.heap.size:=omz
 by_cases aQ:l.length=0
 ·have bf:((l.length:Int)==0)=true:=by rw[aQ];rfl
  clear aQ
  go_wp2_with (first | (go_at_call 14;refine(Ac8 g _ _ dS.rd omz).mono ?_;rintro e w4 ⟨i,av,rfl,O,hti,nI,nU,dA⟩;have gQ:Hid (Cc 3 w w4 g (P+200) (.slice (some ⟨d,0,none⟩) l.length t) l.length):=dS.grown dA f (U9 nU omz);have Z:Hid (Ej (Off g (.slice (some ⟨d,0,none⟩) l.length t)) w4 av i.one.args):=O.mono (λb _ hb=>yBf);obtain⟨ai,ci,rfl,-⟩:=id O) | (at_builtin;refine Lp rfl _ _ rfl w _ g _ _ (.slice (some ⟨d,0,none⟩) l.length t) rfl (gQ.below (Aa _ _) f) f [i] _ _ _ [.int .i64 i.code, .int .i64 i.one.op, .slice ai i.one.args.length ci] rfl rfl (RowOf.one rfl ⟨_,rfl,Z.keep (Bf.of_below (Aa _ _))⟩) yBg yAj yEi yAb ?_;intro v6 s gJ jE))
  go_ret;exact((gJ.wide omz).later omz yAb).list f
 ·have bf:((l.length:Int)==0)=false:=by rw[A95];omega
  go_upto_region 7 with(first | (go_at_call_of 13 (l.length:Nat);refine(Gm g _ _ _ dS.rd omz omz omz).mono ?_;rintro e w4 ⟨k0,rfl,aX,bj,nU,dA⟩;have gQ:Hid (Cc 3 w w4 g (P+1) (.slice (some ⟨d,0,none⟩) l.length t) l.length):=dS.grown dA f nU;have bG:=dA.size;obtain⟨k,aU⟩:=Baj aX;subst aU) | (go_at_call 13;refine(Gm g _ _ _ gQ.rd omz omz omz).mono ?_;rintro e z ⟨x,rfl,a9,aR,iG,ah⟩;have y:Hid (Cc 3 w z g (P+2) (.slice (some ⟨d,0,none⟩) l.length t) l.length):=gQ.grown ah f iG;have bH:=ah.size))
  have N:k<l.length:=omz
  clear dS gQ nU dA iG ah;have bc:x=0\/x=1\/x=2\/x=3\/x=4\/x=5\/x=6\/x=7\/x=8:=omz
  clear a9 aR;obtain⟨a,J,F,⟨L,q1,I⟩,⟨H,C,E⟩,G,K,S,R⟩:=y.at N;rcases bc with rfl | rfl | rfl | rfl | rfl | rfl | rfl | rfl | rfl
  ·clear L q1 I H C E G K S R
   have bF:IntKind.i64.wrap ((k:Int)+1)=((k+1:Nat):Int):=by rw[IntKind.wrap_i64];omega
   obtain⟨es,news,bn,aG,a2,aV,dV⟩:=y.behind (k:=k+1) N;have yR:Hid (Cc 3 w z g (P+2) (.slice (some ⟨d,0,none⟩) k t) k):=y.cut (Bcc N);have aJ:Hid (RowOf 3 (Nq (Off g (.slice (some ⟨d,0,none⟩) k t)) z) news es):=aG.imp λ_ _ _ h=>h.mono λb _ hb=>⟨hb.1,hb.2⟩
   clear aG;have bJ:news.length=es.length*3:=aJ.1;have a5:k+1=t->news=[]:=λh=>List.eq_nil_of_length_eq_zero omz
   go_upto_region 8 with fail
   have aZ:k<=t:=omz
   have an:k+1<=l.length:=N;have bi:((k:Int)+1).toNat=k+1:=omz
   have bI:(k:Int)<=(k:Int)+1:=omz
   have bE:(0:Int)<=(k:Int)+1:=omz
   have bA:(k:Int)+1<=(l.length:Int):=omz
   by_cases aN:t=k+1
   ·have a8:=a5 aN.symm
    subst a8;subst aN
    go_region_law fail
    all_goals
     go_wp2
     go_ret;exact(((yR.below blA f).wide omz).later omz omz).list f
   ·have bK:k+1<=t:=by omega
    go_region_law (refine Ws rfl _ _ rfl w _ g _ _ (.slice (some ⟨d,0,none⟩) k t) (by go_simp) (yR.below blA f) f es ⟨d,(k+1)*3,none⟩ (l.length - (k+1)) (t - (k+1)) news omz (by go_simp) (aJ.imp λ_ _ _ h=>h.keep (Bf.of_below blA)) (by exact a2) aV dV omz ?_;intro v6 s gJ jE)
    all_goals
     go_wp2
     go_ret;exact((gJ.wide omz).later omz omz).list f
  ·clear L q1 I H C E G K S R
   have aZ:k<=t:=omz
   have an:k<=l.length:=omz
   have bk:(0:Int)<=(k:Int):=omz
   obtain⟨ac,pG,lg,vK,qg,ig⟩:=(y.cut an).tail (k:=0) f (Ban _);obtain⟨ab,iF,kz,vJ,qf,gy⟩:=y.tail f an;have aL:k=ac.length:=omz
   have aI:l.length - k=ab.length:=omz
   have aB:Hid (A0m g z.heap.size (z.drew.alloc (.cells #[] 48)) d 0 ac pG):=(vK.grown (r:=none) (grown_below (Below.refl _ _).drew _) (λ_ h=>by cases h)).grown (grown_below (Aa _ _) none) (λ_ h=>by cases h);have a3:Hid (A0m g z.heap.size (z.drew.alloc (.cells #[] 48)) d (k*3) ab iF):=(vJ.grown (r:=none) (grown_below (Below.refl _ _).drew _) (λ_ h=>by cases h)).grown (grown_below (Aa _ _) none) (λ_ h=>by cases h);have uh:Hid (Cc 3 w (z.drew.alloc (.cells #[] 48)) g (P+2) (.slice (some ⟨z.heap.size,0,none⟩) 0 0) 0):=Atb (D:=z.drew) (y.below (Below.refl _ _).drew f).rd (Rt y.gr (grown_below (Below.refl _ _).drew _));have iE:Hid (k=ac.length):=aL;have ar:Hid (l.length - k=ab.length):=aI;clear vK vJ lg kz y aL aI;go_upto_region 10 with fail
   go_region_law (first
    | (refine Ws rfl _ _ rfl w _ g _ _ v8 (by go_simp) nT f ab ⟨d,k*3,none⟩ (l.length - k) (t - k) iF ar (by go_simp;omega) (xQ.row jk) xQ.2.2 qf gy (by have:=iE.out;have:=ar.out;simp;omega) ?_;intro v9 w9 iq jv)
    | (refine Yf rfl _ _ rfl w _ g _ _ v6 (by go_simp) (kK.below (Aa _ _) f) f [i] ⟨Q.heap.size,0,none⟩ 1 1 [.int .i64 i.code, .int .i64 i.one.op, .slice ai i.one.args.length ci] rfl (by go_simp) (RowOf.one rfl ⟨_,rfl,Z.keep (Bf.of_below (Aa _ _))⟩) yBg yAj yEi (by have:=iE.out;simp;omega) ?_;intro v8 w8 nT dQ jc;have xQ:Hid (A0m g z.heap.size w8 d (k*3) ab iF):=((qw.grown (grown_below (Aa _ _) none) (λ_ h=>by cases h)).grown dQ (λj hj=>Or.inr (wH j hj)));have jk:∀c,v8.ownBlock=some c->z.heap.size<=c:=(λc U=>by rcases jc with h | h;(rw[h] at U;exact wH c U);(rw[h] at U;simp at U;omega)))
    | (go_simp;go_at_call 14;refine(Ac8 g _ _ A.rd omz).mono ?_;rintro e Q ⟨i,av,rfl,O,hti,nI,jD,bT⟩;have kK:Hid (Cc 3 w Q g (P+200) v6 (0+ac.length)):=A.grown bT f (U9 jD omz);have qw:Hid (A0m g z.heap.size Q d (k*3) ab iF):=qx.grown bT (λj hj=>Or.inl (by simp at hj;omega));have Z:Hid (Ej (Off g v6) Q av i.one.args):=O.mono (λb _ hb=>(by exact⟨omz,λe=>by have:=(A.own b e).2;omega⟩));have bp:=bT.size;obtain⟨ai,ci,rfl,-⟩:=id O)
    | (refine Yf rfl _ _ rfl w _ g _ _ (.slice (some ⟨z.heap.size,0,none⟩) 0 0) (by go_simp) uh f ac ⟨d,0,none⟩ k t pG iE (by go_simp) (aB.row (λc U=>by simp[Value.ownBlock] at U;omega)) aB.2.2 qg ig (by have:=iE.out;omega) ?_;intro v6 s gJ B jd;have A:Hid (Cc 3 w s g (P+2) v6 (0+ac.length)):=gJ;have aW:z.heap.size<s.heap.size:=(by have:=B.size;simp at this;omega);have qx:Hid (A0m g z.heap.size s d (k*3) ab iF):=a3.grown B (λj hj=>Or.inr (by simp[Value.ownBlock] at hj;omega));have wH:∀c,v6.ownBlock=some c->z.heap.size<=c:=(λc U=>by rcases jd with h | h;(rw[h] at U;simp[Value.ownBlock] at U;omega);(rw[h] at U;simp at U;omega))))
   all_goals
    have e1:=iE.out;have e2:=ar.out
    go_wp2
    go_ret;exact((iq.wide omz).later omz yAb).list f
  ·clear L q1 I H C E G K S R
   go_wp2_with (go_at_call 14;refine(Ac8 g _ _ y.rd omz).mono ?_;rintro e s ⟨i,av,rfl,O,hti,nI,T,B⟩;have A:Hid (Cc 3 w s g (P+200) (.slice (some ⟨d,0,none⟩) l.length t) l.length):=y.grown B f (U9 T omz);have Z:Hid (Ej (Off g (.slice (some ⟨d,0,none⟩) l.length t)) s av i.one.args):=O.mono (λb _ hb=>yBf);obtain⟨ai,ci,rfl,-⟩:=id O;obtain⟨a,J,F,⟨L,q1,I⟩,⟨H,C,E⟩,G,K,S,R⟩:=A.at N)
   go_ret;exact(((A.store (e:=i) f N Z ⟨hti,nI⟩).wide omz).later omz omz).list f
  ·clear L q1 I H C E G K S R
   go_wp2_with (go_at_call 13;refine(Gm g _ _ _ y.rd omz omz omz).mono ?_;rintro e s ⟨aa,rfl,ag,ay,T,B⟩;have A:Hid (Cc 3 w s g (P+3) (.slice (some ⟨d,0,none⟩) l.length t) l.length):=y.grown B f T;obtain⟨a,J,F,⟨L,q1,I⟩,⟨H,C,E⟩,G,K,S,R⟩:=A.at N;have ba:IntKind.i64.wrap (aa - 1)=aa - 1:=(by rw[IntKind.wrap_i64];omega))
   go_ret;exact(((A.code f N omz).wide omz).later omz omz).list f
  ·have bg:Hid (Gw z g (.slice J a.one.args.length F) a.one.args):=Azs G
   have aF:Hid (Pv a/\a.one.args.length<=3):=K;obtain⟨⟨-,aY,hts,-⟩,bB⟩:=K
   go_wp2_with (go_at_call 44;refine(Akp g _ _ _ _ _ y.rd omz aY bg hts omz).mono ?_;rintro e s ⟨op,av,ds,rfl,ap,O,ak,af,T,B⟩;have A:Hid (Cc 3 w s g (P+200) (.slice (some ⟨d,0,none⟩) l.length t) l.length):=y.grown B f (U9 T omz);clear L q1 I H C E G S R;obtain⟨bM,J,F,⟨L,q1,I⟩,⟨H,C,E⟩,G,K,S,R⟩:=A.at N;have Z:Hid (Ej (Off g (.slice (some ⟨d,0,none⟩) l.length t)) s av ds):=(Pg O).mono (λb _ hb=>yBf);obtain⟨ai,ci,rfl,-⟩:=id O)
   go_ret;exact(((A.wide (q':=4) omz).one (o:=⟨op,ds⟩) f N Z ⟨⟨ap,ak,by simp only;omega⟩,by simp only;omega⟩).later omz omz).list f
  ·go_wp2
   go_ret;exact(((y.cut (Bcc N)).wide omz).later omz omz).list f
  ·have bg:Hid (Ej (Off g (.slice (some ⟨d,0,none⟩) l.length t)) z (.slice J a.one.args.length F) a.one.args):=G
   have aF:Hid (Pv a/\a.one.args.length<=3):=K;have zn:=Sr y.rd;have vF:d<z.heap.size:=(y.own d rfl).2;clear G K
   go_wp2
   go_loopw [5] (λo wr=>∃(X:Option Addr) (m Y:Nat),o=.slice X m Y/\l.length<=m/\(m=l.length\/m<=1001)/\Cc 3 w wr g (P+2+(m - l.length)) (.slice X m Y) m/\Sj wr g (.slice X m Y) z.heap.size a) (λo _=>1002 - lenOf o)
   case atStart=>exact⟨_,l.length,t,rfl,A88 _,Or.inl rfl,(y.below (Aa _ _) f).later omz (A88 _),Sj.new bg zn (λb hb=>by simp[Value.ownBlock] at hb;omega)⟩
   case round=>
    clear y bg L q1 I H C E S R;obtain⟨X,m,Y,rfl,bw,br,aO,hh⟩:=hrel;have iZ:Hid (Cc 3 w wr g (P+2+(m - l.length)) (.slice X m Y) m):=aO;have aD:Hid (Sj wr g (.slice X m Y) z.heap.size a):=hh;clear aO hh;go_upto_if 103 with(go_at_call 13;refine(Gm g _ _ _ iZ.rd omz omz omz).mono ?_;rintro e s ⟨aa,rfl,ag,ay,T,B⟩;have qH:Hid (Cc 3 w s g (P+2+(m - l.length)+1) (.slice X m Y) m):=iZ.grown B f T;have ax:Hid (Sj s g (.slice X m Y) z.heap.size a):=aD.grown B;have ba:IntKind.i64.wrap (1000+aa)=1000+aa:=(by rw[IntKind.wrap_i64];omega))
    clear iZ aD T B;by_cases bo:(m:Int)<1000+aa
    ·obtain⟨bC,al,cl,l0,l1,l2,af⟩:=ax.cells
     go_wp2_with (at_builtin;refine Adn rfl _ _ rfl w _ g _ _ X m Y rfl (qH.below (Aa _ _) f) f a _ _ [Value.int .i64 a.code, .int .i64 a.one.op, .slice al a.one.args.length cl] rfl (RowOf.one rfl ⟨_,rfl,af.keep (Bf.of_below (Aa _ _))⟩) yBg yAj aF omz ?_;intro a7 c7 Q iw rO)
     go_roundw
     case rel=>exact⟨a7,m+1,c7,rfl,omz,omz,iw.later omz (A88 _),rO _ _ (ax.below (Aa _ _))⟩
     case measure=>simp[lenOf];omega
    ·go_wp2
     go_ret;exact((qH.wide omz).later omz omz).list f
  ·clear L q1 I H C E G K S R
   go_upto_region 25 with(go_at_call_of 13 (l.length:Nat);refine(Gm g _ _ _ y.rd omz omz omz).mono ?_;rintro e s ⟨aa,rfl,ag,ay,T,B⟩;have A:Hid (Cc 3 w s g (P+3) (.slice (some ⟨d,0,none⟩) l.length t) l.length):=y.grown B f T;have aW:=B.size;obtain⟨j,a6⟩:=Baj ag;subst a6)
   have hj:j<l.length:=omz
   clear y T B;obtain⟨a,J,F,⟨L,q1,I⟩,⟨H,C,E⟩,G,K,S,R⟩:=A.at N;obtain⟨ej,aj,cj,⟨r0,r1,r2⟩,⟨s0,s1,s2⟩,az,aP,-,-⟩:=A.at hj;go_upto_region 26 with fail
   have kK:Hid (Cc 3 w (s.alloc (.cells #[.int .i64 a.code, .int .i64 a.one.op, .slice J a.one.args.length F] 48)) g (P+3) (.slice (some ⟨d,0,none⟩) l.length t) l.length):=A.below (Aa _ _) f;have aC:Hid (Ej (Off g (.slice (some ⟨d,0,none⟩) l.length t)) (s.alloc (.cells #[.int .i64 a.code, .int .i64 a.one.op, .slice J a.one.args.length F] 48)) (.slice J a.one.args.length F) a.one.args):=G.keep (Bf.of_below (Aa _ _));have aE:Hid (Ej (Off g (.slice (some ⟨d,0,none⟩) l.length t)) (s.alloc (.cells #[.int .i64 a.code, .int .i64 a.one.op, .slice J a.one.args.length F] 48)) (.slice aj ej.one.args.length cj) ej.one.args):=az.keep (Bf.of_below (Aa _ _));have v0:(s.alloc (.cells #[.int .i64 a.code, .int .i64 a.one.op, .slice J a.one.args.length F] 48)).cell? ⟨s.heap.size,0,none⟩=some (.int .i64 a.code):=by simp[go_sem]
   have v1:(s.alloc (.cells #[.int .i64 a.code, .int .i64 a.one.op, .slice J a.one.args.length F] 48)).cell? ⟨s.heap.size,1,none⟩=some (.int .i64 a.one.op):=by simp[go_sem]
   have v2:(s.alloc (.cells #[.int .i64 a.code, .int .i64 a.one.op, .slice J a.one.args.length F] 48)).cell? ⟨s.heap.size,2,none⟩=some (.slice J a.one.args.length F):=by simp[go_sem]
   have V:d≠s.heap.size:=omz
   have oP:Hid (Pv a/\a.one.args.length<=3):=K;have qp:Hid (Pv ej/\ej.one.args.length<=3):=aP;clear L q1 I H C E r0 r1 r2 s0 s1 s2 G az A K aP;obtain⟨Q,aw⟩:∃Q,Q=s.alloc (.cells #[.int .i64 a.code, .int .i64 a.one.op, .slice J a.one.args.length F] 48):=⟨_,rfl⟩
   rw[<-aw] at kK aC aE v0 v1 v2 ⊢;obtain⟨iv,nJ⟩:∃iv,iv=s.heap.size:=⟨_,rfl⟩
   rw[<-nJ] at v0 v1 v2 V ⊢;clear aw nJ;obtain⟨bs,bL,bD,⟨L,q1,I⟩,⟨H,C,E⟩,-,-,bv,-⟩:=kK.at N;clear aE qp;obtain⟨M,xM,xK,⟨r0,r1,r2⟩,⟨s0,s1,s2⟩,lm,ik,-,-⟩:=kK.at hj;go_upto_region 27 with fail
   have jL:=kK.store (e:=M) f N lm ik;have aA:Bf (Off g (.slice (some ⟨d,0,none⟩) l.length t)) Q (((Q.setCell ⟨d,k*3,none⟩ (.int .i64 M.code)).setCell ⟨d,k*3+1,none⟩ (.int .i64 M.one.op)).setCell ⟨d,k*3+2,none⟩ (.slice xM M.one.args.length xK)):=((Bf.set (λh=>h.2 rfl) _).trans (Bf.set (λh=>h.2 rfl) _)).trans (Bf.set (λh=>h.2 rfl) _);have aK:=aC.keep aA;clear aA;have kJ:=jL.store (e:=a) f hj aK oP.out;have v3:(((Q.setCell ⟨d,k*3,none⟩ (.int .i64 M.code)).setCell ⟨d,k*3+1,none⟩ (.int .i64 M.one.op)).setCell ⟨d,k*3+2,none⟩ (.slice xM M.one.args.length xK)).cell? ⟨iv,0,none⟩=some (.int .i64 a.code):=(Df (Ne.symm V)).trans ((Df (Ne.symm V)).trans ((Df (Ne.symm V)).trans v0));have v4:(((Q.setCell ⟨d,k*3,none⟩ (.int .i64 M.code)).setCell ⟨d,k*3+1,none⟩ (.int .i64 M.one.op)).setCell ⟨d,k*3+2,none⟩ (.slice xM M.one.args.length xK)).cell? ⟨iv,1,none⟩=some (.int .i64 a.one.op):=(Df (Ne.symm V)).trans ((Df (Ne.symm V)).trans ((Df (Ne.symm V)).trans v1));have v5:(((Q.setCell ⟨d,k*3,none⟩ (.int .i64 M.code)).setCell ⟨d,k*3+1,none⟩ (.int .i64 M.one.op)).setCell ⟨d,k*3+2,none⟩ (.slice xM M.one.args.length xK)).cell? ⟨iv,2,none⟩=some (.slice J a.one.args.length F):=(Df (Ne.symm V)).trans ((Df (Ne.symm V)).trans ((Df (Ne.symm V)).trans v2));clear L q1 I H C E r0 r1 r2 s0 s1 s2 v0 v1 v2;obtain⟨W8,au⟩:∃W8,W8=((Q.setCell ⟨d,k*3,none⟩ (.int .i64 M.code)).setCell ⟨d,k*3+1,none⟩ (.int .i64 M.one.op)).setCell ⟨d,k*3+2,none⟩ (.slice xM M.one.args.length xK):=⟨_,rfl⟩
   rw[<-au] at jL kJ v3 v4 v5 ⊢;clear au aK;obtain⟨bh,bq,bN,⟨L,q1,I⟩,⟨H,C,E⟩,-,-,-,-⟩:=jL.at hj
   go_wp2
   go_ret;exact((kJ.wide omz).later omz omz).list f
  ·clear L q1 I H C E G K S R
   go_wp2_with (go_at_call 45;refine(A4x g _ _ y.rd omz).mono ?_;rintro e s ⟨op,av,ds,rfl,ap,O,ak,af,T,B⟩;have A:Hid (Cc 3 w s g (P+200) (.slice (some ⟨d,0,none⟩) l.length t) l.length):=y.grown B f (U9 T omz);obtain⟨a,J,F,⟨L,q1,I⟩,⟨H,C,E⟩,G,K,S,R⟩:=A.at N;have Z:Hid (Ej (Off g (.slice (some ⟨d,0,none⟩) l.length t)) s av ds):=(Pg O).mono (λb _ hb=>yBf);obtain⟨ai,ci,rfl,-⟩:=id O)
   go_ret;exact(((A.wide (q':=4) omz).one (o:=⟨op,ds⟩) f N Z ⟨⟨ap,ak,by simp only;omega⟩,af⟩).later omz omz).list f
def A0q (e:Ending)(w w':World):Prop:=∃(l:List Stil.F7) (v:Value),e=.returned v/\J8 (λb=>w.heap.size<b) w' v l/\(∀i∈l,Pv i/\i.one.args.length<=4)/\l.length<=80000/\Below w.heap.size w w'
theorem Abv.half {e:Ending}{w w1 w':World}(h:Abv q e w1 w' w.heap.size P n)(d:Below w.heap.size w w1)(m:q<=4)(j:n<=80000):A0q e w w':=by
 obtain⟨l,v,f,k,a,b,o,c⟩:=h;exact⟨l,v,f,k,λi hi=>⟨(a i hi).1,A9f (a i hi).2 m⟩,A9f b j,d.trans c⟩
end Go.Proofs.YtobbpffcggchmaaGreatDoor
set_option maxHeartbeats 4000000
set_option maxRecDepth 100000
namespace Go.Proofs.YtobbpffcggchmaaGreatDoor
open Tryz
open Stil
open Go.RowKit Go.Sort Go.BigFrame
theorem A2x (i:Stil.F7)(u:Value)(w:World)(hr:Ei w)(D:Jb w)(A:A7 w u i.one.args)(y:i.fits):
  Calls prog 46 #[.agg #[.int .i64 i.code, .int .i64 i.one.op,u]] w λe m=>e=.returned (.bool (Hu i))/\Below w.heap.size w m:=by
 obtain⟨c,op,d⟩:=i;simp only at A y ⊢;have L:d.length<=1048576:=y.2.2.1;have s:Hid (∀W,Below w.heap.size w W->Calls prog 72 #[.agg #[.int .i64 op,u]] W λe m=>e=.returned (.bool (Af op d))/\Below W.heap.size W m):=λW t=>Aew op u d W (hr.below t) (A.below t) y.2.2.2 omz
 have r:Hid (∀W,Below w.heap.size w W->Calls prog 73 #[.agg #[.int .i64 op,u]] W λe m=>e=.returned (.bool (Ar op d))/\Below W.heap.size W m):=λW t=>Ai7 op u d W (hr.below t) (A.below t) y.2.2.2 omz
 have f:Hid (∀W,Below w.heap.size w W->∀k:Nat,k<12->Calls prog 74 #[.int .i64 k] W λe m=>e=.returned (.string ⟨(Stil.listWords.getD k []).toArray⟩)/\m=W):=λW t k M=>Atm k W (D.below t) M
 have b:Hid (Hu ⟨c,op,d⟩=if c<1\/11<c then false else if c<=3 then Af op d else if c=10 then Ar op d else(op==0 && d.length==0)):=rfl;obtain⟨I,N,rfl,_⟩:=A;obtain⟨R,F⟩:∃R,R=Hu ⟨c,op,d⟩:=⟨_,rfl⟩
 obtain⟨q1,H⟩:∃q,q=Af op d:=⟨_,rfl⟩
 obtain⟨J,C⟩:∃q,q=Ar op d:=⟨_,rfl⟩
 obtain⟨z,E⟩:∃z,z=d.length:=⟨_,rfl⟩
 rw[<-F] at b ⊢;rw[<-H] at b s;rw[<-C] at b r;rw[<-E] at b s r L ⊢;have j:Hid (∀W,Calls prog 75 #[.agg #[.int .i64 op, .slice I z N]] W λe m=>e=.returned (.bool (op==0 && z==0))/\Below W.heap.size W m):=λW=>Y2 _ _ _ _ _ omz
 clear F H C y E hr D;by_cases G:c<0\/11<c
 ·have a:Hid (R=false):=by show _=_;rw[b.out,if_pos omz]
  have O:(c==1)=false:=by rw[A95];omega
  have Q:(c==2)=false:=by rw[A95];omega
  have T:(c==3)=false:=by rw[A95];omega
  have S:(c==10)=false:=by rw[A95];omega
  have K:Hid (c<0\/12<=c):=by show _\/_;omega
  clear b s r f G;go_enter func46,ntmps46
  go_wp2_with (go_at_call 74;refine(Ai6 _ _ K.out).mono ?_;rintro e l ⟨rfl,rfl⟩)
  go_ret;exact⟨Ad a.symm,blA⟩
 ·have B:c=0\/c=1\/c=2\/c=3\/c=10\/c=4\/c=5\/c=6\/c=7\/c=8\/c=9\/c=11:=by omega
  clear G;rcases B with rfl | rfl | rfl | rfl | rfl | B
  ·have a:Hid (R=false):=by show _=_;rw[b.out,if_pos omz]
   clear b s r j;go_enter func46,ntmps46
   go_wp2_with (go_at_call 74;refine(f _ blA 0 omz).mono ?_;rintro e l ⟨rfl,rfl⟩;simp only[Stil.listWords,List.getD_cons_zero])
   go_ret;exact⟨Ad a.symm,blA⟩
  iterate 3
   ·have a:Hid (R=q1):=by show _=_;rw[b.out,if_neg omz,if_pos omz]
    clear b f r j;go_enter func46,ntmps46
    go_wp2_with (go_at_call 72;refine(s _ blA).mono ?_;rintro e l ⟨rfl,o⟩)
    go_ret;exact⟨Ad a.symm,blA⟩
  ·have a:Hid (R=J):=by show _=_;rw[b.out,if_neg omz,if_neg omz,if_pos rfl]
   clear b f s j;go_enter func46,ntmps46
   go_wp2_with (go_at_call 73;refine(r _ blA).mono ?_;rintro e l ⟨rfl,o⟩)
   go_ret;exact⟨Ad a.symm,blA⟩
  ·have a:Hid (R=(op==0 && z==0)):=by show _=_;rw[b.out,if_neg omz,if_neg omz,if_neg omz]
   clear b s r;rcases B with rfl | rfl | rfl | rfl | rfl | rfl | rfl
   ·go_enter func46,ntmps46
    go_wp2_with (first | (go_at_call 74;refine(f _ blA 4 omz).mono ?_;rintro e l ⟨rfl,rfl⟩;simp only[Stil.listWords,List.getD_cons_succ,List.getD_cons_zero]) | (go_at_call 75;refine(j _).mono ?_;rintro e x ⟨rfl,o⟩))
    go_ret;exact⟨Ad a.symm,blA⟩
   ·go_enter func46,ntmps46
    go_wp2_with (first | (go_at_call 74;refine(f _ blA 5 omz).mono ?_;rintro e l ⟨rfl,rfl⟩;simp only[Stil.listWords,List.getD_cons_succ,List.getD_cons_zero]) | (go_at_call 75;refine(j _).mono ?_;rintro e x ⟨rfl,o⟩))
    go_ret;exact⟨Ad a.symm,blA⟩
   ·go_enter func46,ntmps46
    go_wp2_with (first | (go_at_call 74;refine(f _ blA 6 omz).mono ?_;rintro e l ⟨rfl,rfl⟩;simp only[Stil.listWords,List.getD_cons_succ,List.getD_cons_zero]) | (go_at_call 75;refine(j _).mono ?_;rintro e x ⟨rfl,o⟩))
    go_ret;exact⟨Ad a.symm,blA⟩
   ·go_enter func46,ntmps46
    go_wp2_with (first | (go_at_call 74;refine(f _ blA 7 omz).mono ?_;rintro e l ⟨rfl,rfl⟩;simp only[Stil.listWords,List.getD_cons_succ,List.getD_cons_zero]) | (go_at_call 75;refine(j _).mono ?_;rintro e x ⟨rfl,o⟩))
    go_ret;exact⟨Ad a.symm,blA⟩
   ·go_enter func46,ntmps46
    go_wp2_with (first | (go_at_call 74;refine(f _ blA 8 omz).mono ?_;rintro e l ⟨rfl,rfl⟩;simp only[Stil.listWords,List.getD_cons_succ,List.getD_cons_zero]) | (go_at_call 75;refine(j _).mono ?_;rintro e x ⟨rfl,o⟩))
    go_ret;exact⟨Ad a.symm,blA⟩
   ·go_enter func46,ntmps46
    go_wp2_with (first | (go_at_call 74;refine(f _ blA 9 omz).mono ?_;rintro e l ⟨rfl,rfl⟩;simp only[Stil.listWords,List.getD_cons_succ,List.getD_cons_zero]) | (go_at_call 75;refine(j _).mono ?_;rintro e x ⟨rfl,o⟩))
    go_ret;exact⟨Ad a.symm,blA⟩
   ·go_enter func46,ntmps46
    go_wp2_with (first | (go_at_call 74;refine(f _ blA 11 omz).mono ?_;rintro e l ⟨rfl,rfl⟩;simp only[Stil.listWords,List.getD_cons_succ,List.getD_cons_zero]) | (go_at_call 75;refine(j _).mono ?_;rintro e x ⟨rfl,o⟩))
    go_ret;exact⟨Ad a.symm,blA⟩
theorem Aot (c:Int)(w:World):
  Calls prog 49 #[.int .i64 c] w λe b=>e=.returned (.int .i64 (Stil.needs c))/\b=w:=by
 obtain⟨R,a⟩:∃R,R=Stil.needs c:=⟨_,rfl⟩
 have d:Hid (R=Stil.needs c):=a;rw[<-a];clear a;go_enter func49,ntmps49
 go_wp2
 all_goals go_ret
 all_goals refine⟨Ad8 ?_,rfl⟩
 all_goals (rw[d.out];go_light;(try simp only[Bbk,A95] at*);simp[Stil.needs, *];try omega)
end Go.Proofs.YtobbpffcggchmaaGreatDoor
set_option maxHeartbeats 4000000
set_option maxRecDepth 100000
namespace Go.Proofs.YtobbpffcggchmaaGreatDoor
open Tryz
open Stil
open Go.RowKit Go.Sort Go.BigFrame
theorem A09 (i:Stil.F7)(f:Value)(w:World)(s:A7 w f i.one.args)(m:i.fits):
  Calls prog 22 #[.agg #[.int .i64 i.code, .int .i64 i.one.op,f]] w λe r=>e=.returned (.bool (Hu i))/\Below w.heap.size w r:=by
 obtain⟨c,op,a⟩:=i;simp only at s m ⊢;have G:a.length<=1048576:=m.2.2.1;have k:Hid (∀W,Below w.heap.size w W->Calls prog 56 #[.agg #[.int .i64 op,f]] W λe r=>e=.returned (.bool (Af op a))/\Below W.heap.size W r):=λW u=>Anz op f a W (s.below u) m.2.2.2 omz
 have j:Hid (∀W,Below w.heap.size w W->Calls prog 57 #[.agg #[.int .i64 op,f]] W λe r=>e=.returned (.bool (Ar op a))/\Below W.heap.size W r):=λW u=>A1d op f a W (s.below u) m.2.2.2 omz
 have b:Hid (Hu ⟨c,op,a⟩=if c<1\/11<c then false else if c<=3 then Af op a else if c=10 then Ar op a else(op==0 && a.length==0)):=rfl;obtain⟨H,L,rfl,_⟩:=s;obtain⟨R,C⟩:∃R,R=Hu ⟨c,op,a⟩:=⟨_,rfl⟩
 obtain⟨q1,D⟩:∃q,q=Af op a:=⟨_,rfl⟩
 obtain⟨z,A⟩:∃q,q=Ar op a:=⟨_,rfl⟩
 obtain⟨t,B⟩:∃t,t=a.length:=⟨_,rfl⟩
 rw[<-C] at b ⊢;rw[<-D] at b k;rw[<-A] at b j;rw[<-B] at b k j G ⊢;clear C D A m B;by_cases x:c<1\/11<c
 ·have d:Hid (R=false):=by show _=_;rw[b.out,if_pos x]
  clear b k j;go_enter func22,ntmps22
  go_wp2
  all_goals first | (exfalso;omega) | (go_ret;exact⟨Ad d.symm,blA⟩)
 ·have l:Hid (R=if c<=3 then q1 else if c=10 then z else(op==0 && t==0)):=by show _=_;rw[b.out,if_neg x]
  have I:¬c<1:=omz
  have J:¬11<c:=omz
  clear b x;by_cases y:c<=3
  ·have d:Hid (R=q1):=by show _=_;rw[l.out,if_pos y]
   clear l j;go_enter func22,ntmps22
   go_wp2_with (go_at_call 56;refine(k _ blA).mono ?_;rintro e F ⟨rfl,E⟩)
   go_ret;exact⟨Ad d.symm,blA⟩
  ·by_cases o:c=10
   ·have d:Hid (R=z):=by show _=_;rw[l.out,if_neg y,if_pos o]
    subst o;clear l k;go_enter func22,ntmps22
    go_wp2_with (go_at_call 57;refine(j _ blA).mono ?_;rintro e F ⟨rfl,E⟩)
    go_ret;exact⟨Ad d.symm,blA⟩
   ·have d:Hid (R=(op==0 && t==0)):=by show _=_;rw[l.out,if_neg y,if_neg o]
    have K:(c==10)=false:=by rw[A95];exact o
    clear l k j o;go_enter func22,ntmps22
    go_wp2
    all_goals go_ret
    all_goals (refine⟨Ad ?_,blA⟩)
    all_goals (rw[d.out,Baf];go_light;simp[*])
theorem A4v (c:Int)(w:World):Calls prog 23 #[.int .i64 c] w λe a=>e=.returned (.int .i64 (Stil.needs c))/\Below w.heap.size w a:=by
 go_enter func23,ntmps23
 go_wp2
 all_goals go_ret
 all_goals (refine⟨Ad8 ?_,Below.refl _ _⟩)
 all_goals go_light
 all_goals (simp only[Bbk,A95] at*;simp[Stil.needs, *])
theorem Pv.fits {i:Stil.F7}(h:Pv i):i.fits:=⟨⟨by have:=h.1.1;omega,by have:=h.1.2;omega⟩,h.2.wf.1,by have:=h.2.2.2;omega,h.2.wf.2.2⟩
def Lst (w:World)(v:Value)(l:List Stil.F7):Prop:=Ja w v l/\(∀x∈l,x.fits)/\l.length<=1048576
theorem A7d {P:Nat->Prop}{w:World}{v:Value}{l:List Stil.F7}{q n:Nat}(h:J8 P w v l)(a:∀i∈l,Pv i/\i.one.args.length<=q)(c:l.length<=n)(b:n<=1048576):Lst w v l:=⟨h.at,λx d=>(a x d).1.fits,A9f c b⟩
end Go.Proofs.YtobbpffcggchmaaGreatDoor
