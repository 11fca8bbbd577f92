import Derived.Test.YtobbpffcggchmaaGreatDoorKa
import Derived.Test.YtobbpffcggchmaaGreatDoorGr
import Derived.Test.YtobbpffcggchmaaGreatDoorLWS
set_option maxHeartbeats 4000000
set_option maxRecDepth 100000
namespace Go.Proofs.YtobbpffcggchmaaGreatDoor
open Tryz
open Stil
open Go.RowKit Go.Sort Go.BigFrame
variable {W:World}{a1 ra:Option Addr}{base c1 j rc s1:Nat}{op:Int}
theorem Wq {v:Value}{b:List Ah}{vs:List Value}{m:Ah}{lo:Nat}(h:(v::(Bq b++vs)).Pairwise Aside)(d:∀x∈v::Bq b,∀q,x.ownBlock=some q->q<lo)(f:m.vals.Pairwise Aside)(e:∀x∈m.vals,x∈vs\/∀q,x.ownBlock=some q->lo<=q):(v::Bq (b++[m])).Pairwise Aside:=by
 rw[Cb,Dt];rw[<-A9t] at h ⊢;rw[A9q] at h ⊢;refine⟨h.1,f,λx c y g=>?_⟩;rcases e y g with a | a
 ·exact h.2.2 x c y a
 ·exact Eg (d x c) a
def Vd (op:Int)(b:List Stil.Dev)(a:Option Addr)(c:Nat):Ah:=⟨1,op,b, .slice a b.length c, .slice none 0 0,[]⟩
theorem P8 (op:Int)(b:List Stil.Dev)(a:Option Addr)(c:Nat):(Vd op b a c).net=D6 ⟨op,b⟩:=by unfold Vd;rw[Ah.net_eq];rfl
theorem Ii {w:World}{b:List Stil.Dev}{a:Option Addr}{c:Nat}(h:w.ownsRow base 34 3 (.slice a b.length c) b.length (Am b)):I7 w base (Vd op b a c):=(Gq.nil w base).net 1 op b h (λx d=>Au4 _ x d)
def Akb (w w':World)(base:Nat)(st:List Stil.Net)(e:Ending):Prop:=∃(a:Option Addr) (c:Nat) (b:List Ah),e=.returned (.slice a b.length c)/\Gq w' base (.slice a b.length c) b/\(b.map Ah.net).reverse=st/\Below base w w'
structure A0r (w W:World)(base s1:Nat)(ms:List Ah)(ra:Option Addr)(rc:Nat)(op:Int)(ds:List Stil.Dev)(a1:Option Addr)(c1:Nat):Prop where
 row:Gq W base (.slice ra ms.length rc) ms
 one:I7 W base (Vd op ds a1 c1)
 low:∀x∈Value.slice ra ms.length rc::Bq ms,∀q,x.ownBlock=some q->q<w.heap.size
 high:∀x∈(Vd op ds a1 c1).vals,∀q,x.ownBlock=some q->w.heap.size<=q
 box:B4 W s1 (.int .i64 1) (.int .i64 op) (.slice a1 ds.length c1) (.slice none 0 0)
 at1:w.heap.size<s1
 bel:Below w.heap.size w W
 bas:base<=w.heap.size
theorem A0r.all {w:World}{a:List Ah}{b:List Stil.Dev}(h:A0r w W base s1 a ra rc op b a1 c1):(Value.slice ra a.length rc::(Bq a++Bq [Vd op b a1 c1])).Pairwise Aside:=by
 rw[<-A9t,A9q];refine⟨h.row.2.2,by rw[Dt];exact h.one.2,λx d y c=>Eg (h.low x d) (h.high y (by rw[Dt] at c;exact c))⟩
theorem A0r.below {w d:World}{b:List Ah}{c:List Stil.Dev}(h:A0r w W base s1 b ra rc op c a1 c1)(a:Below W.heap.size W d):A0r w d base s1 b ra rc op c a1 c1:=
 ⟨h.row.below a,h.one.below a,h.low,h.high,h.box.below a h.box.1,h.at1,h.bel.trans (a.mono h.bel.size),h.bas⟩
theorem Tj {a:List Ah}(h:a.length=j+1)(M:Ah):a.set j M=a.take j++[M]:=by
 rw[List.set_eq_take_append_cons_drop,if_pos omz,Bav omz]
theorem Vh {a:List Ah}(h:a.length=j+1)(b:j<a.length):a=a.take j++[a[j]]:=by
 rw[<-A9m b,A9y omz]
theorem Azt {c:Int}{e:Stil.Elem}{a:List Ah}(f:c=2\/c=3)(h:a.length=j+1)(g:j<a.length){M:Ah}(b:M.net=Ff c a[j].net (D6 e)):((a.set j M).map Ah.net).reverse=Ib c e (a.map Ah.net).reverse:=by
 have d:(a.map Ah.net).reverse=a[j].net::((a.take j).map Ah.net).reverse:=by
  have e:=congrArg (λl:List Ah=>(l.map Ah.net).reverse) (Vh h g);simp only[A9h,A9l,A97,List.reverse_append,List.reverse_cons,List.reverse_nil,A9u,A9t] at e;exact e
 rw[Tj h,A9h,List.reverse_append,Ba0,b,d];rcases f with rfl | rfl<;>rfl
theorem bl4 {g o1 o2 o3 o4:Nat}{w:World}{u1 u2 u3 u4:Value}(h:Below base w W)(hg:base<=g):Below base w ((((W.setCell ⟨g,o1,none⟩ u1).setCell ⟨g,o2,none⟩ u2).setCell ⟨g,o3,none⟩ u3).setCell ⟨g,o4,none⟩ u4):=(((h.setCell hg _).setCell hg _).setCell hg _).setCell hg _
theorem A77 (i:Stil.F7)(k:Value)(b:List Ah)(ra:Option Addr)(rc base:Nat)(w:World)(L:Gq w base (.slice ra b.length rc) b)(E:A7 w k i.one.args)(G:i.fits)(B:i.code=1)(N:Stil.needs i.code<=b.length)(J:Stil.sizes (b.map Ah.net)<=800000)(I:base<=w.heap.size):
  Calls prog 24 #[.slice ra b.length rc, .agg #[.int .i64 i.code, .int .i64 i.one.op,k]] w λe l=>Akb w l base (Ib i.code i.one (b.map Ah.net).reverse) e:=by
 have A:Hid (∀W,Below w.heap.size w W->Calls prog 38 #[.agg #[.int .i64 i.one.op,k]] W λr l=>∃a c,r=.returned (.agg #[.int .i64 i.one.op, .slice a i.one.args.length c])/\l.ownsRow W.heap.size 34 3 (.slice a i.one.args.length c) i.one.args.length (Am i.one.args)/\Below W.heap.size W l):=λW h=>Abz i.one k W (E.below h) G.2.2.1
 obtain⟨T,r0,rfl,-⟩:=E;obtain⟨c,op,f⟩:=i;simp only at A B N ⊢;subst B;have V:b.length<=800000:=by
  have:=Fz (b.map Ah.net)
  rw[A9j] at this;omega
 have U:Hid (Stil.sizes (b.map Ah.net)<=800000):=J;have y:Hid (Gq w base (.slice ra b.length rc) b):=L;clear L J G;go_enter func24,ntmps24;go_upto_region 3 with(go_at_call 38;refine(A _ blA).mono ?_;rintro e d ⟨a1,c1,rfl,hown,t⟩;have v:Hid (d.ownsRow (w.heap.size+1) 34 3 (.slice a1 f.length c1) f.length (Am f)):=yAd;clear hown)
 have C:Below w.heap.size w d:=blA;have M:w.heap.size<d.heap.size:=by have:=t.size;simp at this;omega
 obtain⟨W,s⟩:∃W,W=d.alloc (.cells #[.int .i64 1, .int .i64 op, .slice a1 f.length c1, .slice none 0 0] 30):=⟨_,rfl⟩
 have o:Below d.heap.size d W:=by rw[s];exact Aa _ _
 have H:Below w.heap.size w W:=Dj C o;have g:Hid (A0r w W base d.heap.size b ra rc op f a1 c1):=by
  refine⟨y.below H,?_,λx u q z=>(y.lt x u q z).2,λx u q z=>?_,by rw[s];exact Akh,M,H,I⟩
  ·exact((Ii v.out).le omz).below o
  ·have:=(MOk.lt _ (Ii (op:=op) v.out).1 x u q z).1
   omega
 have k0:W.cell? ⟨w.heap.size,0,none⟩=some (.int .i64 1):=by
  rw[o.cell (p:=⟨w.heap.size,0,none⟩) M,t.cell (p:=⟨w.heap.size,0,none⟩) spz];simp[go_sem]
 rw[<-s];clear s o C t v A y;obtain⟨_,⟨Z,Y,o2,S⟩,_⟩:=g.box;have X:d.heap.size<W.heap.size:=g.box.1
 go_wp2_with (at_builtin;refine Zp rfl _ _ rfl base ra rc b [Vd op f a1 c1] (some ⟨W.heap.size,0,none⟩) 1 rfl rfl (g.row.below (Aa _ _)) (λ_=>⟨_,rfl,by exact cells4⟩) (λm R=>by rw[List.mem_singleton.1 R];exact g.one.1.below (Aa _ _)) g.all yAb (by have:=g.bel.size;simp;omega) ?_;intro K D Q F P;have O:Hid (Gq Q base (.slice K (b.length+1) D) (b++[Vd op f a1 c1])):=F;clear F)
 go_ret;refine⟨K,D,b++[Vd op f a1 c1],by rw[A83];rfl,by rw[A83];exact O.out,?_,((Be g.bel _).mono I).trans P⟩;rw[A9h,List.reverse_append,Ba0,P8];rfl
theorem zb0 {p:Prop}(h:p:=by
 have e2:Bq ms++Bq [Vd op ds a1 c1]=Bq (ms.take j)++(ms[j].vals++(Vd op ds a1 c1).vals):=by
  rw[Dt];have e3:=congrArg Bq he;rw[Cb,Dt] at e3;rw[e3,A9r]
 rw[<-e2];exact hal):p:=h
theorem zz0 {p:Prop}(h:p:=by
 have h2:=(List.pairwise_cons.1 hal).2
 rw[he,Cb,Dt,Dt,A9r] at h2;exact(List.pairwise_append.1 h2).2.1):p:=h
theorem A76 (i:Stil.F7)(J:Value)(ms:List Ah)(ra:Option Addr)(rc base:Nat)(w:World)(al:Gq w base (.slice ra ms.length rc) ms)(ag:A7 w J i.one.args)(hf:i.fits)(ah:i.code=2)(Y:Stil.needs i.code<=ms.length)(hs:Stil.sizes (ms.map Ah.net)<=800000)(U:base<=w.heap.size):
  Calls prog 24 #[.slice ra ms.length rc, .agg #[.int .i64 i.code, .int .i64 i.one.op,J]] w λe y=>Akb w y base (Ib i.code i.one (ms.map Ah.net).reverse) e:=by
 have bK:Hid (∀W,Below w.heap.size w W->Calls prog 38 #[.agg #[.int .i64 i.one.op,J]] W λaw y=>∃a c,aw=.returned (.agg #[.int .i64 i.one.op, .slice a i.one.args.length c])/\y.ownsRow W.heap.size 34 3 (.slice a i.one.args.length c) i.one.args.length (Am i.one.args)/\Below W.heap.size W y):=λW h=>Abz i.one J W (ag.below h) hf.2.2.1
 obtain⟨p0,r0,rfl,-⟩:=ag;obtain⟨c,op,ds⟩:=i;simp only at bK ah Y ⊢;subst ah;have aB:ms.length<=800000:=by
  have:=Fz (ms.map Ah.net)
  rw[A9j] at this;omega
 have HS:Hid (Stil.sizes (ms.map Ah.net)<=800000):=hs;have T:Hid (Gq w base (.slice ra ms.length rc) ms):=al;clear al hs hf;go_enter func24,ntmps24;go_upto_region 3 with(go_at_call 38;refine(bK _ blA).mono ?_;rintro e t ⟨a1,c1,rfl,hown,S⟩;have Q:Hid (t.ownsRow (w.heap.size+1) 34 3 (.slice a1 ds.length c1) ds.length (Am ds)):=yAd;clear hown)
 have an:Below w.heap.size w t:=blA;have ai:w.heap.size<t.heap.size:=by have:=S.size;simp at this;omega
 obtain⟨W,H⟩:∃W,W=t.alloc (.cells #[.int .i64 1, .int .i64 op, .slice a1 ds.length c1, .slice none 0 0] 30):=⟨_,rfl⟩
 have N:Below t.heap.size t W:=by rw[H];exact Aa _ _
 have ae:Below w.heap.size w W:=Dj an N;have f:Hid (A0r w W base t.heap.size ms ra rc op ds a1 c1):=by
  refine⟨T.below ae,?_,λx v q B=>(T.lt x v q B).2,λx v q B=>?_,by rw[H];exact Akh,ai,ae,U⟩
  ·exact((Ii Q.out).le omz).below N
  ·have:=(MOk.lt _ (Ii (op:=op) Q.out).1 x v q B).1
   omega
 have k0:W.cell? ⟨w.heap.size,0,none⟩=some (.int .i64 2):=by
  rw[N.cell (p:=⟨w.heap.size,0,none⟩) ai,S.cell (p:=⟨w.heap.size,0,none⟩) spz];simp[go_sem]
 rw[<-H];clear H N an S Q bK T;obtain⟨_,⟨o0,o1,o2,o3⟩,_⟩:=f.box;have pM:t.heap.size<W.heap.size:=f.box.1;obtain⟨j,z⟩:∃j,ms.length=j+1:=⟨ms.length - 1,by simp[Stil.needs] at Y;omega⟩
 obtain⟨g,cp,G,au,I,_,E⟩:=Cf f.row.1 omz;have u:j<ms.length:=omz
 obtain⟨x0,x1,x2,x3⟩:=Gx ms j u;have A:=E _ _ x0;have C:=E _ _ x1;have D:=E _ _ x2;have F:=E _ _ x3;simp only[Value.slice.injEq] at G;obtain⟨rfl,_,rfl⟩:=G;have aa:=(Ee _ _ _).1 (f.row.2.1 ms[j] (A9a u));obtain⟨pa,ca,ab⟩:=Ac aa.1;obtain⟨qa,da,R⟩:=Ac aa.2.1;have O:Hid (∀V,Below W.heap.size W V->Calls prog 58 #[.int .i64 2, .agg #[.int .i64 ms[j].kind, .int .i64 ms[j].op,ms[j].av,ms[j].kv], .agg #[.int .i64 1, .int .i64 op, .slice a1 ds.length c1, .slice none 0 0]] V λe y=>Afl y base (ms[j].vals++(Vd op ds a1 c1).vals) V.heap.size (Ff 2 ms[j].net (D6 ⟨op,ds⟩)) e/\Below V.heap.size V y):=λV h=>by
  have L:=f.below h;have hal:=L.all;have ax:=HS.out;have he:=Vh z u;rw[<-P8 op ds a1 c1];refine A1e 2 ms[j] (Vd op ds a1 c1) base V (L.row.2.1 _ (A9a u)) L.one.1 ?_ ?_ (A9f U L.bel.size)
  ·exact zz0
  ·rw[P8,Qn]
   rw[he,A9h,H6,Ba0,Dv] at ax;omega
 have Z:Hid (∀V,Below W.heap.size W V->(V.cell? ⟨g,j*4,none⟩=some (.int .i64 ms[j].kind)/\V.cell? ⟨g,j*4+1,none⟩=some (.int .i64 ms[j].op)/\V.cell? ⟨g,j*4+2,none⟩=some ms[j].av/\V.cell? ⟨g,j*4+3,none⟩=some ms[j].kv)/\V.frozen? ⟨g,j*4,none⟩=false/\V.frozen? ⟨g,j*4+1,none⟩=false/\V.frozen? ⟨g,j*4+2,none⟩=false/\V.frozen? ⟨g,j*4+3,none⟩=false):=λV h=>
  ⟨⟨(h.cell I).trans A,(h.cell I).trans C,(h.cell I).trans D,(h.cell I).trans F⟩,(f.below h).row.1.frozenAt _,(f.below h).row.1.frozenAt _,(f.below h).row.1.frozenAt _,(f.below h).row.1.frozenAt _⟩
 have mX:Hid (ms.length=j+1):=z;have nO:Hid (∀M:Ah,M.net=Ff 2 ms[j].net (D6 ⟨op,ds⟩)->((ms.set j M).map Ah.net).reverse=Ib 2 ⟨op,ds⟩ (ms.map Ah.net).reverse):=λM P=>Azt spz z u P
 have qI:Hid (∀(M:Ah) (lo:Nat),w.heap.size<=lo->M.vals.Pairwise Aside->(∀x∈M.vals,x∈ms[j].vals++(Vd op ds a1 c1).vals\/∀q,x.ownBlock=some q->lo<=q)->(Value.slice (some ⟨g,0,none⟩) ms.length rc::Bq (ms.set j M)).Pairwise Aside):=λM lo az P G=>by
  have hal:=f.all;have ay:=f.low;have he:=Vh z u;rw[Tj z];refine Wq (vs:=ms[j].vals++(Vd op ds a1 c1).vals) (lo:=lo) ?_ (λx v q B=>A82 (ay x ?_ q B) az) P G
  ·exact zb0
  ·rcases List.mem_cons.1 v with rfl | v
   ·exact Bau
   ·refine A87 _ ?_
    rw[he,Cb];exact A9e _ v
 have e5:((j+1:Nat):Int) - 1=(j:Int):=omz
 obtain⟨X,hX⟩:∃X,X=ms[j]:=⟨_,rfl⟩
 rw[<-hX] at A C D F O Z nO qI ab R;obtain⟨xk,fJ,eY,nP,kY,eX⟩:=X;simp only at ab R A C D F O Z;subst ab;subst R;rw[z,e5];clear hX E x0 x1 x2 x3 aa Y;have aA:¬((j:Int)<0):=omz
 go_upto_region 7 with fail
 go_region_with (go_at_call 58;refine(O _ blA).mono ?_;rintro e K ⟨⟨l,o,b,r,s,s1,k,d,rfl,ar,ao,ac⟩,aD⟩;have bG:Hid (I7 K base ⟨l,o,b, .slice r b.length s, .slice s1 d.length k,d⟩):=ar;have aQ:Hid ((Ah.mk l o b (.slice r b.length s) (.slice s1 d.length k) d).net=_):=ao;have jP:Hid (∀x∈(Ah.mk l o b (.slice r b.length s) (.slice s1 d.length k) d).vals,_\/∀q,x.ownBlock=some q->W.heap.size<=q):=ac;clear ar ao ac A C D F;obtain⟨⟨A,C,D,F⟩,f0,f1,f2,f3⟩:=Z K blA;have aj:Below W.heap.size W K:=blA;have ak:Hid (Below W.heap.size W K):=aj;clear aj)
 all_goals
  have hp:=qI (Ah.mk l o b (.slice r b.length s) (.slice s1 d.length k) d) W.heap.size f.bel.size bG.2 jP.out;have hr:=(f.below ak.out).row.stored (m:=(Ah.mk l o b (.slice r b.length s) (.slice s1 d.length k) d)) u bG.1 hp;have hB:=(f.bel.trans (ak.mono f.bel.size)).mono U;have ap:=bl4 (o1:=j*4) (o2:=j*4+1) (o3:=j*4+2) (o4:=j*4+3) (u1:=.int .i64 l) (u2:=.int .i64 o) (u3:=.slice r b.length s) (u4:=.slice s1 d.length k) hB au;have af:=nO (Ah.mk l o b (.slice r b.length s) (.slice s1 d.length k) d) aQ.out;simp only at hr;have su:Hid (Gq _ base (.slice (some ⟨g,0,none⟩) ms.length rc) (ms.set j (Ah.mk l o b (.slice r b.length s) (.slice s1 d.length k) d))):=hr;have yU:Hid (Below base w _):=ap;have uo:Hid (((ms.set j (Ah.mk l o b (.slice r b.length s) (.slice s1 d.length k) d)).map Ah.net).reverse=_):=af;clear hp hr hB ap af
  go_wp2
  go_ret;refine⟨some ⟨g,0,none⟩,rc,ms.set j (Ah.mk l o b (.slice r b.length s) (.slice s1 d.length k) d),by rw[Bbl,mX.out];rfl,?_,uo.out,yU.out⟩;rw[Bbl];exact su.out
theorem A75 (i:Stil.F7)(J:Value)(ms:List Ah)(ra:Option Addr)(rc base:Nat)(w:World)(al:Gq w base (.slice ra ms.length rc) ms)(ag:A7 w J i.one.args)(hf:i.fits)(ah:i.code=3)(Y:Stil.needs i.code<=ms.length)(hs:Stil.sizes (ms.map Ah.net)<=800000)(U:base<=w.heap.size):
  Calls prog 24 #[.slice ra ms.length rc, .agg #[.int .i64 i.code, .int .i64 i.one.op,J]] w λe y=>Akb w y base (Ib i.code i.one (ms.map Ah.net).reverse) e:=by
 have bK:Hid (∀W,Below w.heap.size w W->Calls prog 38 #[.agg #[.int .i64 i.one.op,J]] W λaw y=>∃a c,aw=.returned (.agg #[.int .i64 i.one.op, .slice a i.one.args.length c])/\y.ownsRow W.heap.size 34 3 (.slice a i.one.args.length c) i.one.args.length (Am i.one.args)/\Below W.heap.size W y):=λW h=>Abz i.one J W (ag.below h) hf.2.2.1
 obtain⟨p0,r0,rfl,-⟩:=ag;obtain⟨c,op,ds⟩:=i;simp only at bK ah Y ⊢;subst ah;have aB:ms.length<=800000:=by
  have:=Fz (ms.map Ah.net)
  rw[A9j] at this;omega
 have HS:Hid (Stil.sizes (ms.map Ah.net)<=800000):=hs;have T:Hid (Gq w base (.slice ra ms.length rc) ms):=al;clear al hs hf;go_enter func24,ntmps24;go_upto_region 3 with(go_at_call 38;refine(bK _ blA).mono ?_;rintro e t ⟨a1,c1,rfl,hown,S⟩;have Q:Hid (t.ownsRow (w.heap.size+1) 34 3 (.slice a1 ds.length c1) ds.length (Am ds)):=yAd;clear hown)
 have an:Below w.heap.size w t:=blA;have ai:w.heap.size<t.heap.size:=by have:=S.size;simp at this;omega
 obtain⟨W,H⟩:∃W,W=t.alloc (.cells #[.int .i64 1, .int .i64 op, .slice a1 ds.length c1, .slice none 0 0] 30):=⟨_,rfl⟩
 have N:Below t.heap.size t W:=by rw[H];exact Aa _ _
 have ae:Below w.heap.size w W:=Dj an N;have f:Hid (A0r w W base t.heap.size ms ra rc op ds a1 c1):=by
  refine⟨T.below ae,?_,λx v q B=>(T.lt x v q B).2,λx v q B=>?_,by rw[H];exact Akh,ai,ae,U⟩
  ·exact((Ii Q.out).le omz).below N
  ·have:=(MOk.lt _ (Ii (op:=op) Q.out).1 x v q B).1
   omega
 have k0:W.cell? ⟨w.heap.size,0,none⟩=some (.int .i64 3):=by
  rw[N.cell (p:=⟨w.heap.size,0,none⟩) ai,S.cell (p:=⟨w.heap.size,0,none⟩) spz];simp[go_sem]
 rw[<-H];clear H N an S Q bK T;obtain⟨_,⟨o0,o1,o2,o3⟩,_⟩:=f.box;have pM:t.heap.size<W.heap.size:=f.box.1;obtain⟨j,z⟩:∃j,ms.length=j+1:=⟨ms.length - 1,by simp[Stil.needs] at Y;omega⟩
 obtain⟨g,cp,G,au,I,_,E⟩:=Cf f.row.1 omz;have u:j<ms.length:=omz
 obtain⟨x0,x1,x2,x3⟩:=Gx ms j u;have A:=E _ _ x0;have C:=E _ _ x1;have D:=E _ _ x2;have F:=E _ _ x3;simp only[Value.slice.injEq] at G;obtain⟨rfl,_,rfl⟩:=G;have aa:=(Ee _ _ _).1 (f.row.2.1 ms[j] (A9a u));obtain⟨pa,ca,ab⟩:=Ac aa.1;obtain⟨qa,da,R⟩:=Ac aa.2.1;have O:Hid (∀V,Below W.heap.size W V->Calls prog 58 #[.int .i64 3, .agg #[.int .i64 ms[j].kind, .int .i64 ms[j].op,ms[j].av,ms[j].kv], .agg #[.int .i64 1, .int .i64 op, .slice a1 ds.length c1, .slice none 0 0]] V λe y=>Afl y base (ms[j].vals++(Vd op ds a1 c1).vals) V.heap.size (Ff 3 ms[j].net (D6 ⟨op,ds⟩)) e/\Below V.heap.size V y):=λV h=>by
  have L:=f.below h;have hal:=L.all;have ax:=HS.out;have he:=Vh z u;rw[<-P8 op ds a1 c1];refine A1e 3 ms[j] (Vd op ds a1 c1) base V (L.row.2.1 _ (A9a u)) L.one.1 ?_ ?_ (A9f U L.bel.size)
  ·exact zz0
  ·rw[P8,Qn]
   rw[he,A9h,H6,Ba0,Dv] at ax;omega
 have Z:Hid (∀V,Below W.heap.size W V->(V.cell? ⟨g,j*4,none⟩=some (.int .i64 ms[j].kind)/\V.cell? ⟨g,j*4+1,none⟩=some (.int .i64 ms[j].op)/\V.cell? ⟨g,j*4+2,none⟩=some ms[j].av/\V.cell? ⟨g,j*4+3,none⟩=some ms[j].kv)/\V.frozen? ⟨g,j*4,none⟩=false/\V.frozen? ⟨g,j*4+1,none⟩=false/\V.frozen? ⟨g,j*4+2,none⟩=false/\V.frozen? ⟨g,j*4+3,none⟩=false):=λV h=>
  ⟨⟨(h.cell I).trans A,(h.cell I).trans C,(h.cell I).trans D,(h.cell I).trans F⟩,(f.below h).row.1.frozenAt _,(f.below h).row.1.frozenAt _,(f.below h).row.1.frozenAt _,(f.below h).row.1.frozenAt _⟩
 have mX:Hid (ms.length=j+1):=z;have nO:Hid (∀M:Ah,M.net=Ff 3 ms[j].net (D6 ⟨op,ds⟩)->((ms.set j M).map Ah.net).reverse=Ib 3 ⟨op,ds⟩ (ms.map Ah.net).reverse):=λM P=>Azt spz z u P
 have qI:Hid (∀(M:Ah) (lo:Nat),w.heap.size<=lo->M.vals.Pairwise Aside->(∀x∈M.vals,x∈ms[j].vals++(Vd op ds a1 c1).vals\/∀q,x.ownBlock=some q->lo<=q)->(Value.slice (some ⟨g,0,none⟩) ms.length rc::Bq (ms.set j M)).Pairwise Aside):=λM lo az P G=>by
  have hal:=f.all;have ay:=f.low;have he:=Vh z u;rw[Tj z];refine Wq (vs:=ms[j].vals++(Vd op ds a1 c1).vals) (lo:=lo) ?_ (λx v q B=>A82 (ay x ?_ q B) az) P G
  ·exact zb0
  ·rcases List.mem_cons.1 v with rfl | v
   ·exact Bau
   ·refine A87 _ ?_
    rw[he,Cb];exact A9e _ v
 have e5:((j+1:Nat):Int) - 1=(j:Int):=omz
 obtain⟨X,hX⟩:∃X,X=ms[j]:=⟨_,rfl⟩
 rw[<-hX] at A C D F O Z nO qI ab R;obtain⟨xk,fJ,eY,nP,kY,eX⟩:=X;simp only at ab R A C D F O Z;subst ab;subst R;rw[z,e5];clear hX E x0 x1 x2 x3 aa Y;have aA:¬((j:Int)<0):=omz
 go_upto_region 9 with fail
 go_region_with (go_at_call 58;refine(O _ blA).mono ?_;rintro e K ⟨⟨l,o,b,r,s,s1,k,d,rfl,ar,ao,ac⟩,aD⟩;have bG:Hid (I7 K base ⟨l,o,b, .slice r b.length s, .slice s1 d.length k,d⟩):=ar;have aQ:Hid ((Ah.mk l o b (.slice r b.length s) (.slice s1 d.length k) d).net=_):=ao;have jP:Hid (∀x∈(Ah.mk l o b (.slice r b.length s) (.slice s1 d.length k) d).vals,_\/∀q,x.ownBlock=some q->W.heap.size<=q):=ac;clear ar ao ac A C D F;obtain⟨⟨A,C,D,F⟩,f0,f1,f2,f3⟩:=Z K blA;have aj:Below W.heap.size W K:=blA;have ak:Hid (Below W.heap.size W K):=aj;clear aj)
 all_goals
  have hp:=qI (Ah.mk l o b (.slice r b.length s) (.slice s1 d.length k) d) W.heap.size f.bel.size bG.2 jP.out;have hr:=(f.below ak.out).row.stored (m:=(Ah.mk l o b (.slice r b.length s) (.slice s1 d.length k) d)) u bG.1 hp;have hB:=(f.bel.trans (ak.mono f.bel.size)).mono U;have ap:=bl4 (o1:=j*4) (o2:=j*4+1) (o3:=j*4+2) (o4:=j*4+3) (u1:=.int .i64 l) (u2:=.int .i64 o) (u3:=.slice r b.length s) (u4:=.slice s1 d.length k) hB au;have af:=nO (Ah.mk l o b (.slice r b.length s) (.slice s1 d.length k) d) aQ.out;simp only at hr;have su:Hid (Gq _ base (.slice (some ⟨g,0,none⟩) ms.length rc) (ms.set j (Ah.mk l o b (.slice r b.length s) (.slice s1 d.length k) d))):=hr;have yU:Hid (Below base w _):=ap;have uo:Hid (((ms.set j (Ah.mk l o b (.slice r b.length s) (.slice s1 d.length k) d)).map Ah.net).reverse=_):=af;clear hp hr hB ap af
  go_wp2
  go_ret;refine⟨some ⟨g,0,none⟩,rc,ms.set j (Ah.mk l o b (.slice r b.length s) (.slice s1 d.length k) d),by rw[Bbl,mX.out];rfl,?_,uo.out,yU.out⟩;rw[Bbl];exact su.out
end Go.Proofs.YtobbpffcggchmaaGreatDoor
