import Derived.Test.YtnpfcnolmkanfaaGreatDoorG4
import Derived.Test.YtnpfcnolmkanfaaGreatDoorGl
import Derived.Test.YtnpfcnolmkanfaaGreatDoorFRe
set_option maxHeartbeats 4000000
set_option maxRecDepth 100000
namespace Go.Proofs.YtnpfcnolmkanfaaGreatDoor
open Tryz
open Stil
open Go.RowKit Go.Sort Go.BigFrame
variable {W:World}{av kv:Value}{k op:Int}{r:Nat}
theorem Aie:(prog.info? 43).map (λi=>(i.zero,i.size,i.bytes))=some (some (.agg #[.int .i64 0, .int .i64 0, .slice none 0 0, .slice none 0 0]),4,64):=krz
def Ahu (e:Ending)(w w':World)(g Q N:Nat):Prop:=∃(n:Stil.Net) (av kv:Value),e=.returned (.agg #[.int .i64 n.kind, .int .i64 n.one.op,av,kv])/\Ce (λb=>w.heap.size<=b) w' av n.one.args/\Dv (λb=>w.heap.size<=b) w' kv n.kids/\L8 n/\H6 n<=N/\H5 w' g Q/\w.grownBy w' (some g)
def Arr:Nat->Nat
 | 0=>50
 | m+1=>3*Arr m+50
def Ay0:Nat->Nat
 | 0=>10
 | m+1=>3*Ay0 m+10
theorem Az7 (m:Nat):50<=Arr m:=by cases m<;>simp[Arr]
theorem Az6 (m:Nat):10<=Ay0 m:=by cases m<;>simp[Ay0]
theorem Gv {a:List Stil.Dev}(b:-1000000<=k/\k<=1000000)(c:-1000000<=op/\op<=1000000)(e:∀d∈a,Small d)(hl:a.length<=40):L8 ⟨k,⟨op,a⟩,[]⟩:=(Pv _ _ _).2 ⟨b,⟨c,e,A6e hl dcz⟩,λ_ h=>by cases h⟩
theorem Adl {ns:List Stil.Net}(a:-1000000<=k/\k<=1000000)(h:∀n∈ns,L8 n):L8 ⟨k,⟨0,[]⟩,ns⟩:=(Pv _ _ _).2 ⟨a,⟨⟨dcz,dcz⟩,λ_ h=>yAi,spz⟩,h⟩
theorem Aeh {s:Nat}{w:World}(h:s<=r):∀b,b<w.heap.size->r<b->s<b:=λ_ _ a=>Nat.lt_of_le_of_lt h a
theorem Abs {w:World}:∀b,b<w.heap.size->r<b->r<=b:=λ_ _ h=>A89 h
theorem Apm {P:Nat->Prop}{cs:Array Value}{ns:List Stil.Net}{b:Nat}(c:b=W.heap.size)(h:RowOf 4 (Zv P W) cs.toList ns)(f:P b)(hl:ns.length<=1000):Dv P (W.alloc (.cells cs 43)) (.slice (some ⟨b,0,none⟩) ns.length ns.length) ns:=by
 subst c;have d:=World.ownsRow_lit (base:=W.heap.size) (e:=43) (size:=4) W cs ns.length omz yAe yFb;refine Og d (h.imp λcs a _ g=>g.keep (Ac.of_below (Aa _ _))) (λb c=>?_);have:W.heap.size=b:=by simpa[Value.ownBlock] using c
 exact this ▸ f
def Yk (w:World)(b:Nat)(k op:Int)(av kv:Value):Prop:=b<w.heap.size/\w.cell? ⟨b,0,none⟩=some (.int .i64 k)/\w.cell? ⟨b,1,none⟩=some (.int .i64 op)/\w.cell? ⟨b,2,none⟩=some av/\w.cell? ⟨b,3,none⟩=some kv/\w.frozen? ⟨b,0,none⟩=false/\w.frozen? ⟨b,1,none⟩=false/\w.frozen? ⟨b,2,none⟩=false/\w.frozen? ⟨b,3,none⟩=false
theorem nbA {b:Nat}(h:Yk W b k op av kv:=by refine⟨ltA,?_,?_,?_,?_,?_,?_,?_,?_⟩<;>first | (exact cfA;done) | (repeat (first | with_reducible assumption | with_reducible refine O0.trans ?_ | with_reducible refine Ll.trans ?_ | with_reducible refine(Iw ltA).trans ?_ | (simp[go_sem];done)))):Yk W b k op av kv:=h
theorem Yk.grownO {w w':World}{b:Nat}{r:Option Nat}(h:Yk w b k op av kv)(hg:w.grownBy w' r)(hr:r≠some b):Yk w' b k op av kv:=by
 obtain⟨d,f⟩:=h;have e:w'.heap[b]?=w.heap[b]?:=hg.block b d (λx=>hr x.symm);have c:∀o,w'.cell? ⟨b,o,none⟩=w.cell? ⟨b,o,none⟩:=λo=>by unfold World.cell?;rw[e]
 have a:∀o,w'.frozen? ⟨b,o,none⟩=w.frozen? ⟨b,o,none⟩:=λo=>by unfold World.frozen?;rw[e]
 refine⟨A51 d hg.size,?_⟩;rw[c,c,c,c,a,a,a,a];exact f
theorem Azg (g P:Nat)(w:World)(hr:H5 w g P)(I:P<=100000000):
  Calls prog 75 #[.pointer (some ⟨g,0,none⟩), .int .i64 0] w λe C=>Ahu e w C g (P+50) 10:=by
 have hg:=Ug hr;go_enter func75,ntmps75
 go_wp2_with (first | (go_at_call_of 23 (Value.int IntKind.i64 7);refine(Ew g _ _ _ raA omz omz omz).mono ?_;rintro e i ⟨x,rfl,J,F,D,f⟩;have G:w.heap.size<i.heap.size:=A51 ltA f.size;obtain⟨n,q,q1,E,l,z,m,A⟩:i.cell? ⟨w.heap.size,0,none⟩=some (.int .i64 0)/\i.frozen? ⟨w.heap.size,0,none⟩=false/\i.cell? ⟨w.heap.size,1,none⟩=some (.int .i64 0)/\i.frozen? ⟨w.heap.size,1,none⟩=false/\i.cell? ⟨w.heap.size,2,none⟩=some (.slice none 0 0)/\i.frozen? ⟨w.heap.size,2,none⟩=false/\i.cell? ⟨w.heap.size,3,none⟩=some (.slice none 0 0)/\i.frozen? ⟨w.heap.size,3,none⟩=false:=⟨gcA f,gfA f,gcA f,gfA f,gcA f,gfA f,gcA f,gfA f⟩) | (go_at_call 45;refine(Ie g _ _ raA omz).mono ?_;rintro e c ⟨op,v,y,rfl,B,j,t,K,D,d⟩;have u:=j;obtain⟨aa,H,rfl,_,_⟩:=u;have L:w.heap.size<c.heap.size:=A51 ltA d.size;obtain⟨n,q,q1,E,l,z,m,A⟩:c.cell? ⟨w.heap.size,0,none⟩=some (.int .i64 0)/\c.frozen? ⟨w.heap.size,0,none⟩=false/\c.cell? ⟨w.heap.size,1,none⟩=some (.int .i64 0)/\c.frozen? ⟨w.heap.size,1,none⟩=false/\c.cell? ⟨w.heap.size,2,none⟩=some (.slice none 0 0)/\c.frozen? ⟨w.heap.size,2,none⟩=false/\c.cell? ⟨w.heap.size,3,none⟩=some (.slice none 0 0)/\c.frozen? ⟨w.heap.size,3,none⟩=false:=⟨gcA d,gfA d,gcA d,gfA d,gcA d,gfA d,gcA d,gfA d⟩))
 refine bodyPost_ret (by simp[results,results75,go_sem,n,q1,l,m];rfl) rfl ?_;exact⟨⟨1,⟨op,y⟩,[]⟩,_,_,rfl,Ce.mono (((Eo j).mono (Aeh (s:=w.heap.size) omz)).keep kpA) Abs,I5 _ _,Gv dcz B t omz,by rw[Ee];simp;omega,rlA,glA⟩
theorem Azf (m:Nat)(ih:∀(d:Int) (g P:Nat) (w:World),d=m->H5 w g P->P+Arr m<=100000000->Calls prog 75 #[.pointer (some ⟨g,0,none⟩), .int .i64 d] w λe w'=>Ahu e w w' g (P+Arr m) (Ay0 m))
  (d:Int) (g P:Nat) (w:World) (hd:d=m+1) (hm:m<=100) (hr:H5 w g P) (hP:P+Arr (m+1)<=100000000):
  Calls prog 75 #[.pointer (some ⟨g,0,none⟩), .int .i64 d] w λe w'=>Ahu e w w' g (P+Arr (m+1)) (Ay0 (m+1)):=by
 have hg:=Ug hr;have aG:=Az7 m;have aJ:=Az6 m;have e1:Arr (m+1)=3*Arr m+50:=rfl;have e2:Ay0 (m+1)=3*Ay0 m+10:=rfl;rw[e1] at hP;rw[e1,e2];clear e1 e2;obtain⟨c,hc⟩:∃c,c=Arr m:=⟨_,rfl⟩
 obtain⟨N,hN⟩:∃N,N=Ay0 m:=⟨_,rfl⟩
 rw[<-hc] at ih aG hP;rw[<-hN] at ih aJ;rw[<-hc,<-hN];have IH:Hid (∀(d:Int) (g P:Nat) (w:World),d=m->H5 w g P->P+c<=100000000->Calls prog 75 #[.pointer (some ⟨g,0,none⟩), .int .i64 d] w λe w'=>Ahu e w w' g (P+c) N):=ih;clear ih hc hN;have aZ:decide (d<=0)=false:=by rw[A7o];omega
 obtain⟨i0,hi,aB,az,aE⟩:=info_parts Aie;go_enter func75,ntmps75;go_upto_if 37 with(first | (go_at_call_of 23 (Value.int IntKind.i64 7);refine(Ew g _ _ _ raA omz omz omz).mono ?_;rintro e f ⟨k,rfl,aK,aU,F,J⟩;have ah:w.heap.size<f.heap.size:=A51 ltA J.size;obtain⟨C,H,q1,M,A,L,B,Q⟩:f.cell? ⟨w.heap.size,0,none⟩=some (.int .i64 0)/\f.frozen? ⟨w.heap.size,0,none⟩=false/\f.cell? ⟨w.heap.size,1,none⟩=some (.int .i64 0)/\f.frozen? ⟨w.heap.size,1,none⟩=false/\f.cell? ⟨w.heap.size,2,none⟩=some (.slice none 0 0)/\f.frozen? ⟨w.heap.size,2,none⟩=false/\f.cell? ⟨w.heap.size,3,none⟩=some (.slice none 0 0)/\f.frozen? ⟨w.heap.size,3,none⟩=false:=⟨gcA J,gfA J,gcA J,gfA J,gcA J,gfA J,gcA J,gfA J⟩) | (go_at_call 45;refine(Ie g _ _ raA omz).mono ?_;rintro e I ⟨op,v,ds,rfl,ax,hv,hs,hl,F,O⟩;have aI:=hv;obtain⟨aa,cc,rfl,_,_⟩:=aI;have T:w.heap.size<I.heap.size:=A51 ltA O.size;obtain⟨C,H,q1,M,A,L,B,Q⟩:I.cell? ⟨w.heap.size,0,none⟩=some (.int .i64 0)/\I.frozen? ⟨w.heap.size,0,none⟩=false/\I.cell? ⟨w.heap.size,1,none⟩=some (.int .i64 0)/\I.frozen? ⟨w.heap.size,1,none⟩=false/\I.cell? ⟨w.heap.size,2,none⟩=some (.slice none 0 0)/\I.frozen? ⟨w.heap.size,2,none⟩=false/\I.cell? ⟨w.heap.size,3,none⟩=some (.slice none 0 0)/\I.frozen? ⟨w.heap.size,3,none⟩=false:=⟨gcA O,gfA O,gcA O,gfA O,gcA O,gfA O,gcA O,gfA O⟩) | (go_at_call 75;refine(IH _ g _ _ omz raA omz).mono ?_;rintro e E ⟨l,av,kv,rfl,ab,af,aj,aD,F,G⟩;have T:w.heap.size<E.heap.size:=A51 ltA G.size;obtain⟨C,H,q1,M,A,L,B,Q⟩:E.cell? ⟨w.heap.size,0,none⟩=some (.int .i64 0)/\E.frozen? ⟨w.heap.size,0,none⟩=false/\E.cell? ⟨w.heap.size,1,none⟩=some (.int .i64 0)/\E.frozen? ⟨w.heap.size,1,none⟩=false/\E.cell? ⟨w.heap.size,2,none⟩=some (.slice none 0 0)/\E.frozen? ⟨w.heap.size,2,none⟩=false/\E.cell? ⟨w.heap.size,3,none⟩=some (.slice none 0 0)/\E.frozen? ⟨w.heap.size,3,none⟩=false:=⟨gcA G,gfA G,gcA G,gfA G,gcA G,gfA G,gcA G,gfA G⟩) | (go_at_call_of 23 (Value.int IntKind.i64 2);refine(Ew g _ _ _ raA omz omz omz).mono ?_;rintro e wc ⟨aY,rfl,aH,aP,F,y⟩;have T:w.heap.size<wc.heap.size:=A51 ltA y.size;have ac:f.heap.size<wc.heap.size:=A51 ltA y.size;obtain⟨C,H,q1,M,A,L,B,Q,X,p4,q5,p5,q6,p6,Y,U⟩:wc.cell? ⟨w.heap.size,0,none⟩=some (.int .i64 0)/\wc.frozen? ⟨w.heap.size,0,none⟩=false/\wc.cell? ⟨w.heap.size,1,none⟩=some (.int .i64 0)/\wc.frozen? ⟨w.heap.size,1,none⟩=false/\wc.cell? ⟨w.heap.size,2,none⟩=some (.slice none 0 0)/\wc.frozen? ⟨w.heap.size,2,none⟩=false/\wc.cell? ⟨w.heap.size,3,none⟩=some (.slice none 0 0)/\wc.frozen? ⟨w.heap.size,3,none⟩=false/\wc.cell? ⟨f.heap.size,0,none⟩=some (.int .i64 (2+k % 2))/\wc.frozen? ⟨f.heap.size,0,none⟩=false/\wc.cell? ⟨f.heap.size,1,none⟩=some (.int .i64 0)/\wc.frozen? ⟨f.heap.size,1,none⟩=false/\wc.cell? ⟨f.heap.size,2,none⟩=some (.slice none 0 0)/\wc.frozen? ⟨f.heap.size,2,none⟩=false/\wc.cell? ⟨f.heap.size,3,none⟩=some (.slice none 0 0)/\wc.frozen? ⟨f.heap.size,3,none⟩=false:=⟨gcA y,gfA y,gcA y,gfA y,gcA y,gfA y,gcA y,gfA y,gcA y,gfA y,gcA y,gfA y,gcA y,gfA y,gcA y,gfA y⟩) | (go_at_call_of 23 (Value.int IntKind.i64 8);refine(Ew g _ _ _ raA omz omz omz).mono ?_;rintro e z ⟨aM,rfl,aN,aW,F,x⟩;have T:w.heap.size<z.heap.size:=A51 ltA x.size;have ac:f.heap.size<z.heap.size:=A51 ltA x.size;obtain⟨C,H,q1,M,A,L,B,Q,X,p4,q5,p5,q6,p6,Y,U⟩:z.cell? ⟨w.heap.size,0,none⟩=some (.int .i64 0)/\z.frozen? ⟨w.heap.size,0,none⟩=false/\z.cell? ⟨w.heap.size,1,none⟩=some (.int .i64 0)/\z.frozen? ⟨w.heap.size,1,none⟩=false/\z.cell? ⟨w.heap.size,2,none⟩=some (.slice none 0 0)/\z.frozen? ⟨w.heap.size,2,none⟩=false/\z.cell? ⟨w.heap.size,3,none⟩=some (.slice none 0 0)/\z.frozen? ⟨w.heap.size,3,none⟩=false/\z.cell? ⟨f.heap.size,0,none⟩=some (.int .i64 (2+k % 2))/\z.frozen? ⟨f.heap.size,0,none⟩=false/\z.cell? ⟨f.heap.size,1,none⟩=some (.int .i64 0)/\z.frozen? ⟨f.heap.size,1,none⟩=false/\z.cell? ⟨f.heap.size,2,none⟩=some (.slice none 0 0)/\z.frozen? ⟨f.heap.size,2,none⟩=false/\z.cell? ⟨f.heap.size,3,none⟩=some (.slice none 0 0)/\z.frozen? ⟨f.heap.size,3,none⟩=false:=⟨gcA x,gfA x,gcA x,gfA x,gcA x,gfA x,gcA x,gfA x,gcA x,gfA x,gcA x,gfA x,gcA x,gfA x,gcA x,gfA x⟩))
 ·refine bodyPost_ret (by simp[results,results75,go_sem,C,q1,A,B];rfl) rfl ?_
  exact⟨⟨1,⟨op,ds⟩,[]⟩,_,_,rfl,Ce.mono (((Eo hv).mono (Aeh (s:=w.heap.size) omz)).keep kpA) Abs,I5 _ _,Gv dcz ax hs omz,by rw[Ee];simp;omega,rlA,glA⟩
 ·refine bodyPost_ret (by simp[results,results75,go_sem,C,q1,A,B,T];rfl) rfl ?_
  have ae:RowOf 4 (Zv (λb=>w.heap.size<b) E) [.int .i64 l.kind, .int .i64 l.one.op,av,kv] [l]:=RowOf.one rfl ⟨av,kv,rfl,ab.mono (λ_ _ h=>A51 ah h),af.mono (λ_ _ h=>A51 ah h)⟩;refine⟨⟨4,⟨0,[]⟩,[l]⟩,_,_,rfl,Qz _ _,Dv.mono (Apm (P:=λb=>w.heap.size<b) (cs:=#[.int .i64 l.kind, .int .i64 l.one.op,av,kv]) (ns:=[l]) spz (ae.imp λ_ _ _ h=>h.keep kpA) omz spz) Abs,Adl dcz (λn K=>by simp at K;subst K;exact aj),by rw[Ee];simp;omega,rlA,glA⟩
 ·go_cut [7] (λsm wq=>∃R:Nat,sm=.int .i64 R/\1<=R/\R<=3/\H5 wq g (P+3)/\w.grownBy wq (some g)/\Yk wq w.heap.size 0 0 (.slice none 0 0) (.slice none 0 0)/\Yk wq f.heap.size (2+k % 2) 0 (.slice none 0 0) (.slice none 0 0))
  case first=>
   go_wp2
   ·go_meet
    exact⟨1,rfl,omz,omz,rlA,glA,nbA,nbA⟩
   ·go_meet
    obtain⟨yn,rfl⟩:=A7i aH;exact⟨2+yn,by go_num,omz,omz,rlA,glA,nbA,nbA⟩
  case rest=>
   clear C q1 A B X q5 q6 Y H M L Q p4 p5 p6 U F;obtain⟨R,rfl,aX,aR,F,ai,ak,ag⟩:=hcut
   go_wp2
   go_loopw [8] (λi wr=>∃(j:Nat) (ns:List Stil.Net) (v:Value) (xs:List Value),j<=R/\i=.int .i64 j/\ns.length=j/\Yk wr w.heap.size 0 0 (.slice none 0 0) (.slice none 0 0)/\Yk wr f.heap.size (2+k % 2) 0 (.slice none 0 0) v/\wr.ownsRow (f.heap.size+1) 43 4 v j xs/\RowOf 4 (Zv (Off f.heap.size v) wr) xs ns/\(∀n∈ns,L8 n)/\(ns.map H6).sum<=j*N/\H5 wr g (P+3+j*c)/\w.grownBy wr (some g)) (λi _=>R - (intOf i).toNat)
   case atStart=>exact⟨0,[],_,[],omz,rfl,rfl,ak,ag,⟨rfl,Or.inl ⟨rfl,rfl⟩⟩,RowOf.nil _ _,λ_ h=>yAi,spz,by simpa using F,ai⟩
   case round=>
    obtain⟨j,ns,v,xs,hj,rfl,ar,ak,ag,D,ae,kE,aL,F,ai⟩:=hrel;obtain⟨T,C,q1,A,B,H,M,L,Q⟩:=ak;obtain⟨ac,X,q5,q6,Y,p4,p5,p6,U⟩:=ag;by_cases aQ:j<R
    ·have an:(j+1)*c<=3*c:=A7j c omz
     rw[A8k] at an;obtain⟨V,Z,al,_⟩:=Gx D;subst al;go_upto_region 13 with fail
     go_region_law (first | (refine Eb rfl _ _ 41 rfl (f.heap.size+1) 43 i0 (.agg #[.int .i64 0, .int .i64 0, .slice none 0 0, .slice none 0 0]) 4 64 underlying41 hi aB az aE rfl dcz _ _ _ rfl (au.alloc _) _ _ _ [.int .i64 l.kind, .int .i64 l.one.op, .slice a1 l.one.args.length c1, .slice a2 l.kids.length c2] rfl rfl yBb yCd yAe omz yBf ?_;intro v' w6 ao aC aV;obtain⟨sF,rQ,ay,_⟩:=Gx ao;subst ay;have aA:Yk (q.alloc (.cells #[.int .i64 l.kind, .int .i64 l.one.op, .slice a1 l.one.args.length c1, .slice a2 l.kids.length c2] 43)) w.heap.size 0 0 (.slice none 0 0) (.slice none 0 0):=nbA;have aw:Yk (q.alloc (.cells #[.int .i64 l.kind, .int .i64 l.one.op, .slice a1 l.one.args.length c1, .slice a2 l.kids.length c2] 43)) f.heap.size (2+k % 2) 0 (.slice none 0 0) (.slice V j Z):=nbA;clear C q1 A B X q5 q6 Y H M L Q p4 p5 p6 U;obtain⟨T,C,q1,A,B,H,M,L,Q⟩:=aA.grownO aC (λe=>by have:=D.lt _ e;omega);obtain⟨ac,X,q5,q6,Y,p4,p5,p6,U⟩:=aw.grownO aC (λe=>by have:=D.lt _ e;omega)) | (go_simp;go_at_call 75;refine(IH _ g _ _ (by first | omega | (rw[IntKind.wrap_i64];omega)) raA omz).mono ?_;rintro e q ⟨l,av,kv,rfl,ab,af,aj,aD,F,aO⟩;have t:wr.grownBy q (some g):=⟨aO.os,aO.tape,aO.output,aO.size,aO.block⟩;have uy:=ab;have uf:=af;obtain⟨a1,c1,rfl,_,_⟩:=uy;obtain⟨a2,c2,rfl,_,_⟩:=uf;have au:=Bl D t omz;have T:w.heap.size<q.heap.size:=A51 ltA t.size;have ac:f.heap.size<q.heap.size:=A51 ltA t.size;obtain⟨C,H,q1,M,A,L,B,Q,X,p4,q5,p5,q6,p6,Y,U⟩:q.cell? ⟨w.heap.size,0,none⟩=some (.int .i64 0)/\q.frozen? ⟨w.heap.size,0,none⟩=false/\q.cell? ⟨w.heap.size,1,none⟩=some (.int .i64 0)/\q.frozen? ⟨w.heap.size,1,none⟩=false/\q.cell? ⟨w.heap.size,2,none⟩=some (.slice none 0 0)/\q.frozen? ⟨w.heap.size,2,none⟩=false/\q.cell? ⟨w.heap.size,3,none⟩=some (.slice none 0 0)/\q.frozen? ⟨w.heap.size,3,none⟩=false/\q.cell? ⟨f.heap.size,0,none⟩=some (.int .i64 (2+k % 2))/\q.frozen? ⟨f.heap.size,0,none⟩=false/\q.cell? ⟨f.heap.size,1,none⟩=some (.int .i64 0)/\q.frozen? ⟨f.heap.size,1,none⟩=false/\q.cell? ⟨f.heap.size,2,none⟩=some (.slice none 0 0)/\q.frozen? ⟨f.heap.size,2,none⟩=false/\q.cell? ⟨f.heap.size,3,none⟩=some (.slice V j Z)/\q.frozen? ⟨f.heap.size,3,none⟩=false:=⟨gcA t,gfA t,gcA t,gfA t,gcA t,gfA t,gcA t,gfA t,gcA t,gfA t,gcA t,gfA t,gcA t,gfA t,gcA t,gfA t⟩))
     all_goals go_wp2
     all_goals
      have aF:Ac (Off f.heap.size (.slice V j Z)) wr (q.alloc (.cells #[.int .i64 l.kind, .int .i64 l.one.op, .slice a1 l.one.args.length c1, .slice a2 l.kids.length c2] 43)):=(Ac.of_grown t (λb S e=>by have:=S.1;simp only[A65] at e;omega)).trans (Ac.of_below (Aa _ _));have ap:∀b,b<q.heap.size->wr.drew.heap.size<=b->Off f.heap.size (.slice V j Z) b:=λb _ S=>⟨by have:wr.heap.size<=b:=S;omega,λe=>by have h1:=(D.lt _ e).2;have:wr.heap.size<=b:=S;omega⟩
      have lI:=Anq (ae.imp λ_ _ _ h=>h.keep aF) (Zv.keep (w:=q) ⟨_,_,rfl,ab.mono ap,af.mono ap⟩ (Ac.of_below (Aa _ _))) rfl aC aV;refine⟨⟨j+1,ns++[l], .slice sF (j+1) rQ,_,omz,by go_num,by simp[ar],nbA,nbA,ownsRow_setCell_below ao (A69 _) _,lI.imp (λ_ _ _ h=>h.keep (Ac.set yDi _)),?_,?_,?_,?_⟩,by simp[intOf];omega⟩
      ·intro n K
       rcases List.mem_append.1 K with K | K
       ·exact kE n K
       ·simp at K;subst K;exact aj
      ·have es:((ns++[l]).map H6).sum=(ns.map H6).sum+H6 l:=by simp
       rw[es,A8k];omega
      ·exact Fg (Jp (Et (Cb F _) aC (λk hk=>by have:=D.lt _ hk;omega)) omz _) (by rw[A8k];omega)
      ·exact Lt (A89 ah) (Jk (D5 (Dx ai t) _) aC (λk hk=>by have:=D.lt _ hk;omega)) _
    ·obtain⟨V,Z,al,_⟩:=Gx D
     subst al
     go_wp2
     have aS:j=R:=omz
     have an:j*c<=3*c:=A7j c omz;have aT:j*N<=3*N:=A7j N omz;have hk:Dv (λb=>w.heap.size<b) wr (.slice V j Z) ns:=by
      subst ar;exact Og D (ae.imp λ_ _ _ h=>h.mono λb _ S=>by have:=S.1;omega) (λb S=>by have:=(D.lt _ S).1;omega)
     refine bodyPost_ret (by simp[results,results75,go_sem,C,q1,A,B];rfl) rfl ?_;refine⟨⟨2+k % 2,⟨0,[]⟩,ns⟩,_,_,rfl,Qz _ _,Dv.mono (hk.keep kpA) Abs,Adl omz kE,?_,rlA,glA⟩;rw[Ee];simp;omega
theorem Avj:∀(m:Nat) (d:Int) (g P:Nat) (w:World),m<=100->d=m->H5 w g P->P+Arr m<=100000000->Calls prog 75 #[.pointer (some ⟨g,0,none⟩), .int .i64 d] w λe c=>Ahu e w c g (P+Arr m) (Ay0 m)
 | 0,d,g,P,w,_,hd,a,b=>by
  subst hd;exact Azg g P w a omz
 | m+1,d,g,P,w,f,hd,a,b=>Azf m (λd g P w hd a b=>Avj m d g P w omz hd a b) d g P w (by simpa using hd) omz a b
theorem Avh (n g P:Nat)(w:World)(x:n<=300)(hr:H5 w g P)(hP:P<=100000000):
  Calls prog 40 #[.pointer (some ⟨g,0,none⟩), .int .i64 n] w λe w'=>Ahu e w w' g (P+6000) 3000:=by
 have hg:=Ug hr;go_enter func40,ntmps40
 go_wp2_with ((go_at_call 45;refine(Ie g _ _ raA omz).mono ?_;rintro e c ⟨op,v,u,rfl,Y,L,hs,hl,U,l⟩;have al:=L;obtain⟨aa,cc,rfl,_,_⟩:=al;have ar:w.heap.size<c.heap.size:=A51 ltA l.size;obtain⟨A,H,q1,R,y,N,z,T⟩:c.cell? ⟨w.heap.size,0,none⟩=some (.int .i64 0)/\c.frozen? ⟨w.heap.size,0,none⟩=false/\c.cell? ⟨w.heap.size,1,none⟩=some (.int .i64 0)/\c.frozen? ⟨w.heap.size,1,none⟩=false/\c.cell? ⟨w.heap.size,2,none⟩=some (.slice none 0 0)/\c.frozen? ⟨w.heap.size,2,none⟩=false/\c.cell? ⟨w.heap.size,3,none⟩=some (.slice none 0 0)/\c.frozen? ⟨w.heap.size,3,none⟩=false:=⟨gcA l,gfA l,gcA l,gfA l,gcA l,gfA l,gcA l,gfA l⟩))
 have ac:Ce (λb=>w.heap.size<b) c (.slice aa u.length cc) u:=(Eo L).mono (Aeh spz);go_loopw [6] (λi wr=>∃(j:Nat) (M:Stil.Net) (av kv:Value),1<=j/\(j<=n\/j=1)/\i=.int .i64 j/\Yk wr w.heap.size 0 0 (.slice none 0 0) (.slice none 0 0)/\Yk wr c.heap.size M.kind M.one.op av kv/\Ce (λb=>w.heap.size<b/\b≠c.heap.size) wr av M.one.args/\Dv (λb=>w.heap.size<b/\b≠c.heap.size) wr kv M.kids/\L8 M/\H6 M<=10*j/\H5 wr g (P+20*j)/\w.grownBy wr (some g)) (λi _=>n - (intOf i).toNat)
 case atStart=>
  refine⟨1,⟨1,⟨op,u⟩,[]⟩,_,_,omz,omz,rfl,nbA,nbA,(ac.mono λb D h=>⟨h,omz⟩).keep kpA,I5 _ _,Gv dcz Y hs omz,by rw[Ee];simp;omega,rlA,glA⟩
 case round=>
  obtain⟨j,M,av,kv,aw,ay,rfl,aj,ab,t,E,Q,an,U,ax⟩:=hrel;obtain⟨af,A,q1,y,z,H,R,N,T⟩:=aj;obtain⟨ah,Z,q5,q6,q7,p4,p5,p6,X⟩:=ab;have ao:j<=300:=omz
  obtain⟨G,B,rfl,_⟩:=id t;obtain⟨F,C,rfl,_⟩:=id E;by_cases au:j<n
  ·go_upto_region 5 with fail
   go_region_with (go_at_call 45;refine(Ie g _ _ raA omz).mono ?_;rintro e d ⟨s,v2,m,rfl,tN,I,ai,ap,U,q⟩;have f:wr.grownBy d (some g):=⟨q.os,q.tape,q.output,q.size,q.block⟩;have ag:=I;obtain⟨K,S,rfl,_,_⟩:=ag;have af:w.heap.size<d.heap.size:=A51 ltA f.size;have ah:c.heap.size<d.heap.size:=A51 ltA f.size;obtain⟨A,H,q1,R,y,N,z,T,Z,p4,q5,p5,q6,p6,q7,X⟩:d.cell? ⟨w.heap.size,0,none⟩=some (.int .i64 0)/\d.frozen? ⟨w.heap.size,0,none⟩=false/\d.cell? ⟨w.heap.size,1,none⟩=some (.int .i64 0)/\d.frozen? ⟨w.heap.size,1,none⟩=false/\d.cell? ⟨w.heap.size,2,none⟩=some (.slice none 0 0)/\d.frozen? ⟨w.heap.size,2,none⟩=false/\d.cell? ⟨w.heap.size,3,none⟩=some (.slice none 0 0)/\d.frozen? ⟨w.heap.size,3,none⟩=false/\d.cell? ⟨c.heap.size,0,none⟩=some (.int .i64 M.kind)/\d.frozen? ⟨c.heap.size,0,none⟩=false/\d.cell? ⟨c.heap.size,1,none⟩=some (.int .i64 M.one.op)/\d.frozen? ⟨c.heap.size,1,none⟩=false/\d.cell? ⟨c.heap.size,2,none⟩=some (.slice G M.one.args.length B)/\d.frozen? ⟨c.heap.size,2,none⟩=false/\d.cell? ⟨c.heap.size,3,none⟩=some (.slice F M.kids.length C)/\d.frozen? ⟨c.heap.size,3,none⟩=false:=⟨gcA f,gfA f,gcA f,gfA f,gcA f,gfA f,gcA f,gfA f,gcA f,gfA f,gcA f,gfA f,gcA f,gfA f,gcA f,gfA f⟩)
   all_goals go_wp2
   all_goals
    have V:-1000000<=(2+(j:Int) % 2)/\(2+(j:Int) % 2)<=1000000:=by
     omega
    have O:Ac (λb=>w.heap.size<b/\b≠c.heap.size) wr d:=Ac.of_grown f (λb D e=>by have:=D.1;simp only[A65] at e;omega);have ae:∀b,b<d.heap.size->wr.drew.heap.size - 1<b->w.heap.size<b/\b≠c.heap.size:=λb _ D=>by have e:wr.drew.heap.size=wr.heap.size:=rfl;omega
    have ak:RowOf 4 (Zv (λb=>w.heap.size<b/\b≠c.heap.size) d) [.int .i64 1, .int .i64 s, .slice K m.length S, .slice none 0 0, .int .i64 M.kind, .int .i64 M.one.op, .slice G M.one.args.length B, .slice F M.kids.length C] [⟨1,⟨s,m⟩,[]⟩,M]:=(RowOf.one (cs:=[.int .i64 1, .int .i64 s, .slice K m.length S, .slice none 0 0]) rfl ⟨_,_,rfl,(Eo I).mono ae,I5 _ _⟩).append (RowOf.one (cs:=[.int .i64 M.kind, .int .i64 M.one.op, .slice G M.one.args.length B, .slice F M.kids.length C]) rfl ⟨_,_,rfl,t.keep O,E.keep O⟩);refine⟨⟨j+1,⟨(2+(j:Int) % 2),⟨0,[]⟩,[⟨1,⟨s,m⟩,[]⟩,M]⟩,_,_,omz,omz,by go_num,nbA,(show Yk _ c.heap.size (2+(j:Int) % 2) 0 (.slice none 0 0) (.slice (some ⟨d.heap.size,0,none⟩) 2 2) from nbA),Qz _ _,Apm (b:=d.heap.size) (ns:=[⟨1,⟨s,m⟩,[]⟩,M]) spz (ak.imp λ_ _ _ h=>h.keep kpA) ⟨omz,omz⟩ spz,Adl V (λn x=>?_),?_,rlA,glA⟩,by simp[intOf];omega⟩
    ·simp only[A6n,A68,A7u] at x
     rcases x with rfl | rfl
     ·exact Gv dcz tN ai omz
     ·exact Q
    ·rw[Ee]
     simp[Ee 1];omega
  ·go_wp2
   refine bodyPost_ret (by simp[results,results40,go_sem,A,q1,y,z];rfl) rfl ?_;have J:∀b,b<wr.heap.size->w.heap.size<b/\b≠c.heap.size->w.heap.size<b:=λ_ _ h=>h.1
   exact⟨M,_,_,rfl,Ce.mono ((t.mono J).keep kpA) Abs,Dv.mono ((E.mono J).keep kpA) Abs,Q,omz,rlA,glA⟩
end Go.Proofs.YtnpfcnolmkanfaaGreatDoor
