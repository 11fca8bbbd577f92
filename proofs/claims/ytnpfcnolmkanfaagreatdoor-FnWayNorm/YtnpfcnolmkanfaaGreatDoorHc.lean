import Derived.Test.YtnpfcnolmkanfaaGreatDoorHa
import Derived.Test.YtnpfcnolmkanfaaGreatDoorHg
set_option maxHeartbeats 4000000
set_option maxRecDepth 100000
namespace Go.Proofs.YtnpfcnolmkanfaaGreatDoor
open Tryz
open Stil
open Go.RowKit Go.Sort Go.BigFrame
variable {N:Nat}{W:World}{cs:Array Value}{jX gZ:Int}{v3 v4:Value}
theorem Aav {P:Nat->Prop}{ns:List Stil.Elem}{b:Nat}(c:b=W.heap.size)(h:RowOf 2 (Ls P W) cs.toList ns)(f:P b)(hl:ns.length<=1000):Dk P (W.alloc (.cells cs 40)) (.slice (some ⟨b,0,none⟩) ns.length ns.length) ns:=by
  subst c;have d:=World.ownsRow_lit (base:=W.heap.size) (e:=40) (size:=2) W cs ns.length omz yAe yFb;refine Ja d (h.imp λcs a _ g=>g.keep (Ac.of_below (Aa _ _))) (λb c=>?_);have:W.heap.size=b:=by simpa[Value.ownBlock] using c
  exact this ▸ f
theorem A08 {P:Nat->Prop}{ns:List Stil.Arm}{b:Nat}(c:b=W.heap.size)(h:RowOf 6 (Ot P W) cs.toList ns)(f:P b)(hl:ns.length<=1000):Es P (W.alloc (.cells cs 46)) (.slice (some ⟨b,0,none⟩) ns.length ns.length) ns:=by
  subst c;have d:=World.ownsRow_lit (base:=W.heap.size) (e:=46) (size:=6) W cs ns.length omz yAe yFb;refine Fb d (h.imp λcs a _ g=>g.keep (Ac.of_below (Aa _ _))) (λb c=>?_);have:W.heap.size=b:=by simpa[Value.ownBlock] using c
  exact this ▸ f
def A39 (w0 a:World)(B g q N:Nat):Prop:=∃(A:Stil.Arm) (f c d e:Value),Mc a w0.heap.size 0 0 (.slice none 0 0) (.slice none 0 0) (.slice none 0 0) (.slice none 0 0)/\Mc a B A.net.kind A.net.one.op f c d e/\
  Ce (λb=>w0.heap.size<b/\b≠B) a f A.net.one.args/\Dv (λb=>w0.heap.size<b/\b≠B) a c A.net.kids/\Dk (λb=>w0.heap.size<b/\b≠B) a d A.coils/\Es (λb=>w0.heap.size<b/\b≠B) a e A.kids/\Jd A/\F5 A<=N/\H5 a g q/\w0.grownBy a (some g)
theorem Axs {Q:Nat->Prop}{A:Stil.Arm}{xs:List Value}{c a:List Stil.Dev}{b:Nat}(e:b=W.heap.size)(i:Ot Q W xs A)(hx:xs.length=6)(m:Ce Q W v3 c)(k:Ce Q W v4 a)(l:Q b)(j:Q (b+1)):
    Es Q ((W.alloc (.cells #[.int .i64 gZ,v4] 40)).alloc (.cells (xs++[.int .i64 1, .int .i64 jX,v3, .slice none 0 0, .slice (some ⟨b,0,none⟩) 1 1, .slice none 0 0]).toArray 46)) (.slice (some ⟨b+1,0,none⟩) 2 2) [A,⟨⟨1,⟨jX,c⟩,[]⟩,[⟨gZ,a⟩],[]⟩]:=by
  have d:Ac Q W (W.alloc (.cells #[.int .i64 gZ,v4] 40)):=Ac.of_below (Aa _ _);have f:Dk Q (W.alloc (.cells #[.int .i64 gZ,v4] 40)) (.slice (some ⟨b,0,none⟩) 1 1) [⟨gZ,a⟩]:=Aav (ns:=[⟨gZ,a⟩]) e (RowOf.one (cs:=[.int .i64 gZ,v4]) rfl ⟨_,rfl,k⟩) l spz;have g:RowOf 6 (Ot Q (W.alloc (.cells #[.int .i64 gZ,v4] 40))) (xs++[.int .i64 1, .int .i64 jX,v3, .slice none 0 0, .slice (some ⟨b,0,none⟩) 1 1, .slice none 0 0]) [A,⟨⟨1,⟨jX,c⟩,[]⟩,[⟨gZ,a⟩],[]⟩]:=(RowOf.one hx (i.keep d)).append (RowOf.one rfl ⟨_,_,_,_,rfl,m.keep d,I5 _ _,f,Q7 _ _⟩);exact A08 (ns:=[A,⟨⟨1,⟨jX,c⟩,[]⟩,[⟨gZ,a⟩],[]⟩]) (by rw[World.size_alloc,e]) (by simpa using g) j spz
theorem Axr {A:Stil.Arm}{b a:List Stil.Dev}(k:Jd A)(j:-1000000<=jX/\jX<=1000000)(l:-1000000<=gZ/\gZ<=1000000)(i:∀d∈b,Small d)(g:∀d∈a,Small d)(m:b.length<=3)(n:a.length<=3):Jd ⟨⟨0,⟨0,[]⟩,[]⟩,[],[A,⟨⟨1,⟨jX,b⟩,[]⟩,[⟨gZ,a⟩],[]⟩]⟩:=by
  refine(Gy _ _ _).2 ⟨Ws,λ_ h=>yAi,λx e=>?_⟩;simp only[A6n,A68,A7u] at e;rcases e with rfl | rfl
  · exact k
  · refine(Gy _ _ _).2 ⟨Gv dcz j i omz,λc f=>?_,λ_ h=>yAi⟩
    simp at f;subst f;exact⟨l,g,by show a.length<=100000;omega⟩
theorem A29 {A:Stil.Arm}{a b:List Stil.Dev}(e:F5 A<=N)(d:a.length<=3)(c:b.length<=3):F5 ⟨⟨0,⟨0,[]⟩,[]⟩,[],[A,⟨⟨1,⟨jX,a⟩,[]⟩,[⟨gZ,b⟩],[]⟩]⟩<=N+12:=by
  rw[Fe,Ee];simp[Fq,N7,Fe ⟨1,⟨jX,a⟩,[]⟩,Ee 1];omega
theorem Mc.six {w:World}{b:Nat}{k op:Int}{av nv cv kv:Value}(h:Mc w b k op av nv cv kv)(g f:Int)(e d c kv':Value):Mc ((((((w.setCell ⟨b,0,none⟩ (.int .i64 g)).setCell ⟨b,1,none⟩ (.int .i64 f)).setCell ⟨b,2,none⟩ e).setCell ⟨b,3,none⟩ d).setCell ⟨b,4,none⟩ c).setCell ⟨b,5,none⟩ kv') b g f e d c kv':=by
  obtain⟨p,j,q1,q,v,m,r,l,t,s,u,i,n⟩:=h;refine⟨by simpa using p,?_,?_,?_,?_,?_,?_,?_,?_,?_,?_,?_,?_⟩<;>simp[go_sem, *]
theorem A0d {R:Nat->Prop}{w:World}{b:Nat}{v0 c e d:Value}(a:¬R b):Ac R w ((((((w.setCell ⟨b,0,none⟩ v0).setCell ⟨b,1,none⟩ c).setCell ⟨b,2,none⟩ e).setCell ⟨b,3,none⟩ v3).setCell ⟨b,4,none⟩ v4).setCell ⟨b,5,none⟩ d):=(((((Ac.set a _).trans (Ac.set a _)).trans (Ac.set a _)).trans (Ac.set a _)).trans (Ac.set a _)).trans (Ac.set a _)
theorem Aho (M:Stil.Arm)(n:Stil.Net):F5 ⟨n,M.coils,M.kids⟩<=F5 M+H6 n:=by
  obtain⟨m,cs,a⟩:=M;have b:=Fe n cs a;have c:=Fe m cs a;show F5 ⟨n,cs,a⟩<=F5 ⟨m,cs,a⟩+_
  omega
theorem Jd.both {a:Stil.Arm}(h:Jd a):(∀c∈a.coils,Wl c)/\∀x∈a.kids,Jd x:=by
  obtain⟨n,cs,b⟩:=a;exact((Gy _ _ _).1 h).2
theorem Avk (n g P:Nat)(w:World)(hn:n<=20)(hr:H5 w g P)(hP:P<=100000000):
    Calls prog 43 #[.pointer (some ⟨g,0,none⟩), .int .i64 n] w λe w'=>Afl e w w' g (P+5000) 2000:=by
  have hg:=Ug hr;go_enter func43,ntmps43
  go_wp2_with (first | (go_at_call 45;refine(Ie g _ _ raA omz).mono ?_;rintro e z ⟨op,v,ds,rfl,aL,hv,hs,hl,V,y⟩;have aV:=hv;obtain⟨aa,cc,rfl,_,_⟩:=aV;have a6:w.heap.size<z.heap.size:=A51 ltA y.size;obtain⟨q0,p0,q1,p1,q2,p2,q3,p3,Y,p4,q5,p5⟩:z.cell? ⟨w.heap.size,0,none⟩=some (.int .i64 0)/\z.frozen? ⟨w.heap.size,0,none⟩=false/\z.cell? ⟨w.heap.size,1,none⟩=some (.int .i64 0)/\z.frozen? ⟨w.heap.size,1,none⟩=false/\z.cell? ⟨w.heap.size,2,none⟩=some (.slice none 0 0)/\z.frozen? ⟨w.heap.size,2,none⟩=false/\z.cell? ⟨w.heap.size,3,none⟩=some (.slice none 0 0)/\z.frozen? ⟨w.heap.size,3,none⟩=false/\z.cell? ⟨w.heap.size,4,none⟩=some (.slice none 0 0)/\z.frozen? ⟨w.heap.size,4,none⟩=false/\z.cell? ⟨w.heap.size,5,none⟩=some (.slice none 0 0)/\z.frozen? ⟨w.heap.size,5,none⟩=false:=⟨gcA y,gfA y,gcA y,gfA y,gcA y,gfA y,gcA y,gfA y,gcA y,gfA y,gcA y,gfA y⟩) | (go_at_call 42;refine(Qy g _ _ raA omz).mono ?_;rintro e q ⟨oZ,v2,ac,rfl,tN,ap,aG,aY,V,u⟩;have ai:=ap;obtain⟨a2,c2,rfl,_,_⟩:=ai;have a9:=A51 ltA u.size;obtain⟨q0,p0,q1,p1,q2,p2,q3,p3,Y,p4,q5,p5⟩:q.cell? ⟨w.heap.size,0,none⟩=some (.int .i64 0)/\q.frozen? ⟨w.heap.size,0,none⟩=false/\q.cell? ⟨w.heap.size,1,none⟩=some (.int .i64 0)/\q.frozen? ⟨w.heap.size,1,none⟩=false/\q.cell? ⟨w.heap.size,2,none⟩=some (.slice none 0 0)/\q.frozen? ⟨w.heap.size,2,none⟩=false/\q.cell? ⟨w.heap.size,3,none⟩=some (.slice none 0 0)/\q.frozen? ⟨w.heap.size,3,none⟩=false/\q.cell? ⟨w.heap.size,4,none⟩=some (.slice none 0 0)/\q.frozen? ⟨w.heap.size,4,none⟩=false/\q.cell? ⟨w.heap.size,5,none⟩=some (.slice none 0 0)/\q.frozen? ⟨w.heap.size,5,none⟩=false:=⟨gcA u,gfA u,gcA u,gfA u,gcA u,gfA u,gcA u,gfA u,gcA u,gfA u,gcA u,gfA u⟩))
  have aF:Ce (λb=>w.heap.size<b) q (.slice aa ds.length cc) ds:=((Eo hv).mono (Aeh spz)).keep (Ac.of_grown u (λb s e=>by simp only[A65] at e;omega));have xX:Ce (λb=>w.heap.size<b) q (.slice a2 ac.length c2) ac:=(Eo ap).mono (Aeh omz);have hB:∀b,b<q.heap.size->w.heap.size<b->w.heap.size<b/\b≠q.heap.size+1:=λb s h=>⟨h,omz⟩
  have aw:A39 w ((q.alloc (.cells #[.int .i64 oZ, .slice a2 ac.length c2] 40)).alloc (.cells #[.int .i64 1, .int .i64 op, .slice aa ds.length cc, .slice none 0 0, .slice (some ⟨q.heap.size,0,none⟩) 1 1, .slice none 0 0] 46)) (q.heap.size+1) g (P+60) 20:=by
    refine⟨⟨⟨1,⟨op,ds⟩,[]⟩,[⟨oZ,ac⟩],[]⟩,_,_,_,_,abA,(show Mc _ (q.heap.size+1) 1 op (.slice aa ds.length cc) (.slice none 0 0) (.slice (some ⟨q.heap.size,0,none⟩) 1 1) (.slice none 0 0) from abA),(aF.mono hB).keep kpA,I5 _ _,Dk.keep (Aav (b:=q.heap.size) (ns:=[⟨oZ,ac⟩]) rfl (RowOf.one (cs:=[.int .i64 oZ, .slice a2 ac.length c2]) rfl ⟨_,rfl,xX.mono hB⟩) ⟨omz,omz⟩ spz) (Ac.of_below (Aa _ _)),Q7 _ _,?_,?_,rlA,glA⟩
    · refine(Gy _ _ _).2 ⟨Gv dcz aL hs omz,λc hc=>?_,λ_ h=>yAi⟩
      simp at hc;subst hc;exact⟨tN,aG,by show ac.length<=100000;omega⟩
    · rw[Fe,Ee]
      simp[Fq,N7];omega
  obtain⟨B,ay⟩:∃B,B=q.heap.size+1:=⟨_,rfl⟩
  have a8:w.heap.size<B:=omz
  rw[<-ay] at aw;rw[<-ay];clear hB ay;go_loopw [6] (λi wr=>∃j:Nat,j<=n/\i=.int .i64 j/\A39 w wr B g (P+60+100*j) (20+30*j)) (λi _=>n - (intOf i).toNat)
  case atStart=>exact⟨0,omz,rfl,aw⟩
  case round=>
    clear aw aF xX hv ap hs aG;obtain⟨j,hj,rfl,A,av,nv,cv,kv,aj,an,X,ab,H,U,kE,aI,V,aE⟩:=hrel;obtain⟨a1,c1,rfl,-⟩:=id X;obtain⟨a3,c3,rfl,-⟩:=id ab;obtain⟨a4,c4,rfl,-⟩:=id H;obtain⟨a5,c5,rfl,-⟩:=id U;have ao:=hid aj;have ag:=hid an;have HA:Hid (Ot (λb=>w.heap.size<b/\b≠B) wr [.int .i64 A.net.kind, .int .i64 A.net.one.op, .slice a1 A.net.one.args.length c1, .slice a3 A.net.kids.length c3, .slice a4 A.coils.length c4, .slice a5 A.kids.length c5] A):=⟨_,_,_,_,rfl,X,ab,H,U⟩
    obtain⟨ae,K,G,R,E,S,L,T,D,F,I,O,J⟩:=an;by_cases a7:j<n
    · clear X ab H U aj
      go_upto_region 5 with fail
      go_cut [] (λwq=>A39 w wq B g (P+120+100*j) (35+30*j))
      case first=>
       go_region_law (first | (go_simp;go_at_call 45;refine(Ie g _ _ raA omz).mono ?_;rintro e w5 ⟨jX,v3,aT,rfl,rq,ai,aM,aH,V,aO⟩;have af:wr.grownBy w5 (some g):=⟨aO.os,aO.tape,aO.output,aO.size,aO.block⟩;obtain⟨b3,d3,rfl,_,_⟩:=id ai;have iW:=hid (ag.grownO af yAb);clear K G R E S L T D F I O J;obtain⟨ae,K,G,R,E,S,L,T,D,F,I,O,J⟩:=iW.out) | (go_simp;go_at_call 42;refine(Qy g _ _ raA omz).mono ?_;rintro e w6 ⟨gZ,v4,jC,rfl,rf,ax,aR,az,V,aC⟩;obtain⟨b4,d4,rfl,_,_⟩:=id ax;have wE:=hid (iW.grownO aC yAb);clear K G R E S L T D F I O J;obtain⟨ae,K,G,R,E,S,L,T,D,F,I,O,J⟩:=wE.out))
       all_goals go_wp2
       all_goals go_meet
       all_goals
        have aS:Ac (λb=>w.heap.size<b/\b≠B) wr w5:=Ac.of_grown af (λb s e=>by have:=s.1;simp only[A65] at e;omega);have aA:Ac (λb=>w.heap.size<b/\b≠B) w5 w6:=Ac.of_grown aC (λb s e=>by have:=s.1;simp only[A65] at e;omega);have qg:=ag.1;have pX:=af.size;have mX:=aC.size;have aJ:=((Eo ai).mono (λb _ s=>by have e:wr.drew.heap.size=wr.heap.size:=rfl;omega)).keep aA;have aK:Ce (λb=>w.heap.size<b/\b≠B) w6 (.slice b4 jC.length d4) jC:=(Eo ax).mono (λb _ s=>by omega);have aB:=(ao.grownO af yAb).grownO aC yAb;have aQ:=(HA.keep aS).keep aA;have qw:=V;have jA:=Dx (Dx aE af) aC;obtain⟨ah,q0,q1,q2,q3,Y,q5,p0,p1,p2,p3,p4,p5⟩:=id aB;have fO:=wE.out;clear ao ag iW wE HA ai ax af aC aO;have aU:¬(λb=>w.heap.size<b/\b≠B) B:=λh=>h.2 rfl
        have uA:∀v0 v1 v2 v3 v4 v5:Value,Ac (λb=>w.heap.size<b/\b≠B) w6 ((((((w6.setCell ⟨B,0,none⟩ v0).setCell ⟨B,1,none⟩ v1).setCell ⟨B,2,none⟩ v2).setCell ⟨B,3,none⟩ v3).setCell ⟨B,4,none⟩ v4).setCell ⟨B,5,none⟩ v5):=λ_ _ _ _ _ _=>A0d aU
        have aD:=Axs (Q:=λb=>w.heap.size<b/\b≠B) (W:=(((((w6.setCell ⟨B,0,none⟩ (.int .i64 0)).setCell ⟨B,1,none⟩ (.int .i64 0)).setCell ⟨B,2,none⟩ (.slice none 0 0)).setCell ⟨B,3,none⟩ (.slice none 0 0)).setCell ⟨B,4,none⟩ (.slice none 0 0)).setCell ⟨B,5,none⟩ (.slice (some ⟨w6.heap.size+1,0,none⟩) 2 2)) (b:=w6.heap.size) (jX:=jX) (gZ:=gZ) spz (aQ.keep (uA _ _ _ _ _ _)) rfl (aJ.keep (uA _ _ _ _ _ _)) (aK.keep (uA _ _ _ _ _ _)) ⟨omz,omz⟩ ⟨omz,omz⟩;simp only[A6s,A6t] at aD;refine⟨⟨⟨0,⟨0,[]⟩,[]⟩,[],[A,⟨⟨1,⟨jX,aT⟩,[]⟩,[⟨gZ,jC⟩],[]⟩]⟩,_,_,_,_,?_,((fO.six 0 0 (.slice none 0 0) (.slice none 0 0) (.slice none 0 0) (.slice (some ⟨w6.heap.size+1,0,none⟩) 2 2)).alloc _).alloc _,Qz _ _,I5 _ _,Xi _ _,aD,Axr kE rq rf aM aR aH az,?_,rlA,glA⟩
        · exact(((((((aB.set omz).set omz).set omz).set omz).set omz).set omz).alloc _).alloc _
        · have:=A29 (jX:=jX) (gZ:=gZ) aI aH az
          omega
      case rest=>
        obtain⟨M,av,nv,cv,kv,aj,an,X,ab,H,U,tJ,aW,dL,kM⟩:=hcut;obtain⟨e1,f1,rfl,-⟩:=id X;obtain⟨e2,f2,rfl,-⟩:=id ab;obtain⟨e3,f3,rfl,-⟩:=id H;obtain⟨e4,f4,rfl,-⟩:=id U;have iY:=hid X;have ak:=hid ab;have oM:=hid H;have sN:=hid U;clear ao ag HA K G R E S L T D F I O J V aE X ab H U ae;obtain⟨ah,q0,q1,q2,q3,Y,q5,p0,p1,p2,p3,p4,p5⟩:=aj;obtain⟨ae,K,G,R,E,S,L,T,D,F,I,O,J⟩:=an;have al:∀b,(λb=>w.heap.size<b/\b≠B) b->¬g=b:=λb s e=>by have:=s.1;omega
        go_wp2_with (first | (go_at_call_of 23 (Value.int IntKind.i64 2);refine(Ew g _ _ _ raA omz omz omz).mono ?_;rintro e m ⟨x,rfl,aX,aZ,V,l⟩;have ah:w.heap.size<m.heap.size:=A51 ltA l.size;have ae:=A51 ltA l.size;obtain⟨q0,p0,q1,p1,q2,p2,q3,p3,Y,p4,q5,p5,K,T,G,D,R,F,E,I,S,O,L,J⟩:m.cell? ⟨w.heap.size,0,none⟩=some (.int .i64 0)/\m.frozen? ⟨w.heap.size,0,none⟩=false/\m.cell? ⟨w.heap.size,1,none⟩=some (.int .i64 0)/\m.frozen? ⟨w.heap.size,1,none⟩=false/\m.cell? ⟨w.heap.size,2,none⟩=some (.slice none 0 0)/\m.frozen? ⟨w.heap.size,2,none⟩=false/\m.cell? ⟨w.heap.size,3,none⟩=some (.slice none 0 0)/\m.frozen? ⟨w.heap.size,3,none⟩=false/\m.cell? ⟨w.heap.size,4,none⟩=some (.slice none 0 0)/\m.frozen? ⟨w.heap.size,4,none⟩=false/\m.cell? ⟨w.heap.size,5,none⟩=some (.slice none 0 0)/\m.frozen? ⟨w.heap.size,5,none⟩=false/\m.cell? ⟨B,0,none⟩=some (.int .i64 M.net.kind)/\m.frozen? ⟨B,0,none⟩=false/\m.cell? ⟨B,1,none⟩=some (.int .i64 M.net.one.op)/\m.frozen? ⟨B,1,none⟩=false/\m.cell? ⟨B,2,none⟩=some (.slice e1 M.net.one.args.length f1)/\m.frozen? ⟨B,2,none⟩=false/\m.cell? ⟨B,3,none⟩=some (.slice e2 M.net.kids.length f2)/\m.frozen? ⟨B,3,none⟩=false/\m.cell? ⟨B,4,none⟩=some (.slice e3 M.coils.length f3)/\m.frozen? ⟨B,4,none⟩=false/\m.cell? ⟨B,5,none⟩=some (.slice e4 M.kids.length f4)/\m.frozen? ⟨B,5,none⟩=false:=⟨gcA l,gfA l,gcA l,gfA l,gcA l,gfA l,gcA l,gfA l,gcA l,gfA l,gcA l,gfA l,gcA l,gfA l,gcA l,gfA l,gcA l,gfA l,gcA l,gfA l,gcA l,gfA l,gcA l,gfA l⟩) | (go_at_call 45;refine(Ie g _ _ raA omz).mono ?_;rintro e f ⟨Z,ev,t,rfl,bV,dM,gW,pJ,V,d⟩;obtain⟨ea,ec,rfl,_,_⟩:=id dM;have ah:w.heap.size<f.heap.size:=A51 ltA d.size;have ae:=A51 ltA d.size;obtain⟨q0,p0,q1,p1,q2,p2,q3,p3,Y,p4,q5,p5,K,T,G,D,R,F,E,I,S,O,L,J⟩:f.cell? ⟨w.heap.size,0,none⟩=some (.int .i64 0)/\f.frozen? ⟨w.heap.size,0,none⟩=false/\f.cell? ⟨w.heap.size,1,none⟩=some (.int .i64 0)/\f.frozen? ⟨w.heap.size,1,none⟩=false/\f.cell? ⟨w.heap.size,2,none⟩=some (.slice none 0 0)/\f.frozen? ⟨w.heap.size,2,none⟩=false/\f.cell? ⟨w.heap.size,3,none⟩=some (.slice none 0 0)/\f.frozen? ⟨w.heap.size,3,none⟩=false/\f.cell? ⟨w.heap.size,4,none⟩=some (.slice none 0 0)/\f.frozen? ⟨w.heap.size,4,none⟩=false/\f.cell? ⟨w.heap.size,5,none⟩=some (.slice none 0 0)/\f.frozen? ⟨w.heap.size,5,none⟩=false/\f.cell? ⟨B,0,none⟩=some (.int .i64 M.net.kind)/\f.frozen? ⟨B,0,none⟩=false/\f.cell? ⟨B,1,none⟩=some (.int .i64 M.net.one.op)/\f.frozen? ⟨B,1,none⟩=false/\f.cell? ⟨B,2,none⟩=some (.slice e1 M.net.one.args.length f1)/\f.frozen? ⟨B,2,none⟩=false/\f.cell? ⟨B,3,none⟩=some (.slice e2 M.net.kids.length f2)/\f.frozen? ⟨B,3,none⟩=false/\f.cell? ⟨B,4,none⟩=some (.slice e3 M.coils.length f3)/\f.frozen? ⟨B,4,none⟩=false/\f.cell? ⟨B,5,none⟩=some (.slice e4 M.kids.length f4)/\f.frozen? ⟨B,5,none⟩=false:=⟨gcA d,gfA d,gcA d,gfA d,gcA d,gfA d,gcA d,gfA d,gcA d,gfA d,gcA d,gfA d,gcA d,gfA d,gcA d,gfA d,gcA d,gfA d,gcA d,gfA d,gcA d,gfA d,gcA d,gfA d⟩))
        · have C:=(Ac.of_grown l (λb s e=>al b s (by simpa using e))).trans (Ac.of_grown d (λb s e=>al b s (by simpa using e)))
          have ar:Ce (λb=>w.heap.size<b/\b≠B) f (.slice ea t.length ec) t:=(Eo dM).mono (λb _ s=>by have:=l.size;omega);refine⟨⟨j+1,omz,by go_num,⟨⟨1,⟨Z,t⟩,[]⟩,M.coils,M.kids⟩,_,_,_,_,abA,(show Mc _ B 1 Z (.slice ea t.length ec) (.slice none 0 0) (.slice e3 M.coils.length f3) (.slice e4 M.kids.length f4) from abA),ar.keep kpA,I5 _ _,(oM.keep C).keep kpA,(sN.keep C).keep kpA,(Gy _ _ _).2 ⟨Gv dcz bV gW omz,(Jd.both tJ).1,(Jd.both tJ).2⟩,?_,rlA,glA⟩,by simp[intOf];omega⟩;have:=Aho M ⟨1,⟨Z,t⟩,[]⟩
          have e9:H6 ⟨1,⟨Z,t⟩,[]⟩=t.length:=by rw[Ee];simp
          omega
        · have C:=Ac.of_grown l (λb s e=>al b s (by simpa using e))
          refine⟨⟨j+1,omz,by go_num,M,_,_,_,_,abA,abA,iY.keep C,ak.keep C,oM.keep C,sN.keep C,tJ,omz,rlA,glA⟩,by simp[intOf];omega⟩
    · obtain rfl:j=n:=by omega
      have oM:=hid H;have sN:=hid U;clear X ab H U HA ao ag;obtain⟨ah,q0,q1,q2,q3,Y,q5,p0,p1,p2,p3,p4,p5⟩:=aj;have al:∀b,(λb=>w.heap.size<b/\b≠B) b->¬g=b:=λb s e=>by have:=s.1;omega
      go_wp2_with (go_at_call 45;refine(Ie g _ _ raA omz).mono ?_;rintro e f ⟨Z,ev,t,rfl,bV,dM,gW,pJ,V,d⟩;obtain⟨ea,ec,rfl,_,_⟩:=id dM;have ah:=A51 ltA d.size;have ae:B<f.heap.size:=A51 ltA d.size;obtain⟨q0,p0,q1,p1,q2,p2,q3,p3,Y,p4,q5,p5,K,T,G,D,R,F,E,I,S,O,L,J⟩:f.cell? ⟨w.heap.size,0,none⟩=some (.int .i64 0)/\f.frozen? ⟨w.heap.size,0,none⟩=false/\f.cell? ⟨w.heap.size,1,none⟩=some (.int .i64 0)/\f.frozen? ⟨w.heap.size,1,none⟩=false/\f.cell? ⟨w.heap.size,2,none⟩=some (.slice none 0 0)/\f.frozen? ⟨w.heap.size,2,none⟩=false/\f.cell? ⟨w.heap.size,3,none⟩=some (.slice none 0 0)/\f.frozen? ⟨w.heap.size,3,none⟩=false/\f.cell? ⟨w.heap.size,4,none⟩=some (.slice none 0 0)/\f.frozen? ⟨w.heap.size,4,none⟩=false/\f.cell? ⟨w.heap.size,5,none⟩=some (.slice none 0 0)/\f.frozen? ⟨w.heap.size,5,none⟩=false/\f.cell? ⟨B,0,none⟩=some (.int .i64 A.net.kind)/\f.frozen? ⟨B,0,none⟩=false/\f.cell? ⟨B,1,none⟩=some (.int .i64 A.net.one.op)/\f.frozen? ⟨B,1,none⟩=false/\f.cell? ⟨B,2,none⟩=some (.slice a1 A.net.one.args.length c1)/\f.frozen? ⟨B,2,none⟩=false/\f.cell? ⟨B,3,none⟩=some (.slice a3 A.net.kids.length c3)/\f.frozen? ⟨B,3,none⟩=false/\f.cell? ⟨B,4,none⟩=some (.slice a4 A.coils.length c4)/\f.frozen? ⟨B,4,none⟩=false/\f.cell? ⟨B,5,none⟩=some (.slice a5 A.kids.length c5)/\f.frozen? ⟨B,5,none⟩=false:=⟨gcA d,gfA d,gcA d,gfA d,gcA d,gfA d,gcA d,gfA d,gcA d,gfA d,gcA d,gfA d,gcA d,gfA d,gcA d,gfA d,gcA d,gfA d,gcA d,gfA d,gcA d,gfA d,gcA d,gfA d⟩)
      have C:=Ac.of_grown d (λb s e=>al b s (by simpa using e));have ar:Ce (λb=>w.heap.size<b/\b≠B) f (.slice ea t.length ec) t:=(Eo dM).mono (λb _ s=>by omega);have au:∀(W:World) (b:Nat),b<W.heap.size->w.heap.size<b/\b≠B->w.heap.size<=b:=λ_ b _ h=>by omega
      refine bodyPost_ret (by simp[results,results43,go_sem,q0,q1,q2,q3,Y,q5];rfl) rfl ?_;refine⟨⟨⟨1,⟨Z,t⟩,[]⟩,A.coils,A.kids⟩,_,_,_,_,rfl,Ce.mono (ar.keep kpA) (au _),I5 _ _,Dk.mono ((oM.keep C).keep kpA) (au _),Es.mono ((sN.keep C).keep kpA) (au _),(Gy _ _ _).2 ⟨Gv dcz bV gW omz,(Jd.both kE).1,(Jd.both kE).2⟩,?_,rlA,glA⟩;have:=Aho A ⟨1,⟨Z,t⟩,[]⟩
      have e9:H6 ⟨1,⟨Z,t⟩,[]⟩=t.length:=by rw[Ee];simp
      omega
def A2c (e:Ending)(w w':World)(g Q N k:Nat):Prop:=∃(l:List Stil.Arm) (v:Value),e=.returned v/\Es (λb=>w.heap.size<=b) w' v l/\(∀a∈l,Jd a/\F5 a<=N)/\l.length<=k/\H5 w' g Q/\w.grownBy w' (some g)
def A5c (w0 c:World)(v:Value)(g Q k:Nat):Prop:=∃(b:List Stil.Arm) (d:List Value),
  c.ownsRow w0.heap.size 46 6 v b.length d/\RowOf 6 (Ot (Off (w0.heap.size - 1) v) c) d b/\(∀a∈b,Jd a/\F5 a<=4000)/\b.length=k/\H5 c g Q/\w0.grownBy c (some g)
def lenV:Value->Nat
  | .slice _ n _=>n
  | _=>0
theorem Amb {l:List Stil.Arm}(h:∀a∈l,Jd a/\F5 a<=N)(c:N<=1000000):∀a∈l,Cm a:=λa b=>Ahq a (Jd.wf a (h a b).1 (A6e (h a b).2 c)) (by have:=(h a b).2;omega)
theorem Ama {l:List Stil.Arm}(h:∀a∈l,Jd a/\F5 a<=N):Bv l<=l.length*(2+2*N):=by
  have:=Ao9 Aw (2+2*N) l (λa b=>by have:=Ahp a;have:=(h a b).2;omega)
  exact this
theorem Ayq {P:Nat->Prop}{w:World}{a:Option Addr}{n c:Nat}{l:List Stil.Arm}(h:Es P w (.slice a l.length c) l)(t:n<=l.length):Es P w (.slice a n c) (l.take n):=by
  obtain⟨s,r,f,e,j⟩:=h;simp only[Value.slice.injEq] at f;obtain⟨rfl,-,rfl⟩:=f;have d:(l.take n).length=n:=by rw[A74];omega
  refine⟨a,c,by rw[d],⟨by rw[d];have:=e.1;omega,e.2⟩,λi hi=>?_⟩;rw[d] at hi;obtain⟨b,o,g,q,m,k⟩:=j i omz;exact⟨b,o,g,q,m,by rw[List.getElem_take];exact k⟩
theorem Aqu (g P:Nat)(w:World)(hr:H5 w g P)(hP:P<=1000000):
    Calls prog 22 #[.pointer (some ⟨g,0,none⟩)] w λe w'=>A2c e w w' g (P+60000) 4000 4:=by
  have hg:=Ug hr;obtain⟨ia,ap,gJ,gI,gG⟩:=info_parts Aap;go_enter func22,ntmps22;have ay:(w.alloc (.cells #[] 46)).ownsRow w.heap.size 46 6 (.slice (some ⟨w.heap.size,0,none⟩) 0 0) 0 []:=by
    have:=World.ownsRow_lit (base:=w.heap.size) (e:=46) (size:=6) w #[] 0 omz yAe rfl
    simpa using this
  go_upto_region 3 with(go_at_call_of 23 (Value.int IntKind.i64 24);refine(Ew g _ _ _ raA omz omz omz).mono ?_;rintro e wa ⟨x,rfl,aO,au,qo,aj⟩)
  have ac:=hid (Bl ay aj omz);have F:=Dx (D5 (Ny _ _) _) aj;have az:=aj.size;rw[World.size_alloc] at az;clear ay aj hr;by_cases hx:x=0
  · subst hx
    go_wp2_with (first | (go_at_call_of 41 (6:Nat);refine(Aad g _ _ _ [9,15,16,17,18,30] _ raA omz (C9 (by simp[Fj,go_sem])) spz yAh spz spz).mono ?_;rintro e wb ⟨af,rfl,hy,D,C⟩;simp only[A6n,A68,A7u] at hy;obtain⟨m,rfl⟩:∃m:Nat,af=m:=⟨af.toNat,omz⟩) | (go_at_call 40;refine(Avh m g _ _ omz raA omz).mono ?_;rintro e H ⟨N,av,nv,rfl,M,O,ht,ar,D,z⟩;have HA:=hid M;have HN:=hid O;obtain⟨q,s,rfl,-⟩:=M;obtain⟨f,j,rfl,-⟩:=O) | (go_at_call 42;refine(Qy g _ _ raA omz).mono ?_;rintro e t ⟨E,ev,B,rfl,bV,dM,gW,pJ,D,ab⟩;have HE:=hid (Eo dM);obtain⟨U,ec,rfl,_,_⟩:=dM) | (at_builtin;refine wpList_append_own_at _ rfl _ _ 23 rfl w.heap.size 46 ia (.agg #[.int .i64 0, .int .i64 0, .slice none 0 0, .slice none 0 0, .slice none 0 0, .slice none 0 0]) 6 112 underlying23 ap gJ gI gG rfl dcz _ _ _ rfl (((Bl (Bl (Bl (ac.alloc _) C omz) z omz) ab omz).alloc _).alloc _) _ _ _ [.int .i64 N.kind, .int .i64 N.one.op, .slice q N.one.args.length s, .slice f N.kids.length j, .slice (some ⟨t.heap.size,0,none⟩) 1 1, .slice none 0 0] rfl rfl yBb yAf yAe omz (by simp only[World.size_alloc];have:=C.size;have:=z.size;have:=ab.size;simp only[World.size_alloc] at*;omega) ?_;intro v' S Y Q bQ aV))
    have bH:((t.alloc (.cells #[.int .i64 E, .slice U B.length ec] 40)).alloc (.cells #[.int .i64 N.kind, .int .i64 N.one.op, .slice q N.one.args.length s, .slice f N.kids.length j, .slice (some ⟨t.heap.size,0,none⟩) 1 1, .slice none 0 0] 46)).grownBy S (some w.heap.size):=Q;have s1:=C.size;have s2:=z.size;have s3:=ab.size;simp only[World.size_alloc] at s1;have kg:∀{u v:World},u.grownBy v (some g)->Ac (λb=>w.heap.size<b) u v:=λh=>Ac.of_grown h (λb d e=>by simp only[A65] at e;omega)
    have ka:∀(u:World) (o:Obj),Ac (λb=>w.heap.size<b) u (u.alloc o):=λu o=>Ac.of_below (Aa _ _)
    have k6:Ac (λb=>w.heap.size<b) ((t.alloc (.cells #[.int .i64 E, .slice U B.length ec] 40)).alloc (.cells #[.int .i64 N.kind, .int .i64 N.one.op, .slice q N.one.args.length s, .slice f N.kids.length j, .slice (some ⟨t.heap.size,0,none⟩) 1 1, .slice none 0 0] 46)) S:=Ac.of_grown bH (λb d e=>by simp only[A65] at e;omega);have hd:Ce (λb=>w.heap.size<b) ((t.alloc (.cells #[.int .i64 E, .slice U B.length ec] 40)).alloc (.cells #[.int .i64 N.kind, .int .i64 N.one.op, .slice q N.one.args.length s, .slice f N.kids.length j, .slice (some ⟨t.heap.size,0,none⟩) 1 1, .slice none 0 0] 46)) (.slice q N.one.args.length s) N.one.args:=(((HA.mono (λb _ d=>by omega)).keep (kg ab)).keep (ka _ _)).keep (ka _ _);have hn:Dv (λb=>w.heap.size<b) ((t.alloc (.cells #[.int .i64 E, .slice U B.length ec] 40)).alloc (.cells #[.int .i64 N.kind, .int .i64 N.one.op, .slice q N.one.args.length s, .slice f N.kids.length j, .slice (some ⟨t.heap.size,0,none⟩) 1 1, .slice none 0 0] 46)) (.slice f N.kids.length j) N.kids:=(((HN.mono (λb _ d=>by omega)).keep (kg ab)).keep (ka _ _)).keep (ka _ _);have he:Dk (λb=>w.heap.size<b) ((t.alloc (.cells #[.int .i64 E, .slice U B.length ec] 40)).alloc (.cells #[.int .i64 N.kind, .int .i64 N.one.op, .slice q N.one.args.length s, .slice f N.kids.length j, .slice (some ⟨t.heap.size,0,none⟩) 1 1, .slice none 0 0] 46)) (.slice (some ⟨t.heap.size,0,none⟩) 1 1) [⟨E,B⟩]:=(Aav (b:=t.heap.size) (ns:=[⟨E,B⟩]) rfl (RowOf.one (cs:=[.int .i64 E, .slice U B.length ec]) rfl ⟨_,rfl,HE.mono (λb _ d=>by omega)⟩) omz spz).keep (ka _ _)
    have ak:RowOf 6 (Ot (λb=>w.heap.size<=b) S) [.int .i64 N.kind, .int .i64 N.one.op, .slice q N.one.args.length s, .slice f N.kids.length j, .slice (some ⟨t.heap.size,0,none⟩) 1 1, .slice none 0 0] [⟨N,[⟨E,B⟩],[]⟩]:=(RowOf.one (R:=Ot (λb=>w.heap.size<b) ((t.alloc (.cells #[.int .i64 E, .slice U B.length ec] 40)).alloc (.cells #[.int .i64 N.kind, .int .i64 N.one.op, .slice q N.one.args.length s, .slice f N.kids.length j, .slice (some ⟨t.heap.size,0,none⟩) 1 1, .slice none 0 0] 46))) (cs:=[.int .i64 N.kind, .int .i64 N.one.op, .slice q N.one.args.length s, .slice f N.kids.length j, .slice (some ⟨t.heap.size,0,none⟩) 1 1, .slice none 0 0]) (a:=⟨N,[⟨E,B⟩],[]⟩) rfl ⟨_,_,_,_,rfl,hd,hn,he,Q7 _ _⟩).imp λ_ _ _ h=>(h.keep k6).mono λb _ d=>A89 d
    go_ret;refine⟨[⟨N,[⟨E,B⟩],[]⟩],_,rfl,Fb (ns:=[⟨N,[⟨E,B⟩],[]⟩]) Y ak (λb d=>(Y.lt _ d).1),?_,spz,?_,?_⟩
    · intro a ha
      rw[List.mem_singleton.1 ha];refine⟨(Gy _ _ _).2 ⟨ht,λc X=>?_,λ_ h=>yAi⟩,?_⟩
      · rw[List.mem_singleton.1 X];exact⟨bV,gW,by show B.length<=100000;omega⟩
      · rw[Fe]
        simp only[Fq,N7,A53,A54,A6k,A66,A7b,A8b];omega
    · exact Fg (Et (Cb (Cb D _) _) bH (λk y=>by simp only[A65] at y;omega)) omz
    · exact Jk (D5 (D5 (Dx (Dx (Dx (D5 F _) C) z) ab) _) _) bH (λk y=>by simp only[A65] at y;omega)
  · by_cases au:x=1
    · subst au
      go_wp2_with (first | (go_at_call_of 41 (5:Nat);refine(Aad g _ _ _ [5,7,8,9,12] _ raA omz (C9 (by simp[Fj,go_sem])) spz yAh spz spz).mono ?_;rintro e wb ⟨af,rfl,hy,D,C⟩;simp only[A6n,A68,A7u] at hy;obtain⟨m,rfl⟩:∃m:Nat,af=m:=⟨af.toNat,omz⟩) | (go_at_call 43;refine(Avk m g _ _ omz raA omz).mono ?_;rintro e H ⟨A,av,nv,cv,kv,rfl,M,O,ag,ai,ht,ar,D,z⟩;have HA:Hid (Ot (λb=>wb.heap.size<=b) H [.int .i64 A.net.kind, .int .i64 A.net.one.op,av,nv,cv,kv] A):=⟨av,nv,cv,kv,rfl,M,O,ag,ai⟩;obtain⟨q,s,rfl,-⟩:=M;obtain⟨f,j,rfl,-⟩:=O;obtain⟨J,K,rfl,-⟩:=ag;obtain⟨I,L,rfl,-⟩:=ai) | (at_builtin;refine wpList_append_own_at _ rfl _ _ 23 rfl w.heap.size 46 ia (.agg #[.int .i64 0, .int .i64 0, .slice none 0 0, .slice none 0 0, .slice none 0 0, .slice none 0 0]) 6 112 underlying23 ap gJ gI gG rfl dcz _ _ _ rfl ((Bl (Bl (ac.alloc _) C omz) z omz).alloc _) _ _ _ [.int .i64 A.net.kind, .int .i64 A.net.one.op, .slice q A.net.one.args.length s, .slice f A.net.kids.length j, .slice J A.coils.length K, .slice I A.kids.length L] rfl rfl yBb yAf yAe omz (by simp only[World.size_alloc];have:=C.size;have:=z.size;simp only[World.size_alloc] at*;omega) ?_;intro v' S Y Q bQ aV))
      have bH:(H.alloc (.cells #[.int .i64 A.net.kind, .int .i64 A.net.one.op, .slice q A.net.one.args.length s, .slice f A.net.kids.length j, .slice J A.coils.length K, .slice I A.kids.length L] 46)).grownBy S (some w.heap.size):=Q;have s1:=C.size;have s2:=z.size;simp only[World.size_alloc] at s1;have k6:Ac (λb=>w.heap.size<b) (H.alloc (.cells #[.int .i64 A.net.kind, .int .i64 A.net.one.op, .slice q A.net.one.args.length s, .slice f A.net.kids.length j, .slice J A.coils.length K, .slice I A.kids.length L] 46)) S:=Ac.of_grown bH (λb d e=>by simp only[A65] at e;omega);have ak:RowOf 6 (Ot (λb=>w.heap.size<=b) S) [.int .i64 A.net.kind, .int .i64 A.net.one.op, .slice q A.net.one.args.length s, .slice f A.net.kids.length j, .slice J A.coils.length K, .slice I A.kids.length L] [A]:=(RowOf.one (R:=Ot (λb=>w.heap.size<b) (H.alloc (.cells #[.int .i64 A.net.kind, .int .i64 A.net.one.op, .slice q A.net.one.args.length s, .slice f A.net.kids.length j, .slice J A.coils.length K, .slice I A.kids.length L] 46))) (cs:=[.int .i64 A.net.kind, .int .i64 A.net.one.op, .slice q A.net.one.args.length s, .slice f A.net.kids.length j, .slice J A.coils.length K, .slice I A.kids.length L]) (a:=A) rfl ((HA.mono (λb _ d=>by omega)).keep (Ac.of_below (Aa _ _)))).imp λ_ _ _ h=>(h.keep k6).mono λb _ d=>A89 d
      go_ret;refine⟨[A],_,rfl,Fb (ns:=[A]) Y ak (λb d=>(Y.lt _ d).1),?_,spz,?_,?_⟩
      · intro a ha
        rw[List.mem_singleton.1 ha];exact⟨ht,omz⟩
      · exact Fg (Et (Cb D _) bH (λk y=>by simp only[A65] at y;omega)) omz
      · exact Jk (D5 (Dx (Dx (D5 F _) C) z) _) bH (λk y=>by simp only[A65] at y;omega)
    · by_cases aE:x=2
      · subst aE
        go_wp2
        go_ret;exact⟨[],_,rfl,Fb (ns:=[]) ac (RowOf.nil _ _) (λb d=>(ac.lt _ d).1),λ_ h=>yAi,spz,rlA,glA⟩
      · go_wp2_with (go_at_call_of 23 (Value.int IntKind.i64 4);refine(Ew g _ _ _ raA omz omz omz).mono ?_;rintro e wb ⟨af,rfl,aG,aS,yB,C⟩)
        have aL:=C.size;obtain⟨y2,aD⟩:=A7i aG;subst aD;have ax:A5c w wb (.slice (some ⟨w.heap.size,0,none⟩) 0 0) g (P+100+0*13000) 0:=⟨[],[],Bl ac C omz,RowOf.nil _ _,λ_ h=>yAi,rfl,Fg yB omz,Dx F C⟩
        have aI:w.heap.size<=wb.heap.size:=omz
        clear ac F C yB qo az aL;go_loopw [3,4] (λo i wr=>∃ae k:Nat,k+ae=1+y2/\i=.int .i64 ae/\w.heap.size<=wr.heap.size/\A5c w wr o g (P+100+k*13000) k) (λ_ i _=>(intOf i).toNat)
        case atStart=>exact⟨1+y2,0,omz,by go_num,aI,ax⟩
        case round=>
          clear ax;obtain⟨ae,k,a5,rfl,aW,G,ys,al,aB,Z,aF,D,F⟩:=hrel;subst aF;obtain⟨a0,c0,aK,-⟩:=Gx al;subst aK;have kY:=hid al;have an:=hid aB;have T:=hid Z;clear al aB Z;by_cases aT:0<ae
          · have rO:Hid (Calls prog 44 #[.pointer (some ⟨g,0,none⟩), .int .i64 2, .bool true] wr λe w'=>Afl e wr w' g (P+100+G.length*13000+13000) 2600):=Avl 2 2 true g _ wr omz rfl D (by have e:Ac1 2=13000:=rfl;rw[e];omega)
            go_wp2_with (first | (go_at_call 44;refine rO.mono ?_;rintro e H ⟨A,av,nv,cv,kv,rfl,M,O,ag,ai,ht,ar,dL,z⟩;have HA:Hid (Ot (λb=>wr.heap.size<=b) H [.int .i64 A.net.kind, .int .i64 A.net.one.op,av,nv,cv,kv] A):=⟨av,nv,cv,kv,rfl,M,O,ag,ai⟩;obtain⟨q,s,rfl,-⟩:=M;obtain⟨f,j,rfl,-⟩:=O;obtain⟨J,K,rfl,-⟩:=ag;obtain⟨I,L,rfl,-⟩:=ai) | (at_builtin;refine wpList_append_own_at _ rfl _ _ 23 rfl w.heap.size 46 ia (.agg #[.int .i64 0, .int .i64 0, .slice none 0 0, .slice none 0 0, .slice none 0 0, .slice none 0 0]) 6 112 underlying23 ap gJ gI gG rfl dcz _ _ _ rfl ((Bl kY z omz).alloc _) _ _ _ [.int .i64 A.net.kind, .int .i64 A.net.one.op, .slice q A.net.one.args.length s, .slice f A.net.kids.length j, .slice J A.coils.length K, .slice I A.kids.length L] rfl rfl yBb yAf yAe omz (by simp only[World.size_alloc];have:=z.size;omega) ?_;intro v' S Y Q bQ aV))
            have s2:=z.size;have s6:=Q.size;rw[World.size_alloc] at s6;have y:Ac (Off (w.heap.size - 1) (.slice a0 G.length c0)) wr (H.alloc (.cells #[.int .i64 A.net.kind, .int .i64 A.net.one.op, .slice q A.net.one.args.length s, .slice f A.net.kids.length j, .slice J A.coils.length K, .slice I A.kids.length L] 46)):=(Ac.of_grown z (λb d e=>by have:=d.1;simp only[A65] at e;omega)).trans (Ac.of_below (Aa _ _));have aH:∀b,b<H.heap.size->wr.heap.size<=b->Off (w.heap.size - 1) (.slice a0 G.length c0) b:=λb _ d=>⟨omz,λf=>by have h1:=(kY.lt _ f).2;omega⟩
            have lI:=Afd (an.imp λ_ _ _ h=>h.keep y) (Ot.keep (w:=H) (n:=A) (HA.mono aH) (Ac.of_below (Aa _ _))) rfl Q aV;have el:(G++[A]).length=G.length+1:=spz
            refine⟨⟨ae - 1,G.length+1,omz,by go_num,omz,G++[A],_,by rw[el];exact Y,lI,?_,el,?_,?_⟩,by simp[intOf];omega⟩
            · intro c X
              rcases List.mem_append.1 X with X | X
              · exact T c X
              · rw[List.mem_singleton.1 X];exact⟨ht,omz⟩
            · exact Fg (Et (Cb dL _) Q (λk y=>by have:=(kY.lt _ y).1;omega)) omz
            · exact Jk (D5 (Dx F z) _) Q (λk y=>(kY.lt _ y).1)
          · have aU:¬(0:Int)<ae:=by omega
            have aa:Es (λb=>w.heap.size<=b) wr (.slice a0 G.length c0) G:=Fb kY (an.imp λ_ _ _ h=>h.mono λb _ d=>by have:=d.1;omega) (λb d=>(kY.lt _ d).1);have aA:∃l:List Stil.Arm,Es (λb=>w.heap.size<=b) wr (.slice a0 G.length c0) l/\(∀a∈l,Jd a/\F5 a<=4000)/\l.length<=4/\H5 wr g (P+55000)/\w.grownBy wr (some g):=⟨G,aa,T.out,omz,Fg D omz,F⟩
            clear aa kY an T D F
            go_wp2
            go_loopw [3] (λo wq=>∃l:List Stil.Arm,Es (λb=>w.heap.size<=b) wq o l/\(∀a∈l,Jd a/\F5 a<=4000)/\l.length<=4/\H5 wq g (P+55000)/\w.grownBy wq (some g)) (λo _=>lenV o)
            case atStart=>exact aA
            case round=>
              clear aA;obtain⟨l,aa,Z,ao,D,F⟩:=hrel;obtain⟨a1,c1,rfl,aw,-⟩:=id aa;have aR:=aw.1;have rO:=hid aa;have T:=hid Z;have vF:=hid (Abi l _ wr aa.at (by have:=Ama Z;have:l.length*(2+2*4000)<=4*(2+2*4000):=A7j _ ao;omega) (Amb Z omz));obtain⟨ah,hS⟩:∃ah,ah=Bv l:=⟨_,rfl⟩
              rw[<-hS] at vF;clear aa Z aw hS;by_cases aY:l.length=0
              · have hz:decide (0<(l.length:Int))=false:=by rw[A7o];omega
                go_wp2
                go_ret;exact⟨l,_,rfl,rO.out,T.out,ao,Fg D omz,F⟩
              · have aX:0<(l.length:Int):=by omega
                have a3:(0:Int)<=(l.length:Int) - 1:=omz
                have aQ:(l.length:Int) - 1<=c1:=omz
                have a2:((l.length:Int) - 1).toNat=l.length - 1:=omz
                by_cases aM:400<ah
                · have aJ:(400:Int)<ah:=by omega
                  go_wp2_with (go_at_call 16;refine vF.mono ?_;rintro e w5 ⟨rfl,V⟩)
                  have aZ:(l.take (l.length - 1)).length=l.length - 1:=by rw[A74];omega
                  refine⟨⟨l.take (l.length - 1),Ayq (rO.keep (Ac.of_below V)) omz,λa ha=>T a (List.mem_of_mem_take ha),omz,Et D (grown_below V none) (λk y=>by cases y),Dx F (grown_below V _)⟩,?_⟩;show l.length - 1<l.length
                  omega
                · have aJ:¬(400:Int)<ah:=by omega
                  go_wp2_with (go_at_call 16;refine vF.mono ?_;rintro e w5 ⟨rfl,V⟩)
                  go_ret;exact⟨l,_,rfl,rO.keep (Ac.of_below V),T.out,ao,Fg (Et D (grown_below V none) (λk y=>by cases y)) omz,Dx F (grown_below V _)⟩
end Go.Proofs.YtnpfcnolmkanfaaGreatDoor
