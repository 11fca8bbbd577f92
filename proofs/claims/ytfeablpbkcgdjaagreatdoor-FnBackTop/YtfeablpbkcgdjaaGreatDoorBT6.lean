import Derived.Test.YtfeablpbkcgdjaaGreatDoorBT1
set_option linter.defProp false
set_option maxHeartbeats 4000000
set_option maxRecDepth 100000
namespace Go.Proofs.YtfeablpbkcgdjaaGreatDoor
open Tryz Stil Go.RowKit Go.Sort Go.BigFrame
def Ui {w a:World}{r:Option Nat}{b o:Nat}(h:w.grownBy a r)(e:w.heap.size<=b)(v:Value):w.grownBy (a.setCell ⟨b,o,none⟩ v) r:=
 ⟨h.os,h.tape,h.output,by simpa using h.size,λk d c=>by
  rw[<-h.block k d c];simp only[World.setCell,Ge]
  rw[if_neg AU]⟩
theorem wT {w w3 c:World}{r a:Option Nat}(h:Below w.heap.size w w3)(hg:w3.grownBy c a)(hr:a=r\/∀q,a=some q->w.heap.size<=q):w.grownBy c r:=
 ⟨hg.os.trans h.os,hg.tape.trans h.tape,hg.output.trans h.output,CB h.size hg.size,λk b d=>(hg.block k (B8 b h.size) (λe=>by
  rcases hr with hr | hr
  .exact d (by rw[e,hr])
  .have:=hr k e.symm
   omega)).trans (h.block k b)⟩
def V5 {a b:World}(h:Below a.heap.size a b)(r:Option Nat):a.grownBy b r:=grown_below h r
def fW (n:Stil.B1)(w:World)(B:Nat)(g a:Option Nat)(bs:List Nat)(ts:List (List Tr × List Value))(e:Ending)(w':World):Prop:=∃(s:SN) (us:List (List Tr × List Value)),s.n=n/\e=.returned s.agg/\Sv w' (ob s.kv++bs) (us++ts)/\s.ok w' B (us++ts)/\w.grownBy w' g/\∀q,s.kv.ownBlock=some q->g=some q\/a=some q\/w.heap.size<=q
theorem KU {v:Value}{q:Nat}(h:q∈ob v):v.ownBlock=some q:=by
 unfold ob at h;cases a:v.ownBlock with
 | none=>rw[a] at h;cases h
 | some p=>rw[a] at h;rw[List.mem_singleton.1 h]
theorem cT {b:Nat}{A C bs:List Nat}(h:b∈A++(C++bs)):b∈C++(A++bs):=by
 simp only[Dm] at h ⊢;rcases h with h | h | h
 .exact .inr (.inl h)
 .exact .inl h
 .exact .inr (.inr h)
theorem kb {n:Stil.B1}(b:n.kind=0->Ai n=true):Ai n=decide (n.kind=0):=by
 by_cases a:n.kind=0
 .rw[b a,EN a]
 .rw[FO a]
  unfold Ai;simp[a]
theorem MH (k:Int)(a b:SN)(w:World)(B:Nat)(bs:List Nat)(ts:List (List Tr × List Value))(h:Sv w (ob a.kv++(ob b.kv++bs)) ts)(ha:a.ok w B ts)(I:b.ok w B ts)(hB:B<=w.heap.size)(ag:∀q,a.kv.ownBlock=some q->q∉bs/\b.kv.ownBlock≠some q)(ap:∀q,b.kv.ownBlock=some q->q∉bs)(hs:Ac a.n+Ac b.n<=900000)(ak:Bi a.n)(hz:a.n.kind=0->Ai a.n=true):Calls prog 154 #[.int .i64 k,a.agg,b.agg] w (fW (Kv k a.n b.n) w B a.kv.ownBlock b.kv.ownBlock bs ts):=by
 have ay:∀q,a.kv.ownBlock=some q->q<w.heap.size:=λq d=>(ha.row.lt q d).2
 have aj:∀q,b.kv.ownBlock=some q->q<w.heap.size:=λq d=>(I.row.lt q d).2
 obtain⟨hd,hk⟩:=SN.at h ha (λq d c=>(List.mem_append.1 c).elim (λc=>(ag q d).2 (KU c)) (ag q d).1);have iL:=Ci (λW (h:Below w.heap.size w W)=>Sj a.n a.av a.kv W (hd.below h) (hk.below h) ak);rw[kb hz] at iL;obtain⟨⟨u0,m0,ea⟩,u1,m1,eb⟩:=ha.forms h λ_ h=>h
 obtain⟨⟨u2,m2,ec⟩,u3,m3,ed⟩:=I.forms h λ_ h=>h
 have ai:(Stil.opn k a.n).length+(Stil.opn k b.n).length<=900000:=by
  have h1:=Ud k a.n;have h2:=Ud k b.n;have h3:=He (Stil.opn k a.n);have h4:=He (Stil.opn k b.n);omega
 obtain⟨W,C⟩:∃W,W=((w.alloc (.cells #[.int .i64 a.n.kind, .int .i64 a.n.one.op,a.av,a.kv] 54)).alloc (.cells #[.int .i64 b.n.kind, .int .i64 b.n.one.op,b.av,b.kv] 54)).alloc (.cells #[.int .i64 0, .int .i64 0, .slice none 0 0, .slice none 0 0] 54):=⟨_,rfl⟩
 have hS:Sv W (ob a.kv++(ob b.kv++(w.heap.size+1+1)::bs)) ts:=by
  rw[C];have:=((h.alloc (.cells #[.int .i64 a.n.kind, .int .i64 a.n.one.op,a.av,a.kv] 54)).alloc (.cells #[.int .i64 b.n.kind, .int .i64 b.n.one.op,b.av,b.kv] 54)).box (.cells #[.int .i64 0, .int .i64 0, .slice none 0 0, .slice none 0 0] 54)
  rw[World.size_alloc,World.size_alloc] at this;exact this.sub (λx l=>by simp only[Dm,C2] at l ⊢;rcases l with l | l | l | l;exact .inr (.inl l);exact .inr (.inr (.inl l));exact .inl l;exact .inr (.inr (.inr l))) λ_ h=>h
 have ad:Below w.heap.size w W:=by rw[C];exact Ce (Ce (Aa _ _) _) _
 have aA:W.heap.size=w.heap.size+3:=by rw[C];simp
 have t:CW W w.heap.size (.int .i64 a.n.kind) (.int .i64 a.n.one.op) a.av a.kv:=by rw[C];exact qN4
 have j:CW W (w.heap.size+1) (.int .i64 b.n.kind) (.int .i64 b.n.one.op) b.av b.kv:=by rw[C];exact qN4
 have i:CW W (w.heap.size+1+1) (.int .i64 0) (.int .i64 0) (.slice none 0 0) (.slice none 0 0):=by rw[C];exact qN4
 have zU:=ha.below ad;have F:=I.below ad;clear h;obtain⟨an,aV,aU,aN⟩:=a;obtain⟨g,aS,aR,pg⟩:=b;simp only[SN.agg] at*;subst ea eb ec ed;by_cases h0:an.kind=0
 .rw[EN h0] at iL
  rw[Kv,if_pos h0];clear hd hk ha I zU ai hz ak hs h0;go_enter func154,ntmps154;go_upto_region 1 with fail
  rw[<-C];clear C;obtain⟨T,q0,p0,q1,X,q2,p2,q3,Z⟩:=id t;obtain⟨P,Q,p4,G,R,O,p6,H,U⟩:=id j;obtain⟨N,q8,p8,q9,p9,Y,ab,aa,ac⟩:=id i
  go_wp2_with (go_at_call 105;refine(iL _ AX).mono ?_;rintro e y ⟨rfl,m⟩;replace j:=j.bel m;replace i:=i.bel m;replace hS:=hS.bel m;replace F:=F.below m;have ah:=Au ad m;obtain⟨T,q0,p0,q1,X,q2,p2,q3,Z⟩:=id j;obtain⟨P,Q,p4,G,R,O,p6,H,U⟩:=id i)
  refine bodyPost_ret (v:=.agg #[.int .i64 g.kind, .int .i64 g.one.op, .slice u2 g.one.args.length m2, .slice u3 g.kids.length m3]) (by simp[results,results154,go_sem,Q,G,O,H]) rfl ?_;have ae:(Value.slice u3 g.kids.length m3).ownBlock≠some (w.heap.size+1+1):=λe=>by have:=aj _ e;omega
  refine⟨⟨g,_,_,pg⟩,[],rfl,rfl,(hS.set4 AW).sub (λx l=>?_) λ_ h=>h,⟨F.dev,F.kid,D6 (D6 (D6 (D6 F.row ae) ae) ae) ae⟩,?_,λq d=>.inr (.inl d)⟩
  .simp only[Dm,C2] at l ⊢
   exact .inr (l.imp id .inr)
  .repeat (refine Ui ?_ AU _)
   exact V5 ah _
 .rw[FO h0] at iL
  rw[Kv,if_neg h0];have xX:=Ci (λu cs us hS hs hB hn=>TB k ⟨an, .slice u0 an.one.args.length m0, .slice u1 an.kids.length m1,aN⟩ u B cs us hS hs hB hn);have af:=Ci (λu cs us hS hs hB hn=>TB k ⟨g, .slice u2 g.one.args.length m2, .slice u3 g.kids.length m3,pg⟩ u B cs us hS hs hB hn);have HP:Hid (Q3 k an g=⟨k,⟨0,[]⟩,Stil.opn k an++Stil.opn k g⟩):=rfl;unfold MS at xX af;simp only[SN.agg] at xX af;obtain⟨D,au⟩:∃al,al=Stil.opn k an:=⟨_,rfl⟩
  obtain⟨E,aB⟩:∃al,al=Stil.opn k g:=⟨_,rfl⟩
  rw[<-au] at xX HP ai;rw[<-aB] at af HP ai;rw[HP.out];have di:=Ci ag;have aL:=Ci ap;have wO:=Ci ay;have eP:=Ci aj;have aO:=Ci zU;have aI:=Ci F;have z:=Ci aA;clear hd hk ha I hz ak hs h0 au aB HP ag ap ay aj zU F;go_enter func154,ntmps154;go_upto_region 1 with fail
  rw[<-C];clear C aA;obtain⟨T,q0,p0,q1,X,q2,p2,q3,Z⟩:=id t;obtain⟨P,Q,p4,G,R,O,p6,H,U⟩:=id j;obtain⟨N,q8,p8,q9,p9,Y,ab,aa,ac⟩:=id i;go_upto_region 3 with(go_at_call 105;refine(iL _ AX).mono ?_;rintro e y ⟨rfl,m⟩;replace t:=t.bel m;replace j:=j.bel m;replace i:=i.bel m;replace hS:=hS.bel m;have ah:=Au ad m;have aM:=Ci (aO.below m);have aF:=Ci (aI.below m);have A:=Ci m.size;clear m;obtain⟨T,q0,p0,q1,X,q2,p2,q3,Z⟩:=id t;obtain⟨P,Q,p4,G,R,O,p6,H,U⟩:=id j;obtain⟨N,q8,p8,q9,p9,Y,ab,aa,ac⟩:=id i)
  go_region_held3 (λu=>(u.cell? ⟨w.heap.size,0,none⟩=some (.int .i64 an.kind)/\u.cell? ⟨w.heap.size,1,none⟩=some (.int .i64 an.one.op)/\u.cell? ⟨w.heap.size,2,none⟩=some (.slice u0 an.one.args.length m0)/\u.cell? ⟨w.heap.size,3,none⟩=some (.slice u1 an.kids.length m1)/\u.cell? ⟨w.heap.size+1,0,none⟩=some (.int .i64 g.kind)/\u.cell? ⟨w.heap.size+1,1,none⟩=some (.int .i64 g.one.op)/\u.cell? ⟨w.heap.size+1,2,none⟩=some (.slice u2 g.one.args.length m2)/\u.cell? ⟨w.heap.size+1,3,none⟩=some (.slice u3 g.kids.length m3))) (first | with_reducible assumption | (refine⟨?_,?_,?_,?_,?_,?_,?_,?_⟩<;>exact BN)) (first | (have _:=aD;go_at_call 166;refine(af.out _ (ob (.slice a1 D.length c1)++(w.heap.size+1+1)::bs) _ (aw.sub (λ_ h=>cT h) (λ_ h=>h)) ((aJ.out).more (λ_ h=>.tail _ h)) (by have:=aE.out;have:=A.out;have:=z.out;omega) (λq d c=>by have h1:=eP.out q d;have h2:=A.out;have h3:=z.out;rcases List.mem_append.1 c with c | c;(rcases J with J | J;exact(di.out q (J.symm.trans (KU c))).2 d;(have K:y.heap.size<=q:=J q (KU c);omega));(rcases List.mem_cons.1 c with c | c;omega;exact aL.out q d c))).mono ?_;rintro e w3 ⟨a2,c2,y2,rfl,aP,aQ,dM,aT⟩;replace t:=t.bel dM;replace j:=j.bel dM;replace i:=i.bel dM;have oC:=ownsRow_below ar dM;have ao:=Au aG dM;have bu:=Ci dM.size;have S:=Ci J;clear aD J ar aw;obtain⟨T,q0,p0,q1,X,q2,p2,q3,Z⟩:=id t;obtain⟨P,Q,p4,G,R,O,p6,H,U⟩:=id j;obtain⟨N,q8,p8,q9,p9,Y,ab,aa,ac⟩:=id i) | (go_at_call 166;refine(xX.out _ (ob (.slice u3 g.kids.length m3)++(w.heap.size+1+1)::bs) _ hS.drew ((aM.out).below (Below.refl _ y).drew) (by have:=A.out;have:=z.out;show _<=y.heap.size;omega) (λq d c=>by have h1:=wO.out q d;have h2:=A.out;have h3:=z.out;rcases List.mem_append.1 c with c | c;exact(di.out q d).2 (KU c);(rcases List.mem_cons.1 c with c | c;omega;exact(di.out q d).1 c))).mono ?_;rintro e w2 ⟨a1,c1,y1,rfl,ar,aw,aH,J⟩;have dX:=Au (Below.refl y.heap.size y).drew aH;replace t:=t.bel dX;replace j:=j.bel dX;replace i:=i.bel dX;have aJ:=Ci (aF.out.below dX);have aG:=Au ah dX;have aE:=Ci dX.size;have aD:=Ci (B7 0);obtain⟨T,q0,p0,q1,X,q2,p2,q3,Z⟩:=id t;obtain⟨P,Q,p4,G,R,O,p6,H,U⟩:=id j;obtain⟨N,q8,p8,q9,p9,Y,ab,aa,ac⟩:=id i) | (refine I9 rfl rfl (Sv.appM (f:=Ic) (L:=D) (M:=E) (xs:=y1) (ys:=y2) (bs:=(w.heap.size+1+1)::bs) _ kd4 (aQ.sub (λb I=>DZ _ I) (λ_ h=>h)) (.tail _ (.head _)) (.head _) Wl (XJ (by rw[CP];exact aP)) oC (by have:=bu.out;have:=aE.out;have:=A.out;have:=z.out;omega) BS) rfl rfl ?_;rintro v6 w6 ⟨a6,c6,rfl,ax,az,aC,fC⟩;have vK:=fC (w.heap.size+1+1) N (λe=>by have h1:=A.out;have h2:=z.out;rcases S.out with h3 | h3;(have:=wO.out _ (h3.symm.trans e);omega);(have K:y.heap.size<=_:=h3 _ e;omega));replace t:=t.gr aC (λe=>by have h1:=A.out;have h2:=z.out;rcases S.out with h3 | h3;(have:=wO.out _ (h3.symm.trans e);omega);(have K:y.heap.size<=_:=h3 _ e;omega));replace j:=j.gr aC (λe=>by have h1:=A.out;have h2:=z.out;rcases S.out with h3 | h3;(have:=wO.out _ (h3.symm.trans e);omega);(have K:y.heap.size<=_:=h3 _ e;omega));replace i:=i.gr aC (λe=>by have h1:=A.out;have h2:=z.out;rcases S.out with h3 | h3;(have:=wO.out _ (h3.symm.trans e);omega);(have K:y.heap.size<=_:=h3 _ e;omega));obtain⟨T,q0,p0,q1,X,q2,p2,q3,Z⟩:=id t;obtain⟨P,Q,p4,G,R,O,p6,H,U⟩:=id j;obtain⟨N,q8,p8,q9,p9,Y,ab,aa,ac⟩:=id i))
  all_goals
   try go_wp2
   rw[CO] at az ax vK;refine bodyPost_ret (v:=.agg #[.int .i64 k, .int .i64 0, .slice none 0 0, .slice a6 (D.length+E.length) c6]) (by simp[results,results154,go_sem,q8,q9,Y,aa]) rfl ?_;have aK:=((az.snil).set4 (b:=w.heap.size+1+1) (o1:=0) (o2:=1) (o3:=2) (o4:=3) (x1:=.int .i64 k) (x2:=.int .i64 0) (x3:=.slice none 0 0) (x4:=.slice a6 (D.length+E.length) c6) AW).sub (cs:=ob (.slice a6 (D.length+E.length) c6)++bs) (us:=[([sl []],[.slice none 0 0]),(Jp (D++E),y1++y2)]++ts) (λx l=>by simp only[Dm,C2] at l ⊢;exact l.imp id .inr) BB;refine⟨⟨⟨k,⟨0,[]⟩,D++E⟩, .slice none 0 0, .slice a6 (D.length+E.length) c6,y1++y2⟩,_,rfl,rfl,aK,⟨.head _, .tail _ (.head _),by rw[CO];exact D6 (D6 (D6 (D6 ax vK) vK) vK) vK⟩,?_,λq d=>?_⟩
   .repeat (refine Ui ?_ AU _)
    exact wT ao aC (S.imp id λh q d=>by have K:y.heap.size<=q:=h q d;have:=A.out;have:=z.out;omega)
   .by_cases K:q<w3.heap.size
    .by_cases h6:(Value.slice a1 D.length c1).ownBlock=some q
     .rcases S.out with h7 | h7
      .exact .inl (h7.symm.trans h6)
      .have h8:y.heap.size<=q:=h7 q h6
       exact .inr (.inr (by have:=A.out;have:=z.out;omega))
     .rw[CO] at fC
      exact absurd d (fC q K h6)
    .exact .inr (.inr (by have:=ao.size;omega))
def Uy (w:World):List Nat->List SN->Value->Prop
 | [],[],v=>v=.pointer none
 | b::ls,s::ss,v=>v=.pointer (some ⟨b,0,none⟩)/\b<w.heap.size/\(w.cell? ⟨b,0,none⟩=some (.int .i64 s.n.kind)/\w.cell? ⟨b,1,none⟩=some (.int .i64 s.n.one.op)/\w.cell? ⟨b,2,none⟩=some s.av/\w.cell? ⟨b,3,none⟩=some s.kv)/\∃p,w.cell? ⟨b,4,none⟩=some p/\Uy w ls ss p
 | _,_,_=>False
section
variable {w w':World}{B:Nat}{ls bs:List Nat}{ts us:List (List Tr × List Value)}{s:SN}{ss:List SN}{v:Value}
theorem Uy.kept {r:Option Nat}(hg:w.grownBy w' r):∀{ls:List Nat} {ss:List SN} {v:Value},Uy w ls ss v->(∀b∈ls,r≠some b)->Uy w' ls ss v
 | [],[],_,h,_=>h
 | b::ls,s::ss,v,h,d=>by
  obtain⟨l,a,⟨e,f,i,k⟩,p,g,j⟩:=h;have c:=d b AW;exact⟨l,B8 a hg.size,⟨(Fj hg a c).trans e,(Fj hg a c).trans f,(Fj hg a c).trans i,(Fj hg a c).trans k⟩,p,(Fj hg a c).trans g,Uy.kept hg j (λx hx=>d x B0)⟩
 | [],_::_,_,h,_=>h
 | _::_,[],_,h,_=>h
theorem Uy.below (h:Uy w ls ss v)(a:Below w.heap.size w w'):Uy w' ls ss v:=h.kept (V5 a none) (λ_ _ e=>by cases e)
theorem Uy.cons (h:Uy w ls (s::ss) v):∃b ls',ls=b::ls'/\v=.pointer (some ⟨b,0,none⟩)/\b<w.heap.size/\(w.cell? ⟨b,0,none⟩=some (.int .i64 s.n.kind)/\w.cell? ⟨b,1,none⟩=some (.int .i64 s.n.one.op)/\w.cell? ⟨b,2,none⟩=some s.av/\w.cell? ⟨b,3,none⟩=some s.kv)/\∃p,w.cell? ⟨b,4,none⟩=some p/\Uy w ls' ss p:=by
 cases ls with
 | nil=>exact h.elim
 | cons b r=>exact⟨b,r,rfl,h⟩
theorem Uy.ptr (h:Uy w ls ss v):∃p,v=.pointer p:=by
 cases ls<;>cases ss
 .exact⟨none,h⟩
 .exact h.elim
 .exact h.elim
 .exact⟨_,h.1⟩
def PO (u v:Value):Prop:=∀q,u.ownBlock=some q->v.ownBlock≠some q
abbrev rowsOf (ss:List SN):List Nat:=ss.flatMap λs=>ob s.kv
structure Qg (w:World)(B:Nat)(bs:List Nat)(ts:List (List Tr × List Value))(ls:List Nat)(ss:List SN)(v:Value):Prop where
 link:Uy w ls ss v
 sv:Sv w (rowsOf ss++bs) ts
 oks:∀s∈ss,s.ok w B ts
 apart:(ss.map SN.kv).Pairwise PO
 free:∀b∈ls,b<w.heap.size/\∀s∈ss,s.kv.ownBlock≠some b
 off:∀s∈ss,∀q,s.kv.ownBlock=some q->q∉bs
theorem Qg.below (h:Qg w B bs ts ls ss v)(a:Below w.heap.size w w'):Qg w' B bs ts ls ss v:=
 ⟨h.link.below a,h.sv.bel a,λs d=>(h.oks s d).below a,h.apart,λb c=>⟨B8 (h.free b c).1 a.size,(h.free b c).2⟩,h.off⟩
def Qg.low (h:Qg w B bs ts ls ss v):∀s∈ss,∀q,s.kv.ownBlock=some q->q<w.heap.size:=λs a q b=>((h.oks s a).row.lt q b).2
def Ww {q:Nat}:q∈rowsOf ss↔∃s∈ss,s.kv.ownBlock=some q:=by
 simp only[rowsOf,List.mem_flatMap];exact⟨λ⟨s,a,b⟩=>⟨s,a,KU b⟩,λ⟨s,a,b⟩=>⟨s,a,by unfold ob;rw[b];exact .head _⟩⟩
def IQ (st:List Stil.B1)(w:World)(B:Nat)(bs:List Nat)(ts:List (List Tr × List Value))(e:Ending)(w':World):Prop:=∃(b:Nat) (ls:List Nat) (ss:List SN) (us:List (List Tr × List Value)),e=.returned (.pointer (some ⟨b,0,none⟩))/\ss.map SN.n=st/\Qg w' B bs (us++ts) (b::ls) ss (.pointer (some ⟨b,0,none⟩))/\Below B w w'
theorem Qg.push {t:TypeId}(h:Uy w ls ss v)(hS:Sv w (ob s.kv++(rowsOf ss++bs)) us)(i:s.ok w B us)(g:∀x∈ss,x.ok w B us)(l:(ss.map SN.kv).Pairwise PO)(o:∀x∈ss,PO s.kv x.kv)(d:∀b∈ls,b<w.heap.size/\s.kv.ownBlock≠some b/\∀x∈ss,x.kv.ownBlock≠some b)(k:∀q,s.kv.ownBlock=some q->q∉bs)(m:∀x∈ss,∀q,x.kv.ownBlock=some q->q∉bs):
  Qg (w.alloc (.cells #[.int .i64 s.n.kind, .int .i64 s.n.one.op,s.av,s.kv,v] t)) B bs us (w.heap.size::ls) (s::ss) (.pointer (some ⟨w.heap.size,0,none⟩)):=by
 have c:=Aa w (.cells #[.int .i64 s.n.kind, .int .i64 s.n.one.op,s.av,s.kv,v] t);refine⟨⟨rfl,AW,⟨by simp[go_sem],by simp[go_sem],by simp[go_sem],by simp[go_sem]⟩,v,by simp[go_sem],h.below c⟩,?_,List.forall_mem_cons.2 ⟨i.below c,λx a=>(g x a).below c⟩,List.pairwise_cons.2 ⟨λy j=>by obtain⟨x,a,rfl⟩:=List.mem_map.1 j;exact o x a,l⟩,List.forall_mem_cons.2 ⟨⟨AW,λx a e=>?_⟩,λb f=>⟨B8 (d b f).1 AW,List.forall_mem_cons.2 ⟨(d b f).2.1,(d b f).2.2⟩⟩⟩,List.forall_mem_cons.2 ⟨k,m⟩⟩
 .have:=hS.bel c
  rw[rowsOf,List.flatMap_cons,C6];exact this
 .rcases List.mem_cons.1 a with rfl | a
  .have:=(i.row.lt _ e).2;omega
  .have:=((g x a).row.lt _ e).2;omega
end
def LC (op:Int)(ds:List Stil.B9)(a:Option Addr)(c:Nat):SN:=⟨⟨1,⟨op,ds⟩,[]⟩, .slice a ds.length c, .slice none 0 0,[]⟩
def Of {w:World}{B:Nat}{bs:List Nat}{ts:List (List Tr × List Value)}{op:Int}{ds:List Stil.B9}{a:Option Addr}{c:Nat}(h:Sv w bs (([sl (Hw ds)],[.slice a ds.length c])::ts)):Sv w bs ((([]:List Tr),([]:List Value))::([sl (Hw ds)],[.slice a ds.length c])::ts)/\(LC op ds a c).ok w B ((([]:List Tr),([]:List Value))::([sl (Hw ds)],[.slice a ds.length c])::ts):=
 ⟨h.nil, .tail _ (.head _), .head _,World.ownsRow_nil _ _ _ _⟩
theorem rG (i:Stil.Dj)(j:Value)(ls:List Nat)(ss:List SN)(v:Value)(w:World)(B:Nat)(bs:List Nat)(ts:List (List Tr × List Value))(d:Qg w B bs ts ls ss v)(C:Ak w j i.one.args)(E:i.fits)(F:i.code=1)(I:B<=w.heap.size):
  Calls prog 123 #[v, .agg #[.int .i64 i.code, .int .i64 i.one.op,j]] w (IQ (E1 i.code i.one (ss.map SN.n)) w B bs ts):=by
 have D:=Ci (λW (h:Below w.heap.size w W) L us G=>Jc i.one E.2.2.1 j W L us G (C.below h));obtain⟨H,M,rfl,-⟩:=C;obtain⟨c,op,f⟩:=i;simp only at D F ⊢;subst F;obtain⟨O,rfl⟩:=d.link.ptr;have J:=Ci (λW (h:Below w.heap.size w W)=>d.below h);have hS:=d.sv.alloc (.cells #[.int .i64 1, .int .i64 op, .slice H f.length M] 66);clear d E;go_enter func123,ntmps123
 go_wp2_with (go_at_call 104;refine(D _ AX _ _ hS).mono ?_;rintro e k ⟨m,l,rfl,hS,y⟩;have P:k.cell? ⟨w.heap.size,0,none⟩=some (.int .i64 1):=(Jd y AW).trans (by simp[go_sem]);have Q:w.heap.size<k.heap.size:=GM y AW;have u:Below w.heap.size w k:=AX)
 go_ret;obtain⟨K,N⟩:=Of (B:=B) (op:=op) (hS.alloc (.cells #[.int .i64 1, .int .i64 op, .slice m f.length l, .slice none 0 0] 54));have a:=J _ (Ce u (.cells #[.int .i64 1, .int .i64 op, .slice m f.length l, .slice none 0 0] 54));have z:=Qg.push (t:=172) a.link K N (λx A=>(a.oks x A).more λ_ h=>.tail _ (.tail _ h)) a.apart (λx A q g=>by cases g) (λb o=>⟨(a.free b o).1,(λe=>by cases e),(a.free b o).2⟩) (λq g=>by cases g) a.off;rw[World.size_alloc] at z;exact⟨_,ls,LC op f m l::ss,[_,_],rfl,rfl,z,(Ce (Ce u _) _).mono I⟩
section
variable {V w2:World}{B:Nat}{ls ls' bs:List Nat}{ts us:List (List Tr × List Value)}{s s':SN}{rm r:List SN}{v p:Value}
theorem Qg.tog {g:Option Nat}{t:TypeId}(c:Qg V B bs ts ls (rm++r) v)(hl:Uy V ls' r p)(i:∀x∈ls',x∈ls)(hg:V.grownBy w2 g)(u:∀q,g=some q->∃x∈rm,x.kv.ownBlock=some q)(hS:Sv w2 (ob s'.kv++(rowsOf r++bs)) (us++ts))(A:s'.ok w2 B (us++ts))(l:∀q,s'.kv.ownBlock=some q->(∃x∈rm,x.kv.ownBlock=some q)\/V.heap.size<=q)(k:∀q∈bs,q<V.heap.size):
  Qg (w2.alloc (.cells #[.int .i64 s'.n.kind, .int .i64 s'.n.one.op,s'.av,s'.kv,p] t)) B bs (us++ts) (w2.heap.size::ls') (s'::r) (.pointer (some ⟨w2.heap.size,0,none⟩)):=by
 have m:=c.apart;rw[CX,A7k] at m;have z:∀x∈rm,∀y∈r,∀q,x.kv.ownBlock=some q->y.kv.ownBlock≠some q:=λx a y d=>m.2.2 _ (E0 a) _ (E0 d)
 have C:=c.low;refine Qg.push (hl.kept hg λb k e=>?_) hS A (λx a=>((c.oks x (DZ _ a)).more λ_ h=>DZ _ h).kept hg ?_) m.2.1 (λx a q e=>?_) (λb j=>⟨B8 (c.free b (i b j)).1 hg.size,λe=>?_,λx a=>(c.free b (i b j)).2 x (DZ _ a)⟩) (λq e o=>?_) (λx a=>c.off x (DZ _ a))
 .obtain⟨x,a,E⟩:=u _ e
  exact(c.free b (i b k)).2 x (Hi _ a) E
 .cases F:x.kv.ownBlock with
  | none=>exact .inl rfl
  | some q=>exact .inr λe=>by obtain⟨y,d,f⟩:=u q e.symm;exact z y d x a q f F
 .rcases l q e with⟨y,d,f⟩ | h
  .exact z y d x a q f
  .intro D;have:=C x (DZ _ a) q D;omega
 .rcases l b e with⟨y,d,f⟩ | h
  .exact(c.free b (i b j)).2 y (Hi _ d) f
  .have:=(c.free b (i b j)).1;omega
 .rcases l q e with⟨y,d,f⟩ | h
  .exact c.off y (Hi _ d) q f o
  .have:=k q o;omega
theorem Qg.more (h:Qg V B bs ts ls r v)(hS:Sv V (rowsOf r++bs) us)(hu:∀x∈ts,x∈us):Qg V B bs us ls r v:=⟨h.link,hS,λs a=>(h.oks s a).more hu,h.apart,h.free,h.off⟩
def ft (h:Qg V B bs ts ls (s::r) v)(hg:V.grownBy w2 s.kv.ownBlock)(a:B<=V.heap.size):Below B V w2:=⟨hg.os,hg.tape,hg.output,hg.size,λk b=>hg.block k (B8 b a) λe=>by have:=((h.oks s (.head _)).row.lt _ e.symm).1;omega⟩
def RP {n:Nat}{a b:World}(h:Below n a b)(c:n<=b.heap.size)(o:Obj):Below n a (b.alloc o):=h.trans ((Aa b o).mono c)
def Qg.head (h:Qg V B bs ts ls (s::r) v):Sv V (ob s.kv++(rowsOf r++bs)) ts:=h.sv.sub (λx a=>by rw[rowsOf,List.flatMap_cons,C6];exact a) λ_ h=>h
def Qg.bsLt (h:Qg V B bs ts ls r v):∀q∈bs,q<V.heap.size:=λq a=>h.sv.1 q (DZ _ a)
theorem Qg.notIn (h:Qg V B bs ts ls (s::r) v):∀q,s.kv.ownBlock=some q->q∉rowsOf r++bs:=λq b a=>by
 rcases List.mem_append.1 a with a | a
 .obtain⟨x,d,c⟩:=Ww.1 a
  exact(List.pairwise_cons.1 h.apart).1 _ (E0 d) q b c
 .exact h.off s (.head _) q b a
end
theorem zaa {p:Prop}(h:p:=by
 have bu:=Ci (h1.head.sub (us:=ts) (λ_ h=>h) λ_ h=>h);have HS2:=Ci hS2;have HO:=Ci ho;have lY:=Ci hlp;have eP:=Ci (And.intro dB.size hB);have jI:Hid (B<=V.drew.heap.size):=CB hB dB.size;simp only[SN.agg] at kK;rw[hpp] at g4 lY;clear hV hC HS bY hS hS2 ho k0 hB1 hz h1 hok hsz hlp hpp;obtain⟨hz0,q0,p0,q1,p1,q2,p2,q3,p3⟩:=id hb0
 go_region_held3 (λW'=>(W'.cell? ⟨b,0,none⟩=some (.int .i64 n.kind)/\W'.cell? ⟨b,1,none⟩=some (.int .i64 n.one.op)/\W'.cell? ⟨b,2,none⟩=some (.slice x1 n.one.args.length y1)/\W'.cell? ⟨b,3,none⟩=some (.slice x2 n.kids.length y2)/\W'.cell? ⟨b,4,none⟩=some (.pointer pp)/\W'.cell? ⟨C,0,none⟩=some (.int .i64 1)/\W'.cell? ⟨C,1,none⟩=some (.int .i64 op)/\W'.cell? ⟨C,2,none⟩=some (.slice a1 ds.length c1)/\W'.cell? ⟨C,3,none⟩=some (.slice none 0 0))) (first | with_reducible assumption | (refine⟨?_,?_,?_,?_,?_,?_,?_,?_,?_⟩<;>exact BN)) (first | (go_at_call 154;go_loud (refine(kK.out V.drew (rowsOf r++bs) _ ((HS2.out.drew).sub (λ_ h=>by rw[rowsOf,List.flatMap_cons,C6];exact h) (λ_ h=>h)) (((HST.out.oks _ (.head _)).more λ_ h=>.tail _ (.tail _ h)).below (Below.refl _ V).drew) (HO.out.below (Below.refl _ V).drew) (by have:=eP.out;show _<=V.heap.size;omega) (λq hq=>⟨HST.out.notIn q hq,λe=>by cases e⟩) (λq hq=>by cases hq)).mono ?_;rintro e w3 ⟨s',us,hn,rfl,hS4,hs4,hg4,hq4⟩;have hfb:=(HST.out.free b (.head _)).2 _ (.head _);have hgc:=(λo=>World.cell?_of_block (a:=⟨b,o,none⟩) (hg4.block b dR (λe=>hfb e.symm)));replace g0:=(hgc 0).trans g0;replace g1:=(hgc 1).trans g1;replace g2:=(hgc 2).trans g2;replace g3:=(hgc 3).trans g3;replace g4:=(hgc 4).trans g4;replace hb0:=(hb0.bel (Below.refl _ V).drew).gr hg4 aS.out;have HT:=Ci (vW.out.tog (V:=V.drew) (rm:=[⟨n, .slice x1 n.one.args.length y1, .slice x2 n.kids.length y2,gJ⟩]) (r:=r) (t:=172) (lY.out.below (Below.refl _ V).drew) (λx hx=>.tail _ hx) hg4 (λq hq=>⟨_, .head _,hq⟩) hS4 hs4 (λq hq=>(hq4 q hq).elim (λh=>.inl ⟨_, .head _,h⟩) (λh=>.inr (h.elim (λh=>by cases h) id))) vW.out.bsLt);have hbw:b<w3.heap.size:=B8 dR hg4.size;have hcw:C<w3.heap.size:=hb0.1;have hB3:Below B w w3:=(dB.drew.mono hB).trans (ft (s:=⟨n, .slice x1 n.one.args.length y1, .slice x2 n.kids.length y2,gJ⟩) (HST.out.below (Below.refl _ V).drew) hg4 jI.out);obtain⟨hz0,q0,p0,q1,p1,q2,p2,q3,p3⟩:=id hb0)))
 all_goals
  try go_wp2
  go_ret;refine⟨_,ls',s'::r,us++[([],[]),([sl (Hw ds)],[.slice a1 ds.length c1])],rfl,?_,by rw[C6,<-hn];exact HT.out,RP hB3 (CB jI hg4.size) _⟩;rw[CN,CN,hn];rfl):p:=h
theorem rF (i:Stil.Dj)(g:Value)(ls:List Nat)(s:SN)(r:List SN)(v:Value)(w:World)(B:Nat)(bs:List Nat)(ts:List (List Tr × List Value))(f:Qg w B bs ts ls (s::r) v)(k:Ak w g i.one.args)(z:i.fits)(m:i.code=2)(hok:Xa s.n)(hsz:Ac s.n<=800000)(hB:B<=w.heap.size):
  Calls prog 123 #[v, .agg #[.int .i64 i.code, .int .i64 i.one.op,g]] w (IQ (E1 i.code i.one ((s::r).map SN.n)) w B bs ts):=by
 have bY:=Ci (λW (h:Below w.heap.size w W) j us I=>Jc i.one z.2.2.1 g W j us I (k.below h));obtain⟨D,G,rfl,-⟩:=k;obtain⟨⟨x1,y1,l⟩,x2,y2,u⟩:=(f.oks s (.head _)).forms f.sv λ_ h=>h
 obtain⟨n,L,K,gJ⟩:=s;simp only at l u hok hsz;subst l u;obtain⟨c,op,ds⟩:=i;simp only at bY m ⊢;subst m;have HS:=Ci (λW (h:Below w.heap.size w W)=>f.below h);have hS:=f.sv.alloc (.cells #[.int .i64 2, .int .i64 op, .slice D ds.length G] 66);obtain⟨b,ls',rfl,rfl,J,-,-⟩:=f.link.cons;clear f z;go_enter func123,ntmps123;go_upto_region 6 with(go_at_call 104;refine(bY _ AX _ _ hS).mono ?_;rintro e d ⟨a1,c1,rfl,hS,y⟩;have k0:d.cell? ⟨w.heap.size,0,none⟩=some (.int .i64 2):=(Jd y AW).trans (by simp[go_sem]);have hz:w.heap.size<d.heap.size:=GM y AW;have hB1:Below w.heap.size w d:=AX)
 obtain⟨V,hV⟩:∃V,V=d.alloc (.cells #[.int .i64 1, .int .i64 op, .slice a1 ds.length c1, .slice none 0 0] 54):=⟨_,rfl⟩
 rw[<-hV];obtain⟨hS2,ho⟩:=Of (B:=B) (op:=op) (hS.alloc (.cells #[.int .i64 1, .int .i64 op, .slice a1 ds.length c1, .slice none 0 0] 54));rw[<-hV] at hS2 ho;have hb0:CW V d.heap.size (.int .i64 1) (.int .i64 op) (.slice a1 ds.length c1) (.slice none 0 0):=by rw[hV];exact qN4
 have dB:Below w.heap.size w V:=by rw[hV];exact Ce hB1 _
 obtain⟨C,hC⟩:∃C,C=d.heap.size:=⟨_,rfl⟩
 rw[<-hC] at hb0 ⊢;have h1:=HS V dB;obtain⟨_,_,e,_,dR,⟨g0,g1,g2,g3⟩,p,g4,hlp⟩:=h1.link.cons;cases e;obtain⟨pp,hpp⟩:=hlp.ptr;have kK:=Ci (λW' j us hS E A hB H F=>MH 2 ⟨n, .slice x1 n.one.args.length y1, .slice x2 n.kids.length y2,gJ⟩ (LC op ds a1 c1) W' B j us hS E A hB H F yDc hok.1 (λh=>hok.2 h));have HST:=Ci h1;have vW:=Ci ((h1.more hS2 λ_ h=>.tail _ (.tail _ h)).below (Below.refl _ V).drew);have aS:Hid ((Value.slice x2 n.kids.length y2).ownBlock≠some C):=λe=>by have:=(HS w (Below.refl _ _)).low _ (.head _) _ e;omega
 exact zaa
theorem rE (i:Stil.Dj)(g:Value)(ls:List Nat)(s:SN)(r:List SN)(v:Value)(w:World)(B:Nat)(bs:List Nat)(ts:List (List Tr × List Value))(f:Qg w B bs ts ls (s::r) v)(k:Ak w g i.one.args)(z:i.fits)(m:i.code=3)(hok:Xa s.n)(hsz:Ac s.n<=800000)(hB:B<=w.heap.size):
  Calls prog 123 #[v, .agg #[.int .i64 i.code, .int .i64 i.one.op,g]] w (IQ (E1 i.code i.one ((s::r).map SN.n)) w B bs ts):=by
 have bY:=Ci (λW (h:Below w.heap.size w W) j us I=>Jc i.one z.2.2.1 g W j us I (k.below h));obtain⟨D,G,rfl,-⟩:=k;obtain⟨⟨x1,y1,l⟩,x2,y2,u⟩:=(f.oks s (.head _)).forms f.sv λ_ h=>h
 obtain⟨n,L,K,gJ⟩:=s;simp only at l u hok hsz;subst l u;obtain⟨c,op,ds⟩:=i;simp only at bY m ⊢;subst m;have HS:=Ci (λW (h:Below w.heap.size w W)=>f.below h);have hS:=f.sv.alloc (.cells #[.int .i64 3, .int .i64 op, .slice D ds.length G] 66);obtain⟨b,ls',rfl,rfl,J,-,-⟩:=f.link.cons;clear f z;go_enter func123,ntmps123;go_upto_region 8 with(go_at_call 104;refine(bY _ AX _ _ hS).mono ?_;rintro e d ⟨a1,c1,rfl,hS,y⟩;have k0:d.cell? ⟨w.heap.size,0,none⟩=some (.int .i64 3):=(Jd y AW).trans (by simp[go_sem]);have hz:w.heap.size<d.heap.size:=GM y AW;have hB1:Below w.heap.size w d:=AX)
 obtain⟨V,hV⟩:∃V,V=d.alloc (.cells #[.int .i64 1, .int .i64 op, .slice a1 ds.length c1, .slice none 0 0] 54):=⟨_,rfl⟩
 rw[<-hV];obtain⟨hS2,ho⟩:=Of (B:=B) (op:=op) (hS.alloc (.cells #[.int .i64 1, .int .i64 op, .slice a1 ds.length c1, .slice none 0 0] 54));rw[<-hV] at hS2 ho;have hb0:CW V d.heap.size (.int .i64 1) (.int .i64 op) (.slice a1 ds.length c1) (.slice none 0 0):=by rw[hV];exact qN4
 have dB:Below w.heap.size w V:=by rw[hV];exact Ce hB1 _
 obtain⟨C,hC⟩:∃C,C=d.heap.size:=⟨_,rfl⟩
 rw[<-hC] at hb0 ⊢;have h1:=HS V dB;obtain⟨_,_,e,_,dR,⟨g0,g1,g2,g3⟩,p,g4,hlp⟩:=h1.link.cons;cases e;obtain⟨pp,hpp⟩:=hlp.ptr;have kK:=Ci (λW' j us hS E A hB H F=>MH 3 ⟨n, .slice x1 n.one.args.length y1, .slice x2 n.kids.length y2,gJ⟩ (LC op ds a1 c1) W' B j us hS E A hB H F yDc hok.1 (λh=>hok.2 h));have HST:=Ci h1;have vW:=Ci ((h1.more hS2 λ_ h=>.tail _ (.tail _ h)).below (Below.refl _ V).drew);have aS:Hid ((Value.slice x2 n.kids.length y2).ownBlock≠some C):=λe=>by have:=(HS w (Below.refl _ _)).low _ (.head _) _ e;omega
 exact zaa
section
variable {V w2:World}{B:Nat}{ls bs:List Nat}{ts:List (List Tr × List Value)}{s s2:SN}{r:List SN}{v:Value}
theorem Qg.two (h:Qg V B bs ts ls (s::s2::r) v):Sv V (ob s2.kv++(ob s.kv++(rowsOf r++bs))) ts:=h.sv.sub (λx a=>by
 simp only[rowsOf,List.flatMap_cons,Dm] at a ⊢
 rcases a with h | h | h | h<;>simp[h]) λ_ h=>h
theorem oY {q:Nat}(h:q∈rowsOf r++bs):q∈rowsOf (s2::r)++bs:=by
 simp only[rowsOf,List.flatMap_cons,Dm] at h ⊢;rcases h with h | h<;>simp[h]
theorem Qg.notIn2 (h:Qg V B bs ts ls (s::s2::r) v):∀q,s2.kv.ownBlock=some q->q∉rowsOf r++bs/\s.kv.ownBlock≠some q:=λq c=>by
 have b:=h.apart;rw[CN,CN,RD,RD] at b;refine⟨λa=>?_,λe=>b.1 _ (.head _) q e c⟩;rcases List.mem_append.1 a with a | a
 .obtain⟨x,f,d⟩:=Ww.1 a
  exact b.2.1 _ (E0 f) q c d
 .exact h.off s2 (.tail _ (.head _)) q c a
def fu {ss:List SN}(h:Qg V B bs ts ls ss v)(c:s∈ss)(hg:V.grownBy w2 s.kv.ownBlock)(b:B<=V.heap.size):Below B V w2:=⟨hg.os,hg.tape,hg.output,hg.size,λk a=>hg.block k (B8 a b) λe=>by have:=((h.oks s c).row.lt _ e.symm).1;omega⟩
end
theorem zba {p:Prop}(h:p:=by
 go_region_held3 (λW'=>(W'.cell? ⟨b,0,none⟩=some (.int .i64 n.kind)/\W'.cell? ⟨b,1,none⟩=some (.int .i64 n.one.op)/\W'.cell? ⟨b,2,none⟩=some (.slice x1 n.one.args.length y1)/\W'.cell? ⟨b,3,none⟩=some (.slice x2 n.kids.length y2)/\W'.cell? ⟨b,4,none⟩=some (.pointer (some ⟨b2,0,none⟩))/\W'.cell? ⟨b2,0,none⟩=some (.int .i64 n2.kind)/\W'.cell? ⟨b2,1,none⟩=some (.int .i64 n2.one.op)/\W'.cell? ⟨b2,2,none⟩=some (.slice x3 n2.one.args.length y3)/\W'.cell? ⟨b2,3,none⟩=some (.slice x4 n2.kids.length y4)/\W'.cell? ⟨b2,4,none⟩=some (.pointer pp))) (first | with_reducible assumption | (refine⟨?_,?_,?_,?_,?_,?_,?_,?_,?_,?_⟩<;>exact BN)) (first | (go_at_call 154;go_loud (refine(kK.out V.drew (rowsOf r++bs) _ HST.out.two (HST.out.oks _ (.tail _ (.head _))) (HST.out.oks _ (.head _)) jI.out HST.out.notIn2 (λq hq hm=>HST.out.notIn q hq (oY hm))).mono ?_;rintro e w3 ⟨s',us,hn,rfl,hS4,hs4,hg4,hq4⟩;have hfb:=(HST.out.free b (.head _)).2 _ (.tail _ (.head _));have oO:=(HST.out.free b2 (.tail _ (.head _))).2 _ (.tail _ (.head _));have hgc:=(λo=>World.cell?_of_block (a:=⟨b,o,none⟩) (hg4.block b dR (λe=>hfb e.symm)));have hgd:=(λo=>World.cell?_of_block (a:=⟨b2,o,none⟩) (hg4.block b2 kE (λe=>oO e.symm)));replace g0:=(hgc 0).trans g0;replace g1:=(hgc 1).trans g1;replace g2:=(hgc 2).trans g2;replace g3:=(hgc 3).trans g3;replace g4:=(hgc 4).trans g4;replace f0:=(hgd 0).trans f0;replace f1:=(hgd 1).trans f1;replace f2:=(hgd 2).trans f2;replace f3:=(hgd 3).trans f3;replace f4:=(hgd 4).trans f4;have HT:=Ci (Qg.tog (V:=V.drew) (rm:=[(⟨n, .slice x1 n.one.args.length y1, .slice x2 n.kids.length y2,gJ⟩:SN),(⟨n2, .slice x3 n2.one.args.length y3, .slice x4 n2.kids.length y4,sys⟩:SN)]) (r:=r) (t:=172) HST.out lY.out (λx hx=>.tail _ (.tail _ hx)) hg4 (λq hq=>⟨_, .tail _ (.head _),hq⟩) hS4 hs4 (λq hq=>(hq4 q hq).elim (λh=>.inl ⟨_, .tail _ (.head _),h⟩) (λh=>h.elim (λh=>.inl ⟨_, .head _,h⟩) .inr)) HST.out.bsLt);have hbw:b<w3.heap.size:=B8 dR hg4.size;have hbw2:b2<w3.heap.size:=B8 kE hg4.size;have hB3:Below B w w3:=ig.out.trans (fu (s:=(⟨n2, .slice x3 n2.one.args.length y3, .slice x4 n2.kids.length y4,sys⟩:SN)) HST.out (.tail _ (.head _)) hg4 jI.out))))
 all_goals
  try go_wp2
  go_ret;refine⟨_,yM,s'::r,us,rfl,?_,by rw[<-hn];exact HT.out,RP hB3 (CB jI hg4.size) _⟩;rw[CN,CN,CN,hn];rfl):p:=h
theorem rD (i:Stil.Dj)(C:Value)(ls:List Nat)(s s2:SN)(r:List SN)(v:Value)(w:World)(B:Nat)(bs:List Nat)(ts:List (List Tr × List Value))(d:Qg w B bs ts ls (s::s2::r) v)(E:Ak w C i.one.args)(N:i.fits)(F:i.code=4)(l:Xa s2.n)(A:Ac s2.n+Ac s.n<=900000)(g:B<=w.heap.size):
  Calls prog 123 #[v, .agg #[.int .i64 i.code, .int .i64 i.one.op,C]] w (IQ (E1 i.code i.one ((s::s2::r).map SN.n)) w B bs ts):=by
 have y:=Ci (λW (h:Below w.heap.size w W) z us hs=>Jc i.one N.2.2.1 C W z us hs (E.below h));obtain⟨P,R,rfl,-⟩:=E;obtain⟨⟨x1,y1,K⟩,x2,y2,G⟩:=(d.oks s (.head _)).forms d.sv λ_ h=>h
 obtain⟨⟨x3,y3,J⟩,x4,y4,M⟩:=(d.oks s2 (.tail _ (.head _))).forms d.sv λ_ h=>h
 obtain⟨n,rM,rJ,gJ⟩:=s;obtain⟨n2,yH,yG,sys⟩:=s2;simp only at K G J M l A;subst K G J M;obtain⟨c,op,L⟩:=i;simp only at y F ⊢;subst F;have I:=Ci (λW (h:Below w.heap.size w W)=>d.below h);have hS:=d.sv.alloc (.cells #[.int .i64 4, .int .i64 op, .slice P L.length R] 66);obtain⟨b,ls',rfl,rfl,aa,-,-⟩:=d.link.cons;clear d N;go_enter func123,ntmps123;go_upto_region 10 with(go_at_call 104;refine(y _ AX _ _ hS).mono ?_;rintro e k ⟨a1,T,rfl,-,H⟩;have S:k.cell? ⟨w.heap.size,0,none⟩=some (.int .i64 4):=(Jd H AW).trans (by simp[go_sem]);have U:w.heap.size<k.heap.size:=GM H AW;have D:Below w.heap.size w k:=AX)
 obtain⟨V,u⟩:∃V,V=k.alloc (.cells #[.int .i64 1, .int .i64 op, .slice a1 L.length T, .slice none 0 0] 54):=⟨_,rfl⟩
 rw[<-u];have j:Below w.heap.size w V:=by rw[u];exact Ce D _
 have f:=I V j;obtain⟨_,_,e,_,dR,⟨g0,g1,g2,g3⟩,p1,g4,O⟩:=f.link.cons;cases e;obtain⟨b2,yM,rfl,rfl,kE,⟨f0,f1,f2,f3⟩,p,f4,m⟩:=O.cons;obtain⟨pp,rfl⟩:=m.ptr;have kK:=Ci (λW' z us hS Y X g Z Q=>MH 2 (⟨n2, .slice x3 n2.one.args.length y3, .slice x4 n2.kids.length y4,sys⟩:SN) (⟨n, .slice x1 n.one.args.length y1, .slice x2 n.kids.length y2,gJ⟩:SN) W' B z us hS Y X g Z Q A l.1 (λh=>l.2 h));have f:=f.below (Below.refl _ V).drew;have HST:=Ci f;have lY:=Ci (m.below (Below.refl _ V).drew);have jI:Hid (B<=V.drew.heap.size):=CB g j.size;have ig:Hid (Below B w V.drew):=j.drew.mono g;simp only[SN.agg] at kK;clear u I y hS S D U f l A m O j
 exact zba
theorem rC (i:Stil.Dj)(C:Value)(ls:List Nat)(s s2:SN)(r:List SN)(v:Value)(w:World)(B:Nat)(bs:List Nat)(ts:List (List Tr × List Value))(d:Qg w B bs ts ls (s::s2::r) v)(E:Ak w C i.one.args)(N:i.fits)(F:i.code=5)(l:Xa s2.n)(A:Ac s2.n+Ac s.n<=900000)(g:B<=w.heap.size):
  Calls prog 123 #[v, .agg #[.int .i64 i.code, .int .i64 i.one.op,C]] w (IQ (E1 i.code i.one ((s::s2::r).map SN.n)) w B bs ts):=by
 have y:=Ci (λW (h:Below w.heap.size w W) z us hs=>Jc i.one N.2.2.1 C W z us hs (E.below h));obtain⟨P,R,rfl,-⟩:=E;obtain⟨⟨x1,y1,K⟩,x2,y2,G⟩:=(d.oks s (.head _)).forms d.sv λ_ h=>h
 obtain⟨⟨x3,y3,J⟩,x4,y4,M⟩:=(d.oks s2 (.tail _ (.head _))).forms d.sv λ_ h=>h
 obtain⟨n,rM,rJ,gJ⟩:=s;obtain⟨n2,yH,yG,sys⟩:=s2;simp only at K G J M l A;subst K G J M;obtain⟨c,op,L⟩:=i;simp only at y F ⊢;subst F;have I:=Ci (λW (h:Below w.heap.size w W)=>d.below h);have hS:=d.sv.alloc (.cells #[.int .i64 5, .int .i64 op, .slice P L.length R] 66);obtain⟨b,ls',rfl,rfl,aa,-,-⟩:=d.link.cons;clear d N;go_enter func123,ntmps123;go_upto_region 12 with(go_at_call 104;refine(y _ AX _ _ hS).mono ?_;rintro e k ⟨a1,T,rfl,-,H⟩;have S:k.cell? ⟨w.heap.size,0,none⟩=some (.int .i64 5):=(Jd H AW).trans (by simp[go_sem]);have U:w.heap.size<k.heap.size:=GM H AW;have D:Below w.heap.size w k:=AX)
 obtain⟨V,u⟩:∃V,V=k.alloc (.cells #[.int .i64 1, .int .i64 op, .slice a1 L.length T, .slice none 0 0] 54):=⟨_,rfl⟩
 rw[<-u];have j:Below w.heap.size w V:=by rw[u];exact Ce D _
 have f:=I V j;obtain⟨_,_,e,_,dR,⟨g0,g1,g2,g3⟩,p1,g4,O⟩:=f.link.cons;cases e;obtain⟨b2,yM,rfl,rfl,kE,⟨f0,f1,f2,f3⟩,p,f4,m⟩:=O.cons;obtain⟨pp,rfl⟩:=m.ptr;have kK:=Ci (λW' z us hS Y X g Z Q=>MH 3 (⟨n2, .slice x3 n2.one.args.length y3, .slice x4 n2.kids.length y4,sys⟩:SN) (⟨n, .slice x1 n.one.args.length y1, .slice x2 n.kids.length y2,gJ⟩:SN) W' B z us hS Y X g Z Q A l.1 (λh=>l.2 h));have f:=f.below (Below.refl _ V).drew;have HST:=Ci f;have lY:=Ci (m.below (Below.refl _ V).drew);have jI:Hid (B<=V.drew.heap.size):=CB g j.size;have ig:Hid (Below B w V.drew):=j.drew.mono g;simp only[SN.agg] at kK;clear u I y hS S D U f l A m O j
 exact zba
