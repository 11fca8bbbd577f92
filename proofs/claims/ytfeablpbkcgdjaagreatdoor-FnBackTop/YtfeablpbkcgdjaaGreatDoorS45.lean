import Derived.Test.YtfeablpbkcgdjaaGreatDoorK21
import Derived.Test.YtfeablpbkcgdjaaGreatDoorG3
set_option maxHeartbeats 8000000
set_option maxRecDepth 100000
namespace Go.Proofs.YtfeablpbkcgdjaaGreatDoor
open Tryz Stil Go.RowKit Go.Sort Go.BigFrame
theorem tn (n:Stil.B1)(Z:Gi n)(A:Bi n)(O:Stil.BG n<=400):KW 79 n (Be n):=by
 intro P E w bs ts h l r;have H:=UZ Z;have D:Hid (∀y∈Bh n,QL 2 y (D5 2 y)):=by
  intro y c;have C:Aj y=0/\Bi y/\Ac y<=400:=by
   have h3:=LQ n y c;unfold Bh at c;split at c
   .cases c
   .rename_i N
    have ae:=Z.resolve_left N;split at c
    .exact⟨Lc ae.2.2 y c,(Dw A).2.2.2 y c,AU⟩
    .rw[List.mem_singleton.1 c] at h3 ⊢;exact⟨ae.2.2,A,AU⟩
  exact XK 2 (.inl rfl) y (Dw C.2.1).2.1.2.1 (by have:=PE y C.1;omega) λ_=>QA y (PS y C.1) C.2.1 (CB C.2.2 AZ)
 have x:=Ci (λW (h:Below w.heap.size w W)=>Xq n P E W (l.below h) (r.below h) A);have Q:=Ci (λW (h:Below w.heap.size w W)=>l.below h);have J:=Ci (λW (h:Below w.heap.size w W)=>r.below h);have q:Hid (Bh n=if Ai n then [] else if n.kind=2 then n.kids else [n]):=rfl;have g:Hid (Be n=((Bh n).map (D5 2)).flatten):=rfl;have hS:=h.alloc (.cells #[.int .i64 n.kind, .int .i64 n.one.op,P,E] 54);obtain⟨I,K,rfl,-⟩:=l;obtain⟨R,F,rfl,-⟩:=r;have ai:n.kids.length<=1048576:=(Dw A).2.2.1;clear Z A h;obtain⟨S,af⟩:∃S,S=Ai n:=⟨_,rfl⟩
 rw[<-af] at x q;clear af;cases S with
 | true=>
  have ag:Hid (Be n=[]):=by show _=_;rw[g.out,q.out];rfl
  rw[ag.out];clear q g D Q J H;go_enter func79,ntmps79
  go_wp2_with (go_at_call 53;refine(x _ AX).mono ?_;rintro e f ⟨rfl,t⟩;replace hS:=hS.bel t)
  go_ret;exact⟨none,0,[],rfl,World.ownsRow_nil _ _ _ _,hS.nil,AX⟩
 | false=>
  by_cases h2:n.kind=2
  .have u:Hid (Bh n=n.kids):=by show _=_;rw[q.out,if_neg AZ,if_pos h2]
   rw[u.out] at g D;rw[g.out];rw[h2] at x hS ⊢;have bV:Hid (∀j,((n.kids.take j).map (D5 2)).flatten.length<=800):=by
    intro j;rw[g.out] at H;have h2:((n.kids.take j).map (D5 2)).flatten.length<=(n.kids.map (D5 2)).flatten.length:=by
     conv=>rhs;rw[<-Ft j n.kids,CX,ET,CO]
     omega
    omega
   obtain⟨m,Y⟩:∃m,m=n.kids.length:=⟨_,rfl⟩
   have lX:=Ci Y;rw[<-Y] at x ai hS ⊢;clear q g u H h2 Y Q;have hA:=hS;clear hS;go_enter func79,ntmps79
   go_wp2_with (go_at_call 53;refine(x _ AX).mono ?_;rintro e f ⟨rfl,t⟩;have hS:=hA.bel t;obtain⟨G,q0,p0,q1,p1,q2,p2,q3,p3⟩:CW f w.heap.size (.int .i64 2) (.int .i64 n.one.op) (.slice I n.one.args.length K) (.slice R m F):=qB4)
   have bM:RowKit.Below w.heap.size w f:=AX;have hb0:CW f w.heap.size (.int .i64 2) (.int .i64 n.one.op) (.slice I n.one.args.length K) (.slice R m F):=qN4;clear q0 q1 q2 q3 p0 p1 p2 p3 t hA;go_loopw [3,4] (λd i wr=>∃(j:Nat) (L:List Stil.Dj) (ra:Option Addr) (rc:Nat) (xs:List Value),j<=m/\i=.int .i64 (j:Int)/\Hid (L=((n.kids.take j).map (D5 2)).flatten)/\L.length<=800/\d=.slice ra L.length rc/\CW wr w.heap.size (.int .i64 2) (.int .i64 n.one.op) (.slice I n.one.args.length K) (.slice R m F)/\wr.ownsRow (w.heap.size+1) 66 3 (.slice ra L.length rc) L.length xs/\Sv wr (ob (.slice ra L.length rc)++bs) ((Qx L,xs)::ts)/\Below w.heap.size w wr) (λ_ i _=>m - (intOf i).toNat)
   case atStart=>
    refine⟨0,[],some ⟨f.heap.size,0,none⟩,0,[],AU,rfl,by show _=_;simp,AW,rfl,hb0.bel (Aa _ _),?_,(hS.box _).nil,AX⟩;have:=World.ownsRow_lit (base:=w.heap.size+1) (e:=66) (size:=3) f #[] 0 G BI rfl
    simpa using this
   case round=>
    clear hb0 hS bM G;obtain⟨j,L,ra,rc,xs,hj,rfl,HL,iG,rfl,hb0,hown,hS,hB⟩:=hrel;by_cases ak:j<m
    .have T:j<n.kids.length:=by have:=lX.out;omega
     obtain⟨pa,pc,aa,ac⟩:=J wr hB;simp only[Value.slice.injEq] at aa;obtain⟨rfl,-,rfl⟩:=aa;obtain⟨b,o,rfl,aH,N⟩:=ac j T;obtain⟨x0,x1,P,E,x2,x3,l,r⟩:=N.open;have z:=Ci (λW (h:Below wr.heap.size wr W) U V O=>D n.kids[j] (CG T) P E W U V O (l.below h) (r.below h));have aF:Hid (((n.kids.take (j+1)).map (D5 2)).flatten=L++D5 2 n.kids[j]):=by
      show _=_
      rw[HL.out,DO T,CX,ET];simp
     have hl2:=bV (j+1);rw[aF.out] at hl2;obtain⟨M,B⟩:∃M,M=D5 2 n.kids[j]:=⟨_,rfl⟩
     rw[<-B] at z aF hl2;obtain⟨y,c⟩:∃y,y=n.kids[j]:=⟨_,rfl⟩
     rw[<-c] at z x0 x1 l r;obtain⟨u0,m0,rfl,-⟩:=l;obtain⟨u1,m1,rfl,-⟩:=r;have ap:(0:Int)<=(j:Int):=AU
     have al:(j:Int)<(m:Int):=AU
     have aj:L.length+M.length<=2000000:=by rw[CO] at hl2;omega
     have HJ:Hid (j+1<=m):=ak;clear c B N ac HL;obtain⟨G,q0,p0,q1,p1,q2,p2,q3,p3⟩:=id hb0
     go_wp2_with (first | (go_at_call 78;refine(z _ AX _ _ hS).mono ?_;rintro e w2 ⟨a2,c2,ys,rfl,X,hS,s⟩;have ao:=s.size;replace hown:=ownsRow_below hown s) | (at_builtin;go_loud (refine Bd rfl rfl (Ut _ hS hown X AU aj) rfl rfl ?_;rintro v3 w3 ⟨a3,c3,zs,rfl,hown3,hS3,ad⟩;replace hb0:=(hb0.bel s).gr ad (λe=>by have:=(hown.lt _ e).1;omega);have hB3:=(Au hB s).grown ad AU (λk hk=>by have:=(hown.lt _ hk).1;omega))))
     exact zGa
    .exact za0
  .have u:Hid (Bh n=[n]):=by show _=_;rw[q.out,if_neg AZ,if_neg h2]
   have HL:Hid (Be n=D5 2 n):=by show _=_;rw[g.out,u.out];simp
   rw[HL.out];have z:=Ci (λW (h:Below w.heap.size w W) U V O=>D n (by rw[u.out];exact .head _) _ _ W U V O (Q W h) (J W h));obtain⟨M,B⟩:∃M,M=D5 2 n:=⟨_,rfl⟩
   rw[<-B] at z ⊢;have an:(n.kind==2)=false:=by rw[CJ];exact h2
   clear q g u D H Q J B HL;go_enter func79,ntmps79
   go_wp2_with (first | (go_at_call 53;refine(x _ AX).mono ?_;rintro e f ⟨rfl,t⟩;replace hS:=hS.bel t;obtain⟨G,q0,p0,q1,p1,q2,p2,q3,p3⟩:CW f w.heap.size (.int .i64 n.kind) (.int .i64 n.one.op) (.slice I n.one.args.length K) (.slice R n.kids.length F):=qB4;have ab:RowKit.Below w.heap.size w f:=AX) | (go_at_call 78;refine(z _ AX _ _ hS).mono ?_;rintro e w2 ⟨a2,c2,ys,rfl,X,ah,s⟩))
   go_ret;exact⟨a2,c2,ys,rfl,Joins.ownsRow_le X ab.size,ah,Au ab s⟩
end Go.Proofs.YtfeablpbkcgdjaaGreatDoor
namespace Stil
theorem od (kids:List B5)(j:Nat)(h:j<kids.length):((kids.mapIdx (λi a=>Ho kids.length i a)).take (j+1)).flatten=((kids.mapIdx (λi a=>Ho kids.length i a)).take j).flatten++(Eb kids.length j++(Be kids[j].net++Bj kids[j])):=by
 rw[DO Br,ET];simp[Ho,F4]
end Stil
namespace Go.Proofs.YtfeablpbkcgdjaaGreatDoor
open Tryz Stil Go.RowKit Go.Sort Go.BigFrame
theorem CU.keep {w W:World}{b:Nat}{v0 j f i g k:Value}(h:CU w b v0 j f i g k)(v:∀c,c<=b->W.heap[c]?=w.heap[c]?):CU W b v0 j f i g k:=by
 obtain⟨z,r,x,s,l,y,t,n,m,p,q,A,u⟩:=h;have e:=v b (B7 _);have d:∀o,W.cell? ⟨b,o,none⟩=w.cell? ⟨b,o,none⟩:=λo=>World.cell?_of_block e
 have a:∀o,W.frozen? ⟨b,o,none⟩=w.frozen? ⟨b,o,none⟩:=λo=>World.frozen?_of_block e
 refine⟨?_,(d 0).trans r,(a 0).trans x,(d 1).trans s,(a 1).trans l,(d 2).trans y,(a 2).trans t,(d 3).trans n,(a 3).trans m,(d 4).trans p,(a 4).trans q,(d 5).trans A,(a 5).trans u⟩;exact(Array.getElem?_eq_some_iff.1 (e.trans (Hv z))).1
def QM (F:FuncId)(x:Stil.B5)(L:List Stil.Dj):Prop:=∀(b d f e:Value) (w:World) (a:List Nat) (c:List (List Tr × List Value)),Sv w a c->Ak w b x.net.one.args->Eo w d x.net.kids->F6 w f x.coils->Dc w e x.kids->Calls prog F #[.agg #[.int .i64 x.net.kind, .int .i64 x.net.one.op,b,d,f,e]] w (FI Wj 3 66 L w a c)
theorem cA (a:Stil.B5):Ep a->Ba a->Ah a<=400->QM 48 a (Bj a):=by
 induction a using Fb with
 | h n g kids ih=>
  intro ai ak M av nv cv kv w bs ts h v N K O;simp only at v N K O;have ad:=WU _ ai;rw[Dp] at M ad;obtain⟨_,dI⟩:=(D8 _ _ _).1 ai;obtain⟨_,_,al,_,oG⟩:=(Eu _ _ _).1 ak;have af:∀x∈kids,Ah x<=400:=λx s=>by have:Ah x<=H5 kids:=Em Ah kids x s;omega
  have aG:kids.length<=400:=by have:=Nu kids;omega
  have aE:g.length<=400:=AU
  have IH:=Ci (λx (s:x∈kids)=>ih x s (dI x s) (oG x s) (af x s));have ry:Hid (∀x∈kids,KW 79 x.net (Be x.net)):=by
   intro x s;have h1:=dI x s;have h2:=af x s;have h3:=oG x s;obtain⟨xn,xc,xk⟩:=x;rw[Dp] at h2;exact tn xn ((D8 _ _ _).1 h1).1 ((Eu _ _ _).1 h3).1 AU
  have dP:=Ci (λW (h:Below w.heap.size w W)=>O.below h);have yA:=Ci (λW (h:Below w.heap.size w W)=>K.below h);have qK:=Ci (λe (he:e∈g)=>OS e (al e he).2.1);rw[U5] at ad ⊢;have bV:Hid (∀j,(Gj g++((kids.mapIdx (λi a=>Ho kids.length i a)).take j).flatten).length<=800):=by
   intro j;have h2:((kids.mapIdx (λi a=>Ho kids.length i a)).take j).flatten.length<=(kids.mapIdx (λi a=>Ho kids.length i a)).flatten.length:=by
    conv=>rhs;rw[<-Ft j (kids.mapIdx (λi a=>Ho kids.length i a)),ET,CO]
    omega
   rw[CO] at ad ⊢;omega
  have hA:=h.alloc (.cells #[.int .i64 n.kind, .int .i64 n.one.op,av,nv,cv,kv] 60);obtain⟨s0,n0,rfl,-⟩:=v;obtain⟨s1,n1,rfl,-⟩:=N;obtain⟨s2,n2,rfl,-⟩:=K;obtain⟨s3,n3,rfl,-⟩:=O;clear ih af dI ai ak al oG ad h;go_enter func48,ntmps48
  go_wp2
  go_loopw [3,4] (λd i wr=>∃(j:Nat) (L:List Stil.Dj) (y:Option Addr) (u:Nat) (C:List Value),j<=g.length/\i=.int .i64 (j:Int)/\Hid (L=Gj (g.take j))/\L.length<=800/\d=.slice y L.length u/\CU wr w.heap.size (.int .i64 n.kind) (.int .i64 n.one.op) (.slice s0 n.one.args.length n0) (.slice s1 n.kids.length n1) (.slice s2 g.length n2) (.slice s3 kids.length n3)/\wr.ownsRow (w.heap.size+1) 66 3 (.slice y L.length u) L.length C/\Sv wr (ob (.slice y L.length u)++bs) ((Qx L,C)::ts)/\Below w.heap.size w wr) (λ_ i _=>g.length - (intOf i).toNat)
  case atStart=>
   refine⟨0,[],some ⟨w.heap.size+1,0,none⟩,0,[],AU,rfl,by show _=_;simp[Gj],AW,rfl,qN6,?_,by have:=(hA.box (.cells #[] 66)).nil;rw[World.size_alloc] at this;exact this,AX⟩;have:=World.ownsRow_lit (base:=w.heap.size+1) (e:=66) (size:=3) (w.alloc (.cells #[.int .i64 n.kind, .int .i64 n.one.op, .slice s0 n.one.args.length n0, .slice s1 n.kids.length n1, .slice s2 g.length n2, .slice s3 kids.length n3] 60)) #[] 0 AW BI rfl
   simpa using this
  case round=>
   clear hA;obtain⟨j,L,y,u,C,hj,rfl,A,iG,rfl,t,f,hS,l⟩:=hrel;by_cases z:j<g.length
   .obtain⟨pa,pc,S,Z⟩:=yA wr l
    simp only[Value.slice.injEq,true_and] at S;obtain⟨rfl,rfl⟩:=S;obtain⟨b,o,rfl,ag,hn⟩:=Z j z;obtain⟨x0,av,x1,v⟩:=hn;have R:=Ci (λW (h:Below wr.heap.size wr W) az us M=>qK g[j] (CG z) av W az us M (v.below h));have D:Hid (Gj (g.take (j+1))=L++[(⟨10,g[j]⟩:Stil.Dj)]):=by
     show _=_
     rw[A.out];unfold Gj;rw[DO z,CX];rfl
    have E:(L++[(⟨10,g[j]⟩:Stil.Dj)]).length<=800:=by rw[<-D.out,Gj,CP,Fo];omega
    obtain⟨ac,hy⟩:∃ac,ac=g[j]:=⟨_,rfl⟩
    rw[<-hy] at R D E x0 v;obtain⟨u0,m0,rfl,-⟩:=v;have au:(j:Int)<(g.length:Int):=AU
    have J:Hid (j+1<=g.length):=z;clear hy Z A;obtain⟨aj,q0,p0,q1,p1,q2,p2,q3,p3,q4,p4,X,p5⟩:=id t
    go_wp2_with (first | (go_at_call 77;refine(R _ (Below.refl _ _) _ _ hS).mono ?_;rintro e w2 ⟨a2,c2,rfl,hS,q⟩;replace f:=ownsRow_below f q;have aH:=q.size) | (at_builtin;go_loud (refine Bd rfl rfl (XH (x:=ac) _ hS f AU AU) rfl rfl ?_;rintro v3 w3 ⟨U,Y,zs,rfl,I,aB,r⟩;replace t:=(t.bel q).gr r (λe=>by have:=(f.lt _ e).1;omega);have ax:=(Au l q).grown r AU (λk H=>by have:=(f.lt _ H).1;omega))))
    exact⟨⟨j+1,L++[(⟨10,ac⟩:Stil.Dj)],U,Y,zs,J.out,by go_num,D.symm,E,AW,t,I,aB,ax⟩,by have ay:=J.out;clear J;simp[intOf];omega⟩
   .obtain rfl:j=g.length:=by omega
    have G:=A.out;rw[IY] at G;have ae:=Ci G;obtain⟨aj,q0,p0,q1,p1,q2,p2,q3,p3,q4,p4,X,p5⟩:=id t;obtain⟨wo,aC⟩:∃wo:World,wo=wr:=⟨wr,rfl⟩
    subst aC;clear A G yA qK
    go_wp2
    go_loopw [3,6] (λd i wr=>∃(j:Nat) (L:List Stil.Dj) (y:Option Addr) (u:Nat) (C:List Value),j<=kids.length/\i=.int .i64 (j:Int)/\Hid (L=Gj g++((kids.mapIdx (λi a=>Ho kids.length i a)).take j).flatten)/\L.length<=800/\d=.slice y L.length u/\CU wr w.heap.size (.int .i64 n.kind) (.int .i64 n.one.op) (.slice s0 n.one.args.length n0) (.slice s1 n.kids.length n1) (.slice s2 g.length n2) (.slice s3 kids.length n3)/\wr.ownsRow (w.heap.size+1) 66 3 (.slice y L.length u) L.length C/\Sv wr (ob (.slice y L.length u)++bs) ((Qx L,C)::ts)/\Below w.heap.size w wr) (λ_ i _=>kids.length - (intOf i).toNat)
    case atStart=>exact⟨0,L,y,u,C,AU,rfl,by show _=_;rw[ae.out];simp,iG,rfl,t,f,hS,l⟩
    case round=>
     clear t f hS l ae iG q0 q1 q2 q3 q4 X p0 p1 p2 p3 p4 p5 aj;obtain⟨j,L,y,u,C,hj,rfl,A,iG,rfl,t,f,hS,l⟩:=hrel;by_cases z:j<kids.length
     .obtain⟨pa,pc,S,Z⟩:=dP w (Below.refl _ _)
      simp only[Value.slice.injEq,true_and] at S;obtain⟨rfl,rfl⟩:=S;obtain⟨b,o,rfl,ag,hn⟩:=Z j z;obtain⟨ao,aD,nU,y4,y5,K,O⟩:=hn.open;obtain⟨y0,y1,dU,dW,y2,y3,v,N⟩:=ao.open;have R:=Ci (λW (h:Below w.heap.size w W) g us M=>IH kids[j] (CG z) dU dW aD nU W g us M (v.below h) (N.below h) (K.below h) (O.below h));have mF:=Ci (λW (h:Below w.heap.size w W) g us M=>ry kids[j] (CG z) dU dW W g us M (v.below h) (N.below h));have D:Hid (Gj g++((kids.mapIdx (λi a=>Ho kids.length i a)).take (j+1)).flatten=L++(Eb kids.length j++(Be kids[j].net++Bj kids[j]))):=by
       show _=_
       rw[A.out,od kids j z,C6]
      have E:=bV (j+1);rw[D.out] at E;simp only[CO] at E;obtain⟨ap,hM⟩:∃ap,ap=Be kids[j].net:=⟨_,rfl⟩
      obtain⟨an,hK⟩:∃an,an=Bj kids[j]:=⟨_,rfl⟩
      rw[<-hM] at mF D E;rw[<-hK] at R D E;obtain⟨x,s⟩:∃x,x=kids[j]:=⟨_,rfl⟩
      rw[<-s] at R mF y0 y1 v N K O;obtain⟨u0,m0,rfl,-⟩:=v;obtain⟨u1,m1,rfl,-⟩:=N;obtain⟨u2,m2,rfl,-⟩:=K;obtain⟨u3,m3,rfl,-⟩:=O;have P:Hid (∀V:World,(∀c,c<=w.heap.size->V.heap[c]?=wr.heap[c]?)->V.cell? ⟨w.heap.size,5,none⟩=some (.slice (some ⟨b,o,none⟩) kids.length n3)/\V.cell? ⟨b,o+j*6,none⟩=some (.int .i64 x.net.kind)/\V.cell? ⟨b,o+j*6+1,none⟩=some (.int .i64 x.net.one.op)/\V.cell? ⟨b,o+j*6+2,none⟩=some (.slice u0 x.net.one.args.length m0)/\V.cell? ⟨b,o+j*6+3,none⟩=some (.slice u1 x.net.kids.length m1)/\V.cell? ⟨b,o+j*6+4,none⟩=some (.slice u2 x.coils.length m2)/\V.cell? ⟨b,o+j*6+5,none⟩=some (.slice u3 x.kids.length m3)):=λV hV=>by
       obtain⟨_,_,_,_,_,_,_,_,_,_,_,X,_⟩:=id t;have e0:=hV _ (B7 _);have F:V.heap[b]?=w.heap[b]?:=(hV b (GK ag)).trans (l.block b ag);exact⟨(World.cell?_of_block (a:=⟨w.heap.size,5,none⟩) e0).trans X,(World.cell?_of_block (a:=⟨b,_,none⟩) F).trans y0,(World.cell?_of_block (a:=⟨b,_,none⟩) F).trans y1,(World.cell?_of_block (a:=⟨b,_,none⟩) F).trans y2,(World.cell?_of_block (a:=⟨b,_,none⟩) F).trans y3,(World.cell?_of_block (a:=⟨b,_,none⟩) F).trans y4,(World.cell?_of_block (a:=⟨b,_,none⟩) F).trans y5⟩
      have m:∀c,c<=w.heap.size->wr.heap[c]?=wr.heap[c]?:=λ_ _=>rfl
      obtain⟨g0,g1,g2,g3,g4,T,g6⟩:=P wr m;have hz:=t.1;have aw:=Ci t;have au:(j:Int)<(kids.length:Int):=AU
      have aI:(0:Int)<=(j:Int):=AU
      have J:Hid (j+1<=kids.length):=z;have wX:IntKind.i64.wrap ((kids.length:Int) - 1)=(kids.length:Int) - 1:=by rw[IntKind.wrap_i64];omega
      have aA:(kids.length=1/\Eb kids.length j=[]/\((kids.length:Int)==1)=true)\/(((kids.length:Int)==1)=false/\((Eb kids.length j=[Hg 7]/\((j:Int)==0)=true)\/(((j:Int)==0)=false/\((Eb kids.length j=[Hg 9]/\((j:Int)==(kids.length:Int) - 1)=true)\/(Eb kids.length j=[Hg 8]/\((j:Int)==(kids.length:Int) - 1)=false))))):=by
       by_cases Q:kids.length=1
       .exact .inl ⟨Q,by simp[Eb,Q],by simp[Q]⟩
       .refine .inr ⟨by rw[CJ];omega,?_⟩
        by_cases ab:j=0
        .exact .inl ⟨by simp[Eb,Q,ab],by simp[ab]⟩
        .refine .inr ⟨by rw[CJ];omega,?_⟩
         by_cases ar:j+1=kids.length
         .exact .inl ⟨by simp[Eb,Q,ab,ar],by rw[D3];omega⟩
         .exact .inr ⟨by simp[Eb,Q,ab,ar],by rw[CJ];omega⟩
      clear s hn ao Z A hM hK y0 y1 y2 y3 y4 y5 bV dP IH ry t;rcases aA with⟨-,aa,F⟩ | ⟨F,⟨aa,e2⟩ | ⟨e2,⟨aa,e3⟩ | ⟨aa,e3⟩⟩⟩
      all_goals
       rw[aa] at D E;simp only[CC,CM] at E;clear aa;go_upto_region 16 with(at_builtin;go_loud (refine Bd rfl rfl (K5 _ hS f hz AU) rfl rfl ?_;rintro v3 w3 ⟨U,Y,zs,rfl,I,hS,r⟩;replace m:=(λc (B:c<=w.heap.size)=>(r.block c AU (λe=>by have:=(f.lt _ e.symm).1;omega)).trans (m c B));replace l:=l.grown r AU (λk H=>by have:=(f.lt _ H).1;omega);replace hz:=B8 hz r.size;replace f:=I;obtain⟨g0,g1,g2,g3,g4,T,g6⟩:=P w3 m))
       go_upto_region 17 with(first | (go_at_call 79;go_loud (refine(mF _ l _ _ hS).mono ?_;rintro e w2 ⟨a2,c2,ys,rfl,ah,hS,q⟩;replace m:=(λc (B:c<=w.heap.size)=>(q.block c AU).trans (m c B));replace f:=ownsRow_below f q;replace l:=Au l q;replace hz:=B8 hz q.size;obtain⟨g0,g1,g2,g3,g4,T,g6⟩:=P w2 m)) | (at_builtin;go_loud (refine Bd rfl rfl (Ut _ hS f ah hz (by(try simp only[CO,CC,CM]);omega)) yBg rfl ?_;rintro v3 w3 ⟨U,Y,zs,rfl,I,hS,r⟩;replace m:=(λc (B:c<=w.heap.size)=>(r.block c AU (λe=>by have:=(f.lt _ e.symm).1;omega)).trans (m c B));replace l:=l.grown r AU (λk H=>by have:=(f.lt _ H).1;omega);replace hz:=B8 hz r.size;replace f:=I;obtain⟨g0,g1,g2,g3,g4,T,g6⟩:=P w3 m)))
       go_wp2_with (first | (go_at_call 48;go_loud (refine(R _ l _ _ hS).mono ?_;rintro e w2 ⟨a2,c2,ys,rfl,ah,hS,q⟩;replace m:=(λc (B:c<=w.heap.size)=>(q.block c AU).trans (m c B));replace f:=ownsRow_below f q;replace l:=Au l q;replace hz:=B8 hz q.size;obtain⟨g0,g1,g2,g3,g4,T,g6⟩:=P w2 m)) | (at_builtin;go_loud (refine Bd rfl rfl (Ut _ hS f ah hz (by(try simp only[CO,CC,CM]);omega)) yBg rfl ?_;rintro v3 w3 ⟨U,Y,zs,rfl,I,hS,r⟩;replace m:=(λc (B:c<=w.heap.size)=>(r.block c AU (λe=>by have:=(f.lt _ e.symm).1;omega)).trans (m c B));replace l:=l.grown r AU (λk H=>by have:=(f.lt _ H).1;omega);replace hz:=B8 hz r.size;replace f:=I;obtain⟨g0,g1,g2,g3,g4,T,g6⟩:=P w3 m)))
       exact⟨⟨j+1,_,U,Y,zs,J.out,by go_num,by show _=_;rw[D.out];simp,by simp only[CO,CC,CM];omega,by first | rfl | simp[Nat.add_assoc],aw.keep m,f,hS,l⟩,by have ay:=J.out;clear J;simp[intOf];omega⟩
     .obtain rfl:j=kids.length:=by omega
      have G:=A.out;rw[EC AW] at G;have ae:=Ci G;obtain⟨_,q0,p0,q1,p1,q2,p2,q3,p3,q4,p4,X,p5⟩:=t;clear A G
      go_wp2
      go_ret;rw[<-ae.out];exact⟨y,u,C,rfl,Joins.ownsRow_le f (IX _),hS,l⟩
theorem lM (l:List Stil.B5)(kv:Value)(w:World)(bs:List Nat)(ts:List (List Tr × List Value))(ao:Sv w bs ts)(D:Dc w kv l)(hl:l.length<=1048576)(an:Bc l<=1000000000)(H:∀x∈l,Ba x):
  Calls prog 20 #[kv] w (FI Wj 3 66 (E5 l) w bs ts):=by
 have Z:=Ci (λW (h:Below w.heap.size w W)=>U9 l kv W (D.below h) hl an H);obtain⟨fU,iU,kG⟩:=Jb H;have S:Hid (∀x∈Af l,KW 47 x.net (C9 x.net)/\QM 48 x (Bj x)):=by
  intro x y;by_cases h0:(Am l).1=0
  .have hr:=(Oh H h0).1 x y
   have ai:=fU x y;have C:=hr.size;refine⟨?_,cA x hr.fineA ai C⟩;have h1:=hr.net;obtain⟨xn,xc,xk⟩:=x;rw[Dp] at C;refine QA xn (PS xn h1.2.2) ((Eu _ _ _).1 ai).1 ?_;have:=Stil.size_le xn
   omega
  .rw[show Af l=[] by unfold Af;rw[if_neg h0]] at y
   cases y
 have bV:Hid (∀j,(((Af l).map Ef).take j).flatten.length<=800):=by
  intro j;have h1:=Va H;unfold E5 at h1;have h2:(((Af l).map Ef).take j).flatten.length<=((Af l).map Ef).flatten.length:=by
   conv=>rhs;rw[<-Ft j ((Af l).map Ef),ET,CO]
   omega
  omega
 have vT:Hid (E5 l=((Af l).map Ef).flatten):=rfl;rw[vT.out];obtain⟨s,z⟩:∃L,L=Af l:=⟨_,rfl⟩
 rw[<-z] at Z S bV kG ⊢;obtain⟨s0,n0,rfl,-⟩:=D;clear z vT fU iU H;go_enter func20,ntmps20
 go_wp2_with (go_at_call 9;refine(Z _ AX).mono ?_;rintro e f ⟨⟨a1,c1,rfl,ah⟩,aa⟩;have dP:=Ci (Qi.at ah);clear ah;have af:=ao.bel aa)
 go_loopw [4,5] (λd i wr=>∃(j:Nat) (L:List Stil.Dj) (O:Option Addr) (E:Nat) (T:List Value),j<=s.length/\i=.int .i64 (j:Int)/\Hid (L=((s.map Ef).take j).flatten)/\L.length<=800/\d=.slice O L.length E/\wr.ownsRow f.heap.size 66 3 (.slice O L.length E) L.length T/\Sv wr (ob (.slice O L.length E)++bs) ((Qx L,T)::ts)/\Below f.heap.size f wr) (λ_ i _=>s.length - (intOf i).toNat)
 case atStart=>
  refine⟨0,[],some ⟨f.heap.size,0,none⟩,0,[],AU,rfl,by show _=_;simp,AW,rfl,?_,(af.box _).nil,Aa f _⟩;have:=World.ownsRow_lit (base:=f.heap.size) (e:=66) (size:=3) f #[] 0 (B7 _) BI rfl
  simpa using this
 case round=>
  clear af;obtain⟨j,L,O,E,T,hj,rfl,R,iG,rfl,g,hS,m⟩:=hrel;by_cases hlt:j<s.length
  .obtain⟨pa,pc,ae,ag⟩:=dP.out
   simp only[Value.slice.injEq,true_and] at ae;obtain⟨rfl,rfl⟩:=ae;obtain⟨b,o,rfl,ac,hn⟩:=ag j hlt;obtain⟨ak,ar,nU,y4,y5,ab,D⟩:=hn.open;obtain⟨y0,y1,dU,dW,y2,y3,Q,X⟩:=ak.open;have HI:=Ci (λW (h:Below f.heap.size f W) cs us C=>(S s[j] (CG hlt)).2 dU dW ar nU W cs us C (Q.below h) (X.below h) (ab.below h) (D.below h));have mF:=Ci (λW (h:Below f.heap.size f W) cs us C=>(S s[j] (CG hlt)).1 dU dW W cs us C (Q.below h) (X.below h));have U:Hid (((s.map Ef).take (j+1)).flatten=L++(C9 s[j].net++(Bj s[j]++[Hg 11]))):=by
    show _=_
    rw[R.out,DO BU,ET];simp[Ef]
   have Y:=bV (j+1);rw[U.out] at Y;simp only[CO,CC,CM] at Y;obtain⟨al,hM⟩:∃al,al=C9 s[j].net:=⟨_,rfl⟩
   obtain⟨aj,hK⟩:∃aj,aj=Bj s[j]:=⟨_,rfl⟩
   rw[<-hM] at mF U Y;rw[<-hK] at HI U Y;obtain⟨x,y⟩:∃x,x=s[j]:=⟨_,rfl⟩
   rw[<-y] at HI mF y0 y1 Q X ab D;obtain⟨u0,m0,rfl,-⟩:=Q;obtain⟨u1,m1,rfl,-⟩:=X;obtain⟨u2,m2,rfl,-⟩:=ab;obtain⟨u3,m3,rfl,-⟩:=D;have A:Hid (∀V:World,(∀c,c<f.heap.size->V.heap[c]?=wr.heap[c]?)->V.cell? ⟨b,o+j*6,none⟩=some (.int .i64 x.net.kind)/\V.cell? ⟨b,o+j*6+1,none⟩=some (.int .i64 x.net.one.op)/\V.cell? ⟨b,o+j*6+2,none⟩=some (.slice u0 x.net.one.args.length m0)/\V.cell? ⟨b,o+j*6+3,none⟩=some (.slice u1 x.net.kids.length m1)/\V.cell? ⟨b,o+j*6+4,none⟩=some (.slice u2 x.coils.length m2)/\V.cell? ⟨b,o+j*6+5,none⟩=some (.slice u3 x.kids.length m3)):=λV hV=>by
    have B:V.heap[b]?=f.heap[b]?:=(hV b ac).trans (m.block b ac);exact⟨(World.cell?_of_block (a:=⟨b,_,none⟩) B).trans y0,(World.cell?_of_block (a:=⟨b,_,none⟩) B).trans y1,(World.cell?_of_block (a:=⟨b,_,none⟩) B).trans y2,(World.cell?_of_block (a:=⟨b,_,none⟩) B).trans y3,(World.cell?_of_block (a:=⟨b,_,none⟩) B).trans y4,(World.cell?_of_block (a:=⟨b,_,none⟩) B).trans y5⟩
   have r:∀c,c<f.heap.size->wr.heap[c]?=wr.heap[c]?:=λ_ _=>rfl
   obtain⟨N,M,J,K,F,P⟩:=A wr r;have q:=m.size;have au:(j:Int)<(s.length:Int):=AU
   have av:(0:Int)<=(j:Int):=AU
   have HJ:Hid (j+1<=s.length):=hlt;clear y hn ak ag R hM hK y0 y1 y2 y3 y4 y5 bV S dP Z ac;go_upto_region 7 with(first | (go_at_call 47;go_loud (refine(mF _ m _ _ hS).mono ?_;rintro e w2 ⟨a2,c2,ys,rfl,ad,hS,u⟩;replace r:=(λc (v:c<f.heap.size)=>(u.block c AU).trans (r c v));replace g:=ownsRow_below g u;replace m:=Au m u;replace q:=CB q u.size;obtain⟨N,M,J,K,F,P⟩:=A w2 r)) | (at_builtin;go_loud (refine Bd rfl rfl (Ut _ hS g ad q (by(try simp only[CO,CC,CM]);omega)) yBg rfl ?_;rintro v3 w3 ⟨a3,c3,zs,rfl,I,hS,t⟩;replace r:=(λc (v:c<f.heap.size)=>(t.block c AU (λe=>by have:=(g.lt _ e.symm).1;omega)).trans (r c v));replace m:=m.grown t q (λk G=>(g.lt _ G).1);replace q:=CB q t.size;replace g:=I;obtain⟨N,M,J,K,F,P⟩:=A w3 r)))
   go_upto_region 8 with(first | (go_at_call 48;go_loud (refine(HI _ m _ _ hS).mono ?_;rintro e w2 ⟨a2,c2,ys,rfl,ad,hS,u⟩;replace r:=(λc (v:c<f.heap.size)=>(u.block c AU).trans (r c v));replace g:=ownsRow_below g u;replace m:=Au m u;replace q:=CB q u.size;obtain⟨N,M,J,K,F,P⟩:=A w2 r)) | (at_builtin;go_loud (refine Bd rfl rfl (Ut _ hS g ad q (by(try simp only[CO]);omega)) yBg rfl ?_;rintro v3 w3 ⟨a3,c3,zs,rfl,I,hS,t⟩;replace r:=(λc (v:c<f.heap.size)=>(t.block c AU (λe=>by have:=(g.lt _ e.symm).1;omega)).trans (r c v));replace m:=m.grown t q (λk G=>(g.lt _ G).1);replace q:=CB q t.size;replace g:=I;obtain⟨N,M,J,K,F,P⟩:=A w3 r)))
   go_wp2_with (at_builtin;go_loud (refine Bd rfl rfl (K5 _ hS g q (by(try simp only[CO]);omega)) (by first | rfl | (simp[Act.eval];done) | (simp[Act.eval,Nat.add_assoc];done)) rfl ?_;rintro v3 w3 ⟨a3,c3,zs,rfl,I,hS,t⟩;replace r:=(λc (v:c<f.heap.size)=>(t.block c AU (λe=>by have:=(g.lt _ e.symm).1;omega)).trans (r c v));replace m:=m.grown t q (λk G=>(g.lt _ G).1);replace q:=CB q t.size;replace g:=I;obtain⟨N,M,J,K,F,P⟩:=A w3 r))
   exact⟨⟨j+1,_,a3,c3,zs,HJ.out,by go_num,by show _=_;rw[U.out];simp,by simp only[CO,CC,CM];omega,by first | rfl | simp,g,hS,m⟩,by have aw:=HJ.out;clear HJ;simp[intOf];omega⟩
  .obtain rfl:j=s.length:=by omega
   have z:=R.out;rw[EC AW] at z;have ap:=Ci z;clear R z
   go_wp2
   go_ret;rw[<-ap.out];exact⟨O,E,T,rfl,Joins.ownsRow_le g aa.size,hS,Au aa m⟩
theorem zza {p:Prop}(h:p:=by
 refine bodyPost_ret (v:=.tuple #[.slice none 0 0, .int .i64 2]) (by simp[results,results6,go_sem]) rfl ⟨none,0,[],rfl,World.ownsRow_nil _ _ _ _,(hS.bel AX).nil,AX⟩):p:=h
theorem pT (l:List Stil.B5)(b:Value)(w:World)(bs:List Nat)(ts:List (List Tr × List Value))(hS:Sv w bs ts)(i:Dc w b l)(hl:l.length<=1048576)(f:Bc l<=1000000000)(g:∀x∈l,Ba x):
  Calls prog 6 #[b] w λe d=>∃(a:Option Addr) (c:Nat) (o:List Value),e=.returned (.tuple #[.slice a (Eh l).1.length c, .int .i64 (Eh l).2])/\d.ownsRow w.heap.size 66 3 (.slice a (Eh l).1.length c) (Eh l).1.length o/\Sv d (ob (.slice a (Eh l).1.length c)++bs) ((Qx (Eh l).1,o)::ts)/\Below w.heap.size w d:=by
 have j:Hid (∀W,Below w.heap.size w W->Calls prog 17 #[b] W λe d=>e=.returned (.agg #[.int .i64 (Am l).1, .int .i64 (Am l).2])/\Below W.heap.size W d):=λW h=>SK l b W (i.below h) hl f g
 have q:Hid (∀W,Below w.heap.size w W->Calls prog 18 #[b] W λe d=>e=.returned (.int .i64 (Hq l))/\Below W.heap.size W d):=λW h=>tw l b W (i.below h) hl f g
 have k:Hid (∀W,Below w.heap.size w W->Calls prog 19 #[b] W λe d=>e=.returned (.int .i64 (F9 l))/\Below W.heap.size W d):=λW h=>pS l b W (i.below h) hl f g
 have m:=Ci (λW (h:Below w.heap.size w W)=>lM l b W bs ts (hS.bel h) (i.below h) hl f g);have z:Eh l=if 0<(Am l).1 then([],1) else if 16<Hq l\/8<F9 l then([],2) else(E5 l,0):=rfl
 obtain⟨N,J,rfl,_⟩:=i;rw[z];clear z g f;generalize (Am l).1=c at*;generalize (Am l).2=r at*;generalize Hq l=x at*;generalize F9 l=y at*;generalize E5 l=L at*;have M:=TK;by_cases C:0<c
 .rw[if_pos C]
  clear q k m;go_enter func6,ntmps6
  go_wp2_with (go_at_call 17;refine(j _ AX).mono ?_;rintro e t ⟨rfl,s⟩)
  refine bodyPost_ret (v:=.tuple #[.slice none 0 0, .int .i64 1]) (by simp[results,results6,go_sem]) rfl ⟨none,0,[],rfl,World.ownsRow_nil _ _ _ _,(hS.bel AX).nil,AX⟩
 rw[if_neg C];by_cases P:(16:Int)<x
 .rw[if_pos (.inl AU)]
  clear k m;go_enter func6,ntmps6
  go_wp2_with (first | (go_at_call 17;refine(j _ AX).mono ?_;rintro e t ⟨rfl,s⟩) | (go_at_call 18;refine(q _ AX).mono ?_;rintro e B ⟨rfl,E⟩))
  exact zza
 by_cases K:(8:Int)<y
 .rw[if_pos (.inr AU)]
  clear m;go_enter func6,ntmps6
  go_wp2_with (first | (go_at_call 17;refine(j _ AX).mono ?_;rintro e t ⟨rfl,s⟩) | (go_at_call 18;refine(q _ AX).mono ?_;rintro e B ⟨rfl,E⟩) | (go_at_call 19;refine(k _ AX).mono ?_;rintro e w3 ⟨rfl,H⟩))
  exact zza
 rw[if_neg AU];go_enter func6,ntmps6
 go_wp2_with (first | (go_at_call 17;refine(j _ AX).mono ?_;rintro e t ⟨rfl,s⟩) | (go_at_call 18;refine(q _ AX).mono ?_;rintro e B ⟨rfl,E⟩) | (go_at_call 19;refine(k _ AX).mono ?_;rintro e w3 ⟨rfl,H⟩) | (go_at_call 20;refine(m _ AX).mono ?_;rintro e O ⟨u,D,o,rfl,G,F,I⟩;have A:Below w.heap.size w w3:=AX))
 refine bodyPost_ret (v:=.tuple #[.slice u L.length D, .int .i64 0]) (by simp[results,results6,go_sem]) rfl ⟨u,D,o,rfl,Joins.ownsRow_le G A.size,F,Au A I⟩
