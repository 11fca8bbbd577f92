import Derived.Test.YtfeablpbkcgdjaaGreatDoorBT1
set_option maxHeartbeats 4000000
set_option maxRecDepth 100000
namespace Go.Proofs.YtfeablpbkcgdjaaGreatDoor
open Tryz Stil Go.RowKit Go.Sort Go.BigFrame
theorem FU.sub1 {n:Stil.B1}{w:World}{bs:List Nat}{ts:List (List Tr × List Value)}{x y:List Tr × List Value}{e:Ending}{w':World}(h:FU n w bs (x::y::ts) e w'):FU n w bs ts e w':=by
 obtain⟨a,p,b,q,f,d,c⟩:=h;exact⟨a,p,b,q,f,d.sub (λ_ h=>h) (List.forall_mem_cons.2 ⟨.head _,λ_ h=>.tail _ (.tail _ (.tail _ h))⟩),c⟩
theorem rz (n:Stil.B1):Bi n->Ac n<=999999->G4 106 n (Bf n):=by
 induction n using Fv with
 | h k e kids ih=>
  intro aa ac av kv w bs ts h E T;obtain⟨_,he,hl,hk⟩:=(Gn _ _ _).1 aa;obtain⟨A,ab⟩:=UT ac;simp only at E T;have ad:kids.length<=999999:=by
   have h1:=He (kids.map Bf);rw[CP] at h1;omega
  have hbl:=h.1;have O:=Ci (λW (h:Below w.heap.size w W) o q r=>nJ kids Bf (λx L=>ih x L (hk x L) (ab x L)) kv W o q r (T.below h) ad);have H2:=Ci (λW (h:Below w.heap.size w W) o q r=>Jc e he.2.1 av W o q r (E.below h));have hS:=(h.alloc (.cells #[.int .i64 k, .int .i64 e.op,av,kv] 54)).box (.cells #[.int .i64 0, .int .i64 0, .slice none 0 0, .slice none 0 0] 54);rw[World.size_alloc] at hS;obtain⟨F,M,rfl,-⟩:=E;obtain⟨S,B,rfl,-⟩:=T;have d:CW ((w.alloc (.cells #[.int .i64 k, .int .i64 e.op, .slice F e.args.length M, .slice S kids.length B] 54)).alloc (.cells #[.int .i64 0, .int .i64 0, .slice none 0 0, .slice none 0 0] 54)) w.heap.size (.int .i64 k) (.int .i64 e.op) (.slice F e.args.length M) (.slice S kids.length B):=qN4;have c:CW ((w.alloc (.cells #[.int .i64 k, .int .i64 e.op, .slice F e.args.length M, .slice S kids.length B] 54)).alloc (.cells #[.int .i64 0, .int .i64 0, .slice none 0 0, .slice none 0 0] 54)) (w.heap.size+1) (.int .i64 0) (.int .i64 0) (.slice none 0 0) (.slice none 0 0):=qN4;obtain⟨l,Z⟩:∃l,l=kids.map Bf:=⟨_,rfl⟩
  have g:=Ci (Iu k e kids);rw[<-Z] at O A g;clear ih aa he hl hk ac ab ad Z h;obtain⟨N,Y⟩:∃N,N=Bf ⟨k,e,kids⟩:=⟨_,rfl⟩
  rw[<-Y] at g ⊢;clear Y;by_cases t:k=2\/k=3
  .have j:=g.out
   rw[if_pos t] at j;have HB:=Ci (λW a cap o q r hm=>RY k l a cap W o q r hm A);rw[<-j] at HB;clear j g H2 A;rcases t with rfl | rfl
   all_goals
    go_enter func106,ntmps106
    go_wp2_with (first | (go_at_call 137;refine(O _ AX _ _ hS).mono ?_;rintro e f ⟨ra,X,xs,rfl,hown,hS,m⟩;replace d:=d.bel m;replace c:=c.bel m;obtain⟨C,y,K,q1,I,z,U,u,J⟩:=id d;obtain⟨Q,R,p4,H,V,P,p6,G,p7⟩:=id c;replace hS:=hS.ice (.head _) yBi yDh;have s:Below w.heap.size w f:=AX) | (go_at_call 138;refine(HB _ _ _ _ _ hS (.head _)).mono ?_;rintro e w3 ⟨a3,c3,a4,c4,rfl,hS,af⟩;replace c:=c.bel af;obtain⟨C,y,K,q1,I,z,U,u,J⟩:=id c))
    refine bodyPost_ret (v:=.agg #[.int .i64 N.kind, .int .i64 N.one.op, .slice a3 N.one.args.length c3, .slice a4 N.kids.length c4]) (by simp[results,results106,go_sem,y,q1,z,u]) rfl ?_;exact⟨_,_,_,_,rfl,(hS.set4 (.head _)).sub (λ_ h=>.tail _ h) (List.forall_mem_cons.2 ⟨.head _,λ_ h=>.tail _ (.tail _ (.tail _ h))⟩),AX⟩
  .have j:=g.out
   rw[if_neg t] at j;have ah:(k==2)=false:=by rw[CJ];omega
   have ag:(k==3)=false:=by rw[CJ];omega
   subst j;clear g A t;go_enter func106,ntmps106
   go_wp2_with (go_at_call 137;refine(O _ AX _ _ hS).mono ?_;rintro e f ⟨ra,X,xs,rfl,hown,hS,m⟩;replace d:=d.bel m;replace c:=c.bel m;replace hS:=hS.ice (.head _) yBi yDh;have s:Below w.heap.size w f:=AX;obtain⟨C,y,K,q1,I,z,U,u,J⟩:=id d;obtain⟨Q,R,p4,H,V,P,p6,G,p7⟩:=id c)
   go_region_law (go_simp;go_at_call 104;refine(H2 _ (by exact s.drew) _ _ hS.drew).mono ?_;rintro e w2 ⟨a5,c5,rfl,ae,fP⟩;have D:Below f.heap.size f w2:=((Below.refl f.heap.size f).drew).trans fP;replace d:=d.bel D;replace c:=c.bel D;obtain⟨C,y,K,q1,I,z,U,u,J⟩:=id d;obtain⟨Q,R,p4,H,V,P,p6,G,p7⟩:=id c)
   all_goals
    try go_wp2
    refine bodyPost_ret (v:=.agg #[.int .i64 k, .int .i64 e.op, .slice a5 e.args.length c5, .slice ra l.length X]) (by simp[results,results106,go_sem,R,H,P,G]) rfl ?_;exact⟨_,_,_,_,rfl,((ae.mkN (i:=k) (op:=e.op) (ds:=e.args) (ns:=l) (.head _) (.tail _ (.head _))).set4 (.head _)).sub (λ_ h=>.tail _ h) (List.forall_mem_cons.2 ⟨.head _,λ_ h=>.tail _ (.tail _ (.tail _ (.tail _ h)))⟩),by have fV:Below w.heap.size w w2:=s.trans (D.mono s.size);exact AX⟩
theorem i6 (X Y:Stil.B1)(s j r m:Option Addr)(c l d g:Nat)(w:World)(bs:List Nat)(ts:List (List Tr × List Value))(h:Sv w bs ts)
  (h1:([Ic X],[.int .i64 X.kind, .int .i64 X.one.op, .slice s X.one.args.length c, .slice j X.kids.length l])∈ts) (h2:([Ic Y],[.int .i64 Y.kind, .int .i64 Y.one.op, .slice r Y.one.args.length d, .slice m Y.kids.length g])∈ts) (hs:Stil.sizes [X,Y]<=999999) (S:Bi X) (M:Bi Y):
  Calls prog 139 #[.agg #[.int .i64 X.kind, .int .i64 X.one.op, .slice s X.one.args.length c, .slice j X.kids.length l], .agg #[.int .i64 Y.kind, .int .i64 Y.one.op, .slice r Y.one.args.length d, .slice m Y.kids.length g]] w (FU (Ip X Y) w bs ts):=by
 have x:∀(Z:Stil.B1) (u v:Option Addr) (p q:Nat),([Ic Z],[.int .i64 Z.kind, .int .i64 Z.one.op, .slice u Z.one.args.length p, .slice v Z.kids.length q])∈ts->Bi Z->∀W,Below w.heap.size w W->Calls prog 105 #[.agg #[.int .i64 Z.kind, .int .i64 Z.one.op, .slice u Z.one.args.length p, .slice v Z.kids.length q]] W λe w'=>e=.returned (.bool (Ai Z))/\Below W.heap.size W w':=λZ u v p q hm hf W H=>by
  obtain⟨_,_,_,_,he,hS⟩:=(h.bel H).opN hm;cases he;exact Sj Z _ _ W (hS.devs (.head _)) (hS.nets (.tail _ (.head _))) hf
 have Q:=Ci (x X _ _ _ _ h1 S);have R:=Ci (x Y _ _ _ _ h2 M);have E:Hid (Ai X=false->Ai Y=false->∀W D,Sv W D ts->Calls prog 138 #[.int .i64 2, .slice (some ⟨W.heap.size,0,none⟩) 2 2] (W.alloc (.cells #[.int .i64 X.kind, .int .i64 X.one.op, .slice s X.one.args.length c, .slice j X.kids.length l, .int .i64 Y.kind, .int .i64 Y.one.op, .slice r Y.one.args.length d, .slice m Y.kids.length g] 54)) (FU (Ip X Y) (W.alloc (.cells #[.int .i64 X.kind, .int .i64 X.one.op, .slice s X.one.args.length c, .slice j X.kids.length l, .int .i64 Y.kind, .int .i64 Y.one.op, .slice r Y.one.args.length d, .slice m Y.kids.length g] 54)) D ts)):=by
  intro G I W D H;have hL:=(H.cat h1 h2).lit (n:=W.heap.size) (.head _) #[.int .i64 X.kind, .int .i64 X.one.op, .slice s X.one.args.length c, .slice j X.kids.length l, .int .i64 Y.kind, .int .i64 Y.one.op, .slice r Y.one.args.length d, .slice m Y.kids.length g] 54 rfl rfl;have:=RY 2 [X,Y] _ _ _ D _ hL (.head _) hs
  rw[Ip,if_neg (by rw[G];exact Ek),if_neg (by rw[I];exact Ek)];exact this.mono λ_ _ h=>h.sub1
 have hS:=((h.alloc (.cells #[.int .i64 X.kind, .int .i64 X.one.op, .slice s X.one.args.length c, .slice j X.kids.length l] 54)).alloc (.cells #[.int .i64 Y.kind, .int .i64 Y.one.op, .slice r Y.one.args.length d, .slice m Y.kids.length g] 54)).box (.cells #[.int .i64 0, .int .i64 0, .slice none 0 0, .slice none 0 0] 54);rw[World.size_alloc,World.size_alloc] at hS;obtain⟨N,x⟩:∃N,N=Ip X Y:=⟨_,rfl⟩
 have T:Hid (Ai X=true->N=Y):=λe=>by rw[x,Ip,if_pos e]
 have J:Hid (Ai X=false->Ai Y=true->N=X):=λe f=>by rw[x,Ip,if_neg yFg,if_pos f]
 rw[<-x] at E ⊢;obtain⟨G,P⟩:∃t,t=Ai X:=⟨_,rfl⟩
 obtain⟨I,K⟩:∃t,t=Ai Y:=⟨_,rfl⟩
 rw[<-P] at Q E T J;rw[<-K] at R E J;clear x P K hs S M h;go_enter func139,ntmps139;go_upto_if 5 with(go_at_call 105;refine(Q _ AX).mono ?_;rintro e F ⟨rfl,ac⟩;replace hS:=hS.bel ac;obtain⟨aa,q0,p0,q1,p1,q2,p2,q3,p3⟩:CW F w.heap.size (.int .i64 X.kind) (.int .i64 X.one.op) (.slice s X.one.args.length c) (.slice j X.kids.length l):=qB4;obtain⟨ad,q4,p4,q5,p5,q6,p6,q7,p7⟩:CW F (w.heap.size+1) (.int .i64 Y.kind) (.int .i64 Y.one.op) (.slice r Y.one.args.length d) (.slice m Y.kids.length g):=qB4;obtain⟨U,A,p8,z,L,y,O,C,V⟩:CW F (w.heap.size+1+1) (.int .i64 0) (.int .i64 0) (.slice none 0 0) (.slice none 0 0):=qB4;have af:Below w.heap.size w F:=AX)
 cases G with
 | true=>
  obtain rfl:=T BK
  go_wp2
  refine bodyPost_ret (v:=.agg #[.int .i64 N.kind, .int .i64 N.one.op, .slice r N.one.args.length d, .slice m N.kids.length g]) (by simp[results,results139,go_sem,A,z,y,C]) rfl ?_;exact⟨_,_,_,_,rfl,((hS.cat h2 h2).set4 (.head _)).sub (λ_ h=>.tail _ h) (List.forall_mem_cons.2 ⟨.tail _ h2,λ_ h=>.tail _ h⟩),AX⟩
 | false=>
  go_upto_if 9 with(go_at_call 105;refine(R _ AX).mono ?_;rintro e B ⟨rfl,ab⟩;replace hS:=hS.bel ab;obtain⟨aa,q0,p0,q1,p1,q2,p2,q3,p3⟩:CW B w.heap.size (.int .i64 X.kind) (.int .i64 X.one.op) (.slice s X.one.args.length c) (.slice j X.kids.length l):=qB4;obtain⟨ad,q4,p4,q5,p5,q6,p6,q7,p7⟩:CW B (w.heap.size+1) (.int .i64 Y.kind) (.int .i64 Y.one.op) (.slice r Y.one.args.length d) (.slice m Y.kids.length g):=qB4;obtain⟨U,A,p8,z,L,y,O,C,V⟩:CW B (w.heap.size+1+1) (.int .i64 0) (.int .i64 0) (.slice none 0 0) (.slice none 0 0):=qB4;have ae:Below w.heap.size w B:=AX)
  cases I with
  | true=>
   obtain rfl:=J BK BK
   go_wp2
   refine bodyPost_ret (v:=.agg #[.int .i64 N.kind, .int .i64 N.one.op, .slice s N.one.args.length c, .slice j N.kids.length l]) (by simp[results,results139,go_sem,A,z,y,C]) rfl ?_;exact⟨_,_,_,_,rfl,((hS.cat h1 h1).set4 (.head _)).sub (λ_ h=>.tail _ h) (List.forall_mem_cons.2 ⟨.tail _ h1,λ_ h=>.tail _ h⟩),AX⟩
  | false=>
   go_wp2_with (go_at_call 138;refine(E BK BK B _ hS).mono ?_;rintro e w3 ⟨u1,m1,u2,m2,rfl,hS,ag⟩;obtain⟨U,A,p8,z,L,y,O,C,V⟩:CW w3 (w.heap.size+1+1) (.int .i64 0) (.int .i64 0) (.slice none 0 0) (.slice none 0 0):=qB4)
   refine bodyPost_ret (v:=.agg #[.int .i64 N.kind, .int .i64 N.one.op, .slice u1 N.one.args.length m1, .slice u2 N.kids.length m2]) (by simp[results,results139,go_sem,A,z,y,C]) rfl ?_;exact⟨_,_,_,_,rfl,(hS.set4 (.head _)).sub (λ_ h=>.tail _ h) (λ_ h=>h),AX⟩
theorem sY {w a:World}{r:Option Nat}{b o:Nat}(h:w.grownBy a r)(e:w.heap.size<=b)(v:Value):w.grownBy (a.setCell ⟨b,o,none⟩ v) r:=
 ⟨h.os,h.tape,h.output,by simpa using h.size,λk d c=>by
  rw[<-h.block k d c];simp only[World.setCell,Ge]
  rw[if_neg AU]⟩
def fe (S:Stil.B1)(C:List Stil.Elem)(B h0:Nat)(v u:Value)(w:World)(bs:List Nat)(ts:List (List Tr × List Value))(e:Ending)(w':World):Prop:=∃h f d g a c i,e=.returned (.agg #[.int .i64 S.kind, .int .i64 S.one.op, .slice h S.one.args.length f, .slice d S.kids.length g, .slice a C.length c,u])/\w'.ownsRow B 51 2 (.slice a C.length c) C.length i/\Sv w' (ob (.slice a C.length c)++bs) ((Hm C,i)::([Ic S],[.int .i64 S.kind, .int .i64 S.one.op, .slice h S.one.args.length f, .slice d S.kids.length g])::ts)/\w.grownBy w' v.ownBlock/\∀b,b<h0->v.ownBlock≠some b->(Value.slice a C.length c).ownBlock≠some b
theorem mN (N:Stil.B1)(C:List Stil.Elem)(d:Stil.B5)(xs:List Value)(A D e Q b1 b2 b3 b4:Option Addr)(y x g J k r q m B:Nat)(w:World)(bs:List Nat)(ts:List (List Tr × List Value))
  (h:Sv w (ob (.slice e C.length g)++bs) ((Hm C,xs)::ts)) (h1:([Ic N],[.int .i64 N.kind, .int .i64 N.one.op, .slice A N.one.args.length y, .slice D N.kids.length x])∈ts) (h2:([J7 d],[.int .i64 d.net.kind, .int .i64 d.net.one.op, .slice b1 d.net.one.args.length k, .slice b2 d.net.kids.length r, .slice b3 d.coils.length q, .slice b4 d.kids.length m])∈ts) (H:w.ownsRow B 51 2 (.slice e C.length g) C.length xs) (hB:B<=w.heap.size) (hs:Stil.sizes [N,d.net]<=999999) (ai:Bi N) (ad:Bi d.net) (hl:C.length+d.coils.length<=1000000):
  Calls prog 107 #[.agg #[.int .i64 N.kind, .int .i64 N.one.op, .slice A N.one.args.length y, .slice D N.kids.length x, .slice e C.length g, .slice Q 1 J], .agg #[.int .i64 d.net.kind, .int .i64 d.net.one.op, .slice b1 d.net.one.args.length k, .slice b2 d.net.kids.length r, .slice b3 d.coils.length q, .slice b4 d.kids.length m]] w (fe (Ip N d.net) (C++d.coils) B w.heap.size (.slice e C.length g) (.slice b4 d.kids.length m) w bs ts):=by
 obtain⟨_,_,_,_,_,_,_,_,he,h⟩:=h.opA (.tail _ h2);cases he;replace h:=h.mkN (i:=d.net.kind) (op:=d.net.one.op) (.head _) (.tail _ (.head _));rw[PG] at h;have HJ:=Ci (λW cs us (ay:Sv W cs us) h1 h2=>i6 N d.net A D b1 b2 y x k r W cs us ay h1 h2 hs ai ad);obtain⟨S,ac⟩:∃S,S=Ip N d.net:=⟨_,rfl⟩
 rw[<-ac] at HJ ⊢;obtain⟨ys,ae,h⟩:=h.src (l:=Hm d.coils) (u:=.slice b3 d.coils.length q) (.tail _ (.tail _ (.tail _ (.head _))));clear hs ai ad ac;go_enter func107,ntmps107;go_upto_region 1 with fail
 obtain⟨W,n⟩:∃W,W=((w.alloc (.cells #[.int .i64 N.kind, .int .i64 N.one.op, .slice A N.one.args.length y, .slice D N.kids.length x, .slice e C.length g, .slice Q 1 J] 60)).alloc (.cells #[.int .i64 d.net.kind, .int .i64 d.net.one.op, .slice b1 d.net.one.args.length k, .slice b2 d.net.kids.length r, .slice b3 d.coils.length q, .slice b4 d.kids.length m] 60)).alloc (.cells #[.int .i64 0, .int .i64 0, .slice none 0 0, .slice none 0 0, .slice none 0 0, .slice none 0 0] 60):=⟨_,rfl⟩
 rw[<-n];have z:CU W w.heap.size (.int .i64 N.kind) (.int .i64 N.one.op) (.slice A N.one.args.length y) (.slice D N.kids.length x) (.slice e C.length g) (.slice Q 1 J):=by rw[n];exact qN6
 have t:CU W (w.heap.size+1) (.int .i64 d.net.kind) (.int .i64 d.net.one.op) (.slice b1 d.net.one.args.length k) (.slice b2 d.net.kids.length r) (.slice b3 d.coils.length q) (.slice b4 d.kids.length m):=by rw[n];exact qN6
 have s:CU W (w.heap.size+1+1) (.int .i64 0) (.int .i64 0) (.slice none 0 0) (.slice none 0 0) (.slice none 0 0) (.slice none 0 0):=by rw[n];exact qN6
 have aj:W.heap.size=w.heap.size+3:=by rw[n];simp
 have E:Below w.heap.size w W:=by rw[n];exact Ce (Ce (Aa _ _) _) _
 have hS:Sv W (ob (.slice e C.length g)++(w.heap.size+1+1)::bs) ((Hm d.coils,ys)::([Ic d.net],[.int .i64 d.net.kind, .int .i64 d.net.one.op, .slice b1 d.net.one.args.length k, .slice b2 d.net.kids.length r])::(Hm C,xs)::ts):=by
  rw[n];have:=((h.alloc (.cells #[.int .i64 N.kind, .int .i64 N.one.op, .slice A N.one.args.length y, .slice D N.kids.length x, .slice e C.length g, .slice Q 1 J] 60)).alloc (.cells #[.int .i64 d.net.kind, .int .i64 d.net.one.op, .slice b1 d.net.one.args.length k, .slice b2 d.net.kids.length r, .slice b3 d.coils.length q, .slice b4 d.kids.length m] 60)).box (.cells #[.int .i64 0, .int .i64 0, .slice none 0 0, .slice none 0 0, .slice none 0 0, .slice none 0 0] 60)
  rw[World.size_alloc,World.size_alloc] at this;exact this.sub (λ_ h=>PW h) BB
 have aB:=ownsRow_below H E;have mM:∀V,Below W.heap.size W V->IL V (.slice b3 d.coils.length q) (Hm d.coils).length ys:=λV hV=>by
  obtain⟨a,c,h1,h2⟩:=ae;refine⟨a,c,h1,h2.imp id λ⟨b,o,h3,h4,h5⟩=>⟨b,o,h3,?_,λap u hj=>?_⟩⟩
  .have h6:=E.size;have h7:=hV.size;omega
  .exact(((E.trans (hV.mono E.size)).cell (p:=⟨b,o+ap,none⟩) h4)).trans (h5 ap u hj)
 have bf:=Ci mM;have an:(Value.slice e C.length g).ownBlock≠some w.heap.size:=own_ne H (B7 _);have ar:(Value.slice e C.length g).ownBlock≠some (w.heap.size+1):=own_ne H AU;have ag:(Value.slice e C.length g).ownBlock≠some (w.heap.size+1+1):=own_ne H AU;have I:=Ci (And.intro an (And.intro ar ag));clear n h ae mM an ar ag;obtain⟨aa,q0,p0,q1,p1,q2,p2,q3,p3,q4,p4,q5,p5⟩:=id z;obtain⟨al,q6,p6,q7,p7,q8,p8,q9,p9,ab,ah,av,ak⟩:=id t;obtain⟨O,T,ao,Z,af,fM,gU,X,gQ,U,au,Y,gK⟩:=id s;have eG:=Ci aj;clear aj
 go_region_held3 (λj=>(j.cell? ⟨w.heap.size,0,none⟩=some (.int .i64 N.kind)/\j.cell? ⟨w.heap.size,1,none⟩=some (.int .i64 N.one.op)/\j.cell? ⟨w.heap.size,2,none⟩=some (.slice A N.one.args.length y)/\j.cell? ⟨w.heap.size,3,none⟩=some (.slice D N.kids.length x)/\j.cell? ⟨w.heap.size,4,none⟩=some (.slice e C.length g)/\j.cell? ⟨w.heap.size+1,0,none⟩=some (.int .i64 d.net.kind)/\j.cell? ⟨w.heap.size+1,1,none⟩=some (.int .i64 d.net.one.op)/\j.cell? ⟨w.heap.size+1,2,none⟩=some (.slice b1 d.net.one.args.length k)/\j.cell? ⟨w.heap.size+1,3,none⟩=some (.slice b2 d.net.kids.length r)/\j.cell? ⟨w.heap.size+1,4,none⟩=some (.slice b3 d.coils.length q)/\j.cell? ⟨w.heap.size+1,5,none⟩=some (.slice b4 d.kids.length m))) (first | with_reducible assumption | (refine⟨?_,?_,?_,?_,?_,?_,?_,?_,?_,?_,?_⟩<;>exact BN)) (first | (go_at_call 139;refine(HJ.out _ _ _ hS.drew (by simp[h1]) (by simp)).mono ?_;rintro aE w1 ⟨e1,f1,e2,f2,rfl,hS,aD⟩;have F:Below W.heap.size W w1:=((Below.refl W.heap.size W).drew).trans aD;replace z:=z.bel F;replace t:=t.bel F;replace s:=s.bel F;have ax:=ownsRow_below aB F;have aw:=bf.out w1 F;have R:Below w.heap.size w w1:=E.trans (F.mono E.size);obtain⟨aa,q0,p0,q1,p1,q2,p2,q3,p3,q4,p4,q5,p5⟩:=id z;obtain⟨al,q6,p6,q7,p7,q8,p8,q9,p9,ab,ah,av,ak⟩:=id t;obtain⟨O,T,ao,Z,af,fM,gU,X,gQ,U,au,Y,gK⟩:=id s) | (refine I9 rfl rfl (Sv.appM (f:=Qe) (L:=C) (M:=d.coils) _ kd2 hS (.tail _ (.tail _ (.tail _ (.head _)))) (.tail _ (.head _)) (λ_=>rfl) aw ax (CB hB R.size) BS) rfl rfl ?_;rintro v6 w6 ⟨a6,c6,rfl,az,aA,P,fC⟩;replace z:=z.gr P I.out.1;replace t:=t.gr P I.out.2.1;replace s:=s.gr P I.out.2.2;have G:=fC _ O I.out.2.2;have dK:=KG R P;have jZ:=(λb (K:b<w.heap.size)=>fC b (B8 K R.size));obtain⟨aa,q0,p0,q1,p1,q2,p2,q3,p3,q4,p4,q5,p5⟩:=id z;obtain⟨al,q6,p6,q7,p7,q8,p8,q9,p9,ab,ah,av,ak⟩:=id t;obtain⟨O,T,ao,Z,af,fM,gU,X,gQ,U,au,Y,gK⟩:=id s))
 all_goals
  try go_wp2
  refine bodyPost_ret (v:=.agg #[.int .i64 S.kind, .int .i64 S.one.op, .slice e1 S.one.args.length f1, .slice e2 S.kids.length f2, .slice a6 (C++d.coils).length c6, .slice b4 d.kids.length m]) (by simp[results,results107,go_sem,T,Z,fM,X,U,Y]) rfl ?_;refine⟨e1,f1,e2,f2,a6,c6,_,rfl,D6 (D6 (D6 (D6 (D6 (D6 az G) G) G) G) G) G,(aA.set6 AW).sub (λb K=>?_) (List.forall_mem_cons.2 ⟨.head _,List.forall_mem_cons.2 ⟨.tail _ (.head _),λ_ h=>by simp[h]⟩⟩),?_,jZ⟩
  .simp only[Dm,C2] at K ⊢
   exact K.imp id .inr
  .repeat (refine sY ?_ AU _)
   exact dK
theorem XS {b O:Nat}{A bs:List Nat}(h:b∈O::(A++bs)):b∈A++O::bs:=by
 exact zNa
theorem sA (a:Stil.B5):Ba a->Ah a<=900000->K1 68 a (Dv a):=by
 induction a using Fb with
 | h n g kids ih=>
  intro aC au av nv cv kv w bs ts h ap az aG aN;obtain⟨aE,a8,aT,bc,aX⟩:=(Eu _ _ _).1 aC;simp only at ap az aG aN;have aP:=au;rw[Dp] at aP;have aB:∀x∈kids,Ah x<=900000:=by
   intro x K;have:Ah x<=H5 kids:=Em Ah kids x K;omega
  have aS:kids.length<=999999:=by have h1:=Nu kids;omega
  have H1:=Ci (λW (h:Below w.heap.size w W) bj us hs=>j4 g id (λx K av w bs ts h h2=>Jc x (aT x K).2.1 av w bs ts h h2) cv W bj us hs (aG.below h) AU);rw[List.map_id] at H1;have H2:=Ci (λW (h:Below w.heap.size w W) g us hs=>S5 kids Dv (λx K=>ih x K (aX x K) (aB x K)) kv W g us hs (aN.below h) aS);have H3:=Ci (λW (h:Below w.heap.size w W)=>Sj n av nv W (ap.below h) (az.below h) aE);have H4:Hid (Ai n=false->∀W g us,Below w.heap.size w W->Sv W g us->Calls prog 106 #[.agg #[.int .i64 n.kind, .int .i64 n.one.op,av,nv]] W (FU (Bf n) W g us)):=λhn W g us h hs=>rz n aE yFc av nv W g us hs (ap.below h) (az.below h)
  have HJ:=Ci (Na n g kids);have HM:Hid (Z5 900000 ⟨Stil.netOf n,g,kids.map Dv⟩):=by
   have:=OP aC au (λx K=>Xu x (aX x K) (aB x K))
   exact⟨this.1,CB this.2 au⟩
  have aZ:=h.1;obtain⟨ag,hT⟩:∃ag,ag=Dv ⟨n,g,kids⟩:=⟨_,rfl⟩
  rw[<-hT] at HJ ⊢;obtain⟨L,hL⟩:∃L,L=kids.map Dv:=⟨_,rfl⟩
  rw[<-hL] at HJ HM H2;have hS:=(h.alloc (.cells #[.int .i64 n.kind, .int .i64 n.one.op,av,nv,cv,kv] 60)).box (.cells #[.int .i64 0, .int .i64 0, .slice none 0 0, .slice none 0 0, .slice none 0 0, .slice none 0 0] 60);rw[World.size_alloc] at hS;obtain⟨s0,n0,rfl,-⟩:=ap;obtain⟨s1,n1,rfl,-⟩:=az;obtain⟨s2,n2,rfl,-⟩:=aG;obtain⟨s3,n3,rfl,-⟩:=aN;clear ih aC au aP aE a8 aT bc aX aB hT h hL aS;go_enter func68,ntmps68;go_upto_region 1 with fail
  go_step3
  go_upto_region 1 with fail
  obtain⟨W,hW⟩:∃W,W=(w.alloc (.cells #[.int .i64 n.kind, .int .i64 n.one.op, .slice s0 n.one.args.length n0, .slice s1 n.kids.length n1, .slice s2 g.length n2, .slice s3 kids.length n3] 60)).alloc (.cells #[.int .i64 0, .int .i64 0, .slice none 0 0, .slice none 0 0, .slice none 0 0, .slice none 0 0] 60):=⟨_,rfl⟩
  rw[<-hW];rw[<-hW] at hS;have q:CU W w.heap.size (.int .i64 n.kind) (.int .i64 n.one.op) (.slice s0 n.one.args.length n0) (.slice s1 n.kids.length n1) (.slice s2 g.length n2) (.slice s3 kids.length n3):=by rw[hW];exact qN6
  have d:CU W (w.heap.size+1) (.int .i64 0) (.int .i64 0) (.slice none 0 0) (.slice none 0 0) (.slice none 0 0) (.slice none 0 0):=by rw[hW];exact qN6
  have aM:W.heap.size=w.heap.size+2:=by rw[hW];simp
  have ah:Below w.heap.size w W:=by rw[hW];exact Ce (Aa _ _) _
  clear hW;have eG:=Ci aM;clear aM;go_cut [3] (λbk wc=>∃(O:Nat) (m:Option Addr) (r:Nat) (s:List Value) (G:Option Addr) (D:Nat),bk=.pointer (some ⟨O,0,none⟩)/\w.heap.size+2<=O/\CU wc w.heap.size (.int .i64 n.kind) (.int .i64 n.one.op) (.slice s0 n.one.args.length n0) (.slice s1 n.kids.length n1) (.slice s2 g.length n2) (.slice s3 kids.length n3)/\CU wc (w.heap.size+1) (.int .i64 0) (.int .i64 0) (.slice none 0 0) (.slice none 0 0) (.slice none 0 0) (.slice none 0 0)/\CU wc O (.int .i64 0) (.int .i64 0) (.slice none 0 0) (.slice none 0 0) (.slice m g.length r) (.slice G L.length D)/\(Value.slice m g.length r).ownBlock≠some O/\wc.ownsRow (w.heap.size+2) 51 2 (.slice m g.length r) g.length s/\Sv wc (O::(ob (.slice m g.length r)++(w.heap.size+1)::bs)) ((Hm g,s)::([sl (Io L)],[.slice G L.length D])::ts)/\Below w.heap.size w wc)
  case first=>
   clear H3 H4 HJ HM;obtain⟨I,-,-,-,-,-,-,-,-,E,-,B,-⟩:=id q
   go_region_held3 (λW'=>(W'.cell? ⟨w.heap.size,4,none⟩=some (.slice s2 g.length n2)/\W'.cell? ⟨w.heap.size,5,none⟩=some (.slice s3 kids.length n3))) (first | with_reducible assumption | (refine⟨?_,?_⟩<;>exact BN)) (first | (go_at_call 103;(first | refine(H1.out _ (by exact ah.drew) _ _ hS.drew).mono ?_ | refine(H1.out _ (by exact(Ce ah _).drew) _ _ (hS.box _).drew).mono ?_);rintro e H ⟨ra,rc,s,rfl,j,hS,aO⟩;have mX:Below W.heap.size W H:=(by first | exact Au (Below.refl _ _).drew aO | exact Au (Ce (Below.refl _ _) _).drew aO);have an:Below w.heap.size w H:=ah.trans (mX.mono ah.size);have af:=own_ne j (B7 H.heap.size);replace q:=q.bel mX;replace d:=d.bel mX;obtain⟨I,-,-,-,-,-,-,-,-,E,-,B,-⟩:=id q;(try have f:CU H W.heap.size (.int .i64 0) (.int .i64 0) (.slice none 0 0) (.slice none 0 0) (.slice none 0 0) (.slice none 0 0):=(show CU (W.alloc (.cells #[.int .i64 0, .int .i64 0, .slice none 0 0, .slice none 0 0, .slice none 0 0, .slice none 0 0] 60)).drew W.heap.size (.int .i64 0) (.int .i64 0) (.slice none 0 0) (.slice none 0 0) (.slice none 0 0) (.slice none 0 0) from qN6).bel aO)) | (go_at_call 67;(first | (refine(H2.out _ an _ _ hS).mono ?_;rintro e w2 ⟨sa,sc,x4,rfl,bH,aF,ai⟩;have hS:=aF.ice (.head _) (by rw[CP];exact bH) hS.1) | (refine(H2.out _ (Ce an _) _ _ (hS.box _)).mono ?_;rintro e w2 ⟨sa,sc,x4,rfl,bH,aF,ai⟩;have hS:=aF.ice (.head _) (by rw[CP];exact bH) (hS.box _).1;have f:CU w2 H.heap.size (.int .i64 0) (.int .i64 0) (.slice none 0 0) (.slice none 0 0) (.slice none 0 0) (.slice none 0 0):=(show CU (H.alloc (.cells #[.int .i64 0, .int .i64 0, .slice none 0 0, .slice none 0 0, .slice none 0 0, .slice none 0 0] 60)) H.heap.size (.int .i64 0) (.int .i64 0) (.slice none 0 0) (.slice none 0 0) (.slice none 0 0) (.slice none 0 0) from qN6).bel ai));have al:Below H.heap.size H w2:=(by first | exact ai | exact Au (Ce (Below.refl _ _) _) ai);have a9:Below w.heap.size w w2:=an.trans (al.mono an.size);replace q:=q.bel al;replace d:=d.bel al;replace j:=ownsRow_below j al;obtain⟨I,-,-,-,-,-,-,-,-,E,-,B,-⟩:=id q;(try replace f:=f.bel ai);(try obtain⟨aL,t0,f0,t1,f1,t2,f2,t3,f3,t4,f4,t5,f5⟩:=id f)))
   all_goals
    try go_wp2
    go_meet;have aM:=eG.out;have bo:=mX.size;have wu:=al.size;obtain⟨I,P,p0,q1,X,Q,p2,M,Z,E,p4,B,T⟩:=id q;obtain⟨J,q6,p6,V,U,q8,p8,q9,p9,Y,aa,ac,ab⟩:=id d
   .exact⟨w2.heap.size,ra,rc,s,sa,sc,rfl,AU,qN6,qN6,qN6,own_ne j (B7 _),(Joins.ownsRow_le j (by show _<=W.heap.size;omega)).alloc _,(hS.box _).sub (λ_ h=>h) BB,Ce a9 _⟩
   .have e1:w.heap.size≠H.heap.size:=by omega
    have e2:w.heap.size+1≠H.heap.size:=AU
    exact⟨H.heap.size,ra,rc,s,sa,sc,rfl,AU,qN6,qN6,qN6,af,D6 (D6 (D6 (D6 (D6 (D6 (Joins.ownsRow_le j (by show _<=W.heap.size;omega)) af) af) af) af) af) af,(hS.set6 (.head _)).sub (λ_ h=>h) BB,AX⟩
   .have e1:w.heap.size≠W.heap.size:=by omega
    have e2:w.heap.size+1≠W.heap.size:=AU
    have R:(Value.slice ra g.length rc).ownBlock≠some W.heap.size:=λe=>by have h1:=(j.lt _ e).1;simp only[World.size_drew,World.size_alloc] at h1;omega
    exact⟨W.heap.size,ra,rc,s,sa,sc,rfl,AU,qN6,qN6,qN6,R,D6 (D6 (D6 (D6 (D6 (D6 (Joins.ownsRow_le j (by simp only[World.size_drew,World.size_alloc];omega)) R) R) R) R) R) R,(hS.set6 AW).sub (λ_ h=>XS h) BB,AX⟩
  case rest=>
   clear hS q d ah eG H1 H2;obtain⟨O,m,r,s,G,D,rfl,hO,q,d,f,S,j,hS,F⟩:=hcut;obtain⟨t,ht⟩:∃t,t=Ai n:=⟨_,rfl⟩
   obtain⟨N,hN⟩:∃N,N=Stil.netOf n:=⟨_,rfl⟩
   have fH:Hid (t=true->N=Stil.none0):=λe=>by rw[ht] at e;rw[hN,Stil.netOf,if_pos e,W9 e]
   have gB:Hid (t=false->Bf n=N):=λe=>by rw[ht] at e;rw[hN,Stil.netOf,if_neg yFg]
   rw[<-ht] at H3 H4;rw[<-hN] at HJ HM;clear ht hN;obtain⟨I,P,p0,q1,X,Q,p2,M,Z,E,p4,B,T⟩:=id q;obtain⟨J,q6,p6,V,U,q8,p8,q9,p9,Y,aa,ac,ab⟩:=id d;obtain⟨aL,aQ,a3,a5,aW,fM,gU,fK,gQ,aU,a6,fJ,gK⟩:=id f;go_upto_if 14 with(go_at_call 105;refine(H3 _ AX).mono ?_;rintro e w3 ⟨rfl,ak⟩;replace q:=q.bel ak;replace d:=d.bel ak;replace f:=f.bel ak;replace hS:=hS.bel ak;replace j:=ownsRow_below j ak;have aA:Below w.heap.size w w3:=AX;obtain⟨I,P,p0,q1,X,Q,p2,M,Z,E,p4,B,T⟩:=id q;obtain⟨J,q6,p6,V,U,q8,p8,q9,p9,Y,aa,ac,ab⟩:=id d;obtain⟨aL,aQ,a3,a5,aW,fM,gU,fK,gQ,aU,a6,fJ,gK⟩:=id f)
   go_cut [] (λwd=>∃(z:Option Addr) (y:Nat) (A:Option Addr) (u:Nat),CU wd (w.heap.size+1) (.int .i64 0) (.int .i64 0) (.slice none 0 0) (.slice none 0 0) (.slice none 0 0) (.slice none 0 0)/\CU wd O (.int .i64 N.kind) (.int .i64 N.one.op) (.slice z N.one.args.length y) (.slice A N.kids.length u) (.slice m g.length r) (.slice G L.length D)/\wd.ownsRow (w.heap.size+2) 51 2 (.slice m g.length r) g.length s/\Sv wd (O::(ob (.slice m g.length r)++(w.heap.size+1)::bs)) ((Hm g,s)::([Ic N],[.int .i64 N.kind, .int .i64 N.one.op, .slice z N.one.args.length y, .slice A N.kids.length u])::([sl (Io L)],[.slice G L.length D])::ts)/\Below w.heap.size w wd)
   case first=>
    cases t with
    | true=>
     obtain rfl:=fH BK
     go_wp2
     go_meet;exact⟨none,0,none,0,d,f,j,(hS.snil.mkN (i:=0) (op:=0) (ds:=[]) (ns:=[]) (.head _) (.head _)).sub (λ_ h=>h) (by simp+contextual [Stil.none0]),aA⟩
    | false=>
     have HN:=gB BK;have wP:=Ci (H4 BK);rw[HN] at wP;clear HN fH gB H4
     go_wp2_with (go_at_call 106;refine(wP _ _ _ (by exact aA) hS).mono ?_;rintro e w4 ⟨z,y,A,u,rfl,hS,l⟩;replace q:=q.bel l;replace d:=d.bel l;replace f:=f.bel l;replace j:=ownsRow_below j l;obtain⟨I,P,p0,q1,X,Q,p2,M,Z,E,p4,B,T⟩:=id q;obtain⟨J,q6,p6,V,U,q8,p8,q9,p9,Y,aa,ac,ab⟩:=id d;obtain⟨aL,aQ,a3,a5,aW,fM,gU,fK,gQ,aU,a6,fJ,gK⟩:=id f)
     go_meet;have R:w.heap.size+1≠O:=AU
     exact⟨z,y,A,u,qN6,qN6,D6 (D6 (D6 (D6 j S) S) S) S,(hS.set4 (.head _)).sub (λ_ h=>h) BB,AX⟩
   case rest=>
    clear q d f j hS F aA H3 H4 fH gB;obtain⟨z,y,A,u,d,f,j,hS,F⟩:=hcut
    go_wp2
    go_step3
    go_wp2
    go_loopg [] (H5 L) (λk wr=>∃(N:Stil.B1) (C:List Stil.Elem) (ks:List Stil.B5) (z:Option Addr) (y:Nat) (A:Option Addr) (u:Nat) (m:Option Addr) (r:Nat) (s:List Value) (G:Option Addr) (D:Nat),Hid (Stil.joined ⟨N,C,ks⟩=ag/\Z5 900000 ⟨N,C,ks⟩)/\H5 ks<=k/\CU wr (w.heap.size+1) (.int .i64 0) (.int .i64 0) (.slice none 0 0) (.slice none 0 0) (.slice none 0 0) (.slice none 0 0)/\CU wr O (.int .i64 N.kind) (.int .i64 N.one.op) (.slice z N.one.args.length y) (.slice A N.kids.length u) (.slice m C.length r) (.slice G ks.length D)/\(Value.slice m C.length r).ownBlock≠some O/\wr.ownsRow (w.heap.size+2) 51 2 (.slice m C.length r) C.length s/\Sv wr (O::(ob (.slice m C.length r)++(w.heap.size+1)::bs)) ((Hm C,s)::([Ic N],[.int .i64 N.kind, .int .i64 N.one.op, .slice z N.one.args.length y, .slice A N.kids.length u])::([sl (Io ks)],[.slice G ks.length D])::ts)/\Below w.heap.size w wr)
    case atStart=>exact⟨N,g,L,z,y,A,u,m,r,s,G,D,⟨HJ.symm,HM.out⟩,B7 _,d,f,S,j,hS,F⟩
    case round=>
     clear d f S j hS F HJ HM;obtain⟨N,C,ks,z,y,A,u,m,r,s,G,D,⟨ax,ay⟩,aK,d,f,S,j,hS,F⟩:=hrel;have ao:(∀c,ks=[c]->¬(C=[]\/Ai c.net=true))->ag=⟨N,C,ks⟩:=λbi=>by rw[<-ax,Yx _ bi]
     have zu:C.length<=900000:=by have:=ay.2;rw[Dp] at this;omega
     by_cases hk:ks.length=1
     .obtain⟨c,rfl⟩:=List.length_eq_one_iff.1 hk
      obtain⟨ys,aV,hS⟩:=hS.src (.tail _ (.tail _ (.head _)));obtain⟨e0,f0,e1,f1,e2,f2,e3,f3,rfl,hS⟩:=Sv.opA (n:=c) hS (.head _);obtain⟨b,o,bh,aH,ae⟩:∃b o,G=some ⟨b,o,none⟩/\b<wr.heap.size/\EL wr b o [.int .i64 c.net.kind, .int .i64 c.net.one.op, .slice e0 c.net.one.args.length f0, .slice e1 c.net.kids.length f1, .slice e2 c.coils.length f2, .slice e3 c.kids.length f3]:=by
       obtain⟨ad,cd,h1,h2⟩:=aV;cases h1;rcases h2 with⟨h2,_⟩ | h2
       .cases h2
       .exact h2
      subst bh;obtain⟨aD,aR,aY,aI,oD⟩:=PK ay (B7 _);have y0:wr.cell? ⟨b,o,none⟩=some (.int .i64 c.net.kind):=ae 0 _ rfl;have y1:=ae 1 _ rfl;have y2:=ae 2 _ rfl;have y3:=ae 3 _ rfl;have y4:=ae 4 _ rfl;have y5:=ae 5 _ rfl;have kQ:=Ci (λW (h:Below wr.heap.size wr W)=>Sj c.net _ _ W ((hS.devs (.head _)).below h) ((hS.nets (.tail _ (.head _))).below h) aI);have qC:=Ci (λW g us hs h1 h2 bb F=>mN N C c s z A m (some ⟨b,o,none⟩) e0 e1 e2 e3 y u r D f0 f1 f2 f3 (w.heap.size+2) W g us hs h1 h2 bb F aR aY aI oD.1);obtain⟨aw,aJ⟩:∃aw,aw=Ip N c.net:=⟨_,rfl⟩
      obtain⟨t2,ar⟩:∃t,t=Ai c.net:=⟨_,rfl⟩
      have aj:Hid ((C=[]\/t2=true)->Stil.joined ⟨aw,C++c.coils,c.kids⟩=ag):=λh=>by rw[<-ax,aJ];rw[ar] at h;exact(S3 N C c h).symm
      have kR:Hid (0<C.length->t2=false->ag=⟨N,C,[c]⟩):=λh1 h2=>ao λk e=>by
       cases e;rintro(h | h)
       .rw[h] at h1;exact Hj _ h1
       .rw[<-ar,h2] at h;cases h
      have oL:H5 c.kids<gk:=B8 oD.2 aK;rw[<-aJ] at qC aD;rw[<-ar] at kQ;have dV:=Ci aD;simp only[EZ] at f;obtain⟨I,P,p0,q1,X,Q,p2,M,Z,E,p4,B,T⟩:=id d;obtain⟨J,q6,p6,V,U,q8,p8,q9,p9,Y,aa,ac,ab⟩:=id f;clear ae aV ax ay ao aD aR aY aI oD aJ ar aK;have ba:¬0<C.length\/(0<C.length/\t2=true)\/0<C.length/\t2=false:=by
       by_cases h:0<C.length
       .cases t2
        .exact .inr (.inr ⟨h,rfl⟩)
        .exact .inr (.inl ⟨h,rfl⟩)
       .exact .inl h
      rcases ba with hc | ⟨hc,rfl⟩ | ⟨hc,rfl⟩
      rotate_left 2
      .have hT:=kR hc BK
       clear kR aj qC
       go_wp2_with (go_at_call 105;refine(kQ _ AX).mono ?_;rintro e wz ⟨rfl,l⟩;replace d:=d.bel l;replace f:=f.bel l;replace hS:=hS.bel l;replace j:=ownsRow_below j l;replace F:=Au F l;obtain⟨I,P,p0,q1,X,Q,p2,M,Z,E,p4,B,T⟩:=id d;obtain⟨J,q6,p6,V,U,q8,p8,q9,p9,Y,aa,ac,ab⟩:=id f)
       rw[Exit.noGoto_ret];refine bodyPost_ret (v:=.agg #[.int .i64 N.kind, .int .i64 N.one.op, .slice z N.one.args.length y, .slice A N.kids.length u, .slice m C.length r, .slice (some ⟨b,o,none⟩) 1 D]) (by simp[results,results68,go_sem,P,q1,Q,M,E,B]) rfl ?_;rw[hT];exact⟨_,_,_,_,_,_,_,_,rfl,((hS.armOf (N:=N) (C:=C) (ks:=[c]) (ts:=ts) (xs:=s) AW AW AW j (DN _) (λb hb=>B8 (aZ b hb) (Nat.le_add_right _ 2)) BB).set6 (.head _)).sub (λ_ h=>.tail _ h) (λ_ h=>h),AX⟩
      focus
       have iJ:=Ci (aj (.inl (List.length_eq_zero_iff.1 AU)));clear kR aj kQ;obtain⟨wz,bg⟩:∃wz:World,wz=wr:=⟨wr,rfl⟩
       subst bg;go_upto_region 6 with fail
      rotate_left
      focus
       have iJ:=Ci (aj (.inr BK));clear kR aj;go_upto_region 6 with(go_at_call 105;refine(kQ _ AX).mono ?_;rintro e wz ⟨rfl,l⟩;replace d:=d.bel l;replace f:=f.bel l;replace hS:=hS.bel l;replace j:=ownsRow_below j l;replace F:=Au F l;obtain⟨y0,y1,y2,y3,y4,y5⟩:_/\_/\_/\_/\_/\_:=⟨(Jd l aH).trans y0,(Jd l aH).trans y1,(Jd l aH).trans y2,(Jd l aH).trans y3,(Jd l aH).trans y4,(Jd l aH).trans y5⟩;replace aH:=GM l aH;obtain⟨I,P,p0,q1,X,Q,p2,M,Z,E,p4,B,T⟩:=id d;obtain⟨J,q6,p6,V,U,q8,p8,q9,p9,Y,aa,ac,ab⟩:=id f)
      all_goals
       go_region_with (go_at_call 107;go_loud (refine(qC _ (O::(w.heap.size+1)::bs) _ (hS.drew.sub (us:=(Hm C,s)::([Ic N],[.int .i64 N.kind, .int .i64 N.one.op, .slice z N.one.args.length y, .slice A N.kids.length u])::([J7 c],[.int .i64 c.net.kind, .int .i64 c.net.one.op, .slice e0 c.net.one.args.length f0, .slice e1 c.net.kids.length f1, .slice e2 c.coils.length f2, .slice e3 c.kids.length f3])::([sl (Io c.kids)],[.slice e3 c.kids.length f3])::ts) (λ_ h=>PW h) BB) (.head _) (.tail _ (.head _)) j.drew (by have:=J;show _<=wz.heap.size;omega)).mono ?_;rintro e w5 ⟨g1,k1,g2,k2,a7,c7,zs,rfl,bG,bf,dK,jZ⟩;have bm:=J;have kH:=jZ O J S;replace d:=(d.bel (Below.refl _ wz).drew).gr dK (λe=>by have:=(j.lt _ e).1;omega);replace f:=(f.bel (Below.refl _ wz).drew).gr dK S;have oz:=F.drew.grown dK (by show _<=wz.heap.size;omega) (λk hk=>by have:=(j.lt _ hk).1;omega);obtain⟨I,P,p0,q1,X,Q,p2,M,Z,E,p4,B,T⟩:=id d;obtain⟨J,q6,p6,V,U,q8,p8,q9,p9,Y,aa,ac,ab⟩:=id f))
       all_goals
        go_wp2
        go_roundg (H5 c.kids)
        rotate_left
        .exact oL
        .have R:w.heap.size+1≠O:=by omega
         exact⟨aw,C++c.coils,c.kids,g1,k1,g2,k2,a7,c7,zs,e3,f3,⟨iJ.out,dV.out⟩,B7 _,qN6,by rw[CO];exact qN6,kH,D6 (D6 (D6 (D6 (D6 (D6 bG kH) kH) kH) kH) kH) kH,(bf.set6 (b:=O) AW).sub (λ_ h=>XS h) BB,AX⟩
     .have hT:=ao λc e=>by subst e;exact absurd rfl hk
      have bn:((ks.length:Int) !=1)=true:=by rw[bne_iff_ne];omega
      obtain⟨I,P,p0,q1,X,Q,p2,M,Z,E,p4,B,T⟩:=id d;obtain⟨J,q6,p6,V,U,q8,p8,q9,p9,Y,aa,ac,ab⟩:=id f;clear ax ay ao aK hk
      go_wp2
      rw[Exit.noGoto_ret];refine bodyPost_ret (v:=.agg #[.int .i64 N.kind, .int .i64 N.one.op, .slice z N.one.args.length y, .slice A N.kids.length u, .slice m C.length r, .slice G ks.length D]) (by simp[results,results68,go_sem,P,q1,Q,M,E,B]) rfl ?_;rw[hT];exact⟨_,_,_,_,_,_,_,_,rfl,((hS.armOf (N:=N) (C:=C) (ks:=ks) (ts:=ts) (xs:=s) AW AW AW j (DN _) (λb hb=>B8 (aZ b hb) (Nat.le_add_right _ 2)) BB).set6 (.head _)).sub (λ_ h=>.tail _ h) (λ_ h=>h),AX⟩
