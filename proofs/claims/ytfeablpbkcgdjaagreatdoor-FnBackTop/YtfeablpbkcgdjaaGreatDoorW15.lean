import Derived.Test.YtfeablpbkcgdjaaGreatDoorW14a
import Derived.Test.YtfeablpbkcgdjaaGreatDoorHg
set_option maxHeartbeats 4000000
set_option maxRecDepth 100000
namespace Go.Proofs.YtfeablpbkcgdjaaGreatDoor
open Tryz Stil Go.RowKit Go.Sort Go.BigFrame
theorem XM (k:Int)(kids:List Stil.B1)(ih:∀x∈kids,G4 54 x (Bf x))(v:Value)(w:World)(bs:List Nat)(ts:List (List Tr × List Value))(h:Sv w bs ts)(ak:Eo w v kids)(hl:kids.length<=1048576)(hs:Stil.sizes (kids.map Bf)<=1000000):
  Calls prog 86 #[.int .i64 k,v] w (FU (Il k (Dk k (kids.map Bf))) w bs ts):=by
 obtain⟨a,cap,rfl,hc⟩:=ak;have HA:=Ci hc;have IH:=Ci ih;have an:=h.1;have hS:=(h.box (.cells #[.int .i64 0, .int .i64 0, .slice none 0 0, .slice none 0 0] 54)).box (.cells #[.int .i64 k, .int .i64 0, .slice none 0 0, .slice none 0 0] 54);rw[World.size_alloc] at hS;clear hc ih h;go_enter func86,ntmps86
 go_wp2
 go_loopw [6] (λi wr=>∃(j:Nat) (L:List Stil.B1) (J:Option Addr) (E:Nat) (xs:List Value),j<=kids.length/\i=.int .i64 j/\L=Dk k ((kids.take j).map Bf)/\CW wr w.heap.size (.int .i64 0) (.int .i64 0) (.slice none 0 0) (.slice none 0 0)/\CW wr (w.heap.size+1) (.int .i64 k) (.int .i64 0) (.slice none 0 0) (.slice J L.length E)/\wr.ownsRow (w.heap.size+2) 54 4 (.slice J L.length E) L.length xs/\Sv wr (ob (.slice J L.length E)++(w.heap.size+1)::w.heap.size::bs) ((Jp L,xs)::ts)/\Below w.heap.size w wr) (λi _=>kids.length - (intOf i).toNat)
 case atStart=>exact⟨0,[],none,0,[],AU,rfl,rfl,qN4,qN4,World.ownsRow_nil _ _ _ _,hS.nil,AX⟩
 case round=>
  clear hS;obtain⟨j,L,J,E,xs,hj,rfl,u,f,d,hown,hS,hB⟩:=hrel;by_cases ag:j<kids.length
  .obtain⟨b,o,rfl,ai,hn⟩:=HA j ag
   obtain⟨x0,x1,av,kv,x2,x3,ab,ah⟩:=(N9.below hB _ _ _ hn ai).open;have HI:=Ci (λW (h:Below wr.heap.size wr W) cs us hs=>IH kids[j] (CG ag) av kv W cs us hs (ab.below h) (ah.below h));have t:=vi k kids j ag;have O:=vh k kids (j+1);rw[<-u] at t;have HL:=Ci u;clear u;obtain⟨y,hy⟩:∃y,y=Bf kids[j]:=⟨_,rfl⟩
   rw[<-hy] at HI t;obtain⟨x,hx⟩:∃x,x=kids[j]:=⟨_,rfl⟩
   rw[<-hx] at HI x0 x1 ab ah;obtain⟨H,r0,rfl,_⟩:=ab;obtain⟨G,r1,rfl,_⟩:=ah;clear hn hx hy;obtain⟨N,C,H,q1,G,D,p2,B,R⟩:=id f;obtain⟨X,Z,S,Q,K,V,Y,F,P⟩:=id d;go_upto_region 6 with(go_at_call 54;refine(HI _ A2 _ _ hS).mono ?_;rintro e z ⟨s,r,l,q,rfl,hS,ac⟩)
   replace f:=(f.bel ac).bel (Aa z (.cells #[.int .i64 y.kind, .int .i64 y.one.op, .slice s y.one.args.length r, .slice l y.kids.length q] 54));replace d:=(d.bel ac).bel (Aa z (.cells #[.int .i64 y.kind, .int .i64 y.one.op, .slice s y.one.args.length r, .slice l y.kids.length q] 54));have hN:CW (z.alloc (.cells #[.int .i64 y.kind, .int .i64 y.one.op, .slice s y.one.args.length r, .slice l y.kids.length q] 54)) z.heap.size (.int .i64 y.kind) (.int .i64 y.one.op) (.slice s y.one.args.length r) (.slice l y.kids.length q):=qN4;have hS:=hS.alloc (.cells #[.int .i64 y.kind, .int .i64 y.one.op, .slice s y.one.args.length r, .slice l y.kids.length q] 54);have aa:Below w.heap.size w (z.alloc (.cells #[.int .i64 y.kind, .int .i64 y.one.op, .slice s y.one.args.length r, .slice l y.kids.length q] 54)):=AX;replace hown:=(ownsRow_below hown ac).alloc (.cells #[.int .i64 y.kind, .int .i64 y.one.op, .slice s y.one.args.length r, .slice l y.kids.length q] 54);have aj:z.heap.size<(z.alloc (.cells #[.int .i64 y.kind, .int .i64 y.one.op, .slice s y.one.args.length r, .slice l y.kids.length q] 54)).heap.size:=AW
   obtain⟨W,hW⟩:∃W,W=z.alloc (.cells #[.int .i64 y.kind, .int .i64 y.one.op, .slice s y.one.args.length r, .slice l y.kids.length q] 54):=⟨_,rfl⟩
   rw[<-hW] at f d hN hS aa hown aj ⊢;obtain⟨N,C,H,q1,G,D,p2,B,R⟩:=id f;obtain⟨X,Z,S,Q,K,V,Y,F,P⟩:=id d;obtain⟨au,q8,p8,q9,p9,ao,ap,ay,aw⟩:=id hN;clear hW;by_cases T:y.kind=k
   .rw[if_pos T] at t
    rw[T] at q8;obtain⟨ys,al,hS⟩:=hS.kidsOf (.head _);have ae:L.length+y.kids.length<=2000000:=by rw[<-CO,<-t];omega
    have HN:=Ci t;clear t O
    go_wp2_with (at_builtin;go_loud (refine Bd rfl rfl (Sv.appM (M:=y.kids) _ kd4 hS AW AW Wl al hown AU ae) rfl rfl ?_;rintro v6 w6 ⟨a6,c6,rfl,ad,af,A,-⟩;replace f:=f.gr A (λe=>by have:=(hown.lt _ e).1;omega);replace d:=d.gr A (λe=>by have:=(hown.lt _ e).1;omega);obtain⟨N,C,H,q1,G,D,p2,B,R⟩:=id f;obtain⟨X,Z,S,Q,K,V,Y,F,P⟩:=id d))
    refine⟨⟨j+1,L++y.kids,a6,c6,_,AU,by go_num,HN.symm,qN4,by rw[CO];exact qN4,ownsRow_setCell_below ad (DN _) _,(af.set AW).sub (λ_ h=>h) BB,?_⟩,by simp[intOf];omega⟩;exact(aa.grown A AU (λk hk=>by have:=(hown.lt _ hk).1;omega)).setCell AW _
   .rw[if_neg T] at t
    have o9:(y.kind==k)=false:=by rw[CJ];exact T
    have ae:L.length<=1900000:=by rw[t,CO] at O;simp only[EZ] at O;omega
    have HN:=Ci t;clear t O
    go_wp2_with (at_builtin;go_loud (refine Bd rfl rfl (Sv.pushM (x:=y) _ kd4 hS AW (.head _) Wl hown AU ae) rfl rfl ?_;rintro v6 w6 ⟨a6,c6,rfl,ad,af,A,-⟩;replace f:=f.gr A (λe=>by have:=(hown.lt _ e).1;omega);replace d:=d.gr A (λe=>by have:=(hown.lt _ e).1;omega);obtain⟨N,C,H,q1,G,D,p2,B,R⟩:=id f;obtain⟨X,Z,S,Q,K,V,Y,F,P⟩:=id d))
    refine⟨⟨j+1,L++[y],a6,c6,_,AU,by go_num,HN.symm,qN4,by rw[CO,EZ];exact qN4,ownsRow_setCell_below ad (DN _) _,(af.set AW).sub (λ_ h=>h) BB,?_⟩,by simp[intOf];omega⟩;exact(aa.grown A AU (λk hk=>by have:=(hown.lt _ hk).1;omega)).setCell AW _
  .obtain rfl:j=kids.length:=by omega
   rw[IY] at u;obtain⟨N,C,H,q1,G,D,p2,B,R⟩:=id f;obtain⟨X,Z,S,Q,K,V,Y,F,P⟩:=id d;by_cases h1:L.length=1
   .obtain⟨m,rfl⟩:=List.length_eq_one_iff.1 h1
    obtain⟨c,ax,rfl,hS⟩:=hS.fst (.head _);obtain⟨s,r,l,q,rfl,hS⟩:=hS.opN (.head _);obtain⟨g,c,hv,_,ar,_,I⟩:=G7 hown AW;simp only[Value.slice.injEq] at hv;obtain⟨rfl,_,rfl⟩:=hv;have y0:=I 0 _ rfl;have y1:=I 1 _ rfl;have y2:=I 2 _ rfl;have y3:=I 3 _ rfl;have eP:Hid (Il k (Dk k (kids.map Bf))=m):=by show _=_;rw[<-u];rfl
    clear u I HA IH;simp only[EZ] at F
    go_wp2
    refine bodyPost_ret (v:=.agg #[.int .i64 m.kind, .int .i64 m.one.op, .slice s m.one.args.length r, .slice l m.kids.length q]) (by simp[results,results86,go_sem,C,q1,D,B]) rfl ?_;rw[eP.out];exact⟨_,_,_,_,rfl,((((hS.set AW).set AW).set AW).set AW).sub BB BB,AX⟩
   .have eP:Hid (Il k (Dk k (kids.map Bf))=⟨k,⟨0,[]⟩,L⟩):=by
     show _=_
     rw[<-u];exact dif_neg h1
    have e1:((L.length:Int)==1)=false:=by rw[CJ];omega
    have e2:¬((L.length:Int)=1):=AU
    replace hS:=(hS.ice (.head _) yBi (λb U=>by simp only[C2] at U;rcases U with rfl | rfl | U;omega;omega;have:=an b U;omega)).snil;replace hS:=Sv.mkN (i:=k) (op:=0) (ds:=[]) hS (.head _) (.tail _ (.head _));clear u HA IH
    go_wp2
    refine bodyPost_ret (v:=.agg #[.int .i64 k, .int .i64 0, .slice none 0 0, .slice J L.length E]) (by simp[results,results86,go_sem,C,q1,D,B]) rfl ?_;rw[eP.out];exact⟨_,_,_,_,rfl,((((hS.set AW).set AW).set AW).set AW).sub BB BB,AX⟩
theorem zG (x y:Stil.B1)(hx:G4 54 x y):G4 54 ⟨4,⟨0,[]⟩,[x]⟩ ⟨4,⟨0,[]⟩,[y]⟩:=by
 intro av kv w Q J h aa ab;obtain⟨q,m,rfl,-⟩:=aa;obtain⟨yI,t,rfl,r⟩:=ab;obtain⟨b,o,rfl,f,k⟩:=r 0 AW;simp only[FM,ER,GI] at k;obtain⟨B,E,R,yF,F,A,s,z⟩:=k.open;have Z:=Ci (λW (h:Below w.heap.size w W) cs X O=>hx R yF W cs X O (s.below h) (z.below h));have ad:=h.1;obtain⟨L,uw,rfl,-⟩:=s;obtain⟨S,T,rfl,-⟩:=z;clear hx k r;simp only[CM,EZ];go_enter func54,ntmps54;go_upto_region 6 with fail
 obtain⟨W,d⟩:∃W,W=(w.alloc (.cells #[.int .i64 4, .int .i64 0, .slice q 0 m, .slice (some ⟨b,o,none⟩) 1 t] 54)).alloc (.cells #[.int .i64 0, .int .i64 0, .slice none 0 0, .slice none 0 0] 54):=⟨_,rfl⟩
 rw[<-d];have e:CW W w.heap.size (.int .i64 4) (.int .i64 0) (.slice q 0 m) (.slice (some ⟨b,o,none⟩) 1 t):=by rw[d];exact qN4
 have g:CW W (w.heap.size+1) (.int .i64 0) (.int .i64 0) (.slice none 0 0) (.slice none 0 0):=by rw[d];exact qN4
 have hS:Sv W ((w.heap.size+1)::Q) J:=by rw[d];simpa using(h.alloc _).box _
 have c:Below w.heap.size w W:=by rw[d];exact Ce (Aa _ _) _
 clear d h;obtain⟨Y,q0,p0,q1,p1,P,p2,M,K⟩:=id e;obtain⟨G,u,U,D,I,H,V,C,p7⟩:=id g;have B:W.cell? ⟨b,o,none⟩=some (.int .i64 x.kind):=(c.cell (p:=⟨b,o,none⟩) f).trans B;have E:W.cell? ⟨b,o+1,none⟩=some (.int .i64 x.one.op):=(c.cell (p:=⟨b,o+1,none⟩) f).trans E;have F:W.cell? ⟨b,o+2,none⟩=some (.slice L x.one.args.length uw):=(c.cell (p:=⟨b,o+2,none⟩) f).trans F;have A:W.cell? ⟨b,o+3,none⟩=some (.slice S x.kids.length T):=(c.cell (p:=⟨b,o+3,none⟩) f).trans A
 go_region_law (go_simp;go_at_call 54;refine(Z _ (by exact c.drew) _ _ hS.drew).mono ?_;rintro ae j ⟨s0,t0,s1,N,rfl,hS,ac⟩;have l:Below W.heap.size W j:=((Below.refl W.heap.size W).drew).trans ac;replace e:=e.bel l;replace g:=g.bel l;obtain⟨Y,q0,p0,q1,p1,P,p2,M,K⟩:=id e;obtain⟨G,u,U,D,I,H,V,C,p7⟩:=id g)
 all_goals
  try go_wp2
  refine bodyPost_ret (v:=.agg #[.int .i64 4, .int .i64 0, .slice none 0 0, .slice (some ⟨j.heap.size,0,none⟩) 1 1]) (by simp[results,results54,go_sem,u,D,H,C,G]) rfl ?_;exact⟨_,_,_,_,rfl,(((hS.set4 (.head _)).lit (n:=j.heap.size) (.head _) #[.int .i64 y.kind, .int .i64 y.one.op, .slice s0 y.one.args.length t0, .slice s1 y.kids.length N] 54 rfl (by simp)).snil.mkN (i:=4) (op:=0) (ds:=[]) (ns:=[y]) (.head _) (.tail _ (.head _))).sub BB BB,by have fV:Below w.heap.size w j:=c.trans (l.mono c.size);exact AX⟩
theorem zA (e:Stil.Elem)(Q:e.args.length<=1048576):G4 54 ⟨1,e,[]⟩ ⟨1,e,[]⟩:=by
 intro av kv w K G h x U;have S:=Ci (λW (h:Below w.heap.size w W)=>x.below h);have aa:=h.1;obtain⟨j,g,rfl,-⟩:=x;obtain⟨t,s,rfl,-⟩:=U;simp only[CM];go_enter func54,ntmps54;go_upto_region 7 with fail
 obtain⟨W,c⟩:∃W,W=(w.alloc (.cells #[.int .i64 1, .int .i64 e.op, .slice j e.args.length g, .slice t 0 s] 54)).alloc (.cells #[.int .i64 0, .int .i64 0, .slice none 0 0, .slice none 0 0] 54):=⟨_,rfl⟩
 rw[<-c];have d:CW W w.heap.size (.int .i64 1) (.int .i64 e.op) (.slice j e.args.length g) (.slice t 0 s):=by rw[c];exact qN4
 have f:CW W (w.heap.size+1) (.int .i64 0) (.int .i64 0) (.slice none 0 0) (.slice none 0 0):=by rw[c];exact qN4
 have hS:Sv W ((w.heap.size+1)::K) G:=by rw[c];simpa using(h.alloc _).box _
 have y:W.heap.size=w.heap.size+2:=by rw[c];simp
 have l:Below w.heap.size w W:=by rw[c];exact Ce (Aa _ _) _
 clear c h;obtain⟨P,q0,R,q1,Z,J,p2,I,H⟩:=id d;obtain⟨C,u,L,A,E,D,M,z,V⟩:=id f;have eG:=Ci y;clear y
 go_region_held3 (λq=>(q.cell? ⟨w.heap.size,0,none⟩=some (.int .i64 1)/\q.cell? ⟨w.heap.size,1,none⟩=some (.int .i64 e.op)/\q.cell? ⟨w.heap.size,2,none⟩=some (.slice j e.args.length g))) (first | with_reducible assumption | (refine⟨?_,?_,?_⟩<;>exact BN)) (go_loud (refine I9 rfl rfl (Sv.copyDevs (N:=W.heap.size) (B:=W.heap.size) _ (hS.box (.cells #[] 92)).drew (S.out _ (by exact(Ce l _).drew)) (by exact(World.ownsRow_lit W #[] 0 (B7 _) BI rfl).drew) (λb F=>hS.1 b F) (by simp) (CB Q (by decide))) rfl rfl ?_;rintro v5 r ⟨O,c5,rfl,X,Y⟩;have m:Below W.heap.size W r:=(Aa W _).drew.grown Y (by simp) (λk T=>by cases T;exact B7 _);replace d:=d.bel m;replace f:=f.bel m;obtain⟨P,q0,R,q1,Z,J,p2,I,H⟩:=id d;obtain⟨C,u,L,A,E,D,M,z,V⟩:=id f))
 all_goals
  try go_wp2
  refine bodyPost_ret (v:=.agg #[.int .i64 1, .int .i64 e.op, .slice O e.args.length c5, .slice none 0 0]) (by simp[results,results54,go_sem,u,A,D,z]) rfl ?_;exact⟨_,_,_,_,rfl,((X.snil.mkN (i:=1) (op:=e.op) (ds:=e.args) (ns:=[]) (.tail _ (.head _)) (.head _)).set4 (.head _)).sub BB BB,by have fV:Below w.heap.size w r:=l.trans (m.mono l.size);exact AX⟩
theorem OI (n:Stil.B1):Bi n->Aj n=0->Ac n<=1000000->G4 54 n (Bf n):=by
 induction n using Fv with
 | h k e kids g=>
  intro z j u;obtain⟨_,y,B,d⟩:=(Gn _ _ _).1 z;obtain⟨t,f⟩:=UT u;rcases Fg j with⟨rfl,rfl⟩ | ⟨l,M,q⟩ | ⟨rfl,rfl,x,rfl,C⟩
  .rw[show Bf ⟨1,e,[]⟩=⟨1,e,[]⟩ from by rw[Iu,if_neg AU];rfl]
   exact zA e y.2.1
  .rw[Iu,if_pos l]
   intro F m w Y V h J A;have r:=Ci (λW (R:Below w.heap.size w W) L G E=>XM k kids (λx c=>g x c (d x c) (q x c) (f x c)) m W L G E (A.below R) B t);have hS:=(h.alloc (.cells #[.int .i64 k, .int .i64 e.op,F,m] 54)).box (.cells #[.int .i64 0, .int .i64 0, .slice none 0 0, .slice none 0 0] 54);rw[World.size_alloc] at hS;obtain⟨p0,X,rfl,-⟩:=J;obtain⟨p1,r1,rfl,-⟩:=A;obtain⟨N,s⟩:∃N,N=Il k (Dk k (kids.map Bf)):=⟨_,rfl⟩
   rw[<-s] at r ⊢;clear g z y B d j u t f q M s h;rcases l with rfl | rfl
   all_goals
    go_enter func54,ntmps54
    go_wp2_with (go_at_call 86;refine(r _ AX _ _ hS).mono ?_;rintro e K ⟨O,S,I,D,rfl,hS,aa⟩;obtain⟨ab,H,Z,Q,U,T,p6,P,p7⟩:CW K (w.heap.size+1) (.int .i64 0) (.int .i64 0) (.slice none 0 0) (.slice none 0 0):=qB4)
    refine bodyPost_ret (v:=.agg #[.int .i64 N.kind, .int .i64 N.one.op, .slice O N.one.args.length S, .slice I N.kids.length D]) (by simp[results,results54,go_sem,H,Q,T,P]) rfl ?_;exact⟨_,_,_,_,rfl,(hS.set4 (.head _)).sub (λ_ h=>.tail _ h) (λ_ h=>h),AX⟩
  .rw[show Bf ⟨4,⟨0,[]⟩,[x]⟩=⟨4,⟨0,[]⟩,[Bf x]⟩ from by rw[Iu,if_neg AU];rfl]
   exact zG x _ (g x AW (d x AW) C (f x AW))
theorem Xq (n:Stil.B1)(a b:Value)(w:World)(i:Ak w a n.one.args)(f:Eo w b n.kids)(c:Bi n):
  Calls prog 53 #[.agg #[.int .i64 n.kind, .int .i64 n.one.op,a,b]] w λe g=>e=.returned (.bool (Ai n))/\Below w.heap.size w g:=by
 obtain⟨_,d,j,_⟩:=Dw c;exact NU n a b w i f (by have:=d.2.1;omega) AU
theorem cD (X Y:Stil.B1)(s j r m:Option Addr)(c l d g:Nat)(w:World)(bs:List Nat)(ts:List (List Tr × List Value))(h:Sv w bs ts)
  (h1:([Ic X],[.int .i64 X.kind, .int .i64 X.one.op, .slice s X.one.args.length c, .slice j X.kids.length l])∈ts) (h2:([Ic Y],[.int .i64 Y.kind, .int .i64 Y.one.op, .slice r Y.one.args.length d, .slice m Y.kids.length g])∈ts) (P:Stil.sizes [X,Y]<=999999) (R:Gi X) (ac:Gi Y) (O:Bi X) (M:Bi Y):
  Calls prog 55 #[.agg #[.int .i64 X.kind, .int .i64 X.one.op, .slice s X.one.args.length c, .slice j X.kids.length l], .agg #[.int .i64 Y.kind, .int .i64 Y.one.op, .slice r Y.one.args.length d, .slice m Y.kids.length g]] w (FU (Ip X Y) w bs ts):=by
 have y:∀(Z:Stil.B1) (u v:Option Addr) (p q:Nat),([Ic Z],[.int .i64 Z.kind, .int .i64 Z.one.op, .slice u Z.one.args.length p, .slice v Z.kids.length q])∈ts->Bi Z->∀W,Below w.heap.size w W->Calls prog 53 #[.agg #[.int .i64 Z.kind, .int .i64 Z.one.op, .slice u Z.one.args.length p, .slice v Z.kids.length q]] W λe w'=>e=.returned (.bool (Ai Z))/\Below W.heap.size W w':=λZ u v p q J hf W G=>by
  obtain⟨_,_,_,_,he,hS⟩:=(h.bel G).opN J;cases he;exact Xq Z _ _ W (hS.devs (.head _)) (hS.nets (.tail _ (.head _))) hf
 have fH:=Ci (y X _ _ _ _ h1 O);have gB:=Ci (y Y _ _ _ _ h2 M);have I:Hid (Ai X=false->Ai Y=false->∀W F,Sv W F ts->Calls prog 86 #[.int .i64 2, .slice (some ⟨W.heap.size,0,none⟩) 2 2] (W.alloc (.cells #[.int .i64 X.kind, .int .i64 X.one.op, .slice s X.one.args.length c, .slice j X.kids.length l, .int .i64 Y.kind, .int .i64 Y.one.op, .slice r Y.one.args.length d, .slice m Y.kids.length g] 54)) (FU (Ip X Y) (W.alloc (.cells #[.int .i64 X.kind, .int .i64 X.one.op, .slice s X.one.args.length c, .slice j X.kids.length l, .int .i64 Y.kind, .int .i64 Y.one.op, .slice r Y.one.args.length d, .slice m Y.kids.length g] 54)) F ts)):=by
  intro E H W F G;have x1:Stil.fine X:=R.resolve_left (by rw[E];exact Ek);have x2:Stil.fine Y:=ac.resolve_left (by rw[H];exact Ek);have J:[X,Y].map Bf=[X,Y]:=by simp only[CN,EB];rw[LO x1,LO x2]
  have hL:=(G.cat h1 h2).lit (n:=W.heap.size) (.head _) #[.int .i64 X.kind, .int .i64 X.one.op, .slice s X.one.args.length c, .slice j X.kids.length l, .int .i64 Y.kind, .int .i64 Y.one.op, .slice r Y.one.args.length d, .slice m Y.kids.length g] 54 rfl rfl
  have:=XM 2 [X,Y] (λx L=>by
   rcases List.mem_cons.1 L with rfl | L
   .exact OI _ O x1.2.2 (by simp[Stil.sizes] at P;omega)
   .rw[List.mem_singleton.1 L]
    exact OI _ M x2.2.2 (by simp[Stil.sizes] at P;omega)) _ _ F ts (G.alloc _) (Sv.nets (ns:=[X,Y]) hL (.head _)) AW (by rw[J];omega)
  rw[J] at this;rw[Ip,if_neg (by rw[E];exact Ek),if_neg (by rw[H];exact Ek)];exact this
 have hS:=((h.alloc (.cells #[.int .i64 X.kind, .int .i64 X.one.op, .slice s X.one.args.length c, .slice j X.kids.length l] 54)).alloc (.cells #[.int .i64 Y.kind, .int .i64 Y.one.op, .slice r Y.one.args.length d, .slice m Y.kids.length g] 54)).box (.cells #[.int .i64 0, .int .i64 0, .slice none 0 0, .slice none 0 0] 54);rw[World.size_alloc,World.size_alloc] at hS;obtain⟨N,y⟩:∃N,N=Ip X Y:=⟨_,rfl⟩
 have HX:Hid (Ai X=true->N=Y):=λe=>by rw[y,Ip,if_pos e]
 have Q:Hid (Ai X=false->Ai Y=true->N=X):=λe f=>by rw[y,Ip,if_neg yFg,if_pos f]
 rw[<-y] at I ⊢;obtain⟨E,V⟩:∃t,t=Ai X:=⟨_,rfl⟩
 obtain⟨H,S⟩:∃t,t=Ai Y:=⟨_,rfl⟩
 rw[<-V] at fH I HX Q;rw[<-S] at gB I Q;clear y V S P R ac O M h;go_enter func55,ntmps55;go_upto_if 6 with(go_at_call 53;refine(fH _ AX).mono ?_;rintro e K ⟨rfl,af⟩;replace hS:=hS.bel af;obtain⟨ad,q0,p0,q1,p1,q2,p2,q3,p3⟩:CW K w.heap.size (.int .i64 X.kind) (.int .i64 X.one.op) (.slice s X.one.args.length c) (.slice j X.kids.length l):=qB4;obtain⟨ag,q4,p4,q5,p5,q6,p6,q7,p7⟩:CW K (w.heap.size+1) (.int .i64 Y.kind) (.int .i64 Y.one.op) (.slice r Y.one.args.length d) (.slice m Y.kids.length g):=qB4;obtain⟨aa,B,p8,A,T,z,U,D,ab⟩:CW K (w.heap.size+1+1) (.int .i64 0) (.int .i64 0) (.slice none 0 0) (.slice none 0 0):=qB4;have ai:Below w.heap.size w K:=AX)
 cases E with
 | true=>
  obtain rfl:=HX BK
  go_wp2
  refine bodyPost_ret (v:=.agg #[.int .i64 N.kind, .int .i64 N.one.op, .slice r N.one.args.length d, .slice m N.kids.length g]) (by simp[results,results55,go_sem,B,A,z,D]) rfl ?_;exact⟨_,_,_,_,rfl,((hS.cat h2 h2).set4 (.head _)).sub (λ_ h=>.tail _ h) (List.forall_mem_cons.2 ⟨.tail _ h2,λ_ h=>.tail _ h⟩),AX⟩
 | false=>
  go_upto_if 9 with(go_at_call 53;refine(gB _ AX).mono ?_;rintro e C ⟨rfl,ae⟩;replace hS:=hS.bel ae;obtain⟨ad,q0,p0,q1,p1,q2,p2,q3,p3⟩:CW C w.heap.size (.int .i64 X.kind) (.int .i64 X.one.op) (.slice s X.one.args.length c) (.slice j X.kids.length l):=qB4;obtain⟨ag,q4,p4,q5,p5,q6,p6,q7,p7⟩:CW C (w.heap.size+1) (.int .i64 Y.kind) (.int .i64 Y.one.op) (.slice r Y.one.args.length d) (.slice m Y.kids.length g):=qB4;obtain⟨aa,B,p8,A,T,z,U,D,ab⟩:CW C (w.heap.size+1+1) (.int .i64 0) (.int .i64 0) (.slice none 0 0) (.slice none 0 0):=qB4;have ah:Below w.heap.size w C:=AX)
  cases H with
  | true=>
   obtain rfl:=Q BK BK
   go_wp2
   refine bodyPost_ret (v:=.agg #[.int .i64 N.kind, .int .i64 N.one.op, .slice s N.one.args.length c, .slice j N.kids.length l]) (by simp[results,results55,go_sem,B,A,z,D]) rfl ?_;exact⟨_,_,_,_,rfl,((hS.cat h1 h1).set4 (.head _)).sub (λ_ h=>.tail _ h) (List.forall_mem_cons.2 ⟨.tail _ h1,λ_ h=>.tail _ h⟩),AX⟩
  | false=>
   go_wp2_with (go_at_call 86;refine(I BK BK C _ hS).mono ?_;rintro e w3 ⟨u1,m1,u2,m2,rfl,hS,aj⟩;obtain⟨aa,B,p8,A,T,z,U,D,ab⟩:CW w3 (w.heap.size+1+1) (.int .i64 0) (.int .i64 0) (.slice none 0 0) (.slice none 0 0):=qB4)
   refine bodyPost_ret (v:=.agg #[.int .i64 N.kind, .int .i64 N.one.op, .slice u1 N.one.args.length m1, .slice u2 N.kids.length m2]) (by simp[results,results55,go_sem,B,A,z,D]) rfl ?_;exact⟨_,_,_,_,rfl,(hS.set4 (.head _)).sub (λ_ h=>.tail _ h) (λ_ h=>h),AX⟩
theorem zH (a:Stil.B5):Ba a->Ah a<=900000->Jo a->K1 29 a (Dv a):=by
 induction a using Fb with
 | h n r kids ih=>
  intro aQ aJ bn av nv cv kv w bs ts h ap au aw ay;obtain⟨aS,bp,bf,bw,aX⟩:=(Eu _ _ _).1 aQ;obtain⟨aT,a3⟩:=(Oz _ _ _).1 bn;simp only at ap au aw ay;have bb:=aJ;rw[Dp] at bb;have aP:∀x∈kids,Ah x<=900000:=by
   intro x hx;have:Ah x<=H5 kids:=Em Ah kids x hx;omega
  have bS:kids.length<=999999:=by have h1:=Nu kids;omega
  have H1:=Ci (λW (h:Below w.heap.size w W) r us hs=>yS _ cv W r us hs (aw.below h) AU bf);have H2:=Ci (λx hx=>ih x hx (aX x hx) (aP x hx) (a3 x hx));have H3:=Ci (λW (h:Below w.heap.size w W)=>Xq n av nv W (ap.below h) (au.below h) aS);have H4:Hid (Ai n=false->∀W r us,Below w.heap.size w W->Sv W r us->Calls prog 54 #[.agg #[.int .i64 n.kind, .int .i64 n.one.op,av,nv]] W (FU (Bf n) W r us)):=λhn W r us h hs=>OI n aS (aT.resolve_left (by rw[hn];exact Ek)) yFc av nv W r us hs (ap.below h) (au.below h)
  have dP:=Ci (λW (h:Below w.heap.size w W)=>ay.below h);have HJ:=Ci (Na n r kids);have HM:Hid (Z5 900000 ⟨Stil.netOf n,r,kids.map Dv⟩):=by
   have:=OP aQ aJ (λx hx=>Xu x (aX x hx) (aP x hx))
   exact⟨this.1,CB this.2 aJ⟩
  have qI:Hid (Ep ⟨Stil.netOf n,r,kids.map Dv⟩):=(D8 _ _ _).2 ⟨Qp aT,λx hx=>by obtain⟨ae,hy,rfl⟩:=List.mem_map.1 hx;exact Rz ae (a3 ae hy)⟩;have aZ:=h.1;obtain⟨az,hT⟩:∃az,az=Dv ⟨n,r,kids⟩:=⟨_,rfl⟩
  rw[<-hT] at HJ ⊢;have hS:=(h.alloc (.cells #[.int .i64 n.kind, .int .i64 n.one.op,av,nv,cv,kv] 60)).box (.cells #[.int .i64 0, .int .i64 0, .slice none 0 0, .slice none 0 0, .slice none 0 0, .slice none 0 0] 60);rw[World.size_alloc] at hS;obtain⟨s0,n0,rfl,-⟩:=ap;obtain⟨s1,n1,rfl,-⟩:=au;obtain⟨s2,n2,rfl,-⟩:=aw;obtain⟨s3,n3,rfl,-⟩:=ay;clear ih aQ aJ bb aS bp bf bw aX aP hT bn aT a3 h;go_enter func29,ntmps29;go_upto_region 1 with fail
  go_cut [3] (λbJ wc=>∃(O:Nat) (y:Option Addr) (z:Nat) (x3:List Value),bJ=.pointer (some ⟨O,0,none⟩)/\w.heap.size+2<=O/\CU wc w.heap.size (.int .i64 n.kind) (.int .i64 n.one.op) (.slice s0 n.one.args.length n0) (.slice s1 n.kids.length n1) (.slice s2 r.length n2) (.slice s3 kids.length n3)/\CU wc (w.heap.size+1) (.int .i64 0) (.int .i64 0) (.slice none 0 0) (.slice none 0 0) (.slice none 0 0) (.slice none 0 0)/\CU wc O (.int .i64 0) (.int .i64 0) (.slice none 0 0) (.slice none 0 0) (.slice y r.length z) (.slice none 0 0)/\(Value.slice y r.length z).ownBlock≠some O/\wc.ownsRow (w.heap.size+2) 51 2 (.slice y r.length z) r.length x3/\Sv wc (O::(ob (.slice y r.length z)++(w.heap.size+1)::bs)) ((Hm r,x3)::ts)/\Below w.heap.size w wc)
  case first=>
   go_wp2_with (go_at_call 52;refine(H1 _ AX _ _ hS).mono ?_;rintro e w1 ⟨y,z,x3,rfl,s,hS,g⟩;obtain⟨U,G,p0,q1,Y,I,p2,F,p3,J,p4,E,T⟩:CU w1 w.heap.size (.int .i64 n.kind) (.int .i64 n.one.op) (.slice s0 n.one.args.length n0) (.slice s1 n.kids.length n1) (.slice s2 r.length n2) (.slice s3 kids.length n3):=qB6;obtain⟨H,q6,p6,X,V,q8,p8,q9,p9,Z,aa,ac,ab⟩:CU w1 (w.heap.size+1) (.int .i64 0) (.int .i64 0) (.slice none 0 0) (.slice none 0 0) (.slice none 0 0) (.slice none 0 0):=qB6)
   go_meet;have hz:=g.size;simp only[World.size_alloc] at hz;exact⟨w1.heap.size,y,z,x3,rfl,AU,qN6,qN6,qN6,own_ne s (B7 _),(Joins.ownsRow_le s AW).alloc _,hS.box _,AX⟩
  case rest=>
   clear hS H1;obtain⟨O,y,z,x3,rfl,hO,B,g,m,dA,s,hS,D⟩:=hcut;obtain⟨t,ht⟩:∃t,t=Ai n:=⟨_,rfl⟩
   obtain⟨N,hN⟩:∃N,N=Stil.netOf n:=⟨_,rfl⟩
   have fH:Hid (t=true->N=Stil.none0):=λe=>by rw[ht] at e;rw[hN,Stil.netOf,if_pos e,W9 e]
   have gB:Hid (t=false->Bf n=N):=λe=>by rw[ht] at e;rw[hN,Stil.netOf,if_neg yFg]
   rw[<-ht] at H3 H4;rw[<-hN] at HJ HM qI;clear ht hN;obtain⟨U,G,p0,q1,Y,I,p2,F,p3,J,p4,E,T⟩:=id B;obtain⟨H,q6,p6,X,V,q8,p8,q9,p9,Z,aa,ac,ab⟩:=id g;obtain⟨ah,ai,al,an,ak,fM,gU,fK,gQ,aj,ao,fJ,gK⟩:=id m;go_upto_if 13 with(go_at_call 53;refine(H3 _ AX).mono ?_;rintro e w3 ⟨rfl,ag⟩;replace B:=B.bel ag;replace g:=g.bel ag;replace m:=m.bel ag;replace hS:=hS.bel ag;replace s:=ownsRow_below s ag;have aO:Below w.heap.size w w3:=AX;obtain⟨U,G,p0,q1,Y,I,p2,F,p3,J,p4,E,T⟩:=id B;obtain⟨H,q6,p6,X,V,q8,p8,q9,p9,Z,aa,ac,ab⟩:=id g;obtain⟨ah,ai,al,an,ak,fM,gU,fK,gQ,aj,ao,fJ,gK⟩:=id m)
   go_cut [] (λwd=>∃(Q:Option Addr) (P:Nat) (R:Option Addr) (K:Nat),CU wd w.heap.size (.int .i64 n.kind) (.int .i64 n.one.op) (.slice s0 n.one.args.length n0) (.slice s1 n.kids.length n1) (.slice s2 r.length n2) (.slice s3 kids.length n3)/\CU wd (w.heap.size+1) (.int .i64 0) (.int .i64 0) (.slice none 0 0) (.slice none 0 0) (.slice none 0 0) (.slice none 0 0)/\CU wd O (.int .i64 N.kind) (.int .i64 N.one.op) (.slice Q N.one.args.length P) (.slice R N.kids.length K) (.slice y r.length z) (.slice none 0 0)/\wd.ownsRow (w.heap.size+2) 51 2 (.slice y r.length z) r.length x3/\Sv wd (O::(ob (.slice y r.length z)++(w.heap.size+1)::bs)) (([Ic N],[.int .i64 N.kind, .int .i64 N.one.op, .slice Q N.one.args.length P, .slice R N.kids.length K])::(Hm r,x3)::ts)/\Below w.heap.size w wd)
   case first=>
    cases t with
    | true=>
     obtain rfl:=fH BK
     go_wp2
     go_meet;exact⟨none,0,none,0,B,g,m,s,(hS.snil.mkN (i:=0) (op:=0) (ds:=[]) (ns:=[]) (.head _) (.head _)).sub (λ_ h=>h) (by simp+contextual [Stil.none0]),aO⟩
    | false=>
     have HN:=gB BK;have wP:=Ci (H4 BK);rw[HN] at wP;clear HN fH gB H4
     go_wp2_with (go_at_call 54;refine(wP _ _ _ (by exact aO) hS).mono ?_;rintro e w4 ⟨Q,P,R,K,rfl,hS,A⟩;replace B:=B.bel A;replace g:=g.bel A;replace m:=m.bel A;replace s:=ownsRow_below s A;obtain⟨U,G,p0,q1,Y,I,p2,F,p3,J,p4,E,T⟩:=id B;obtain⟨H,q6,p6,X,V,q8,p8,q9,p9,Z,aa,ac,ab⟩:=id g;obtain⟨ah,ai,al,an,ak,fM,gU,fK,gQ,aj,ao,fJ,gK⟩:=id m)
     go_meet;have bL:w.heap.size≠O:=AU
     have bz:w.heap.size+1≠O:=AU
     exact⟨Q,P,R,K,qN6,qN6,qN6,D6 (D6 (D6 (D6 s dA) dA) dA) dA,hS.set4 (.head _),AX⟩
   case rest=>
    clear B g m s hS D aO H3 H4 fH gB;obtain⟨Q,P,R,K,B,g,m,s,hS,D⟩:=hcut
    go_wp2
    go_loopw [4] (λi wr=>∃(j:Nat) (L:List Stil.B5) (a4:Option Addr) (c4:Nat) (x4:List Value),j<=kids.length/\i=.int .i64 j/\Hid (L=(kids.take j).map Dv)/\L.length<=999999/\CU wr w.heap.size (.int .i64 n.kind) (.int .i64 n.one.op) (.slice s0 n.one.args.length n0) (.slice s1 n.kids.length n1) (.slice s2 r.length n2) (.slice s3 kids.length n3)/\CU wr (w.heap.size+1) (.int .i64 0) (.int .i64 0) (.slice none 0 0) (.slice none 0 0) (.slice none 0 0) (.slice none 0 0)/\CU wr O (.int .i64 N.kind) (.int .i64 N.one.op) (.slice Q N.one.args.length P) (.slice R N.kids.length K) (.slice y r.length z) (.slice a4 L.length c4)/\wr.ownsRow (w.heap.size+2) 51 2 (.slice y r.length z) r.length x3/\wr.ownsRow (w.heap.size+2) 60 6 (.slice a4 L.length c4) L.length x4/\(Value.slice a4 L.length c4).ownBlock≠some O/\(∀q,(Value.slice y r.length z).ownBlock=some q->(Value.slice a4 L.length c4).ownBlock≠some q)/\Sv wr (ob (.slice a4 L.length c4)++(O::(ob (.slice y r.length z)++(w.heap.size+1)::bs))) ((Io L,x4)::([Ic N],[.int .i64 N.kind, .int .i64 N.one.op, .slice Q N.one.args.length P, .slice R N.kids.length K])::(Hm r,x3)::ts)/\Below w.heap.size w wr) (λi _=>kids.length - (intOf i).toNat)
    case atStart=>exact⟨0,[],none,0,[],AU,rfl,rfl,AW,B,g,m,s,World.ownsRow_nil _ _ _ _,yDi,yDi,hS.nil,D⟩
    case round=>
     clear B g m s hS D;obtain⟨j,L,a4,c4,x4,hj,rfl,HL,iG,B,g,m,s,bH,xM,aG,hS,D⟩:=hrel;by_cases aY:j<kids.length
     .have bv:=dP wr D
      obtain⟨pa,pc,a9,bg⟩:=bv;simp only[Value.slice.injEq,true_and] at a9;obtain⟨rfl,rfl⟩:=a9;obtain⟨b,o,rfl,bP,hn⟩:=bg j aY;obtain⟨bm,bM,nU,y4,y5,aw,ay⟩:=hn.open;obtain⟨y0,y1,dU,dW,y2,y3,ap,au⟩:=bm.open;have HI:=Ci (λW (h:Below wr.heap.size wr W) r us hs=>H2 kids[j] (CG aY) dU dW bM nU W r us hs (ap.below h) (au.below h) (aw.below h) (ay.below h));have aF:Hid ((kids.take (j+1)).map Dv=L++[Dv kids[j]]):=by show _=_;rw[HL.out,DO aY,CX];rfl
      have bo:(L++[Dv kids[j]]).length<=999999:=by rw[<-aF.out,CP,Fo];omega
      obtain⟨ae,hy⟩:∃ae,ae=Dv kids[j]:=⟨_,rfl⟩
      rw[<-hy] at HI aF bo;obtain⟨x,hx⟩:∃x,x=kids[j]:=⟨_,rfl⟩
      rw[<-hx] at HI y0 y1 ap au aw ay;obtain⟨u0,m0,rfl,-⟩:=ap;obtain⟨u1,m1,rfl,-⟩:=au;obtain⟨u2,m2,rfl,-⟩:=aw;obtain⟨u3,m3,rfl,-⟩:=ay;have bV:(0:Int)<=(j:Int):=AU
      have bN:(j:Int)<(kids.length:Int):=AU
      clear hx hy hn bm bg HL;obtain⟨U,G,p0,q1,Y,I,p2,F,p3,J,p4,E,T⟩:=id B;obtain⟨H,q6,p6,X,V,q8,p8,q9,p9,Z,aa,ac,ab⟩:=id g;obtain⟨ah,ai,al,an,ak,fM,gU,fK,gQ,aj,ao,fJ,gK⟩:=id m;go_upto_region 7 with fail
      go_region_law (first | (refine I9 rfl rfl (Sv.pushM (f:=J7) (x:=ae) (c:=[.int .i64 ae.net.kind, .int .i64 ae.net.one.op, .slice e0 ae.net.one.args.length f0, .slice e1 ae.net.kids.length f1, .slice e2 ae.coils.length f2, .slice e3 ae.kids.length f3]) _ kd6 hS (.tail _ (.head _)) (.head _) Ya bH AU AU) rfl rfl ?_;rintro v6 w6 ⟨a6,c6,rfl,zB,bB,aC,fC⟩;have lU:=fC O ah xM;have bq:=(λq hq=>fC q (s.lt q hq).2 (aG q hq));replace s:=s.kept aC (by cases e:(Value.slice y r.length z).ownBlock with | none=>exact .inl rfl | some q=>exact .inr (λe2=>aG q e e2.symm));replace B:=B.gr aC (λe=>by have:=(bH.lt _ e).1;omega);replace g:=g.gr aC (λe=>by have:=(bH.lt _ e).1;omega);replace m:=m.gr aC xM;have vI:=fV.grown aC AU (λk hk=>by have:=(bH.lt _ hk).1;omega);obtain⟨U,G,p0,q1,Y,I,p2,F,p3,J,p4,E,T⟩:=id B;obtain⟨H,q6,p6,X,V,q8,p8,q9,p9,Z,aa,ac,ab⟩:=id g;obtain⟨ah,ai,al,an,ak,fM,gU,fK,gQ,aj,ao,fJ,gK⟩:=id m) | (go_simp;go_at_call 29;refine(HI _ ((Below.refl _ _).drew) _ _ hS.drew).mono ?_;rintro e w5 ⟨e0,f0,e1,f1,e2,f2,e3,f3,rfl,hS,fP⟩;have af:Below wr.heap.size wr w5:=((Below.refl wr.heap.size wr).drew).trans fP;replace B:=B.bel af;replace g:=g.bel af;replace m:=m.bel af;replace s:=ownsRow_below s af;replace bH:=ownsRow_below bH af;have fV:Below w.heap.size w w5:=Au D af;obtain⟨U,G,p0,q1,Y,I,p2,F,p3,J,p4,E,T⟩:=id B;obtain⟨H,q6,p6,X,V,q8,p8,q9,p9,Z,aa,ac,ab⟩:=id g;obtain⟨ah,ai,al,an,ak,fM,gU,fK,gQ,aj,ao,fJ,gK⟩:=id m))
      all_goals
       try go_wp2
       have bL:w.heap.size≠O:=AU
       have bz:w.heap.size+1≠O:=AU
       exact⟨⟨j+1,L++[ae],a6,c6,_,AU,by go_num,aF.symm,bo,qN6,qN6,by rw[CO,EZ];exact qN6,D6 s dA,D6 zB lU,lU,bq,(bB.set (b:=O) AW).sub (λ_ h=>h) BB,vI.setCell (show _<=O by omega) _⟩,by simp[intOf];omega⟩
     .obtain rfl:j=kids.length:=by omega
      have hL:=HL.out;rw[IY] at hL
      have hS:=(hS.ice2 (.head _) (by rw[CP];exact bH) (λq hq hm=>by
       simp only[C2,Dm] at hm;rcases hm with rfl | hm | rfl | hm
       .exact xM hq
       .exact aG q (by simpa[ob] using hm) hq
       .have:=(bH.lt _ hq).1;omega
       .have:=(bH.lt _ hq).1;have:=aZ q hm;omega)).sub (us:=(Hm r,x3)::([Ic N],[.int .i64 N.kind, .int .i64 N.one.op, .slice Q N.one.args.length P, .slice R N.kids.length K])::([sl (Io L)],[.slice a4 L.length c4])::ts) (λ_ h=>h) BB
      rw[<-hL] at HJ HM qI;clear hL HL H2 dP bH aG xM iG;obtain⟨U,G,p0,q1,Y,I,p2,F,p3,J,p4,E,T⟩:=id B;obtain⟨H,q6,p6,X,V,q8,p8,q9,p9,Z,aa,ac,ab⟩:=id g;obtain⟨ah,ai,al,an,ak,fM,gU,fK,gQ,aj,ao,fJ,gK⟩:=id m;clear B;obtain⟨wo,bK⟩:∃wo:World,wo=wr:=⟨wr,rfl⟩
      subst bK
      go_wp2
      go_loopg [] (H5 L) (λk wr=>∃(N:Stil.B1) (C:List Stil.Elem) (ks:List Stil.B5) (Q:Option Addr) (P:Nat) (R:Option Addr) (K:Nat) (y:Option Addr) (z:Nat) (x3:List Value) (a4:Option Addr) (c4:Nat),Hid (Stil.joined ⟨N,C,ks⟩=az/\Z5 900000 ⟨N,C,ks⟩/\Ep ⟨N,C,ks⟩)/\H5 ks<=k/\CU wr (w.heap.size+1) (.int .i64 0) (.int .i64 0) (.slice none 0 0) (.slice none 0 0) (.slice none 0 0) (.slice none 0 0)/\CU wr O (.int .i64 N.kind) (.int .i64 N.one.op) (.slice Q N.one.args.length P) (.slice R N.kids.length K) (.slice y C.length z) (.slice a4 ks.length c4)/\(Value.slice y C.length z).ownBlock≠some O/\wr.ownsRow (w.heap.size+2) 51 2 (.slice y C.length z) C.length x3/\Sv wr (O::(ob (.slice y C.length z)++(w.heap.size+1)::bs)) ((Hm C,x3)::([Ic N],[.int .i64 N.kind, .int .i64 N.one.op, .slice Q N.one.args.length P, .slice R N.kids.length K])::([sl (Io ks)],[.slice a4 ks.length c4])::ts)/\Below w.heap.size w wr)
      case atStart=>exact⟨N,r,L,Q,P,R,K,y,z,x3,a4,c4,⟨HJ.symm,HM.out,qI.out⟩,B7 _,g,m,dA,s,hS,D⟩
      case round=>
       clear g m dA s hS D HJ HM qI;obtain⟨N,C,ks,Q,P,R,K,y,z,x3,a4,c4,⟨aK,aL,a8⟩,aW,g,m,dA,s,hS,D⟩:=hrel;have aE:(∀d,ks=[d]->¬(C=[]\/Ai d.net=true))->az=⟨N,C,ks⟩:=λbF=>by rw[<-aK,Yx _ bF]
       have zu:C.length<=900000:=by have:=aL.2;rw[Dp] at this;omega
       by_cases hk:ks.length=1
       .obtain⟨d,rfl⟩:=List.length_eq_one_iff.1 hk
        obtain⟨ys,bh,hS⟩:=hS.src (.tail _ (.tail _ (.head _)));obtain⟨e0,f0,e1,f1,e2,f2,e3,f3,rfl,hS⟩:=Sv.opA (n:=d) hS (.head _);obtain⟨b,o,bE,aH,ax⟩:∃b o,a4=some ⟨b,o,none⟩/\b<wr.heap.size/\EL wr b o [.int .i64 d.net.kind, .int .i64 d.net.one.op, .slice e0 d.net.one.args.length f0, .slice e1 d.net.kids.length f1, .slice e2 d.coils.length f2, .slice e3 d.kids.length f3]:=by
         obtain⟨ad,cd,h1,h2⟩:=bh;cases h1;rcases h2 with⟨h2,_⟩ | h2
         .cases h2
         .exact h2
        subst bE;obtain⟨aR,bc,bi,aU,oD⟩:=PK aL (B7 _);obtain⟨oN,ba,bk⟩:=Z8 a8;have y0:wr.cell? ⟨b,o,none⟩=some (.int .i64 d.net.kind):=ax 0 _ rfl;have y1:=ax 1 _ rfl;have y2:=ax 2 _ rfl;have y3:=ax 3 _ rfl;have y4:=ax 4 _ rfl;have y5:=ax 5 _ rfl;have kQ:=Ci (λW (h:Below wr.heap.size wr W)=>Xq d.net _ _ W ((hS.devs (.head _)).below h) ((hS.nets (.tail _ (.head _))).below h) aU);have qC:=Ci (λW r us (hs:Sv W r us) h1 h2=>cD N d.net Q R e0 e1 P K f0 f1 W r us hs h1 h2 bc ba bk bi aU);obtain⟨S,aV⟩:∃S,S=Ip N d.net:=⟨_,rfl⟩
        obtain⟨t2,aI⟩:∃t,t=Ai d.net:=⟨_,rfl⟩
        have aA:Hid ((C=[]\/t2=true)->Stil.joined ⟨S,C++d.coils,d.kids⟩=az):=λh=>by rw[<-aK,aV];rw[aI] at h;exact(S3 N C d h).symm
        have kR:Hid (C.length≠0->t2=false->az=⟨N,C,[d]⟩):=λh1 h2=>aE λk e=>by
         cases e;rintro(h | h)
         .exact h1 (List.length_eq_zero_iff.2 h)
         .rw[<-aI,h2] at h;cases h
        have bU:(C++d.coils).length<=1000000:=by rw[CO];exact oD.1
        have oL:H5 d.kids<gk:=B8 oD.2 aW;rw[<-aV] at qC aR oN;rw[<-aI] at kQ;have dV:=Ci (And.intro aR oN);simp only[EZ] at m;replace hS:=hS.mkN (i:=d.net.kind) (op:=d.net.one.op) (ds:=d.net.one.args) (ns:=d.net.kids) (.head _) (.tail _ (.head _));rw[PG] at hS;obtain⟨U,G,p0,q1,Y,I,p2,F,p3,J,p4,E,T⟩:=id g;obtain⟨H,q6,p6,X,V,q8,p8,q9,p9,Z,aa,ac,ab⟩:=id m;clear ax bh aK aL a8 aE aR bc bi aU oD oN ba bk aV aI aW;have bu:C.length=0\/(C.length≠0/\t2=true)\/C.length≠0/\t2=false:=by
         by_cases h:C.length=0
         .exact .inl h
         .cases t2
          .exact .inr (.inr ⟨h,rfl⟩)
          .exact .inr (.inl ⟨h,rfl⟩)
        rcases bu with hc | ⟨hc,rfl⟩ | ⟨hc,rfl⟩
        rotate_left 2
        .have hT:=kR hc BK
         have bj:((C.length:Int)==0)=false:=by rw[CJ];omega
         have bA:¬((C.length:Int)=0):=AU
         clear hc kR aA qC
         go_wp2_with (go_at_call 53;refine(kQ _ AX).mono ?_;rintro e wz ⟨rfl,A⟩;replace g:=g.bel A;replace m:=m.bel A;replace hS:=hS.bel A;replace s:=ownsRow_below s A;replace D:=Au D A;obtain⟨U,G,p0,q1,Y,I,p2,F,p3,J,p4,E,T⟩:=id g;obtain⟨H,q6,p6,X,V,q8,p8,q9,p9,Z,aa,ac,ab⟩:=id m)
         refine bodyPost_ret (v:=.agg #[.int .i64 N.kind, .int .i64 N.one.op, .slice Q N.one.args.length P, .slice R N.kids.length K, .slice y C.length z, .slice (some ⟨b,o,none⟩) 1 c4]) (by simp[results,results29,go_sem,G,q1,I,F,J,E]) rfl ?_;rw[hT];exact⟨_,_,_,_,_,_,_,_,rfl,((hS.armOf (N:=N) (C:=C) (ks:=[d]) (ts:=ts) (xs:=x3) AW AW AW s (DN _) (λb hb=>B8 (aZ b hb) (Nat.le_add_right _ 2)) BB).set6 (.head _)).sub (λ_ h=>.tail _ h) (λ_ h=>h),AX⟩
        focus
         have iJ:=Ci (aA (.inl (List.length_eq_zero_iff.1 hc)));have bj:((C.length:Int)==0)=true:=by rw[D3];omega
         clear hc kR aA kQ t2;obtain⟨wz,bD⟩:∃wz:World,wz=wr:=⟨wr,rfl⟩
         subst bD;go_upto_region 9 with fail
        rotate_left
        focus
         have iJ:=Ci (aA (.inr rfl));have bj:((C.length:Int)==0)=false:=by rw[CJ];omega
         have bA:¬((C.length:Int)=0):=AU
         clear hc kR aA;go_upto_region 9 with(go_at_call 53;refine(kQ _ AX).mono ?_;rintro e wz ⟨rfl,A⟩;replace g:=g.bel A;replace m:=m.bel A;replace hS:=hS.bel A;replace s:=ownsRow_below s A;replace D:=Au D A;obtain⟨y0,y1,y2,y3,y4,y5⟩:_/\_/\_/\_/\_/\_:=⟨(Jd A aH).trans y0,(Jd A aH).trans y1,(Jd A aH).trans y2,(Jd A aH).trans y3,(Jd A aH).trans y4,(Jd A aH).trans y5⟩;replace aH:=GM A aH;obtain⟨U,G,p0,q1,Y,I,p2,F,p3,J,p4,E,T⟩:=id g;obtain⟨H,q6,p6,X,V,q8,p8,q9,p9,Z,aa,ac,ab⟩:=id m)
        all_goals
         go_upto_region 10 with fail
         have bI:=own_ne s (B7 wz.heap.size);obtain⟨aD,hV⟩:∃aD,aD=wz.alloc (.cells #[.int .i64 d.net.kind, .int .i64 d.net.one.op, .slice e0 d.net.one.args.length f0, .slice e1 d.net.kids.length f1, .slice e2 d.coils.length f2, .slice e3 d.kids.length f3] 60):=⟨_,rfl⟩
         rw[<-hV];have dR:Below wz.heap.size wz aD:=by rw[hV];exact Aa _ _
         have ag:CU aD wz.heap.size (.int .i64 d.net.kind) (.int .i64 d.net.one.op) (.slice e0 d.net.one.args.length f0) (.slice e1 d.net.kids.length f1) (.slice e2 d.coils.length f2) (.slice e3 d.kids.length f3):=by rw[hV];exact qN6
         replace g:=g.bel dR;replace m:=m.bel dR;replace hS:=hS.bel dR;replace s:=ownsRow_below s dR;replace D:=Au D dR;have bO:wz.heap.size≠O:=by have:=H;omega
         clear hV dR y0 y1 y2 y3 y4 y5 aH;obtain⟨U,G,p0,q1,Y,I,p2,F,p3,J,p4,E,T⟩:=id g;obtain⟨H,q6,p6,X,V,q8,p8,q9,p9,Z,aa,ac,ab⟩:=id m;obtain⟨ah,ai,al,an,ak,fM,gU,fK,gQ,aj,ao,fJ,gK⟩:=id ag;go_upto_region 11 with(go_at_call 55;refine(qC _ _ _ hS AW AW).mono ?_;rintro e w5 ⟨g1,k1,g2,k2,rfl,hS,af⟩;replace g:=g.bel af;replace m:=m.bel af;replace ag:=ag.bel af;replace s:=ownsRow_below s af;replace D:=Au D af;obtain⟨U,G,p0,q1,Y,I,p2,F,p3,J,p4,E,T⟩:=id g;obtain⟨H,q6,p6,X,V,q8,p8,q9,p9,Z,aa,ac,ab⟩:=id m;obtain⟨ah,ai,al,an,ak,fM,gU,fK,gQ,aj,ao,fJ,gK⟩:=id ag)
         have bW:w.heap.size+1≠O:=AU
         obtain⟨ar,hz⟩:∃ar,ar=((((w5.setCell ⟨O,0,none⟩ (.int .i64 S.kind)).setCell ⟨O,1,none⟩ (.int .i64 S.one.op)).setCell ⟨O,2,none⟩ (.slice g1 S.one.args.length k1)).setCell ⟨O,3,none⟩ (.slice g2 S.kids.length k2)):=⟨_,rfl⟩
         rw[<-hz];have aN:CU ar (w.heap.size+1) (.int .i64 0) (.int .i64 0) (.slice none 0 0) (.slice none 0 0) (.slice none 0 0) (.slice none 0 0):=by rw[hz];exact qN6
         have aB:CU ar O (.int .i64 S.kind) (.int .i64 S.one.op) (.slice g1 S.one.args.length k1) (.slice g2 S.kids.length k2) (.slice y C.length z) (.slice (some ⟨b,o,none⟩) 1 c4):=by rw[hz];exact qN6
         have dM:CU ar wz.heap.size (.int .i64 d.net.kind) (.int .i64 d.net.one.op) (.slice e0 d.net.one.args.length f0) (.slice e1 d.net.kids.length f1) (.slice e2 d.coils.length f2) (.slice e3 d.kids.length f3):=by rw[hz];exact qN6
         have aM:=hS.set4 (b:=O) (o1:=0) (o2:=1) (o3:=2) (o4:=3) (x1:=.int .i64 S.kind) (x2:=.int .i64 S.one.op) (x3:=.slice g1 S.one.args.length k1) (x4:=.slice g2 S.kids.length k2) (.head _);have a5:ar.ownsRow (w.heap.size+2) 51 2 (.slice y C.length z) C.length x3:=by rw[hz];exact D6 (D6 (D6 (D6 s dA) dA) dA) dA
         have br:Below w.heap.size w ar:=by rw[hz];exact(((D.setCell (show _<=O by omega) _).setCell (show _<=O by omega) _).setCell (show _<=O by omega) _).setCell (show _<=O by omega) _
         have bR:ar.heap.size=w5.heap.size:=by rw[hz];simp
         rw[<-hz] at aM;obtain⟨wR,sU,aM⟩:=aM.src (l:=Hm d.coils) (u:=.slice e2 d.coils.length f2) AW;clear hz g m ag hS s D;obtain⟨U,G,p0,q1,Y,I,p2,F,p3,J,p4,E,T⟩:=id aN;obtain⟨H,q6,p6,X,V,q8,p8,q9,p9,Z,aa,ac,ab⟩:=id aB;obtain⟨ah,ai,al,an,ak,fM,gU,fK,gQ,aj,ao,fJ,gK⟩:=id dM
         go_wp2_with (at_builtin;go_loud (refine Bd rfl rfl (Sv.appM (f:=Qe) (L:=C) (M:=d.coils) (xs:=x3) (ys:=wR) (bs:=O::(w.heap.size+1)::bs) _ kd2 (aM.sub (λ_ h=>PW h) (λ_ h=>h)) AW AW (λ_=>rfl) sU a5 AU (by rw[<-CO];omega)) rfl rfl ?_;rintro v7 w7 ⟨a7,c7,rfl,bG,bC,dK,jZ⟩;have kH:=jZ O H dA;replace aN:=aN.gr dK (λe=>by have:=(a5.lt _ e).1;omega);replace aB:=aB.gr dK dA;replace dM:=dM.gr dK bI;have oz:=br.grown dK AU (λk hk=>by have:=(a5.lt _ hk).1;omega);obtain⟨U,G,p0,q1,Y,I,p2,F,p3,J,p4,E,T⟩:=id aN;obtain⟨H,q6,p6,X,V,q8,p8,q9,p9,Z,aa,ac,ab⟩:=id aB;obtain⟨ah,ai,al,an,ak,fM,gU,fK,gQ,aj,ao,fJ,gK⟩:=id dM))
         go_roundg (H5 d.kids)
         rotate_left
         .exact oL
         .refine⟨S,C++d.coils,d.kids,g1,k1,g2,k2,a7,c7,_,e3,f3,⟨iJ.out,dV.1,dV.2⟩,B7 _,qN6,by rw[CO];exact qN6,kH,D6 (D6 bG kH) kH,((bC.set (b:=O) AW).set (b:=O) AW).sub (λb hb=>?_) BB,(oz.setCell (show _<=O by omega) _).setCell (show _<=O by omega) _⟩
          simp only[Dm,C2] at hb ⊢;rcases hb with h | h | h | h
          .exact .inr (.inl h)
          .exact .inl h
          .exact .inr (.inr (.inl h))
          .exact .inr (.inr (.inr h))
       .have hT:=aE λd e=>by subst e;exact absurd rfl hk
        have bT:((ks.length:Int)==1)=false:=by rw[CJ];omega
        have bQ:¬((ks.length:Int)=1):=AU
        obtain⟨U,G,p0,q1,Y,I,p2,F,p3,J,p4,E,T⟩:=id g;obtain⟨H,q6,p6,X,V,q8,p8,q9,p9,Z,aa,ac,ab⟩:=id m;clear aK aL a8 aE aW
        go_wp2
        refine bodyPost_ret (v:=.agg #[.int .i64 N.kind, .int .i64 N.one.op, .slice Q N.one.args.length P, .slice R N.kids.length K, .slice y C.length z, .slice a4 ks.length c4]) (by simp[results,results29,go_sem,G,q1,I,F,J,E]) rfl ?_;rw[hT];exact⟨_,_,_,_,_,_,_,_,rfl,((hS.armOf (N:=N) (C:=C) (ks:=ks) (ts:=ts) (xs:=x3) AW AW AW s (DN _) (λb hb=>B8 (aZ b hb) (Nat.le_add_right _ 2)) BB).set6 (.head _)).sub (λ_ h=>.tail _ h) (λ_ h=>h),AX⟩
theorem TK (c r:Value)(w:World):Sem.run prog (Instr.field 41 (.agg #[c,r]) 0) w=.ok c w:=AY
theorem U9 (l:List Stil.B5)(N:Value)(w:World)(m:Dc w N l)(hl:l.length<=1048576)(T:Bc l<=1000000000)(A:∀x∈l,Ba x):
  Calls prog 9 #[N] w λe Z=>(∃a c,e=.returned (.slice a (Af l).length c)/\Qi (λ_=>True) Z (.slice a (Af l).length c) (Af l))/\Below w.heap.size w Z:=by
 have s:=Ci (λW (h:Below w.heap.size w W)=>SK l N W (m.below h) hl T A);have U:=Ci (λW (h:Below w.heap.size w W)=>m.below h);have I:=Vo l;have hS:Sv w [] []:=⟨(λb g=>by cases g),λx hx=>by cases hx⟩
 obtain⟨s0,n0,rfl,-⟩:=m;have ai:=TK;by_cases h0:(Am l).1=0
 .have z:Hid (Af l=l.map Dv):=if_pos h0
  have HI:=Ci (λx (hx:x∈l)=>zH x (A x hx) yFe (Jh h0 hx).1);have x9:=(Jk h0).2.1;rw[z.out];rw[h0] at s;obtain⟨rr,t⟩:∃r,r=(Am l).2:=⟨_,rfl⟩
  rw[<-t] at s;clear A z h0 I t T;go_enter func9,ntmps9
  go_wp2_with (go_at_call 17;refine(s _ AX).mono ?_;rintro e P ⟨rfl,u⟩;replace hS:=hS.bel u)
  go_loopw [3,4] (λd i wr=>∃(j:Nat) (L:List Stil.B5) (v:Option Addr) (q:Nat) (G:List Value),j<=l.length/\i=.int .i64 j/\Hid (L=(l.take j).map Dv)/\L.length<=40/\d=.slice v L.length q/\wr.ownsRow w.heap.size 60 6 (.slice v L.length q) L.length G/\Sv wr (ob (.slice v L.length q)++[]) [(Io L,G)]/\Below w.heap.size w wr) (λ_ i _=>l.length - (intOf i).toNat)
  case atStart=>
   refine⟨0,[],some ⟨P.heap.size,0,none⟩,0,[],AU,rfl,rfl,AW,rfl,?_,(hS.box _).nil,AX⟩;have:=World.ownsRow_lit (base:=w.heap.size) (e:=60) (size:=6) P #[] 0 u.size BI rfl
   simpa using this
  case round=>
   clear u hS;obtain⟨j,L,v,q,G,hj,rfl,B,iG,rfl,hown,hS,g⟩:=hrel;by_cases J:j<l.length
   .have ab:=U wr g
    obtain⟨pa,pc,Q,S⟩:=ab;simp only[Value.slice.injEq,true_and] at Q;obtain⟨rfl,rfl⟩:=Q;obtain⟨b,o,rfl,ah,X⟩:=S j J;obtain⟨Y,af,nU,y4,y5,E,m⟩:=X.open;obtain⟨y0,y1,dU,dW,y2,y3,D,O⟩:=Y.open;have H:=Ci (λW (h:Below wr.heap.size wr W) cs us hs=>HI l[j] (CG J) dU dW af nU W cs us hs (D.below h) (O.below h) (E.below h) (m.below h));have K:Hid ((l.take (j+1)).map Dv=L++[Dv l[j]]):=by show _=_;rw[B.out,DO J,CX];rfl
    have aa:(L++[Dv l[j]]).length<=40:=by rw[<-K.out,CP,Fo];omega
    obtain⟨y,V⟩:∃y,y=Dv l[j]:=⟨_,rfl⟩
    rw[<-V] at H K aa;obtain⟨x,hx⟩:∃x,x=l[j]:=⟨_,rfl⟩
    rw[<-hx] at H y0 y1 D O E m;obtain⟨u0,m0,rfl,-⟩:=D;obtain⟨u1,m1,rfl,-⟩:=O;obtain⟨u2,m2,rfl,-⟩:=E;obtain⟨u3,m3,rfl,-⟩:=m;have ak:(0:Int)<=(j:Int):=AU
    have ag:(j:Int)<(l.length:Int):=AU
    clear hx V X Y S B
    go_wp2_with (first | (go_at_call 29;refine(H _ AX _ _ hS).mono ?_;rintro e w5 ⟨e0,f0,e1,f1,e2,f2,e3,f3,rfl,hS,R⟩;replace hown:=ownsRow_below hown R;have M:Below w.heap.size w w5:=Au g R) | (at_builtin;refine Bd rfl rfl (Sv.pushM (f:=J7) (x:=y) (c:=[.int .i64 y.net.kind, .int .i64 y.net.one.op, .slice e0 y.net.one.args.length f0, .slice e1 y.net.kids.length f1, .slice e2 y.coils.length f2, .slice e3 y.kids.length f3]) _ kd6 hS (.tail _ (.head _)) (.head _) Ya hown M.size AU) rfl rfl ?_;rintro v6 w6 ⟨a6,c6,rfl,ac,ad,aC,-⟩))
    exact⟨⟨j+1,L++[y],a6,c6,_,AU,by go_num,K.symm,aa,AW,ac,ad.sub (λ_ h=>h) AW,M.grown aC M.size (λk hk=>(hown.lt _ hk).1)⟩,by simp[intOf];omega⟩
   .obtain rfl:j=l.length:=by omega
    have C:=B.out;rw[IY] at C;have ae:=Ci C;clear B C
    go_wp2
    go_ret;rw[<-ae.out];exact⟨⟨v,q,rfl,Sv.arms ((hS.ice (.head _) yBi (λb g=>by cases g))) (.head _)⟩,g⟩
 .have z:Hid (Af l=[]):=if_neg h0
  rw[z.out];obtain⟨c,F⟩:∃c,c=(Am l).1:=⟨_,rfl⟩
  obtain⟨rr,t⟩:∃r,r=(Am l).2:=⟨_,rfl⟩
  rw[<-F,<-t] at s;rw[<-F] at I h0;have aj:(0:Int)<c:=AU
  clear A z h0 U F t I;go_enter func9,ntmps9
  go_wp2_with (go_at_call 17;refine(s _ AX).mono ?_;rintro e P ⟨rfl,u⟩;replace hS:=hS.bel u)
  go_ret;exact⟨⟨none,0,rfl,Sv.arms (ms:=[]) hS.snil (.head _)⟩,AX⟩
