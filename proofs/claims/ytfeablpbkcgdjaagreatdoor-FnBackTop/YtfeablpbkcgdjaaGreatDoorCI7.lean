import Derived.Test.YtfeablpbkcgdjaaGreatDoorG3
import Derived.Test.YtfeablpbkcgdjaaGreatDoorCH1
set_option maxHeartbeats 4000000
set_option maxRecDepth 100000
namespace Go.Proofs.YtfeablpbkcgdjaaGreatDoor
open Tryz Stil Go.RowKit Go.Sort Go.BigFrame
theorem N8.tail {w:World}{b o c:Nat}{x:Stil.B1}{r:List Stil.B1}(h:N8 w (.slice (some ⟨b,o,none⟩) (r.length+1) c) (x::r)):N8 w (.slice (some ⟨b,o+4,none⟩) r.length (c - 1)) r:=by
 obtain⟨A,y,e,n,u⟩:=h;simp only[CC,Value.slice.injEq,true_and] at e;obtain⟨rfl,rfl⟩:=e;have q:=n.1;rw[CC] at q;refine⟨_,c - 1,rfl,⟨AU,λh=>by cases h⟩,λi hi=>?_⟩;obtain⟨v,z,l,t,m,j⟩:=u (i+1) yDj;simp only[EQ,Addr.mk.injEq,F3] at l;obtain⟨rfl,rfl⟩:=l;refine⟨b,o+4,rfl,t,m,?_⟩;rw[J0] at j;have s:o+(i+1)*4=o+4+i*4:=AU
 rw[<-s];exact j
theorem TT (x:Stil.B1)(H:Ac x<=1000000)(A:FQ 69 x (Az x)):FQ 109 x (Cc x):=by
 intro u t w p m;have q:Hid (∀W,Below w.heap.size w W->Calls prog 69 #[.agg #[.int .i64 x.kind, .int .i64 x.one.op,u,t]] W λe C=>e=.returned (.int .i64 (Az x))/\Below W.heap.size W C):=λW h=>A u t W (p.below h) (m.below h)
 have D:=SB x;have j:Hid (Cc x=if x.kind=1 then 1 else 1+Az x):=rfl;obtain⟨l,v⟩:∃l,l=Az x:=⟨_,rfl⟩
 obtain⟨T,z⟩:∃T,T=Cc x:=⟨_,rfl⟩
 rw[<-v] at q D j;rw[<-z] at j ⊢;obtain⟨k,y⟩:∃k,k=x.kind:=⟨_,rfl⟩
 rw[<-y] at q j ⊢;obtain⟨J,G,rfl,B⟩:=p.shape;obtain⟨M,N,rfl,E,_⟩:=m.shape;clear A B E v z y p m;by_cases r:k=1
 .subst r
  have s:Hid (T=1):=by show _=_;rw[j.out];rfl
  clear j;go_enter func109,ntmps109
  go_wp2
  go_ret;exact⟨Fa (by rw[s.out];rfl),AX⟩
 .have s:Hid (T=1+l):=by show _=_;rw[j.out,if_neg r]
  have L:(k==1)=false:=by rw[CJ];exact r
  clear j;go_enter func109,ntmps109
  go_wp2_with (go_at_call 69;refine(q _ AX).mono ?_;rintro e K ⟨rfl,I⟩)
  go_ret;exact⟨Fa (by rw[s.out];go_num),AX⟩
theorem TA (n:Stil.B1):Q5 n->Ac n<=1000000->FQ 69 n (Az n):=by
 induction n using Fv with
 | h k e kids E=>
  intro K C av nv w u q;simp only at u q;obtain⟨G,B⟩:=(Xz _ _ _).1 K;rw[Cj] at C;simp only at C;have s:∀x∈kids,Ac x<=1000000:=λx hx=>by have:Ac x<=Stil.sizes kids:=Em Ac kids x hx;omega
  have J:kids.length<=999999:=by have:=He kids;omega
  obtain⟨p0,r0,rfl,S⟩:=u.shape;by_cases D:k=1
  .subst D
   rw[Xk];obtain⟨p1,j,rfl,af,_⟩:=q.shape;clear S af E s J K G B C u q;go_enter func69,ntmps69
   go_wp2
   go_ret;exact⟨rfl,AX⟩
  .obtain⟨x,r,rfl⟩:=LM (G D)
   rw[Oy e x r D];have tN:=q;obtain⟨p1,j,rfl,L,V⟩:=q.shape;obtain⟨b,o,rfl,z,N⟩:=V 0 AW;simp only[FM,ER,GI] at N;have ag:r.length+1<=j:=by have:=L.1;simp only[CC] at this;exact this
   have U:N8 w (.slice (if j=1 then some ⟨b,o,none⟩ else some ⟨b,o+4,none⟩) r.length (j - 1)) r:=by
    by_cases h2:j=1
    .rw[if_pos h2]
     have ad:r=[]:=List.length_eq_zero_iff.1 AU;subst ad;exact⟨_,_,rfl,⟨DK _,λh=>by cases h⟩,λi hi=>by simp at hi⟩
    .rw[if_neg h2]
     exact N8.tail (by simpa only[CC] using tN)
   have hE:∀args w,(callFunc 109 args).run prog w=.ok (.enter 109 args) w:=enters_of func109 AY rfl;have R:r.length<=999999:=by simp only[CC] at J;omega
   have A:Hid (∀W,Below w.heap.size w W->Calls prog 108 #[.slice (if j=1 then some ⟨b,o,none⟩ else some ⟨b,o+4,none⟩) r.length (j - 1), .int .i64 (Az x), .func (.func 109) #[] #[]] W λe O=>e=.returned (.int .i64 (Bg (Az x) (r.map Cc)))/\Below W.heap.size W O):=by
    intro W h;refine XZ r Cc 109 hE (λy hy=>?_) _ _ W (U.below h) R;have t:y∈x::r:=CH _ hy;exact TT y (s y t) (E y t (B y t) (s y t))
   obtain⟨T,x1,X,Y,x2,x3,I,H⟩:=N.open;have HZ:Hid (∀W,Below w.heap.size w W->Calls prog 69 #[.agg #[.int .i64 x.kind, .int .i64 x.one.op,X,Y]] W λe O=>e=.returned (.int .i64 (Az x))/\Below W.heap.size W O):=λW h=>E x AW (B x AW) (s x AW) X Y W (I.below h) (H.below h)
   obtain⟨M,Q⟩:∃M,M=Az x:=⟨_,rfl⟩
   rw[<-Q] at A HZ ⊢;obtain⟨aa,hR⟩:∃aa,aa=Bg M (r.map Cc):=⟨_,rfl⟩
   rw[<-hR] at A ⊢;simp only[CC];obtain⟨m,hm⟩:∃m,m=r.length:=⟨_,rfl⟩
   have ak:m+1<=j:=by have:=L.1;simp only[CC] at this;omega
   rw[<-hm] at A R ⊢;obtain⟨q0,s0,rfl,ab⟩:=I.shape;obtain⟨q1,s1,rfl,ac,_⟩:=H.shape;have aj:(k==1)=false:=by rw[CJ];exact D
   clear S ab ac U tN V N hE Q hR E s J hm L u q I H K G B C ag;go_enter func69,ntmps69
   go_wp2
   obtain⟨W,v⟩:∃W,W=w.alloc (.cells #[.int .i64 k, .int .i64 e.op, .slice p0 e.args.length r0, .slice (some ⟨b,o,none⟩) (m+1) j] 54):=⟨_,rfl⟩
   rw[<-v];have l:Below w.heap.size w W:=by rw[v];exact Aa _ _
   have Z:W.cell? ⟨w.heap.size,3,none⟩=some (.slice (some ⟨b,o,none⟩) (m+1) j):=by rw[v];simp[go_sem]
   have k0:=cell_regrown ((l.cell (p:=⟨b,o,none⟩) z).trans T);have k1:=cell_regrown ((l.cell (p:=⟨b,o+1,none⟩) z).trans x1);have k2:=cell_regrown ((l.cell (p:=⟨b,o+2,none⟩) z).trans x2);have k3:=cell_regrown ((l.cell (p:=⟨b,o+3,none⟩) z).trans x3);have k6:=cell_regrown Z;have al:(1:Int)<=(m:Int)+1:=AU
   have ai:(m:Int)+1<=(j:Int):=AU
   have an:(0:Int)<(m:Int)+1:=AU
   clear v Z T x1 x2 x3;refine wp_region_quiet_below AY AY ?_;repeat (go_big_quiet_step ((first | exact Calls.regrown_of (HZ _ (H9 l _ _)) | exact Calls.regrown_of (A _ (H9 l _ _)))))
   refine wpQuiet_nil ?_;intro _ ae;obtain⟨⟨dq,osq⟩,ah⟩:=ae;subst ah
   go_wp2
   all_goals go_ret
   all_goals exact⟨rfl,H9 l _ _⟩
theorem vQ (w:World):N8 w (.slice none 0 0) []:=⟨none,0,rfl,⟨B7 _,λ_=>rfl⟩,λi hi=>by simp at hi⟩
theorem vL {W:World}{n:Stil.B1}{e j:Value}(r:Zd W e n.one.args)(m:N8 W j n.kids):N8 (W.alloc (.cells #[.int .i64 n.kind, .int .i64 n.one.op,e,j] 54)) (.slice (some ⟨W.heap.size,0,none⟩) 1 1) [n]:=by
 have l:=Aa W (.cells #[.int .i64 n.kind, .int .i64 n.one.op,e,j] 54);refine⟨_,1,rfl,⟨B7 _,λh=>by cases h⟩,λi hi=>?_⟩;have q:i=0:=by simp at hi;exact hi
 subst q;refine⟨W.heap.size,0,rfl,trivial,AW,?_⟩;rw[FM,LR];exact⟨by simp[go_sem],by simp[go_sem],⟨e,by simp[go_sem],r.below l⟩,⟨j,by simp[go_sem],m.below l⟩⟩
theorem ZQ (n:Stil.B1)(v u:Value)(w:World)(z:Zd w v n.one.args)(x:N8 w u n.kids)(L:Bi n):
  Calls prog 111 #[.agg #[.int .i64 n.kind, .int .i64 n.one.op,v,u]] w λe E=>∃a c,e=.returned (.slice a (Bh n).length c)/\N8 E (.slice a (Bh n).length c) (Bh n)/\Below w.heap.size w E:=by
 have r:=Ab (λW h=>Sj n v u W (z.below h).at (x.below h).at L);have B:Hid (∀W,Below w.heap.size w W->Zd W v n.one.args/\N8 W u n.kids):=λW h=>⟨z.below h,x.below h⟩
 obtain⟨K,I,rfl,_⟩:=z.shape;obtain⟨C,D,rfl,_,_⟩:=x.shape;have m:Hid (Bh n=if Ai n then [] else if n.kind=2 then n.kids else [n]):=rfl;obtain⟨t,G⟩:∃t,t=Ai n:=⟨_,rfl⟩
 rw[<-G] at r m;clear z x G;cases t with
 | true=>
  have e:Bh n=[]:=m.out;rw[e];clear e m;go_enter func111,ntmps111
  go_wp2_with (go_at_call 105;refine(r _ AX).mono ?_;rintro e j ⟨rfl,q⟩)
  go_ret;exact⟨none,0,rfl,vQ _,AX⟩
 | false=>
  by_cases y:n.kind=2
  .have e:Bh n=n.kids:=by rw[m.out];simp[y]
   rw[e];rw[y] at r ⊢;clear e m;go_enter func111,ntmps111
   go_wp2_with (go_at_call 105;refine(r _ AX).mono ?_;rintro e j ⟨rfl,q⟩;obtain⟨l,A⟩:=Ff q;have M:w.heap.size<j.heap.size:=B8 AW q.size;have J:j.cell? ⟨w.heap.size,0,none⟩=some (.int .i64 2):=(by rw[l _ _ AW];simp[go_sem]);have H:j.cell? ⟨w.heap.size,3,none⟩=some (.slice C n.kids.length D):=(by rw[l _ _ AW];simp[go_sem]);clear l A)
   go_ret;have s:Below w.heap.size w j:=AX;exact⟨C,D,rfl,(B _ s).2,s⟩
  .have e:Bh n=[n]:=by rw[m.out];simp[y]
   rw[e];have O:(n.kind==2)=false:=by rw[CJ];exact y
   clear e m;go_enter func111,ntmps111
   go_wp2_with (go_at_call 105;refine(r _ AX).mono ?_;rintro e j ⟨rfl,q⟩;obtain⟨l,A⟩:=Ff q;have M:w.heap.size<j.heap.size:=B8 AW q.size;have J:j.cell? ⟨w.heap.size,0,none⟩=some (.int .i64 n.kind):=(by rw[l _ _ AW];simp[go_sem]);have N:j.cell? ⟨w.heap.size,1,none⟩=some (.int .i64 n.one.op):=(by rw[l _ _ AW];simp[go_sem]);have Q:j.cell? ⟨w.heap.size,2,none⟩=some (.slice K n.one.args.length I):=(by rw[l _ _ AW];simp[go_sem]);have H:j.cell? ⟨w.heap.size,3,none⟩=some (.slice C n.kids.length D):=(by rw[l _ _ AW];simp[go_sem]);clear l A)
   go_ret;have s:Below w.heap.size w j:=AX;exact⟨_,_,rfl,vL (B _ s).1 (B _ s).2,AX⟩
theorem cV (x:Stil.B5)(hs:Ah x<=1000000)(hf:Ba x)(ab:Ep x)(ih:E3 70 x (Bq x)):E3 110 x (Gf x.net (Bq x)):=by
 intro L I cv kv w J M R S;have H:Bi x.net/\Gi x.net/\Stil.BG x.net<=999999:=by
  obtain⟨n,c,k⟩:=x;rw[Dp] at hs;exact⟨((Eu _ _ _).1 hf).1,((D8 _ _ _).1 ab).1,by simp only;omega⟩
 have hE:∀args w,(callFunc 109 args).run prog w=.ok (.enter 109 args) w:=enters_of func109 AY rfl;have U:Hid (∀W,Below w.heap.size w W->Calls prog 70 #[.agg #[.int .i64 x.net.kind, .int .i64 x.net.one.op,L,I,cv,kv]] W λe E=>e=.returned (.int .i64 (Bq x))/\Below W.heap.size W E):=λW h=>ih L I cv kv W (J.below h) (M.below h) (R.below h) (S.below h)
 have HB:Hid (∀W,Below w.heap.size w W->Calls prog 111 #[.agg #[.int .i64 x.net.kind, .int .i64 x.net.one.op,L,I]] W λe E=>∃a c,e=.returned (.slice a (Bh x.net).length c)/\N8 E (.slice a (Bh x.net).length c) (Bh x.net)/\Below W.heap.size W E):=λW h=>ZQ x.net L I W (J.below h) (M.below h) H.1
 have ac:(Bh x.net).length<=999999:=by
  unfold Bh;split
  .simp
  .rename_i h0
   have e:Stil.BG x.net=Ac x.net:=if_neg h0;split
   .have h1:=He x.net.kids
    have h2:=Cj x.net;have h3:=H.2.2;omega
   .simp
 have K:Hid (∀W v,N8 W v (Bh x.net)->Calls prog 108 #[v, .int .i64 (Bq x), .func (.func 109) #[] #[]] W λe E=>e=.returned (.int .i64 (Gf x.net (Bq x)))/\Below W.heap.size W E):=by
  intro W v h;refine XZ (Bh x.net) Cc 109 hE (λy hy=>?_) _ v W h ac;have ag:Ac y<=1000000:=by have:=LQ x.net y hy;have:=H.2.2;omega
  exact TT y ag (TA y (TM H.2.1 y hy) ag)
 obtain⟨B,T⟩:∃B,B=Bh x.net:=⟨_,rfl⟩
 obtain⟨tb,af⟩:∃tb,tb=Bq x:=⟨_,rfl⟩
 obtain⟨aa,hR⟩:∃aa,aa=Gf x.net (Bq x):=⟨_,rfl⟩
 rw[<-hR] at K ⊢;rw[<-T] at HB K;rw[<-af] at U K;obtain⟨t,z,rfl,_⟩:=J.shape;obtain⟨m,q,rfl,_,_⟩:=M.shape;obtain⟨A,u,rfl,_⟩:=R.shape;obtain⟨s,r,rfl,_,_⟩:=S.shape;clear ih T af hR hE H ac J M R S hf ab;go_enter func110,ntmps110;go_upto_region 1 with fail
 obtain⟨W,G⟩:∃W,W=w.alloc (.cells #[.int .i64 x.net.kind, .int .i64 x.net.one.op, .slice t x.net.one.args.length z, .slice m x.net.kids.length q, .slice A x.coils.length u, .slice s x.kids.length r] 60):=⟨_,rfl⟩
 rw[<-G];have N:Below w.heap.size w W:=by rw[G];exact Aa _ _
 have D:w.heap.size<W.heap.size:=by rw[G];simp
 obtain⟨_,y0,-,y1,-,X,-,y3,-,y4,-,y5,-⟩:CU W w.heap.size (.int .i64 x.net.kind) (.int .i64 x.net.one.op) (.slice t x.net.one.args.length z) (.slice m x.net.kids.length q) (.slice A x.coils.length u) (.slice s x.kids.length r):=by rw[G];exact qN6
 have O:Hid (∀V,Below W.heap.size W V->(V.cell? ⟨w.heap.size,0,none⟩=some (.int .i64 x.net.kind)/\V.cell? ⟨w.heap.size,1,none⟩=some (.int .i64 x.net.one.op)/\V.cell? ⟨w.heap.size,2,none⟩=some (.slice t x.net.one.args.length z)/\V.cell? ⟨w.heap.size,3,none⟩=some (.slice m x.net.kids.length q)/\V.cell? ⟨w.heap.size,4,none⟩=some (.slice A x.coils.length u)/\V.cell? ⟨w.heap.size,5,none⟩=some (.slice s x.kids.length r))):=λV h=>⟨(h.cell (p:=⟨w.heap.size,0,none⟩) D).trans y0,(h.cell (p:=⟨w.heap.size,1,none⟩) D).trans y1,(h.cell (p:=⟨w.heap.size,2,none⟩) D).trans X,(h.cell (p:=⟨w.heap.size,3,none⟩) D).trans y3,(h.cell (p:=⟨w.heap.size,4,none⟩) D).trans y4,(h.cell (p:=⟨w.heap.size,5,none⟩) D).trans y5⟩
 clear G
 go_region_held3 (λC=>(C.cell? ⟨w.heap.size,0,none⟩=some (.int .i64 x.net.kind)/\C.cell? ⟨w.heap.size,1,none⟩=some (.int .i64 x.net.one.op)/\C.cell? ⟨w.heap.size,2,none⟩=some (.slice t x.net.one.args.length z)/\C.cell? ⟨w.heap.size,3,none⟩=some (.slice m x.net.kids.length q)/\C.cell? ⟨w.heap.size,4,none⟩=some (.slice A x.coils.length u)/\C.cell? ⟨w.heap.size,5,none⟩=some (.slice s x.kids.length r))) (first | with_reducible assumption | with_reducible exact⟨Dx.trans y0,Dx.trans y1,Dx.trans X,Dx.trans y3,Dx.trans y4,Dx.trans y5⟩ | skip) (first | (go_at_call 111;refine(HB.out _ (by exact N.drew)).mono ?_;rintro e j ⟨a1,c1,rfl,ae,ah⟩;have Q:Below W.heap.size W j:=Au (Below.refl _ _).drew ah;have fH:Hid (∀V,Below j.heap.size j V->N8 V (.slice a1 B.length c1) B):=(λV h=>ae.below h);have aj:(j.cell? ⟨w.heap.size,0,none⟩=some (.int .i64 x.net.kind)/\j.cell? ⟨w.heap.size,1,none⟩=some (.int .i64 x.net.one.op)/\j.cell? ⟨w.heap.size,2,none⟩=some (.slice t x.net.one.args.length z)/\j.cell? ⟨w.heap.size,3,none⟩=some (.slice m x.net.kids.length q)/\j.cell? ⟨w.heap.size,4,none⟩=some (.slice A x.coils.length u)/\j.cell? ⟨w.heap.size,5,none⟩=some (.slice s x.kids.length r)):=O.out j Q;clear ae) | (go_at_call 70;refine(U.out _ (by exact Au N Q)).mono ?_;rintro e l ⟨rfl,Y⟩;have ad:Below W.heap.size W l:=Au Q Y;have ak:(l.cell? ⟨w.heap.size,0,none⟩=some (.int .i64 x.net.kind)/\l.cell? ⟨w.heap.size,1,none⟩=some (.int .i64 x.net.one.op)/\l.cell? ⟨w.heap.size,2,none⟩=some (.slice t x.net.one.args.length z)/\l.cell? ⟨w.heap.size,3,none⟩=some (.slice m x.net.kids.length q)/\l.cell? ⟨w.heap.size,4,none⟩=some (.slice A x.coils.length u)/\l.cell? ⟨w.heap.size,5,none⟩=some (.slice s x.kids.length r)):=O.out l ad) | (go_at_call 108;refine(K.out _ _ (fH.out _ (by first | exact Y | exact Below.refl _ _))).mono ?_;rintro e w3 ⟨rfl,ai⟩;have Z:Below W.heap.size W w3:=Au ad ai;have al:(w3.cell? ⟨w.heap.size,0,none⟩=some (.int .i64 x.net.kind)/\w3.cell? ⟨w.heap.size,1,none⟩=some (.int .i64 x.net.one.op)/\w3.cell? ⟨w.heap.size,2,none⟩=some (.slice t x.net.one.args.length z)/\w3.cell? ⟨w.heap.size,3,none⟩=some (.slice m x.net.kids.length q)/\w3.cell? ⟨w.heap.size,4,none⟩=some (.slice A x.coils.length u)/\w3.cell? ⟨w.heap.size,5,none⟩=some (.slice s x.kids.length r)):=O.out w3 Z))
 all_goals
  go_wp2
  go_ret;exact⟨rfl,Au N Z⟩
theorem ri (a:Stil.B5):Ah a<=1000000->Ba a->Ep a->E3 70 a (Bq a):=by
 induction a using Fb with
 | h n cs kids E=>
  intro y B G L K S z w s q t l;simp only at s q t l;rw[Dp] at y;obtain⟨_,_,_,_,m⟩:=(Eu _ _ _).1 B;obtain⟨_,u⟩:=(D8 _ _ _).1 G;have r:∀x∈kids,Ah x<=1000000:=λx j=>by have:Ah x<=H5 kids:=Em Ah kids x j;omega
  have D:kids.length<=999999:=by have:=Nu kids;omega
  have v:∀args w,(callFunc 110 args).run prog w=.ok (.enter 110 args) w:=enters_of func110 AY rfl;have A:Hid (∀W,Below w.heap.size w W->Calls prog 36 #[z, .int .i64 1, .func (.func 110) #[] #[]] W λe H=>e=.returned (.int .i64 (Bg 1 (kids.map (λk=>Gf k.net (Bq k)))))/\Below W.heap.size W H):=λW h=>Lx kids (λk=>Gf k.net (Bq k)) 110 v (λx j=>cV x (r x j) (m x j) (u x j) (E x j (r x j) (m x j) (u x j))) 1 z W (l.below h) D
  rw[U6];obtain⟨R,C⟩:∃R,R=Bg 1 (kids.map (λk=>Gf k.net (Bq k))):=⟨_,rfl⟩
  rw[<-C] at A ⊢;obtain⟨N,I,rfl,_⟩:=s.shape;obtain⟨T,U,rfl,_,_⟩:=q.shape;obtain⟨X,O,rfl,_⟩:=t.shape;obtain⟨J,V,rfl,_,_⟩:=l.shape;clear E C v y B G m u r D s q t l;go_enter func70,ntmps70
  go_wp2_with (go_at_call 36;refine(A _ AX).mono ?_;rintro e Q ⟨rfl,M⟩)
  go_ret;exact⟨rfl,AX⟩
theorem rx (x:Stil.B5)(K:Ah x<=1000000)(S:Ba x)(C:Ep x)(u:Ai x.net=false):E3 38 x (Ig x):=by
 intro m l V I w r q A B;have z:Gi x.net/\Ac x.net<=1000000:=by
  obtain⟨n,c,k⟩:=x;rw[Dp] at K;have e:Stil.BG n=Ac n:=if_neg (by rw[show Ai n=false from u];exact Ek);exact⟨((D8 _ _ _).1 C).1,by simp only;omega⟩
 have aa:Q5 x.net:=Stil.full_of _ (z.1.resolve_left (by rw[u];exact Ek)).2.2;have Q:Hid (∀W,Below w.heap.size w W->Calls prog 70 #[.agg #[.int .i64 x.net.kind, .int .i64 x.net.one.op,m,l,V,I]] W λe y=>e=.returned (.int .i64 (Bq x))/\Below W.heap.size W y):=λW h=>ri x K S C m l V I W (r.below h) (q.below h) (A.below h) (B.below h)
 have HB:Hid (∀W,Below w.heap.size w W->Calls prog 69 #[.agg #[.int .i64 x.net.kind, .int .i64 x.net.one.op,m,l]] W λe y=>e=.returned (.int .i64 (Az x.net))/\Below W.heap.size W y):=λW h=>TA x.net aa z.2 m l W (r.below h) (q.below h)
 have N:Hid (Ig x=max (Az x.net) (Bq x)):=rfl;rw[N.out];obtain⟨t,U⟩:∃t,t=Bq x:=⟨_,rfl⟩
 obtain⟨j,E⟩:∃j,j=Az x.net:=⟨_,rfl⟩
 rw[<-U] at Q ⊢;rw[<-E] at HB ⊢;obtain⟨O,G,rfl,_⟩:=r.shape;obtain⟨Y,Z,rfl,_,_⟩:=q.shape;obtain⟨p2,R,rfl,_⟩:=A.shape;obtain⟨H,r3,rfl,_,_⟩:=B.shape;clear U E z aa u r q A B S C N;have ab:j<t\/¬j<t:=AU
 rcases ab with ac | ac
 all_goals
  go_enter func38,ntmps38
  go_wp2_with fail
  obtain⟨W,s⟩:∃W,W=w.alloc (.cells #[.int .i64 x.net.kind, .int .i64 x.net.one.op, .slice O x.net.one.args.length G, .slice Y x.net.kids.length Z, .slice p2 x.coils.length R, .slice H x.kids.length r3] 60):=⟨_,rfl⟩
  rw[<-s];have v:Below w.heap.size w W:=by rw[s];exact Aa _ _
  obtain⟨_,M,-,L,-,X,-,D,-,J,-,T,-⟩:CU W w.heap.size (.int .i64 x.net.kind) (.int .i64 x.net.one.op) (.slice O x.net.one.args.length G) (.slice Y x.net.kids.length Z) (.slice p2 x.coils.length R) (.slice H x.kids.length r3):=by rw[s];exact qN6
  have k0:=cell_regrown M;have k1:=cell_regrown L;have k2:=cell_regrown X;have k3:=cell_regrown D;have k4:=cell_regrown J;have k5:=cell_regrown T;clear s M L X D J T;refine wp_region_quiet_below AY AY ?_;repeat (go_big_quiet_step ((first | exact Calls.regrown_of (HB _ (H9 v _ _)) | exact Calls.regrown_of (Q _ (H9 v _ _)))))
  refine wpQuiet_nil ?_;intro _ ad;obtain⟨⟨dq,osq⟩,ae⟩:=ad;subst ae
  go_wp2
  go_ret;exact⟨Fa (by congr 1;omega),H9 v _ _⟩
theorem VS (l:List Stil.B5)(q:Value)(w:World)(hr:Ed w)(hg:En w)(A:Dc w q l)(hl:l.length<=1048576)(G:Bc l<=1000000000)(t:∀x∈l,Ba x):
  Calls prog 14 #[q] w λe r=>e=.returned (.int .i64 (Hq l))/\Below w.heap.size w r:=by
 have HC:=Ci (λW (h:Below w.heap.size w W)=>Yz l q W [] [] ⟨(λb E=>by cases E),λx j=>by cases j⟩ (hr.below h) (hg.below h) (A.below h) hl G t);obtain⟨s,B,C⟩:=Jb t;have m:=Ti l;have u:Hid (Hq l=Bg 0 ((Af l).map Ig)):=rfl;obtain⟨L,y⟩:∃L,L=Af l:=⟨_,rfl⟩
 rw[<-y] at HC s B C u m;have D:∀args w,(callFunc 38 args).run prog w=.ok (.enter 38 args) w:=enters_of func38 AY rfl;have HM:Hid (∀W v,Tu W v L->Calls prog 36 #[v, .int .i64 0, .func (.func 38) #[] #[]] W λe r=>e=.returned (.int .i64 (Bg 0 (L.map Ig)))/\Below W.heap.size W r):=λW v h=>Lx L Ig 38 D (λx j=>rx x (by have:=Rk j;omega) (s x j) (m x j).1 (m x j).2) 0 v W h AU
 rw[u.out];obtain⟨R,z⟩:∃R,R=Bg 0 (L.map Ig):=⟨_,rfl⟩
 rw[<-z] at HM ⊢;obtain⟨J,I,rfl,H⟩:=A;clear H hr hg t s B C u y D z m;go_enter func14,ntmps14
 exact zpa
end Go.Proofs.YtfeablpbkcgdjaaGreatDoor
namespace Go.Co
open Go.Conc
section
variable {F:Func}{args:Array Value}{c d:Code}{f:FuncId}{g:Goroutine}{i:Nat}{o:Oper}{ops:Array Oper}{rest:List Nat}
variable {P:Program}{Stop:Goroutine -> World -> Prop}{a:Act}{w:World}{b:Frame}{k:List Item}{cs:List Frame}
def Al (Q:World->Prop)(w:World):Prop:=∃e d,Q {w with tape:=e,drawn:=d}
theorem Al.of {Q:World->Prop}(h:Q w):Al Q w:=⟨w.tape,w.drawn,h⟩
theorem Us (q:OkP P)(S:Goroutine->World->Prop)(hr:g.status=.running)(u:∀g w,S g w->g.status=.running)
  (H:∀p d,∃n l j,runN P n (solo g {w with tape:=p,drawn:=d})=.next (solo l j)/\S l j) (h:∀l j,Al (S l) j->Comes P l j Stop):Comes P g w Stop:=by
 intro x sl t hF r;have z:Way P (λl j=>Al (S l) j) g w:=by
  refine lm q _ (λl j ⟨p,d,m⟩=>u _ _ m) (λl j p e ⟨v,y,m⟩=>⟨v,y,m⟩) g r hr w fun p d=>?_
  obtain⟨n,l,j,s,m⟩:=H p d;exact⟨n,l,j,s,Al.of m⟩
 exact(kt q z).then (λl j _ m=>h l j m) x sl t hF r
theorem Q9 (q:OkP P){fr fr':Frame}{cs cs':List Frame}(s:∀m,stepG P true (G fr cs) m=.go (G fr' cs') m #[])(h:∀n,Al (λx=>x=w) n->Comes P (G fr' cs') n Stop):Comes P (G fr cs) w Stop:=by
 refine Us q (λl j=>l=G fr' cs'/\Al (λx=>x=w) j) rfl (λg w h=>by rw[h.1];rfl) (fun e d=>?_) ?_
 .refine⟨1,G fr' cs',{w with tape:=e,drawn:=d},?_,rfl,⟨w.tape,w.drawn,rfl⟩⟩
  have p:step P (solo (G fr cs) {w with tape:=e,drawn:=d})=.next (solo (G fr' cs') {w with tape:=e,drawn:=d}):=step_lone_go (by rw[show({frame:=fr,callers:=cs,status:=.running,dying:=none}:Goroutine)=G fr cs from rfl,s];rfl);simp only[runN,p]
 .rintro l j ⟨e,d,rfl,u,r,t⟩
  exact h j ⟨u,r,t⟩
theorem Ur (j:OkP P)(h:∀e,Al (λx=>x=w) e->Comes P (G (b.at a (.code c::.code d::k)) cs) e Stop):Comes P (G (b.at a (.code (.seq c d)::k)) cs) w Stop:=
 Q9 j (λ_=>stepG_seq) h
theorem Px (l:OkP P){j:Nat}(h:∀e,Al (λx=>x=w) e->Comes P (G (b.at a (.inRegion ops (List.range ops.size)::k)) cs) e Stop):Comes P (G (b.at a (.code (.region j ops false)::k)) cs) w Stop:=
 Q9 l (λ_=>stepG_region) h
theorem LP (j:OkP P)(h:∀e,Al (λx=>x=w) e->Comes P (G (b.at a k) cs) e Stop):Comes P (G (b.at a (.inRegion ops []::k)) cs) w Stop:=
 Q9 j (λ_=>stepG_region_end) h
theorem Ov (m:OkP P){v:Value}(q:ops[i]?=some o)(p:Region.wanted o (yielded ops a.tmps)=true)(n:b.kind≠.early)
  (hr:∀e:World,(execOp a.eval o).run P e=.ok (.value v) e) (l:∀e:World,(execOp a.eval o).events P e #[]=#[]) (h:∀j,Al (λx=>x=w) j->Comes P (G (b.at (a.put o.dst v) (.inRegion ops rest::k)) cs) j Stop):Comes P (G (b.at a (.inRegion ops (i::rest)::k)) cs) w Stop:=by
 refine Q9 m (λe=>?_) h;rw[stepG_value q p n (hr e)];unfold listed;rw[l,seen_none]
def Yp (P:Program)(f:FuncId)(args:Array Value)(w:World)(Post:Value->World->Prop):Prop:=
 ∀(e:Frame) (cs:List Frame) (Stop:Goroutine->World->Prop),(∀v h,Post v h->Comes P (G (e.finish v) cs) h Stop)->Comes P (G (Frame.enter P f args .normal) (e::cs)) w Stop
theorem Ss (s:OkP P){Post:Value->World->Prop}(h:∀j d,Calls P f args {w with tape:=j,drawn:=d} λe l=>∃v,e=.returned v/\Post v l):Yp P f args w (λv=>Al (Post v)):=by
 intro m cs Stop r;refine Us s (λq l=>∃v,q=G (m.finish v) cs/\Post v l) rfl (λg w ⟨v,h,_⟩=>by rw[h];rfl) (fun j d=>?_) ?_
 .obtain⟨e,l,x,⟨v,rfl,p⟩,⟨n,t⟩,_,u⟩:=h j d (m::cs)
  refine⟨n+1,G (m.finish v) cs,l,?_,v,rfl,p⟩;rw[runN_add];rw[show solo (G (Frame.enter P f args .normal) (m::cs)) {w with tape:=j,drawn:=d}=lone (Frame.enter P f args .normal) (m::cs) {w with tape:=j,drawn:=d} from rfl,t];have:=step_leave_returned (c:=m) (cs:=cs) u
  simp only[runN,this];rfl
 .rintro q l ⟨j,d,v,rfl,p⟩
  exact r v l ⟨j,d,p⟩
theorem Yp.mono {Post j:Value->World->Prop}(h:Yp P f args w Post)(n:∀v e,Post v e->j v e):Yp P f args w j:=
 λm cs Stop l=>h m cs Stop λv e q=>l v e (n v e q)
abbrev Yp.mo:=@Yp.mono
theorem enter_at (args:Array Value)(h:P.funcs[f]?=some F)(e:F.body=some c):Frame.enter P f args .normal=(base f).at {tmps:=args++Array.replicate (F.ntmps - args.size) undef,defers:=[]} [.code c]:=by
 simp[Frame.enter,h,e,base,Frame.at]
theorem NI (m:OkP P){args:Array Operand}{H:Array TypeId}{vals:Array Value}{Post:Value->World->Prop}(n:ops[i]?=some o)(C:Region.wanted o (yielded ops a.tmps)=true)(y:b.kind≠.early)
  (A:o.op=.call {callee:=.value (.func f),args,argTypes:=H}) (j:P.funcs[f]?=some F) (p:F.body=some c) (z:args.map a.eval=vals) (s:∀e,Al (λx=>x=w) e->Yp P f vals e Post)
  (h:∀v e,Post v e->Comes P (G (b.at (a.put o.dst v) (.inRegion ops rest::k)) cs) e Stop):Comes P (G (b.at a (.inRegion ops (i::rest)::k)) cs) w Stop:=by
 have D:=m.name f F j;refine Q9 m (fr':=Frame.enter P f vals .normal) (cs':=b.at a (.inRegion ops (i::rest)::k)::cs) (λr=>?_) λe B=>s e B _ _ _ λv E J=>?_
 .obtain⟨q,e,l,t,u⟩:=goes_elim (goes_call (P:=P) (main:=true) (w:=r) (cs:=cs) (k:=k) (rest:=rest) (K:=λq e l=>q=G ((base f).at {tmps:=args.map a.eval++Array.replicate (F.ntmps - (args.map a.eval).size) undef,defers:=[]} [.code c]) (b.at a (.inRegion ops (i::rest)::k)::cs)/\e=r/\l=#[]) n C y A j D p ⟨rfl,rfl,rfl⟩)
  obtain⟨rfl,rfl,rfl⟩:=u;rw[enter_at vals j p,<-z];exact t
 .have I:(b.at a (.inRegion ops (i::rest)::k)).finish v=b.at (a.put o.dst v) (.inRegion ops rest::k):=by rw[Frame.finish_at,n];rfl
  rw[I];exact h v E J
theorem OM (v:OkP P){Q:Exit->Act->World->Prop}(x:∀e a w,Q e a w->e=.normal\/e=.ret)(h:∀q d,c.wp P Q a {w with tape:=q,drawn:=d})
  (u:∀j l,Al (Q .normal j) l->Comes P (G (b.at j k) cs) l Stop) (hr:∀j l m,Al (Q .ret j) l->Comes P (G {b.at j m with mode:=.returning} cs) l Stop):Comes P (G (b.at a (.code c::k)) cs) w Stop:=by
 refine Us v (λs l=>(∃j,Q .normal j l/\s=G (b.at j k) cs)\/∃j m,Q .ret j l/\s=G {b.at j m with mode:=.returning} cs) rfl ?_ (fun q d=>?_) ?_
 .rintro g w (⟨_,_,rfl⟩ | ⟨_,_,_,rfl⟩)<;>rfl
 .obtain⟨e,j,l,p,t⟩:=h q d b k cs
  rcases x _ _ _ p with rfl | rfl
  .obtain⟨n,r⟩:=t
   exact⟨n,_,l,r, .inl ⟨j,p,rfl⟩⟩
  .obtain⟨m,n,r⟩:=t
   exact⟨n,_,l,r, .inr ⟨j,m,p,rfl⟩⟩
 .rintro s l ⟨q,d,⟨j,p,rfl⟩ | ⟨j,m,p,rfl⟩⟩
  .exact u j l ⟨q,d,p⟩
  .exact hr j l m ⟨q,d,p⟩
def GU:List Code->Code->Code
 | [],d=>d
 | c::l,d=>.seq c (GU l d)
def WpL (P:Program)(R:Act->World->Prop):List Code->Act->World->Prop
 | [],a,w=>R a w
 | c::l,a,w=>c.wp P (Exit.then (WpL P R l) λ_ _ _=>False) a w
theorem VI {R:Act->World->Prop}:∀(l:List Code) (a:Act) (w:World),WpL P R l a w->∃m j,R m j/\Steps P (lone (b.at a (.code (GU l d)::k)) cs w) (lone (b.at m (.code d::k)) cs j)
 | [],a,w,h=>⟨a,w,h,Steps.refl _ _⟩
 | c::l,a,w,h=>by
  obtain⟨e,t,p,n,q⟩:=h b (.code (GU l d)::k) cs;cases e with
  | normal=>
   obtain⟨m,j,r,s⟩:=VI l t p n;exact⟨m,j,r,(Steps.head step_seq q).trans s⟩
  | _=>exact n.elim
theorem NH (t:OkP P)(l:List Code){R:Act->World->Prop}(h:∀m p,WpL P R l a {w with tape:=m,drawn:=p})(s:∀e j,Al (R e) j->Comes P (G (b.at e (.code d::k)) cs) j Stop):Comes P (G (b.at a (.code (GU l d)::k)) cs) w Stop:=by
 refine Us t (λr j=>∃e,R e j/\r=G (b.at e (.code d::k)) cs) rfl ?_ (fun m p=>?_) ?_
 .rintro g w ⟨_,_,rfl⟩;rfl
 .obtain⟨e,j,q,n,u⟩:=VI (b:=b) (k:=k) (cs:=cs) (d:=d) l a _ (h m p)
  exact⟨n,_,j,u,e,q,rfl⟩
 .rintro r j ⟨m,p,e,q,rfl⟩
  exact s e j ⟨m,p,q⟩
theorem jH {Post:Value->World->Prop}(hg:OkG g)(h:Comes P g w λr j=>∀d,AtEnd P (λ_=>False) 0 Post r (j.at d)):
  ∃N last o j p,runNT P (N+1) (solo g w) #[]=(.ended o j,p)/\runN P N (solo g w)=.next last/\step P last=.ended o j/\Conc.Good P Post last o j p:=by
 obtain⟨N,t,r,j,s,p,n,⟨J,⟨q,A⟩,B,I⟩,_,_,y⟩:=h #[g] none #[] ⟨rfl,⟨_,leavers_one P g⟩,0,past_nil⟩ hg;have L:Goes P true AtRel (λ_ _ _=>False) (AtEnd P (λ_=>False) B Post) 0 r j:=by
  rintro R ⟨d,rfl⟩;obtain⟨K,v,u,C,l,x⟩:=y d;exact⟨K,v,u,C,λe m=>⟨(l e m).1,(l e m).2.1,(l e m).2.2.1,MemAct.low_mono (DK _) (l e m).2.2.2⟩,x⟩
 obtain⟨Q,last,o,G,z,M,D,O,E⟩:=beside_ends (sl:=s) (λ_ _ _ h=>h.elim) J A I L;have H:crowd #[g] w none=solo g w:=rfl;rw[H] at n;refine⟨N+Q,last,o,G,z,?_,?_,O,E⟩
 .rw[Nat.add_assoc,runNT_add,n];exact M
 .rw[runN_add]
  have:runN P N (solo g w)=.next (crowd t j s):=by rw[<-runNT_fst _ _ _ #[],n]
  rw[this];exact D
end
