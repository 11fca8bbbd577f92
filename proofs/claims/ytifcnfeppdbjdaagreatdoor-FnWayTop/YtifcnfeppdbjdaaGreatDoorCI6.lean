import Derived.Test.YtifcnfeppdbjdaaGreatDoorLW32a
import Derived.Conc.LeavingOf
set_option maxHeartbeats 4000000
set_option maxRecDepth 100000
namespace Go.Proofs.YtifcnfeppdbjdaaGreatDoor
open Tryz Stil Go.RowKit Go.Sort Go.BigFrame
theorem Lp.tail {w:World}{b o c:Nat}{x:Stil.B9}{r:List Stil.B9}(h:Lp w (AE (some (AK b o)) (r.length+1) c) (x::r)):Lp w (AE (some (AK b (o+4))) r.length (c - 1)) r:=by
 obtain⟨s,u,e,m,j⟩:=h;simp only[CH,Value.slice.injEq,true_and] at e;obtain⟨rfl,rfl⟩:=e;have l:=m.1;rw[CH] at l;refine⟨_,c - 1,rfl,⟨AQ,λh=>by cases h⟩,λi hi=>?_⟩;obtain⟨t,y,f,n,g,d⟩:=j (i+1) (by simp only[CH];omega);simp only[CZ,Addr.mk.injEq,E0] at f;obtain⟨rfl,rfl⟩:=f;refine⟨b,o+4,rfl,n,g,?_⟩;rw[J1] at d;have q:o+(i+1)*4=o+4+i*4:=AQ
 rw[<-q];exact d
theorem WC (x:Stil.B9)(E:Af x<=1000000)(r:FM 58 x (Bf x)):FM 91 x (Di x):=by
 intro q p w l f;have d:Hid (∀W,AO w W->Calls prog 58 #[.agg #[AB x.kind,AB x.one.op,q,p]] W (AN W (AB (Bf x)))):=λW h=>r q p W (l.below h) (f.below h)
 have A:=TS x;have c:Hid (Di x=if x.kind=1 then 1 else 1+Bf x):=rfl;obtain⟨m,u⟩:=AA (Bf x)
 obtain⟨T,s⟩:=AA (Di x)
 rw[<-u] at d A c;rw[<-s] at c ⊢;obtain⟨k,t⟩:=AA x.kind
 rw[<-t] at d c ⊢;obtain⟨C,D,rfl,y⟩:=l.shape;obtain⟨B,G,rfl,z,_⟩:=f.shape;clear r y z u s t l f;by_cases j:k=1
 ·subst j
  have g:Hid (T=1):=by show _=_;rw[c.out];rfl
  clear c;go_enter func91,ntmps91
  go_wp2
  go_ret;exact⟨F5 (by rw[g.out];rfl),AW⟩
 ·have g:Hid (T=1+m):=by show _=_;rw[c.out,if_neg j]
  have I:(k==1)=false:=by rw[CS];exact j
  clear c;go_enter func91,ntmps91
  go_wp2_with (go_at_call 58;refine(d _ AW).mono ?_;rintro e H ⟨rfl,J⟩)
  go_ret;exact⟨F5 (by rw[g.out];go_num),AW⟩
theorem VH (n:Stil.B9):Ve n->Af n<=1000000->FM 58 n (Bf n):=by
 induction n using Gf with
 | h k e kids q=>
  intro G l av nv w u f;simp only at u f;obtain⟨D,t⟩:=(Zf _ _ _).1 G;rw[Eg] at l;simp only at l;have g:∀x∈kids,Af x<=1000000:=λx hx=>by have:Af x<=Stil.sizes kids:=D9 Af kids x hx;omega
  have C:kids.length<=999999:=by have:=Js kids;omega
  obtain⟨p0,r0,rfl,Q⟩:=u.shape;by_cases s:k=1
  ·subst s
   rw[Yr];obtain⟨p1,c,rfl,ah,_⟩:=f.shape;clear Q ah q g C G D t l u f;go_enter func58,ntmps58
   go_wp2
   go_ret;exact⟨rfl,AW⟩
  ·obtain⟨x,r,rfl⟩:=MW (D s)
   rw[Qj e x r s];have L:=f;obtain⟨p1,c,rfl,K,U⟩:=f.shape;obtain⟨b,o,rfl,B,H⟩:=U 0 AU;simp only[EP,FG,EO] at H;have ac:r.length+1<=c:=by have:=K.1;simp only[CH] at this;exact this
   have S:Lp w (AE (if c=1 then some (AK b o) else some (AK b (o+4))) r.length (c - 1)) r:=by
    by_cases h2:c=1
    ·rw[if_pos h2]
     have aa:r=[]:=List.length_eq_zero_iff.1 AQ;subst aa;exact⟨_,_,rfl,⟨DI _,λh=>by cases h⟩,λi hi=>by simp at hi⟩
    ·rw[if_neg h2]
     exact Lp.tail (by simpa only[CH] using L)
   have V:∀args w,(callFunc 91 args).run prog w=.ok (.enter 91 args) w:=enters_of func91 AX rfl;have N:r.length<=999999:=by simp only[CH] at C;omega
   have A:Hid (∀W,AO w W->Calls prog 90 #[AE (if c=1 then some (AK b o) else some (AK b (o+4))) r.length (c - 1),AB (Bf x), .func (.func 91) #[] #[]] W (AN W (AB (Bo (Bf x) (r.map Di))))):=by
    intro W h;refine eN r Di 91 V (λy hy=>?_) _ _ W (S.below h) N;have z:y∈x::r:=CQ _ hy;exact WC y (g y z) (q y z (t y z) (g y z))
   obtain⟨Y,x1,M,T,x2,x3,E,I⟩:=H.open;have HZ:Hid (∀W,AO w W->Calls prog 58 #[.agg #[AB x.kind,AB x.one.op,M,T]] W (AN W (AB (Bf x)))):=λW h=>q x AU (t x AU) (g x AU) M T W (E.below h) (I.below h)
   obtain⟨J,X⟩:=AA (Bf x)
   rw[<-X] at A HZ ⊢;obtain⟨R,Z⟩:=AA (Bo J (r.map Di))
   rw[<-Z] at A ⊢;simp only[CH];obtain⟨m,O⟩:=AA r.length
   have ai:m+1<=c:=by have:=K.1;simp only[CH] at this;omega
   rw[<-O] at A N ⊢;obtain⟨q0,s0,rfl,af⟩:=E.shape;obtain⟨q1,s1,rfl,ag,_⟩:=I.shape;have an:(k==1)=false:=by rw[CS];exact s
   clear Q af ag S L U H V X Z q g C O K u f E I G D t l ac;go_enter func58,ntmps58
   go_wp2
   obtain⟨W,j⟩:=AA (w.alloc (.cells #[AB k,AB e.op,AE p0 e.args.length r0,AE (some (AK b o)) (m+1) c] 59))
   rw[<-j];have d:AO w W:=by rw[j];exact Aa _ _
   have y3:W.cell? (AL w 3)=some (AE (some (AK b o)) (m+1) c):=by rw[j];simp[go_sem]
   have k0:=cell_regrown ((d.cell (p:=(AK b o)) B).trans Y);have k1:=cell_regrown ((d.cell (p:=(AK b (o+1))) B).trans x1);have k2:=cell_regrown ((d.cell (p:=(AK b (o+2))) B).trans x2);have k3:=cell_regrown ((d.cell (p:=(AK b (o+3))) B).trans x3);have k6:=cell_regrown y3;have al:(1:Int)<=(m:Int)+1:=AQ
   have aj:(m:Int)+1<=(c:Int):=AQ
   have ak:(0:Int)<(m:Int)+1:=AQ
   clear j y3 Y x1 x2 x3;refine wp_region_quiet_below AX AX ?_;repeat (go_big_quiet_step ((first | exact Calls.regrown_of (HZ _ (Gq d _ _)) | exact Calls.regrown_of (A _ (Gq d _ _)))))
   refine wpQuiet_nil ?_;intro _ ab;obtain⟨⟨dq,osq⟩,ae⟩:=ab;subst ae
   go_wp2
   all_goals go_ret
   all_goals exact⟨rfl,Gq d _ _⟩
theorem Ay0 (w:World):Lp w AG []:=⟨none,0,rfl,⟨CG _,λ_=>rfl⟩,λi hi=>by simp at hi⟩
theorem Ayz {W:World}{n:Stil.B9}{d c:Value}(g:Td W d n.one.args)(j:Lp W c n.kids):Lp (W.alloc (.cells #[AB n.kind,AB n.one.op,d,c] 59)) (AE (some (AL W 0)) 1 1) [n]:=by
 have e:=Aa W (.cells #[AB n.kind,AB n.one.op,d,c] 59);refine⟨_,1,rfl,⟨CG _,λh=>by cases h⟩,λi hi=>?_⟩;have f:i=0:=by simp at hi;exact hi
 subst f;refine⟨W.heap.size,0,rfl,trivial,AU,?_⟩;rw[EP,Rt];exact⟨by simp[go_sem],by simp[go_sem],⟨d,by simp[go_sem],g.below e⟩,⟨c,by simp[go_sem],j.below e⟩⟩
theorem iU (n:Stil.B9)(r q:Value)(w:World)(u:Td w r n.one.args)(s:Lp w q n.kids)(D:Dw n):
  Calls prog 93 #[.agg #[AB n.kind,AB n.one.op,r,q]] w λe w'=>∃a c,e=.returned (.slice a (Ci n).length c)/\Lp w' (.slice a (Ci n).length c) (Ci n)/\AO w w':=by
 have m:=AV (λW h=>U4 n r q W (u.below h).at (s.below h).at D);have A:Hid (∀W,AO w W->Td W r n.one.args/\Lp W q n.kids):=λW h=>⟨u.below h,s.below h⟩
 obtain⟨E,H,rfl,_⟩:=u.shape;obtain⟨z,B,rfl,_,_⟩:=s.shape;have g:Hid (Ci n=if Am n then [] else if n.kind=2 then n.kids else [n]):=rfl;obtain⟨t,C⟩:=AA (Am n)
 rw[<-C] at m g;clear u s C;cases t with
 | true=>
  have e:Ci n=[]:=g.out;rw[e];clear e g;go_enter func93,ntmps93
  go_wp2_with (go_at_call 83;refine(m _ AW).mono ?_;rintro e d ⟨rfl,j⟩)
  go_ret;exact⟨none,0,rfl,Ay0 _,AW⟩
 | false=>
  by_cases x:n.kind=2
  ·have e:Ci n=n.kids:=by rw[g.out];simp[x]
   rw[e];rw[x] at m ⊢;clear e g;go_enter func93,ntmps93
   go_wp2_with (go_at_call 83;refine(m _ AW).mono ?_;rintro e d ⟨rfl,j⟩;obtain⟨f,y⟩:=Ef j;have J:w.heap.size<d.heap.size:=CB AU j.size;have I:d.cell? (AL w 0)=some (AB 2):=(by rw[f _ _ AU];simp[go_sem]);have G:d.cell? (AL w 3)=some (AE z n.kids.length B):=(by rw[f _ _ AU];simp[go_sem]);clear f y)
   go_ret;have l:AO w d:=AW;exact⟨z,B,rfl,(A _ l).2,l⟩
  ·have e:Ci n=[n]:=by rw[g.out];simp[x]
   rw[e];have L:(n.kind==2)=false:=by rw[CS];exact x
   clear e g;go_enter func93,ntmps93
   go_wp2_with (go_at_call 83;refine(m _ AW).mono ?_;rintro e d ⟨rfl,j⟩;obtain⟨f,y⟩:=Ef j;have J:w.heap.size<d.heap.size:=CB AU j.size;have I:d.cell? (AL w 0)=some (AB n.kind):=(by rw[f _ _ AU];simp[go_sem]);have K:d.cell? (AL w 1)=some (AB n.one.op):=(by rw[f _ _ AU];simp[go_sem]);have M:d.cell? (AL w 2)=some (AE E n.one.args.length H):=(by rw[f _ _ AU];simp[go_sem]);have G:d.cell? (AL w 3)=some (AE z n.kids.length B):=(by rw[f _ _ AU];simp[go_sem]);clear f y)
   go_ret;have l:AO w d:=AW;exact⟨_,_,rfl,Ayz (A _ l).1 (A _ l).2,AW⟩
theorem lB (x:Stil.B8)(hs:Aj x<=1000000)(Z:Dh x)(ac:E8 x)(Y:FC 59 x (C9 x)):FC 92 x (Ha x.net (C9 x)):=by
 intro L K cv O w D z H G;have j:Dw x.net/\Iq x.net/\Stil.BK x.net<=999999:=by
  obtain⟨n,c,k⟩:=x;rw[Ce] at hs;exact⟨((F7 _ _ _).1 Z).1,((En _ _ _).1 ac).1,by simp only;omega⟩
 have hE:∀args w,(callFunc 91 args).run prog w=.ok (.enter 91 args) w:=enters_of func91 AX rfl;have HT:Hid (∀W,AO w W->Calls prog 59 #[.agg #[AB x.net.kind,AB x.net.one.op,L,K,cv,O]] W (AN W (AB (C9 x)))):=λW h=>Y L K cv O W (D.below h) (z.below h) (H.below h) (G.below h)
 have U:=AV (λW h=>iU x.net L K W (D.below h) (z.below h) j.1);have af:(Ci x.net).length<=999999:=by
  unfold Ci;split
  ·simp
  ·rename_i h0
   have e:Stil.BK x.net=Af x.net:=if_neg h0;split
   ·have h1:=Js x.net.kids
    have h2:=Eg x.net;have h3:=j.2.2;omega
   ·simp
 have C:Hid (∀W v,Lp W v (Ci x.net)->Calls prog 90 #[v,AB (C9 x), .func (.func 91) #[] #[]] W (AN W (AB (Ha x.net (C9 x))))):=by
  intro W v h;refine eN (Ci x.net) Di 91 hE (λy hy=>?_) _ v W h af;have ae:Af y<=1000000:=by have:=LS x.net y hy;have:=j.2.2;omega
  exact WC y ae (VH y (VC j.2.1 y hy) ae)
 obtain⟨B,hB⟩:=AA (Ci x.net)
 obtain⟨S,Q⟩:=AA (C9 x)
 obtain⟨R,T⟩:=AA (Ha x.net (C9 x))
 rw[<-T] at C ⊢;rw[<-hB] at U C;rw[<-Q] at HT C;obtain⟨q,r,rfl,_⟩:=D.shape;obtain⟨m,A,rfl,_,_⟩:=z.shape;obtain⟨l,t,rfl,_⟩:=H.shape;obtain⟨u,s,rfl,_,_⟩:=G.shape;clear Y hB Q T hE j af D z H G Z ac;go_enter func92,ntmps92;go_upto_region 1 with fail
 obtain⟨W,g⟩:=AA (w.alloc (.cells #[AB x.net.kind,AB x.net.one.op,AE q x.net.one.args.length r,AE m x.net.kids.length A,AE l x.coils.length t,AE u x.kids.length s] 62))
 rw[<-g];have J:AO w W:=by rw[g];exact Aa _ _
 have f:w.heap.size<W.heap.size:=by rw[g];simp
 obtain⟨_,⟨y0,y1,y2,y3,y4,N⟩,_⟩:B6 W w.heap.size (AB x.net.kind) (AB x.net.one.op) (AE q x.net.one.args.length r) (AE m x.net.kids.length A) (AE l x.coils.length t) (AE u x.kids.length s):=by rw[g];exact B6.new _ _ _ _ _ _ _ _
 have M:Hid (∀V,AO W V->(V.cell? (AL w 0)=some (AB x.net.kind)/\V.cell? (AL w 1)=some (AB x.net.one.op)/\V.cell? (AL w 2)=some (AE q x.net.one.args.length r)/\V.cell? (AL w 3)=some (AE m x.net.kids.length A)/\V.cell? (AL w 4)=some (AE l x.coils.length t)/\V.cell? (AL w 5)=some (AE u x.kids.length s))):=λV h=>⟨(h.cell (p:=(AL w 0)) f).trans y0,(h.cell (p:=(AL w 1)) f).trans y1,(h.cell (p:=(AL w 2)) f).trans y2,(h.cell (p:=(AL w 3)) f).trans y3,(h.cell (p:=(AL w 4)) f).trans y4,(h.cell (p:=(AL w 5)) f).trans N⟩
 clear g
 go_region_held3 (λd=>(d.cell? (AL w 0)=some (AB x.net.kind)/\d.cell? (AL w 1)=some (AB x.net.one.op)/\d.cell? (AL w 2)=some (AE q x.net.one.args.length r)/\d.cell? (AL w 3)=some (AE m x.net.kids.length A)/\d.cell? (AL w 4)=some (AE l x.coils.length t)/\d.cell? (AL w 5)=some (AE u x.kids.length s))) (first | with_reducible assumption | with_reducible exact⟨Gz.trans y0,Gz.trans y1,Gz.trans y2,Gz.trans y3,Gz.trans y4,Gz.trans N⟩ | skip) (first | (go_at_call 93;refine(U.out _ (by exact J.drew)).mono ?_;rintro e I ⟨a1,c1,rfl,ab,ag⟩;have E:=Bc (Below.refl _ _).drew ag;have fK:Hid (∀V,AO I V->Lp V (AE a1 B.length c1) B):=(λV h=>ab.below h);have ai:=M.out I E;clear ab) | (go_at_call 59;refine(HT.out _ (by exact Bc J E)).mono ?_;rintro e w2 ⟨rfl,X⟩;have aa:=Bc E X;have ak:=M.out w2 aa) | (go_at_call 90;refine(C.out _ _ (fK.out _ (by first | exact X | exact Below.refl _ _))).mono ?_;rintro e w3 ⟨rfl,ah⟩;have jr:=Bc aa ah;have aj:=M.out w3 jr))
 all_goals
  go_wp2
  go_ret;exact⟨rfl,Bc J jr⟩
theorem yS (a:Stil.B8):Aj a<=1000000->Dh a->E8 a->FC 59 a (C9 a):=by
 induction a using Gl with
 | h n cs kids A=>
  intro y r u G D O s w q l j d;simp only at q l j d;rw[Ce] at y;obtain⟨_,_,_,_,f⟩:=(F7 _ _ _).1 r;obtain⟨_,m⟩:=(En _ _ _).1 u;have g:∀x∈kids,Aj x<=1000000:=λx c=>by have:Aj x<=I5 kids:=D9 Aj kids x c;omega
  have t:kids.length<=999999:=by have:=Og kids;omega
  have C:∀args w,(callFunc 92 args).run prog w=.ok (.enter 92 args) w:=enters_of func92 AX rfl;have B:Hid (∀W,AO w W->Calls prog 27 #[s,AB 1, .func (.func 92) #[] #[]] W λe w'=>e=.returned (AB (Bo 1 (kids.map (λk=>Ha k.net (C9 k)))))/\AO W w'):=λW h=>MC kids (λk=>Ha k.net (C9 k)) 92 C (λx c=>lB x (g x c) (f x c) (m x c) (A x c (g x c) (f x c) (m x c))) 1 s W (d.below h) t
  rw[Wl];obtain⟨R,z⟩:=AA (Bo 1 (kids.map (λk=>Ha k.net (C9 k))))
  rw[<-z] at B ⊢;obtain⟨H,I,rfl,_⟩:=q.shape;obtain⟨E,M,rfl,_,_⟩:=l.shape;obtain⟨S,K,rfl,_⟩:=j.shape;obtain⟨L,J,rfl,_,_⟩:=d.shape;clear A z C y r u f m g t q l j d;go_enter func59,ntmps59
  go_wp2_with (go_at_call 27;refine(B _ AW).mono ?_;rintro e N ⟨rfl,Q⟩)
  go_ret;exact⟨rfl,AW⟩
theorem yX (x:Stil.B8)(Q:Aj x<=1000000)(A:Dh x)(u:E8 x)(r:Am x.net=false):FC 28 x (Jh x):=by
 intro f d U C w q m t s;have z:Iq x.net/\Af x.net<=1000000:=by
  obtain⟨n,c,k⟩:=x;rw[Ce] at Q;have e:Stil.BK n=Af n:=if_neg (by rw[show Am n=false from r];exact FO);exact⟨((En _ _ _).1 u).1,by simp only;omega⟩
 have T:=Stil.full_of _ (z.1.resolve_left (by rw[r];exact FO)).2.2;have HT:Hid (∀W,AO w W->Calls prog 59 #[.agg #[AB x.net.kind,AB x.net.one.op,f,d,U,C]] W (AN W (AB (C9 x)))):=λW h=>yS x Q A u f d U C W (q.below h) (m.below h) (t.below h) (s.below h)
 have V:Hid (∀W,AO w W->Calls prog 58 #[.agg #[AB x.net.kind,AB x.net.one.op,f,d]] W (AN W (AB (Bf x.net)))):=λW h=>VH x.net T z.2 f d W (q.below h) (m.below h)
 have R:Hid (Jh x=max (Bf x.net) (C9 x)):=rfl;rw[R.out];obtain⟨j,D⟩:=AA (C9 x)
 obtain⟨g,K⟩:=AA (Bf x.net)
 rw[<-D] at HT ⊢;rw[<-K] at V ⊢;obtain⟨H,J,rfl,_⟩:=q.shape;obtain⟨E,S,rfl,_,_⟩:=m.shape;obtain⟨Z,M,rfl,_⟩:=t.shape;obtain⟨N,L,rfl,_,_⟩:=s.shape;clear D K z T r q m t s A u R;have aa:g<j\/¬g<j:=AQ
 rcases aa with ac | ac
 all_goals
  go_enter func28,ntmps28
  go_wp2_with fail
  obtain⟨W,l⟩:=AA (w.alloc (.cells #[AB x.net.kind,AB x.net.one.op,AE H x.net.one.args.length J,AE E x.net.kids.length S,AE Z x.coils.length M,AE N x.kids.length L] 62))
  rw[<-l];have y:AO w W:=by rw[l];exact Aa _ _
  obtain⟨_,⟨O,G,X,I,Y,B⟩,_⟩:B6 W w.heap.size (AB x.net.kind) (AB x.net.one.op) (AE H x.net.one.args.length J) (AE E x.net.kids.length S) (AE Z x.coils.length M) (AE N x.kids.length L):=by rw[l];exact B6.new _ _ _ _ _ _ _ _
  have k0:=cell_regrown O;have k1:=cell_regrown G;have k2:=cell_regrown X;have k3:=cell_regrown I;have k4:=cell_regrown Y;have k5:=cell_regrown B;clear l O G X I Y B;refine wp_region_quiet_below AX AX ?_;repeat (go_big_quiet_step ((first | exact Calls.regrown_of (V _ (Gq y _ _)) | exact Calls.regrown_of (HT _ (Gq y _ _)))))
  refine wpQuiet_nil ?_;intro _ ab;obtain⟨⟨dq,osq⟩,ae⟩:=ab;subst ae
  go_wp2
  go_ret;exact⟨F5 (by congr 1;omega),Gq y _ _⟩
theorem PL (l:List Stil.B8)(g:Value)(w:World)(hr:Et w)(hg:Fh w)(t:Fe w g l)(hl:l.length<=1048576)(E:Bz l<=1000000000)(q:∀x∈l,Dh x):
  Calls prog 11 #[g] w (AN w (AB (Jm l))):=by
 have s:=AV (λW h=>N4 l g W (hr.below h) (hg.below h) (t.below h) hl E q);obtain⟨j,z,r⟩:=Kt q;have d:=Vb l;have m:Hid (Jm l=Bo 0 ((Aq l).map Jh)):=rfl;obtain⟨L,u⟩:=AA (Aq l)
 rw[<-u] at s j z r m d;have C:∀args w,(callFunc 28 args).run prog w=.ok (.enter 28 args) w:=enters_of func28 AX rfl;have A:Hid (∀W v,Uo W v L->Calls prog 27 #[v,AB 0, .func (.func 28) #[] #[]] W (AN W (AB (Bo 0 (L.map Jh))))):=λW v h=>MC L Jh 28 C (λx f=>yX x (by have:=Uk f;omega) (j x f) (d x f).1 (d x f).2) 0 v W h AQ
 rw[m.out];obtain⟨R,y⟩:=AA (Bo 0 (L.map Jh))
 rw[<-y] at A ⊢;obtain⟨J,K,rfl,H⟩:=t;clear H hr hg q j z r m u C y d;go_enter func11,ntmps11
 go_wp2_with (first | (go_at_call 20;refine(s _ AW).mono ?_;rintro e D ⟨⟨a,c,G,rfl,hm,hrw⟩,O⟩;have B:Uo D (AE a G.length c) L:=yCa;have I:=AV B;clear B hrw hm) | (go_at_call 27;refine(A _ _ I.out).mono ?_;rintro e M ⟨rfl,N⟩))
 go_ret;exact⟨rfl,AW⟩
end Go.Proofs.YtifcnfeppdbjdaaGreatDoor
namespace Go.Co
open Go.Conc
variable {P:Program}{a:Act}
theorem KG {R:Act->World->Prop}{c:Code}{l:List Code}{w:World}(h:c.wp P (Exit.then (WpL P R l) λ_ _ _=>False) a w):WpL P R (c::l) a w:=h
theorem d6 {R:Act->World->Prop}{w:World}(h:R a w):WpL P R [] a w:=h
theorem e8 {Stop:Goroutine->World->Prop}{w:World}(t:OkP P){f:FuncId}{args:Array Value}{v:Value}{Post:World->Prop}(h:∀j d,Calls P f args {w with tape:=j,drawn:=d} λe w'=>e=.returned v/\Post w')
  (s:∀(c:Frame) (w' W:World),c.leaving P W (.returned v)->c.fn=f->Al Post w'->Comes P (G c []) w' Stop):Comes P (G (Frame.enter P f args .normal) []) w Stop:=by
 refine V4 t (λr w'=>∃c,r=G c []/\c.leaving P w' (.returned v)/\c.fn=f/\Post w') rfl (λg w ⟨c,h,_⟩=>by rw[h];rfl) (fun j d=>?_) ?_
 ·obtain⟨e,w',q,⟨rfl,m⟩,⟨n,u⟩,l,p⟩:=h j d []
  exact⟨n,G q [],w',u,q,rfl,p,l,m⟩
 ·rintro r w' ⟨j,d,c,rfl,p,l,m⟩
  exact s c w' _ p l ⟨j,d,m⟩
end Go.Co
namespace Go.Proofs.YtifcnfeppdbjdaaGreatDoor
open Tryz Go.RowKit Go.Sort Go.BigFrame Go.Co
theorem ES.insts {w:World}{base:Nat}{v:Value}{e:List MI}{L:List Stil.Io}(h:ES w base v e)(c:e.map MI.inst=L)(f:∀x∈L,x.fits)(hl:L.length<=800):Hw w v L:=by
 obtain⟨b,q,d⟩:=h.pk (λx g=>(f _ (by rw[<-c];exact FX g)).2.2.1) (by rw[<-c,CW] at hl;omega);rw[c] at d;exact d.2.2.2.2.2.1.at
def S8 (F:FuncId)(w:World)(g':Goroutine)(w':World):Prop:=∃c:Frame,g'=Go.Conc.G c []/\c.mode=.returning/\c.defers=[]/\c.kind=.normal/\c.fn=F/\c.tmps.getD 2 undef=.bool true/\C6 w.heap.size w w'
section
variable {w w' : World}{v : Value}
theorem Fe.blw {l:List Stil.B8}(h:Fe w v l)(c:C6 w.heap.size w w'):Fe w' v l:=by
 have e:Fe {w' with tape:=w.tape,drawn:=0} v l=Fe w' v l:=AX
 exact e ▸ h.below (c.tape 0)
theorem Hw.blw {l:List Stil.Io}(h:Hw w v l)(c:C6 w.heap.size w w'):Hw w' v l:=by
 have e:Hw {w' with tape:=w.tape,drawn:=0} v l=Hw w' v l:=AX
 exact e ▸ h.below (c.tape 0)
theorem Et.blw (h:Et w)(c:C6 w.heap.size w w'):Et w':=by
 have e:Et {w' with tape:=w.tape,drawn:=0}=Et w':=AX
 exact e ▸ h.below (c.tape 0)
theorem Fh.blw (h:Fh w)(c:C6 w.heap.size w w'):Fh w':=by
 have e:Fh {w' with tape:=w.tape,drawn:=0}=Fh w':=AX
 exact e ▸ h.below (c.tape 0)
theorem Tp.blw {B:Nat}(h:Tp w w'):C6 B w w':=by obtain⟨c,d,rfl⟩:=h;exact⟨rfl,rfl,CG _,λ_ _=>rfl⟩
end
section
open Go.Conc
variable {Stop : Goroutine -> World -> Prop}{a : Act}{w W0 : World}{b : Frame}{k : List Item}{cs : List Frame}{ops : Array Oper}{i : Nat}{rest : List Nat}{o : Oper}
theorem cP (t:Tp W0 w)(v:Value)(h:∀w',Tp W0 w'->Go.Co.Comes prog (G (b.at (a.put o.dst v) (.inRegion ops rest::k)) cs) w' Stop)(ho:ops[i]?=some o:=by rfl)(hw:Region.wanted o (yielded ops a.tmps)=true:=by rfl)(hk:b.kind≠.early:=by simp[Go.Conc.base])
  (hr:∀w₁:World,(execOp a.eval o).run prog w₁=.ok (.value v) w₁:=by(intro _;first | (simp[Act.put];go_simp;done) | (simp[Act.put];go_simp;simp[*];done) | (simp[Act.put, *];go_simp;done)))
  (he:∀w₁:World,(execOp a.eval o).events prog w₁ #[]=#[]:=by(intro _;first | (simp[go_sem];done) | rfl)):Go.Co.Comes prog (G (b.at a (.inRegion ops (i::rest)::k)) cs) w Stop:=Qh okP ho hw hk hr he λw' q=>h w' (t.al q)
theorem cN (t:Tp W0 w)(h:∀w',Tp W0 w'->Go.Co.Comes prog (G (b.at a k) cs) w' Stop):Go.Co.Comes prog (G (b.at a (.inRegion ops []::k)) cs) w Stop:=LG okP λw' q=>h w' (t.al q)
theorem cR {e:Nat}{d:Code}(h:∀w',Tp w w'->Go.Co.Comes prog (G (b.at a (.inRegion ops (List.range ops.size)::.code d::k)) cs) w' Stop):Go.Co.Comes prog (G (b.at a (.code (.seq (.region e ops false) d)::k)) cs) w Stop:=V3 okP λ_ q=>Rk okP λw' c=>h w' (((Tp.refl w).al q).al c)
theorem cC (t:Tp W0 w){f:FuncId}{F:Func}{c:Code}{args:Array Operand}{ats:Array TypeId}(vals:Array Value){Post:Value->World->Prop}(hf:prog.funcs[f]?=some F)(hcall:∀w',Tp W0 w'->GH prog f vals w' Post)
  (h:∀v w',Post v w'->Go.Co.Comes prog (G (b.at (a.put o.dst v) (.inRegion ops rest::k)) cs) w' Stop) (ho:ops[i]?=some o:=by rfl) (hw:Region.wanted o (yielded ops a.tmps)=true:=by rfl) (hk:b.kind≠.early:=by simp[Go.Conc.base])
  (hop:o.op=.call {callee:=.value (.func f),args,argTypes:=ats}:=by rfl) (hb:F.body=some c:=by rfl) (hargs:args.map a.eval=vals:=by simp[Act.eval,Act.put]):Go.Co.Comes prog (G (b.at a (.inRegion ops (i::rest)::k)) cs) w Stop:=OP okP ho hw hk hop hf hb hargs (λw' q=>hcall w' (t.al q)) h
theorem Tp.lw {W w':World}(t:Tp W0 W)(c:C6 W.heap.size W w'):C6 W0.heap.size W0 w':=by obtain⟨e,d,rfl⟩:=t;exact⟨c.os,c.out,c.size,c.block⟩
end
open Go.Conc
variable {F:FuncId}{fn:Func}
theorem ir (h:prog.funcs[F]?=some fn)(d:fn.results=#[.tmp 2])(n:prog.inits.idxOf? F=none){fr:Frame}(j:fr.mode=.returning)(hd:fr.defers=[])(f:fr.kind=.normal)(g:fr.fn=F)(c:fr.tmps.getD 2 undef=.bool true)(W:World):
  stepG prog true (G fr []) W=.ended (.done (.bool true)) W #[]:=by
 have e:=resultsC_tmp (P:=prog) d fr.tmps W;rw[c] at e;obtain⟨l,defers,kind,m⟩:=fr;simp_all[G,stepG,unwind,doReturn,seen,GStep.after]
theorem iv {c:Code}(g:prog.funcs[F]?=some fn)(t:fn.body=some c)(r:fn.results=#[.tmp 2])(q:prog.inits.idxOf? F=none){args:Array Value}{W:World}{Post:Value->World->Prop}
  (h:Go.Co.Comes prog (G (Frame.enter prog F args .normal) []) W (S8 F W)) (n:∀w',C6 W.heap.size W w'->Post (.bool true) w'):
  ∃N last o w' f,runNT prog (N+1) (solo (G (Frame.enter prog F args .normal) []) W) #[]=(.ended o w',f)/\runN prog N (solo (G (Frame.enter prog F args .normal) []) W)=.next last/\step prog last=.ended o w'/\Conc.Good prog Post last o w' f:=by
 rw[Go.Co.enter_at args g t] at h ⊢;refine rR ⟨λi hi=>?_,λc u=>by cases u⟩ (h.mono λx w' _ hF d=>?_)
 ·obtain rfl:i=.code c:=by simpa[G,Frame.at,Go.Conc.base] using hi
  trivial
 ·obtain⟨y,rfl,m,hd,s,l,j,e⟩:=hF
  exact⟨rfl, .bool true,#[],ir g r q m hd s l j _,AU,n _ ⟨e.os,e.out,e.size,e.block⟩⟩
end Go.Proofs.YtifcnfeppdbjdaaGreatDoor
set_option maxHeartbeats 4000000
set_option maxRecDepth 100000
namespace Go.Proofs.YtifcnfeppdbjdaaGreatDoor
open Tryz Stil Go.RowKit Go.Sort Go.BigFrame Go.Co
theorem mh {l:List Stil.B8}(h:(Hu l).2≠0):(Hu l).1=[]:=by
 unfold Hu at h ⊢;split
 ·rfl
 ·split
  ·rfl
  ·rename_i c d
   rw[if_neg c,if_neg d] at h;exact absurd rfl h
theorem ES.nil (w:World)(base:Nat):ES w base AG []:=⟨base,CG _,World.ownsRow_nil _ _ _ _,(λx d=>by cases d),M4,(λk c=>by cases c)⟩
theorem Azy (l:List Stil.B8)(f:Value)(w:World)(hr:Et w)(hg:Fh w)(m:Fe w f l)(hl:l.length<=1048576)(q:Bz l<=1000000000)(r:∀x∈l,Dh x)(d:(Hu l).2≠0):
  Calls prog 5 #[f] w (AN w (.tuple #[AG,AB (Hu l).2])):=by
 have j:=AV (λW h=>N2 l f W (hr.below h) (hg.below h) (m.below h) hl q r);have t:=AV (λW h=>PL l f W (hr.below h) (hg.below h) (m.below h) hl q r);have u:=AV (λW h=>N3 l f W (hr.below h) (hg.below h) (m.below h) hl q r);have s:=(Xd l).1;have z:Hu l=if 0<(Aw l).1 then([],1) else if 16<Jm l\/8<Hz l then([],2) else(Hy l,0):=rfl
 obtain⟨G,H,rfl,_⟩:=m;rw[z] at d ⊢;clear z r q hr hg;generalize (Aw l).1=c at*;generalize Jm l=x at*;generalize Hz l=y at*;by_cases g:0<c
 ·rw[if_pos g]
  rw[FW AQ] at j;clear t u d g s;go_enter func5,ntmps5
  go_wp2_with (go_at_call 18;refine(j _ AW).mono ?_;rintro e A ⟨rfl,B⟩)
  refine bodyPost_ret (v:=.tuple #[AG,AB 1]) (by simp[results,results5,go_sem]) rfl ⟨rfl,AW⟩
 rw[if_neg g] at d ⊢;rw[JH AQ] at j;by_cases I:(16:Int)<x
 ·rw[if_pos (.inl AQ)]
  clear u d g s;go_enter func5,ntmps5
  go_wp2_with (first | (go_at_call 18;refine(j _ AW).mono ?_;rintro e A ⟨rfl,B⟩) | (go_at_call 11;refine(t _ AW).mono ?_;rintro e C ⟨rfl,D⟩))
  refine bodyPost_ret (v:=.tuple #[AG,AB 2]) (by simp[results,results5,go_sem]) rfl ⟨rfl,AW⟩
 by_cases J:(8:Int)<y
 ·rw[if_pos (.inr AQ)]
  clear d g s;go_enter func5,ntmps5
  go_wp2_with (first | (go_at_call 18;refine(j _ AW).mono ?_;rintro e A ⟨rfl,B⟩) | (go_at_call 11;refine(t _ AW).mono ?_;rintro e C ⟨rfl,D⟩) | (go_at_call 12;refine(u _ AW).mono ?_;rintro e w3 ⟨rfl,E⟩))
  refine bodyPost_ret (v:=.tuple #[AG,AB 2]) (by simp[results,results5,go_sem]) rfl ⟨rfl,AW⟩
 rw[if_neg AQ] at d;exact absurd rfl d
theorem Azz (l:List Stil.B8)(g:Value)(w:World)(hr:Et w)(hg:Fh w)(A:Fe w g l)(hl:l.length<=1048576)(t:Bz l<=1000000000)(D:∀x∈l,Dh x):
  GH prog 5 #[g] w λv w'=>∃(ac:Value) (j:List MI),v=.tuple #[ac,AB (Hu l).2]/\j.map MI.inst=(Hu l).1/\ES w' w.heap.size ac j/\C6 w.heap.size w w':=by
 by_cases N:¬(Hu l).2=0
 ·refine(VW okP (Post:=λr w'=>r=.tuple #[AG,AB (Hu l).2]/\C6 w.heap.size w w') fun f d=>?_).mono λr w' ⟨f,d,L,C⟩=>⟨AG,[],L,(mh N).symm,ES.nil _ _,C.os,C.out,C.size,C.block⟩
  have e1:Et {w with tape:=f,drawn:=d}=Et w:=AX
  have e2:Fh {w with tape:=f,drawn:=d}=Fh w:=AX
  have e3:Fe {w with tape:=f,drawn:=d} g l=Fe w g l:=AX
  exact(Azy l g {w with tape:=f,drawn:=d} (e1 ▸ hr) (e2 ▸ hg) (e3 ▸ A) hl t D N).mono λe w' h=>⟨_,h.1,rfl,h.2.os,h.2.output,h.2.size,h.2.block⟩
 obtain⟨S,T,G⟩:=me (Decidable.not_not.1 N);rw[R7 S T G];clear N;intro fr cs Stop hn;have z:∃c0 c1 d,Tryz.f5.body=some (HO [c0,c1] d):=⟨_,_,_,rfl⟩
 obtain⟨c0,c1,d,z⟩:=z;have kD:=Go.Conc.resultsC_tmp2 (P:=prog) (fn:=Tryz.f5) rfl;rw[Go.Co.enter_at #[g] func5 z];simp only[ntmps5,Cd,CH,CO,Nat.reduceAdd,Nat.reduceSub,DN,DO,DL,DR,C5,C4];unfold Tryz.f5 at z;simp only[HO] at z;cases z;obtain⟨M,ak⟩:∃M:Act->World->Prop,M=(λH W=>(∃(u2 u3 u4 u5 u6 u7 u8 u9 aj aa ai ab an af ah:Value),H=⟨#[g,undef,u2,u3,u4,u5,u6,u7,u8,u9,aj,aa,ai,ab,an,af,ah,undef,undef],[]⟩)/\C6 w.heap.size w W):=⟨_,rfl⟩
 have U:=AV ak;clear ak;refine XB okP [_,_] (R:=M) ?_ ?_
 ·intro f s
  obtain⟨W,K⟩:∃W:World,W={w with tape:=f,drawn:=s}:=⟨_,rfl⟩
  rw[<-K];have m:Tp w W:=⟨f,s,K⟩
  have iZ:Hid (∀c,AO W c->C6 w.heap.size w c):=by
   intro c h;subst K;exact⟨h.os,h.output,h.size,h.block⟩
  have HT:Hid (∀c,AO W c->Calls prog 18 #[g] c (AN c (.bool true))):=by
   intro c h;have J:=N2 l g c ((hr.blw m.blw).below h) ((hg.blw m.blw).below h) ((A.blw m.blw).below h) hl t D;rw[JH S] at J;exact J
  have HB:=AV (λc h=>PL l g c ((hr.blw m.blw).below h) ((hg.blw m.blw).below h) ((A.blw m.blw).below h) hl t D);have HK:=AV (λc h=>N3 l g c ((hr.blw m.blw).below h) ((hg.blw m.blw).below h) ((A.blw m.blw).below h) hl t D);have L:¬(16:Int)<(Jm l:Int):=AQ
  have J:¬(8:Int)<(Hz l:Int):=AQ
  clear T G S;generalize Jm l=x at*;generalize Hz l=y at*;clear K m hr hg A hl t D hn;refine KG ?_
  go_wp2
  refine KG ?_
  go_wp2_with (first | (go_at_call 18;refine(HT _ AW).mono ?_;rintro e w1 ⟨rfl,aC⟩) | (go_at_call 11;refine(HB _ AW).mono ?_;rintro e w2 ⟨rfl,az⟩) | (go_at_call 12;refine(HK _ AW).mono ?_;rintro e w3 ⟨rfl,aB⟩))
  refine d6 ?_;rw[U.out];exact⟨⟨_,_,_,_,_,_,_,_,_,_,_,_,_,_,_,rfl⟩,iZ _ AW⟩
 intro H V ag;rw[U.out] at ag;clear U M S T G;obtain⟨f,s,⟨u2,u3,u4,u5,u6,u7,u8,u9,aj,aa,ai,ab,an,af,ah,rfl⟩,u⟩:=ag;replace u:C6 w.heap.size w V:=⟨u.os,u.out,u.size,u.block⟩
 refine V3 okP λx1 h=>?_
 have t1:=(Tp.refl V).al h;refine Rk okP λx2 h=>?_
 have t2:=t1.al h;simp only[Cd,CH,CO,Nat.reduceAdd,CV,List.range,List.range.loop];refine Qh okP rfl Ao yFj (v:=g) (λ_=>by go_simp) (λ_=>by simp[go_sem]) λx3 h=>?_
 have t3:=t2.al h;have lg:∀c,Tp V c->GH prog 6 #[g] c λv w'=>∃j:List MI,j.map MI.inst=Hy l/\ES w' w.heap.size v j/\C6 w.heap.size w w':=by
  intro c E;have q:=u.trans E.blw;refine(Wz l g c (hr.blw q) (hg.blw q) (A.blw q) hl t D).mono λr w' ⟨j,L,⟨av,J,C,h4,h5,h6⟩,h7⟩=>⟨j,L,⟨av,CJ q.size J,C,λx hx=>Joins.ownsRow_le (h4 x hx) q.size,h5,λk G=>⟨CJ q.size (h6 k G).1,(h6 k G).2⟩⟩,q.trans (h7.le q.size)⟩
 refine OP okP rfl Ao yFj rfl func6 rfl (vals:=#[g]) (by simp[Act.eval,Act.put]) (λc h=>lg c (t3.al h)) λB I hp=>?_
 obtain⟨j,au,hO,O⟩:=hp;clear lg t1 t2 t3 h;refine Qh okP rfl Ao yFj (v:=B) (λ_=>by simp[Act.put];go_simp) (λ_=>by simp[go_sem]) λx4 h=>?_
 have t4:=(Tp.refl I).al h;refine Qh okP rfl Ao yFj (v:=AB 0) (λ_=>by simp[Act.put];go_simp) (λ_=>by simp[go_sem]) λx5 h=>?_
 have t5:=t4.al h;refine LG okP λX h=>?_
 have t6:=t5.al h;clear t4 t5 h;simp only[Act.put];refine ZE okP (Q:=λe a w'=>e=.ret/\a.defers=[]/\a.tmps.getD 2 undef=B/\a.tmps.getD 3 undef=AB 0/\Tp X w') (λe a w h=>.inr h.1) (fun f s=>?_) ?_ ?_
 ·have E:Tp X {X with tape:=f,drawn:=s}:=⟨f,s,rfl⟩
  revert E
  generalize {X with tape:=f,drawn:=s}=Y;intro E
  go_wp2
 ·rintro H w' ⟨f,d,h,_⟩
  cases h
 ·rintro H w' aA ⟨f,d,_,hd,ay,ax,E⟩
  refine Ug okP (fr':=fr.finish (.tuple #[B,AB 0])) (cs':=cs) (λae=>?_) λaw h=>?_
  ·have Z:=kD H.tmps
   rw[ay,ax] at Z;exact Go.Conc.stepG_leave (b:=Go.Conc.base 5) rfl hd func5 (Z ae).1 (Z ae).2
  ·have ar:Tp I aw:=by
    obtain⟨ao,d1,rfl⟩:=t6;obtain⟨ap,d2,rfl⟩:=E.al ⟨f,d,rfl⟩;exact(show Tp I _ from⟨ap,d2,rfl⟩).al h
   obtain⟨ao,d1,rfl⟩:=ar;have e:ES {I with tape:=ao,drawn:=d1} w.heap.size B j=ES I w.heap.size B j:=AX
   exact hn _ _ ⟨B,j,rfl,au,e ▸ hO,O.os,O.out,O.size,O.block⟩
