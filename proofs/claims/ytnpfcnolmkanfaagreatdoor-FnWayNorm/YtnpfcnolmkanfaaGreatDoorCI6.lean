import Derived.Test.YtnpfcnolmkanfaaGreatDoorGy
import Derived.Lib.QuietBelow
import Derived.Test.YtnpfcnolmkanfaaGreatDoorM57
import Derived.Deep.RegionHeld3
import Derived.Test.YtnpfcnolmkanfaaGreatDoorLW32a
import Derived.Conc.LeavingOf
set_option maxHeartbeats 4000000
set_option maxRecDepth 100000
namespace Go.Proofs.YtnpfcnolmkanfaaGreatDoor
open Tryz
open Stil
open Go.RowKit Go.Sort Go.BigFrame
theorem Nq.tail {w:World}{b o c:Nat}{x:Stil.Net}{r:List Stil.Net}(h:Nq w (.slice (some ⟨b,o,none⟩) (r.length+1) c) (x::r)):Nq w (.slice (some ⟨b,o+4,none⟩) r.length (c - 1)) r:=by
 obtain⟨s,t,e,l,g⟩:=h;simp only[A53,Value.slice.injEq,true_and] at e;obtain⟨rfl,rfl⟩:=e;have j:=l.1;rw[A53] at j;refine⟨_,c - 1,rfl,⟨omz,λh=>by cases h⟩,λi hi=>?_⟩;obtain⟨u,y,d,q,n,f⟩:=g (i+1) (by simp only[A53];omega);simp only[A65,Addr.mk.injEq,A8u] at d;obtain⟨rfl,rfl⟩:=d;refine⟨b,o+4,rfl,q,n,?_⟩;rw[A8z] at f;have m:o+(i+1)*4=o+4+i*4:=omz
 rw[<-m];exact f
theorem Ag6 (x:Stil.Net)(D:Am x<=1000000)(q:Atx 52 x (Eu x)):Atx 86 x (Oa x):=by
 intro u t w d l;have g:Hid (∀W,Below w.heap.size w W->Calls prog 52 #[.agg #[.int .i64 x.kind, .int .i64 x.one.op,u,t]] W λe w'=>e=.returned (.int .i64 (Eu x))/\Below W.heap.size W w'):=λW h=>q u t W (d.below h) (l.below h)
 have A:=Al9 x;have c:Hid (Oa x=if x.kind=1 then 1 else 1+Eu x):=rfl;obtain⟨m,r⟩:∃m,m=Eu x:=⟨_,rfl⟩
 obtain⟨T,s⟩:∃T,T=Oa x:=⟨_,rfl⟩
 rw[<-r] at g A c;rw[<-s] at c ⊢;obtain⟨k,p⟩:∃k,k=x.kind:=⟨_,rfl⟩
 rw[<-p] at g c ⊢;obtain⟨B,I,rfl,z⟩:=d.shape;obtain⟨J,C,rfl,y,_⟩:=l.shape;clear q z y r s p d l;by_cases f:k=1
 ·subst f
  have j:Hid (T=1):=by show _=_;rw[c.out];rfl
  clear c;go_enter func86,ntmps86
  go_wp2
  go_ret;exact⟨Gz (by rw[j.out];rfl),blA⟩
 ·have j:Hid (T=1+m):=by show _=_;rw[c.out,if_neg f]
  have E:(k==1)=false:=by rw[A64];exact f
  clear c;go_enter func86,ntmps86
  go_wp2_with (go_at_call 52;refine(g _ blA).mono ?_;rintro e H ⟨rfl,G⟩)
  go_ret;exact⟨Gz (by rw[j.out];go_num),blA⟩
theorem Aeo (n:Stil.Net):Xf n->Am n<=1000000->Atx 52 n (Eu n):=by
 induction n using Gf with
 | h k e kids l=>
  intro E t av nv w j f;simp only at j f;obtain⟨I,B⟩:=(Abw _ _ _).1 E;rw[Ep] at t;simp only at t;have g:∀x∈kids,Am x<=1000000:=λx hx=>by have:Am x<=Stil.sizes kids:=Ed Am kids x hx;omega
  have C:kids.length<=999999:=by have:=Ku kids;omega
  obtain⟨p0,r0,rfl,U⟩:=j.shape;by_cases z:k=1
  ·subst z
   rw[Al8];obtain⟨p1,c,rfl,ag,_⟩:=f.shape;clear U ag l g C E I B t j f;go_enter func52,ntmps52
   go_wp2
   go_ret;exact⟨rfl,blA⟩
  ·obtain⟨x,r,rfl⟩:=A87 (I z)
   rw[Ahn e x r z];have yF:=f;obtain⟨p1,c,rfl,H,Z⟩:=f.shape;obtain⟨b,o,rfl,s,G⟩:=Z 0 spz;simp only[A7a,A8a,A75] at G;have aa:r.length+1<=c:=by have:=H.1;simp only[A53] at this;exact this
   have Y:Nq w (.slice (if c=1 then some ⟨b,o,none⟩ else some ⟨b,o+4,none⟩) r.length (c - 1)) r:=by
    by_cases Q:c=1
    ·rw[if_pos Q]
     have ac:r=[]:=List.length_eq_zero_iff.1 omz;subst ac;exact⟨_,_,rfl,⟨A7l _,λh=>by cases h⟩,λi hi=>by simp at hi⟩
    ·rw[if_neg Q]
     exact Nq.tail (by simpa only[A53] using yF)
   have V:∀args w,(callFunc 86 args).run prog w=.ok (.enter 86 args) w:=enters_of func86 krz rfl;have S:r.length<=999999:=by simp only[A53] at C;omega
   have A:Hid (∀W,Below w.heap.size w W->Calls prog 85 #[.slice (if c=1 then some ⟨b,o,none⟩ else some ⟨b,o+4,none⟩) r.length (c - 1), .int .i64 (Eu x), .func (.func 86) #[] #[]] W λe w'=>e=.returned (.int .i64 (Ff (Eu x) (r.map Oa)))/\Below W.heap.size W w'):=by
    intro W h;refine Axb r Oa 86 V (λy hy=>?_) _ _ W (Y.below h) S;have u:y∈x::r:=A56 _ hy;exact Ag6 y (g y u) (l y u (B y u) (g y u))
   obtain⟨N,x1,O,mO,x2,L,K,J⟩:=G.open;have M:Hid (∀W,Below w.heap.size w W->Calls prog 52 #[.agg #[.int .i64 x.kind, .int .i64 x.one.op,O,mO]] W λe w'=>e=.returned (.int .i64 (Eu x))/\Below W.heap.size W w'):=λW h=>l x spz (B x spz) (g x spz) O mO W (K.below h) (J.below h)
   obtain⟨D,T⟩:∃D,D=Eu x:=⟨_,rfl⟩
   rw[<-T] at A M ⊢;obtain⟨R,hR⟩:∃R,R=Ff D (r.map Oa):=⟨_,rfl⟩
   rw[<-hR] at A ⊢;simp only[A53];obtain⟨m,hm⟩:∃m,m=r.length:=⟨_,rfl⟩
   have al:m+1<=c:=by have:=H.1;simp only[A53] at this;omega
   rw[<-hm] at A S ⊢;obtain⟨q0,s0,rfl,ab⟩:=K.shape;obtain⟨q1,s1,rfl,ah,_⟩:=J.shape;have ak:(k==1)=false:=by rw[A64];exact z
   clear U ab ah Y yF Z G V T hR l g C hm H j f K J E I B t aa;go_enter func52,ntmps52
   go_wp2
   obtain⟨W,q⟩:∃W,W=w.alloc (.cells #[.int .i64 k, .int .i64 e.op, .slice p0 e.args.length r0, .slice (some ⟨b,o,none⟩) (m+1) c] 43):=⟨_,rfl⟩
   rw[<-q];have d:Below w.heap.size w W:=by rw[q];exact Aa _ _
   have X:W.cell? ⟨w.heap.size,3,none⟩=some (.slice (some ⟨b,o,none⟩) (m+1) c):=by rw[q];simp[go_sem]
   have k0:=cell_regrown ((d.cell (p:=⟨b,o,none⟩) s).trans N);have k1:=cell_regrown ((d.cell (p:=⟨b,o+1,none⟩) s).trans x1);have k2:=cell_regrown ((d.cell (p:=⟨b,o+2,none⟩) s).trans x2);have k3:=cell_regrown ((d.cell (p:=⟨b,o+3,none⟩) s).trans L);have k6:=cell_regrown X;have ai:(1:Int)<=(m:Int)+1:=omz
   have an:(m:Int)+1<=(c:Int):=omz
   have aj:(0:Int)<(m:Int)+1:=omz
   clear q X N x1 x2 L;refine wp_region_quiet_below krz krz ?_;repeat (go_big_quiet_step ((first | exact Calls.regrown_of (M _ (Hw d _ _)) | exact Calls.regrown_of (A _ (Hw d _ _)))))
   refine wpQuiet_nil ?_;intro _ ae;obtain⟨⟨dq,osq⟩,af⟩:=ae;subst af
   go_wp2
   all_goals go_ret
   all_goals exact⟨rfl,Hw d _ _⟩
theorem Awk (w:World):Nq w (.slice none 0 0) []:=⟨none,0,rfl,⟨A57 _,λ_=>rfl⟩,λi hi=>by simp at hi⟩
theorem Awj {W:World}{n:Stil.Net}{d c:Value}(g:Ux W d n.one.args)(f:Nq W c n.kids):Nq (W.alloc (.cells #[.int .i64 n.kind, .int .i64 n.one.op,d,c] 43)) (.slice (some ⟨W.heap.size,0,none⟩) 1 1) [n]:=by
 have e:=Aa W (.cells #[.int .i64 n.kind, .int .i64 n.one.op,d,c] 43);refine⟨_,1,rfl,⟨A57 _,λh=>by cases h⟩,λi hi=>?_⟩;have j:i=0:=by simp at hi;exact hi
 subst j;refine⟨W.heap.size,0,rfl,trivial,spz,?_⟩;rw[A7a,Qj];exact⟨by simp[go_sem],by simp[go_sem],⟨d,by simp[go_sem],g.below e⟩,⟨c,by simp[go_sem],f.below e⟩⟩
theorem A0n (n:Stil.Net)(u r:Value)(w:World)(q:Ux w u n.one.args)(s:Nq w r n.kids)(I:Dt n):
  Calls prog 88 #[.agg #[.int .i64 n.kind, .int .i64 n.one.op,u,r]] w λe w'=>∃a c,e=.returned (.slice a (Eh n).length c)/\Nq w' (.slice a (Eh n).length c) (Eh n)/\Below w.heap.size w w':=by
 have l:=hid (λW h=>Ti n u r W (q.below h).at (s.below h).at I);have A:Hid (∀W,Below w.heap.size w W->Ux W u n.one.args/\Nq W r n.kids):=λW h=>⟨q.below h,s.below h⟩
 obtain⟨E,J,rfl,_⟩:=q.shape;obtain⟨B,y,rfl,_,_⟩:=s.shape;have g:Hid (Eh n=if Ar n then [] else if n.kind=2 then n.kids else [n]):=rfl;obtain⟨t,C⟩:∃t,t=Ar n:=⟨_,rfl⟩
 rw[<-C] at l g;clear q s C;cases t with
 | true=>
  have e:Eh n=[]:=g.out;rw[e];clear e g;go_enter func88,ntmps88
  go_wp2_with (go_at_call 69;refine(l _ blA).mono ?_;rintro e d ⟨rfl,j⟩)
  go_ret;exact⟨none,0,rfl,Awk _,blA⟩
 | false=>
  by_cases x:n.kind=2
  ·have e:Eh n=n.kids:=by rw[g.out];simp[x]
   rw[e];rw[x] at l ⊢;clear e g;go_enter func88,ntmps88
   go_wp2_with (go_at_call 69;refine(l _ blA).mono ?_;rintro e d ⟨rfl,j⟩;obtain⟨f,z⟩:=D7 j;have H:w.heap.size<d.heap.size:=A51 spz j.size;have D:d.cell? ⟨w.heap.size,0,none⟩=some (.int .i64 2):=(by rw[f _ _ spz];simp[go_sem]);have G:d.cell? ⟨w.heap.size,3,none⟩=some (.slice B n.kids.length y):=(by rw[f _ _ spz];simp[go_sem]);clear f z)
   go_ret;have m:Below w.heap.size w d:=blA;exact⟨B,y,rfl,(A _ m).2,m⟩
  ·have e:Eh n=[n]:=by rw[g.out];simp[x]
   rw[e];have L:(n.kind==2)=false:=by rw[A64];exact x
   clear e g;go_enter func88,ntmps88
   go_wp2_with (go_at_call 69;refine(l _ blA).mono ?_;rintro e d ⟨rfl,j⟩;obtain⟨f,z⟩:=D7 j;have H:w.heap.size<d.heap.size:=A51 spz j.size;have D:d.cell? ⟨w.heap.size,0,none⟩=some (.int .i64 n.kind):=(by rw[f _ _ spz];simp[go_sem]);have K:d.cell? ⟨w.heap.size,1,none⟩=some (.int .i64 n.one.op):=(by rw[f _ _ spz];simp[go_sem]);have M:d.cell? ⟨w.heap.size,2,none⟩=some (.slice E n.one.args.length J):=(by rw[f _ _ spz];simp[go_sem]);have G:d.cell? ⟨w.heap.size,3,none⟩=some (.slice B n.kids.length y):=(by rw[f _ _ spz];simp[go_sem]);clear f z)
   go_ret;have m:Below w.heap.size w d:=blA;exact⟨_,_,rfl,Awj (A _ m).1 (A _ m).2,blA⟩
theorem A22 (x:Stil.Arm)(hs:Aw x<=1000000)(hf:Cm x)(O:Gm x)(Z:Agd 53 x (H8 x)):Agd 87 x (Xe x.net (H8 x)):=by
 intro M G cv kv w l D J L;have g:Dt x.net/\Jq x.net/\Stil.nsz x.net<=999999:=by
  obtain⟨n,c,k⟩:=x;rw[Dp] at hs;exact⟨((Gi _ _ _).1 hf).1,((Gu _ _ _).1 O).1,by simp only;omega⟩
 have hE:∀args w,(callFunc 86 args).run prog w=.ok (.enter 86 args) w:=enters_of func86 krz rfl;have HT:Hid (∀W,Below w.heap.size w W->Calls prog 53 #[.agg #[.int .i64 x.net.kind, .int .i64 x.net.one.op,M,G,cv,kv]] W λe w'=>e=.returned (.int .i64 (H8 x))/\Below W.heap.size W w'):=λW h=>Z M G cv kv W (l.below h) (D.below h) (J.below h) (L.below h)
 have U:=hid (λW h=>A0n x.net M G W (l.below h) (D.below h) g.1);have af:(Eh x.net).length<=999999:=by
  unfold Eh;split
  ·simp
  ·rename_i h0
   have e:Stil.nsz x.net=Am x.net:=if_neg h0;split
   ·have h1:=Ku x.net.kids
    have h2:=Ep x.net;have h3:=g.2.2;omega
   ·simp
 have q:Hid (∀W v,Nq W v (Eh x.net)->Calls prog 85 #[v, .int .i64 (H8 x), .func (.func 86) #[] #[]] W λe w'=>e=.returned (.int .i64 (Xe x.net (H8 x)))/\Below W.heap.size W w'):=by
  intro W v h;refine Axb (Eh x.net) Oa 86 hE (λy Q=>?_) _ v W h af;have S:Am y<=1000000:=by have:=Al7 x.net y Q;have:=g.2.2;omega
  exact Ag6 y S (Aeo y (Aot g.2.1 y Q) S)
 obtain⟨B,hB⟩:∃B,B=Eh x.net:=⟨_,rfl⟩
 obtain⟨tb,ae⟩:∃tb,tb=H8 x:=⟨_,rfl⟩
 obtain⟨R,hR⟩:∃R,R=Xe x.net (H8 x):=⟨_,rfl⟩
 rw[<-hR] at q ⊢;rw[<-hB] at U q;rw[<-ae] at HT q;obtain⟨m,t,rfl,_⟩:=l.shape;obtain⟨u,A,rfl,_,_⟩:=D.shape;obtain⟨r,s,rfl,_⟩:=J.shape;obtain⟨C,z,rfl,_,_⟩:=L.shape;clear Z hB ae hR hE g af l D J L hf O;go_enter func87,ntmps87;go_upto_region 1 with fail
 obtain⟨W,j⟩:∃W,W=w.alloc (.cells #[.int .i64 x.net.kind, .int .i64 x.net.one.op, .slice m x.net.one.args.length t, .slice u x.net.kids.length A, .slice r x.coils.length s, .slice C x.kids.length z] 46):=⟨_,rfl⟩
 rw[<-j];have H:Below w.heap.size w W:=by rw[j];exact Aa _ _
 have d:w.heap.size<W.heap.size:=by rw[j];simp
 obtain⟨_,⟨y0,X,Y,T,y4,N⟩,_⟩:B6 W w.heap.size (.int .i64 x.net.kind) (.int .i64 x.net.one.op) (.slice m x.net.one.args.length t) (.slice u x.net.kids.length A) (.slice r x.coils.length s) (.slice C x.kids.length z):=by rw[j];exact B6.new _ _ _ _ _ _ _ _
 have K:Hid (∀V,Below W.heap.size W V->(V.cell? ⟨w.heap.size,0,none⟩=some (.int .i64 x.net.kind)/\V.cell? ⟨w.heap.size,1,none⟩=some (.int .i64 x.net.one.op)/\V.cell? ⟨w.heap.size,2,none⟩=some (.slice m x.net.one.args.length t)/\V.cell? ⟨w.heap.size,3,none⟩=some (.slice u x.net.kids.length A)/\V.cell? ⟨w.heap.size,4,none⟩=some (.slice r x.coils.length s)/\V.cell? ⟨w.heap.size,5,none⟩=some (.slice C x.kids.length z))):=λV h=>⟨(h.cell (p:=⟨w.heap.size,0,none⟩) d).trans y0,(h.cell (p:=⟨w.heap.size,1,none⟩) d).trans X,(h.cell (p:=⟨w.heap.size,2,none⟩) d).trans Y,(h.cell (p:=⟨w.heap.size,3,none⟩) d).trans T,(h.cell (p:=⟨w.heap.size,4,none⟩) d).trans y4,(h.cell (p:=⟨w.heap.size,5,none⟩) d).trans N⟩
 clear j
 go_region_held3 (λf=>(f.cell? ⟨w.heap.size,0,none⟩=some (.int .i64 x.net.kind)/\f.cell? ⟨w.heap.size,1,none⟩=some (.int .i64 x.net.one.op)/\f.cell? ⟨w.heap.size,2,none⟩=some (.slice m x.net.one.args.length t)/\f.cell? ⟨w.heap.size,3,none⟩=some (.slice u x.net.kids.length A)/\f.cell? ⟨w.heap.size,4,none⟩=some (.slice r x.coils.length s)/\f.cell? ⟨w.heap.size,5,none⟩=some (.slice C x.kids.length z))) (first | with_reducible assumption | with_reducible exact⟨F8.trans y0,F8.trans X,F8.trans Y,F8.trans T,F8.trans y4,F8.trans N⟩ | skip) (first | (go_at_call 88;refine(U.out _ (by exact H.drew)).mono ?_;rintro e I ⟨a1,c1,rfl,ab,ah⟩;have E:=Du (Below.refl _ _).drew ah;have eX:Hid (∀V,Below I.heap.size I V->Nq V (.slice a1 B.length c1) B):=(λV h=>ab.below h);have ak:=K.out I E;clear ab) | (go_at_call 53;refine(HT.out _ (by exact Du H E)).mono ?_;rintro e w2 ⟨rfl,ac⟩;have ag:=Du E ac;have al:=K.out w2 ag) | (go_at_call 85;refine(q.out _ _ (eX.out _ (by first | exact ac | exact Below.refl _ _))).mono ?_;rintro e w3 ⟨rfl,ai⟩;have aa:=Du ag ai;have aj:=K.out w3 aa))
 all_goals
  go_wp2
  go_ret;exact⟨rfl,Du H aa⟩
theorem Arz (a:Stil.Arm):Aw a<=1000000->Cm a->Gm a->Agd 53 a (H8 a):=by
 induction a using Fz with
 | h n cs kids z=>
  intro u A t O J K s w j q f d;simp only at j q f d;rw[Dp] at u;obtain⟨_,_,_,_,m⟩:=(Gi _ _ _).1 A;obtain⟨_,g⟩:=(Gu _ _ _).1 t;have l:∀x∈kids,Aw x<=1000000:=λx c=>by have:Aw x<=Ig kids:=Ed Aw kids x c;omega
  have B:kids.length<=999999:=by have:=Rt kids;omega
  have C:∀args w,(callFunc 87 args).run prog w=.ok (.enter 87 args) w:=enters_of func87 krz rfl;have y:Hid (∀W,Below w.heap.size w W->Calls prog 30 #[s, .int .i64 1, .func (.func 87) #[] #[]] W λe w'=>e=.returned (.int .i64 (Ff 1 (kids.map (λk=>Xe k.net (H8 k)))))/\Below W.heap.size W w'):=λW h=>Aij kids (λk=>Xe k.net (H8 k)) 87 C (λx c=>A22 x (l x c) (m x c) (g x c) (z x c (l x c) (m x c) (g x c))) 1 s W (d.below h) B
  rw[Amv];obtain⟨R,r⟩:∃R,R=Ff 1 (kids.map (λk=>Xe k.net (H8 k))):=⟨_,rfl⟩
  rw[<-r] at y ⊢;obtain⟨D,Q,rfl,_⟩:=j.shape;obtain⟨S,G,rfl,_,_⟩:=q.shape;obtain⟨H,L,rfl,_⟩:=f.shape;obtain⟨I,E,rfl,_,_⟩:=d.shape;clear z r C u A t m g l B j q f d;go_enter func53,ntmps53
  go_wp2_with (go_at_call 30;refine(y _ blA).mono ?_;rintro e N ⟨rfl,M⟩)
  go_ret;exact⟨rfl,blA⟩
theorem Ar0 (x:Stil.Arm)(L:Aw x<=1000000)(T:Cm x)(s:Gm x)(t:Ar x.net=false):Agd 31 x (U7 x):=by
 intro q l U D w d m r y;have u:Jq x.net/\Am x.net<=1000000:=by
  obtain⟨n,c,k⟩:=x;rw[Dp] at L;have e:Stil.nsz n=Am n:=if_neg (by rw[show Ar n=false from t];exact A7h);exact⟨((Gu _ _ _).1 s).1,by simp only;omega⟩
 have C:=Stil.full_of _ (u.1.resolve_left (by rw[t];exact A7h)).2.2;have N:Hid (∀W,Below w.heap.size w W->Calls prog 53 #[.agg #[.int .i64 x.net.kind, .int .i64 x.net.one.op,q,l,U,D]] W λe w'=>e=.returned (.int .i64 (H8 x))/\Below W.heap.size W w'):=λW h=>Arz x L T s q l U D W (d.below h) (m.below h) (r.below h) (y.below h)
 have J:Hid (∀W,Below w.heap.size w W->Calls prog 52 #[.agg #[.int .i64 x.net.kind, .int .i64 x.net.one.op,q,l]] W λe w'=>e=.returned (.int .i64 (Eu x.net))/\Below W.heap.size W w'):=λW h=>Aeo x.net C u.2 q l W (d.below h) (m.below h)
 have G:Hid (U7 x=max (Eu x.net) (H8 x)):=rfl;rw[G.out];obtain⟨f,Z⟩:∃f,f=H8 x:=⟨_,rfl⟩
 obtain⟨g,R⟩:∃g,g=Eu x.net:=⟨_,rfl⟩
 rw[<-Z] at N ⊢;rw[<-R] at J ⊢;obtain⟨E,Y,rfl,_⟩:=d.shape;obtain⟨p1,K,rfl,_,_⟩:=m.shape;obtain⟨O,V,rfl,_⟩:=r.shape;obtain⟨Q,H,rfl,_,_⟩:=y.shape;clear Z R u C t d m r y T s G;have ac:g<f\/¬g<f:=omz
 rcases ac with ab | ab
 all_goals
  go_enter func31,ntmps31
  go_wp2_with fail
  obtain⟨W,j⟩:∃W,W=w.alloc (.cells #[.int .i64 x.net.kind, .int .i64 x.net.one.op, .slice E x.net.one.args.length Y, .slice p1 x.net.kids.length K, .slice O x.coils.length V, .slice Q x.kids.length H] 46):=⟨_,rfl⟩
  rw[<-j];have z:Below w.heap.size w W:=by rw[j];exact Aa _ _
  obtain⟨_,⟨A,M,S,I,X,B⟩,_⟩:B6 W w.heap.size (.int .i64 x.net.kind) (.int .i64 x.net.one.op) (.slice E x.net.one.args.length Y) (.slice p1 x.net.kids.length K) (.slice O x.coils.length V) (.slice Q x.kids.length H):=by rw[j];exact B6.new _ _ _ _ _ _ _ _
  have k0:=cell_regrown A;have k1:=cell_regrown M;have k2:=cell_regrown S;have k3:=cell_regrown I;have k4:=cell_regrown X;have k5:=cell_regrown B;clear j A M S I X B;refine wp_region_quiet_below krz krz ?_;repeat (go_big_quiet_step ((first | exact Calls.regrown_of (J _ (Hw z _ _)) | exact Calls.regrown_of (N _ (Hw z _ _)))))
  refine wpQuiet_nil ?_;intro _ ae;obtain⟨⟨dq,osq⟩,aa⟩:=ae;subst aa
  go_wp2
  go_ret;exact⟨Gz (by congr 1;omega),Hw z _ _⟩
theorem Ak8 (l:List Stil.Arm)(j:Value)(w:World)(hr:Em w)(hg:En w)(B:Ea w j l)(hl:l.length<=1048576)(E:Bv l<=1000000000)(q:∀x∈l,Cm x):
  Calls prog 14 #[j] w λe w'=>e=.returned (.int .i64 (Nj l))/\Below w.heap.size w w':=by
 have u:=hid (λW h=>Abv l j W (hr.below h) (hg.below h) (B.below h) hl E q);obtain⟨m,z,A⟩:=Oe q;have f:=Yu l;have g:Hid (Nj l=Ff 0 ((A7 l).map U7)):=rfl;obtain⟨L,r⟩:∃L,L=A7 l:=⟨_,rfl⟩
 rw[<-r] at u m z A g f;have C:∀args w,(callFunc 31 args).run prog w=.ok (.enter 31 args) w:=enters_of func31 krz rfl;have t:Hid (∀W v,Vs W v L->Calls prog 30 #[v, .int .i64 0, .func (.func 31) #[] #[]] W λe w'=>e=.returned (.int .i64 (Ff 0 (L.map U7)))/\Below W.heap.size W w'):=λW v h=>Aij L U7 31 C (λx d=>Ar0 x (by have:=Zp d;omega) (m x d) (f x d).1 (f x d).2) 0 v W h omz
 rw[g.out];obtain⟨R,y⟩:∃R,R=Ff 0 (L.map U7):=⟨_,rfl⟩
 rw[<-y] at t ⊢;obtain⟨K,O,rfl,H⟩:=B;clear H hr hg q m z A g r C y f;go_enter func14,ntmps14
 go_wp2_with (first | (go_at_call 21;refine(u _ blA).mono ?_;rintro e I ⟨⟨a,c,D,rfl,hm,hrw⟩,M⟩;have s:Vs I (.slice a D.length c) L:=yEb;have G:=hid s;clear s hrw hm) | (go_at_call 30;refine(t _ _ G.out).mono ?_;rintro e J ⟨rfl,N⟩))
 go_ret;exact⟨rfl,blA⟩
end Go.Proofs.YtnpfcnolmkanfaaGreatDoor
namespace Go.Co
open Go.Conc
variable {P:Program}{a:Act}
theorem U1 {R:Act->World->Prop}{c:Code}{l:List Code}{w:World}(h:c.wp P (Exit.then (WpL P R l) λ_ _ _=>False) a w):WpL P R (c::l) a w:=h
theorem Ams {R:Act->World->Prop}{w:World}(h:R a w):WpL P R [] a w:=h
theorem Ax6 {Stop:Goroutine->World->Prop}{w:World}(s:OkP P){f:FuncId}{args:Array Value}{v:Value}{Post:World->Prop}(h:∀j d,Calls P f args {w with tape:=j,drawn:=d} λe w'=>e=.returned v/\Post w')
  (u:∀(c:Frame) (w' W:World),c.leaving P W (.returned v)->c.fn=f->Al Post w'->Comes P (G c []) w' Stop):Comes P (G (Frame.enter P f args .normal) []) w Stop:=by
 refine Ut s (λq w'=>∃c,q=G c []/\c.leaving P w' (.returned v)/\c.fn=f/\Post w') rfl (λg w ⟨c,h,_⟩=>by rw[h];rfl) (fun j d=>?_) ?_
 ·obtain⟨e,w',r,⟨rfl,l⟩,⟨n,t⟩,p,m⟩:=h j d []
  exact⟨n,G r [],w',t,r,rfl,m,p,l⟩
 ·rintro q w' ⟨j,d,c,rfl,m,p,l⟩
  exact u c w' _ m p ⟨j,d,l⟩
end Go.Co
namespace Go.Proofs.YtnpfcnolmkanfaaGreatDoor
open Tryz
open Go.RowKit Go.Sort Go.BigFrame Go.Co
def A5v (F:FuncId)(w:World)(g':Goroutine)(w':World):Prop:=∃c:Frame,g'=Go.Conc.G c []/\c.mode=.returning/\c.defers=[]/\c.kind=.normal/\c.fn=F/\c.tmps.getD 2 undef=.bool true/\Blw w.heap.size w w'
section
variable {w w' : World}{v : Value}
theorem Ea.blw {l:List Stil.Arm}(h:Ea w v l)(c:Blw w.heap.size w w'):Ea w' v l:=by
 have e:Ea {w' with tape:=w.tape,drawn:=0} v l=Ea w' v l:=krz
 exact e ▸ h.below (c.tape 0)
theorem Hf.blw {l:List Stil.Tq}(h:Hf w v l)(c:Blw w.heap.size w w'):Hf w' v l:=by
 have e:Hf {w' with tape:=w.tape,drawn:=0} v l=Hf w' v l:=krz
 exact e ▸ h.below (c.tape 0)
theorem Em.blw (h:Em w)(c:Blw w.heap.size w w'):Em w':=by
 have e:Em {w' with tape:=w.tape,drawn:=0}=Em w':=krz
 exact e ▸ h.below (c.tape 0)
theorem En.blw (h:En w)(c:Blw w.heap.size w w'):En w':=by
 have e:En {w' with tape:=w.tape,drawn:=0}=En w':=krz
 exact e ▸ h.below (c.tape 0)
theorem Tp.blw {B:Nat}(h:Tp w w'):Blw B w w':=by obtain⟨c,d,rfl⟩:=h;exact⟨rfl,rfl,A57 _,λ_ _=>rfl⟩
end
section
open Go.Conc
variable {Stop : Goroutine -> World -> Prop}{a : Act}{w W0 : World}{b : Frame}{k : List Item}{cs : List Frame}{ops : Array Oper}{i : Nat}{rest : List Nat}{o : Oper}
theorem cP (t:Tp W0 w)(v:Value)(h:∀w',Tp W0 w'->Go.Co.Comes prog (G (b.at (a.put o.dst v) (.inRegion ops rest::k)) cs) w' Stop)(ho:ops[i]?=some o:=by rfl)(hw:Region.wanted o (yielded ops a.tmps)=true:=by rfl)(hk:b.kind≠.early:=by simp[Go.Conc.base])
  (hr:∀w₁:World,(execOp a.eval o).run prog w₁=.ok (.value v) w₁:=by(intro _;first | (simp[Act.put];go_simp;done) | (simp[Act.put];go_simp;simp[*];done) | (simp[Act.put, *];go_simp;done)))
  (he:∀w₁:World,(execOp a.eval o).events prog w₁ #[]=#[]:=by(intro _;first | (simp[go_sem];done) | rfl)):Go.Co.Comes prog (G (b.at a (.inRegion ops (i::rest)::k)) cs) w Stop:=O7 okP ho hw hk hr he λw' q=>h w' (t.al q)
theorem cU (t:Tp W0 w)(h:∀w',Tp W0 w'->Go.Co.Comes prog (G (b.at (a.put o.dst undef) (.inRegion ops rest::k)) cs) w' Stop)(ho:ops[i]?=some o:=by rfl)(hw:Region.wanted o (yielded ops a.tmps)=false:=by rfl):Go.Co.Comes prog (G (b.at a (.inRegion ops (i::rest)::k)) cs) w Stop:=Qc okP (λ_=>stepG_unwanted ho hw) λw' q=>h w' (t.al q)
theorem cN (t:Tp W0 w)(h:∀w',Tp W0 w'->Go.Co.Comes prog (G (b.at a k) cs) w' Stop):Go.Co.Comes prog (G (b.at a (.inRegion ops []::k)) cs) w Stop:=Aa0 okP λw' q=>h w' (t.al q)
theorem cR {c:Nat}{d:Code}(h:∀w',Tp w w'->Go.Co.Comes prog (G (b.at a (.inRegion ops (List.range ops.size)::.code d::k)) cs) w' Stop):Go.Co.Comes prog (G (b.at a (.code (.seq (.region c ops false) d)::k)) cs) w Stop:=Us okP λ_ q=>Qb okP λw' e=>h w' (((Tp.refl w).al q).al e)
theorem cC (t:Tp W0 w){f:FuncId}{F:Func}{c:Code}{args:Array Operand}{ats:Array TypeId}(vals:Array Value){Post:Value->World->Prop}(hf:prog.funcs[f]?=some F)(hcall:∀w',Tp W0 w'->Uy prog f vals w' Post)
  (h:∀v w',Post v w'->Go.Co.Comes prog (G (b.at (a.put o.dst v) (.inRegion ops rest::k)) cs) w' Stop) (ho:ops[i]?=some o:=by rfl) (hw:Region.wanted o (yielded ops a.tmps)=true:=by rfl) (hk:b.kind≠.early:=by simp[Go.Conc.base])
  (hop:o.op=.call {callee:=.value (.func f),args,argTypes:=ats}:=by rfl) (hb:F.body=some c:=by rfl) (hargs:args.map a.eval=vals:=by simp[Act.eval,Act.put]):Go.Co.Comes prog (G (b.at a (.inRegion ops (i::rest)::k)) cs) w Stop:=Ab1 okP ho hw hk hop hf hb hargs (λw' q=>hcall w' (t.al q)) h
theorem Tp.lw {W w':World}(t:Tp W0 W)(c:Blw W.heap.size W w'):Blw W0.heap.size W0 w':=by obtain⟨e,d,rfl⟩:=t;exact⟨c.os,c.out,c.size,c.block⟩
end
open Go.Conc
variable {F:FuncId}{fn:Func}
theorem A0r (m:prog.funcs[F]?=some fn)(e:fn.results=#[.tmp 2])(j:prog.inits.idxOf? F=none){fr:Frame}(n:fr.mode=.returning)(hd:fr.defers=[])(h:fr.kind=.normal)(f:fr.fn=F)(c:fr.tmps.getD 2 undef=.bool true)(W:World):
  stepG prog true (G fr []) W=.ended (.done (.bool true)) W #[]:=by
 have d:=resultsC_tmp (P:=prog) e fr.tmps W;rw[c] at d;obtain⟨g,defers,kind,l⟩:=fr;simp_all[G,stepG,unwind,doReturn,seen,GStep.after]
theorem A0t {c:Code}(f:prog.funcs[F]?=some fn)(m:fn.body=some c)(t:fn.results=#[.tmp 2])(j:prog.inits.idxOf? F=none){args:Array Value}{W:World}{Post:Value->World->Prop}
  (h:Go.Co.Comes prog (G (Frame.enter prog F args .normal) []) W (A5v F W)) (q:∀w',Blw W.heap.size W w'->Post (.bool true) w'):
  ∃N last o w' g,runNT prog (N+1) (solo (G (Frame.enter prog F args .normal) []) W) #[]=(.ended o w',g)/\runN prog N (solo (G (Frame.enter prog F args .normal) []) W)=.next last/\step prog last=.ended o w'/\Conc.Good prog Post last o w' g:=by
 rw[Go.Co.enter_at args f m] at h ⊢;refine Air ⟨λi hi=>?_,λc r=>by cases r⟩ (h.mono λx w' _ hF d=>?_)
 ·obtain rfl:i=.code c:=by simpa[G,Frame.at,Go.Conc.base] using hi
  trivial
 ·obtain⟨y,rfl,u,hd,l,s,n,e⟩:=hF
  exact⟨rfl, .bool true,#[],A0r f t j u hd l s n _,spz,q _ ⟨e.os,e.out,e.size,e.block⟩⟩
end Go.Proofs.YtnpfcnolmkanfaaGreatDoor
set_option maxHeartbeats 4000000
set_option maxRecDepth 100000
namespace Go.Proofs.YtnpfcnolmkanfaaGreatDoor
open Tryz
open Stil
open Go.RowKit Go.Sort Go.BigFrame Go.Co
theorem A1q {l:List Stil.Arm}(h:(Gl l).2≠0):(Gl l).1=[]:=by
 unfold Gl at h ⊢;split
 ·rfl
 ·split
  ·rfl
  ·rename_i c d
   rw[if_neg c,if_neg d] at h;exact absurd rfl h
theorem Amr.nil (w:World)(base:Nat):Amr w base (.slice none 0 0) []:=⟨base,A57 _,World.ownsRow_nil _ _ _ _,(λx c=>by cases c),A9a,(λk d=>by cases d)⟩
theorem Axg (l:List Stil.Arm)(f:Value)(w:World)(hr:Em w)(hg:En w)(q:Ea w f l)(hl:l.length<=1048576)(m:Bv l<=1000000000)(r:∀x∈l,Cm x)(d:(Gl l).2≠0):
  Calls prog 6 #[f] w λe w'=>e=.returned (.tuple #[.slice none 0 0, .int .i64 (Gl l).2])/\Below w.heap.size w w':=by
 have j:=hid (λW h=>Abu l f W (hr.below h) (hg.below h) (q.below h) hl m r);have t:=hid (λW h=>Ak8 l f W (hr.below h) (hg.below h) (q.below h) hl m r);have s:=hid (λW h=>Ahb l f W (hr.below h) (hg.below h) (q.below h) hl m r);have u:=(Vk l).1;have z:Gl l=if 0<(Bf l).1 then([],1) else if 16<Nj l\/8<Jl l then([],2) else(F6 l,0):=rfl
 obtain⟨E,H,rfl,_⟩:=q;rw[z] at d ⊢;clear z r m hr hg;generalize (Bf l).1=c at*;generalize Nj l=x at*;generalize Jl l=y at*;by_cases g:0<c
 ·rw[if_pos g]
  rw[A7y omz] at j;clear t s d g u;go_enter func6,ntmps6
  go_wp2_with (go_at_call 13;refine(j _ blA).mono ?_;rintro e B ⟨rfl,A⟩)
  refine bodyPost_ret (v:=.tuple #[.slice none 0 0, .int .i64 1]) (by simp[results,results6,go_sem]) rfl ⟨rfl,blA⟩
 rw[if_neg g] at d ⊢;rw[A77 omz] at j;by_cases G:(16:Int)<x
 ·rw[if_pos (.inl omz)]
  clear s d g u;go_enter func6,ntmps6
  go_wp2_with (first | (go_at_call 13;refine(j _ blA).mono ?_;rintro e B ⟨rfl,A⟩) | (go_at_call 14;refine(t _ blA).mono ?_;rintro e C ⟨rfl,D⟩))
  refine bodyPost_ret (v:=.tuple #[.slice none 0 0, .int .i64 2]) (by simp[results,results6,go_sem]) rfl ⟨rfl,blA⟩
 by_cases J:(8:Int)<y
 ·rw[if_pos (.inr omz)]
  clear d g u;go_enter func6,ntmps6
  go_wp2_with (first | (go_at_call 13;refine(j _ blA).mono ?_;rintro e B ⟨rfl,A⟩) | (go_at_call 14;refine(t _ blA).mono ?_;rintro e C ⟨rfl,D⟩) | (go_at_call 15;refine(s _ blA).mono ?_;rintro e w3 ⟨rfl,I⟩))
  refine bodyPost_ret (v:=.tuple #[.slice none 0 0, .int .i64 2]) (by simp[results,results6,go_sem]) rfl ⟨rfl,blA⟩
 rw[if_neg omz] at d;exact absurd rfl d
theorem Axh (l:List Stil.Arm)(g:Value)(w:World)(hr:Em w)(hg:En w)(G:Ea w g l)(hl:l.length<=1048576)(t:Bv l<=1000000000)(u:∀x∈l,Cm x):
  Uy prog 6 #[g] w λv w'=>∃(ae:Value) (j:List MI),v=.tuple #[ae, .int .i64 (Gl l).2]/\j.map MI.inst=(Gl l).1/\Amr w' w.heap.size ae j/\Blw w.heap.size w w':=by
 by_cases S:¬(Gl l).2=0
 ·refine(Zm okP (Post:=λr w'=>r=.tuple #[.slice none 0 0, .int .i64 (Gl l).2]/\Blw w.heap.size w w') fun f d=>?_).mono λr w' ⟨f,d,O,z⟩=>⟨.slice none 0 0,[],O,(A1q S).symm,Amr.nil _ _,z.os,z.out,z.size,z.block⟩
  have e1:Em {w with tape:=f,drawn:=d}=Em w:=krz
  have e2:En {w with tape:=f,drawn:=d}=En w:=krz
  have e3:Ea {w with tape:=f,drawn:=d} g l=Ea w g l:=krz
  exact(Axg l g {w with tape:=f,drawn:=d} (e1 ▸ hr) (e2 ▸ hg) (e3 ▸ G) hl t u S).mono λe w' h=>⟨_,h.1,rfl,h.2.os,h.2.output,h.2.size,h.2.block⟩
 obtain⟨M,V,E⟩:=A1p (Decidable.not_not.1 S);rw[Au6 M V E];clear S;intro fr cs Stop hn;have A:∃c0 c1 d,Tryz.f6.body=some (A1t [c0,c1] d):=⟨_,_,_,rfl⟩
 obtain⟨c0,c1,d,A⟩:=A;have iC:=Go.Conc.resultsC_tmp2 (P:=prog) (fn:=Tryz.f6) rfl;rw[Go.Co.enter_at #[g] func6 A];simp only[ntmps6,A55,A53,A54,Nat.reduceAdd,Nat.reduceSub,A6v,A6w,A61,A6y,A6t,A6s];unfold Tryz.f6 at A;simp only[A1t] at A;cases A;obtain⟨N,zG⟩:∃N:Act->World->Prop,N=(λI W=>(∃(u2 u3 u4 u5 u6 u7 u8 u9 ai ah ac aa ag ak af:Value),I=⟨#[g,undef,u2,u3,u4,u5,u6,u7,u8,u9,ai,ah,ac,aa,ag,ak,af,undef,undef],[]⟩)/\Blw w.heap.size w W):=⟨_,rfl⟩
 have U:=hid zG;clear zG;refine Ab0 okP [_,_] (R:=N) ?_ ?_
 ·intro f s
  obtain⟨W,L⟩:∃W:World,W={w with tape:=f,drawn:=s}:=⟨_,rfl⟩
  rw[<-L];have m:Tp w W:=⟨f,s,L⟩
  have iH:Hid (∀c,Below W.heap.size W c->Blw w.heap.size w c):=by
   intro c h;subst L;exact⟨h.os,h.output,h.size,h.block⟩
  have HT:Hid (∀c,Below W.heap.size W c->Calls prog 13 #[g] c λe w'=>e=.returned (.bool true)/\Below c.heap.size c w'):=by
   intro c h;have H:=Abu l g c ((hr.blw m.blw).below h) ((hg.blw m.blw).below h) ((G.blw m.blw).below h) hl t u;rw[A77 M] at H;exact H
  have HB:=hid (λc h=>Ak8 l g c ((hr.blw m.blw).below h) ((hg.blw m.blw).below h) ((G.blw m.blw).below h) hl t u);have HK:=hid (λc h=>Ahb l g c ((hr.blw m.blw).below h) ((hg.blw m.blw).below h) ((G.blw m.blw).below h) hl t u);have O:¬(16:Int)<(Nj l:Int):=omz
  have H:¬(8:Int)<(Jl l:Int):=omz
  clear V E M;generalize Nj l=x at*;generalize Jl l=y at*;clear L m hr hg G hl t u hn;refine U1 ?_
  go_wp2
  refine U1 ?_
  go_wp2_with (first | (go_at_call 13;refine(HT _ blA).mono ?_;rintro e w1 ⟨rfl,aA⟩) | (go_at_call 14;refine(HB _ blA).mono ?_;rintro e w2 ⟨rfl,ay⟩) | (go_at_call 15;refine(HK _ blA).mono ?_;rintro e w3 ⟨rfl,aB⟩))
  refine Ams ?_;rw[U.out];exact⟨⟨_,_,_,_,_,_,_,_,_,_,_,_,_,_,_,rfl⟩,iH _ blA⟩
 intro I Z an;rw[U.out] at an;clear U N M V E;obtain⟨f,s,⟨u2,u3,u4,u5,u6,u7,u8,u9,ai,ah,ac,aa,ag,ak,af,rfl⟩,B⟩:=an;replace B:Blw w.heap.size w Z:=⟨B.os,B.out,B.size,B.block⟩
 refine Us okP λx1 h=>?_
 have t1:=(Tp.refl Z).al h;refine Qb okP λx2 h=>?_
 have t2:=t1.al h;simp only[A55,A53,A54,Nat.reduceAdd,A6b,List.range,List.range.loop];refine O7 okP rfl rrz yFa (v:=g) (λ_=>by go_simp) (λ_=>by simp[go_sem]) λx3 h=>?_
 have t3:=t2.al h;have uZ:∀c,Tp Z c->Uy prog 9 #[g] c λv w'=>∃j:List MI,j.map MI.inst=F6 l/\Amr w' w.heap.size v j/\Blw w.heap.size w w':=by
  intro c D;have q:=B.trans D.blw;refine(Aha l g c (hr.blw q) (hg.blw q) (G.blw q) hl t u).mono λr w' ⟨j,O,⟨ax,H,z,h4,h5,h6⟩,h7⟩=>⟨j,O,⟨ax,A6e q.size H,z,λx hx=>Joins.ownsRow_le (h4 x hx) q.size,h5,λk E=>⟨A6e q.size (h6 k E).1,(h6 k E).2⟩⟩,q.trans (h7.le q.size)⟩
 refine Ab1 okP rfl rrz yFa rfl func9 rfl (vals:=#[g]) (by simp[Act.eval,Act.put]) (λc h=>uZ c (t3.al h)) λC J hp=>?_
 obtain⟨j,au,hO,K⟩:=hp;clear uZ t1 t2 t3 h;refine O7 okP rfl rrz yFa (v:=C) (λ_=>by simp[Act.put];go_simp) (λ_=>by simp[go_sem]) λx4 h=>?_
 have t4:=(Tp.refl J).al h;refine O7 okP rfl rrz yFa (v:=.int .i64 0) (λ_=>by simp[Act.put];go_simp) (λ_=>by simp[go_sem]) λx5 h=>?_
 have t5:=t4.al h;refine Aa0 okP λX h=>?_
 have t6:=t5.al h;clear t4 t5 h;simp only[Act.put];refine Ac4 okP (Q:=λe a w'=>e=.ret/\a.defers=[]/\a.tmps.getD 2 undef=C/\a.tmps.getD 3 undef=.int .i64 0/\Tp X w') (λe a w h=>.inr h.1) (fun f s=>?_) ?_ ?_
 ·have D:Tp X {X with tape:=f,drawn:=s}:=⟨f,s,rfl⟩
  revert D
  generalize {X with tape:=f,drawn:=s}=Y;intro D
  go_wp2
 ·rintro I w' ⟨f,d,h,_⟩
  cases h
 ·rintro I w' az ⟨f,d,_,hd,aw,ap,D⟩
  refine Qc okP (fr':=fr.finish (.tuple #[C, .int .i64 0])) (cs':=cs) (λab=>?_) λar h=>?_
  ·have T:=iC I.tmps
   rw[aw,ap] at T;exact Go.Conc.stepG_leave (b:=Go.Conc.base 6) rfl hd func6 (T ab).1 (T ab).2
  ·have av:Tp J ar:=by
    obtain⟨aj,d1,rfl⟩:=t6;obtain⟨ao,d2,rfl⟩:=D.al ⟨f,d,rfl⟩;exact(show Tp J _ from⟨ao,d2,rfl⟩).al h
   obtain⟨aj,d1,rfl⟩:=av;have e:Amr {J with tape:=aj,drawn:=d1} w.heap.size C j=Amr J w.heap.size C j:=krz
   exact hn _ _ ⟨C,j,rfl,au,e ▸ hO,K.os,K.out,K.size,K.block⟩
end Go.Proofs.YtnpfcnolmkanfaaGreatDoor
