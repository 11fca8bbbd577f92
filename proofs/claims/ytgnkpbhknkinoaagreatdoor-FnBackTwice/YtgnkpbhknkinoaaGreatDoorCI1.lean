import Derived.Test.YtgnkpbhknkinoaaGreatDoorBT10
import Derived.Test.YtgnkpbhknkinoaaGreatDoorTS3
import Derived.Test.YtgnkpbhknkinoaaGreatDoorCE7
set_option linter.defProp false
set_option maxHeartbeats 2000000
set_option maxRecDepth 100000
namespace Go.Proofs.YtgnkpbhknkinoaaGreatDoor
open Tryz Go.RowKit Go.Sort Go.BigFrame
variable {J n:Nat}{W w0:AU}{a:Option Ab}
structure EJ(w0 w:AU)(a:Option Ab)(cap:Nat)(L l:List Stil.Aw):Prop where
 bel:AO w0 w
 lt:w0.heap.size<w.heap.size
 c0:w.cell? (AL w0 0)=some (AE a L.length cap)
 c1:w.cell? (AL w0 1)=some (AB ((L.length - l.length:Nat):Int))
 f1:w.frozen? (AL w0 1)=false
 suf:l<:+L
def EJ.below{w w':AU}{cap:Nat}{L l:List Stil.Aw}(h:EJ w0 w a cap L l)(e:Below n w w')(f:w0.heap.size<n):EJ w0 w' a cap L l:=
 ⟨h.bel.tr (e.mo (EL f)),DL h.lt e.size,(e.cell (p:=(AL w0 0)) f).tr h.c0,(e.cell (p:=(AL w0 1)) f).tr h.c1,(e.frozen (p:=(AL w0 1)) f).tr h.f1,h.suf⟩
def EJ.next{w:AU}{cap:Nat}{L r:List Stil.Aw}{i:Stil.Aw}(h:EJ w0 w a cap L (i::r))(e:J+1=L.length - r.length):EJ w0 (w.setCell (AL w0 1) (AB ((J:Int)+1))) a cap L r:=by refine⟨h.bel.s (p:=(AL w0 1)) (DK _) _,by simpa using h.lt,(Ci BS).trans h.c0,?_,Mc.trans h.f1,(List.suffix_cons i r).trans h.suf⟩;rw[E8 h.c1,<-e];rfl
theorem EJ.inst{w:AU}{cap:Nat}{L r:List Stil.Aw}{i:Stil.Aw}(h:EJ w0 w a cap L (i::r))(y:Gn w0 (AE a L.length cap) L):∃(b o J:Nat)(f:AW),a=some (AK b o)/\b<w0.heap.size/\J<L.length/\J=L.length - (i::r).length/\J+1=L.length - r.length/\w.cell? (AK b (o+J*3))=some (AB i.code)/\w.cell? (AK b (o+J*3+1))=some (AB i.O.op)/\w.cell? (AK b (o+J*3+2))=some f/\Ar w f i.O.args:=by obtain⟨J,s,p,j,rfl⟩:=NM h.suf;obtain⟨A,B,e,u⟩:=y;cases e;have⟨b,o,m,l,v⟩:=u J j;have⟨z,q,f,x,t⟩:=v.below h.bel l;exact⟨b,o,J,f,m,l,j,s,p,z,q,x,t⟩
theorem S3(L r:List Stil.Aw)(i:Stil.Aw)(a:Option Ab)(cap:Nat)(w0 w:AU)(hr:EJ w0 w a cap L (i::r))(l:Gn w0 (AE a L.length cap) L)(_hl:L.length<=1000):
  Calls prog 53 #[AH w0.heap.size] w (AN w (AB i.code)):=by
 obtain⟨b,o,J,s,rfl,t,u,j,-,q,-⟩:=hr.inst l;have m:=hr.c0;have h:=hr.c1;rw[<-j]at h;clear hr l j;go_enter func53,ntmps53;go_upto_region 1 with fail;go_region_held3 (λf=>(f.c (AL w0 0)=some (AE (some (AK b o)) L.l cap)/\f.c (AL w0 1)=some (AB (J:Int))/\f.c (AK b (o+J*3))=some (AB i.code))) (first|with_reducible assumption|with_reducible exact⟨JO.tr m,JO.tr h,JO.tr q⟩|skip) (fail);all_goals try go_wp2
 all_goals go_ret;exact⟨rfl,(BP _ _).drew⟩
def LC(w:AU)(P:Nat):Nat:=match w.cell? (AK P 1) with
 |some (.int _ k)=>k.toNat
 |_=>0
def EJ.pos{w:AU}{cap:Nat}{L l:List Stil.Aw}(h:EJ w0 w a cap L l):L.length - LC w w0.heap.size=l.length:=by have:=h.suf.length_le;unfold LC;rw[h.c1];show L.length - ((L.length - l.length:Nat):Int).toNat=_;omega
open Stil
theorem pC(i:Stil.Aw)(l:AW)(st:List Stil.DI)(f:Option Ab)(j B:Nat)(xs:List AW)(w:AU)(bs:List Nat)(ts:Ao)(q:w.ownsRow B 56 4 (AE f st.length j) st.length xs)(h:Sv w (ob (AE f st.length j)++bs) ((Fb st.reverse,xs)::ts))(t:Ar w l i.O.args)(u:i.fits)(h1:1<=i.code/\i.code<7)(hn:Stil.needs i.code<=(st.length:Int))(s:Stil.sizes st<=800000)(v:B<=w.heap.size):
  Calls prog 90 #[AE f st.length j,.agg #[AB i.code,AB i.O.op,l]] w (LX (Lr i.code i.O st) w B bs ts):=by
 by_cases x:i.code=1
 .exact oj i l st f j B xs w bs ts q h t u x s v
 cases st with|nil=>exact zm0|cons m r=>by_cases z:i.code=2\/i.code=3;{exact lR i l m r f j B xs w bs ts q h t u z s v};by_cases y:i.code=6;{exact oe i l m r f j B xs w bs ts q h t u y s v};cases r with|nil=>exact zq0|cons A r=>exact lQ i l m A r f j B xs w bs ts q h t u BS s v
def Bak(n:Stil.DI)(bs:List Nat)(ts:Ao)(e:Ending)(w':AU):Prop:=∃a p b q,e=.returned (A0 n a p b q)/\Sv w' bs (([Gy n],A3 n a p b q)::ts)
def Da.low{w:AU}{b:Nat}{v0 m l j:AW}(h:Da w b v0 m l j)(e:Below n w W)(f:b<n):Da W b v0 m l j:=by obtain⟨r,u,v,q,z,t,s,x,y⟩:=h;exact⟨DL r e.size,(e.cell (p:=(AK _ _)) f).tr u,(e.frozen (p:=(AK _ _)) f).tr v,(e.cell (p:=(AK _ _)) f).tr q,(e.frozen (p:=(AK _ _)) f).tr z,(e.cell (p:=(AK _ _)) f).tr t,(e.frozen (p:=(AK _ _)) f).tr s,(e.cell (p:=(AK _ _)) f).tr x,(e.frozen (p:=(AK _ _)) f).tr y⟩
def I3(root:Bool):List Stil.DI:=if root then [] else [G5]
theorem EJ.cells{w:AU}{b o cap:Nat}{l:AW}{L r:List Stil.Aw}{i:Stil.Aw}(h:EJ w0 w (some (AK b o)) cap L (i::r))(m:J=L.length - (i::r).length)(j:b<w0.heap.size)(e:w0.heap.size<n)(f:Below n w W)(x:w.cell? (AK b (o+J*3))=some (AB i.code)/\w.cell? (AK b (o+J*3+1))=some (AB i.O.op)/\w.cell? (AK b (o+J*3+2))=some l):(W.cell? (AL w0 0)=some (AE (some (AK b o)) L.length cap)/\W.cell? (AL w0 1)=some (AB (J:Int))/\W.cell? (AK b (o+J*3))=some (AB i.code)/\W.cell? (AK b (o+J*3+1))=some (AB i.O.op)/\W.cell? (AK b (o+J*3+2))=some (l))/\W.frozen? (AL w0 1)=false:=by have c1:=h.c1;rw[<-m]at c1;exact⟨⟨(f.cell (p:=(AK _ _)) e).tr h.c0,(f.cell (p:=(AK _ _)) e).tr c1,(f.cell (p:=(AK _ _)) (Nat.lt_trans j e)).tr x.1,(f.cell (p:=(AK _ _)) (Nat.lt_trans j e)).tr x.2.1,(f.cell (p:=(AK _ _)) (Nat.lt_trans j e)).tr x.2.2⟩,(f.frozen (p:=(AK _ _)) e).tr h.f1⟩
theorem lE(root:Bool)(L l S:List Stil.Aw)(n:Stil.DI)(a:Option Ab)(cap:Nat)(w0 w:AU)(bs:List Nat)(ts:Ao)(h:Sv w bs ts)(hP:w0.heap.size∈bs)(hr:EJ w0 w a cap L l)(ah:Gn w0 (AE a L.length cap) L)(hl:L.length<=1000)(ak:∀x∈L,x.fits)(Y:Stil.Xx (I3 root) l n S):
  Calls prog 52 #[AH w0.heap.size,.bool root] w λe w'=>Bak n bs ts e w'/\EJ w0 w' a cap L S/\w.grownBy w' (some w0.heap.size):=by
 have aj:=Af ah;have HF:=Af ak;have dW:=Af hr;have ap:=Af Y;have HS:=Af h;have dX:=Af (λb hb=>Nat.lt_succ_of_lt (h.1 b hb));have H:=hr.lt;have aE:=hr.suf.length_le;have dV:=hP;clear ah ak hr Y h hP;go_enter func52,ntmps52;go_upto_if 8 with fail;go_cut [5] (λI wc=>∃(q:Option Ab)(m:Nat)(t:List AW),I=.slice q (I3 root).length m/\wc.ownsRow (w.heap.size+1) 56 4 (.slice q (I3 root).length m) (I3 root).length t/\Sv wc (ob (.slice q (I3 root).length m)++w.heap.size::bs) ((Fb (I3 root).reverse,t)::ts)/\EJ w0 wc a cap L l/\Da wc w.heap.size (AB 0) (AB 0) AG AG/\w.grownBy wc (some w0.heap.size));case first=>have ab:=((HS.box (.cells #[AB 0,AB 0,AG,AG] 56)).snil.mkN (i:=0) (op:=0) (ds:=[]) (ns:=[]) Av Av).box (.cells #[AB 0,AB 0,AG,AG] 56);have j:=World.ownsRow_lit (w.alloc (.cells #[AB 0,AB 0,AG,AG] 56)) (base:=w.heap.size+1) (e:=56) (size:=4) #[AB 0,AB 0,AG,AG] 1 BU CH rfl;rw[BG]at ab j;have iT:=Af (And.intro ab j);clear ab j;cases root;{go_wp2;go_meet;exact⟨_,1,_,rfl,iT.2,iT.1.sub (λ_ h=>h) (by intro x N;rcases BD.1 N with rfl|N;exact .head _;simp[N]),dW.below (n:=w.heap.size) BV H,qN4,Sr (World.grownBy.refl w _) (n:=w.heap.size) BV (DK _)⟩};have hw:=World.ownsRow_lit ((w.alloc (.cells #[AB 0,AB 0,AG,AG] 56)).alloc (.cells #[AB 0,AB 0,AG,AG] 56)) (base:=w.heap.size+1) (e:=56) (size:=4) #[] 0 BU CH rfl;have ad:=((iT.1.sub (cs:=w.heap.size::bs) (us:=ts) (λ_ h=>.tail _ h) (by intro x N;simp[N])).box (.cells #[] 56)).nil;simp only[BG]at hw ad;have ai:=Af (And.intro ad hw);clear ad hw;go_wp2;go_meet;exact⟨_,0,_,rfl,ai.2,ai.1,dW.below (n:=w.heap.size) BV H,qN4,Sr (World.grownBy.refl w _) (n:=w.heap.size) BV (DK _)⟩
 case rest=>
  obtain⟨q,m,t,rfl,j,hS,s,z,B⟩:=hcut;have ag:=Af (And.intro j (And.intro hS (And.intro s (And.intro z B))));clear j hS s z B HS dW;go_wp2;go_loopw [5] (λI wr=>∃(u:List Stil.Aw)(f:List Stil.DI)(q:Option Ab)(m:Nat)(t:List AW),I=AE q f.length m/\wr.ownsRow (w.heap.size+1) 56 4 (AE q f.length m) f.length t/\Sv wr (ob (AE q f.length m)++w.heap.size::bs) ((Fb f.reverse,t)::ts)/\Stil.Xx f u n S/\EJ w0 wr a cap L u/\Ft (1+2*(L.length - u.length)) f/\Da wr w.heap.size (AB 0) (AB 0) AG AG/\w.grownBy wr (some w0.heap.size)) (λ_ wr=>L.length - LC wr w0.heap.size);case atStart=>have⟨h1,h2,h3,h4,h5⟩:=ag.out;exact⟨l,I3 root,q,m,t,rfl,h1,h2,ap.out,h3,by cases root;exact⟨X0.1,DR X0.2 BS⟩;exact⟨(λn Y=>by cases Y),by simp[I3,Stil.sizes]⟩,h4,h5⟩
  case round=>
   clear ag ap;obtain⟨u,f,q,m,t,rfl,j,hS,y,s,Q,z,B⟩:=hrel;cases u with
   |nil=>exact y.elim
   |cons i r=>
    have fH:=Af (λW(h:AO wr W)=>S3 L r i a cap w0 W (s.below h s.lt) aj hl);have qY:=Af s.pos;have ax:w.heap.size<wr.heap.size:=z.1;have aH:f.length<=3000:=(by have h1:=Q.2;have h2:=F5 f;omega);rw[Stil.Xx]at y;by_cases h7:i.code<7
    .rw[BR h7]at y;obtain⟨aB,af,y⟩:=y;obtain⟨b,o,J,av,rfl,hb,hJ,ao,ar,Z,x1,V,an⟩:=s.inst aj.out;have ac:i.fits:=HF i (s.suf.subset BU);have aC:=Af (λW(h:AO wr W)=>pC i av f q m (w.heap.size+1) t W (w.heap.size::bs) ts (ownsRow_below j h) (hS.bel h) (an.below h) ac ⟨aB,BS⟩ af (by have h4:=Q.2;omega) (DR BS h.size));have lV:=Af (λW(h:Below (w.heap.size+1) wr W)=>s.cells ao hb (Nat.lt_succ_of_lt H) h ⟨Z,x1,V⟩);obtain⟨⟨c0,c1,-,-,-⟩,-⟩:=lV wr (BP _ _)
     have eG:=Af (λ(W:AU) (D:Option Ab) (G:Nat) (K:List AW) (C:List Stil.DI) (h:Below (w.heap.size+1) wr W) (ho:W.ownsRow (w.heap.size+1) 56 4 (AE D C.length G) C.length K) (hs:Sv W (ob (AE D C.length G)++w.heap.size::bs) ((Fb C.reverse,K)::ts)) (e:C=Lr i.code i.O f)=>(show(λI wr=>∃(u:List Stil.Aw) (f:List Stil.DI) (q:Option Ab) (m:Nat) (t:List AW),I=Value.slice q f.length m/\wr.ownsRow (w.heap.size+1) 56 4 (AE q f.length m) f.length t/\Sv wr (ob (AE q f.length m)++w.heap.size::bs) ((Fb f.reverse,t)::ts)/\Stil.Xx f u n S/\EJ w0 wr (some (AK b o)) cap L u/\Ft (1+2*(L.length - u.length)) f/\Da wr w.heap.size (AB 0) (AB 0) AG AG/\w.grownBy wr (some w0.heap.size)) (Value.slice D C.length G) (W.s (AL w0 1) (AB ((J:Int)+1)))/\L.length - LC (W.s (AL w0 1) (AB ((J:Int)+1))) w0.heap.size=r.length from by
      have hR:=(s.below h (Nat.lt_succ_of_lt H)).next ar;have h5:=PN (c:=i.code) ac.2 Q BS;have e5:1+2*(L.length - (i::r).length)+2=1+2*(L.length - r.length):=BS
      rw[e5,<-e]at h5
      exact⟨⟨r,C,D,G,K,rfl,Di ho (λe=>by have:=(ho.lt _ e).1;omega),hs.set (EM _ (Ax dV)),by rw[e];exact y,hR,h5,(z.low h (EO _)).gr (I5 _ _ _ _) (λe=>by injection e with e;omega),Vo (Sr B h (JJ _)) _ _⟩,hR.pos⟩))
     obtain⟨ta,ua,rfl,-⟩:=an;have oG:IntKind.i64.wrap ((J:Int)+1)=(J:Int)+1:=xAe;clear y s Q z B ao ar ac j hS af;go_upto_region 5 with(go_at_call 53;refine(fH _ BV).mo ?_;rintro e A⟨rfl,az⟩;have E:AO wr A:=BV;clear Z x1 V c0 c1;obtain⟨⟨c0,c1,Z,x1,V⟩,-⟩:=lV A (E.mo BS));go_region_held3 (λO=>(O.c (AL w0 0)=some (AE (some (AK b o)) L.length cap)/\O.c (AL w0 1)=some (AB (J:Int))/\O.c (AK b (o+J*3))=some (AB i.code)/\O.c (AK b (o+J*3+1))=some (AB i.O.op)/\O.c (AK b (o+J*3+2))=some (AE ta i.O.args.length ua))) (first|with_reducible assumption|with_reducible exact⟨JO.tr c0,JO.tr c1,JO.tr Z,JO.tr x1,JO.tr V⟩|skip) (first|(go_at_call 90;refine(aC.out _ (by exact E.drew)).mo ?_;rintro e w7⟨D,G,K,rfl,uZ,al,ae⟩;have lN:=Af ((E.drew.mo CW).tr ae);have zQ:=Af (eG.out w7 D G K _ lN.out uZ al rfl);have⟨au,f7⟩:=lV.out w7 lN.out;have y1:=au.2.1;clear uZ al ae));all_goals go_wp2;exact⟨zQ.1,by rw[zQ.out.2,qY.out];simp⟩
    rw[BQ h7]at y;obtain⟨rfl,rfl⟩:=y;rcases j.2 with⟨_,h0⟩|⟨g,aD,cur,hv,aF,hh,aG,_⟩;{exact absurd h0 BU};cases hv;have aa:=(j.lt g rfl).2;have HT:=Af ((hS.ice Av (by rw[DZ];simpa using j) (BA.2 ⟨EO _,dX.out⟩)).sub (us:=([Gy n],t)::ts) (λ_ h=>h) (BA.2 ⟨.tail _ Av,λ_ h=>.tail _ (Ax h)⟩));obtain⟨U,X,T,R,rfl,-⟩:=HT.opN Av;have M:wr.c (AK g 0)=some (AB n.kind)/\wr.c (AK g 1)=some (AB n.O.op)/\wr.c (AK g 2)=some (AE U n.O.args.length X)/\wr.c (AK g 3)=some (AE T n.K.length R):=⟨j.cellAt 0 BU,j.cellAt 1 BU,j.cellAt 2 BU,j.cellAt 3 BU⟩;have ay:=Af (λW(h:AO wr W)=>(show(W.c (AK g 0)=some (AB n.kind)/\W.c (AK g 1)=some (AB n.O.op)/\W.c (AK g 2)=some (AE U n.O.args.length X)/\W.c (AK g 3)=some (AE T n.K.length R))/\Da W w.heap.size (AB 0) (AB 0) AG AG from⟨⟨(h.cell aa).tr M.1,(h.cell aa).tr M.2.1,(h.cell aa).tr M.2.2.1,(h.cell aa).tr M.2.2.2⟩,z.bel h⟩));have eG:=Af (λW(h:AO wr W)=>And.intro (HT.bel h) (And.intro (s.below h s.lt) (Sr B h (EL ax))));obtain⟨y0,y1,y2,y3⟩:=M;clear s B z j hS Q HT;go_wp2_with(go_at_call 53;refine(fH _ BV).mo ?_;rintro e A⟨rfl,az⟩;have E:AO wr A:=BV;clear y0 y1 y2 y3;have⟨⟨y0,y1,y2,y3⟩,aw⟩:=ay A E;have xw:=Af (eG A E);have⟨aA,q0,p0,q1,p1,q2,p2,q3,p3⟩:=id aw);refine BH (v:=A0 n U X T R) (by simp[results,results52,go_sem,q0,q1,q2,q3]) rfl ⟨⟨U,X,T,R,rfl,(xw.1.set4 Av).sub (λ_ h=>.tail _ h) (λ_ h=>h)⟩,?_,?_⟩;{refine xw.2.1.below (n:=w.heap.size) ?_ H;exact(((((BP w.heap.size A).s (p:=(AL w 0)) (DK _) _).s (p:=(AL w 1)) (DK _) _).s (p:=(AL w 2)) (DK _) _).s (p:=(AL w 3)) (DK _) _)};(repeat (refine Oy ?_ (DK _) _));exact xw.2.2
end Go.Proofs.YtgnkpbhknkinoaaGreatDoor
namespace Go.Co
open Go.Conc
section
variable {F:Func}{args:Array AW}{c d:Code}{g:AX}{i:Nat}{o:Oper}{ops:Array Oper}{rest:List Nat}
variable {P:AY}{Stop:AX -> AU -> Prop}{a:Act}{w:AU}{b:Frame}{k:List Item}{cs:List Frame}
def Al(Q:AU->Prop)(w:AU):Prop:=∃e d,Q {w with tape:=e,drawn:=d}
def Al.of{Q:AU->Prop}(h:Q w):Al Q w:=⟨w.tape,w.drawn,h⟩
def Vx(p:OkP P)(S:AX->World->Prop)(hr:g.status=.running)(y:∀g w,S g w->g.status=.running)
  (H:∀m d,∃n j f,runN P n (solo g {w with tape:=m,drawn:=d})=.next (solo j f)/\S j f) (h:∀j f,Al (S j) f->Comes P j f Stop):Comes P g w Stop:=by
 intro u sl t hF q;have v:Way P (λj f=>Al (S j) f) g w:=by refine vM p _ (λj f⟨m,d,l⟩=>y _ _ l) (λj f m e⟨r,s,l⟩=>⟨r,s,l⟩) g q hr w fun m d=>?_;have⟨n,j,f,x,l⟩:=H m d;exact⟨n,j,f,x,Al.of l⟩
 exact(uL p v).then (λj f _ l=>h j f l) u sl t hF q
theorem Tq(t:OkP P){fr fr':Frame}{cs cs':List Frame}(r:∀l,stepG P true (G fr cs) l=.go (G fr' cs') l #[])(h:∀j,Al (λx=>x=w) j->Comes P (G fr' cs') j Stop):Comes P (G fr cs) w Stop:=by
 refine Vx t (λm f=>m=G fr' cs'/\Al (λx=>x=w) f) rfl (λg w h=>by rw[h.1];rfl) (fun e d=>?_) ?_
 .refine⟨1,G fr' cs',{w with tape:=e,drawn:=d},?_,rfl,⟨w.tape,w.drawn,rfl⟩⟩;have u:step P (solo (G fr cs) {w with tape:=e,drawn:=d})=.next (solo (G fr' cs') {w with tape:=e,drawn:=d}):=step_lone_go (by rw[show({frame:=fr,callers:=cs,status:=.running,dying:=none}:AX)=G fr cs from rfl,r];rfl);simp only[runN,u]
 rintro m f⟨e,d,rfl,q,s,p⟩;exact h f ⟨q,s,p⟩
def Vw(f:OkP P)(h:∀e,Al (λx=>x=w) e->Comes P (G (b.at a (.code c::.code d::k)) cs) e Stop):Comes P (G (b.at a (.code (.seq c d)::k)) cs) w Stop:=
 Tq f (λ_=>stepG_seq) h
def Q8(f:OkP P){j:Nat}(h:∀e,Al (λx=>x=w) e->Comes P (G (b.at a (.inRegion ops (List.range ops.size)::k)) cs) e Stop):Comes P (G (b.at a (.code (.region j ops false)::k)) cs) w Stop:=
 Tq f (λ_=>stepG_region) h
def NY(f:OkP P)(h:∀e,Al (λx=>x=w) e->Comes P (G (b.at a k) cs) e Stop):Comes P (G (b.at a (.inRegion ops []::k)) cs) w Stop:=
 Tq f (λ_=>stepG_region_end) h
def Qg(j:OkP P){v:AW}(q:ops[i]?=some o)(p:Region.wanted o (yielded ops a.tmps)=true)(m:b.kind≠.early)
  (hr:∀e:AU,(execOp a.eval o).run P e=.ok (.value v) e) (l:∀e:AU,(execOp a.eval o).events P e #[]=#[]) (h:∀f,Al (λx=>x=w) f->Comes P (G (b.at (a.put o.dst v) (.inRegion ops rest::k)) cs) f Stop):Comes P (G (b.at a (.inRegion ops (i::rest)::k)) cs) w Stop:=by refine Tq j (λe=>?_) h;rw[stepG_value q p m (hr e)];unfold listed;rw[l,seen_none]
def Zv(P:AY)(f:FuncId)(args:Array AW)(w:AU)(Post:AW->World->Prop):Prop:=
 ∀(e:Frame)(cs:List Frame)(Stop:AX->World->Prop),(∀v h,Post v h->Comes P (G (e.finish v) cs) h Stop)->Comes P (G (Frame.enter P f args .normal) (e::cs)) w Stop
theorem Wt(s:OkP P){f:FuncId}{Post:AW->World->Prop}(h:∀l d,Calls P f args {w with tape:=l,drawn:=d} λe j=>∃v,e=.returned v/\Post v j):Zv P f args w (λv=>Al (Post v)):=by
 intro m cs Stop u;refine Vx s (λq j=>∃v,q=G (m.finish v) cs/\Post v j) rfl (λg w⟨v,h,_⟩=>by rw[h];rfl) (fun l d=>?_) ?_
 .obtain⟨e,j,x,⟨v,rfl,p⟩,⟨n,t⟩,_,r⟩:=h l d (m::cs);refine⟨n+1,G (m.finish v) cs,j,?_,v,rfl,p⟩;rw[runN_add];rw[show solo (G (Frame.enter P f args .normal) (m::cs)) {w with tape:=l,drawn:=d}=lone (Frame.enter P f args .normal) (m::cs) {w with tape:=l,drawn:=d} from rfl,t];have:=step_leave_returned (c:=m) (cs:=cs) r;simp only[runN,this];rfl
 rintro q j⟨l,d,v,rfl,p⟩;exact u v j ⟨l,d,p⟩
theorem Zv.mono{f:FuncId}{Post j:AW->World->Prop}(h:Zv P f args w Post)(p:∀v e,Post v e->j v e):Zv P f args w j:=
 λl cs Stop m=>h l cs Stop λv e q=>m v e (p v e q)
abbrev Zv.mo:=@Zv.mono
def enter_at{f:FuncId}(args:Array AW)(e:P.funcs[f]?=some F)(h:F.body=some c):Frame.enter P f args .normal=(base f).at {tmps:=args++Array.replicate (F.ntmps - args.size) AQ,defers:=[]} [.code c]:=by simp[Frame.enter,e,h,base,Frame.at]
theorem QF(q:OkP P){f:FuncId}{args:Array Operand}{A:Array AZ}{vals:Array AW}{Post:AW->World->Prop}(m:ops[i]?=some o)(L:Region.wanted o (yielded ops a.tmps)=true)(E:b.kind≠.early)
  (z:o.op=.call {callee:=.value (.func f),args,argTypes:=A}) (j:P.funcs[f]?=some F) (p:F.body=some c) (C:args.map a.eval=vals) (D:∀e,Al (λx=>x=w) e->Zv P f vals e Post)
  (h:∀v e,Post v e->Comes P (G (b.at (a.put o.dst v) (.inRegion ops rest::k)) cs) e Stop):Comes P (G (b.at a (.inRegion ops (i::rest)::k)) cs) w Stop:=by
 have y:=q.name f F j;refine Tq q (fr':=Frame.enter P f vals .normal) (cs':=b.at a (.inRegion ops (i::rest)::k)::cs) (λs=>?_) λe M=>D e M _ _ _ λv B I=>?_
 .have⟨r,e,l,u,t⟩:=goes_elim (goes_call (P:=P) (main:=true) (w:=s) (cs:=cs) (k:=k) (rest:=rest) (K:=λr e l=>r=G ((base f).at {tmps:=args.map a.eval++Array.replicate (F.ntmps - (args.map a.eval).size) AQ,defers:=[]} [.code c]) (b.at a (.inRegion ops (i::rest)::k)::cs)/\e=s/\l=#[]) m L E z j y p ⟨rfl,rfl,rfl⟩);obtain⟨rfl,rfl,rfl⟩:=t;rwa[enter_at vals j p,<-C]
 have H:(b.at a (.inRegion ops (i::rest)::k)).finish v=b.at (a.put o.dst v) (.inRegion ops rest::k):=by rw[Frame.finish_at,m];rfl
 rw[H];exact h v B I
theorem R7(u:OkP P){Q:Exit->Act->World->Prop}(t:∀e a w,Q e a w->e=.normal\/e=.ret)(h:∀p d,c.wp P Q a {w with tape:=p,drawn:=d})
  (v:∀f j,Al (Q .normal f) j->Comes P (G (b.at f k) cs) j Stop) (hr:∀f j l,Al (Q .ret f) j->Comes P (G {b.at f l with mode:=.returning} cs) j Stop):Comes P (G (b.at a (.code c::k)) cs) w Stop:=by
 refine Vx u (λr j=>(∃f,Q .normal f j/\r=G (b.at f k) cs)\/∃f l,Q .ret f j/\r=G {b.at f l with mode:=.returning} cs) rfl ?_ (fun p d=>?_) ?_
 .rintro g w (⟨_,_,rfl⟩|⟨_,_,_,rfl⟩)<;>rfl
 .have⟨e,f,j,m,s⟩:=h p d b k cs;rcases t _ _ _ m with rfl|rfl;{obtain⟨n,q⟩:=s;exact⟨n,_,j,q,.inl ⟨f,m,rfl⟩⟩};obtain⟨l,n,q⟩:=s;exact⟨n,_,j,q,.inr ⟨f,l,m,rfl⟩⟩
 rintro r j⟨p,d,⟨f,m,rfl⟩|⟨f,l,m,rfl⟩⟩
 .exact v f j ⟨p,d,m⟩
 exact hr f j l ⟨p,d,m⟩
def IV:List Code->Code->Code
 |[],d=>d
 |c::l,d=>.seq c (IV l d)
def WpL(P:AY)(R:Act->World->Prop):List Code->Act->World->Prop
 |[],a,w=>R a w
 |c::l,a,w=>c.wp P (Exit.then (WpL P R l) λ_ _ _=>False) a w
theorem ZP{R:Act->World->Prop}:∀(l:List Code)(a:Act)(w:AU),WpL P R l a w->∃j f,R j f/\Steps P (lone (b.at a (.code (IV l d)::k)) cs w) (lone (b.at j (.code d::k)) cs f)
 |[],a,w,h=>⟨a,w,h,Steps.refl _ _⟩
 |c::l,a,w,h=>by
  have⟨e,s,t,m,q⟩:=h b (.code (IV l d)::k) cs;cases e with
  |normal=>
   have⟨j,f,p,r⟩:=ZP l s t m;exact⟨j,f,p,(Steps.head step_seq q).trans r⟩
  |_=>exact m.elim
theorem QE(r:OkP P)(l:List Code){R:Act->World->Prop}(h:∀m j,WpL P R l a {w with tape:=m,drawn:=j})(s:∀e f,Al (R e) f->Comes P (G (b.at e (.code d::k)) cs) f Stop):Comes P (G (b.at a (.code (IV l d)::k)) cs) w Stop:=by
 refine Vx r (λq f=>∃e,R e f/\q=G (b.at e (.code d::k)) cs) rfl ?_ (fun m j=>?_) ?_
 .rintro g w⟨_,_,rfl⟩;rfl
 .have⟨e,f,p,n,t⟩:=ZP (b:=b) (k:=k) (cs:=cs) (d:=d) l a _ (h m j);exact⟨n,_,f,t,e,p,rfl⟩
 rintro q f⟨m,j,e,p,rfl⟩;exact s e f ⟨m,j,p⟩
theorem sb{Post:AW->World->Prop}(hg:OkG g)(h:Comes P g w λr f=>∀d,AtEnd P (λ_=>False) 0 Post r (f.at d)):
  ∃N last o f p,runNT P (N+1) (solo g w) #[]=(.ended o f,p)/\runN P N (solo g w)=.next last/\step P last=.ended o f/\Conc.Good P Post last o f p:=by
 have⟨N,K,r,f,s,p,m,⟨u,⟨q,I⟩,B,E⟩,_,_,x⟩:=h #[g] none #[] ⟨rfl,⟨_,leavers_one P g⟩,0,past_nil⟩ hg;have Q:Goes P true AtRel (λ_ _ _=>False) (AtEnd P (λ_=>False) B Post) 0 r f:=by rintro S⟨d,rfl⟩;have⟨C,v,t,y,l,O⟩:=x d;exact⟨C,v,t,y,λe j=>⟨(l e j).1,(l e j).2.1,(l e j).2.2.1,MemAct.low_mono (EI _) (l e j).2.2.2⟩,O⟩
 have⟨z,last,o,G,M,L,R,D,A⟩:=beside_ends (sl:=s) (λ_ _ _ h=>h.elim) u I E Q;have H:crowd #[g] w none=solo g w:=rfl;rw[H]at m;refine⟨N+z,last,o,G,M,?_,?_,D,A⟩
 .rwa[Nat.add_assoc,runNT_add,m]
 rw[runN_add];have:runN P N (solo g w)=.next (crowd K f s):=by rw[<-runNT_fst _ _ _ #[],m]
 rwa[this]
end
