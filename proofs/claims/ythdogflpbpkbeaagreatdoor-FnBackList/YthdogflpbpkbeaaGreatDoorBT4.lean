import Derived.Test.YthdogflpbpkbeaaGreatDoorW14a
import Derived.Test.YthdogflpbpkbeaaGreatDoorM34
import Derived.Test.YthdogflpbpkbeaaGreatDoorGO
set_option linter.defProp false
set_option maxHeartbeats 4000000
set_option maxRecDepth 100000
namespace Go.Proofs.YthdogflpbpkbeaaGreatDoor
open Tryz Stil Go.RowKit Go.Sort Go.BigFrame
def mh(k:Int)(m:Stil.DK)(B o:Nat)(L:Ξ)(xs:Θ)(i d e:Δ)(j f b:Nat)(w:AU)(bs:Γ)(ts:Ao)(h:Sv w (ob (AE i L.length j)++bs) ((Fh L,xs)::([G8 m],A3 m d f e b)::ts))(g:w.ownsRow o 63 4 (AE i L.length j) L.length xs)(y:o<=w.heap.size)(F:w.cell? (AK B 0)=some (AB k))(E:B<w.heap.size)(hl:L.length+m.K.length<=1900000):
  Calls prog 196 #[AE i L.length j, (A0 m d f e b),AH B] w (Of G8 4 63 o (AE i L.length j) (L++Dw k [m]) w bs ts):=by
 have a:=Aa w (A2 m d f e b 63);have hS:=h.bel a;replace g:=ownsRow_below g a;rw[O8];clear h;by_cases l:m.kind=k
 .rw[BR l];subst l;have⟨D,z,hS⟩:=hS.kidsOf (Ax Av);go_enter func196,ntmps196;go_wp2_with(at_builtin;go_loud (refine Bj rfl rfl (Sv.appM (M:=m.K) _ kd4 hS (Ax Av) Av Qz z g (DU y a.size) BS) rfl rfl ?_;rintro C A⟨n,u,rfl,r,q,t,-⟩));go_ret;exact⟨n,u,_,BU,r,q.sub (λ_ h=>h) (BA.2 ⟨.head _,λ_ h=>.tail _ (Ax (Ax (Ax h)))⟩),Ly a t⟩
 rw[BQ l];have H:(m.kind==k)=false:=xAr;have G:=a.tr ((Aa (w.alloc (A2 m d f e b 63)) (A2 m d f e b 63)).mo a.size);go_enter func196,ntmps196;go_wp2_with(at_builtin;go_loud (refine Bj rfl rfl (Sv.pushM (x:=m) (c:=A3 m d f e b) _ kd4 hS Av (Ax Av) Qz g (DU y a.size) BS) rfl CN ?_;rintro C A⟨n,u,rfl,r,q,t,-⟩));go_ret;exact⟨n,u,_,BU,r,q.sub (λ_ h=>h) (BA.2 ⟨.head _,λ_ h=>.tail _ (Ax (Ax h))⟩),Ly a t⟩
def Awb{k:Int}{l:Ξ}{j:Nat}(h:j<l.length):(Dw k (l.take j)).length+l[j].K.length<=Stil.sizes l:=by
 have c:=Gg (Dw k (l.take j));have d:=Lh k (l.take j);have a:=YP l (j+1);rw[EK h,Ov]at a;have b:=Dn l[j];have f:=Gg l[j].K;have e:Stil.sizes [l[j]]=Ad l[j]:=by simp[Stil.sizes]
 omega
def yp(k:Int)(B:Nat)(l:Ξ)(a:Δ)(cap:Nat)(w:AU)(bs:Γ)(ts:Ao)(h:Sv w bs ts)(D:([sl (Fh l)],[AE a l.length cap])∈ts)(hl:Stil.sizes l<=999999)(u:w.cell? (AK B 0)=some (AB k))(t:B<w.heap.size):
  Calls prog 194 #[AE a l.length cap,AG,.func (.func 196) #[] #[AH B]] w (GX G8 4 63 (Dw k l) w bs ts):=by
 have V:=Gg l;have O:=Af u;clear u;go_enter func194,ntmps194;go_wp2;go_loopw [1,11] (λd i wr=>∃(j:Nat)(L:Ξ)(ra:Δ)(rc:Nat)(xs:Θ),j<=l.length/\i=AB j/\d=AE ra L.length rc/\Hid (L=Dw k (l.take j))/\wr.ownsRow w.z 63 4 (AE ra L.length rc) L.length xs/\Sv wr (ob (AE ra L.length rc)++bs) ((Fh L,xs)::ts)/\AO w wr) (λ_ i _=>l.length - (intOf i).toNat);case atStart=>exact⟨0,[],none,0,[],BS,rfl,rfl,rfl,BJ _ _ _ _,h.nil,BP _ _⟩
 case round=>have Y:=h.1;clear h;obtain⟨j,L,ra,rc,xs,X,rfl,rfl,HL,hown,hS,hb⟩:=hrel;by_cases q:j<l.length;{obtain⟨b,o,c,rfl,T,g,f⟩:=hS.at (Ax D) Qz q;(obtain⟨C,K,H,A,rfl,-⟩:=g.opN Av;have x:=f 0 _ rfl;have P:=f 1 _ rfl;have R:=f 2 _ rfl;have E:=f 3 _ rfl;rw[IV]at x;have z:=@Awb k l j q;rw[<-HL.out]at z;have r:Hid (Dw k (l.take (j+1))=L++Dw k [l[j]]):=by show _=_;rw[HL.out,EK q,Na]);have⟨m,y⟩:=AA (l[j]);rw[<-y]at x P R E z r g;have G:=Af (λW(h:AO wr W)=>mh k m B w.z L xs ra C H rc K A W bs ts ((g.bel h).sub (λ_ h=>h) (BA.2 ⟨.tail _ Av,BA.2 ⟨.head _,λ_ h=>.tail _ (Ax h)⟩⟩)) (ownsRow_below hown h) (DU hb.size h.size) (((Bf hb h).cell (p:=(AK B 0)) t).tr O.out) (DO t (DU hb.size h.size)) BS);clear y HL g f;go_wp2_with(go_at_call 196;refine(G _ BV).mo ?_;rintro e U⟨J,N,Q,rfl,I,M,F⟩);exact⟨⟨j+1,L++Dw k [m],J,N,Q,BS,by go_num,BU,r.symm,I,M,((show AO w _ from BV).grown F yDg (λk S=>(hown.lt k S).1))⟩,xAb⟩};exact z8
def WX(k:Int)(l:Ξ)(a:Δ)(cap:Nat)(w:AU)(bs:Γ)(ts:Ao)(h:Sv w bs ts)(f:([sl (Fh l)],[AE a l.length cap])∈ts)(hl:Stil.sizes l<=999999):
  Calls prog 172 #[AB k,AE a l.length cap] w (GZ (Jo k (Dw k l)) w bs ts):=by
 have hS:=(h.alloc (.cells #[AB k] 3)).box (.cells #[AB 0,AB 0,AG,AG] 63);rw[BG]at hS;have F:=h.1;have q:=Af (λW B I us K f(h:AO w W)h1 h2=>yp k B l a cap W I us K f hl h1 h2);have A:=Af f;have⟨L,t⟩:=AA (Dw k l);rw[<-t]at q⊢;clear h hl t f;go_enter func172,ntmps172;go_upto_if 11 with(go_at_call 194;refine(q _ _ _ _ hS A BV xAa B1).mo ?_;rintro e r⟨C,M,X,rfl,hown,hS,G⟩;obtain⟨Z,u,Q,q1,p1,y,Y,x,p3⟩:Dm r (w.heap.size+1) (AB 0) (AB 0) AG AG:=qB4;have R:r.c (AL w 0)=some (AB k):=(G.cell (p:=(AL w 0)) B1).tr xAa);have aa:AO w r:=BV;have U:w.heap.size+2<=(w.alloc (.cells #[AB k] 3)).heap.size+1:=BU;replace hown:=Joins.ownsRow_le (base':=w.heap.size+2) hown BU;clear q;by_cases h1:L.length=1
 .obtain⟨m,rfl⟩:=List.length_eq_one_iff.1 h1;obtain⟨c,ab,rfl,hS⟩:=hS.fst Av;obtain⟨E,H,J,D,rfl,hS⟩:=hS.opN Av;have⟨g,c,z,_,V,_,d⟩:=Jg hown BU;simp only[BN]at z;obtain⟨rfl,_,rfl⟩:=z;have T:=d 0 _ rfl;have P:=d 1 _ rfl;have y2:=d 2 _ rfl;have y3:=d 3 _ rfl;clear d;go_wp2;refine BH (v:=A0 m E H J D) (by simp[results,results172,go_sem,u,q1,y,x]) rfl ?_;rw[show Jo k [m]=m from rfl];exact⟨_,_,_,_,rfl,(hS.set4 BU).sub B8 B8,BV⟩
 have N:Hid (Jo k L=⟨k,⟨0,[]⟩,L⟩):=dif_neg h1;have S:((L.length:Int)==1)=false:=xAh;have O:¬((L.length:Int)=1):=BS;replace hS:=(hS.ice Av C6 (λb j=>by simp only[EN]at j;rcases j with rfl|j;omega;have:=F b j;omega)).snil;replace hS:=Sv.mkN (i:=k) (op:=0) (ds:=[]) hS Av (Ax Av);go_wp2;refine BH (v:=.agg #[AB k,AB 0,AG,AE C L.length M]) (by simp[results,results172,go_sem,u,q1,y,x]) rfl ?_;rw[N.out];exact⟨_,_,_,_,rfl,(hS.set4 BU).sub B8 B8,BV⟩
structure SN where
 n:Stil.DK
 av:AW
 kv:AW
 xs:List AW
abbrev SN.cells(s:SN):Θ:=[AB s.n.kind,AB s.n.O.op,s.av,s.kv]
abbrev SN.agg(s:SN):AW:=.agg #[AB s.n.kind,AB s.n.O.op,s.av,s.kv]
structure SN.ok(s:SN)(w:AU)(B:Nat)(ts:Ao):Prop where
 dev:([sl (Ih s.n.O.args)],[s.av])∈ts
 kid:(Fh s.n.K,s.xs)∈ts
 row:w.ownsRow B 63 4 s.kv s.n.K.length s.xs
section
variable {w w':AU}{B:Nat}{bs:List Nat}{ts us:Ao}{s:SN}
def SN.ok.below(h:s.ok w B ts)(a:AO w w'):s.ok w' B ts:=⟨h.dev,h.kid,ownsRow_below h.row a⟩
def SN.ok.more(h:s.ok w B ts)(hu:∀x∈ts,x∈us):s.ok w B us:=⟨hu _ h.dev,hu _ h.kid,h.row⟩
def SN.ok.kept{r:ε}(h:s.ok w B ts)(hg:w.grownBy w' r)(hr:s.kv.ownBlock=none\/s.kv.ownBlock≠r):s.ok w' B ts:=⟨h.dev,h.kid,h.row.kept hg hr⟩
def SN.ok.forms(h:s.ok w B ts)(hS:Sv w bs us)(hu:∀x∈ts,x∈us):(∃a c,s.av=AE a s.n.O.args.length c)/\∃a c,s.kv=.slice a s.n.K.length c:=by have⟨a,c,d,_⟩:=(I9.1 (hS.2 _ (hu _ h.dev))).slice;have⟨f,b,e,_⟩:=Jw h.row;exact⟨⟨a,c,xBt⟩,f,b,e⟩
def SN.ice(h:Sv w (ob s.kv++bs) ts)(a:s.ok w B ts)(e:∀b,s.kv.ownBlock=some b->b∉bs):Sv w bs (([G8 s.n],s.cells)::ts):=by have d:=h.ice2 a.kid (by rw[Db];exact a.row) e;have c:=d.mkN (i:=s.n.kind) (op:=s.n.O.op) (ds:=s.n.O.args) (ns:=s.n.K) (Ax a.dev) Av;rw[SY]at c;exact c.sub (λ_ h=>h) (BA.2 ⟨.head _,λ_ h=>.tail _ (Ax h)⟩)
def SN.at(h:Sv w (ob s.kv++bs) ts)(d:s.ok w B ts)(e:∀b,s.kv.ownBlock=some b->b∉bs):Aq w s.av s.n.O.args/\Eg w s.kv s.n.K:=by have⟨_,_,_,_,a,c⟩:=(SN.ice h d e).opN Av;simp only[SN.cells,List.cons.injEq,true_and,Hj]at a;rw[a.1,a.2];exact⟨c.devs Av,c.nets (Ax Av)⟩
end
def TQ(k:Int)(s:SN)(w:AU)(B:Nat)(bs:Γ)(ts:Ao)(e:Ending)(w':AU):Prop:=∃a c b,e=.returned (.slice a (Stil.opn k s.n).length c)/\w'.ownsRow B 63 4 (.slice a (Stil.opn k s.n).length c) (Stil.opn k s.n).length b/\Sv w' (ob (.slice a (Stil.opn k s.n).length c)++bs) ((Fh (Stil.opn k s.n),b)::ts)/\AO w w'/\((Value.slice a (Stil.opn k s.n).length c).ownBlock=s.kv.ownBlock\/∀q,(Value.slice a (Stil.opn k s.n).length c).ownBlock=some q->w.heap.size<=q)
def XT(k:Int)(s:SN)(w:AU)(B:Nat)(bs:Γ)(ts:Ao)(h:Sv w (ob s.kv++bs) ts)(d:s.ok w B ts)(x:B<=w.heap.size)(j:∀b,s.kv.ownBlock=some b->b∉bs):Calls prog 199 #[AB k,s.agg] w (TQ k s w B bs ts):=by
 have⟨⟨f,g,m⟩,a,c,o⟩:=d.forms h λ_ h=>h;obtain⟨n,A,y,r⟩:=s;simp only[SN.agg]at m o d j h⊢;subst m o;unfold TQ;unfold Stil.opn;by_cases i:n.kind=k
 .rw[BR i];subst i;have hS:=(h.alloc (A2 n f g a c 63)).sub (us:=(Fh n.K,r)::ts) (λ_ h=>h) (BA.2 ⟨d.kid,λ_ h=>h⟩);have l:=d.row.alloc (A2 n f g a c 63);clear h d j;go_enter func199,ntmps199;go_wp2;go_ret;exact⟨a,c,rfl,r,l,hS,BV,.inl rfl⟩
 rw[BQ i];have z:(n.kind==k)=false:=xAr;have t:=((SN.ice h d j).alloc (A2 n f g a c 63)).box (A2 n f g a c 63);have l:=World.ownsRow_lit (base:=B) (e:=63) (size:=4) (w.alloc (A2 n f g a c 63)) #[AB n.kind,AB n.O.op,AE f n.O.args.l g,AE a n.K.l c] 1 B1 CH rfl;rw[BG]at t l;clear h d j i;go_enter func199,ntmps199;go_wp2;go_ret;exact⟨some (AK (w.heap.size+1) 0),1,rfl,_,l,t,BV,.inr λq u=>by cases u;exact JL _⟩
def O7{w a:AU}{r:ε}{b o:Nat}(h:w.grownBy a r)(e:w.heap.size<=b)(v:AW):w.grownBy (a.setCell (AK b o) v) r:=
 ⟨h.os,h.tape,h.output,by simpa using h.size,λk d c=>by
  rw[<-h.block k d c];simp only[World.setCell,JP]
  rw[BQ BS]⟩
def i6{w w3 b:AU}{r a:ε}(h:AO w w3)(hg:w3.grownBy b a)(hr:a=r\/∀q,a=some q->w.heap.size<=q):w.grownBy b r:=
 ⟨hg.os.tr h.os,hg.tape.tr h.tape,hg.output.tr h.output,DU h.size hg.size,λk c d=>(hg.block k (DO c h.size) (λe=>by
  rcases hr with hr|hr
  .exact d (by rw[e,hr])
  .have:=hr k e.symm
   omega)).tr (h.block k c)⟩
def cz{a b:AU}(h:AO a b)(r:ε):a.grownBy b r:=grown_below h r
def Bbf(n:Stil.DK)(w:AU)(B:Nat)(g a:ε)(bs:Γ)(ts:Ao)(e:Ending)(w':AU):Prop:=∃(s:SN)(us:Ao),s.n=n/\e=.returned s.agg/\Sv w' (ob s.kv++bs) (us++ts)/\s.ok w' B (us++ts)/\w.grownBy w' g/\∀q,s.kv.ownBlock=some q->g=some q\/a=some q\/w.heap.size<=q
def MP{v:AW}{q:Nat}(h:q∈ob v):v.ownBlock=some q:=by
 unfold ob at h;cases a:v.ownBlock with
 |none=>rw[a]at h;cases h
 |some p=>rw[a]at h;rw[BB.1 h]
def o0{b:Nat}{A C bs:Γ}(h:b∈A++(C++bs)):b∈C++(A++bs):=by
 simp only[FZ]at h⊢;rcases h with h|h|h
 .exact .inr (.inl h)
 .exact .inl h
 exact .inr (.inr h)
def ve{n:Stil.DK}(b:n.kind=0->Aj n=true):Aj n=decide (n.kind=0):=by
 by_cases a:n.kind=0
 .rw[b a,FG a]
 rw[FW a];unfold Aj;simp[a]
def OU(k:Int)(a b:SN)(w:AU)(B:Nat)(bs:Γ)(ts:Ao)(h:Sv w (ob a.kv++(ob b.kv++bs)) ts)(T:a.ok w B ts)(D:b.ok w B ts)(hB:B<=w.heap.size)(ae:∀q,a.kv.ownBlock=some q->q∉bs/\b.kv.ownBlock≠some q)(aA:∀q,b.kv.ownBlock=some q->q∉bs)(V:Ad a.n+Ad b.n<=900000)(ak:Ci a.n)(hz:a.n.kind=0->Aj a.n=true):Calls prog 179 #[AB k,a.agg,b.agg] w (Bbf (Gz k a.n b.n) w B a.kv.ownBlock b.kv.ownBlock bs ts):=by
 have aB:∀q,a.kv.b=some q->q<w.heap.size:=λq d=>(T.row.lt q d).2;have ai:∀q,b.kv.b=some q->q<w.heap.size:=λq d=>(D.row.lt q d).2;have⟨hd,hk⟩:=SN.at h T (λq d c=>(BI.1 c).elim (λc=>(ae q d).2 (MP c)) (ae q d).1);have kF:=Af (λW(h:AO w W)=>Ux a.n a.av a.kv W (hd.below h) (hk.below h) ak);rw[ve hz]at kF;have⟨⟨u0,m0,ea⟩,u1,m1,eb⟩:=T.forms h λ_ h=>h;have⟨⟨u2,m2,ec⟩,u3,m3,ed⟩:=D.forms h λ_ h=>h;have al:(Stil.opn k a.n).length+(Stil.opn k b.n).length<=900000:=by have h1:=Q4 k a.n;have h2:=Q4 k b.n;have h3:=Gg (Stil.opn k a.n);have h4:=Gg (Stil.opn k b.n);omega
 have⟨W,A⟩:=AA (((w.alloc (.cells #[AB a.n.kind,AB a.n.O.op,a.av,a.kv] 63)).alloc (.cells #[AB b.n.kind,AB b.n.O.op,b.av,b.kv] 63)).alloc (.cells #[AB 0,AB 0,AG,AG] 63));have hS:Sv W (ob a.kv++(ob b.kv++(w.heap.size+1+1)::bs)) ts:=by rw[A];have:=((h.alloc (.cells #[AB a.n.kind,AB a.n.O.op,a.av,a.kv] 63)).alloc (.cells #[AB b.n.kind,AB b.n.O.op,b.av,b.kv] 63)).box (.cells #[AB 0,AB 0,AG,AG] 63);rw[BG,BG]at this;exact this.sub (λx l=>by simp only[FZ,EN]at l⊢;rcases l with l|l|l|l;exact .inr (.inl l);exact .inr (.inr (.inl l));exact .inl l;exact .inr (.inr (.inr l))) λ_ h=>h
 have ah:AO w W:=by rw[A];exact Bi (Bi (Aa _ _) _) _
 have az:W.heap.size=w.heap.size+3:=by rw[A];simp
 have r:Dm W w.heap.size (AB a.n.kind) (AB a.n.O.op) a.av a.kv:=by rw[A];exact qN4
 have g:Dm W (w.heap.size+1) (AB b.n.kind) (AB b.n.O.op) b.av b.kv:=by rw[A];exact qN4
 have i:Dm W (w.heap.size+1+1) (AB 0) (AB 0) AG AG:=by rw[A];exact qN4
 have uo:=T.below ah;have O:=D.below ah;clear h;obtain⟨an,aV,aT,aS⟩:=a;obtain⟨j,aW,aY,aC⟩:=b;simp only[SN.agg] at*;subst ea eb ec ed;by_cases h0:an.kind=0
 .rw[FG h0]at kF;rw[Gz,BR h0];clear hd hk T D uo al hz ak V h0;go_enter func179,ntmps179;go_upto_region 1 with fail;rw[<-A];clear A;have⟨Z,Q,R,q1,p1,q2,p2,q3,p3⟩:=id r;have⟨J,I,p4,F,U,N,p6,H,Y⟩:=id g;have⟨E,q8,p8,q9,p9,ab,ac,aa,ad⟩:=id i;go_wp2_with(go_at_call 124;refine(kF _ BV).mo ?_;rintro e u⟨rfl,m⟩;replace g:=g.bel m;replace i:=i.bel m;replace hS:=hS.bel m;replace O:=O.below m;have aj:=Bf ah m;have⟨Z,Q,R,q1,p1,q2,p2,q3,p3⟩:=id g;have⟨J,I,p4,F,U,N,p6,H,Y⟩:=id i);refine BH (v:=A0 j u2 m2 u3 m3) (by simp[results,results179,go_sem,I,F,N,H]) rfl ?_;have ag:(Value.slice u3 j.K.length m3).b≠some (w.heap.size+1+1):=λe=>by have:=ai _ e;omega
  refine⟨⟨j,_,_,aC⟩,[],rfl,rfl,(hS.set4 BU).sub (λx l=>?_) λ_ h=>h,⟨O.dev,O.kid,Dk (Dk (Dk (Dk O.row ag) ag) ag) ag⟩,?_,λq d=>.inr (.inl d)⟩;{simp only[FZ,EN]at l⊢;exact .inr (l.imp id .inr)};repeat (refine O7 ?_ BS _)
  exact cz aj _
 rw[FW h0]at kF;rw[Gz,BQ h0];have kz:=Af (λt cs us hS V hB hn=>XT k ⟨an,AE u0 an.O.args.length m0,AE u1 an.K.length m1,aS⟩ t B cs us hS V hB hn);have af:=Af (λt cs us hS V hB hn=>XT k ⟨j,AE u2 j.O.args.length m2,AE u3 j.K.length m3,aC⟩ t B cs us hS V hB hn);have HP:Hid (Jv k an j=⟨k,⟨0,[]⟩,Stil.opn k an++Stil.opn k j⟩):=rfl;unfold TQ at kz af;simp only[SN.agg]at kz af;obtain⟨C,aE⟩:∃ao,ao=Stil.opn k an:=⟨_,rfl⟩;obtain⟨K,au⟩:∃ao,ao=Stil.opn k j:=⟨_,rfl⟩;rw[<-aE]at kz HP al;rw[<-au]at af HP al;rw[HP.out];have zg:=Af ae;have aM:=Af aA;have bu:=Af aB;have dZ:=Af ai;have aH:=Af uo;have aK:=Af O;have z:=Af az;clear hd hk T D hz ak V h0 aE au HP ae aA aB ai uo O;go_enter func179,ntmps179;go_upto_region 1 with fail;rw[<-A];clear A az;have⟨Z,Q,R,q1,p1,q2,p2,q3,p3⟩:=id r;have⟨J,I,p4,F,U,N,p6,H,Y⟩:=id g;have⟨E,q8,p8,q9,p9,ab,ac,aa,ad⟩:=id i;go_upto_region 3 with(go_at_call 124;refine(kF _ BV).mo ?_;rintro e u⟨rfl,m⟩;replace r:=r.bel m;replace g:=g.bel m;replace i:=i.bel m;replace hS:=hS.bel m;have aj:=Bf ah m;have aR:=Af (aH.below m);have aN:=Af (aK.below m);have y:=Af m.size;clear m;have⟨Z,Q,R,q1,p1,q2,p2,q3,p3⟩:=id r;have⟨J,I,p4,F,U,N,p6,H,Y⟩:=id g;have⟨E,q8,p8,q9,p9,ab,ac,aa,ad⟩:=id i);go_region_held3 (λt=>(t.c (AL w 0)=some (AB an.kind)/\t.c (AL w 1)=some (AB an.O.op)/\t.c (AL w 2)=some (AE u0 an.O.args.length m0)/\t.c (AL w 3)=some (AE u1 an.K.length m1)/\t.c (AK (w.heap.size+1) 0)=some (AB j.kind)/\t.c (AK (w.heap.size+1) 1)=some (AB j.O.op)/\t.c (AK (w.heap.size+1) 2)=some (AE u2 j.O.args.length m2)/\t.c (AK (w.heap.size+1) 3)=some (AE u3 j.K.length m3))) (first|with_reducible assumption|(refine⟨?_,?_,?_,?_,?_,?_,?_,?_⟩<;>exact CJ)) (first|(have _:=aG;go_at_call 199;refine(af.out _ (ob (AE a1 C.length c1)++(w.heap.size+1+1)::bs) _ (ax.sub (λ_ h=>o0 h) (λ_ h=>h)) ((aQ.out).more (λ_ h=>.tail _ h)) (by have:=ay.out;have:=y.out;have:=z.out;omega) (λq d c=>by have h1:=dZ.out q d;have h2:=y.out;have h3:=z.out;rcases BI.1 c with c|c;(rcases P with P|P;exact(zg.out q (P.symm.tr (MP c))).2 d;(have G:u.heap.size<=q:=P q (MP c);omega));(rcases BD.1 c with c|c;omega;exact aM.out q d c))).mo ?_;rintro e w3⟨a2,c2,y2,rfl,aP,aO,aU,aX⟩;replace r:=r.bel aU;replace g:=g.bel aU;replace i:=i.bel aU;have sN:=ownsRow_below ap aU;have ar:=Bf aI aU;have lZ:=Af aU.size;have S:=Af P;clear aG P ap ax;have⟨Z,Q,R,q1,p1,q2,p2,q3,p3⟩:=id r;have⟨J,I,p4,F,U,N,p6,H,Y⟩:=id g;have⟨E,q8,p8,q9,p9,ab,ac,aa,ad⟩:=id i)|(go_at_call 199;refine(kz.out _ (ob (AE u3 j.K.length m3)++(w.heap.size+1+1)::bs) _ hS.drew ((aR.out).below (BP _ u).drew) (by have:=y.out;have:=z.out;show _<=u.heap.size;omega) (λq d c=>by have h1:=bu.out q d;have h2:=y.out;have h3:=z.out;rcases BI.1 c with c|c;exact(zg.out q d).2 (MP c);(rcases BD.1 c with c|c;omega;exact(zg.out q d).1 c))).mo ?_;rintro e w2⟨a1,c1,y1,rfl,ap,ax,aJ,P⟩;have X:=Bf (BP u.heap.size u).drew aJ;replace r:=r.bel X;replace g:=g.bel X;replace i:=i.bel X;have aQ:=Af (aN.out.below X);have aI:=Bf aj X;have ay:=Af X.size;have aG:=Af (DN 0);have⟨Z,Q,R,q1,p1,q2,p2,q3,p3⟩:=id r;have⟨J,I,p4,F,U,N,p6,H,Y⟩:=id g;have⟨E,q8,p8,q9,p9,ab,ac,aa,ad⟩:=id i)|(refine Gj rfl rfl (Sv.appM (f:=G8) (L:=C) (M:=K) (xs:=y1) (ys:=y2) (bs:=(w.heap.size+1+1)::bs) _ kd4 (aO.sub (λb D=>EP _ D) (λ_ h=>h)) (Ax Av) Av Qz (fY xBc) sN (by have:=lZ.out;have:=ay.out;have:=y.out;have:=z.out;omega) CX) rfl rfl ?_;rintro v6 w6⟨a6,c6,rfl,aD,aw,aF,iL⟩;have zJ:=iL (w.heap.size+1+1) E (λe=>by have h1:=y.out;have h2:=z.out;rcases S.out with h3|h3;(have:=bu.out _ (h3.symm.tr e);omega);(have G:u.heap.size<=_:=h3 _ e;omega));replace r:=r.gr aF (λe=>by have h1:=y.out;have h2:=z.out;rcases S.out with h3|h3;(have:=bu.out _ (h3.symm.tr e);omega);(have G:u.heap.size<=_:=h3 _ e;omega));replace g:=g.gr aF (λe=>by have h1:=y.out;have h2:=z.out;rcases S.out with h3|h3;(have:=bu.out _ (h3.symm.tr e);omega);(have G:u.heap.size<=_:=h3 _ e;omega));replace i:=i.gr aF (λe=>by have h1:=y.out;have h2:=z.out;rcases S.out with h3|h3;(have:=bu.out _ (h3.symm.tr e);omega);(have G:u.heap.size<=_:=h3 _ e;omega));have⟨Z,Q,R,q1,p1,q2,p2,q3,p3⟩:=id r;have⟨J,I,p4,F,U,N,p6,H,Y⟩:=id g;have⟨E,q8,p8,q9,p9,ab,ac,aa,ad⟩:=id i));all_goals
  try go_wp2
  rw[DV]at aw aD zJ;refine BH (v:=.agg #[AB k,AB 0,AG,AE a6 (C.length+K.length) c6]) (by simp[results,results179,go_sem,q8,q9,ab,aa]) rfl ?_;have aL:=((aw.snil).set4 (b:=w.heap.size+1+1) (o1:=0) (o2:=1) (o3:=2) (o4:=3) (x1:=AB k) (x2:=AB 0) (x3:=AG) (x4:=AE a6 (C.length+K.length) c6) BU).sub (cs:=ob (AE a6 (C.length+K.length) c6)++bs) (us:=[([sl []],[AG]),(Fh (C++K),y1++y2)]++ts) (λx l=>by simp only[FZ,EN]at l⊢;exact l.imp id .inr) B8;refine⟨⟨⟨k,⟨0,[]⟩,C++K⟩,AG,AE a6 (C.length+K.length) c6,y1++y2⟩,_,rfl,rfl,aL,⟨.head _,.tail _ Av,by rw[DV];exact Dk (Dk (Dk (Dk aD zJ) zJ) zJ) zJ⟩,?_,λq d=>?_⟩;{(repeat (refine O7 ?_ BS _));exact i6 ar aF (S.imp id λh q d=>by have G:u.heap.size<=q:=h q d;have:=y.out;have:=z.out;omega)};by_cases G:q<w3.heap.size;{by_cases h6:(Value.slice a1 C.length c1).b=some q;{rcases S.out with h7|h7;{exact .inl (h7.symm.tr h6)};have h8:u.heap.size<=q:=h7 q h6;exact .inr (.inr (by have:=y.out;have:=z.out;omega))};rw[DV]at iL;exact absurd d (iL q G h6)};exact .inr (.inr (by have:=ar.size;omega))
def Wi(w:AU):Γ->List SN->Value->Prop
 |[],[],v=>v=.pointer none
 |b::ls,s::ss,v=>v=AH b/\b<w.heap.size/\(w.cell? (AK b 0)=some (AB s.n.kind)/\w.cell? (AK b 1)=some (AB s.n.O.op)/\w.cell? (AK b 2)=some s.av/\w.cell? (AK b 3)=some s.kv)/\∃p,w.cell? (AK b 4)=some p/\Wi w ls ss p
 |_,_,_=>False
section
variable {w w':AU}{B:Nat}{ls bs:Γ}{ts us:Ao}{s:SN}{ss:List SN}{v:AW}
theorem Wi.kept{r:ε}(hg:w.grownBy w' r):∀{ls:Γ}{ss:List SN}{v:AW},Wi w ls ss v->(∀b∈ls,r≠some b)->Wi w' ls ss v
 |[],[],_,h,_=>h
 |b::ls,s::ss,v,h,d=>by
  obtain⟨e,a,⟨i,j,f,l⟩,p,k,g⟩:=h;have c:=d b BU;exact⟨e,DO a hg.size,⟨(Gt hg a c).tr i,(Gt hg a c).tr j,(Gt hg a c).tr f,(Gt hg a c).tr l⟩,p,(Gt hg a c).tr k,Wi.kept hg g (λx hx=>d x Cd)⟩
 |[],_::_,_,h,_=>h
 |_::_,[],_,h,_=>h
theorem Wi.below(h:Wi w ls ss v)(a:AO w w'):Wi w' ls ss v:=h.kept (cz a none) (λ_ _ e=>by cases e)
theorem Wi.cons(h:Wi w ls (s::ss) v):∃b a,ls=b::a/\v=AH b/\b<w.heap.size/\(w.cell? (AK b 0)=some (AB s.n.kind)/\w.cell? (AK b 1)=some (AB s.n.O.op)/\w.cell? (AK b 2)=some s.av/\w.cell? (AK b 3)=some s.kv)/\∃p,w.cell? (AK b 4)=some p/\Wi w a ss p:=by cases ls with|nil=>exact h.elim|cons b r=>exact⟨b,r,rfl,h⟩
theorem Wi.ptr(h:Wi w ls ss v):∃p,v=.pointer p:=by
 cases ls<;>cases ss
 .exact⟨none,h⟩
 .exact h.elim
 .exact h.elim
 exact⟨_,h.1⟩
def S4(u v:AW):Prop:=∀q,u.ownBlock=some q->v.ownBlock≠some q
abbrev rowsOf(ss:List SN):Γ:=ss.flatMap λs=>ob s.kv
structure Rz(w:AU)(B:Nat)(bs:List Nat)(ts:Ao)(ls:List Nat)(ss:List SN)(v:AW):Prop where
 link:Wi w ls ss v
 sv:Sv w (rowsOf ss++bs) ts
 oks:∀s∈ss,s.ok w B ts
 apart:(ss.map SN.kv).Pairwise S4
 free:∀b∈ls,b<w.heap.size/\∀s∈ss,s.kv.ownBlock≠some b
 off:∀s∈ss,∀q,s.kv.ownBlock=some q->q∉bs
theorem Rz.below(h:Rz w B bs ts ls ss v)(a:AO w w'):Rz w' B bs ts ls ss v:=
 ⟨h.link.below a,h.sv.bel a,λs d=>(h.oks s d).below a,h.apart,λb c=>⟨DO (h.free b c).1 a.size,(h.free b c).2⟩,h.off⟩
def Rz.low(h:Rz w B bs ts ls ss v):∀s∈ss,∀q,s.kv.ownBlock=some q->q<w.heap.size:=λs a q b=>((h.oks s a).row.lt q b).2
def e4{q:Nat}:q∈rowsOf ss↔∃s∈ss,s.kv.ownBlock=some q:=by simp only[rowsOf,List.mem_flatMap];exact⟨λ⟨s,a,b⟩=>⟨s,a,MP b⟩,λ⟨s,a,b⟩=>⟨s,a,by unfold ob;rw[b];exact .head _⟩⟩
def KG(st:Ξ)(w:AU)(B:Nat)(bs:Γ)(ts:Ao)(e:Ending)(w':AU):Prop:=∃(b:Nat)(ls:Γ)(ss:List SN)(us:Ao),e=.returned (AH b)/\ss.map SN.n=st/\Rz w' B bs (us++ts) (b::ls) ss (AH b)/\Below B w w'
theorem Rz.push{t:AZ}(h:Wi w ls ss v)(hS:Sv w (ob s.kv++(rowsOf ss++bs)) us)(g:s.ok w B us)(i:∀x∈ss,x.ok w B us)(k:(ss.map SN.kv).Pairwise S4)(l:∀x∈ss,S4 s.kv x.kv)(d:∀b∈ls,b<w.heap.size/\s.kv.ownBlock≠some b/\∀x∈ss,x.kv.ownBlock≠some b)(o:∀q,s.kv.ownBlock=some q->q∉bs)(j:∀x∈ss,∀q,x.kv.ownBlock=some q->q∉bs):
  Rz (w.alloc (.cells #[AB s.n.kind,AB s.n.O.op,s.av,s.kv,v] t)) B bs us (w.heap.size::ls) (s::ss) (AH w.heap.size):=by
 have c:=Aa w (.cells #[AB s.n.kind,AB s.n.O.op,s.av,s.kv,v] t);refine⟨⟨rfl,BU,⟨xAa,xAa,xAa,xAa⟩,v,xAa,h.below c⟩,?_,BA.2 ⟨g.below c,λx a=>(i x a).below c⟩,List.pairwise_cons.2 ⟨λy m=>by obtain⟨x,a,rfl⟩:=BM.1 m;exact l x a,k⟩,BA.2 ⟨⟨BU,λx a e=>?_⟩,λb f=>⟨DO (d b f).1 BU,BA.2 ⟨(d b f).2.1,(d b f).2.2⟩⟩⟩,BA.2 ⟨o,j⟩⟩
 .have:=hS.bel c;rw[rowsOf,List.flatMap_cons,EJ];exact this
 rcases BD.1 a with rfl|a
 .have:=(g.row.lt _ e).2;omega
 have:=((i x a).row.lt _ e).2;omega
end
def NH(op:Int)(ds:Ψ)(a:Δ)(c:Nat):SN:=⟨⟨1,⟨op,ds⟩,[]⟩,AE a ds.length c,AG,[]⟩
def SU{w:AU}{B:Nat}{bs:Γ}{ts:Ao}{op:Int}{ds:Ψ}{a:Δ}{c:Nat}(h:Sv w bs (([sl (Ih ds)],[AE a ds.length c])::ts)):Sv w bs ((([]:List Tr),([]:Θ))::([sl (Ih ds)],[AE a ds.length c])::ts)/\(NH op ds a c).ok w B ((([]:List Tr),([]:Θ))::([sl (Ih ds)],[AE a ds.length c])::ts):=
 ⟨h.nil,.tail _ Av,.head _,BJ _ _ _ _⟩
def Av4(i:Stil.Ar)(k:AW)(ls:Γ)(ss:List SN)(v:AW)(w:AU)(B:Nat)(bs:Γ)(ts:Ao)(f:Rz w B bs ts ls ss v)(r:Aq w k i.O.args)(o:i.fits)(z:i.code=1)(G:B<=w.heap.size):
  Calls prog 148 #[v,.agg #[AB i.code,AB i.O.op,k]] w (KG (Lt i.code i.O (ss.map SN.n)) w B bs ts):=by have y:=Af (λW(h:AO w W)J us L=>Kv i.O o.2.2.1 k W J us L (r.below h));obtain⟨M,I,rfl,-⟩:=r;obtain⟨c,op,d⟩:=i;simp only at y z⊢;subst z;obtain⟨O,rfl⟩:=f.link.ptr;have K:=Af (λW(h:AO w W)=>f.below h);have hS:=f.sv.alloc (.cells #[AB 1,AB op,AE M d.l I] 73);clear f o;go_enter func148,ntmps148;go_wp2_with(go_at_call 131;refine(y _ BV _ _ hS).mo ?_;rintro e j⟨g,m,rfl,hS,C⟩;have N:j.c (AL w 0)=some (AB 1):=(Gx C BU).tr xAa;have P:w.heap.size<j.heap.size:=Zi C BU;have E:AO w j:=BV);go_ret;have⟨H,F⟩:=SU (B:=B) (op:=op) (hS.alloc (.cells #[AB 1,AB op,AE g d.l m,AG] 63));have a:=K _ (Bi E (.cells #[AB 1,AB op,AE g d.l m,AG] 63));have A:=Rz.push (t:=200) a.link H F (λx D=>(a.oks x D).more λ_ h=>.tail _ (Ax h)) a.apart (λx D q l=>by cases l) (λb u=>⟨(a.free b u).1,(λe=>by cases e),(a.free b u).2⟩) (λq l=>by cases l) a.off;rw[BG]at A;exact⟨_,ls,NH op d g m::ss,[_,_],rfl,rfl,A,(Bi (Bi E _) _).mo G⟩
