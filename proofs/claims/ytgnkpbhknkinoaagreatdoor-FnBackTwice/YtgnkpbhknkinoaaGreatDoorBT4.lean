import Derived.Test.YtgnkpbhknkinoaaGreatDoorNT2
import Derived.Test.YtgnkpbhknkinoaaGreatDoorW14a
set_option linter.defProp false
set_option maxHeartbeats 4000000
set_option maxRecDepth 100000
namespace Go.Proofs.YtgnkpbhknkinoaaGreatDoor
open Tryz Stil Go.RowKit Go.Sort Go.BigFrame
def kb(k:Int)(m:Stil.DI)(B u:Nat)(L:List Stil.DI)(xs:List AW)(i f b:Option Ab)(l d e:Nat)(w:AU)(bs:List Nat)(ts:Ao)(h:Sv w (ob (AE i L.length l)++bs) ((Fb L,xs)::([Gy m],A3 m f d b e)::ts))(j:w.ownsRow u 56 4 (AE i L.length l) L.length xs)(y:u<=w.heap.size)(G:w.cell? (AK B 0)=some (AB k))(F:B<w.heap.size)(hl:L.length+m.K.length<=1900000):
  Calls prog 183 #[AE i L.length l, (A0 m f d b e),AH B] w (NH Gy 4 56 u (AE i L.length l) (L++Du k [m]) w bs ts):=by
 have a:=Aa w (A2 m f d b e 56);have hS:=h.bel a;replace j:=ownsRow_below j a;rw[O0];clear h;by_cases g:m.kind=k
 .rw[BR g];subst g;have⟨D,z,hS⟩:=hS.kidsOf (Ax Av);go_enter func183,ntmps183;go_wp2_with(at_builtin;go_loud (refine Bi rfl rfl (Sv.appM (M:=m.K) _ kd4 hS (Ax Av) Av Qv z j (DR y a.size) BS) rfl rfl ?_;rintro C A⟨t,o,rfl,r,q,n,-⟩));go_ret;exact⟨t,o,_,BU,r,q.sub (λ_ h=>h) (BA.2 ⟨.head _,λ_ h=>.tail _ (Ax (Ax (Ax h)))⟩),MA a n⟩
 rw[BQ g];have E:(m.kind==k)=false:=xAq;have H:=a.tr ((Aa (w.alloc (A2 m f d b e 56)) (A2 m f d b e 56)).mo a.size);go_enter func183,ntmps183;go_wp2_with(at_builtin;go_loud (refine Bi rfl rfl (Sv.pushM (x:=m) (c:=A3 m f d b e) _ kd4 hS Av (Ax Av) Qv j (DR y a.size) BS) rfl CM ?_;rintro C A⟨t,o,rfl,r,q,n,-⟩));go_ret;exact⟨t,o,_,BU,r,q.sub (λ_ h=>h) (BA.2 ⟨.head _,λ_ h=>.tail _ (Ax (Ax h))⟩),MA a n⟩
def Avm{k:Int}{l:List Stil.DI}{j:Nat}(h:j<l.length):(Du k (l.take j)).length+l[j].K.length<=Stil.sizes l:=by
 have b:=F5 (Du k (l.take j));have c:=Ld k (l.take j);have a:=XT l (j+1);rw[ER h,Om]at a;have d:=Dk l[j];have e:=F5 l[j].K;have f:Stil.sizes [l[j]]=Ac l[j]:=by simp[Stil.sizes]
 omega
def vg(k:Int)(B:Nat)(l:List Stil.DI)(a:Option Ab)(cap:Nat)(w:AU)(bs:List Nat)(ts:Ao)(h:Sv w bs ts)(G:([sl (Fb l)],[AE a l.length cap])∈ts)(hl:Stil.sizes l<=999999)(y:w.cell? (AK B 0)=some (AB k))(x:B<w.heap.size):
  Calls prog 181 #[AE a l.length cap,AG,.func (.func 183) #[] #[AH B]] w (GQ Gy 4 56 (Du k l) w bs ts):=by
 have U:=F5 l;have N:=Af y;clear y;go_enter func181,ntmps181;go_wp2;go_loopw [1,11] (λd i wr=>∃(j:Nat)(L:List Stil.DI)(ra:Option Ab)(rc:Nat)(xs:List AW),j<=l.length/\i=AB j/\d=AE ra L.length rc/\Hid (L=Du k (l.take j))/\wr.ownsRow w.z 56 4 (AE ra L.length rc) L.length xs/\Sv wr (ob (AE ra L.length rc)++bs) ((Fb L,xs)::ts)/\AO w wr) (λ_ i _=>l.length - (intOf i).toNat);case atStart=>exact⟨0,[],none,0,[],BS,rfl,rfl,rfl,BJ _ _ _ _,h.nil,BP _ _⟩
 case round=>have Y:=h.1;clear h;obtain⟨j,L,ra,rc,xs,T,rfl,rfl,HL,hown,hS,hb⟩:=hrel;by_cases q:j<l.length;{obtain⟨b,o,c,rfl,X,g,f⟩:=hS.at (Ax G) Qv q;(obtain⟨Q,A,C,O,rfl,-⟩:=g.opN Av;have z:=f 0 _ rfl;have H:=f 1 _ rfl;have P:=f 2 _ rfl;have D:=f 3 _ rfl;rw[IL]at z;have t:=@Avm k l j q;rw[<-HL.out]at t;have r:Hid (Du k (l.take (j+1))=L++Du k [l[j]]):=by show _=_;rw[HL.out,ER q,Md]);have⟨m,u⟩:=AA (l[j]);rw[<-u]at z H P D t r g;have E:=Af (λW(h:AO wr W)=>kb k m B w.z L xs ra Q C rc A O W bs ts ((g.bel h).sub (λ_ h=>h) (BA.2 ⟨.tail _ Av,BA.2 ⟨.head _,λ_ h=>.tail _ (Ax h)⟩⟩)) (ownsRow_below hown h) (DR hb.size h.size) (((Bd hb h).cell (p:=(AK B 0)) x).tr N.out) (DL x (DR hb.size h.size)) BS);clear u HL g f;go_wp2_with(go_at_call 183;refine(E _ BV).mo ?_;rintro e V⟨M,K,F,rfl,J,S,R⟩);exact⟨⟨j+1,L++Du k [m],M,K,F,BS,by go_num,BU,r.symm,J,S,((show AO w _ from BV).grown R yDe (λk I=>(hown.lt k I).1))⟩,EX⟩};exact z8
def WC(k:Int)(l:List Stil.DI)(a:Option Ab)(cap:Nat)(w:AU)(bs:List Nat)(ts:Ao)(h:Sv w bs ts)(f:([sl (Fb l)],[AE a l.length cap])∈ts)(hl:Stil.sizes l<=999999):
  Calls prog 166 #[AB k,AE a l.length cap] w (GV (Jk k (Du k l)) w bs ts):=by
 have hS:=(h.alloc (.cells #[AB k] 3)).box (.cells #[AB 0,AB 0,AG,AG] 56);rw[BG]at hS;have C:=h.1;have t:=Af (λW B F us D f(h:AO w W)h1 h2=>vg k B l a cap W F us D f hl h1 h2);have E:=Af f;have⟨L,A⟩:=AA (Du k l);rw[<-A]at t⊢;clear h hl A f;go_enter func166,ntmps166;go_upto_if 11 with(go_at_call 181;refine(t _ _ _ _ hS E BV AP Bw).mo ?_;rintro e q⟨M,N,xs,rfl,hown,hS,G⟩;obtain⟨Y,z,U,q1,p1,y,Q,u,p3⟩:Da q (w.heap.size+1) (AB 0) (AB 0) AG AG:=qB4;have X:q.c (AL w 0)=some (AB k):=(G.cell (p:=(AL w 0)) Bw).tr AP);have aa:AO w q:=BV;have R:w.heap.size+2<=(w.alloc (.cells #[AB k] 3)).heap.size+1:=BU;replace hown:=Joins.ownsRow_le (base':=w.heap.size+2) hown BU;clear t;by_cases h1:L.length=1
 .obtain⟨m,rfl⟩:=List.length_eq_one_iff.1 h1;obtain⟨c,r,rfl,hS⟩:=hS.fst Av;obtain⟨K,J,H,O,rfl,hS⟩:=hS.opN Av;have⟨g,c,x,_,ab,_,d⟩:=J9 hown BU;simp only[BN]at x;obtain⟨rfl,_,rfl⟩:=x;have V:=d 0 _ rfl;have y1:=d 1 _ rfl;have S:=d 2 _ rfl;have P:=d 3 _ rfl;clear d;go_wp2;refine BH (v:=A0 m K J H O) (by simp[results,results166,go_sem,z,q1,y,u]) rfl ?_;rw[show Jk k [m]=m from rfl];exact⟨_,_,_,_,rfl,(hS.set4 BU).sub B8 B8,BV⟩
 have I:Hid (Jk k L=⟨k,⟨0,[]⟩,L⟩):=dif_neg h1;have Z:((L.length:Int)==1)=false:=xAf;have T:¬((L.length:Int)=1):=BS;replace hS:=(hS.ice Av C4 (λb j=>by simp only[EK]at j;rcases j with rfl|j;omega;have:=C b j;omega)).snil;replace hS:=Sv.mkN (i:=k) (op:=0) (ds:=[]) hS Av (Ax Av);go_wp2;refine BH (v:=.agg #[AB k,AB 0,AG,AE M L.length N]) (by simp[results,results166,go_sem,z,q1,y,u]) rfl ?_;rw[I.out];exact⟨_,_,_,_,rfl,(hS.set4 BU).sub B8 B8,BV⟩
structure SN where
 n:Stil.DI
 av:AW
 kv:AW
 xs:List AW
abbrev SN.cells(s:SN):List AW:=[AB s.n.kind,AB s.n.O.op,s.av,s.kv]
abbrev SN.agg(s:SN):AW:=.agg #[AB s.n.kind,AB s.n.O.op,s.av,s.kv]
structure SN.ok(s:SN)(w:AU)(B:Nat)(ts:Ao):Prop where
 dev:([sl (H9 s.n.O.args)],[s.av])∈ts
 kid:(Fb s.n.K,s.xs)∈ts
 row:w.ownsRow B 56 4 s.kv s.n.K.length s.xs
section
variable {w w':AU}{B:Nat}{bs:List Nat}{ts us:Ao}{s:SN}
def SN.ok.below(h:s.ok w B ts)(a:AO w w'):s.ok w' B ts:=⟨h.dev,h.kid,ownsRow_below h.row a⟩
def SN.ok.more(h:s.ok w B ts)(hu:∀x∈ts,x∈us):s.ok w B us:=⟨hu _ h.dev,hu _ h.kid,h.row⟩
def SN.ok.kept{r:Option Nat}(h:s.ok w B ts)(hg:w.grownBy w' r)(hr:s.kv.ownBlock=none\/s.kv.ownBlock≠r):s.ok w' B ts:=⟨h.dev,h.kid,h.row.kept hg hr⟩
def SN.ok.forms(h:s.ok w B ts)(hS:Sv w bs us)(hu:∀x∈ts,x∈us):(∃a c,s.av=AE a s.n.O.args.length c)/\∃a c,s.kv=.slice a s.n.K.length c:=by have⟨a,c,b,_⟩:=(Iz.1 (hS.2 _ (hu _ h.dev))).slice;have⟨f,e,d,_⟩:=Js h.row;exact⟨⟨a,c,by simpa using b⟩,f,e,d⟩
def SN.ice(h:Sv w (ob s.kv++bs) ts)(a:s.ok w B ts)(e:∀b,s.kv.ownBlock=some b->b∉bs):Sv w bs (([Gy s.n],s.cells)::ts):=by have d:=h.ice2 a.kid (by rw[DZ];exact a.row) e;have c:=d.mkN (i:=s.n.kind) (op:=s.n.O.op) (ds:=s.n.O.args) (ns:=s.n.K) (Ax a.dev) Av;rw[SV]at c;exact c.sub (λ_ h=>h) (BA.2 ⟨.head _,λ_ h=>.tail _ (Ax h)⟩)
def SN.at(h:Sv w (ob s.kv++bs) ts)(d:s.ok w B ts)(e:∀b,s.kv.ownBlock=some b->b∉bs):Ar w s.av s.n.O.args/\Fe w s.kv s.n.K:=by have⟨_,_,_,_,a,c⟩:=(SN.ice h d e).opN Av;simp only[SN.cells,List.cons.injEq,true_and,Hh]at a;rw[a.1,a.2];exact⟨c.devs Av,c.nets (Ax Av)⟩
end
def PW(k:Int)(s:SN)(w:AU)(B:Nat)(bs:List Nat)(ts:Ao)(e:Ending)(w':AU):Prop:=∃a c b,e=.returned (.slice a (Stil.opn k s.n).length c)/\w'.ownsRow B 56 4 (.slice a (Stil.opn k s.n).length c) (Stil.opn k s.n).length b/\Sv w' (ob (.slice a (Stil.opn k s.n).length c)++bs) ((Fb (Stil.opn k s.n),b)::ts)/\AO w w'/\((Value.slice a (Stil.opn k s.n).length c).ownBlock=s.kv.ownBlock\/∀q,(Value.slice a (Stil.opn k s.n).length c).ownBlock=some q->w.heap.size<=q)
def XC(k:Int)(s:SN)(w:AU)(B:Nat)(bs:List Nat)(ts:Ao)(h:Sv w (ob s.kv++bs) ts)(a:s.ok w B ts)(y:B<=w.heap.size)(j:∀b,s.kv.ownBlock=some b->b∉bs):Calls prog 175 #[AB k,s.agg] w (PW k s w B bs ts):=by
 have⟨⟨f,g,o⟩,d,c,m⟩:=a.forms h λ_ h=>h;obtain⟨n,z,A,t⟩:=s;simp only[SN.agg]at o m a j h⊢;subst o m;unfold PW;unfold Stil.opn;by_cases i:n.kind=k
 .rw[BR i];subst i;have hS:=(h.alloc (A2 n f g d c 56)).sub (us:=(Fb n.K,t)::ts) (λ_ h=>h) (BA.2 ⟨a.kid,λ_ h=>h⟩);have l:=a.row.alloc (A2 n f g d c 56);clear h a j;go_enter func175,ntmps175;go_wp2;go_ret;exact⟨d,c,rfl,t,l,hS,BV,.inl rfl⟩
 rw[BQ i];have x:(n.kind==k)=false:=xAq;have r:=((SN.ice h a j).alloc (A2 n f g d c 56)).box (A2 n f g d c 56);have l:=World.ownsRow_lit (base:=B) (e:=56) (size:=4) (w.alloc (A2 n f g d c 56)) #[AB n.kind,AB n.O.op,AE f n.O.args.l g,AE d n.K.l c] 1 Bw CH rfl;rw[BG]at r l;clear h a j i;go_enter func175,ntmps175;go_wp2;go_ret;exact⟨some (AK (w.heap.size+1) 0),1,rfl,_,l,r,BV,.inr λq u=>by cases u;exact JJ _⟩
def Oy{w a:AU}{r:Option Nat}{b o:Nat}(h:w.grownBy a r)(e:w.heap.size<=b)(v:AW):w.grownBy (a.setCell (AK b o) v) r:=
 ⟨h.os,h.tape,h.output,by simpa using h.size,λk d c=>by
  rw[<-h.block k d c];simp only[World.setCell,JK]
  rw[BQ BS]⟩
def Az4{w w3 c:AU}{r a:Option Nat}(h:AO w w3)(hg:w3.grownBy c a)(hr:a=r\/∀q,a=some q->w.heap.size<=q):w.grownBy c r:=
 ⟨hg.os.tr h.os,hg.tape.tr h.tape,hg.output.tr h.output,DR h.size hg.size,λk b d=>(hg.block k (DL b h.size) (λe=>by
  rcases hr with hr|hr
  .exact d (by rw[e,hr])
  .have:=hr k e.symm
   omega)).tr (h.block k b)⟩
def cG{a b:AU}(h:AO a b)(r:Option Nat):a.grownBy b r:=grown_below h r
def Bai(n:Stil.DI)(w:AU)(B:Nat)(g a:Option Nat)(bs:List Nat)(ts:Ao)(e:Ending)(w':AU):Prop:=∃(s:SN)(us:Ao),s.n=n/\e=.returned s.agg/\Sv w' (ob s.kv++bs) (us++ts)/\s.ok w' B (us++ts)/\w.grownBy w' g/\∀q,s.kv.ownBlock=some q->g=some q\/a=some q\/w.heap.size<=q
def ML{v:AW}{q:Nat}(h:q∈ob v):v.ownBlock=some q:=by
 unfold ob at h;cases a:v.ownBlock with
 |none=>rw[a]at h;cases h
 |some p=>rw[a]at h;rw[BB.1 h]
def my{b:Nat}{A C bs:List Nat}(h:b∈A++(C++bs)):b∈C++(A++bs):=by
 simp only[FU]at h⊢;rcases h with h|h|h
 .exact .inr (.inl h)
 .exact .inl h
 exact .inr (.inr h)
def ti{n:Stil.DI}(b:n.kind=0->Ai n=true):Ai n=decide (n.kind=0):=by
 by_cases a:n.kind=0
 .rw[b a,FX a]
 rw[FM a];unfold Ai;simp[a]
def OS(k:Int)(a b:SN)(w:AU)(B:Nat)(bs:List Nat)(ts:Ao)(h:Sv w (ob a.kv++(ob b.kv++bs)) ts)(Q:a.ok w B ts)(O:b.ok w B ts)(hB:B<=w.heap.size)(af:∀q,a.kv.ownBlock=some q->q∉bs/\b.kv.ownBlock≠some q)(az:∀q,b.kv.ownBlock=some q->q∉bs)(Z:Ac a.n+Ac b.n<=900000)(ap:Cj a.n)(hz:a.n.kind=0->Ai a.n=true):Calls prog 151 #[AB k,a.agg,b.agg] w (Bai (Gw k a.n b.n) w B a.kv.ownBlock b.kv.ownBlock bs ts):=by
 have aw:∀q,a.kv.b=some q->q<w.heap.size:=λq d=>(Q.row.lt q d).2;have al:∀q,b.kv.b=some q->q<w.heap.size:=λq d=>(O.row.lt q d).2;have⟨hd,hk⟩:=SN.at h Q (λq d c=>(BI.1 c).elim (λc=>(af q d).2 (ML c)) (af q d).1);have jY:=Af (λW(h:AO w W)=>Us a.n a.av a.kv W (hd.below h) (hk.below h) ap);rw[ti hz]at jY;have⟨⟨u0,m0,ea⟩,u1,m1,eb⟩:=Q.forms h λ_ h=>h;have⟨⟨u2,m2,ec⟩,u3,m3,ed⟩:=O.forms h λ_ h=>h;have aj:(Stil.opn k a.n).length+(Stil.opn k b.n).length<=900000:=by have h1:=Qy k a.n;have h2:=Qy k b.n;have h3:=F5 (Stil.opn k a.n);have h4:=F5 (Stil.opn k b.n);omega
 have⟨W,A⟩:=AA (((w.alloc (.cells #[AB a.n.kind,AB a.n.O.op,a.av,a.kv] 56)).alloc (.cells #[AB b.n.kind,AB b.n.O.op,b.av,b.kv] 56)).alloc (.cells #[AB 0,AB 0,AG,AG] 56));have hS:Sv W (ob a.kv++(ob b.kv++(w.heap.size+1+1)::bs)) ts:=by rw[A];have:=((h.alloc (.cells #[AB a.n.kind,AB a.n.O.op,a.av,a.kv] 56)).alloc (.cells #[AB b.n.kind,AB b.n.O.op,b.av,b.kv] 56)).box (.cells #[AB 0,AB 0,AG,AG] 56);rw[BG,BG]at this;exact this.sub (λx l=>by simp only[FU,EK]at l⊢;rcases l with l|l|l|l;exact .inr (.inl l);exact .inr (.inr (.inl l));exact .inl l;exact .inr (.inr (.inr l))) λ_ h=>h
 have ag:AO w W:=by rw[A];exact Bz (Bz (Aa _ _) _) _
 have aE:W.heap.size=w.heap.size+3:=by rw[A];simp
 have r:Da W w.heap.size (AB a.n.kind) (AB a.n.O.op) a.av a.kv:=by rw[A];exact qN4
 have g:Da W (w.heap.size+1) (AB b.n.kind) (AB b.n.O.op) b.av b.kv:=by rw[A];exact qN4
 have i:Da W (w.heap.size+1+1) (AB 0) (AB 0) AG AG:=by rw[A];exact qN4
 have qp:=Q.below ag;have F:=O.below ag;clear h;obtain⟨an,aW,aX,aJ⟩:=a;obtain⟨j,aY,aV,ar⟩:=b;simp only[SN.agg] at*;subst ea eb ec ed;by_cases h0:an.kind=0
 .rw[FX h0]at jY;rw[Gw,BR h0];clear hd hk Q O qp aj hz ap Z h0;go_enter func151,ntmps151;go_upto_region 1 with fail;rw[<-A];clear A;have⟨ab,q0,p0,q1,p1,q2,R,q3,p3⟩:=id r;have⟨D,N,p4,P,U,I,p6,H,X⟩:=id g;have⟨J,S,p8,Y,p9,aa,ad,ac,ae⟩:=id i;go_wp2_with(go_at_call 131;refine(jY _ BV).mo ?_;rintro e t⟨rfl,m⟩;replace g:=g.bel m;replace i:=i.bel m;replace hS:=hS.bel m;replace F:=F.below m;have ak:=Bd ag m;have⟨ab,q0,p0,q1,p1,q2,R,q3,p3⟩:=id g;have⟨D,N,p4,P,U,I,p6,H,X⟩:=id i);refine BH (v:=A0 j u2 m2 u3 m3) (by simp[results,results151,go_sem,N,P,I,H]) rfl ?_;have ai:(Value.slice u3 j.K.length m3).b≠some (w.heap.size+1+1):=λe=>by have:=al _ e;omega
  refine⟨⟨j,_,_,ar⟩,[],rfl,rfl,(hS.set4 BU).sub (λx l=>?_) λ_ h=>h,⟨F.dev,F.kid,Di (Di (Di (Di F.row ai) ai) ai) ai⟩,?_,λq d=>.inr (.inl d)⟩;{simp only[FU,EK]at l⊢;exact .inr (l.imp id .inr)};repeat (refine Oy ?_ BS _)
  exact cG ak _
 rw[FM h0]at jY;rw[Gw,BQ h0];have je:=Af (λu cs us hS Z hB hn=>XC k ⟨an,AE u0 an.O.args.length m0,AE u1 an.K.length m1,aJ⟩ u B cs us hS Z hB hn);have ah:=Af (λu cs us hS Z hB hn=>XC k ⟨j,AE u2 j.O.args.length m2,AE u3 j.K.length m3,ar⟩ u B cs us hS Z hB hn);have HP:Hid (Jr k an j=⟨k,⟨0,[]⟩,Stil.opn k an++Stil.opn k j⟩):=rfl;unfold PW at je ah;simp only[SN.agg]at je ah;obtain⟨C,aA⟩:∃ao,ao=Stil.opn k an:=⟨_,rfl⟩;obtain⟨E,aF⟩:∃ao,ao=Stil.opn k j:=⟨_,rfl⟩;rw[<-aA]at je HP aj;rw[<-aF]at ah HP aj;rw[HP.out];have vz:=Af af;have aI:=Af az;have zV:=Af aw;have dX:=Af al;have aM:=Af qp;have aT:=Af F;have y:=Af aE;clear hd hk Q O hz ap Z h0 aA aF HP af az aw al qp F;go_enter func151,ntmps151;go_upto_region 1 with fail;rw[<-A];clear A aE;have⟨ab,q0,p0,q1,p1,q2,R,q3,p3⟩:=id r;have⟨D,N,p4,P,U,I,p6,H,X⟩:=id g;have⟨J,S,p8,Y,p9,aa,ad,ac,ae⟩:=id i;go_upto_region 3 with(go_at_call 131;refine(jY _ BV).mo ?_;rintro e t⟨rfl,m⟩;replace r:=r.bel m;replace g:=g.bel m;replace i:=i.bel m;replace hS:=hS.bel m;have ak:=Bd ag m;have aR:=Af (aM.below m);have aK:=Af (aT.below m);have z:=Af m.size;clear m;have⟨ab,q0,p0,q1,p1,q2,R,q3,p3⟩:=id r;have⟨D,N,p4,P,U,I,p6,H,X⟩:=id g;have⟨J,S,p8,Y,p9,aa,ad,ac,ae⟩:=id i);go_region_held3 (λu=>(u.c (AL w 0)=some (AB an.kind)/\u.c (AL w 1)=some (AB an.O.op)/\u.c (AL w 2)=some (AE u0 an.O.args.length m0)/\u.c (AL w 3)=some (AE u1 an.K.length m1)/\u.c (AK (w.heap.size+1) 0)=some (AB j.kind)/\u.c (AK (w.heap.size+1) 1)=some (AB j.O.op)/\u.c (AK (w.heap.size+1) 2)=some (AE u2 j.O.args.length m2)/\u.c (AK (w.heap.size+1) 3)=some (AE u3 j.K.length m3))) (first|with_reducible assumption|(refine⟨?_,?_,?_,?_,?_,?_,?_,?_⟩<;>exact CU)) (first|(have _:=aB;go_at_call 175;refine(ah.out _ (ob (AE a1 C.length c1)++(w.heap.size+1+1)::bs) _ (aD.sub (λ_ h=>my h) (λ_ h=>h)) ((aN.out).more (λ_ h=>.tail _ h)) (by have:=ay.out;have:=z.out;have:=y.out;omega) (λq d c=>by have h1:=dX.out q d;have h2:=z.out;have h3:=y.out;rcases BI.1 c with c|c;(rcases G with G|G;exact(vz.out q (G.symm.tr (ML c))).2 d;(have K:t.heap.size<=q:=G q (ML c);omega));(rcases BD.1 c with c|c;omega;exact aI.out q d c))).mo ?_;rintro e w3⟨a2,c2,y2,rfl,aO,aS,T,aZ⟩;replace r:=r.bel T;replace g:=g.bel T;replace i:=i.bel T;have sD:=ownsRow_below aH T;have au:=Bd aQ T;have pU:=Af T.size;have V:=Af G;clear aB G aH aD;have⟨ab,q0,p0,q1,p1,q2,R,q3,p3⟩:=id r;have⟨D,N,p4,P,U,I,p6,H,X⟩:=id g;have⟨J,S,p8,Y,p9,aa,ad,ac,ae⟩:=id i)|(go_at_call 175;refine(je.out _ (ob (AE u3 j.K.length m3)++(w.heap.size+1+1)::bs) _ hS.drew ((aR.out).below (BP _ t).drew) (by have:=z.out;have:=y.out;show _<=t.heap.size;omega) (λq d c=>by have h1:=zV.out q d;have h2:=z.out;have h3:=y.out;rcases BI.1 c with c|c;exact(vz.out q d).2 (ML c);(rcases BD.1 c with c|c;omega;exact(vz.out q d).1 c))).mo ?_;rintro e w2⟨a1,c1,y1,rfl,aH,aD,aU,G⟩;have gK:=Bd (BP t.heap.size t).drew aU;replace r:=r.bel gK;replace g:=g.bel gK;replace i:=i.bel gK;have aN:=Af (aK.out.below gK);have aQ:=Bd ak gK;have ay:=Af gK.size;have aB:=Af (DK 0);have⟨ab,q0,p0,q1,p1,q2,R,q3,p3⟩:=id r;have⟨D,N,p4,P,U,I,p6,H,X⟩:=id g;have⟨J,S,p8,Y,p9,aa,ad,ac,ae⟩:=id i)|(refine Gf rfl rfl (Sv.appM (f:=Gy) (L:=C) (M:=E) (xs:=y1) (ys:=y2) (bs:=(w.heap.size+1+1)::bs) _ kd4 (aS.sub (λb O=>EM _ O) (λ_ h=>h)) (Ax Av) Av Qv (eV xAz) sD (by have:=pU.out;have:=ay.out;have:=z.out;have:=y.out;omega) CW) rfl rfl ?_;rintro v6 w6⟨a6,c6,rfl,aG,ax,aC,iF⟩;have yU:=iF (w.heap.size+1+1) J (λe=>by have h1:=z.out;have h2:=y.out;rcases V.out with h3|h3;(have:=zV.out _ (h3.symm.tr e);omega);(have K:t.heap.size<=_:=h3 _ e;omega));replace r:=r.gr aC (λe=>by have h1:=z.out;have h2:=y.out;rcases V.out with h3|h3;(have:=zV.out _ (h3.symm.tr e);omega);(have K:t.heap.size<=_:=h3 _ e;omega));replace g:=g.gr aC (λe=>by have h1:=z.out;have h2:=y.out;rcases V.out with h3|h3;(have:=zV.out _ (h3.symm.tr e);omega);(have K:t.heap.size<=_:=h3 _ e;omega));replace i:=i.gr aC (λe=>by have h1:=z.out;have h2:=y.out;rcases V.out with h3|h3;(have:=zV.out _ (h3.symm.tr e);omega);(have K:t.heap.size<=_:=h3 _ e;omega));have⟨ab,q0,p0,q1,p1,q2,R,q3,p3⟩:=id r;have⟨D,N,p4,P,U,I,p6,H,X⟩:=id g;have⟨J,S,p8,Y,p9,aa,ad,ac,ae⟩:=id i));all_goals
  try go_wp2
  rw[DT]at ax aG yU;refine BH (v:=.agg #[AB k,AB 0,AG,AE a6 (C.length+E.length) c6]) (by simp[results,results151,go_sem,S,Y,aa,ac]) rfl ?_;have aL:=((ax.snil).set4 (b:=w.heap.size+1+1) (o1:=0) (o2:=1) (o3:=2) (o4:=3) (x1:=AB k) (x2:=AB 0) (x3:=AG) (x4:=AE a6 (C.length+E.length) c6) BU).sub (cs:=ob (AE a6 (C.length+E.length) c6)++bs) (us:=[([sl []],[AG]),(Fb (C++E),y1++y2)]++ts) (λx l=>by simp only[FU,EK]at l⊢;exact l.imp id .inr) B8;refine⟨⟨⟨k,⟨0,[]⟩,C++E⟩,AG,AE a6 (C.length+E.length) c6,y1++y2⟩,_,rfl,rfl,aL,⟨.head _,.tail _ Av,by rw[DT];exact Di (Di (Di (Di aG yU) yU) yU) yU⟩,?_,λq d=>?_⟩;{(repeat (refine Oy ?_ BS _));exact Az4 au aC (V.imp id λh q d=>by have K:t.heap.size<=q:=h q d;have:=z.out;have:=y.out;omega)};by_cases K:q<w3.heap.size;{by_cases h6:(Value.slice a1 C.length c1).b=some q;{rcases V.out with h7|h7;{exact .inl (h7.symm.tr h6)};have h8:t.heap.size<=q:=h7 q h6;exact .inr (.inr (by have:=z.out;have:=y.out;omega))};rw[DT]at iF;exact absurd d (iF q K h6)};exact .inr (.inr (by have:=au.size;omega))
def V9(w:AU):List Nat->List SN->Value->Prop
 |[],[],v=>v=.pointer none
 |b::ls,s::ss,v=>v=AH b/\b<w.heap.size/\(w.cell? (AK b 0)=some (AB s.n.kind)/\w.cell? (AK b 1)=some (AB s.n.O.op)/\w.cell? (AK b 2)=some s.av/\w.cell? (AK b 3)=some s.kv)/\∃p,w.cell? (AK b 4)=some p/\V9 w ls ss p
 |_,_,_=>False
section
variable {w w':AU}{B:Nat}{ls bs:List Nat}{ts us:Ao}{s:SN}{ss:List SN}{v:AW}
theorem V9.kept{r:Option Nat}(hg:w.grownBy w' r):∀{ls:List Nat}{ss:List SN}{v:AW},V9 w ls ss v->(∀b∈ls,r≠some b)->V9 w' ls ss v
 |[],[],_,h,_=>h
 |b::ls,s::ss,v,h,d=>by
  obtain⟨g,a,⟨k,l,f,e⟩,p,i,j⟩:=h;have c:=d b BU;exact⟨g,DL a hg.size,⟨(Gm hg a c).tr k,(Gm hg a c).tr l,(Gm hg a c).tr f,(Gm hg a c).tr e⟩,p,(Gm hg a c).tr i,V9.kept hg j (λx hx=>d x CZ)⟩
 |[],_::_,_,h,_=>h
 |_::_,[],_,h,_=>h
theorem V9.below(h:V9 w ls ss v)(a:AO w w'):V9 w' ls ss v:=h.kept (cG a none) (λ_ _ e=>by cases e)
theorem V9.cons(h:V9 w ls (s::ss) v):∃b a,ls=b::a/\v=AH b/\b<w.heap.size/\(w.cell? (AK b 0)=some (AB s.n.kind)/\w.cell? (AK b 1)=some (AB s.n.O.op)/\w.cell? (AK b 2)=some s.av/\w.cell? (AK b 3)=some s.kv)/\∃p,w.cell? (AK b 4)=some p/\V9 w a ss p:=by cases ls with|nil=>exact h.elim|cons b r=>exact⟨b,r,rfl,h⟩
theorem V9.ptr(h:V9 w ls ss v):∃p,v=.pointer p:=by
 cases ls<;>cases ss
 .exact⟨none,h⟩
 .exact h.elim
 .exact h.elim
 exact⟨_,h.1⟩
def SX(u v:AW):Prop:=∀q,u.ownBlock=some q->v.ownBlock≠some q
abbrev rowsOf(ss:List SN):List Nat:=ss.flatMap λs=>ob s.kv
structure Rw(w:AU)(B:Nat)(bs:List Nat)(ts:Ao)(ls:List Nat)(ss:List SN)(v:AW):Prop where
 link:V9 w ls ss v
 sv:Sv w (rowsOf ss++bs) ts
 oks:∀s∈ss,s.ok w B ts
 apart:(ss.map SN.kv).Pairwise SX
 free:∀b∈ls,b<w.heap.size/\∀s∈ss,s.kv.ownBlock≠some b
 off:∀s∈ss,∀q,s.kv.ownBlock=some q->q∉bs
theorem Rw.below(h:Rw w B bs ts ls ss v)(a:AO w w'):Rw w' B bs ts ls ss v:=
 ⟨h.link.below a,h.sv.bel a,λs d=>(h.oks s d).below a,h.apart,λb c=>⟨DL (h.free b c).1 a.size,(h.free b c).2⟩,h.off⟩
def Rw.low(h:Rw w B bs ts ls ss v):∀s∈ss,∀q,s.kv.ownBlock=some q->q<w.heap.size:=λs a q b=>((h.oks s a).row.lt q b).2
def cg{q:Nat}:q∈rowsOf ss↔∃s∈ss,s.kv.ownBlock=some q:=by simp only[rowsOf,List.mem_flatMap];exact⟨λ⟨s,a,b⟩=>⟨s,a,ML b⟩,λ⟨s,a,b⟩=>⟨s,a,by unfold ob;rw[b];exact .head _⟩⟩
def KD(st:List Stil.DI)(w:AU)(B:Nat)(bs:List Nat)(ts:Ao)(e:Ending)(w':AU):Prop:=∃(b:Nat)(ls:List Nat)(ss:List SN)(us:Ao),e=.returned (AH b)/\ss.map SN.n=st/\Rw w' B bs (us++ts) (b::ls) ss (AH b)/\Below B w w'
theorem Rw.push{t:AZ}(h:V9 w ls ss v)(hS:Sv w (ob s.kv++(rowsOf ss++bs)) us)(g:s.ok w B us)(i:∀x∈ss,x.ok w B us)(j:(ss.map SN.kv).Pairwise SX)(l:∀x∈ss,SX s.kv x.kv)(f:∀b∈ls,b<w.heap.size/\s.kv.ownBlock≠some b/\∀x∈ss,x.kv.ownBlock≠some b)(k:∀q,s.kv.ownBlock=some q->q∉bs)(m:∀x∈ss,∀q,x.kv.ownBlock=some q->q∉bs):
  Rw (w.alloc (.cells #[AB s.n.kind,AB s.n.O.op,s.av,s.kv,v] t)) B bs us (w.heap.size::ls) (s::ss) (AH w.heap.size):=by
 have c:=Aa w (.cells #[AB s.n.kind,AB s.n.O.op,s.av,s.kv,v] t);refine⟨⟨rfl,BU,⟨AP,AP,AP,AP⟩,v,AP,h.below c⟩,?_,BA.2 ⟨g.below c,λx a=>(i x a).below c⟩,List.pairwise_cons.2 ⟨λy o=>by obtain⟨x,a,rfl⟩:=BM.1 o;exact l x a,j⟩,BA.2 ⟨⟨BU,λx a e=>?_⟩,λb d=>⟨DL (f b d).1 BU,BA.2 ⟨(f b d).2.1,(f b d).2.2⟩⟩⟩,BA.2 ⟨k,m⟩⟩
 .have:=hS.bel c;rw[rowsOf,List.flatMap_cons,EG];exact this
 rcases BD.1 a with rfl|a
 .have:=(g.row.lt _ e).2;omega
 have:=((i x a).row.lt _ e).2;omega
end
def ND(op:Int)(ds:List Stil.DN)(a:Option Ab)(c:Nat):SN:=⟨⟨1,⟨op,ds⟩,[]⟩,AE a ds.length c,AG,[]⟩
def SR{w:AU}{B:Nat}{bs:List Nat}{ts:Ao}{op:Int}{ds:List Stil.DN}{a:Option Ab}{c:Nat}(h:Sv w bs (([sl (H9 ds)],[AE a ds.length c])::ts)):Sv w bs ((([]:List Tr),([]:List AW))::([sl (H9 ds)],[AE a ds.length c])::ts)/\(ND op ds a c).ok w B ((([]:List Tr),([]:List AW))::([sl (H9 ds)],[AE a ds.length c])::ts):=
 ⟨h.nil,.tail _ Av,.head _,BJ _ _ _ _⟩
def Avf(i:Stil.Aw)(l:AW)(ls:List Nat)(ss:List SN)(v:AW)(w:AU)(B:Nat)(bs:List Nat)(ts:Ao)(d:Rw w B bs ts ls ss v)(A:Ar w l i.O.args)(E:i.fits)(r:i.code=1)(J:B<=w.heap.size):
  Calls prog 113 #[v,.agg #[AB i.code,AB i.O.op,l]] w (KD (Lr i.code i.O (ss.map SN.n)) w B bs ts):=by have o:=Af (λW(h:AO w W)I us F=>Kt i.O E.2.2.1 l W I us F (A.below h));obtain⟨K,H,rfl,-⟩:=A;obtain⟨c,op,f⟩:=i;simp only at o r⊢;subst r;obtain⟨N,rfl⟩:=d.link.ptr;have G:=Af (λW(h:AO w W)=>d.below h);have hS:=d.sv.alloc (.cells #[AB 1,AB op,AE K f.l H] 77);clear d E;go_enter func113,ntmps113;go_wp2_with(go_at_call 114;refine(o _ BV _ _ hS).mo ?_;rintro e g⟨j,m,rfl,hS,z⟩;have O:g.c (AL w 0)=some (AB 1):=(Gu z BU).tr AP;have P:w.heap.size<g.heap.size:=Zb z BU;have D:AO w g:=BV);go_ret;have⟨M,L⟩:=SR (B:=B) (op:=op) (hS.alloc (.cells #[AB 1,AB op,AE j f.l m,AG] 56));have a:=G _ (Bz D (.cells #[AB 1,AB op,AE j f.l m,AG] 56));have u:=Rw.push (t:=157) a.link M L (λx y=>(a.oks x y).more λ_ h=>.tail _ (Ax h)) a.apart (λx y q k=>by cases k) (λb C=>⟨(a.free b C).1,(λe=>by cases e),(a.free b C).2⟩) (λq k=>by cases k) a.off;rw[BG]at u;exact⟨_,ls,ND op f j m::ss,[_,_],rfl,rfl,u,(Bz (Bz D _) _).mo J⟩
