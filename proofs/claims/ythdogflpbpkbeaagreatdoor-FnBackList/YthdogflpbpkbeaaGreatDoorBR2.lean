import Derived.Test.YthdogflpbpkbeaaGreatDoorBT6
import Derived.Test.YthdogflpbpkbeaaGreatDoorGe
import Derived.Maps.OwnIn
set_option linter.defProp false
set_option maxHeartbeats 8000000
set_option maxRecDepth 100000
namespace Go.Proofs.YthdogflpbpkbeaaGreatDoor
open Tryz Stil Go.RowKit Go.Sort Go.BigFrame
def notS(s:SN)(n:Nat):SN:=⟨⟨4,⟨0,[]⟩,[s.n]⟩,AG,AE (some (AK n 0)) 1 1,s.cells⟩
def Rz.not{V:AU}{B:Nat}{ls f bs:Γ}{ts:Ao}{s:SN}{r:List SN}{v p:AW}(t:AZ)(h:Rz V B bs ts ls (s::r) v)(hl:Wi V f r p)(i:∀x∈f,x∈ls)(w:B<=V.heap.size):
  Rz ((V.alloc (.cells #[AB s.n.kind,AB s.n.O.op,s.av,s.kv] 63)).alloc (.cells #[AB 4,AB 0,AG,AE (some (AL V 0)) 1 1,p] t)) B bs ([([sl []],[AG]),([G8 s.n],s.cells)]++ts) ((V.heap.size+1)::f) (notS s V.heap.size::r) (AH (V.heap.size+1)):=by
 have g:=Aa V (.cells #[AB s.n.kind,AB s.n.O.op,s.av,s.kv] 63);have hS:=((SN.ice h.head (h.oks s Av) h.notIn).box (.cells #[AB s.n.kind,AB s.n.O.op,s.av,s.kv] 63)).snil;have l:=h.apart;rw[DZ,ga]at l;have u:=World.ownsRow_lit (base:=B) (e:=63) (size:=4) V #[AB s.n.kind,AB s.n.O.op,s.av,s.kv] 1 w CH rfl;have m:=Rz.push (t:=t) (s:=notS s V.heap.size) (hl.below g) hS ⟨.head _,.tail _ Av,u⟩ (λx c=>((h.oks x (Ax c)).more λ_ h=>.tail _ (Ax h)).below g) l.2 (λx c q j e=>?_) (λb d=>⟨DO (h.free b (i b d)).1 g.size,λe=>?_,λx c=>(h.free b (i b d)).2 x (Ax c)⟩) (λq j d=>?_) (λx c=>h.off x (Ax c))
 .rw[BG]at m;exact m
 .cases j;exact absurd (h.low x (Ax c) _ e) (K4 _)
 .cases e;exact absurd (h.free _ (i _ d)).1 (K4 _)
 cases j;exact absurd (h.bsLt _ d) (K4 _)
def Avz(i:Stil.Ar)(u:AW)(ls:Γ)(s:SN)(r:List SN)(v:AW)(w:AU)(B:Nat)(bs:Γ)(ts:Ao)(d:Rz w B bs ts ls (s::r) v)(z:Aq w u i.O.args)(x:i.fits)(F:i.code=6)(q:B<=w.heap.size):
  Calls prog 148 #[v,.agg #[AB i.code,AB i.O.op,u]] w (KG (Lt i.code i.O ((s::r).map SN.n)) w B bs ts):=by
 have m:=Af (λW(h:AO w W)X us Y=>Kv i.O x.2.2.1 u W X us Y (z.below h));obtain⟨u0,S,rfl,-⟩:=z;have⟨⟨L,C,E⟩,M,H,y⟩:=(d.oks s Av).forms d.sv λ_ h=>h;obtain⟨n,wS,wR,O⟩:=s;simp only at E y;subst E y;obtain⟨c,op,D⟩:=i;simp only at m F⊢;subst F;have J:=Af (λW(h:AO w W)=>d.below h);have hS:=d.sv.alloc (.cells #[AB 6,AB op,AE u0 D.l S] 73);obtain⟨b,T,rfl,rfl,aa,-,-⟩:=d.link.cons;clear d x;go_enter func148,ntmps148;go_upto_region 13 with(go_at_call 131;refine(m _ BV _ _ hS).mo ?_;rintro e f⟨U,c1,rfl,-,G⟩;have N:f.c (AL w 0)=some (AB 6):=(Gx G BU).tr xAa;have R:w.z<f.z:=Zi G BU;have I:AO w f:=BV);have⟨V,l⟩:=AA (f.alloc (.cells #[AB 1,AB op,AE U D.l c1,AG] 63));rw[<-l];have g:AO w V:=by rw[l];exact Bi I _
 have j:=J V g;have⟨_,_,e,_,fV,⟨g0,g1,g2,g3⟩,p,g4,t⟩:=j.link.cons;cases e;obtain⟨Z,rfl⟩:=t.ptr;have K:=Af (And.intro (j.not 200 t (λ_ h=>.tail _ h) (DU q g.size)) ((Bi (Bi g (A2 n L C M H 63)) (.cells #[AB 4,AB 0,AG,AE (some (AL V 0)) 1 1,.pointer Z] 200)).mo q));clear l J m hS N I R j t g q;go_region;all_goals go_wp2;go_ret;exact⟨_,T,notS ⟨n,AE L n.O.args.l C,AE M n.K.l H,O⟩ V.z::r,[_,_],rfl,rfl,K.1.below (BP _ _).drew,K.2.drew⟩
def zm0{p:Prop}(h:p:=by exfalso;rcases (by omega:i.code=2\/i.code=3\/i.code=4\/i.code=5\/i.code=6) with e | e | e | e | e<;>rw[e]at hn<;>exact absurd hn BX):p:=h
def zr0{p:Prop}(h:p:=by exfalso;rcases (by omega:i.code=4\/i.code=5) with e | e<;>rw[e]at hn<;>exact absurd (show(2:Int)<=1 from hn) BX):p:=h
def vn(i:Stil.Ar)(b:AW)(ls:Γ)(j:List SN)(v:AW)(w:AU)(B k:Nat)(bs:Γ)(ts:Ao)(g:Rz w B bs ts ls j v)(d:Aq w b i.O.args)(c:i.fits)(h1:1<=i.code)(F:i.code<7)(hn:Stil.needs i.code<=(j.length:Int))(z:GH k (j.map SN.n))(G:k<=800000)(f:B<=w.heap.size):
  Calls prog 148 #[v,.agg #[AB i.code,AB i.O.op,b]] w (KG (Lt i.code i.O (j.map SN.n)) w B bs ts):=by
 obtain⟨u,s⟩:=z;by_cases y:i.code=1
 .exact Av4 i b ls j v w B bs ts g d c y f
 cases j with
 |nil=>exact zm0|cons m r=>rw[DZ,F6]at s;have q:=u m.n BU;by_cases x:i.code=2;{exact Av3 i b ls m r v w B bs ts g d c x q BS f};by_cases C:i.code=3;{exact Av2 i b ls m r v w B bs ts g d c C q BS f};by_cases E:i.code=6;{exact Avz i b ls m r v w B bs ts g d c E f};cases r with|nil=>exact zr0|cons l r=>rw[DZ,F6]at s;have t:=u l.n BU;by_cases D:i.code=4;{exact Av1 i b ls m l r v w B bs ts g d c D t BS f};exact Av0 i b ls m l r v w B bs ts g d c BS t BS f
variable {A W a w' w0 wE:AU}{B P Q k n o:Nat}{bs ls:Γ}{r:ε}{v:AW}
def NN{L r:AP}{i:Stil.Ar}(h:i::r<:+L):∃J,J=L.length - (i::r).length/\J+1=L.length - r.length/\∃f:J<L.length,L[J]=i:=by
 have c:=h.length_le;simp only[DT]at c;refine⟨_,rfl,yBf,yBf,?_⟩;have e:=List.suffix_iff_eq_drop.1 h;have b:=GL (l:=L) (i:=L.length - (i::r).length) yBf;rw[<-e]at b;injection b with d _
 exact d.symm
def MJ{p:Prop}(h:p):Hid p:=h
def JR{a:Ab}:W.drew.cell? a=W.cell? a:=rfl
theorem Tc{w b:AU}(h:w.grownBy a r)(c:Below n a b)(f:w.heap.size<=n):w.grownBy b r:=
 ⟨c.os.tr h.os,c.tape.tr h.tape,c.output.tr h.output,DU h.size c.size,λk d e=>(c.block k (DO d f)).tr (h.block k d e)⟩
theorem Vt{w:AU}{r:Nat}(h:w.grownBy a (some r))(o:Nat)(v:AW):w.grownBy (a.setCell (AK r o) v) (some r):=by refine⟨h.os,h.tape,h.output,by simpa using h.size,λk d b=>?_⟩;have c:r≠k:=λe=>b (by rw[e]);have:=((BP (k+1) a)).block k (EQ _);refine Eq.tr ?_ (h.block k d b);unfold World.setCell;simp[JP,c]
theorem grown_of{b:AU}(h:AO a b)(r:ε):a.grownBy b r:=⟨h.os,h.tape,h.output,h.size,λk c _=>h.block k c⟩
def OJ{b c:AU}(h:AO a b)(k:b.grownBy c r):a.grownBy c r:=
 ⟨k.os.tr h.os,k.tape.tr h.tape,k.output.tr h.output,DU h.size k.size,λj d e=>(k.block j (DO d h.size) e).tr (h.block j d)⟩
theorem Zb{N:Nat}:∀{b:Ek}{l r:AP},Stil.Ip (Stil.Wl N [Ha]) b l r->b.length<=l.length
 |[],_,_,h=>by simp[Stil.Ip]at h
 |_::_,[],_,h=>by simp[Stil.Ip]at h
 |y::b,i::l,r,h=>by
  rw[Stil.Ip]at h;split at h
  .rename_i e
   rw[e];simp
  .obtain⟨_,m,c,d⟩:=h
   have g:=Zb d;have f:=c.suffix.length_le;simp only[DT];omega
theorem cU{P:AP->Stil.DL->AP->Prop}{ks:Ek}{i:Stil.Ar}{l r:AP}(h:Stil.Ip P ks (i::l) r):∃y b,ks=y::b/\(b=[]/\i.code=9/\P l y r\/b≠[]/\(i.code=7\/i.code=8)/\∃m,P l y m/\Stil.Ip P b m r):=by cases ks with|nil=>simp[Stil.Ip]at h|cons y b=>refine⟨y,b,rfl,?_⟩;rw[Stil.Ip]at h;split at h;{rename_i e;exact .inl ⟨e,h⟩};rename_i e;exact .inr ⟨e,h⟩
theorem XQ(c:Int)(w:AU):
  Calls prog 147 #[AB c] w λe w'=>e=.returned (.bool (decide (1<=c/\c<=6)))/\w'=w:=by
 have⟨R,d⟩:=AA (decide (1<=c/\c<=6));have b:=BZ d;rw[<-d];clear d;by_cases f:1<=c
 .by_cases g:c<=6;{go_enter func147,ntmps147;go_wp2;go_ret;exact⟨by rw[b.out,FG BS];rfl,rfl⟩};go_enter func147,ntmps147;go_wp2;go_ret;exact⟨by rw[b.out,FW BS];rfl,rfl⟩
 go_enter func147,ntmps147;go_wp2;go_ret;exact⟨by rw[b.out,FW BS];rfl,rfl⟩
def LAt(w0:AU)(b o:Nat)(L:AP):Prop:=(L≠[]->b<w0.heap.size)/\∀i(h:i<L.length),Z7 w0 b (o+i*3) L[i]
def LAt.lt{b i:Nat}{L:AP}(h:LAt w0 b o L)(hi:i<L.length):b<w0.heap.size:=h.1 (λe=>by rw[e]at hi;simp at hi)
structure EG(w0 w:AU)(b o:Nat)(L l:List Stil.Ar):Prop where
 bel:Below w0.heap.size w0 w
 lt:w0.heap.size<w.heap.size
 c0:∃(cap:Nat)(q:Option Ab),l.length<=cap/\w.cell? ⟨w0.heap.size,0,none⟩=some (.slice q l.length cap)/\(l≠[]->q=some ⟨b,o+(L.length - l.length)*3,none⟩)
 f0:w.frozen? ⟨w0.heap.size,0,none⟩=false
 suf:l<:+L
def EG.below{w:AU}{b:Nat}{L l:AP}(h:EG w0 w b o L l)(c:Below n w w')(d:w0.heap.size<n):EG w0 w' b o L l:=by have⟨cap,q,e,c0,f⟩:=h.c0;exact⟨h.bel.tr (c.mo (EO d)),DO h.lt c.size,⟨cap,q,e,(c.cell (p:=(AL w0 0)) d).tr c0,f⟩,(c.frozen (p:=(AL w0 0)) d).tr h.f0,h.suf⟩
theorem EG.grown{w:AU}{b:Nat}{L l:AP}(h:EG w0 w b o L l)(hg:w.grownBy w' r)(hr:∀q,r=some q->w0.heap.size<q):EG w0 w' b o L l:=by have c:r≠some w0.z:=λe=>K4 _ (hr _ e);have⟨cap,q,f,c0,g⟩:=h.c0;exact⟨⟨hg.os.tr h.bel.os,hg.tape.tr h.bel.tape,hg.output.tr h.bel.output,DU h.bel.size hg.size,λk d=>(hg.block k (Nat.lt_trans d h.lt) (λe=>by have:=hr k e.symm;omega)).tr (h.bel.block k d)⟩,DO h.lt hg.size,⟨cap,q,f,(Gt hg h.lt c).tr c0,g⟩,(Ns hg h.lt c).tr h.f0,h.suf⟩
theorem EG.setB{w:AU}{b p:Nat}{L l:AP}(h:EG w0 w b o L l)(c:w0.heap.size<B)(v:AW):EG w0 (w.setCell (AK B p) v) b o L l:=
 h.below (n:=w0.z+1) ((BP _ _).s (p:=(AK B p)) c _) (EQ _)
theorem EG.inst{w:AU}{b:Nat}{L r:AP}{i:Stil.Ar}(h:EG w0 w b o L (i::r))(e:LAt w0 b o L):∃(J cap:Nat)(c:AW),J<L.length/\J=L.length - (i::r).length/\J+1=L.length - r.length/\r.length+1<=cap/\w.cell? (AL w0 0)=some (AE (some (AK b (o+J*3))) (r.length+1) cap)/\w.cell? (AK b (o+J*3))=some (AB i.code)/\w.cell? (AK b (o+J*3+1))=some (AB i.O.op)/\w.cell? (AK b (o+J*3+2))=some c/\Aq w c i.O.args:=by obtain⟨J,f,g,d,rfl⟩:=NN h.suf;have⟨cap,q,m,c0,s⟩:=h.c0;rw[s BU,<-f]at c0;have⟨l,t,c,u,j⟩:=(e.2 J d).below h.bel (e.lt d);exact⟨J,cap,c,d,f,g,m,c0,l,t,u,j⟩
def EG.next{w:AU}{b J cap:Nat}{q:Ab}{L r:AP}{i:Stil.Ar}(h:EG w0 w b o L (i::r))(e:J+1=L.length - r.length)(d:r.length<=cap)(f:r≠[]->q=(AK b (o+J*3+3))):EG w0 (w.setCell (AL w0 0) (AE (some q) r.length cap)) b o L r:=by have⟨g,j,l,c0,_⟩:=h.c0;refine⟨h.bel.s (p:=(AL w0 0)) (DN _) _,by simpa using h.lt,⟨cap,some q,d,Ff c0,λc=>?_⟩,Me.trans h.f0,(List.suffix_cons i r).trans h.suf⟩;rw[f c,<-e,Nat.add_mul];rfl
theorem OV(L r:AP)(i:Stil.Ar)(b o:Nat)(w0 w:AU)(hr:EG w0 w b o L (i::r))(g:LAt w0 b o L)(hl:L.length<=1000):
  Calls prog 108 #[AH w0.heap.size] w λe w'=>(∃(a:Δ)(c:Nat),e=.returned (.agg #[AB i.code,AB i.O.op,AE a i.O.args.length c])/\Aq w' (AE a i.O.args.length c) i.O.args)/\EG w0 w' b o L r/\w.grownBy w' (some w0.heap.size):=by
 have⟨J,cap,Y,U,y,u,ac,c0,x0,x1,x2,F⟩:=hr.inst g;have I:=BZ hr;have S:=hr.lt;have f0:=hr.f0;have T:b<w0.heap.size:=g.lt U;have hb:b<w.heap.size:=Nat.lt_trans T S;have K:=BZ u;have M:Hid (∀W,AO w0 W->Aq W Y i.O.args):=λW h=>by
  obtain⟨_,j,e⟩:∃(_:J=J)(j:J<L.length),L[J]=i:=by have⟨G,N,_,j,e⟩:=NN hr.suf;have D:G=J:=(by rw[N,y]);subst D;exact⟨rfl,j,e⟩
  have⟨y0,y1,gG,y2,eG⟩:=(g.2 J j).below h (g.lt j);have⟨z0,z1,xm,H,R⟩:=g.2 J j;have s:=(hr.bel.cell (p:=(AK b (o+J*3+2))) (g.lt j)).tr H;rw[x2]at s;injection s with s
  rw[s,<-e];exact R.below h
 obtain⟨f,d,rfl,-⟩:=F;have aa:1<=cap:=BS;have ad:r.length+1<=1000:=by have:=hr.suf.length_le;simp only[DT]at this;omega
 clear hr g y u;have C:Hid (∀(q:Ab)(c:Nat)(m l:AZ),r.length<=c->(r≠[]->q=(AK b (o+J*3+3)))->Aq (((w.s (AL w0 0) (AE (some q) r.length c)).alloc (.cells #[AB i.code,AB i.O.op,AE f i.O.args.length d] m)).alloc (.cells #[AB i.code,AB i.O.op,AE f i.O.args.length d] l)) (AE f i.O.args.length d) i.O.args/\EG w0 (((w.s (AL w0 0) (AE (some q) r.length c)).alloc (.cells #[AB i.code,AB i.O.op,AE f i.O.args.length d] m)).alloc (.cells #[AB i.code,AB i.O.op,AE f i.O.args.length d] l)) b o L r/\w.grownBy (((w.s (AL w0 0) (AE (some q) r.length c)).alloc (.cells #[AB i.code,AB i.O.op,AE f i.O.args.length d] m)).alloc (.cells #[AB i.code,AB i.O.op,AE f i.O.args.length d] l)) (some w0.heap.size)):=λq c m l O Z=>by have t:=I.next K O Z;have E:w.grownBy (w.s (AL w0 0) (AE (some q) r.length c)) (some w0.heap.size):=Vt (World.grownBy.refl _ _) _ _;have x:=(t.below (Aa _ (.cells #[AB i.code,AB i.O.op,AE f i.O.args.length d] m)) t.lt);have z:=x.below (Aa _ (.cells #[AB i.code,AB i.O.op,AE f i.O.args.length d] l)) x.lt;exact⟨M _ z.bel,z,(E.tr (grown_of (Aa _ _) _)).tr (grown_of (Aa _ _) _)⟩
 by_cases X:cap=1
 .subst X;have V:r=[]:=BL.1 BS;subst V;go_enter func108,ntmps108;go_wp2;refine BH (v:=.agg #[AB i.code,AB i.O.op,AE f i.O.args.length d]) (by simp[results,results108,go_sem]) rfl ?_;have h:=C (AK b (o+J*3)) 0 73 73 (DN _) (λh=>absurd rfl h);exact⟨⟨f,d,rfl,h.1⟩,h.2⟩
 have ab:¬(cap - 1=0):=by omega
 go_enter func108,ntmps108;go_wp2;refine BH (v:=.agg #[AB i.code,AB i.O.op,AE f i.O.args.length d]) (by simp[results,results108,go_sem]) rfl ?_;have h:=C (AK b (o+J*3+3)) (cap - 1) 73 73 BS (λ_=>rfl);exact⟨⟨f,d,rfl,h.1⟩,h.2⟩
structure U2(w0 w:AU)(Q:Nat):Prop where
 hi:w0.heap.size<Q
 lt:Q<w.heap.size
 k0:w.cell? (AK Q 0)=some (AB 0)
 k1:w.cell? (AK Q 1)=some (AB 0)
 k2:w.cell? (AK Q 2)=some AG
 k3:w.cell? (AK Q 3)=some AG
 k4:w.cell? (AK Q 4)=some (.pointer none)
def U2.keep{w:AU}(h:U2 w0 w Q)(c:w.heap.size<=w'.heap.size)(b:∀o,w'.cell? (AK Q o)=w.cell? (AK Q o)):U2 w0 w' Q:=
 ⟨h.hi,DO h.lt c,(b _).tr h.k0,(b _).tr h.k1,(b _).tr h.k2,(b _).tr h.k3,(b _).tr h.k4⟩
def U2.G{w:AU}(h:U2 w0 w Q)(hg:w.grownBy w' r)(hr:r≠some Q):U2 w0 w' Q:=h.keep hg.size (λ_=>Gt hg h.lt hr)
def U2.grown{w:AU}(h:U2 w0 w Q)(hg:w.grownBy w' (some w0.heap.size)):U2 w0 w' Q:=h.G hg (λe=>by injection e with e;have:=h.hi;omega)
def Xt(w:AU)(P:Nat):Nat:=match w.cell? (AK P 0) with
 |some (.slice _ n _)=>n
 |_=>0
def EG.len{w:AU}{b:Nat}{L l:AP}(h:EG w0 w b o L l):Xt w w0.heap.size=l.length:=by have⟨cap,q,_,c0,_⟩:=h.c0;unfold Xt;rw[c0]
def Az4(x y z:AW)(w:AU):Sem.run prog (Instr.field 73 (.agg #[x,y,z]) 0) w=.ok x w:=BW
def me(x y z:AW)(w:AU):Sem.run prog (Instr.field 73 (.agg #[x,y,z]) 1) w=.ok (.agg #[y,z]) w:=BW
def JW(n:Stil.DL)(bs:Γ)(ts:Ao)(e:Ending)(w':AU):Prop:=∃a p b q d r f s,e=.returned (A4 n a p b q d r f s)/\Sv w' bs (([J9 n],A6 n a p b q d r f s)::ts)
def gP(L:Ek)(bs:Γ)(ts:Ao)(e:Ending)(w':AU):Prop:=∃a c,e=.returned (AE a L.length c)/\Sv w' bs (([sl (I8 L)],[AE a L.length c])::ts)
def NF(N:Nat)(w0:AU)(b o:Nat)(L:AP):Prop:=∀(l r:AP)(y:Stil.DL)(Q:Nat)(W:AU)(bs:Γ)(c:Ao),Stil.Wl N [Ha] l y r->EG w0 W b o L l->U2 w0 W Q->Sv W bs c->w0.heap.size∈bs->Calls prog 107 #[AH w0.heap.size,AH Q] W λe w'=>JW y bs c e w'/\EG w0 w' b o L r/\W.grownBy w' (some w0.heap.size)
theorem Vo {w:AU}{e:Nat}{xs:Θ}(h:w.ownsRow B e k v n xs)(hg:w.grownBy w' (some P))(c:P<B):w'.ownsRow B e k v n xs:=h.kept hg (by
 cases b:v.ownBlock with
 |none=>exact .inl rfl
 | some q=>exact .inr λe=>by cases e;have:=(h.lt _ b).1;omega)
theorem ip(N:Nat)(w0:AU)(b o:Nat)(L:AP)(af:NF N w0 b o L)(ac:LAt w0 b o L)(hl:L.length<=1000)(l r:AP)(ks:Ek)(Q:Nat)(w:AU)(bs:Γ)(ts:Ao)(h:Sv w bs ts)(dX:w0.heap.size∈bs)(hf:Stil.Ip (Stil.Wl N [Ha]) ks l r)(z:EG w0 w b o L l)(E:U2 w0 w Q)(an:ks.length<=1000):
  Calls prog 180 #[AH w0.heap.size,AH Q] w λe w'=>gP ks bs ts e w'/\EG w0 w' b o L r/\w.grownBy w' (some w0.heap.size):=by
 have wH:=Af af;have ai:=Af ac;have HF:=Af hf;have dY:=Af z;have jv:=Af E;have HS:=Af h;have K:w0.heap.size<w.heap.size:=z.lt;have hQ:Q<w.heap.size:=E.lt;clear af ac hf z E h;have ao:=Az4;go_enter func180,ntmps180;go_wp2;go_loopw [5] (λkv wr=>∃(J:AP)(M d:Ek)(t:Δ)(C:Nat)(xs:Θ),kv=AE t d.length C/\wr.ownsRow w.heap.size 66 6 (AE t d.length C) d.length xs/\Sv wr (ob (AE t d.length C)++bs) ((I8 d,xs)::ts)/\d++M=ks/\Stil.Ip (Stil.Wl N [Ha]) M J r/\EG w0 wr b o L J/\U2 w0 wr Q/\w.grownBy wr (some w0.heap.size)) (λ_ wr=>Xt wr w0.heap.size);case atStart=>exact⟨l,ks,[],none,0,[],rfl,BJ _ _ _ _,HS.nil,rfl,HF.out,dY.out,jv.out,World.grownBy.refl _ _⟩
 case round=>
  clear HF dY jv;obtain⟨J,M,d,t,C,xs,rfl,ab,hS,S,R,z,E,U⟩:=hrel;cases J with
  |nil=>exact absurd R (by cases M<;>simp[Stil.Ip])
  |cons i G=>(obtain⟨y,xM,rfl,ad⟩:=cU R;have eU:=Af (OV L G i b o w0 wr z ai hl);have dQ:Hid (Xt wr w0.heap.size=G.length+1):=z.len;have aj:d.length<=1000:=by have I:=congrArg List.length S;simp only[DV,DT]at I;omega);have zW:=Af S;have V:=Af ab;have jl:=Af hS;have kF:=Af E;have wI:=Af U;have ak:=U.size;clear S E U z R ab hS;obtain⟨D,O⟩:∃D,Stil.Wl N [Ha] G y D/\(xM=[]/\i.code=9/\D=r\/¬i.code=9/\Stil.Ip (Stil.Wl N [Ha]) xM D r):=(by rcases ad with⟨h1,I,h3⟩|⟨_,I,m,h3,h4⟩;{exact⟨r,h3,.inl ⟨h1,I,rfl⟩⟩};exact⟨m,h3,.inr ⟨BS,h4⟩⟩);clear ad;have HY:=Af O.1;have ae:Hid (w0.heap.size∈ob (AE t d.length C)++bs):=EP _ dX;have H:=Af (λq(g:(Value.slice t d.length C).ownBlock=some q)=>(V.lt q g).1);have qM:=Af (λu(g5:wr.grownBy u (some w0.heap.size))(r5:EG w0 u b o L G)=>wH G D y Q u (ob (AE t d.length C)++bs) _ HY r5 (kF.grown g5) (jl.grow g5 (λq g=>by cases g;exact ae.out)) ae.out);rcases O.2 with⟨rfl,h9,rfl⟩|⟨h9,ag⟩;{clear O;go_wp2_with(first|(go_at_call 108;refine eU.mono ?_;rintro e u⟨⟨ta,ua,rfl,-⟩,aV,j⟩)|(go_at_call 107;refine(qM u j aV).mono ?_;rintro e w6⟨⟨a1,p1,a2,p2,a3,p3,Z,p4,rfl,Y⟩,X,s⟩;have aa:=Vo (Vo V j K) s K;have qx:=s.size;have qw:=j.size)|(at_builtin;refine Bj rfl rfl (Sv.pushM (f:=J9) (x:=y) (c:=A6 y a1 p1 a2 p2 a3 p3 Z p4) _ kd6 Y (Ax Av) Av Un aa BS BS) rfl rfl ?_;rintro v7 w7⟨a7,c7,rfl,bH,T,F,-⟩));go_ret;obtain rfl:=zW.out;refine⟨⟨a7,c7,by rw[DV];rfl,(T.ice Av xBc HS.1).sub (λ_ h=>h) B8⟩,X.grown F (λq g=>by have:=H q g;omega),((wI.trans j).trans s).andThen F (λq g=>.inl (H q g))⟩};have ah:=Af ag;clear O ag;go_wp2_with(first|(go_at_call 108;refine eU.mono ?_;rintro e u⟨⟨ta,ua,rfl,-⟩,aV,j⟩)|(go_at_call 107;refine(qM u j aV).mono ?_;rintro e w6⟨⟨a1,p1,a2,p2,a3,p3,Z,p4,rfl,Y⟩,X,s⟩;have aa:=Vo (Vo V j K) s K;have qx:=s.size;have qw:=j.size)|(at_builtin;refine Bj rfl rfl (Sv.pushM (f:=J9) (x:=y) (c:=A6 y a1 p1 a2 p2 a3 p3 Z p4) _ kd6 Y (Ax Av) Av Un aa BS BS) rfl rfl ?_;rintro v7 w7⟨a7,c7,rfl,bH,T,F,-⟩));have al:=HY.suffix.length_le;have hR:=X.grown F (λq g=>by have:=H q g;omega);exact⟨⟨D,xM,d++[y],a7,c7,_,by rw[DV];rfl,bH,T.sub (λ_ h=>h) B8,by rw[EJ];exact zW.out,ah.out,hR,((kF.grown j).grown s).G F (λe=>by have:=H _ e;omega),((wI.trans j).trans s).andThen F (λq g=>.inl (H q g))⟩,by rw[hR.len,dQ.out];omega⟩
theorem pQ(N:Nat)(w0:AU)(b o:Nat)(L:AP)(x:NF N w0 b o L)(u:LAt w0 b o L)(hl:L.length<=1000)(l r:AP)(ks:Ek)(w:AU)(bs:Γ)(ts:Ao)(h:Sv w bs ts)(M:w0.heap.size∈bs)(O:Stil.K3 (Stil.Wl N [Ha]) ks l r)(c:EG w0 w b o L l)(S:ks.length<=1000):
  Calls prog 149 #[AH w0.heap.size] w λe w'=>gP ks bs ts e w'/\EG w0 w' b o L r/\w.grownBy w' (some w0.heap.size):=by
 cases l with
 |nil=>exfalso;rcases O with⟨h,_⟩|⟨h,_⟩|⟨h,_⟩;{simp[Dx]at h};{simp[Dx]at h};simp[Dx]at h
 |cons i z=>
  obtain⟨J,cap,av,V,T,-,aa,c0,x0,-,-,-⟩:=c.inst u;have R:w0.heap.size<w.heap.size:=c.lt;have Y:b<w.heap.size:=Nat.lt_trans (u.lt V) c.lt;have ab:z.length+1<=1000:=by have:=c.suf.length_le;simp only[DT]at this;omega
  have F:=Af c;have U:=Af h;have E:=Af (λt:AZ=>(⟨R,BU,xAa,xAa,xAa,xAa,xAa⟩:U2 w0 (w.alloc (.cells #[AB 0,AB 0,AG,AG,.pointer none] t)) w.heap.size));have g:=Af (λ(y:Stil.DL)s t=>(x (i::z) r y w.heap.size _ bs ts s (c.below (Aa _ _) c.lt) (E t) (h.alloc _) M));have f:=Af (λm t=>(ip N w0 b o L x u hl (i::z) r ks w.heap.size _ bs ts (h.alloc _) M m (c.below (Aa _ _) c.lt) (E t) S));clear x u c T h;rcases O with⟨d,rfl,rfl⟩|⟨K,j,y,rfl,s⟩|⟨j,m⟩;{have d:i.code=8\/i.code=9\/i.code=11:=d;clear g f;rcases d with d|d|d;all_goals go_enter func149,ntmps149;go_wp2;go_ret;exact⟨⟨none,0,rfl,(U.alloc _).snil⟩,F.below (Aa _ _) F.lt,grown_of (Aa _ _) _⟩};{have K:1<=i.code:=K;have j:i.code<7:=j;have n8:¬i.code=8:=BS;have n9:¬i.code=9:=BS;have X:¬i.code=11:=BS;have Z:¬i.code=7:=BS;have g:=Af (g y s);clear s f;go_enter func149,ntmps149;go_wp2_with(go_at_call 107;refine(g _).mo ?_;rintro e I⟨⟨G,H,a2,p2,a3,p3,a4,p4,rfl,C⟩,q,D⟩);go_ret;exact⟨⟨some (AL I 0),1,rfl,(C.lit (l:=[J9 y]) Av _ _ rfl rfl).sub (λ_ h=>h) B8⟩,q.below (Aa _ _) q.lt,(grown_of (Aa _ _) _).tr (D.tr (grown_of (Aa _ _) _))⟩};have j:i.code=7:=j;have f:=Af (f m);clear m g;go_enter func149,ntmps149;go_wp2_with(go_at_call 180;refine(f _).mo ?_;rintro e I⟨⟨G,H,rfl,C⟩,q,D⟩);go_ret;exact⟨⟨G,H,rfl,C⟩,q,(grown_of (Aa _ _) _).tr D⟩
theorem Rz.grownP{w:AU}{ts:Ao}{g:List SN}(h:Rz w B bs ts ls g v)(hg:w.grownBy w' (some P))(d:P∈bs)(hl:P∉ls):Rz w' B bs ts ls g v:=
 ⟨h.link.kept hg (λb c e=>by cases e;exact hl c),h.sv.grow hg (λb e=>by cases e;exact EP _ d),λs f=>(h.oks s f).kept hg (by
  cases i:s.kv.ownBlock with
  |none=>exact .inl rfl
  | some q=>exact .inr λe=>by cases e;exact h.off s f _ i d),h.apart,λb c=>⟨DO (h.free b c).1 hg.size,(h.free b c).2⟩,h.off⟩
def zeroS:SN:=⟨Ha,AG,AG,[]⟩
theorem wT{w:AU}{ts:Ao}(h:U2 w0 w Q)(hS:Sv w bs ts):Rz w B bs ([([sl []],[AG]),([],[])]++ts) [Q] [zeroS] (AH Q):=
 ⟨⟨rfl,h.lt,⟨h.k0,h.k1,h.k2,h.k3⟩,_,h.k4,rfl⟩,hS.nil.snil,λs c=>by
  cases BB.1 c
  exact⟨.head _, .tail _ Av,BJ _ _ _ _⟩,Bdb _ _,λb d=>⟨by cases BB.1 d;exact h.lt,λs c e=>by cases BB.1 c;cases e⟩,λs c q e=>by cases BB.1 c;cases e⟩
theorem Wi.off{w:AU}{a:Δ}{c:Nat}(e:w.cell? (AK P 0)=some (AE a n c)):∀{ls:Γ}{f:List SN}{v:AW},Wi w ls f v->P∉ls
 |[],_,_,_,d=>by cases d
 |_::_,[],_,h,_=>h.elim
 |b::ls,s::f,v,h,d=>by
  obtain⟨_,_,⟨i,_⟩,p,_,g⟩:=h;rcases BD.1 d with rfl|d
  .rw[i]at e;cases e
  .exact Wi.off e g d
theorem Rz.box{w:AU}{ts:Ao}{i:List SN}(h:Rz w B bs ts ls i v)(o:Obj):Rz (w.alloc o) B (w.heap.size::bs) ts ls i v:=
 ⟨h.link.below (Aa _ _),(h.sv.box o).sub (λx e=>by simp only[FZ,EN] at e ⊢;rcases e with h | h | h;exact .inr (.inl h);exact .inl h;exact .inr (.inr h)) λ_ h=>h,λs c=>(h.oks s c).below (Aa _ _),h.apart,λb g=>⟨DO (h.free b g).1 BU,(h.free b g).2⟩,λs c q f d=>by
  rcases BD.1 d with rfl|d
  .exact K4 _ (h.low s c _ f)
  .exact h.off s c q f d⟩
theorem Sv.mkAN{w:AU}{ts:Ao}{n:Stil.DK}{k p u x y:AW}{es:Ω}{ms:Ek}(h:Sv w bs ts)(h1:([G8 n],[k,p,v,u])∈ts)(g:([sl (Hy es)],[x])∈ts)(c:([sl (I8 ms)],[y])∈ts):Sv w bs (([J9 ⟨n,es,ms⟩],[k,p,v,u,x,y])::ts):=h.der (y:=([_],_)) λ_ b=>by
 have⟨_,_,d,e,f⟩:=K9.1 (Ph.O.1 (b _ h1));cases d;exact Ph.O.2 (MF.2 ⟨_,_,_,_,rfl,e,f,I9.1 (b _ g),I9.1 (b _ c)⟩)
def zPa {p:Prop}(h:p:=by
 have h2:=hC.suffix.2.2;rcases hK with⟨_,e,_⟩|⟨_,_,y,e,_⟩|⟨_,h⟩
 .rw[e];simp
 .rw[e];simp
 have h3:=Zb h;omega):p:=h
theorem Ta(N:Nat)(w0:AU)(b o:Nat)(L:AP)(aO:NF N w0 b o L)(an:LAt w0 b o L)(hl:L.length<=1000)(aB:∀i∈L,i.fits)(l r:AP)(x:Stil.DL)(aK:Γ)(dw:List SN)(pg:Δ)(w:AU)(bs:Γ)(ts us:Ao)(dX:w0.heap.size∈bs)(z:∀B,Rz w B bs us aK dw (.pointer pg))(a7:∀x∈ts,x∈us)(aa:GH 1 (dw.map SN.n))(h:Stil.Wl (N+1) (dw.map SN.n) l x r)(d:EG w0 w b o L l):
  Calls prog 107 #[AH w0.heap.size,.pointer pg] w λe w'=>JW x bs ts e w'/\EG w0 w' b o L r/\w.grownBy w' (some w0.heap.size):=by
 obtain⟨l1,l2,hN,hC,hK⟩:=h;have ai:=Af an;have HF:=Af aB;have hP:w0.heap.size<w.heap.size:=d.lt;have aP:b<w0.heap.size:=by cases l with|nil=>exact hN.elim|cons i l=>have h2:=d.suf.length_le;exact an.lt (i:=0) (by simp only[DT]at h2;omega)
 have bo:l1.length<=1000:=by have:=hN.suffix.1.length_le;have:=d.suf.length_le;omega
 have bb:x.C.length<=1000:=by have:=hC.suffix.2.2;omega
 obtain⟨xn,wQ,G⟩:=x;simp only at hN hC hK bb;have ba:G.length<=1000:=by exact zPa
 have aY:=Af (λW cs D(hS:Sv W cs D)(hp:w0.heap.size∈cs)(hr:EG w0 W b o L l2)=>pQ N w0 b o L aO ai hl l2 r G W cs D hS hp hK hr ba);have HN:=Af hN;have HC:=Af hC;have gI:=Af z;have uQ:=Af aa;have uO:=Af d;have wM:=Af (z 0).bsLt;clear aO an aB d hN hC hK z aa;have bu:=me;go_enter func107,ntmps107;go_wp2;go_loopw [1] (λsv wr=>∃(E:AP)(ls:Γ)(U:List SN)(po:Δ)(D:Ao),sv=.pointer po/\Rz wr (w.heap.size+1) (w.heap.size::bs) D ls U (.pointer po)/\(∀x∈ts,x∈D)/\Stil.X5 (U.map SN.n) E xn l1/\EG w0 wr b o L E/\GH (1+2*(L.length - E.length)) (U.map SN.n)/\B6 wr w.heap.size (AB 0) (AB 0) AG AG AG AG/\w.grownBy wr (some w0.heap.size)) (λ_ wr=>Xt wr w0.heap.size);case atStart=>exact⟨l,aK,dw,pg,us,rfl,(gI _).box _,a7,HN.out,uO.below (Aa _ _) uO.lt,⟨uQ.1,DU uQ.2 BS⟩,B6.new _ _ _ _ _ _ _ _,grown_of (Aa _ _) _⟩
 case round=>
  clear HN gI uQ uO;obtain⟨E,ls,U,po,D,rfl,z,ar,M,d,aa,I,S⟩:=hrel;cases E with
  |nil=>exact M.elim
  |cons i j=>
   obtain⟨bg,cap,av,hJ,ah,af,aQ,c0,x0,-,-,-⟩:=d.inst ai.out;have pR:w0.heap.size<wr.heap.size:=d.lt;have aN:b<wr.heap.size:=Nat.lt_trans aP pR;have aT:j.length+1<=1000:=xBo;have bB:w.heap.size<wr.heap.size:=I.1;have dQ:Hid (Xt wr w0.heap.size=j.length+1):=d.len;rw[Stil.X5]at M;by_cases h7:i.code<7
   .rw[BR h7]at M;(obtain⟨bc,ax,M⟩:=M;rw[Db]at ax;have ab:i.fits:=HF i (d.suf.subset BU);have uS:Hid (∀W,Calls prog 147 #[AB i.code] W λe w'=>e=.returned (.bool true)/\w'=W):=λW=>by have h2:=XQ i.code W;rwa[FG BS]at h2);have eU:=Af (OV L j i b o w0 wr d ai hl);have ad:=z.link.off c0;have a8:=Af (λ(W:AU)(av:AW)(hg:wr.grownBy W (some w0.heap.size))(hd:Aq W av i.O.args)=>vn i av ls U (.pointer po) W (w.heap.size+1) (1+2*(L.length - (i::j).length)) _ D (z.grownP hg (Ax dX) ad) hd ab bc h7 ax aa BS (DU BS hg.size))
    have eX:=Af (λ(K t:AU) (vH:List SN) (g5:wr.grownBy K (some w0.heap.size)) (r5:EG w0 K b o L j) (C:Below (w.heap.size+1) K t) (ik:vH.map SN.n=Lt i.code i.O (U.map SN.n))=>(show Stil.X5 (vH.map SN.n) j xn l1/\EG w0 t b o L j/\GH (1+2*(L.length - j.length)) (vH.map SN.n)/\B6 t w.heap.size (AB 0) (AB 0) AG AG AG AG/\w.grownBy t (some w0.heap.size) from by
     rw[ik];have h5:=PU (c:=i.code) ab.2 aa BS;have e5:1+2*(L.length - (i::j).length)+2=1+2*(L.length - j.length):=BS
     rw[e5]at h5
     exact⟨M,r5.below C BS,h5,(I.grown g5 (λe=>by injection e with e;omega)).below C (EQ _),Tc (S.tr g5) C (JL _)⟩))
    clear M z aa I S d ah af ax ad ab;go_wp2_with(first|(go_at_call 147;refine(uS _).mo ?_;rintro e w4⟨rfl,az⟩;obtain rfl:=az.symm)|(go_at_call 108;refine eU.mo ?_;rintro e K⟨⟨ta,ua,rfl,aj⟩,aV,ae⟩;have ao:=Af aj;have kT:=Af aV;have kJ:=Af ae;clear aj aV ae)|(go_at_call 148;refine(a8 _ _ kJ ao.out).mo ?_;rintro e t⟨b7,bf,vH,a5,rfl,ik,aJ,C⟩;have aZ:=Af aJ;have au:=Af (eX K t vH kJ kT C ik);clear aJ ik C));exact⟨⟨j,b7::bf,vH,_,a5++D,rfl,aZ.out,λx hx=>EP _ (ar x hx),au.out⟩,by rw[au.out.2.1.len,dQ.out];omega⟩
   rw[BQ h7]at M;(obtain⟨aA,rfl⟩:=M;have uS:Hid (∀W,Calls prog 147 #[AB i.code] W λe w'=>e=.returned (.bool false)/\w'=W):=λW=>by have h2:=XQ i.code W;rwa[FW BS]at h2);have aR:U.length=1:=(by have:=congrArg List.length aA;simpa using this);(obtain⟨s,rfl⟩:=List.length_eq_one_iff.1 aR;have aC:s.n=xn:=by simpa using aA);(obtain⟨g,bp,rfl,aH,bi,⟨y0,y1,y2,y3⟩,_⟩:=z.link.cons;obtain rfl:po=some (AK g 0):=by injection aH);have⟨⟨q1,q2,hd⟩,q3,q4,aE⟩:=(z.oks s Av).forms z.sv λ_ h=>h;have HI:Hid (Sv wr (w.heap.size::bs) (([G8 s.n],s.cells)::D)):=SN.ice z.head (z.oks s Av) z.notIn;have ay:=Af d;have iH:=Af I;have zZ:=Af S;have a2:=Af ar;obtain⟨n,wS,wR,jL⟩:=s;simp only at hd aE y0 y1 y2 y3 aC;subst hd aE aC;clear z aA d aa I S aH ah af aR ar;obtain⟨u,bk⟩:∃u:AU,u=wr:=⟨wr,rfl⟩;subst bk;go_wp2_with(go_at_call 147;refine(uS _).mo ?_;rintro e w4⟨rfl,az⟩;obtain rfl:=az.symm);go_loopw [] (λwr=>∃(E:AP)(aw m:Ω)(F:Δ)(J:Nat)(xs:Θ),B6 wr u.heap.size (AB n.kind) (AB n.O.op) (AE q1 n.O.args.length q2) (AE q3 n.K.length q4) (AE F m.length J) AG/\wr.ownsRow (w.heap.size+1) 60 2 (AE F m.length J) m.length xs/\(Value.slice F m.length J).ownBlock≠some u.heap.size/\Sv wr (ob (AE F m.length J)++(u.heap.size::w.heap.size::bs)) ((Hy m,xs)::([G8 n],[AB n.kind,AB n.O.op,AE q1 n.O.args.length q2,AE q3 n.K.length q4])::D)/\m++aw=wQ/\Stil.Lp E aw l2/\EG w0 wr b o L E/\B6 wr w.heap.size (AB 0) (AB 0) AG AG AG AG/\w.grownBy wr (some w0.heap.size)) (λwr=>Xt wr w0.heap.size);case atStart=>exact⟨i::j,wQ,[],none,0,[],B6.new _ _ _ _ _ _ _ _,BJ _ _ _ _,(λe=>by cases e),(HI.box _).nil,rfl,HC.out,ay.below (Aa _ _) ay.lt,iH.at (Aa _ _),zZ.tr (grown_of (Aa _ _) _)⟩
   case round=>
    clear HC HI ay iH zZ uS dQ y0 y1 y2 y3 bi aQ c0 x0 hJ pR aN aT h7;obtain⟨E,aw,m,F,J,xs,I,ak,ad,hS,ag,T,d,al,S⟩:=hrel;cases E with
    |nil=>exact T.elim
    |cons i j=>
     obtain⟨bg,cap,av,hJ,ah,af,aQ,c0,x0,-,-,-⟩:=d.inst ai.out;have pR:w0.heap.size<wr.heap.size:=d.lt;have aN:b<wr.heap.size:=Nat.lt_trans aP pR;have aT:j.length+1<=1000:=xBo;have dQ:Hid (Xt wr w0.heap.size=j.length+1):=d.len;have zF:u.heap.size<wr.heap.size:=I.1;have Z:=Af (λW(h:wr.grownBy W (some w0.heap.size))=>I.grown h (λe=>by injection e with e;omega));have y7:=Af (λW(h:wr.grownBy W (some w0.heap.size))=>al.grown h (λe=>by injection e with e;omega));have ap:=Af (λW(h:wr.grownBy W (some w0.heap.size))=>Vo ak h BS);have jl:=Af (λW(h:wr.grownBy W (some w0.heap.size))=>hS.grow h (λq H=>by cases H;exact EP _ (Ax (Ax dX))));have dY:=Af d;have jy:=Af ag;have zZ:=Af S;have rH:Hid ((Value.slice F m.length J).ownBlock≠some u.heap.size):=ad;have iF:=Af (λq(H:(Value.slice F m.length J).ownBlock=some q)=>(ak.lt q H).1);have bv:m.length<=1000:=(by have h2:=congrArg List.length ag;simp only[DV]at h2;omega);by_cases aL:i.code=10;{rw[Stil.Lp,BR aL]at T;obtain⟨cs2,rfl,T⟩:=T;have zy:=Af T;have ab:i.fits:=HF i (d.suf.subset BU);have eU:=Af (λW(h:AO wr W)=>(OV L j i b o w0 W (d.below h d.lt) ai hl).mo (λe w' hh=>And.intro hh.1 (And.intro hh.2.1 (OJ h hh.2.2))));have bU:=Af (λ(W:AU)(av:AW)(hd:Aq W av i.O.args)cs us hs=>Kv i.O ab.2.2.1 av W cs us hs hd);obtain⟨-,⟨-,-,-,-,y4,-⟩,-⟩:=I;clear T ab ah af ag d ak ad hS al S;go_upto_region 5 with fail;go_region_law(first|(refine Gj rfl rfl (Sv.pushM (f:=Qx) (x:=i.O) (c:=[AB i.O.op,AE ac i.O.args.length cd]) _ kd2 (yl.mkE Av) (Ax (Ax Av)) Av (λ_=>rfl) (ap t X.out) BS BS) rfl rfl ?_;rintro v6 w6⟨a6,c6,rfl,aU,aM,aF,bK⟩;obtain⟨bz,⟨-,-,-,-,bA,-⟩,kR⟩:=(Z t X.out).grown aF rH.out;have br:=kR 4 BS;have dI:=Af (And.intro aU (And.intro aM (And.intro aF bK)));clear aU aM aF bK kR)|(go_simp;go_at_call 131;refine(bU K _ ao _ _ (jl K kJ.out)).mo ?_;rintro e t⟨ac,cd,rfl,aI,C⟩;have yl:=Af aI;have X:Hid (wr.grownBy t (some w0.heap.size)):=(kJ.tr (grown_of C _));have yx:Hid (EG w0 t b o L j):=(kT.below C kT.lt);obtain⟨bw,⟨-,-,-,-,bm,-⟩,-⟩:=Z t X.out;clear aI C)|(go_simp;go_at_call 108;refine(eU _ yDc).mo ?_;rintro e K⟨⟨ta,ua,rfl,aj⟩,aV,ae⟩;have ao:=Af aj;have kT:=Af aV;have kJ:=Af ae;obtain⟨bn,⟨-,-,-,-,bC,-⟩,-⟩:=Z K ae;clear aj aV ae));all_goals go_wp2;have e1:(m++[i.O]).length=m.length+1:=BU;rw[<-e1];have bW:=X.size;have aS:=dI.2.2.2 u.heap.size BS rH.out;have hR:EG w0 (w6.setCell (AL u 4) (.slice a6 (m++[i.O]).length c6)) b o L j:=(yx.grown dI.2.2.1 (λq H=>by have:=iF q H;omega)).setB BS _;exact⟨⟨j,cs2,m++[i.O],a6,c6,_,((Z t X.out).grown dI.2.2.1 rH.out).set4 _,Dk dI.1 aS,aS,(dI.2.1.set (EP _ Av)).sub (λ_ h=>h) B8,by rw[EJ];exact jy.out,zy.out,hR,((y7 t X.out).grown dI.2.2.1 (λe=>by have:=iF _ e;omega)).setO BS _,O7 ((zZ.tr X.out).andThen dI.2.2.1 (λq H=>.inl (by have:=iF q H;omega))) BS _⟩,by rw[hR.len,dQ.out];omega⟩};rw[Stil.Lp,BQ aL]at T;obtain⟨rfl,rfl⟩:=T;rw[EZ]at ag;subst ag;have bh:=Af (aY wr _ _ hS (EP _ (Ax (Ax dX))) d);clear d hS ak ad jl jy aY ah af dQ;obtain⟨-,⟨-,-,-,-,-,y5⟩,fz⟩:=I;go_upto_region 7 with(go_at_call 149;refine bh.mo ?_;rintro e w9⟨⟨R,O,rfl,aG⟩,mW,V⟩;obtain⟨z9,⟨-,-,-,-,-,bj⟩,aD⟩:=Z w9 V;have a3:=aD 5 BS;clear aD);have bq:=V.size;have wX:=ap w9 V;have xZ:=(Z w9 V).set5 (AE R G.length O);have aW:=(y7 w9 V).setO (c:=u.heap.size) (o:=5) BS (AE R G.length O)
     have hI:=aG.ice2 (v:=AE F m.length J) (Ax Av) (by rw[Db];exact wX) (λq H hm=>by
      have h1:=iF q H;rcases BD.1 hm with rfl|hm
      .exact rH H
      rcases BD.1 hm with rfl|hm
      .omega
      .have:=wM q hm;omega)
     have hA:=(hI.mkAN (n:=n) (es:=m) (ms:=G) (Ax (Ax (Ax Av))) Av (Ax Av)).set (b:=u.heap.size) (o:=5) (x:=AE R G.length O) Av;have uz:=mW.setB (B:=u.heap.size) (p:=5) BS (AE R G.length O);have vw:=O7 (b:=u.heap.size) (o:=5) (zZ.tr V) BS (AE R G.length O);have⟨wz,aX⟩:=AA (w9.setCell (AL u 5) (AE R G.length O));rw[<-aX]at xZ aW hA uz vw⊢;obtain⟨zx,⟨k0,k1,k2,k3,k4,k5⟩,-⟩:=xZ;obtain⟨zr,⟨t0,t1,t2,t3,t4,t5⟩,Y⟩:=aW;have f0:=Y 0 BS;have f1:=Y 1 BS;have f2:=Y 2 BS;have f3:=Y 3 BS;have f4:=Y 4 BS;have f5:=Y 5 BS;have HE:=Af (And.intro hA (And.intro uz vw));clear Y aX hI wX aG mW V z9 bj a3 ap Z y7 hA uz vw y5 fz al S;go_wp2;(refine BH (v:=.agg #[AB n.kind,AB n.O.op,AE q1 n.O.args.length q2,AE q3 n.K.length q4,AE F m.length J,AE R G.length O]) (by simp[results,results107,go_sem,t0,t1,t2,t3,t4,t5]) rfl ?_;refine⟨⟨q1,q2,q3,q4,F,J,R,O,rfl,(HE.1.set6 (Ax Av)).sub (λx hx=>.tail _ (Ax hx)) (BA.2 ⟨.head _,λx hx=>.tail _ (Ax (Ax (Ax (Ax (a2 x hx)))))⟩)⟩,(((((HE.2.1.setB hP _).setB hP _).setB hP _).setB hP _).setB hP _).setB hP _,?_⟩;repeat(refine O7 ?_ (DN _) _));exact HE.2.2
theorem T0(w0:AU)(b o:Nat)(L:AP)(c:LAt w0 b o L)(hl:L.length<=1000)(d:∀i∈L,i.fits):∀N,NF N w0 b o L
 |0=>λ_ _ _ _ _ _ _ h=>h.elim
 |N+1=>λl r y Q W bs m h e g hS j=>Ta N w0 b o L (T0 w0 b o L c hl d N) c hl d l r y [Q] [zeroS] (some (AK Q 0)) W bs m _ j (λ_=>wT g hS) (λ_x f=>EP _ f) X8 h e
theorem pV(w0:AU)(b o:Nat)(L:AP)(f:LAt w0 b o L)(hl:L.length<=1000)(g:∀i∈L,i.fits)(N:Nat)(l r:AP)(y:Stil.DL)(W:AU)(bs:Γ)(ts:Ao)(hS:Sv W bs ts)(q:w0.heap.size∈bs)(h:Stil.Wl (N+1) [] l y r)(hr:EG w0 W b o L l):
  Calls prog 107 #[AH w0.heap.size,.pointer none] W λe w'=>JW y bs ts e w'/\EG w0 w' b o L r/\W.grownBy w' (some w0.heap.size):=
 Ta N w0 b o L (T0 w0 b o L f hl g N) f hl g l r y [] [] none W bs ts ts q (λ_=>⟨rfl,hS,(λm p=>by cases p),List.Pairwise.nil,(λc d=>by cases d),(λc d=>by cases d)⟩) (λ_ h=>h) ⟨(λn j=>by cases j),by simp[Stil.sizes]⟩ h hr
open Go.Shelf
theorem sT{w:AU}(h:w.grownBy w' (some P))(c:n<=P)(b:n<=w.heap.size):Below n w w':=⟨h.os,h.tape,h.output,h.size,λk d=>h.block k BS (λe=>by injection e with e;omega)⟩
def cutAt(W:AU)(P:Nat):AU:={W with heap:=W.heap.extract 0 P}
def Tf(h:P<=W.heap.size):(cutAt W P).heap.size=P:=by unfold cutAt;simp only[Array.size_extract];omega
theorem X2(h:P<=W.heap.size):Below P (cutAt W P) W:=by refine⟨rfl,rfl,rfl,by rwa[Tf h],λk b=>?_⟩;unfold cutAt;simp only[Array.getElem?_extract];rw[BR BS];simp
theorem jI{w:AU}(h:Below n w W)(f:n<=P)(d:w.heap.size<=P)(b:P<=W.heap.size):Below n w (cutAt W P):=by refine⟨h.os,h.tape,h.output,by rwa[Tf b],λk e=>?_⟩;have c:=(X2 b).block k BS;rw[<-c];exact h.block k e
structure RdP(wE W:AU)(P b o:Nat)(L l:List Stil.Ar):Prop where
 old:AO wE W
 ge:wE.heap.size<=P
 lt:P<W.heap.size
 c0:∃(cap:Nat)(q:Option Ab),l.length<=cap/\W.cell? (AK P 0)=some (AE q l.length cap)/\(l≠[]->q=some (AK b (o+(L.length - l.length)*3)))
 f0:W.frozen? (AK P 0)=false
 suf:l<:+L
def RdP.rd9{b:Nat}{L l:AP}(h:RdP wE W P b o L l):EG (cutAt W P) W b o L l:=by
 have e:=Tf (EO h.lt);refine⟨?_,by rw[e];exact h.lt,?_,?_,h.suf⟩
 .rw[e];exact X2 (EO h.lt)
 .rw[e];exact h.c0
 rw[e];exact h.f0
def RdP.lat{b:Nat}{L l:AP}(h:RdP wE W P b o L l)(c:LAt wE b o L):LAt (cutAt W P) b o L:=by have e:=Tf (EO h.lt);have f:=jI h.old h.ge h.ge (EO h.lt);have:=h.ge;exact⟨λd=>by rw[e];exact DO (c.1 d) h.ge,λi hi=>(c.2 i hi).below f (c.lt hi)⟩
def RdP.next{c:AU}{b:Nat}{L l r:AP}(h:RdP wE A P b o L l)(hr:EG (cutAt A P) W b o L r)(hg:A.grownBy W (some P))(i:Below wE.heap.size W c)(g:c.heap[P]?=W.heap[P]?):RdP wE c P b o L r:=by have e:=Tf (EO h.lt);have d:=h.ge;have⟨cap,q,j,f,m⟩:=hr.c0;rw[e]at f;have f0:=hr.f0;rw[e]at f0;refine⟨?_,d,DO (DO h.lt hg.size) i.size,⟨cap,q,j,(BE g).trans f,m⟩,(World.frozen?_of_block g).trans f0,hr.suf⟩;exact(h.old.trans (sT hg d (EO (Nat.lt_of_le_of_lt d h.lt)))).trans i
def RdP.len{b:Nat}{L l:AP}(h:RdP wE W P b o L l):Xt W P=l.length:=by have⟨cap,q,_,c0,_⟩:=h.c0;unfold Xt;rw[c0]
def Xf(h:A.grownBy W (some P))(b:k<A.heap.size)(c:k≠P):W.heap[k]?=A.heap[k]?:=h.block k b (λe=>by injection e with e;exact c e)
def Kq(n P:Nat)(W b:AU):Prop:=Below n W b/\b.heap[P]?=W.heap[P]?
theorem iT(a:Δ)(c cap:Nat)(w:AU):Calls prog 56 #[.slice a c cap] w λe w'=>e=.returned (.func (.func 106) #[] #[.pointer (some ⟨w.heap.size,0,none⟩)])/\w'.cell? ⟨w.heap.size,0,none⟩=some (.slice a c cap)/\w.heap.size<w'.heap.size/\Below w.heap.size w w':=by have d:∀(b:Fn)(first cap:δ)(w:AU),(Instr.makeFunc b first cap).run prog w=.ok (.func b first cap) w:=λ_ _ _ _=>rfl;go_enter func56,ntmps56;go_wp2;go_ret;exact⟨rfl,by simp[go_sem],BU,BV⟩
