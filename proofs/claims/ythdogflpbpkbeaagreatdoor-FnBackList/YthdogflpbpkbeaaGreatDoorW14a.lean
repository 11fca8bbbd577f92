import Derived.Test.YthdogflpbpkbeaaGreatDoorT12
set_option linter.defProp false
set_option maxHeartbeats 4000000
set_option maxRecDepth 100000
namespace Go.Proofs.YthdogflpbpkbeaaGreatDoor
open Tryz Go.RowKit Go.Sort Go.BigFrame
section
open Stil
def MX(x:Stil.Elem)(w:AU)(bs:Γ)(ts:Ao)(e:Ending)(w':AU):Prop:=∃a n,e=.returned (.agg #[AB x.op,AE a x.args.length n])/\Sv w' bs (([sl (Ih x.args)],[AE a x.args.length n])::ts)/\AO w w'
def Yb(e:Stil.Elem)(R:e.args.length<=1048576)(y:AW)(w:AU)(bs:Γ)(ts:Ao)(h:Sv w bs ts)(m:Aq w y e.args):Calls prog 60 #[.agg #[AB e.op,y]] w (MX e w bs ts):=by
 have z:=Af (λW(h:AO w W)=>m.below h);obtain⟨l,i,rfl,-⟩:=m;go_enter func60,ntmps60;go_upto_region 1 with fail;have⟨W,c⟩:=AA ((w.alloc (.cells #[AB e.op,AE l e.args.length i] 60)).alloc (.cells #[AB 0,AG] 60));rw[<-c];have d:EU W w.heap.size (AB e.op) (AE l e.args.length i):=xCs;have f:EU W (w.heap.size+1) (AB 0) AG:=xCs;have hS:Sv W ((w.heap.size+1)::bs) ts:=xBj;have g:AO w W:=xCi;clear c h;have⟨H,A,E,q1,J⟩:=id d;have⟨t,u,G,r,K⟩:=id f;go_region_held3 (λs=>(s.c (AL w 0)=some (AB e.op)/\s.c (AL w 1)=some (AE l e.args.length i))) (first|with_reducible assumption|(refine⟨?_,?_⟩<;>exact CJ)) (go_loud (refine Gj rfl rfl (Sv.copyDevs (N:=W.heap.size) (B:=W.heap.size) _ (hS.box (.cells #[] 153)).drew (z.out _ (by exact(Bi g _).drew)) xBk (λb D=>hS.1 b D) BU (DU R BX)) rfl rfl ?_;rintro U q⟨C,Q,rfl,F,I⟩;have j:AO W q:=(Aa W _).drew.grown I BU (λk S=>by cases S;exact DN _);replace d:=d.bel j;replace f:=f.bel j;have⟨H,A,E,q1,J⟩:=id d;have⟨t,u,G,r,K⟩:=id f));all_goals
  try go_wp2
  refine BH (v:=.agg #[AB e.op,AE C e.args.length Q]) (by simp[results,results60,go_sem,u,r]) rfl ?_;exact⟨_,_,rfl,((F.set Av).set Av).sub (λ_ h=>.tail _ h) (λ_ h=>h),by have T:AO w q:=g.tr (j.mo g.size);exact BV⟩
def vj{x:Stil.Elem}{i:Int}{w W:AU}{bs:Γ}{ts:Ao}{a:Δ}{c:Nat}(h:Sv W bs (([sl (Ih x.args)],[AE a x.args.length c])::ts))(b:AO w W):GX Ou 3 73 [⟨i,x⟩] w bs ts (.returned (AE (some (AL W 0)) 1 1)) (W.alloc (.cells #[AB i,AB x.op,AE a x.args.length c] 73)):=
 ⟨_,1,[AB i,AB x.op,AE a x.args.l c],rfl,World.ownsRow_lit W _ 1 b.size CH rfl,((h.mkI (i:=i) (op:=x.op) (ds:=x.args) Av).box _).sub (λ_ h=>h) (BA.2 ⟨.head _,λ_ h=>.tail _ (Ax h)⟩),Bi b _⟩
section
variable {w:AU}{bs:Γ}{ts:Ao}{B B2:Nat}{L M:AP}{xs ys:Θ}{v v2:AW}
def TP(w:AU)(bs:Γ)(ts:Ao)(B:Nat)(v:AW)(K:AP)(c:AW)(w':AU):Prop:=∃a n b,c=AE a K.length n/\w'.ownsRow B 73 3 (AE a K.length n) K.length b/\Sv w' (ob (AE a K.length n)++bs) ((Cc K,b)::ts)/\w.grownBy w' v.ownBlock
theorem fl{x:Stil.Elem}{i:Int}{a:Δ}{c:Nat}(g:AZ)(h:Sv w (ob v++bs) (([sl (Ih x.args)],[AE a x.args.length c])::(Cc L,xs)::ts))(q:w.ownsRow B 73 3 v L.length xs)(s:B<=w.heap.size)(p:L.length<=1900000):
  ∃b d,(Builtin.append_ #[23,23] g #[v,AE (some (AL w 0)) 1 1]).run prog (w.alloc (.cells #[AB i,AB x.op,AE a x.args.length c] 73))=.ok b d/\TP w bs ts B v (L++[⟨i,x⟩]) b d:=by obtain⟨b,d,l,u,o,m,t,j,r,-⟩:=Sv.pushM (f:=Ou) (x:=⟨i,x⟩) (c:=[AB i,AB x.op,AE a x.args.l c]) g kdI (h.mkI (i:=i) (op:=x.op) (ds:=x.args) Av) (Ax (Ax Av)) Av (λ_=>rfl) q s p;exact⟨b,d,l,u,o,_,m,t,j.sub (λ_ h=>h) (BA.2 ⟨.head _,λ_ h=>.tail _ (Ax (Ax (Ax h)))⟩),r⟩
def NA{i:Int}(b:AZ)(h:Sv w (ob v++bs) ((Cc L,xs)::ts))(g:w.ownsRow B 73 3 v L.length xs)(f:B<=w.heap.size)(d:L.length<=1900000):
  ∃a c,(Builtin.append_ #[23,23] b #[v,AE (some (AL w 0)) 1 1]).run prog (w.alloc (.cells #[AB i,AB 0,AG] 73))=.ok a c/\TP w bs ts B v (L++[Gh i]) a c:=
 fl (x:=⟨0,[]⟩) b h.snil g f d
theorem V7(d:AZ)(h:Sv w (ob v2++(ob v++bs)) ((Cc M,ys)::(Cc L,xs)::ts))(o:w.ownsRow B 73 3 v L.length xs)(r:w.ownsRow B2 73 3 v2 M.length ys)(s:B<=w.heap.size)(m:L.length+M.length<=2000000):
  ∃a c,(Builtin.append_ #[23,23] d #[v,v2]).run prog w=.ok a c/\TP w bs ts B v (L++M) a c:=by obtain⟨a,c,i,u,l,j,t,g,p,-⟩:=Sv.appM (f:=Ou) (L:=L) (M:=M) (bs:=bs) d kdI (h.sub (λb q=>EP _ q) (λ_ h=>h)) (Ax Av) Av (λ_=>rfl) (fY xBc) o s m;exact⟨a,c,i,u,l,_,j,t,g.sub (λ_ h=>h) (BA.2 ⟨.head _,λ_ h=>.tail _ (Ax (Ax h))⟩),p⟩
end
variable {bs:Γ}
theorem Sv.copyDevs0{w:AU}{ts:Ao}{u:AW}{ds:Ψ}(j:AZ)(h:Sv w bs ts)(hd:Aq w u ds)(hl:ds.length<=1900000):
  ∃c b,(Builtin.append_ #[58,58] j #[AG,u]).run prog w=.ok c b/\∃a n,c=AE a ds.length n/\Sv b bs (([sl (Ih ds)],[AE a ds.length n])::ts)/\w.grownBy b none:=by have⟨o,l⟩:=h.srcDevs hd;obtain⟨c,b,m,a,n,g,i,d,q,-⟩:=Sv.appM (B:=w.z) (f:=M8) (L:=[]) (v:=AG) (bs:=bs) j kd3 l.nil Av (Ax Av) (λ_=>rfl) o (BJ _ _ _ _) (DN _) B1;rw[ED]at g i d;exact⟨c,b,m,a,n,g,(d.ice Av xBc h.1).sub (λ_ h=>h) B8,q⟩
theorem Kv(e:Stil.Elem)(K:e.args.length<=1048576)(u:AW)(w:AU)(bs:Γ)(ts:Ao)(h:Sv w bs ts)(m:Aq w u e.args):Calls prog 131 #[.agg #[AB e.op,u]] w (MX e w bs ts):=by
 have y:=Af (λW(h:AO w W)=>m.below h);obtain⟨l,i,rfl,-⟩:=m;go_enter func131,ntmps131;go_upto_region 1 with fail;have⟨W,c⟩:=AA ((w.alloc (.cells #[AB e.op,AE l e.args.length i] 60)).alloc (.cells #[AB 0,AG] 60));rw[<-c];have d:EU W w.heap.size (AB e.op) (AE l e.args.length i):=xCs;have f:EU W (w.heap.size+1) (AB 0) AG:=xCs;have hS:Sv W ((w.heap.size+1)::bs) ts:=xBj;have g:AO w W:=xCi;clear c h;have⟨F,z,C,q1,H⟩:=id d;have⟨s,t,E,q,I⟩:=id f;go_region_held3 (λr=>(r.c (AL w 0)=some (AB e.op)/\r.c (AL w 1)=some (AE l e.args.length i))) (first|with_reducible assumption|(refine⟨?_,?_⟩<;>exact CJ)) (go_loud (refine Gj rfl rfl (Sv.copyDevs0 _ hS.drew (y.out _ (by exact g.drew)) (DU K BX)) rfl rfl ?_;rintro R p⟨A,J,rfl,D,G⟩;have j:AO W p:=(BP W.heap.size W).drew.grown G (DN _) (λk N=>by cases N);replace d:=d.bel j;replace f:=f.bel j;have⟨F,z,C,q1,H⟩:=id d;have⟨s,t,E,q,I⟩:=id f));all_goals
  try go_wp2
  refine BH (v:=.agg #[AB e.op,AE A e.args.length J]) (by simp[results,results131,go_sem,t,q]) rfl ?_;exact⟨_,_,rfl,((D.set Av).set Av).sub (λ_ h=>.tail _ h) (λ_ h=>h),by have Q:AO w p:=g.tr (j.mo g.size);exact BV⟩
def Of{α:Type}(f:α->Tr)(k e B:Nat)(v:AW)(K:List α)(w:AU)(bs:Γ)(ts:Ao)(r:Ending)(w':AU):Prop:=∃a n b,r=.returned (AE a K.length n)/\w'.ownsRow B e k (AE a K.length n) K.length b/\Sv w' (ob (AE a K.length n)++bs) ((K.map f,b)::ts)/\w.grownBy w' v.ownBlock
def Ly{a b c:AU}{r:ε}(h:AO a b)(k:b.grownBy c r):a.grownBy c r:=Iy (grown_below h r) k
theorem Sv.at{α:Type}{f:α->Tr}{k:Nat}{L:List α}{w:AU}{ts:Ao}{a:Δ}{n:Nat}(h:Sv w bs ts)(h1:([sl (L.map f)],[AE a L.length n])∈ts)(j:∀x,(f x).sz=k){i:Nat}(hi:i<L.length):∃b o c,a=some (AK b o)/\b<w.heap.size/\Sv w bs (([f L[i]],c)::ts)/\FY w b (o+i*k) c:=by have⟨s,r,e,_,d⟩:=(I9.1 (h.2 _ h1)).read (A:=λb o x=>∃c,TrC (λb=>b∉bs) w (f x) c/\FY w b o c) j λx _ b o c d p=>⟨c,d,p⟩;cases e;have⟨b,o,m,_,l,c,q,g⟩:=d i hi;exact⟨b,o,c,m,l,⟨h.1,BA.2 ⟨Ph.O.2 q,h.2⟩⟩,g⟩
end
variable {Low:Nat}
theorem vo(x y:Stil.Elem)(hx:∀(a:AW)(w:AU)(bs:Γ)(ts:Ao),Sv w bs ts->Aq w a x.args->Calls prog 131 #[.agg #[AB x.op,a]] w (MX y w bs ts))(B j:Nat)(L:Ω)(xs:Θ)(b:Δ)(d:Nat)(a:AW)(w:AU)(bs:Γ)(ts:Ao)(h:Sv w (ob (AE b L.length d)++bs) ((L.map Qx,xs)::ts))(i:w.ownsRow j 60 2 (AE b L.length d) L.length xs)(q:j<=w.heap.size)(l:Aq w a x.args)(J:w.cell? (AK B 0)=some (.func (.func 131) #[] #[]))(I:B<w.heap.size)(hl:L.length<=1900000):
  Calls prog 170 #[AE b L.length d,.agg #[AB x.op,a],AH B] w (Of Qx 2 60 j (AE b L.length d) (L++[y]) w bs ts):=by have r:=Af (λW(h:AO w W)D H E=>hx a W D H E (l.below h));clear hx;obtain⟨o,u,rfl,-⟩:=l;replace hS:=h.alloc (.cells #[AB x.op,AE o x.args.l u] 60);clear h;go_enter func170,ntmps170;go_wp2_with(first|(go_at_call 131;refine(r _ BV _ _ hS).mo ?_;rintro e s⟨t,C,rfl,hS,K⟩;have g:AO w s:=BV;replace i:=ownsRow_below i g;replace hS:=hS.mkE (op:=y.op) (ds:=y.args) Av)|(at_builtin;refine Bj rfl rfl (Sv.pushM (f:=Qx) (x:=y) (c:=[AB y.op,AE t y.args.l C]) _ kd2 hS (Ax (Ax Av)) Av (λ_=>rfl) i (DU q g.size) hl) rfl rfl ?_;rintro Q N⟨m,G,rfl,A,z,F,-⟩));go_ret;exact⟨m,G,_,BU,A,z.sub (λ_ h=>h) (BA.2 ⟨.head _,λ_ h=>(Ax (Ax (Ax (Ax h))))⟩),Ly g F⟩
def z8 {p:Prop}(h:p:=by
 obtain rfl:j=l.length:=by omega
 have hL:=HL.out;rw[JO] at hL;subst hL;clear HL;go_wp2;go_ret;exact⟨ra,rc,xs,rfl,hown,hS,hb⟩):p:=h
def zna{p:Prop}(h:p:=by exact⟨⟨j+1,L++[y],a2,c2,zs,BS,by go_num,BU,aH.symm,hl2,hown2,hS2,((show AO w _ from BV).grown hg2 yDg (λk hk=>(hown.lt k hk).1))⟩,by simp[intOf];omega⟩):p:=h
theorem yq(l:Ω)(g:Stil.Elem->Stil.Elem)(H:∀x∈l,∀(f:AW)(w:AU)(bs:Γ)(ts:Ao),Sv w bs ts->Aq w f x.args->Calls prog 131 #[.agg #[AB x.op,f]] w (MX (g x) w bs ts))(B:Nat)(v:AW)(w:AU)(bs:Γ)(ts:Ao)(h:Sv w bs ts)(I:F9 w v l)(hl:l.length<=999999)(A:w.cell? (AK B 0)=some (.func (.func 131) #[] #[]))(z:B<w.heap.size):
  Calls prog 169 #[v,AG,.func (.func 170) #[] #[AH B]] w (GX Qx 2 60 (l.map g) w bs ts):=by
 obtain⟨a,cap,rfl,t⟩:=I;have N:=Af t;have F:=Af H;have K:=Af A;clear t H A;go_enter func169,ntmps169;go_wp2;go_loopw [1,11] (λd i wr=>∃(j:Nat)(L:Ω)(ra:Δ)(rc:Nat)(xs:Θ),j<=l.length/\i=AB j/\d=AE ra L.length rc/\Hid (L=(l.take j).map g)/\L.length<=999999/\wr.ownsRow w.z 60 2 (AE ra L.length rc) L.length xs/\Sv wr (ob (AE ra L.length rc)++bs) ((L.map Qx,xs)::ts)/\AO w wr) (λ_ i _=>l.length - (intOf i).toNat);case atStart=>exact⟨0,[],none,0,[],BS,rfl,rfl,rfl,BU,BJ _ _ _ _,h.nil,BP _ _⟩
 case round=>clear h;obtain⟨j,L,ra,rc,xs,T,rfl,rfl,HL,Q,hown,hS,hb⟩:=hrel;by_cases q:j<l.length;{obtain⟨b,o,rfl,s,r⟩:=N j q;have⟨J,f,U,m⟩:=r.below hb s;have aH:Hid ((l.take (j+1)).map g=L++[g l[j]]):=(by show _=_;rw[HL.out,EK q,D4];rfl);have hl2:(L++[g l[j]]).length<=999999:=xBp;have c:=F l[j] (DY q);have⟨y,C⟩:=AA (g l[j]);rw[<-C]at aH hl2 c;have⟨x,u⟩:=AA (l[j]);rw[<-u]at J m c;have E:=Af (λW bs ts(h:AO wr W)(hS:Sv W (ob (AE ra L.length rc)++bs) ((L.map Qx,xs)::ts))=>vo x y c B w.z L xs ra rc f W bs ts hS (ownsRow_below hown h) (DU hb.size h.size) (m.below h) (((Bf hb h).cell (p:=(AK B 0)) z).tr K.out) (DO z (DU hb.size h.size)) BS);have S:b<wr.z:=DO s hb.size;clear c C u r HL;obtain⟨D,G,rfl,-⟩:=m;replace hS:=hS.alloc (.cells #[AB x.op,AE D x.args.length G] 60);go_wp2_with(go_at_call 170;refine(E _ _ _ BV hS).mo ?_;rintro e R⟨a2,c2,zs,rfl,hown2,hS2,hg2⟩);exact zna};exact z8
theorem vm(l:Ω)(g:Stil.Elem->Stil.Elem)(H:∀x∈l,∀(b:AW)(w:AU)(bs:Γ)(ts:Ao),Sv w bs ts->Aq w b x.args->Calls prog 131 #[.agg #[AB x.op,b]] w (MX (g x) w bs ts))(v:AW)(w:AU)(bs:Γ)(ts:Ao)(h:Sv w bs ts)(a:F9 w v l)(hl:l.length<=999999):
  Calls prog 130 #[v,.func (.func 131) #[] #[]] w (GX Qx 2 60 (l.map g) w bs ts):=by have r:=Af (λW B j q m(h:AO w W)c d=>yq l g H B v W j q m (a.below h) hl c d);obtain⟨s,y,rfl,-⟩:=a;replace hS:=h.alloc (.cells #[.func (.func 131) #[] #[]] 110);clear H h;go_enter func130,ntmps130;go_wp2_with(go_at_call 169;refine(r _ _ _ _ hS BV xAa BU).mo ?_;rintro e u⟨f,o,xs,rfl,i,hS,t⟩);go_ret;exact⟨f,o,xs,BU,Joins.ownsRow_le i BU,hS,BV⟩
def zJa{p:Prop}(h:p:=by go_ret;exact⟨a6,c6,_,BU,hown6,hS6.sub (λ_ h=>h) (BA.2 ⟨.head _,λ_ h=>(Ax (Ax (Ax h)))⟩),Ly hbw aF⟩):p:=h
theorem yt(x y:Stil.DK)(hx:JJ 132 x y)(B g:Nat)(L:Ξ)(xs:Θ)(a:Δ)(b:Nat)(j i:AW)(w:AU)(bs:Γ)(ts:Ao)(h:Sv w (ob (AE a L.length b)++bs) ((L.map G8,xs)::ts))(d:w.ownsRow g 63 4 (AE a L.length b) L.length xs)(r:g<=w.heap.size)(l:Aq w j x.O.args)(m:Eg w i x.K)(J:w.cell? (AK B 0)=some (.func (.func 132) #[] #[]))(I:B<w.heap.size)(hl:L.length<=1900000):
  Calls prog 195 #[AE a L.length b,.agg #[AB x.kind,AB x.O.op,j,i],AH B] w (Of G8 4 63 g (AE a L.length b) (L++[y]) w bs ts):=by have s:=Af (λW(h:AO w W)E H G=>hx j i W E H G (l.below h) (m.below h));clear hx;obtain⟨q,C,rfl,-⟩:=l;obtain⟨t,o,rfl,-⟩:=m;replace hS:=h.alloc (A2 x q C t o 63);clear h;go_enter func195,ntmps195;go_wp2_with(first|(go_at_call 132;refine(s _ BV _ _ hS).mo ?_;rintro e u⟨A,D,F,z,rfl,hS,K⟩;have hbw:AO w u:=BV;replace d:=ownsRow_below d hbw)|(at_builtin;refine Bj rfl rfl (Sv.pushM (f:=G8) (x:=y) (c:=A3 y A D F z) _ kd4 hS (Ax Av) Av Qz d (DU r hbw.size) hl) rfl rfl ?_;rintro Q N⟨a6,c6,rfl,hown6,hS6,aF,-⟩));exact zJa
theorem Avu(l:Ξ)(g:Stil.DK->Stil.DK)(H:∀x∈l,JJ 132 x (g x))(B:Nat)(v:AW)(w:AU)(bs:Γ)(ts:Ao)(h:Sv w bs ts)(K:Eg w v l)(hl:l.length<=999999)(A:w.cell? (AK B 0)=some (.func (.func 132) #[] #[]))(z:B<w.heap.size):
  Calls prog 194 #[v,AG,.func (.func 195) #[] #[AH B]] w (GX G8 4 63 (l.map g) w bs ts):=by
 obtain⟨a,cap,rfl,t⟩:=K;have U:=Af t;have G:=Af H;have R:=Af A;clear t H A;go_enter func194,ntmps194;go_wp2;go_loopw [1,11] (λd i wr=>∃(j:Nat)(L:Ξ)(ra:Δ)(rc:Nat)(xs:Θ),j<=l.length/\i=AB j/\d=AE ra L.length rc/\Hid (L=(l.take j).map g)/\L.length<=999999/\wr.ownsRow w.z 63 4 (AE ra L.length rc) L.length xs/\Sv wr (ob (AE ra L.length rc)++bs) ((L.map G8,xs)::ts)/\AO w wr) (λ_ i _=>l.length - (intOf i).toNat);case atStart=>exact⟨0,[],none,0,[],BS,rfl,rfl,rfl,BU,BJ _ _ _ _,h.nil,BP _ _⟩
 case round=>clear h;obtain⟨j,L,ra,rc,xs,hj,rfl,rfl,HL,V,hown,hS,hb⟩:=hrel;by_cases m:j<l.length;{obtain⟨b,o,rfl,s,r⟩:=U j m;have⟨N,T,S,Q,x2,X,f,q⟩:=(Og.below hb _ _ _ r s).open;have aH:Hid ((l.take (j+1)).map g=L++[g l[j]]):=(by show _=_;rw[HL.out,EK m,D4];rfl);have hl2:(L++[g l[j]]).length<=999999:=xBp;have c:=G l[j] (DY m);have⟨y,C⟩:=AA (g l[j]);rw[<-C]at aH hl2 c;have⟨x,u⟩:=AA (l[j]);rw[<-u]at N T f q c;have F:=Af (λW bs ts(h:AO wr W)(hS:Sv W (ob (AE ra L.length rc)++bs) ((L.map G8,xs)::ts))=>yt x y c B w.z L xs ra rc S Q W bs ts hS (ownsRow_below hown h) (DU hb.size h.size) (f.below h) (q.below h) (((Bf hb h).cell (p:=(AK B 0)) z).tr R.out) (DO z (DU hb.size h.size)) BS);have Z:b<wr.z:=DO s hb.size;clear c C u r HL;obtain⟨E,J,rfl,-⟩:=f;obtain⟨I,D,rfl,-⟩:=q;replace hS:=hS.alloc (A2 x E J I D 63);go_wp2_with(go_at_call 195;refine(F _ _ _ BV hS).mo ?_;rintro e Y⟨a2,c2,zs,rfl,hown2,hS2,hg2⟩);exact zna};exact z8
theorem yh(l:Ξ)(g:Stil.DK->Stil.DK)(H:∀x∈l,JJ 132 x (g x))(v:AW)(w:AU)(bs:Γ)(ts:Ao)(h:Sv w bs ts)(a:Eg w v l)(hl:l.length<=999999):
  Calls prog 171 #[v,.func (.func 132) #[] #[]] w (GX G8 4 63 (l.map g) w bs ts):=by have q:=Af (λW B i o j(h:AO w W)b c=>Avu l g H B v W i o j (a.below h) hl b c);obtain⟨r,u,rfl,-⟩:=a;replace hS:=h.alloc (.cells #[.func (.func 132) #[] #[]] 193);clear H h;go_enter func171,ntmps171;go_wp2_with(go_at_call 194;refine(q _ _ _ _ hS BV xAa BU).mo ?_;rintro e t⟨d,m,xs,rfl,f,hS,s⟩);go_ret;exact⟨d,m,xs,BU,Joins.ownsRow_le f BU,hS,BV⟩
theorem yv(x y:Stil.DL)(hx:LY 84 x y)(B i:Nat)(L:Ek)(xs:Θ)(a:Δ)(b:Nat)(m g j l:AW)(w:AU)(bs:Γ)(ts:Ao)(h:Sv w (ob (AE a L.length b)++bs) ((L.map J9,xs)::ts))(d:w.ownsRow i 66 6 (AE a L.length b) L.length xs)(D:i<=w.heap.size)(q:Aq w m x.N.O.args)(o:Eg w g x.N.K)(r:F9 w j x.C)(s:Dj w l x.K)(aa:w.cell? (AK B 0)=some (.func (.func 84) #[] #[]))(Z:B<w.heap.size)(hl:L.length<=1900000):
  Calls prog 129 #[AE a L.length b,.agg #[AB x.N.kind,AB x.N.O.op,m,g,j,l],AH B] w (Of J9 6 66 i (AE a L.length b) (L++[y]) w bs ts):=by have E:=Af (λW(h:AO w W)S Y U=>hx m g j l W S Y U (q.below h) (o.below h) (r.below h) (s.below h));clear hx;obtain⟨z,K,rfl,-⟩:=q;obtain⟨F,t,rfl,-⟩:=o;obtain⟨X,H,rfl,-⟩:=r;obtain⟨N,A,rfl,-⟩:=s;replace hS:=h.alloc (A5 x z K F t X H N A 66);clear h;go_enter func129,ntmps129;go_wp2_with(first|(go_at_call 84;refine(E _ BV _ _ hS).mo ?_;rintro e G⟨J,R,T,I,Q,C,u,V,rfl,hS,ab⟩;have hbw:AO w G:=BV;replace d:=ownsRow_below d hbw)|(at_builtin;refine Bj rfl rfl (Sv.pushM (f:=J9) (x:=y) (c:=A6 y J R T I Q C u V) _ kd6 hS (Ax Av) Av Un d (DU D hbw.size) hl) rfl rfl ?_;rintro v6 w6⟨a6,c6,rfl,hown6,hS6,aF,-⟩));exact zJa
theorem Avv(l:Ek)(g:Stil.DL->Stil.DL)(H:∀x∈l,LY 84 x (g x))(B:Nat)(v:AW)(w:AU)(bs:Γ)(ts:Ao)(h:Sv w bs ts)(J:Dj w v l)(hl:l.length<=999999)(D:w.cell? (AK B 0)=some (.func (.func 84) #[] #[]))(C:B<w.heap.size):
  Calls prog 128 #[v,AG,.func (.func 129) #[] #[AH B]] w (GX J9 6 66 (l.map g) w bs ts):=by
 obtain⟨a,cap,rfl,u⟩:=J;have HA:=Af u;have U:=Af H;have N:=Af D;clear u H D;go_enter func128,ntmps128;go_wp2;go_loopw [1,11] (λd i wr=>∃(j:Nat)(L:Ek)(ra:Δ)(rc:Nat)(xs:Θ),j<=l.length/\i=AB j/\d=AE ra L.length rc/\Hid (L=(l.take j).map g)/\L.length<=999999/\wr.ownsRow w.z 66 6 (AE ra L.length rc) L.length xs/\Sv wr (ob (AE ra L.length rc)++bs) ((L.map J9,xs)::ts)/\AO w wr) (λ_ i _=>l.length - (intOf i).toNat);case atStart=>exact⟨0,[],none,0,[],BS,rfl,rfl,rfl,BU,BJ _ _ _ _,h.nil,BP _ _⟩
 case round=>clear h;obtain⟨j,L,ra,rc,xs,hj,rfl,rfl,HL,fO,hown,hS,hb⟩:=hrel;by_cases r:j<l.length;{obtain⟨b,o,rfl,t,A⟩:=HA j r;have⟨Z,cv,kv,x4,x5,s,m⟩:=(Pg.below hb _ _ _ A t).open;have⟨K,x1,av,T,x2,x3,q,f⟩:=Z.open;have aH:Hid ((l.take (j+1)).map g=L++[g l[j]]):=(by show _=_;rw[HL.out,EK r,D4];rfl);have hl2:(L++[g l[j]]).length<=999999:=xBp;have c:=U l[j] (DY r);have⟨y,E⟩:=AA (g l[j]);rw[<-E]at aH hl2 c;have⟨x,z⟩:=AA (l[j]);rw[<-z]at K x1 q f s m c;have S:=Af (λW bs ts(h:AO wr W)(hS:Sv W (ob (AE ra L.length rc)++bs) ((L.map J9,xs)::ts))=>yv x y c B w.z L xs ra rc av T cv kv W bs ts hS (ownsRow_below hown h) (DU hb.size h.size) (q.below h) (f.below h) (s.below h) (m.below h) (((Bf hb h).cell (p:=(AK B 0)) C).tr N.out) (DO C (DU hb.size h.size)) BS);have aa:b<wr.z:=DO t hb.size;clear c E z A HL;obtain⟨G,Y,rfl,-⟩:=q;obtain⟨V,F,rfl,-⟩:=f;obtain⟨Q,X,rfl,-⟩:=s;obtain⟨I,R,rfl,-⟩:=m;replace hS:=hS.alloc (A5 x G Y V F Q X I R 66);go_wp2_with(go_at_call 129;refine(S _ _ _ BV hS).mo ?_;rintro e w2⟨a2,c2,zs,rfl,hown2,hS2,hg2⟩);exact zna};exact z8
theorem XP(l:Ek)(g:Stil.DL->Stil.DL)(H:∀x∈l,LY 84 x (g x))(v:AW)(w:AU)(bs:Γ)(ts:Ao)(h:Sv w bs ts)(a:Dj w v l)(hl:l.length<=999999):
  Calls prog 83 #[v,.func (.func 84) #[] #[]] w (GX J9 6 66 (l.map g) w bs ts):=by have q:=Af (λW B i o j(h:AO w W)b c=>Avv l g H B v W i o j (a.below h) hl b c);obtain⟨r,u,rfl,-⟩:=a;replace hS:=h.alloc (.cells #[.func (.func 84) #[] #[]] 143);clear H h;go_enter func83,ntmps83;go_wp2_with(go_at_call 128;refine(q _ _ _ _ hS BV xAa BU).mo ?_;rintro e t⟨d,m,xs,rfl,f,hS,s⟩);go_ret;exact⟨d,m,xs,BU,Joins.ownsRow_le f BU,hS,BV⟩
open Stil
structure Rn where
 kind:Int
 op:Int
 ds:List Stil.DR
 av:AW
 kv:AW
 K:List Rn
theorem ez(P:Rn->Prop)(h:∀k op c a b kids,(∀x∈kids,P x)->P ⟨k,op,c,a,b,kids⟩):∀n,P n
 |⟨k,op,c,a,b,kids⟩=>h k op c a b kids (λx _=>ez P h x)
def Rn.N:Rn->Stil.DK
 |⟨k,op,ds,_,_,kids⟩=>⟨k,⟨op,ds⟩,kids.map Rn.N⟩
def Rn.Ne(m:Rn):m.N=⟨m.kind,⟨m.op,m.ds⟩,m.K.map Rn.N⟩:=by obtain⟨k,op,ds,av,kv,kids⟩:=m;rw[Rn.N]
structure IC where
 op:Int
 ds:List Stil.DR
 av:AW
def IC.elem(m:IC):Stil.Elem:=⟨m.op,m.ds⟩
structure P9 where
 N:Rn
 cv:AW
 C:List IC
 kv:AW
 K:List P9
theorem e8(P:P9->Prop)(h:∀n b a c kids,(∀x∈kids,P x)->P ⟨n,b,a,c,kids⟩):∀n,P n
 |⟨n,b,a,c,kids⟩=>h n b a c kids (λx _=>e8 P h x)
def P9.A:P9->Stil.DL
 |⟨n,_,a,_,kids⟩=>⟨n.N,a.map IC.elem,kids.map P9.A⟩
def P9.Ae(m:P9):m.A=⟨m.N.N,m.C.map IC.elem,m.K.map P9.A⟩:=by obtain⟨n,cv,a,kv,kids⟩:=m;rw[P9.A]
def Wj(w:AU)(b o:Nat)(t:Rn):Prop:=w.cell? (AK b o)=some (AB t.kind)/\w.cell? (AK b (o+1))=some (AB t.op)/\w.cell? (AK b (o+2))=some t.av/\w.cell? (AK b (o+3))=some t.kv
def Xq(w:AU)(b o:Nat)(m:P9):Prop:=Wj w b o m.N/\w.cell? (AK b (o+4))=some m.cv/\w.cell? (AK b (o+5))=some m.kv
def SlR{α:Type}(Low k:Nat)(A:Nat->Nat->α->Prop)(v:AW)(l:List α):Prop:=∃(a:Δ)(cap:Nat),v=AE a l.length cap/\F4 a l.length cap/\∀i(h:i<l.length),∃b o,a=some (AK b o)/\b<Low/\A b (o+i*k) l[i]
def NOk(Low:Nat)(w:AU):Rn->Prop
 |⟨_,_,c,a,b,kids⟩=>Aq w a c/\SlR Low 4 (Wj w) b kids/\∀p∈kids.map (NOk Low w),p
def LF{w:AU}{m:Rn}:NOk Low w m↔Aq w m.av m.ds/\SlR Low 4 (Wj w) m.kv m.K/\∀x∈m.K,NOk Low w x:=by obtain⟨k,op,c,a,b,kids⟩:=m;rw[NOk,Stil.all_map]
def PZ(w:AU)(b o:Nat)(e:IC):Prop:=w.cell? (AK b o)=some (AB e.op)/\w.cell? (AK b (o+1))=some e.av
def VOk(Low:Nat)(w:AU):P9->Prop
 |⟨n,b,a,c,kids⟩=>NOk Low w n/\(SlR Low 2 (PZ w) b a/\∀e∈a,Aq w e.av e.ds)/\SlR Low 6 (Xq w) c kids/\∀p∈kids.map (VOk Low w),p
def OO{w:AU}{m:P9}:VOk Low w m↔NOk Low w m.N/\(SlR Low 2 (PZ w) m.cv m.C/\∀e∈m.C,Aq w e.av e.ds)/\SlR Low 6 (Xq w) m.kv m.K/\∀x∈m.K,VOk Low w x:=by obtain⟨n,b,a,c,kids⟩:=m;rw[VOk,Stil.all_map]
theorem XH{α β:Type}{Q:Nat->β->α->Prop}:∀(l:List α)(n:Nat),(∀i(h:i<l.length),∃m,Q (n+i) m l[i])->∃c:List β,c.length=l.length/\∀i(d:i<c.length)(f:i<l.length),Q (n+i) c[i] l[i]
 |[],_,_=>⟨[],rfl,λi h=>by cases h⟩
 |x::l,n,h=>by
  obtain⟨m,g⟩:=h 0 BU;obtain⟨c,d,f⟩:=XH l (n+1) λi hi=>by have:=h (i+1) B1;rwa [show n+(i+1)=n+1+i by omega]at this
  refine⟨m::c,xCw,λi a b=>?_⟩;cases i with
  |zero=>exact g
  |succ i=>have:=f i (by simpa using a) (by simpa using b);rwa [show n+1+i=n+(i+1) by omega]at this
section
variable {v:Value}
variable {P:Nat -> Prop}{w:World}
theorem SlR.of{α β:Type}{r:α->Tr}{k:Nat}{f:β->α}{A:Nat->Nat->β->Prop}{B:β->Prop}{l:List α}(h:SlC P w (l.map r) v)(D:∀x,(r x).sz=k)(F:∀x∈l,∀b o c,TrC P w (r x) c->FY w b o c->∃m,f m=x/\A b o m/\B m):∃d:List β,d.map f=l/\SlR w.heap.size k A v d/\∀m∈d,B m:=by
 have⟨a,cap,E,C,u⟩:=h.read (A:=λb o x=>∃m,f m=x/\A b o m/\B m) D F;have⟨d,g,j⟩:=XH (Q:=λi m x=>f m=x/\B m/\∃b o,a=some (AK b o)/\b<w.z/\A b (o+i*k) m) l 0 λi hi=>by have⟨b,o,e,_,z,m,s,t,q⟩:=u i hi;exact⟨m,s,q,b,o,e,z,by rwa [EF]⟩
 refine⟨d,List.ext_getElem (by rw[Db,g]) λi a b=>?_,⟨a,cap,by rwa[g],by rwa[g],λi hi=>?_⟩,λm y=>?_⟩
 .rw[Fo];exact(j i (by simpa using a) b).1
 .have⟨_,_,b,o,s,t,q⟩:=j i hi BS;exact⟨b,o,s,t,by rwa [EF]at q⟩
 obtain⟨i,hi,rfl⟩:=List.mem_iff_getElem.1 y;exact(j i hi BS).2.1
theorem mN:∀(n:Stil.DK)(b o:Nat)(c:Θ),TrC P w (G8 n) c->FY w b o c->∃m:Rn,m.N=n/\Wj w b o m/\NOk w.heap.size w m:=by
 intro n;induction n using Gp with
 |h k e kids j=>intro b o c h a;obtain⟨v,u,rfl,f,i⟩:=K9.1 h;have⟨d,l,g,p⟩:=SlR.of i Qz j;refine⟨⟨k,e.op,e.args,v,u,d⟩,by rw[Rn.Ne,l],⟨a 0 _ rfl,a 1 _ rfl,a 2 _ rfl,a 3 _ rfl⟩,LF.2 ⟨(Py f).at,g,p⟩⟩
theorem nH:∀(n:Stil.DL)(b o:Nat)(c:Θ),TrC P w (J9 n) c->FY w b o c->∃m:P9,m.A=n/\Xq w b o m/\VOk w.heap.size w m:=by
 intro n;induction n using Fz with
 |h n K kids t=>
  intro b o c h a;obtain⟨v,u,x,y,rfl,d,p,z,g⟩:=MF.1 h;have⟨ns,i,G,q⟩:=SlR.of p Qz λx _=>mN x;have⟨C,s,F,H⟩:=SlR.of (f:=IC.elem) (A:=PZ w) (B:=λe=>Aq w e.av e.ds) (k:=2) z (λ_=>rfl) λe _ b o c h a=>by obtain⟨v,rfl,d⟩:=Rm.1 h;exact⟨⟨e.op,e.args,v⟩,rfl,⟨a 0 _ rfl,a 1 _ rfl⟩,(Py d).at⟩
  have⟨j,r,I,l⟩:=SlR.of g Un t;obtain⟨D,⟨no,E⟩,J⟩:=n;refine⟨⟨⟨D,no,E,v,u,ns⟩,x,C,y,j⟩,by rw[P9.Ae,Rn.Ne];simp only[i,s,r],⟨⟨a 0 _ rfl,a 1 _ rfl,a 2 _ rfl,a 3 _ rfl⟩,a 4 _ rfl,a 5 _ rfl⟩,OO.2 ⟨LF.2 ⟨(Py d).at,G,q⟩,⟨F,H⟩,I,l⟩⟩
def Sv.V{bs:Γ}{ts:Ao}{L:Ek}(h:Sv w bs ts)(h1:([sl (I8 L)],[v])∈ts):∃a:List P9,a.map P9.A=L/\SlR w.heap.size 6 (Xq w) v a/\∀m∈a,VOk w.heap.size w m:=
 SlR.of (I9.1 (h.2 _ h1)) Un λx _=>nH x
end
variable {B O e k n:Nat}{bs:Γ}{v x:AW}{xs:Θ}
structure MI where
 code:Int
 e:IC
def MI.val(m:MI):AW:=.agg #[AB m.code,AB m.e.op,m.e.av]
def MI.inst(m:MI):Stil.Ar:=⟨m.code,m.e.elem⟩
def mi0(k:Int):MI:=⟨k,⟨0,[],AG⟩⟩
def MI.cells(m:MI):Θ:=[AB m.code,AB m.e.op,m.e.av]
def Pn(l:List MI):Θ:=l.flatMap MI.cells
def vg(l:List MI)(m:MI):Pn (l++[m])=Pn l++m.cells:=by simp[Pn]
def zVa {p:Prop}(h:p:=by
 simp only[FZ,EN]at h⊢;rcases h with h|h|h
 .exact .inr (.inl h)
 .exact .inl h
 exact .inr (.inr h)):p:=h
def TK{b:Nat}{A:Γ}(h:b∈A++O::bs):b∈O::(A++bs):=by exact zVa
def SY(n:Stil.DK):(⟨n.kind,⟨n.O.op,n.O.args⟩,n.K⟩:Stil.DK)=n:=by obtain⟨_,_,_⟩:=n;rfl
def own_ne{w:AU}(h:w.ownsRow B e k v n xs){b:Nat}(a:w.heap.size<=b):v.ownBlock≠some b:=λe=>by have:=(h.lt _ e).2;omega
def Dk{w:AU}{b o:Nat}(h:w.ownsRow B e k v n xs)(a:v.ownBlock≠some b):(w.setCell (AK b o) x).ownsRow B e k v n xs:=h.kept (Ho w b o x) (.inr a)
theorem Sv.armOf{w:AU}{ts us:Ao}{N:Stil.DK}{C:Ω}{ks:Ek}{u y:AW}{R:Nat}(h:Sv w (O::(ob x++R::bs)) us)(h1:(Hy C,xs)∈us)(d:([G8 N],[AB N.kind,AB N.O.op,v,u])∈us)(m:([sl (I8 ks)],[y])∈us)(j:w.ownsRow B 60 2 x C.length xs)(f:R<B)(c:∀b∈bs,b<B)(o:∀z∈ts,z∈us):Sv w (R::bs) (([J9 ⟨N,C,ks⟩],[AB N.kind,AB N.O.op,v,u,x,y])::ts):=by obtain⟨i,⟨op,ds⟩,ns⟩:=N;have hi:=Sv.ice (bs:=R::bs) (h.sub (λb c=>.tail _ c) λ_ h=>h) h1 xBc (BA.2 ⟨f,c⟩);have⟨a,p,b,q,l,g⟩:=hi.opN (Ax d);cases l;exact(g.mkA (i:=i) (op:=op) (ds:=ds) (ns:=ns) (es:=C) (ms:=ks) Av (Ax Av) (Ax (Ax Av)) (Ax (Ax (Ax m)))).sub (λ_ h=>h) (BA.2 ⟨.head _,λz r=>.tail _ (Ax (Ax (Ax (o z r))))⟩)
