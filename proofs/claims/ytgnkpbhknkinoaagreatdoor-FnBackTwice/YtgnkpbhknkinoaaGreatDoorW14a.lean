import Derived.Test.YtgnkpbhknkinoaaGreatDoorT12
import Derived.Test.YtgnkpbhknkinoaaGreatDoorGL
import Derived.Test.YtgnkpbhknkinoaaGreatDoorGO
set_option linter.defProp false
set_option maxHeartbeats 2000000
set_option maxRecDepth 100000
namespace Go.Proofs.YtgnkpbhknkinoaaGreatDoor
open Tryz Stil Go.RowKit Go.Sort Go.BigFrame
variable {Low:Nat}
structure Rj where
 kind:Int
 op:Int
 ds:List Stil.DN
 av:AW
 kv:AW
 K:List Rj
theorem cY(P:Rj->Prop)(h:∀k op c a b kids,(∀x∈kids,P x)->P ⟨k,op,c,a,b,kids⟩):∀n,P n
 |⟨k,op,c,a,b,kids⟩=>h k op c a b kids (λx _=>cY P h x)
def Rj.N:Rj->Stil.DI
 |⟨k,op,ds,_,_,kids⟩=>⟨k,⟨op,ds⟩,kids.map Rj.N⟩
def Rj.Ne(m:Rj):m.N=⟨m.kind,⟨m.op,m.ds⟩,m.K.map Rj.N⟩:=by obtain⟨k,op,ds,av,kv,kids⟩:=m;rw[Rj.N]
structure Hv where
 op:Int
 ds:List Stil.DN
 av:AW
def Hv.elem(m:Hv):Stil.Elem:=⟨m.op,m.ds⟩
structure P6 where
 N:Rj
 cv:AW
 C:List Hv
 kv:AW
 K:List P6
theorem cq(P:P6->Prop)(h:∀n a c b kids,(∀x∈kids,P x)->P ⟨n,a,c,b,kids⟩):∀n,P n
 |⟨n,a,c,b,kids⟩=>h n a c b kids (λx _=>cq P h x)
def P6.A:P6->Stil.DJ
 |⟨n,_,a,_,kids⟩=>⟨n.N,a.map Hv.elem,kids.map P6.A⟩
def P6.Ae(m:P6):m.A=⟨m.N.N,m.C.map Hv.elem,m.K.map P6.A⟩:=by obtain⟨n,cv,a,kv,kids⟩:=m;rw[P6.A]
def We(w:AU)(b o:Nat)(t:Rj):Prop:=w.cell? (AK b o)=some (AB t.kind)/\w.cell? (AK b (o+1))=some (AB t.op)/\w.cell? (AK b (o+2))=some t.av/\w.cell? (AK b (o+3))=some t.kv
def Xk(w:AU)(b o:Nat)(m:P6):Prop:=We w b o m.N/\w.cell? (AK b (o+4))=some m.cv/\w.cell? (AK b (o+5))=some m.kv
def SlR{α:Type}(Low k:Nat)(A:Nat->Nat->α->Prop)(v:AW)(l:List α):Prop:=∃(a:Option Ab)(cap:Nat),v=AE a l.length cap/\Fo a l.length cap/\∀i(h:i<l.length),∃b o,a=some (AK b o)/\b<Low/\A b (o+i*k) l[i]
def NOk(Low:Nat)(w:AU):Rj->Prop
 |⟨_,_,c,a,b,kids⟩=>Ar w a c/\SlR Low 4 (We w) b kids/\∀p∈kids.map (NOk Low w),p
def K8{w:AU}{m:Rj}:NOk Low w m↔Ar w m.av m.ds/\SlR Low 4 (We w) m.kv m.K/\∀x∈m.K,NOk Low w x:=by obtain⟨k,op,c,a,b,kids⟩:=m;rw[NOk,Stil.all_map]
def PP(w:AU)(b o:Nat)(e:Hv):Prop:=w.cell? (AK b o)=some (AB e.op)/\w.cell? (AK b (o+1))=some e.av
def VOk(Low:Nat)(w:AU):P6->Prop
 |⟨n,b,a,c,kids⟩=>NOk Low w n/\(SlR Low 2 (PP w) b a/\∀e∈a,Ar w e.av e.ds)/\SlR Low 6 (Xk w) c kids/\∀p∈kids.map (VOk Low w),p
def OO{w:AU}{m:P6}:VOk Low w m↔NOk Low w m.N/\(SlR Low 2 (PP w) m.cv m.C/\∀e∈m.C,Ar w e.av e.ds)/\SlR Low 6 (Xk w) m.kv m.K/\∀x∈m.K,VOk Low w x:=by obtain⟨n,a,b,c,kids⟩:=m;rw[VOk,Stil.all_map]
theorem XQ{α β:Type}{Q:Nat->β->α->Prop}:∀(l:List α)(n:Nat),(∀i(h:i<l.length),∃m,Q (n+i) m l[i])->∃c:List β,c.length=l.length/\∀i(d:i<c.length)(f:i<l.length),Q (n+i) c[i] l[i]
 |[],_,_=>⟨[],rfl,λi h=>by cases h⟩
 |x::l,n,h=>by
  obtain⟨m,g⟩:=h 0 BU;obtain⟨c,d,f⟩:=XQ l (n+1) λi hi=>by have:=h (i+1) Bw;rwa [show n+(i+1)=n+1+i by omega]at this
  refine⟨m::c,by simp[d],λi a b=>?_⟩;cases i with
  |zero=>exact g
  |succ i=>have:=f i xCk (by simpa using b);rwa [show n+1+i=n+(i+1) by omega]at this
section
variable {v:Value}
variable {P:Nat -> Prop}{w:World}
theorem SlR.of{α β:Type}{g:α->Tr}{k:Nat}{f:β->α}{A:Nat->Nat->β->Prop}{B:β->Prop}{l:List α}(h:SlC P w (l.map g) v)(y:∀x,(g x).sz=k)(u:∀x∈l,∀b o c,TrC P w (g x) c->FT w b o c->∃m,f m=x/\A b o m/\B m):∃d:List β,d.map f=l/\SlR w.heap.size k A v d/\∀m∈d,B m:=by
 have⟨a,cap,z,E,C⟩:=h.read (A:=λb o x=>∃m,f m=x/\A b o m/\B m) y u;have⟨d,r,j⟩:=XQ (Q:=λi m x=>f m=x/\B m/\∃b o,a=some (AK b o)/\b<w.z/\A b (o+i*k) m) l 0 λi hi=>by have⟨b,o,e,_,F,m,s,t,q⟩:=C i hi;exact⟨m,s,q,b,o,e,F,by rwa [ED]⟩
 refine⟨d,List.ext_getElem (by rw[DZ,r]) λi a b=>?_,⟨a,cap,by rwa[r],by rwa[r],λi hi=>?_⟩,λm D=>?_⟩
 .rw[FW];exact(j i xCk b).1
 .have⟨_,_,b,o,s,t,q⟩:=j i hi BS;exact⟨b,o,s,t,by rwa [ED]at q⟩
 obtain⟨i,hi,rfl⟩:=List.mem_iff_getElem.1 D;exact(j i hi BS).2.1
theorem kF:∀(n:Stil.DI)(b o:Nat)(c:List AW),TrC P w (Gy n) c->FT w b o c->∃m:Rj,m.N=n/\We w b o m/\NOk w.heap.size w m:=by
 intro n;induction n using Gs with
 |h k e kids l=>intro b o c h a;obtain⟨v,u,rfl,f,j⟩:=K5.1 h;have⟨i,p,g,d⟩:=SlR.of j Qv l;refine⟨⟨k,e.op,e.args,v,u,i⟩,by rw[Rj.Ne,p],⟨a 0 _ rfl,a 1 _ rfl,a 2 _ rfl,a 3 _ rfl⟩,K8.2 ⟨(Pn f).at,g,d⟩⟩
theorem kx:∀(n:Stil.DJ)(b o:Nat)(c:List AW),TrC P w (J6 n) c->FT w b o c->∃m:P6,m.A=n/\Xk w b o m/\VOk w.heap.size w m:=by
 intro n;induction n using Fv with
 |h n K kids G=>
  intro b o c h a;obtain⟨v,u,x,y,rfl,d,D,H,s⟩:=MC.1 h;have⟨ns,t,E,F⟩:=SlR.of D Qv λx _=>kF x;have⟨q,i,g,z⟩:=SlR.of (f:=Hv.elem) (A:=PP w) (B:=λe=>Ar w e.av e.ds) (k:=2) H (λ_=>rfl) λe _ b o c h a=>by obtain⟨v,rfl,d⟩:=RV.1 h;exact⟨⟨e.op,e.args,v⟩,rfl,⟨a 0 _ rfl,a 1 _ rfl⟩,(Pn d).at⟩
  have⟨j,r,C,l⟩:=SlR.of s Uj G;obtain⟨p,⟨no,I⟩,J⟩:=n;refine⟨⟨⟨p,no,I,v,u,ns⟩,x,q,y,j⟩,by rw[P6.Ae,Rj.Ne];simp only[t,i,r],⟨⟨a 0 _ rfl,a 1 _ rfl,a 2 _ rfl,a 3 _ rfl⟩,a 4 _ rfl,a 5 _ rfl⟩,OO.2 ⟨K8.2 ⟨(Pn d).at,E,F⟩,⟨g,z⟩,C,l⟩⟩
def Sv.V{bs:List Nat}{ts:Ao}{L:List Stil.DJ}(h:Sv w bs ts)(h1:([sl (Iy L)],[v])∈ts):∃a:List P6,a.map P6.A=L/\SlR w.heap.size 6 (Xk w) v a/\∀m∈a,VOk w.heap.size w m:=
 SlR.of (Iz.1 (h.2 _ h1)) Uj λx _=>kx x
end
variable {B O e k n o:Nat}{bs:List Nat}{v v1 v2 v3 v4 v5 x:AW}{w':AU}{xs:List AW}
structure MI where
 code:Int
 e:Hv
def MI.val(m:MI):AW:=.agg #[AB m.code,AB m.e.op,m.e.av]
def MI.inst(m:MI):Stil.Aw:=⟨m.code,m.e.elem⟩
def mi0(k:Int):MI:=⟨k,⟨0,[],AG⟩⟩
def MI.cells(m:MI):List AW:=[AB m.code,AB m.e.op,m.e.av]
def Ph(l:List MI):List AW:=l.flatMap MI.cells
def tn(l:List MI)(m:MI):Ph (l++[m])=Ph l++m.cells:=by simp[Ph]
theorem K3{W:AU}{p q:Ab}:(W.setCell p v).frozen? q=W.frozen? q:=AP
def B6(w:AU)(b:Nat)(v0 v1 v2 v3 v4 v5:AW):Prop:=b<w.heap.size/\(w.cell? (AK b 0)=some v0/\w.cell? (AK b 1)=some v1/\w.cell? (AK b 2)=some v2/\w.cell? (AK b 3)=some v3/\w.cell? (AK b 4)=some v4/\w.cell? (AK b 5)=some v5)/\∀o,o<6->w.frozen? (AK b o)=false
theorem B6.below{w:AU}{b:Nat}{v0:AW}(h:B6 w b v0 v1 v2 v3 v4 v5)(a:Below n w w')(c:b<n):B6 w' b v0 v1 v2 v3 v4 v5:=by obtain⟨i,⟨d,r,l,q,g,j⟩,f⟩:=h;refine⟨DL i a.size,⟨(a.cell (p:=(AK b 0)) c).tr d,(a.cell (p:=(AK b 1)) c).tr r,(a.cell (p:=(AK b 2)) c).tr l,(a.cell (p:=(AK b 3)) c).tr q,(a.cell (p:=(AK b 4)) c).tr g,(a.cell (p:=(AK b 5)) c).tr j⟩,λo m=>(a.frozen (p:=(AK b o)) c).tr (f o m)⟩
def B6.at{w:AU}{b:Nat}{v0:AW}(h:B6 w b v0 v1 v2 v3 v4 v5)(a:AO w w'):B6 w' b v0 v1 v2 v3 v4 v5:=h.below a h.1
theorem B6.grown{w:AU}{b:Nat}{r:Option Nat}{v0:AW}(h:B6 w b v0 v1 v2 v3 v4 v5)(hg:w.grownBy w' r)(c:r≠some b):B6 w' b v0 v1 v2 v3 v4 v5:=by obtain⟨a,⟨d,p,j,m,g,i⟩,f⟩:=h;exact⟨DL a hg.size,⟨(Gm hg a c).tr d,(Gm hg a c).tr p,(Gm hg a c).tr j,(Gm hg a c).tr m,(Gm hg a c).tr g,(Gm hg a c).tr i⟩,λo l=>(Nq hg a c).tr (f o l)⟩
def B6.setO{w:AU}{b c:Nat}{v0:AW}(h:B6 w b v0 v1 v2 v3 v4 v5)(a:b≠c)(u:AW):B6 (w.setCell (AK c o) u) b v0 v1 v2 v3 v4 v5:=by obtain⟨i,⟨d,q,l,p,g,j⟩,f⟩:=h;exact⟨DL i (Jh _ _ _),⟨(Ea a).tr d,(Ea a).tr q,(Ea a).tr l,(Ea a).tr p,(Ea a).tr g,(Ea a).tr j⟩,λo m=>K3.tr (f o m)⟩
theorem B6.set1{w:AU}{b:Nat}{v0:AW}(h:B6 w b v0 v1 v2 v3 v4 v5)(u:AW):B6 (w.setCell (AK b 1) u) b v0 u v2 v3 v4 v5:=by obtain⟨d,⟨a,m,i,l,c,g⟩,f⟩:=h;exact⟨DL d (Jh _ _ _),⟨(Ci BS).tr a,E8 m,(Ci BS).tr i,(Ci BS).tr l,(Ci BS).tr c,(Ci BS).tr g⟩,λo j=>K3.tr (f o j)⟩
theorem B6.set2{w:AU}{b:Nat}{v0:AW}(h:B6 w b v0 v1 v2 v3 v4 v5)(u:AW):B6 (w.setCell (AK b 2) u) b v0 v1 u v3 v4 v5:=by obtain⟨d,⟨a,m,i,l,c,g⟩,f⟩:=h;exact⟨DL d (Jh _ _ _),⟨(Ci BS).tr a,(Ci BS).tr m,E8 i,(Ci BS).tr l,(Ci BS).tr c,(Ci BS).tr g⟩,λo j=>K3.tr (f o j)⟩
theorem B6.set3{w:AU}{b:Nat}{v0:AW}(h:B6 w b v0 v1 v2 v3 v4 v5)(u:AW):B6 (w.setCell (AK b 3) u) b v0 v1 v2 u v4 v5:=by obtain⟨d,⟨a,m,i,l,c,g⟩,f⟩:=h;exact⟨DL d (Jh _ _ _),⟨(Ci BS).tr a,(Ci BS).tr m,(Ci BS).tr i,E8 l,(Ci BS).tr c,(Ci BS).tr g⟩,λo j=>K3.tr (f o j)⟩
theorem B6.set4{w:AU}{b:Nat}{v0:AW}(h:B6 w b v0 v1 v2 v3 v4 v5)(u:AW):B6 (w.setCell (AK b 4) u) b v0 v1 v2 v3 u v5:=by obtain⟨d,⟨a,m,i,l,c,g⟩,f⟩:=h;exact⟨DL d (Jh _ _ _),⟨(Ci BS).tr a,(Ci BS).tr m,(Ci BS).tr i,(Ci BS).tr l,E8 c,(Ci BS).tr g⟩,λo j=>K3.tr (f o j)⟩
theorem B6.set5{w:AU}{b:Nat}{v0:AW}(h:B6 w b v0 v1 v2 v3 v4 v5)(u:AW):B6 (w.setCell (AK b 5) u) b v0 v1 v2 v3 v4 u:=by obtain⟨d,⟨a,m,i,l,c,g⟩,f⟩:=h;exact⟨DL d (Jh _ _ _),⟨(Ci BS).tr a,(Ci BS).tr m,(Ci BS).tr i,(Ci BS).tr l,(Ci BS).tr c,E8 g⟩,λo j=>K3.tr (f o j)⟩
theorem B6.new(w:AU)(v0 v1 v2 v3 v4 v5:AW)(t:AZ):B6 (w.alloc (.cells #[v0,v1,v2,v3,v4,v5] t)) w.heap.size v0 v1 v2 v3 v4 v5:=by refine⟨BU,⟨?_,?_,?_,?_,?_,?_⟩,λo _=>?_⟩<;>simp[go_sem]
def zua {p:Prop}(h:p:=by
 have:=World.ownsRow_lit (base:=wr.heap.size) (e:=111) (size:=3) wr #[] 0 (DK _) CH rfl;have h2:(wr.alloc (.cells #[] 111)).ownsRow wr.heap.size 111 3 (AE (some (AL wr 0)) 0 0) 0 []:=by simpa using this
 exact h2):p:=h
def zxa{p:Prop}(h:p:=by go_wp2;refine⟨⟨j+1,L++[x],a6,c6,_,BS,by go_num,aF.symm,hl2,BU,hown6,hS6.sub (λ_ h=>h) B8,?_⟩,by simp[intOf];omega⟩;exact(Bd hb jK).grown aC (DR hb.size jK.size) (λk hk=>(hown.lt _ hk).1)):p:=h
theorem ir(es:List Stil.Elem)(v:AW)(w:AU)(bs:List Nat)(ts:Ao)(h:Sv w bs ts)(ab:G6 w v es)(hl:es.length<=999999)(H:∀x∈es,x.fits):
  Calls prog 140 #[v] w (GQ Qs 2 53 es w bs ts):=by
 obtain⟨a,cap,rfl,K⟩:=ab;have V:=Af K;have HF:=Af H;have af:=h.1;have S:=h.box (.cells #[] 53);clear K H h;go_enter func140,ntmps140;go_wp2;go_loopw [3,4] (λd i wr=>∃(j:Nat)(L:List Stil.Elem)(g:Option Ab)(l:Nat)(xs:List AW),j<=es.length/\i=AB j/\Hid (L=es.take j)/\L.length<=999999/\d=AE g L.length l/\wr.ownsRow w.heap.size 53 2 (AE g L.length l) L.length xs/\Sv wr (ob (AE g L.length l)++bs) ((Ho L,xs)::ts)/\AO w wr) (λ_ i _=>es.length - (intOf i).toNat);case atStart=>refine⟨0,[],some (AL w 0),0,[],BS,rfl,rfl,BU,rfl,?_,S.nil,BV⟩;have:=World.ownsRow_lit (base:=w.heap.size) (e:=53) (size:=2) w #[] 0 BU CH rfl;simpa using this
 case round=>
  obtain⟨j,L,g,l,xs,hj,rfl,A,gU,rfl,hown,hS,hb⟩:=hrel;by_cases s:j<es.length;{obtain⟨b,o,rfl,E,G⟩:=V j s;have⟨r,av,z,C⟩:=G.below hb E;have aa:es[j].args.length<=1048576:=(HF _ (DW s)).2.1;have aF:Hid (es.take (j+1)=L++[es[j]]):=(by show _=_;rw[A.out];exact ER s);have hl2:(L++[es[j]]).length<=999999:=(by rw[<-aF.out,FN];omega);have⟨x,I⟩:=AA (es[j]);(rw[<-I]at r C aF aa hl2;have Q:=Af (C.below (Aa wr (.cells #[] 111)).drew);obtain⟨y,t,rfl,-⟩:=C;have f:b<wr.heap.size:=DL E hb.size;have U:Hid (((wr.alloc (.cells #[] 111)).drew).ownsRow wr.heap.size 111 3 (AE (some (AL wr 0)) 0 0) 0 []):=by exact zua);have Z:=Af (λW(hg:((wr.alloc (.cells #[] 111)).drew).grownBy W (some wr.heap.size))=>(Aa wr (.cells #[] 111)).drew.grown hg BU (λk hk=>by cases hk;exact DK _));have ad:(0:Int)<=(j:Int):=BS;have ac:(j:Int)<(es.length:Int):=BS;clear I G;go_upto_region 5 with fail;go_region_held3 (λJ=>(J.c (AK b (o+j*2))=some (AB x.op)/\J.c (AK b (o+j*2+1))=some (AE y x.args.length t))) (first|with_reducible assumption|with_reducible exact⟨Dj.tr r,Dj.tr z⟩|with_reducible exact⟨Dj.tr ((Bc f).tr r),Dj.tr ((Bc f).tr z)⟩|with_reducible exact⟨(Bc u).tr m.1,(Bc u).tr m.2⟩|skip) (first|(refine Gf rfl rfl (Sv.copyDevs (N:=wr.heap.size) (B:=wr.heap.size) _ (hS.box (.cells #[] 111)).drew Q.out U.out (λb hb=>hS.1 b hb) BU CW) rfl rfl ?_;rintro v5 q⟨X,R,rfl,Y,T⟩;have jK:=Z.out q T;have m:(q.c (AK b (o+j*2))=some (AB x.op)/\q.c (AK b (o+j*2+1))=some (AE y x.args.length t)):=⟨(jK.cell (p:=(AK b (o+j*2))) f).tr r,(jK.cell (p:=(AK b (o+j*2+1))) f).tr z⟩;have u:b<q.heap.size:=DL f jK.size)|(go_loud (refine Gf rfl rfl (Sv.pushM (x:=x) (c:=[AB x.op,AE X x.args.length R]) _ kd2 (Y.mkE (op:=x.op) (ds:=x.args) Av) (Ax (Ax Av)) Av (λ_=>rfl) (ownsRow_below hown jK) (DR hb.size jK.size) CW) rfl rfl ?_;rintro v6 F⟨a6,c6,rfl,hown6,hS6,aC,-⟩;have D:=aC.block b u (λe=>by have:=(hown.lt _ e.symm).1;omega);have ae:(F.c (AK b (o+j*2))=some (AB x.op)/\F.c (AK b (o+j*2+1))=some (AE y x.args.length t)):=⟨(BE D).tr m.1,(BE D).tr m.2⟩)));all_goals exact zxa};obtain rfl:j=es.length:=by omega
  have M:=A.out;rw[KA]at M;subst M;clear A;go_wp2;go_ret;exact⟨g,l,xs,rfl,hown,hS,hb⟩
def zUa {p:Prop}(h:p:=by
 simp only[FU,EK]at h⊢;rcases h with h|h|h
 .exact .inr (.inl h)
 .exact .inl h
 exact .inr (.inr h)):p:=h
def S5{b:Nat}{A:List Nat}(h:b∈A++O::bs):b∈O::(A++bs):=by exact zUa
def SV(n:Stil.DI):(⟨n.kind,⟨n.O.op,n.O.args⟩,n.K⟩:Stil.DI)=n:=by obtain⟨_,_,_⟩:=n;rfl
def own_ne{w:AU}(h:w.ownsRow B e k v n xs){b:Nat}(a:w.heap.size<=b):v.ownBlock≠some b:=λe=>by have:=(h.lt _ e).2;omega
def Di{w:AU}{b:Nat}(h:w.ownsRow B e k v n xs)(a:v.ownBlock≠some b):(w.setCell (AK b o) x).ownsRow B e k v n xs:=h.kept (I5 w b o x) (.inr a)
theorem Sv.armOf{w:AU}{ts us:Ao}{N:Stil.DI}{C:List Stil.Elem}{ks:List Stil.DJ}{u y:AW}{R:Nat}(h:Sv w (O::(ob x++R::bs)) us)(h1:(Ho C,xs)∈us)(g:([Gy N],[AB N.kind,AB N.O.op,v,u])∈us)(m:([sl (Iy ks)],[y])∈us)(s:w.ownsRow B 53 2 x C.length xs)(f:R<B)(c:∀b∈bs,b<B)(l:∀z∈ts,z∈us):Sv w (R::bs) (([J6 ⟨N,C,ks⟩],[AB N.kind,AB N.O.op,v,u,x,y])::ts):=by obtain⟨i,⟨op,ds⟩,ns⟩:=N;have hi:=Sv.ice (bs:=R::bs) (h.sub (λb c=>.tail _ c) λ_ h=>h) h1 xAz (BA.2 ⟨f,c⟩);have⟨a,p,b,q,d,j⟩:=hi.opN (Ax g);cases d;exact(j.mkA (i:=i) (op:=op) (ds:=ds) (ns:=ns) (es:=C) (ms:=ks) Av (Ax Av) (Ax (Ax Av)) (Ax (Ax (Ax m)))).sub (λ_ h=>h) (BA.2 ⟨.head _,λz r=>.tail _ (Ax (Ax (Ax (l z r))))⟩)
