import Derived.Test.YtfeablpbkcgdjaaGreatDoorBT6
import Derived.Test.YtfeablpbkcgdjaaGreatDoorGt
import Derived.Test.YtfeablpbkcgdjaaGreatDoorGP
import Derived.Maps.OwnIn
set_option linter.defProp false
set_option maxHeartbeats 8000000
set_option maxRecDepth 100000
namespace Go.Proofs.YtfeablpbkcgdjaaGreatDoor
open Tryz Stil Go.RowKit Go.Sort Go.BigFrame
def notS (s:SN)(n:Nat):SN:=⟨⟨4,⟨0,[]⟩,[s.n]⟩, .slice none 0 0, .slice (some ⟨n,0,none⟩) 1 1,s.cells⟩
theorem Qg.not {V:World}{B:Nat}{ls j bs:List Nat}{ts:List (List Tr × List Value)}{s:SN}{r:List SN}{v p:Value}(t:TypeId)(h:Qg V B bs ts ls (s::r) v)(hl:Uy V j r p)(g:∀x∈j,x∈ls)(u:B<=V.heap.size):
  Qg ((V.alloc (.cells #[.int .i64 s.n.kind, .int .i64 s.n.one.op,s.av,s.kv] 54)).alloc (.cells #[.int .i64 4, .int .i64 0, .slice none 0 0, .slice (some ⟨V.heap.size,0,none⟩) 1 1,p] t)) B bs ([([sl []],[.slice none 0 0]),([Ic s.n],s.cells)]++ts) ((V.heap.size+1)::j) (notS s V.heap.size::r) (.pointer (some ⟨V.heap.size+1,0,none⟩)):=by
 have f:=Aa V (.cells #[.int .i64 s.n.kind, .int .i64 s.n.one.op,s.av,s.kv] 54);have hS:=((SN.ice h.head (h.oks s (.head _)) h.notIn).box (.cells #[.int .i64 s.n.kind, .int .i64 s.n.one.op,s.av,s.kv] 54)).snil;have l:=h.apart;rw[CN,RD] at l;have w:=World.ownsRow_lit (base:=B) (e:=54) (size:=4) V #[.int .i64 s.n.kind, .int .i64 s.n.one.op,s.av,s.kv] 1 u BI rfl;have m:=Qg.push (t:=t) (s:=notS s V.heap.size) (hl.below f) hS ⟨.head _, .tail _ (.head _),w⟩ (λx c=>((h.oks x (.tail _ c)).more λ_ h=>.tail _ (.tail _ h)).below f) l.2 (λx c q i e=>?_) (λb d=>⟨B8 (h.free b (g b d)).1 f.size,λe=>?_,λx c=>(h.free b (g b d)).2 x (.tail _ c)⟩) (λq i d=>?_) (λx c=>h.off x (.tail _ c))
 .rw[World.size_alloc] at m
  exact m
 .cases i
  exact absurd (h.low x (.tail _ c) _ e) (Hj _)
 .cases e
  exact absurd (h.free _ (g _ d)).1 (Hj _)
 .cases i
  exact absurd (h.bsLt _ d) (Hj _)
theorem rB (i:Stil.Dj)(l:Value)(ls:List Nat)(s:SN)(r:List SN)(v:Value)(w:World)(B:Nat)(bs:List Nat)(ts:List (List Tr × List Value))(d:Qg w B bs ts ls (s::r) v)(E:Ak w l i.one.args)(G:i.fits)(H:i.code=6)(m:B<=w.heap.size):
  Calls prog 123 #[v, .agg #[.int .i64 i.code, .int .i64 i.one.op,l]] w (IQ (E1 i.code i.one ((s::r).map SN.n)) w B bs ts):=by
 have q:=Ci (λW (h:Below w.heap.size w W) X R N=>Jc i.one G.2.2.1 l W X R N (E.below h));obtain⟨O,Y,rfl,-⟩:=E;obtain⟨⟨L,z,F⟩,M,J,y⟩:=(d.oks s (.head _)).forms d.sv λ_ h=>h
 obtain⟨n,rM,rJ,T⟩:=s;simp only at F y;subst F y;obtain⟨c,op,I⟩:=i;simp only at q H ⊢;subst H;have D:=Ci (λW (h:Below w.heap.size w W)=>d.below h);have hS:=d.sv.alloc (.cells #[.int .i64 6, .int .i64 op, .slice O I.length Y] 66);obtain⟨b,S,rfl,rfl,aa,-,-⟩:=d.link.cons;clear d G;go_enter func123,ntmps123;go_upto_region 13 with(go_at_call 104;refine(q _ AX _ _ hS).mono ?_;rintro e f ⟨a1,Z,rfl,-,C⟩;have k0:f.cell? ⟨w.heap.size,0,none⟩=some (.int .i64 6):=(Jd C AW).trans (by simp[go_sem]);have hz:w.heap.size<f.heap.size:=GM C AW;have x:Below w.heap.size w f:=AX)
 obtain⟨V,u⟩:∃V,V=f.alloc (.cells #[.int .i64 1, .int .i64 op, .slice a1 I.length Z, .slice none 0 0] 54):=⟨_,rfl⟩
 rw[<-u];have g:Below w.heap.size w V:=by rw[u];exact Ce x _
 have t:=D V g;obtain⟨_,_,e,_,dR,⟨g0,g1,g2,g3⟩,p,g4,j⟩:=t.link.cons;cases e;obtain⟨U,rfl⟩:=j.ptr;have K:=Ci (And.intro (t.not 172 j (λ_ h=>.tail _ h) (CB m g.size)) ((Ce (Ce g (.cells #[.int .i64 n.kind, .int .i64 n.one.op, .slice L n.one.args.length z, .slice M n.kids.length J] 54)) (.cells #[.int .i64 4, .int .i64 0, .slice none 0 0, .slice (some ⟨V.heap.size,0,none⟩) 1 1, .pointer U] 172)).mono m));clear u D q hS k0 x hz t j g m
 go_region
 all_goals
  go_wp2
  go_ret;exact⟨_,S,notS ⟨n, .slice L n.one.args.length z, .slice M n.kids.length J,T⟩ V.heap.size::r,[_,_],rfl,rfl,K.1.below (Below.refl _ _).drew,K.2.drew⟩
theorem j5 (i:Stil.Dj)(b:Value)(ls:List Nat)(c:List SN)(v:Value)(w:World)(B k:Nat)(bs:List Nat)(ts:List (List Tr × List Value))(j:Qg w B bs ts ls c v)(f:Ak w b i.one.args)(g:i.fits)(h1:1<=i.code)(H:i.code<7)(l:Stil.needs i.code<=(c.length:Int))(y:GR k (c.map SN.n))(G:k<=800000)(d:B<=w.heap.size):
  Calls prog 123 #[v, .agg #[.int .i64 i.code, .int .i64 i.one.op,b]] w (IQ (E1 i.code i.one (c.map SN.n)) w B bs ts):=by
 obtain⟨t,x⟩:=y;by_cases E:i.code=1
 .exact rG i b ls c v w B bs ts j f g E d
 .cases c with
  | nil=>
   exfalso;rcases (by omega:i.code=2\/i.code=3\/i.code=4\/i.code=5\/i.code=6) with e | e | e | e | e<;>rw[e] at l<;>exact absurd l AZ
  | cons m r=>
   rw[CN,F7] at x;have u:=t m.n AW;by_cases z:i.code=2
   .exact rF i b ls m r v w B bs ts j f g z u AU d
   by_cases F:i.code=3
   .exact rE i b ls m r v w B bs ts j f g F u AU d
   by_cases C:i.code=6
   .exact rB i b ls m r v w B bs ts j f g C d
   cases r with
   | nil=>
    exfalso;rcases (by omega:i.code=4\/i.code=5) with e | e<;>rw[e] at l<;>exact absurd (show(2:Int)<=1 from l) AZ
   | cons q r=>
    rw[CN,F7] at x;have s:=t q.n AW;by_cases D:i.code=4
    .exact rD i b ls m q r v w B bs ts j f g D s AU d
    .exact rC i b ls m q r v w B bs ts j f g AU s AU d
variable {A W a w' w0 wE:World}{B P Q k n o:Nat}{bs ls:List Nat}{r:Option Nat}{v:Value}
def VK {L r:List Stil.Dj}{i:Stil.Dj}(h:i::r<:+L):∃J,J=L.length - (i::r).length/\J+1=L.length - r.length/\∃f:J<L.length,L[J]=i:=by
 have c:=h.length_le;simp only[CC] at c;refine⟨_,rfl,by simp only[CC];omega,by simp only[CC];omega,?_⟩;have e:=List.suffix_iff_eq_drop.1 h;have b:=FZ (l:=L) (i:=L.length - (i::r).length) yDj;rw[<-e] at b;injection b with d _
 exact d.symm
def KO {p:Prop}(h:p):Hid p:=h
theorem sT {w b:World}(h:w.grownBy a r)(c:Below n a b)(e:w.heap.size<=n):w.grownBy b r:=
 ⟨c.os.trans h.os,c.tape.trans h.tape,c.output.trans h.output,CB h.size c.size,λk d f=>(c.block k (B8 d e)).trans (h.block k d f)⟩
theorem sX {w:World}{r:Nat}(h:w.grownBy a (some r))(o:Nat)(v:Value):w.grownBy (a.setCell ⟨r,o,none⟩ v) (some r):=by
 refine⟨h.os,h.tape,h.output,by simpa using h.size,λk c b=>?_⟩;have d:r≠k:=λe=>b (by rw[e])
 have:=((Below.refl (k+1) a)).block k (DN _)
 refine Eq.trans ?_ (h.block k c b);unfold World.setCell;simp[Ge,d]
theorem grown_of {b:World}(h:Below a.heap.size a b)(r:Option Nat):a.grownBy b r:=⟨h.os,h.tape,h.output,h.size,λk c _=>h.block k c⟩
def cz {b c:World}(h:Below a.heap.size a b)(k:b.grownBy c r):a.grownBy c r:=
 ⟨k.os.trans h.os,k.tape.trans h.tape,k.output.trans h.output,CB h.size k.size,λj d e=>(k.block j (B8 d h.size) e).trans (h.block j d)⟩
theorem LW {N:Nat}:∀{b:List Stil.B5} {l r:List Stil.Dj},Stil.J5 (Stil.DW N [Hz]) b l r->b.length<=l.length
 | [],_,_,h=>by simp[Stil.J5] at h
 | _::_,[],_,h=>by simp[Stil.J5] at h
 | y::b,i::l,r,h=>by
  rw[Stil.J5] at h;split at h
  .rename_i e
   rw[e];simp
  .obtain⟨_,m,d,c⟩:=h
   have f:=LW c;have g:=d.suffix.length_le;simp only[CC];omega
theorem vf {P:List Stil.Dj->Stil.B5->List Stil.Dj->Prop}{ks:List Stil.B5}{i:Stil.Dj}{l r:List Stil.Dj}(h:Stil.J5 P ks (i::l) r):∃y b,ks=y::b/\(b=[]/\i.code=9/\P l y r\/b≠[]/\(i.code=7\/i.code=8)/\∃m,P l y m/\Stil.J5 P b m r):=by
 cases ks with
 | nil=>simp[Stil.J5] at h
 | cons y b=>
  refine⟨y,b,rfl,?_⟩;rw[Stil.J5] at h;split at h
  .rename_i e
   exact .inl ⟨e,h⟩
  .rename_i e
   exact .inr ⟨e,h⟩
theorem S7 (c:Int)(w:World):
  Calls prog 122 #[.int .i64 c] w λe w'=>e=.returned (.bool (decide (1<=c/\c<=6)))/\w'=w:=by
 obtain⟨R,d⟩:∃R,R=decide (1<=c/\c<=6):=⟨_,rfl⟩
 have b:Hid (R=decide (1<=c/\c<=6)):=d;rw[<-d];clear d;by_cases g:1<=c
 .by_cases f:c<=6
  .go_enter func122,ntmps122
   go_wp2
   go_ret;exact⟨by rw[b.out,EN AU];rfl,rfl⟩
  .go_enter func122,ntmps122
   go_wp2
   go_ret;exact⟨by rw[b.out,FO AU];rfl,rfl⟩
 .go_enter func122,ntmps122
  go_wp2
  go_ret;exact⟨by rw[b.out,FO AU];rfl,rfl⟩
def LAt (w0:World)(b o:Nat)(L:List Stil.Dj):Prop:=(L≠[]->b<w0.heap.size)/\∀i (h:i<L.length),JO w0 b (o+i*3) L[i]
def LAt.lt {b i:Nat}{L:List Stil.Dj}(h:LAt w0 b o L)(hi:i<L.length):b<w0.heap.size:=h.1 (λe=>by rw[e] at hi;simp at hi)
structure C0 (w0 w:World)(b o:Nat)(L l:List Stil.Dj):Prop where
 bel:Below w0.heap.size w0 w
 lt:w0.heap.size<w.heap.size
 c0:∃(cap:Nat) (q:Option Addr),l.length<=cap/\w.cell? ⟨w0.heap.size,0,none⟩=some (.slice q l.length cap)/\(l≠[]->q=some ⟨b,o+(L.length - l.length)*3,none⟩)
 f0:w.frozen? ⟨w0.heap.size,0,none⟩=false
 suf:l<:+L
def C0.below {w:World}{b:Nat}{L l:List Stil.Dj}(h:C0 w0 w b o L l)(c:Below n w w')(d:w0.heap.size<n):C0 w0 w' b o L l:=by
 obtain⟨cap,q,e,c0,f⟩:=h.c0;exact⟨h.bel.trans (c.mono (GK d)),B8 h.lt c.size,⟨cap,q,e,(c.cell (p:=⟨w0.heap.size,0,none⟩) d).trans c0,f⟩,(c.frozen (p:=⟨w0.heap.size,0,none⟩) d).trans h.f0,h.suf⟩
theorem C0.grown {w:World}{b:Nat}{L l:List Stil.Dj}(h:C0 w0 w b o L l)(hg:w.grownBy w' r)(hr:∀q,r=some q->w0.heap.size<q):C0 w0 w' b o L l:=by
 have c:r≠some w0.heap.size:=λe=>Hj _ (hr _ e)
 obtain⟨cap,q,f,c0,g⟩:=h.c0;exact⟨⟨hg.os.trans h.bel.os,hg.tape.trans h.bel.tape,hg.output.trans h.bel.output,CB h.bel.size hg.size,λk d=>(hg.block k (Nat.lt_trans d h.lt) (λe=>by have:=hr k e.symm;omega)).trans (h.bel.block k d)⟩,B8 h.lt hg.size,⟨cap,q,f,(Fj hg h.lt c).trans c0,g⟩,(Kr hg h.lt c).trans h.f0,h.suf⟩
theorem C0.setB {w:World}{b p:Nat}{L l:List Stil.Dj}(h:C0 w0 w b o L l)(c:w0.heap.size<B)(v:Value):C0 w0 (w.setCell ⟨B,p,none⟩ v) b o L l:=
 h.below (n:=w0.heap.size+1) ((Below.refl _ _).setCell (p:=⟨B,p,none⟩) c _) (DN _)
theorem C0.inst {w:World}{b:Nat}{L r:List Stil.Dj}{i:Stil.Dj}(h:C0 w0 w b o L (i::r))(f:LAt w0 b o L):∃(J cap:Nat) (c:Value),J<L.length/\J=L.length - (i::r).length/\J+1=L.length - r.length/\r.length+1<=cap/\w.cell? ⟨w0.heap.size,0,none⟩=some (.slice (some ⟨b,o+J*3,none⟩) (r.length+1) cap)/\w.cell? ⟨b,o+J*3,none⟩=some (.int .i64 i.code)/\w.cell? ⟨b,o+J*3+1,none⟩=some (.int .i64 i.one.op)/\w.cell? ⟨b,o+J*3+2,none⟩=some c/\Ak w c i.one.args:=by
 obtain⟨J,e,t,d,rfl⟩:=VK h.suf;obtain⟨cap,q,g,c0,l⟩:=h.c0;rw[l AW,<-e] at c0;obtain⟨j,m,c,s,u⟩:=(f.2 J d).below h.bel (f.lt d);exact⟨J,cap,c,d,e,t,g,c0,j,m,s,u⟩
def C0.next {w:World}{b J cap:Nat}{q:Addr}{L r:List Stil.Dj}{i:Stil.Dj}(h:C0 w0 w b o L (i::r))(f:J+1=L.length - r.length)(e:r.length<=cap)(c:r≠[]->q=⟨b,o+J*3+3,none⟩):C0 w0 (w.setCell ⟨w0.heap.size,0,none⟩ (.slice (some q) r.length cap)) b o L r:=by
 obtain⟨l,j,g,c0,_⟩:=h.c0;refine⟨h.bel.setCell (p:=⟨w0.heap.size,0,none⟩) (B7 _) _,by simpa using h.lt,⟨cap,some q,e,Fp c0,λd=>?_⟩,Lj.trans h.f0,(List.suffix_cons i r).trans h.suf⟩;rw[c d,<-f,Nat.add_mul];rfl
theorem MC (L r:List Stil.Dj)(i:Stil.Dj)(b o:Nat)(w0 w:World)(hr:C0 w0 w b o L (i::r))(j:LAt w0 b o L)(hl:L.length<=1000):
  Calls prog 85 #[.pointer (some ⟨w0.heap.size,0,none⟩)] w λe w'=>(∃(a:Option Addr) (c:Nat),e=.returned (.agg #[.int .i64 i.code, .int .i64 i.one.op, .slice a i.one.args.length c])/\Ak w' (.slice a i.one.args.length c) i.one.args)/\C0 w0 w' b o L r/\w.grownBy w' (some w0.heap.size):=by
 obtain⟨J,cap,H,M,x,z,ab,c0,x0,x1,X,O⟩:=hr.inst j;have V:Hid (C0 w0 w b o L (i::r)):=hr;have S:=hr.lt;have f0:=hr.f0;have G:b<w0.heap.size:=j.lt M;have hb:b<w.heap.size:=Nat.lt_trans G S;have U:Hid (J+1=L.length - r.length):=z;have N:Hid (∀W,Below w0.heap.size w0 W->Ak W H i.one.args):=λW h=>by
  obtain⟨_,g,e⟩:∃(_:J=J) (g:J<L.length),L[J]=i:=by
   obtain⟨J',R,_,g,e⟩:=VK hr.suf;have I:J'=J:=by rw[R,x]
   subst I;exact⟨rfl,g,e⟩
  obtain⟨y0,y1,dU,y2,cO⟩:=(j.2 J g).below h (j.lt g);obtain⟨z0,z1,ak,Y,Z⟩:=j.2 J g;have s:=(hr.bel.cell (p:=⟨b,o+J*3+2,none⟩) (j.lt g)).trans Y;rw[X] at s;injection s with s
  rw[s,<-e];exact Z.below h
 obtain⟨d,f,rfl,-⟩:=O;have aa:1<=cap:=AU
 have ad:r.length+1<=1000:=by have:=hr.suf.length_le;simp only[CC] at this;omega
 clear hr j x z;have C:Hid (∀(q:Addr) (c:Nat) (l m:TypeId),r.length<=c->(r≠[]->q=⟨b,o+J*3+3,none⟩)->Ak (((w.setCell ⟨w0.heap.size,0,none⟩ (.slice (some q) r.length c)).alloc (.cells #[.int .i64 i.code, .int .i64 i.one.op, .slice d i.one.args.length f] l)).alloc (.cells #[.int .i64 i.code, .int .i64 i.one.op, .slice d i.one.args.length f] m)) (.slice d i.one.args.length f) i.one.args/\C0 w0 (((w.setCell ⟨w0.heap.size,0,none⟩ (.slice (some q) r.length c)).alloc (.cells #[.int .i64 i.code, .int .i64 i.one.op, .slice d i.one.args.length f] l)).alloc (.cells #[.int .i64 i.code, .int .i64 i.one.op, .slice d i.one.args.length f] m)) b o L r/\w.grownBy (((w.setCell ⟨w0.heap.size,0,none⟩ (.slice (some q) r.length c)).alloc (.cells #[.int .i64 i.code, .int .i64 i.one.op, .slice d i.one.args.length f] l)).alloc (.cells #[.int .i64 i.code, .int .i64 i.one.op, .slice d i.one.args.length f] m)) (some w0.heap.size)):=λq c l m T F=>by
  have y:=V.next U T F;have K:w.grownBy (w.setCell ⟨w0.heap.size,0,none⟩ (.slice (some q) r.length c)) (some w0.heap.size):=sX (World.grownBy.refl _ _) _ _;have t:=(y.below (Aa _ (.cells #[.int .i64 i.code, .int .i64 i.one.op, .slice d i.one.args.length f] l)) y.lt)
  have u:=t.below (Aa _ (.cells #[.int .i64 i.code, .int .i64 i.one.op, .slice d i.one.args.length f] m)) t.lt;exact⟨N _ u.bel,u,(K.trans (grown_of (Aa _ _) _)).trans (grown_of (Aa _ _) _)⟩
 by_cases E:cap=1
 .subst E
  have D:r=[]:=List.length_eq_zero_iff.1 AU;subst D;go_enter func85,ntmps85
  go_wp2
  refine bodyPost_ret (v:=.agg #[.int .i64 i.code, .int .i64 i.one.op, .slice d i.one.args.length f]) (by simp[results,results85,go_sem]) rfl ?_;have h:=C ⟨b,o+J*3,none⟩ 0 66 66 (B7 _) (λh=>absurd rfl h);exact⟨⟨d,f,rfl,h.1⟩,h.2⟩
 .have ac:¬(cap - 1=0):=by omega
  go_enter func85,ntmps85
  go_wp2
  refine bodyPost_ret (v:=.agg #[.int .i64 i.code, .int .i64 i.one.op, .slice d i.one.args.length f]) (by simp[results,results85,go_sem]) rfl ?_;have h:=C ⟨b,o+J*3+3,none⟩ (cap - 1) 66 66 AU (λ_=>rfl);exact⟨⟨d,f,rfl,h.1⟩,h.2⟩
structure Sz (w0 w:World)(Q:Nat):Prop where
 hi:w0.heap.size<Q
 lt:Q<w.heap.size
 k0:w.cell? ⟨Q,0,none⟩=some (.int .i64 0)
 k1:w.cell? ⟨Q,1,none⟩=some (.int .i64 0)
 k2:w.cell? ⟨Q,2,none⟩=some (.slice none 0 0)
 k3:w.cell? ⟨Q,3,none⟩=some (.slice none 0 0)
 k4:w.cell? ⟨Q,4,none⟩=some (.pointer none)
def Sz.keep {w:World}(h:Sz w0 w Q)(c:w.heap.size<=w'.heap.size)(b:∀o,w'.cell? ⟨Q,o,none⟩=w.cell? ⟨Q,o,none⟩):Sz w0 w' Q:=
 ⟨h.hi,B8 h.lt c,(b _).trans h.k0,(b _).trans h.k1,(b _).trans h.k2,(b _).trans h.k3,(b _).trans h.k4⟩
def Sz.grownO {w:World}(h:Sz w0 w Q)(hg:w.grownBy w' r)(hr:r≠some Q):Sz w0 w' Q:=h.keep hg.size (λ_=>Fj hg h.lt hr)
def Sz.grown {w:World}(h:Sz w0 w Q)(hg:w.grownBy w' (some w0.heap.size)):Sz w0 w' Q:=h.grownO hg (λe=>by injection e with e;have:=h.hi;omega)
def Vx (w:World)(P:Nat):Nat:=match w.cell? ⟨P,0,none⟩ with
 | some (.slice _ n _)=>n
 | _=>0
def C0.len {w:World}{b:Nat}{L l:List Stil.Dj}(h:C0 w0 w b o L l):Vx w w0.heap.size=l.length:=by
 obtain⟨cap,q,_,c0,_⟩:=h.c0;unfold Vx;rw[c0]
def uT (x y z:Value)(w:World):Sem.run prog (Instr.field 66 (.agg #[x,y,z]) 0) w=.ok x w:=AY
def YJ (x y z:Value)(w:World):Sem.run prog (Instr.field 66 (.agg #[x,y,z]) 1) w=.ok (.agg #[y,z]) w:=AY
def LD (n:Stil.B5)(bs:List Nat)(ts:List (List Tr × List Value))(e:Ending)(w':World):Prop:=∃a p b q d r f s,e=.returned (.agg #[.int .i64 n.net.kind, .int .i64 n.net.one.op, .slice a n.net.one.args.length p, .slice b n.net.kids.length q, .slice d n.coils.length r, .slice f n.kids.length s])/\Sv w' bs (([J7 n],[.int .i64 n.net.kind, .int .i64 n.net.one.op, .slice a n.net.one.args.length p, .slice b n.net.kids.length q, .slice d n.coils.length r, .slice f n.kids.length s])::ts)
def Qf (L:List Stil.B5)(bs:List Nat)(ts:List (List Tr × List Value))(e:Ending)(w':World):Prop:=∃a c,e=.returned (.slice a L.length c)/\Sv w' bs (([sl (Io L)],[.slice a L.length c])::ts)
def K9 (N:Nat)(w0:World)(b o:Nat)(L:List Stil.Dj):Prop:=∀(l r:List Stil.Dj) (y:Stil.B5) (Q:Nat) (W:World) (bs:List Nat) (c:List (List Tr × List Value)),Stil.DW N [Hz] l y r->C0 w0 W b o L l->Sz w0 W Q->Sv W bs c->w0.heap.size∈bs->Calls prog 84 #[.pointer (some ⟨w0.heap.size,0,none⟩), .pointer (some ⟨Q,0,none⟩)] W λe w'=>LD y bs c e w'/\C0 w0 w' b o L r/\W.grownBy w' (some w0.heap.size)
theorem Wv {w:World}{e:Nat}{xs:List Value}(h:w.ownsRow B e k v n xs)(hg:w.grownBy w' (some P))(c:P<B):w'.ownsRow B e k v n xs:=h.kept hg (by
 cases b:v.ownBlock with
 | none=>exact .inl rfl
 | some q=>exact .inr λe=>by cases e;have:=(h.lt _ b).1;omega)
theorem wI (N:Nat)(w0:World)(b o:Nat)(L:List Stil.Dj)(af:K9 N w0 b o L)(ah:LAt w0 b o L)(hl:L.length<=1000)(l r:List Stil.Dj)(ks:List Stil.B5)(Q:Nat)(w:World)(bs:List Nat)(ts:List (List Tr × List Value))(h:Sv w bs ts)(mV:w0.heap.size∈bs)(hf:Stil.J5 (Stil.DW N [Hz]) ks l r)(u:C0 w0 w b o L l)(E:Sz w0 w Q)(ar:ks.length<=1000):
  Calls prog 155 #[.pointer (some ⟨w0.heap.size,0,none⟩), .pointer (some ⟨Q,0,none⟩)] w λe w'=>Qf ks bs ts e w'/\C0 w0 w' b o L r/\w.grownBy w' (some w0.heap.size):=by
 have an:=Ci af;have al:=Ci ah;have HF:=Ci hf;have kT:=Ci u;have xU:=Ci E;have HS:=Ci h;have I:w0.heap.size<w.heap.size:=u.lt;have hQ:Q<w.heap.size:=E.lt;clear af ah hf u E h;have ao:=uT;go_enter func155,ntmps155
 go_wp2
 go_loopw [5] (λkv wr=>∃(M:List Stil.Dj) (O d:List Stil.B5) (C:Option Addr) (t:Nat) (xs:List Value),kv=.slice C d.length t/\wr.ownsRow w.heap.size 60 6 (.slice C d.length t) d.length xs/\Sv wr (ob (.slice C d.length t)++bs) ((Io d,xs)::ts)/\d++O=ks/\Stil.J5 (Stil.DW N [Hz]) O M r/\C0 w0 wr b o L M/\Sz w0 wr Q/\w.grownBy wr (some w0.heap.size)) (λ_ wr=>Vx wr w0.heap.size)
 case atStart=>
  exact⟨l,ks,[],none,0,[],rfl,World.ownsRow_nil _ _ _ _,HS.nil,rfl,HF.out,kT.out,xU.out,World.grownBy.refl _ _⟩
 case round=>
  clear HF kT xU;obtain⟨M,O,d,C,t,xs,rfl,ai,hS,V,ad,u,E,S⟩:=hrel;cases M with
  | nil=>exact absurd ad (by cases O<;>simp[Stil.J5])
  | cons i H=>
   obtain⟨y,X,rfl,ag⟩:=vf ad;have iV:=Ci (MC L H i b o w0 wr u al hl);have dO:Hid (Vx wr w0.heap.size=H.length+1):=u.len;have ap:d.length<=1000:=by
    have K:=congrArg List.length V;simp only[CO,CC] at K;omega
   have qj:=Ci V;have ae:=Ci ai;have xO:=Ci hS;have iL:=Ci E;have qw:=Ci S;have au:=S.size;clear V E S u ad ai hS;obtain⟨F,J⟩:∃F,Stil.DW N [Hz] H y F/\(X=[]/\i.code=9/\F=r\/¬i.code=9/\Stil.J5 (Stil.DW N [Hz]) X F r):=by
    rcases ag with⟨h1,K,Y⟩ | ⟨_,K,m,Y,h4⟩
    .exact⟨r,Y, .inl ⟨h1,K,rfl⟩⟩
    .exact⟨m,Y, .inr ⟨AU,h4⟩⟩
   clear ag;have HY:=Ci J.1;have qh:Hid (w0.heap.size∈ob (.slice C d.length t)++bs):=DZ _ mV;have G:=Ci (λq (g:(Value.slice C d.length t).ownBlock=some q)=>(ae.lt q g).1);have mG:=Ci (λz (g5:wr.grownBy z (some w0.heap.size)) (r5:C0 w0 z b o L H)=>an H F y Q z (ob (.slice C d.length t)++bs) _ HY r5 (iL.grown g5) (xO.grow g5 (λq g=>by cases g;exact qh.out)) qh.out);rcases J.2 with⟨rfl,h9,rfl⟩ | ⟨h9,aj⟩
   .clear J
    go_wp2_with (first | (go_at_call 85;refine iV.mono ?_;rintro e z ⟨⟨ta,ua,rfl,-⟩,bZ,j⟩) | (go_at_call 84;refine(mG z j bZ).mono ?_;rintro e w6 ⟨⟨a1,U,a2,p2,T,Z,a4,p4,rfl,ab⟩,R,s⟩;have aa:=Wv (Wv ae j I) s I;have yY:=s.size;have yX:=j.size) | (at_builtin;refine Bd rfl rfl (Sv.pushM (f:=J7) (x:=y) (c:=[.int .i64 y.net.kind, .int .i64 y.net.one.op, .slice a1 y.net.one.args.length U, .slice a2 y.net.kids.length p2, .slice T y.coils.length Z, .slice a4 y.kids.length p4]) _ kd6 ab (.tail _ (.head _)) (.head _) Ya aa AU AU) rfl rfl ?_;rintro v7 w7 ⟨a7,c7,rfl,bG,ac,D,-⟩))
    go_ret;obtain rfl:=qj.out;refine⟨⟨a7,c7,by rw[CO];rfl,(ac.ice (.head _) (by rw[CP];exact bG) HS.1).sub (λ_ h=>h) BB⟩,R.grown D (λq g=>by have:=G q g;omega),((qw.trans j).trans s).andThen D (λq g=>.inl (G q g))⟩
   .have ak:=Ci aj
    clear J aj
    go_wp2_with (first | (go_at_call 85;refine iV.mono ?_;rintro e z ⟨⟨ta,ua,rfl,-⟩,bZ,j⟩) | (go_at_call 84;refine(mG z j bZ).mono ?_;rintro e w6 ⟨⟨a1,U,a2,p2,T,Z,a4,p4,rfl,ab⟩,R,s⟩;have aa:=Wv (Wv ae j I) s I;have yY:=s.size;have yX:=j.size) | (at_builtin;refine Bd rfl rfl (Sv.pushM (f:=J7) (x:=y) (c:=[.int .i64 y.net.kind, .int .i64 y.net.one.op, .slice a1 y.net.one.args.length U, .slice a2 y.net.kids.length p2, .slice T y.coils.length Z, .slice a4 y.kids.length p4]) _ kd6 ab (.tail _ (.head _)) (.head _) Ya aa AU AU) rfl rfl ?_;rintro v7 w7 ⟨a7,c7,rfl,bG,ac,D,-⟩))
    have av:=HY.suffix.length_le;have hR:=R.grown D (λq g=>by have:=G q g;omega);exact⟨⟨F,X,d++[y],a7,c7,_,by rw[CO];rfl,bG,ac.sub (λ_ h=>h) BB,by rw[C6];exact qj.out,ak.out,hR,((iL.grown j).grown s).grownO D (λe=>by have:=G _ e;omega),((qw.trans j).trans s).andThen D (λq g=>.inl (G q g))⟩,by rw[hR.len,dO.out];omega⟩
theorem cr (N:Nat)(w0:World)(b o:Nat)(L:List Stil.Dj)(z:K9 N w0 b o L)(u:LAt w0 b o L)(hl:L.length<=1000)(l r:List Stil.Dj)(ks:List Stil.B5)(w:World)(bs:List Nat)(ts:List (List Tr × List Value))(h:Sv w bs ts)(G:w0.heap.size∈bs)(H:Stil.JR (Stil.DW N [Hz]) ks l r)(c:C0 w0 w b o L l)(U:ks.length<=1000):
  Calls prog 124 #[.pointer (some ⟨w0.heap.size,0,none⟩)] w λe w'=>Qf ks bs ts e w'/\C0 w0 w' b o L r/\w.grownBy w' (some w0.heap.size):=by
 cases l with
 | nil=>
  exfalso;rcases H with⟨h,_⟩ | ⟨h,_⟩ | ⟨h,_⟩
  .simp[E8] at h
  .simp[E8] at h
  .simp[E8] at h
 | cons i C=>
  obtain⟨aa,cap,av,R,T,-,V,c0,x0,-,-,-⟩:=c.inst u;have O:w0.heap.size<w.heap.size:=c.lt;have X:b<w.heap.size:=Nat.lt_trans (u.lt R) c.lt;have ab:C.length+1<=1000:=by have:=c.suf.length_le;simp only[CC] at this;omega
  have I:=Ci c;have S:=Ci h;have J:=Ci (λt:TypeId=>(⟨O,AW,by simp[go_sem],by simp[go_sem],by simp[go_sem],by simp[go_sem],by simp[go_sem]⟩:Sz w0 (w.alloc (.cells #[.int .i64 0, .int .i64 0, .slice none 0 0, .slice none 0 0, .pointer none] t)) w.heap.size));have j:=Ci (λ(y:Stil.B5) q t=>(z (i::C) r y w.heap.size _ bs ts q (c.below (Aa _ _) c.lt) (J t) (h.alloc _) G));have g:=Ci (λs t=>(wI N w0 b o L z u hl (i::C) r ks w.heap.size _ bs ts (h.alloc _) G s (c.below (Aa _ _) c.lt) (J t) U));clear z u c T h;rcases H with⟨d,rfl,rfl⟩ | ⟨E,f,y,rfl,q⟩ | ⟨f,s⟩
  .have d:i.code=8\/i.code=9\/i.code=11:=d
   clear j g;rcases d with d | d | d
   all_goals
    go_enter func124,ntmps124
    go_wp2
    go_ret;exact⟨⟨none,0,rfl,(S.alloc _).snil⟩,I.below (Aa _ _) I.lt,grown_of (Aa _ _) _⟩
  .have E:1<=i.code:=E
   have f:i.code<7:=f;have n8:¬i.code=8:=AU
   have n9:¬i.code=9:=AU
   have ac:¬i.code=11:=AU
   have n7:¬i.code=7:=AU
   have j:=Ci (j y q);clear q g;go_enter func124,ntmps124
   go_wp2_with (go_at_call 84;refine(j _).mono ?_;rintro e F ⟨⟨M,K,a2,Y,a3,Z,a4,p4,rfl,x⟩,m,D⟩)
   go_ret;exact⟨⟨some ⟨F.heap.size,0,none⟩,1,rfl,(x.lit (l:=[J7 y]) (.head _) _ _ rfl rfl).sub (λ_ h=>h) BB⟩,m.below (Aa _ _) m.lt,(grown_of (Aa _ _) _).trans (D.trans (grown_of (Aa _ _) _))⟩
  .have f:i.code=7:=f
   have g:=Ci (g s);clear s j;go_enter func124,ntmps124
   go_wp2_with (go_at_call 155;refine(g _).mono ?_;rintro e F ⟨⟨M,K,rfl,x⟩,m,D⟩)
   go_ret;exact⟨⟨M,K,rfl,x⟩,m,(grown_of (Aa _ _) _).trans D⟩
theorem Qg.grownP {w:World}{ts:List (List Tr × List Value)}{f:List SN}(h:Qg w B bs ts ls f v)(hg:w.grownBy w' (some P))(d:P∈bs)(hl:P∉ls):Qg w' B bs ts ls f v:=
 ⟨h.link.kept hg (λb c e=>by cases e;exact hl c),h.sv.grow hg (λb e=>by cases e;exact DZ _ d),λs g=>(h.oks s g).kept hg (by
  cases i:s.kv.ownBlock with
  | none=>exact .inl rfl
  | some q=>exact .inr λe=>by cases e;exact h.off s g _ i d),h.apart,λb c=>⟨B8 (h.free b c).1 hg.size,(h.free b c).2⟩,h.off⟩
def zeroS:SN:=⟨Hz, .slice none 0 0, .slice none 0 0,[]⟩
theorem my {w:World}{ts:List (List Tr × List Value)}(h:Sz w0 w Q)(hS:Sv w bs ts):Qg w B bs ([([sl []],[.slice none 0 0]),([],[])]++ts) [Q] [zeroS] (.pointer (some ⟨Q,0,none⟩)):=
 ⟨⟨rfl,h.lt,⟨h.k0,h.k1,h.k2,h.k3⟩,_,h.k4,rfl⟩,hS.nil.snil,λs c=>by
  cases List.mem_singleton.1 c
  exact⟨.head _, .tail _ (.head _),World.ownsRow_nil _ _ _ _⟩,A8m _ _,λb d=>⟨by cases List.mem_singleton.1 d;exact h.lt,λs c e=>by cases List.mem_singleton.1 c;cases e⟩,λs c q e=>by cases List.mem_singleton.1 c;cases e⟩
theorem Uy.off {w:World}{a:Option Addr}{c:Nat}(e:w.cell? ⟨P,0,none⟩=some (.slice a n c)):∀{ls:List Nat} {f:List SN} {v:Value},Uy w ls f v->P∉ls
 | [],_,_,_,d=>by cases d
 | _::_,[],_,h,_=>h.elim
 | b::ls,s::f,v,h,d=>by
  obtain⟨_,_,⟨i,_⟩,p,_,g⟩:=h;rcases List.mem_cons.1 d with rfl | d
  .rw[i] at e;cases e
  .exact Uy.off e g d
theorem Qg.box {w:World}{ts:List (List Tr × List Value)}{f:List SN}(h:Qg w B bs ts ls f v)(o:Obj):Qg (w.alloc o) B (w.heap.size::bs) ts ls f v:=
 ⟨h.link.below (Aa _ _),(h.sv.box o).sub (λx i=>by simp only[Dm,C2] at i ⊢;rcases i with h | h | h;exact .inr (.inl h);exact .inl h;exact .inr (.inr h)) λ_ h=>h,λs c=>(h.oks s c).below (Aa _ _),h.apart,λb e=>⟨B8 (h.free b e).1 AW,(h.free b e).2⟩,λs c q g d=>by
  rcases List.mem_cons.1 d with rfl | d
  .exact Hj _ (h.low s c _ g)
  .exact h.off s c q g d⟩
theorem Sv.mkAN {w:World}{ts:List (List Tr × List Value)}{n:Stil.B1}{k p u x y:Value}{es:List Stil.Elem}{ms:List Stil.B5}(h:Sv w bs ts)(h1:([Ic n],[k,p,v,u])∈ts)(c:([sl (Hm es)],[x])∈ts)(d:([sl (Io ms)],[y])∈ts):Sv w bs (([J7 ⟨n,es,ms⟩],[k,p,v,u,x,y])::ts):=h.der (y:=([_],_)) λ_ b=>by
 obtain⟨_,_,f,g,e⟩:=JF.1 (X7.one.1 (b _ h1));cases f;exact X7.one.2 (KL.2 ⟨_,_,_,_,rfl,g,e,I4.1 (b _ c),I4.1 (b _ d)⟩)
theorem Xs (N:Nat)(w0:World)(b o:Nat)(L:List Stil.Dj)(aD:K9 N w0 b o L)(ar:LAt w0 b o L)(hl:L.length<=1000)(aF:∀i∈L,i.fits)(l r:List Stil.Dj)(x:Stil.B5)(jb:List Nat)(wS:List SN)(yL:Option Addr)(w:World)(bs:List Nat)(ts us:List (List Tr × List Value))(mV:w0.heap.size∈bs)(y:∀B,Qg w B bs us jb wS (.pointer yL))(aX:∀x∈ts,x∈us)(aa:GR 1 (wS.map SN.n))(h:Stil.DW (N+1) (wS.map SN.n) l x r)(d:C0 w0 w b o L l):
  Calls prog 84 #[.pointer (some ⟨w0.heap.size,0,none⟩), .pointer yL] w λe w'=>LD x bs ts e w'/\C0 w0 w' b o L r/\w.grownBy w' (some w0.heap.size):=by
 obtain⟨l1,l2,hN,hC,hK⟩:=h;have ag:=Ci ar;have HF:=Ci aF;have hP:w0.heap.size<w.heap.size:=d.lt;have jv:b<w0.heap.size:=by
  cases l with
  | nil=>exact hN.elim
  | cons i l=>
   have G:=d.suf.length_le;exact ar.lt (i:=0) (by simp only[CC] at G;omega)
 have bk:l1.length<=1000:=by have:=hN.suffix.1.length_le;have:=d.suf.length_le;omega
 have aS:x.coils.length<=1000:=by have:=hC.suffix.2.2;omega
 obtain⟨xn,iq,E⟩:=x;simp only at hN hC hK aS;have a3:E.length<=1000:=by
  have G:=hC.suffix.2.2;rcases hK with⟨_,e,_⟩ | ⟨_,_,bh,e,_⟩ | ⟨_,h⟩
  .rw[e];simp
  .rw[e];simp
  .have h3:=LW h;omega
 have qo:=Ci (λW cs D (hS:Sv W cs D) (hp:w0.heap.size∈cs) (hr:C0 w0 W b o L l2)=>cr N w0 b o L aD ag hl l2 r E W cs D hS hp hK hr a3);have HN:=Ci hN;have HC:=Ci hC;have vV:=Ci y;have pY:=Ci aa;have pW:=Ci d;have aW:=Ci (y 0).bsLt;clear aD ar aF d hN hC hK y aa;have bq:=YJ;go_enter func84,ntmps84
 go_wp2
 go_loopw [1] (λsv wr=>∃(J:List Stil.Dj) (ls:List Nat) (X:List SN) (po:Option Addr) (D:List (List Tr × List Value)),sv=.pointer po/\Qg wr (w.heap.size+1) (w.heap.size::bs) D ls X (.pointer po)/\(∀x∈ts,x∈D)/\Stil.D4 (X.map SN.n) J xn l1/\C0 w0 wr b o L J/\GR (1+2*(L.length - J.length)) (X.map SN.n)/\B6 wr w.heap.size (.int .i64 0) (.int .i64 0) (.slice none 0 0) (.slice none 0 0) (.slice none 0 0) (.slice none 0 0)/\w.grownBy wr (some w0.heap.size)) (λ_ wr=>Vx wr w0.heap.size)
 case atStart=>
  exact⟨l,jb,wS,yL,us,rfl,(vV _).box _,aX,HN.out,pW.below (Aa _ _) pW.lt,⟨pY.1,CB pY.2 AU⟩,B6.new _ _ _ _ _ _ _ _,grown_of (Aa _ _) _⟩
 case round=>
  clear HN vV pY pW;obtain⟨J,ls,X,po,D,rfl,y,ax,K,d,aa,C,T⟩:=hrel;cases J with
  | nil=>exact K.elim
  | cons i j=>
   obtain⟨a8,cap,av,hJ,aj,ah,aI,c0,x0,-,-,-⟩:=d.inst ag.out;have oZ:w0.heap.size<wr.heap.size:=d.lt;have aQ:b<wr.heap.size:=Nat.lt_trans jv oZ;have aE:j.length+1<=1000:=by have:=d.suf.length_le;simp only[CC] at this;omega
   have bc:w.heap.size<wr.heap.size:=C.1;have dO:Hid (Vx wr w0.heap.size=j.length+1):=d.len;rw[Stil.D4] at K;by_cases h7:i.code<7
   .rw[if_pos h7] at K
    obtain⟨aT,ao,K⟩:=K;rw[CP] at ao;have ae:i.fits:=HF i (d.suf.subset AW);have qA:Hid (∀W,Calls prog 122 #[.int .i64 i.code] W λe w'=>e=.returned (.bool true)/\w'=W):=λW=>by
     have G:=S7 i.code W;rw[EN AU] at G;exact G
    have iV:=Ci (MC L j i b o w0 wr d ag hl);have ad:=y.link.off c0;have a7:=Ci (λ(W:World) (av:Value) (hg:wr.grownBy W (some w0.heap.size)) (hd:Ak W av i.one.args)=>j5 i av ls X (.pointer po) W (w.heap.size+1) (1+2*(L.length - (i::j).length)) _ D (y.grownP hg (.tail _ mV) ad) hd ae aT h7 ao aa AU (CB AU hg.size))
    have gG:=Ci (λ(M u:World) (qM:List SN) (g5:wr.grownBy M (some w0.heap.size)) (r5:C0 w0 M b o L j) (z:Below (w.heap.size+1) M u) (xA:qM.map SN.n=E1 i.code i.one (X.map SN.n))=>(show Stil.D4 (qM.map SN.n) j xn l1/\C0 w0 u b o L j/\GR (1+2*(L.length - j.length)) (qM.map SN.n)/\B6 u w.heap.size (.int .i64 0) (.int .i64 0) (.slice none 0 0) (.slice none 0 0) (.slice none 0 0) (.slice none 0 0)/\w.grownBy u (some w0.heap.size) from by
     rw[xA];have h5:=ez (c:=i.code) ae.2 aa AU;have e5:1+2*(L.length - (i::j).length)+2=1+2*(L.length - j.length):=AU
     rw[e5] at h5
     exact⟨K,r5.below z AU,h5,(C.grown g5 (λe=>by injection e with e;omega)).below z (DN _),sT (T.trans g5) z (IX _)⟩))
    clear K y aa C T d aj ah ao ad ae
    go_wp2_with (first | (go_at_call 122;refine(qA _).mono ?_;rintro e w4 ⟨rfl,aw⟩;obtain rfl:=aw.symm) | (go_at_call 85;refine iV.mono ?_;rintro e M ⟨⟨ta,ua,rfl,af⟩,bZ,ab⟩;have au:=Ci af;have qX:=Ci bZ;have qG:=Ci ab;clear af bZ ab) | (go_at_call 123;refine(a7 _ _ qG au.out).mono ?_;rintro e u ⟨b7,uz,qM,ug,rfl,xA,jm,z⟩;have a2:=Ci jm;have rq:=Ci (gG M u qM qG qX z xA);clear jm xA z))
    exact⟨⟨j,b7::uz,qM,_,ug++D,rfl,a2.out,λx hx=>DZ _ (ax x hx),rq.out⟩,by rw[rq.out.2.1.len,dO.out];omega⟩
   .rw[if_neg h7] at K
    obtain⟨an,rfl⟩:=K;have qA:Hid (∀W,Calls prog 122 #[.int .i64 i.code] W λe w'=>e=.returned (.bool false)/\w'=W):=λW=>by
     have G:=S7 i.code W;rw[FO AU] at G;exact G
    have aJ:X.length=1:=by have:=congrArg List.length an;simpa using this
    obtain⟨s,rfl⟩:=List.length_eq_one_iff.1 aJ;have aG:s.n=xn:=by simpa using an
    obtain⟨g,bb,rfl,aK,a5,⟨y0,y1,y2,y3⟩,_⟩:=y.link.cons;obtain rfl:po=some ⟨g,0,none⟩:=by injection aK
    obtain⟨⟨q1,q2,hd⟩,q3,q4,aL⟩:=(y.oks s (.head _)).forms y.sv λ_ h=>h
    have HI:Hid (Sv wr (w.heap.size::bs) (([Ic s.n],s.cells)::D)):=SN.ice y.head (y.oks s (.head _)) y.notIn;have ap:=Ci d;have gY:=Ci C;have wG:=Ci T;have aR:=Ci ax;obtain⟨n,rM,rJ,gJ⟩:=s;simp only at hd aL y0 y1 y2 y3 aG;subst hd aL aG;clear y an d aa C T aK aj ah aJ ax;obtain⟨t,aZ⟩:∃t:World,t=wr:=⟨wr,rfl⟩
    subst aZ
    go_wp2_with (go_at_call 122;refine(qA _).mono ?_;rintro e w4 ⟨rfl,aw⟩;obtain rfl:=aw.symm)
    go_loopw [] (λwr=>∃(J:List Stil.Dj) (ay m:List Stil.Elem) (F:Option Addr) (I:Nat) (xs:List Value),B6 wr t.heap.size (.int .i64 n.kind) (.int .i64 n.one.op) (.slice q1 n.one.args.length q2) (.slice q3 n.kids.length q4) (.slice F m.length I) (.slice none 0 0)/\wr.ownsRow (w.heap.size+1) 51 2 (.slice F m.length I) m.length xs/\(Value.slice F m.length I).ownBlock≠some t.heap.size/\Sv wr (ob (.slice F m.length I)++(t.heap.size::w.heap.size::bs)) ((Hm m,xs)::([Ic n],[.int .i64 n.kind, .int .i64 n.one.op, .slice q1 n.one.args.length q2, .slice q3 n.kids.length q4])::D)/\m++ay=iq/\Stil.Rq J ay l2/\C0 w0 wr b o L J/\B6 wr w.heap.size (.int .i64 0) (.int .i64 0) (.slice none 0 0) (.slice none 0 0) (.slice none 0 0) (.slice none 0 0)/\w.grownBy wr (some w0.heap.size)) (λwr=>Vx wr w0.heap.size)
    case atStart=>
     exact⟨i::j,iq,[],none,0,[],B6.new _ _ _ _ _ _ _ _,World.ownsRow_nil _ _ _ _,(λe=>by cases e),(HI.box _).nil,rfl,HC.out,ap.below (Aa _ _) ap.lt,gY.at (Aa _ _),wG.trans (grown_of (Aa _ _) _)⟩
    case round=>
     clear HC HI ap gY wG qA dO y0 y1 y2 y3 a5 aI c0 x0 hJ oZ aQ aE h7;obtain⟨J,ay,m,F,I,xs,C,al,ad,hS,ak,O,d,az,T⟩:=hrel;cases J with
     | nil=>exact O.elim
     | cons i j=>
      obtain⟨a8,cap,av,hJ,aj,ah,aI,c0,x0,-,-,-⟩:=d.inst ag.out;have oZ:w0.heap.size<wr.heap.size:=d.lt;have aQ:b<wr.heap.size:=Nat.lt_trans jv oZ;have aE:j.length+1<=1000:=by have:=d.suf.length_le;simp only[CC] at this;omega
      have dO:Hid (Vx wr w0.heap.size=j.length+1):=d.len;have bj:t.heap.size<wr.heap.size:=C.1;have Z:=Ci (λW (h:wr.grownBy W (some w0.heap.size))=>C.grown h (λe=>by injection e with e;omega));have df:=Ci (λW (h:wr.grownBy W (some w0.heap.size))=>az.grown h (λe=>by injection e with e;omega));have aA:=Ci (λW (h:wr.grownBy W (some w0.heap.size))=>Wv al h AU);have xO:=Ci (λW (h:wr.grownBy W (some w0.heap.size))=>hS.grow h (λq H=>by cases H;exact DZ _ (.tail _ (.tail _ mV))));have kT:=Ci d;have ql:=Ci ak;have wG:=Ci T;have xP:Hid ((Value.slice F m.length I).ownBlock≠some t.heap.size):=ad;have kU:=Ci (λq (H:(Value.slice F m.length I).ownBlock=some q)=>(al.lt q H).1);have bg:m.length<=1000:=by
       have G:=congrArg List.length ak;simp only[CO] at G;omega
      by_cases aP:i.code=10
      .rw[Stil.Rq,if_pos aP] at O
       obtain⟨cs2,rfl,O⟩:=O;have aU:=Ci O;have ae:i.fits:=HF i (d.suf.subset AW);have iV:=Ci (λW (h:Below wr.heap.size wr W)=>(MC L j i b o w0 W (d.below h d.lt) ag hl).mono (λe w' hh=>And.intro hh.1 (And.intro hh.2.1 (cz h hh.2.2))));have bY:=Ci (λ(W:World) (av:Value) (hd:Ak W av i.one.args) cs us hs=>Jc i.one ae.2.2.1 av W cs us hs hd);obtain⟨-,⟨-,-,-,-,y4,-⟩,-⟩:=C;clear O ae aj ah ak d al ad hS az T;go_upto_region 5 with fail
       go_region_law (first | (refine I9 rfl rfl (Sv.pushM (f:=Qe) (x:=i.one) (c:=[.int .i64 i.one.op, .slice ac i.one.args.length cd]) _ kd2 (aV.mkE (.head _)) (.tail _ (.tail _ (.head _))) (.head _) (λ_=>rfl) (aA u qF.out) AU AU) rfl rfl ?_;rintro v6 w6 ⟨a6,c6,rfl,aH,aM,aC,tK⟩;obtain⟨bo,⟨-,-,-,-,bp,-⟩,o8⟩:=(Z u qF.out).grown aC xP.out;have bn:=o8 4 AU;have U:=Ci (And.intro aH (And.intro aM (And.intro aC tK)));clear aH aM aC tK o8) | (go_simp;go_at_call 104;refine(bY M _ au _ _ (xO M qG.out)).mono ?_;rintro e u ⟨ac,cd,rfl,aN,z⟩;have aV:=Ci aN;have qF:Hid (wr.grownBy u (some w0.heap.size)):=(qG.trans (grown_of z _));have cu:Hid (C0 w0 u b o L j):=(qX.below z qX.lt);obtain⟨bi,⟨-,-,-,-,bf,-⟩,-⟩:=Z u qF.out;clear aN z) | (go_simp;go_at_call 85;refine(iV _ (by exact(Below.refl _ _).drew)).mono ?_;rintro e M ⟨⟨ta,ua,rfl,af⟩,bZ,ab⟩;have au:=Ci af;have qX:=Ci bZ;have qG:=Ci ab;obtain⟨bm,⟨-,-,-,-,br,-⟩,-⟩:=Z M ab;clear af bZ ab))
       all_goals
        go_wp2
        have e1:(m++[i.one]).length=m.length+1:=AW
        rw[<-e1];have dK:=qF.size;have aB:=U.2.2.2 t.heap.size AU xP.out;have hR:C0 w0 (w6.setCell ⟨t.heap.size,4,none⟩ (.slice a6 (m++[i.one]).length c6)) b o L j:=(cu.grown U.2.2.1 (λq H=>by have:=kU q H;omega)).setB AU _;exact⟨⟨j,cs2,m++[i.one],a6,c6,_,((Z u qF.out).grown U.2.2.1 xP.out).set4 _,D6 U.1 aB,aB,(U.2.1.set (DZ _ (.head _))).sub (λ_ h=>h) BB,by rw[C6];exact ql.out,aU.out,hR,((df u qF.out).grown U.2.2.1 (λe=>by have:=kU _ e;omega)).setO AU _,Ui ((wG.trans qF.out).andThen U.2.2.1 (λq H=>.inl (by have:=kU q H;omega))) AU _⟩,by rw[hR.len,dO.out];omega⟩
      .rw[Stil.Rq,if_neg aP] at O
       obtain⟨rfl,rfl⟩:=O;rw[EO] at ak;subst ak;have ba:=Ci (qo wr _ _ hS (DZ _ (.tail _ (.tail _ mV))) d);clear d hS al ad xO ql qo aj ah dO;obtain⟨-,⟨-,-,-,-,-,y5⟩,fz⟩:=C;go_upto_region 7 with(go_at_call 124;refine ba.mono ?_;rintro e w9 ⟨⟨S,R,rfl,ng⟩,jU,Y⟩;obtain⟨z9,⟨-,-,-,-,-,tu⟩,o7⟩:=Z w9 Y;have aY:=o7 5 AU;clear o7)
       have vw:=Y.size;have rP:=aA w9 Y;have jf:=(Z w9 Y).set5 (.slice S E.length R);have ji:=(df w9 Y).setO (c:=t.heap.size) (o:=5) AU (.slice S E.length R)
       have hI:=ng.ice2 (v:=.slice F m.length I) (.tail _ (.head _)) (by rw[CP];exact rP) (λq H hm=>by
        have h1:=kU q H;rcases List.mem_cons.1 hm with rfl | hm
        .exact xP H
        rcases List.mem_cons.1 hm with rfl | hm
        .omega
        .have:=aW q hm;omega)
       have hA:=(hI.mkAN (n:=n) (es:=m) (ms:=E) (.tail _ (.tail _ (.tail _ (.head _)))) (.head _) (.tail _ (.head _))).set (b:=t.heap.size) (o:=5) (x:=.slice S E.length R) (.head _);have zX:=jU.setB (B:=t.heap.size) (p:=5) AU (.slice S E.length R);have ai:=Ui (b:=t.heap.size) (o:=5) (wG.trans Y) AU (.slice S E.length R);obtain⟨wz,aO⟩:∃wz,wz=w9.setCell ⟨t.heap.size,5,none⟩ (.slice S E.length R):=⟨_,rfl⟩
       rw[<-aO] at jf ji hA zX ai ⊢;obtain⟨zx,⟨k0,k1,k2,k3,k4,k5⟩,-⟩:=jf;obtain⟨zr,⟨t0,t1,t2,t3,t4,t5⟩,V⟩:=ji;have f0:=V 0 AU;have f1:=V 1 AU;have f2:=V 2 AU;have f3:=V 3 AU;have f4:=V 4 AU;have f5:=V 5 AU;have HE:=Ci (And.intro hA (And.intro zX ai));clear V aO hI rP ng jU Y z9 tu aY aA Z df hA zX ai y5 fz az T
       go_wp2
       refine bodyPost_ret (v:=.agg #[.int .i64 n.kind, .int .i64 n.one.op, .slice q1 n.one.args.length q2, .slice q3 n.kids.length q4, .slice F m.length I, .slice S E.length R]) (by simp[results,results84,go_sem,t0,t1,t2,t3,t4,t5]) rfl ?_;refine⟨⟨q1,q2,q3,q4,F,I,S,R,rfl,(HE.1.set6 (.tail _ (.head _))).sub (λx hx=>.tail _ (.tail _ hx)) (List.forall_mem_cons.2 ⟨.head _,λx hx=>.tail _ (.tail _ (.tail _ (.tail _ (.tail _ (aR x hx)))))⟩)⟩,(((((HE.2.1.setB hP _).setB hP _).setB hP _).setB hP _).setB hP _).setB hP _,?_⟩;repeat (refine Ui ?_ (B7 _) _)
       exact HE.2.2
theorem X1 (w0:World)(b o:Nat)(L:List Stil.Dj)(d:LAt w0 b o L)(hl:L.length<=1000)(c:∀i∈L,i.fits):∀N,K9 N w0 b o L
 | 0=>λ_ _ _ _ _ _ _ h=>h.elim
 | N+1=>λl r y Q W bs e h j g hS f=>Xs N w0 b o L (X1 w0 b o L d hl c N) d hl c l r y [Q] [zeroS] (some ⟨Q,0,none⟩) W bs e _ f (λ_=>my g hS) (λ_x m=>DZ _ m) tD h j
theorem cw (w0:World)(b o:Nat)(L:List Stil.Dj)(g:LAt w0 b o L)(hl:L.length<=1000)(f:∀i∈L,i.fits)(N:Nat)(l r:List Stil.Dj)(y:Stil.B5)(W:World)(bs:List Nat)(ts:List (List Tr × List Value))(hS:Sv W bs ts)(p:w0.heap.size∈bs)(h:Stil.DW (N+1) [] l y r)(hr:C0 w0 W b o L l):
  Calls prog 84 #[.pointer (some ⟨w0.heap.size,0,none⟩), .pointer none] W λe w'=>LD y bs ts e w'/\C0 w0 w' b o L r/\W.grownBy w' (some w0.heap.size):=
 Xs N w0 b o L (X1 w0 b o L g hl f N) g hl f l r y [] [] none W bs ts ts p (λ_=>⟨rfl,hS,(λm q=>by cases q),List.Pairwise.nil,(λc d=>by cases d),(λc d=>by cases d)⟩) (λ_ h=>h) ⟨(λn j=>by cases j),by simp[Stil.sizes]⟩ h hr
open Go.Shelf
theorem gx {w:World}(h:w.grownBy w' (some P))(b:n<=P)(d:n<=w.heap.size):Below n w w':=⟨h.os,h.tape,h.output,h.size,λk c=>h.block k AU (λe=>by injection e with e;omega)⟩
def cutAt (W:World)(P:Nat):World:={W with heap:=W.heap.extract 0 P}
def Qr (h:P<=W.heap.size):(cutAt W P).heap.size=P:=by
 unfold cutAt;simp only[Array.size_extract];omega
theorem TL (h:P<=W.heap.size):Below P (cutAt W P) W:=by
 refine⟨rfl,rfl,rfl,by rw[Qr h];exact h,λk b=>?_⟩;unfold cutAt;simp only[Array.getElem?_extract];rw[if_pos AU];simp
theorem wx {w:World}(h:Below n w W)(f:n<=P)(d:w.heap.size<=P)(b:P<=W.heap.size):Below n w (cutAt W P):=by
 refine⟨h.os,h.tape,h.output,by rw[Qr b];exact d,λk c=>?_⟩;have e:=(TL b).block k AU;rw[<-e];exact h.block k c
structure RdP (wE W:World)(P b o:Nat)(L l:List Stil.Dj):Prop where
 old:Below wE.heap.size wE W
 ge:wE.heap.size<=P
 lt:P<W.heap.size
 c0:∃(cap:Nat) (q:Option Addr),l.length<=cap/\W.cell? ⟨P,0,none⟩=some (.slice q l.length cap)/\(l≠[]->q=some ⟨b,o+(L.length - l.length)*3,none⟩)
 f0:W.frozen? ⟨P,0,none⟩=false
 suf:l<:+L
def RdP.rd9 {b:Nat}{L l:List Stil.Dj}(h:RdP wE W P b o L l):C0 (cutAt W P) W b o L l:=by
 have e:=Qr (GK h.lt);refine⟨?_,by rw[e];exact h.lt,?_,?_,h.suf⟩
 .rw[e];exact TL (GK h.lt)
 .rw[e];exact h.c0
 .rw[e];exact h.f0
def RdP.lat {b:Nat}{L l:List Stil.Dj}(h:RdP wE W P b o L l)(c:LAt wE b o L):LAt (cutAt W P) b o L:=by
 have e:=Qr (GK h.lt);have d:=wx h.old h.ge h.ge (GK h.lt);have:=h.ge
 exact⟨λf=>by rw[e];exact B8 (c.1 f) h.ge,λi hi=>(c.2 i hi).below d (c.lt hi)⟩
theorem RdP.next {c:World}{b:Nat}{L l r:List Stil.Dj}(h:RdP wE A P b o L l)(hr:C0 (cutAt A P) W b o L r)(hg:A.grownBy W (some P))(f:Below wE.heap.size W c)(i:c.heap[P]?=W.heap[P]?):RdP wE c P b o L r:=by
 have e:=Qr (GK h.lt);have d:=h.ge;obtain⟨cap,q,m,g,j⟩:=hr.c0;rw[e] at g;have f0:=hr.f0;rw[e] at f0;refine⟨?_,d,B8 (B8 h.lt hg.size) f.size,⟨cap,q,m,(World.cell?_of_block i).trans g,j⟩,(World.frozen?_of_block i).trans f0,hr.suf⟩;exact(h.old.trans (gx hg d (GK (Nat.lt_of_le_of_lt d h.lt)))).trans f
def RdP.len {b:Nat}{L l:List Stil.Dj}(h:RdP wE W P b o L l):Vx W P=l.length:=by
 obtain⟨cap,q,_,c0,_⟩:=h.c0;unfold Vx;rw[c0]
def Vg (h:A.grownBy W (some P))(c:k<A.heap.size)(b:k≠P):W.heap[k]?=A.heap[k]?:=h.block k c (λe=>by injection e with e;exact b e)
def Kq (n P:Nat)(W b:World):Prop:=Below n W b/\b.heap[P]?=W.heap[P]?
theorem vy (a:Option Addr)(b cap:Nat)(w:World):Calls prog 50 #[.slice a b cap] w λe w'=>e=.returned (.func (.func 83) #[] #[.pointer (some ⟨w.heap.size,0,none⟩)])/\w'.cell? ⟨w.heap.size,0,none⟩=some (.slice a b cap)/\w.heap.size<w'.heap.size/\Below w.heap.size w w':=by
 have d:∀(c:Fn) (first cap:Array Value) (w:World),(Instr.makeFunc c first cap).run prog w=.ok (.func c first cap) w:=λ_ _ _ _=>rfl
 go_enter func50,ntmps50
 go_wp2
 go_ret;exact⟨rfl,by simp[go_sem],AW,AX⟩
