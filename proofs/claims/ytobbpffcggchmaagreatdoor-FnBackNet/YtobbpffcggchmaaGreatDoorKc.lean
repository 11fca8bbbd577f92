import Derived.Test.YtobbpffcggchmaaGreatDoorKa
import Derived.Test.YtobbpffcggchmaaGreatDoorGO
set_option maxHeartbeats 4000000
set_option maxRecDepth 100000
namespace Go.Proofs.YtobbpffcggchmaaGreatDoor
open Tryz
open Stil
open Go.RowKit Go.Sort Go.BigFrame
variable {bs:List Nat}{r:Option Nat}{v:Value}{w':World}
theorem Afy {ops:Array Oper}{o:Oper}{a:Act}{w:World}{K:Act->World->Prop}{Q:Exit->Act->World->Prop}{E:Prop}
  (hg:o.guard=none) (s x:Operand) (hop:o.op=.call {callee:=.builtin .append,args:=#[s,x],argTypes:=#[28,28]})
  (base:Nat) (ra:Option Addr) (rc:Nat) (ms b:List Ah) (ad:Option Addr) (c:Nat) (hs:a.eval s=.slice ra ms.length rc) (hx:a.eval x=.slice ad b.length c)
  (hrow:Gq w base (.slice ra ms.length rc) ms) (y:0<b.length->∃p,ad=some p/\∀j u,(Fp b)[j]?=some u->w.cell? (p.add j)=some u)
  (q:∀m∈b,MOk w base m) (H:(Value.slice ra ms.length rc::(Bq ms++Bq b)).Pairwise Aside) (hl:ms.length+b.length<=1000000) (J:base<=w.heap.size)
  (n:∀i d w',Gq w' base (.slice i (ms.length+b.length) d) (ms++b)->w.grownBy w' (Value.slice ra ms.length rc).ownBlock->((Value.slice i (ms.length+b.length) d).ownBlock=(Value.slice ra ms.length rc).ownBlock\/(Value.slice i (ms.length+b.length) d).ownBlock=some w.heap.size)->K (a.put o.dst (.slice i (ms.length+b.length) d)) w'):
  if Region.wanted o (yielded ops a.tmps)=true then Oper.wp prog o a w K Q else E:=by
 obtain⟨D,hi,z,F,G⟩:=info_parts Ai3;by_cases hd:b.length=0
 ·have N:b=[]:=List.length_eq_zero_iff.1 hd
  subst N;have I:Region.wanted o (yielded ops a.tmps)=true:=by simp[Region.wanted,hg]
  rw[if_pos I];have hcap:ms.length<=rc:=by
   rcases hrow.1.2 with⟨k,f⟩ | ⟨g,d,cur,k,_,_,L,_⟩
   ·rw[f];exact Ban _
   ·simp only[Value.slice.injEq] at k
    rw[k.2.2];exact L
  have hk2:=n ra rc w yCf (Aez _ _) (.inl spz);simp only[A85,Ba8] at hk2 hx;unfold Oper.wp execOp;cases ad
  ·exact zw
  ·exact zv
 ·obtain⟨p,rfl,B⟩:=y omz
  refine Eo hg s x _ hop base 30 D _ 4 64 underlying28 hi z F G rfl dcz _ _ (Fp ms) hs hrow.1 _ _ _ (Fp b) hx (X0 b) B (Y0 q) yAe omz J ?_;intro O w' f l t;obtain⟨M,A,C⟩:=Ac f;subst C;exact n M A w' (hrow.add q H f l t) l t
def Ap5 (w w':World)(base:Nat)(k:Int)(m:Ah)(e:Ending):Prop:=∃(a:Option Addr) (c:Nat),e=.returned (.slice a (Oi k m).length c)/\Gq w' base (.slice a (Oi k m).length c) (Oi k m)/\((Value.slice a (Oi k m).length c).ownBlock=m.kv.ownBlock\/∀q,(Value.slice a (Oi k m).length c).ownBlock=some q->w.heap.size<=q)/\Below w.heap.size w w'
theorem I7.kidsRow {w:World}{base:Nat}{m:Ah}(h:I7 w base m):Gq w base m.kv m.kids:=by
 have a:=(Ee _ _ _).1 h.1;have b:=h.2;rw[Ah.vals_eq,A9p] at b;exact⟨a.2.1,a.2.2,b.2⟩
theorem Ahs (k:Int)(m:Ah)(base:Nat)(w:World)(i:I7 w base m)(E:base<=w.heap.size):
  Calls prog 102 #[.int .i64 k, .agg #[.int .i64 m.kind, .int .i64 m.op,m.av,m.kv]] w λe w'=>Ap5 w w' base k m e:=by
 have f:=(Ee _ _ _).1 i.1;obtain⟨A,y,c⟩:=Ac f.1;obtain⟨g,s,d⟩:=Ac f.2.1;have u:Hid (∀W,Below w.heap.size w W->I7 W base m):=λW h=>i.below h
 clear f i;by_cases b:m.kind=k
 ·have a:Hid (Oi k m=m.kids):=by show _=_;unfold Oi;rw[if_pos b]
  obtain⟨l,t,j,x,z,o⟩:=m;simp only at c d b a ⊢;subst c;subst d;subst b;go_enter func102,ntmps102
  go_wp2
  go_ret;refine⟨g,s,by rw[a.out];rfl,?_, .inl (by cases g<;>rfl),blA⟩;rw[a.out];exact(u _ blA).kidsRow
 ·have a:Hid (Oi k m=[m]):=by show _=_;unfold Oi;rw[if_neg b]
  have B:(m.kind==k)=false:=by rw[A95];exact b
  obtain⟨l,t,j,x,z,o⟩:=m;simp only at c d b a B ⊢;subst c;subst d;go_enter func102,ntmps102
  go_wp2
  go_ret;refine⟨some ⟨w.heap.size+1,0,none⟩,1,by rw[a.out];rfl,?_, .inr (λq C=>by cases C;exact Bap _),blA⟩;rw[a.out];have D:=Gq.single (u (w.alloc (.cells #[.int .i64 l, .int .i64 t, .slice A j.length y, .slice g o.length s] 30)) (Aa _ _)) yAb;simpa using D
def Am8 (w w':World)(base:Nat)(vs:List Value)(g:Option Nat)(n:Stil.Net)(e:Ending):Prop:=∃(k op:Int) (a:List Stil.Dev) (d:Option Addr) (c:Nat) (h:Option Addr) (f:Nat) (b:List Ah),e=.returned (.agg #[.int .i64 k, .int .i64 op, .slice d a.length c, .slice h b.length f])/\
 I7 w' base ⟨k,op,a, .slice d a.length c, .slice h b.length f,b⟩/\(Ah.mk k op a (.slice d a.length c) (.slice h b.length f) b).net=n/\(∀x∈(Ah.mk k op a (.slice d a.length c) (.slice h b.length f) b).vals,x∈vs\/x.ownBlock=g\/∀q,x.ownBlock=some q->w.heap.size<=q)/\w.grownBy w' g
theorem Al3 {a b:World}(h:Below a.heap.size a b)(r:Option Nat):a.grownBy b r:=⟨h.os,h.tape,h.output,h.size,λk c _=>h.block k c⟩
theorem A06 {a b:Ah}{k:Int}{w:World}{d:Value}(m:(d::Bq (Oi k a)).Pairwise Aside)(j:(a.vals++b.vals).Pairwise Aside)(c:d.ownBlock=a.kv.ownBlock\/∀q,d.ownBlock=some q->w.heap.size<=q)(i:∀x∈b.vals,∀q,x.ownBlock=some q->q<w.heap.size):(d::(Bq (Oi k a)++Bq (Oi k b))).Pairwise Aside:=by
 rw[<-A9t,A9q];have f:=List.pairwise_append.1 j;refine⟨m,Aeh f.2.1,λx g y l=>?_⟩;have e:=Nb l;rcases List.mem_cons.1 g with rfl | g
 ·rcases c with c | c
  ·have h:=f.2.2 a.kv (by rw[Ah.vals_eq];simp) y e
   unfold Aside at h ⊢;rw[c];exact h
  ·exact(Eg (i y e) c).symm
 ·exact f.2.2 x (Nb g) y e
def Kr (w:World):List Nat->List Ah->Value->Prop
 | [],[],v=>v=.pointer none
 | b::bs,m::a,v=>v=.pointer (some ⟨b,0,none⟩)/\b<w.heap.size/\(w.cell? ⟨b,0,none⟩=some (.int .i64 m.kind)/\w.cell? ⟨b,1,none⟩=some (.int .i64 m.op)/\w.cell? ⟨b,2,none⟩=some m.av/\w.cell? ⟨b,3,none⟩=some m.kv)/\∃p,w.cell? ⟨b,4,none⟩=some p/\Kr w bs a p
 | _,_,_=>False
theorem Kr.kept {w:World}(hg:w.grownBy w' r):∀{bs:List Nat} {d:List Ah} {v:Value},Kr w bs d v->(∀b∈bs,r≠some b)->Kr w' bs d v
 | [],[],_,h,_=>h
 | b::bs,m::d,v,h,e=>by
  obtain⟨l,a,⟨n,f,k,g⟩,p,i,j⟩:=h;have c:=e b spz;exact⟨l,A82 a hg.size,⟨(A8 hg a c).trans n,(A8 hg a c).trans f,(A8 hg a c).trans k,(A8 hg a c).trans g⟩,p,(A8 hg a c).trans i,Kr.kept hg j (λx hx=>e x yBj)⟩
 | [],_::_,_,h,_=>h
 | _::_,[],_,h,_=>h
theorem Kr.below {w:World}{a:List Ah}(h:Kr w bs a v)(b:Below w.heap.size w w'):Kr w' bs a v:=h.kept (Al3 b none) (λ_ _ e=>by cases e)
theorem Kr.nil {w:World}(h:Kr w bs [] v):v=.pointer none:=by
 cases bs with
 | nil=>exact h
 | cons b r=>exact h.elim
theorem Kr.cons {w:World}{m:Ah}{a:List Ah}(h:Kr w bs (m::a) v):∃b c,bs=b::c/\v=.pointer (some ⟨b,0,none⟩)/\b<w.heap.size/\(w.cell? ⟨b,0,none⟩=some (.int .i64 m.kind)/\w.cell? ⟨b,1,none⟩=some (.int .i64 m.op)/\w.cell? ⟨b,2,none⟩=some m.av/\w.cell? ⟨b,3,none⟩=some m.kv)/\∃p,w.cell? ⟨b,4,none⟩=some p/\Kr w c a p:=by
 cases bs with
 | nil=>exact h.elim
 | cons b r=>exact⟨b,r,rfl,h⟩
theorem Kr.ptr {w:World}{a:List Ah}(h:Kr w bs a v):v=.pointer none\/∃b,v=.pointer (some ⟨b,0,none⟩):=by
 cases a with
 | nil=>exact .inl h.nil
 | cons m r=>
  obtain⟨b,_,_,c,_⟩:=h.cons;exact .inr ⟨b,c⟩
theorem A5n (n:Nat)(bs:List Nat)(a:List Ah)(v:Value)(w:World)(hl:Kr w bs a v)(K:n<=1000):
  Calls prog 48 #[v, .int .i64 n] w λe w'=>e=.returned (.bool (decide (n<=a.length)))/\w'=w:=by
 have x:Hid (Kr w bs a v):=hl;have G:=hl.ptr;clear hl;go_enter func48,ntmps48
 go_wp2
 go_loop [0,1] (λu l=>∃(k:Nat) (s:List Nat) (c:List Ah),l=.int .i64 (k:Int)/\Kr w s c u/\(k<=c.length↔n<=a.length)/\k<=n) (λ_ l=>(intOf l).toNat)
 case atStart=>exact⟨n,bs,a,rfl,x.out,Iff.rfl,A88 _⟩
 case round=>
  obtain⟨k,s,c,rfl,f,o,H⟩:=hrel;have g:Hid (k<=c.length↔n<=a.length):=o;clear o;cases k with
  | zero=>
   have d:Hid (decide (n<=a.length)=true):=by show _=_;exact Bba (g.1 (Ban _))
   obtain rfl | ⟨b,rfl⟩:=f.ptr
   ·go_wp2
    go_ret;exact⟨by rw[d.out];rfl,rfl⟩
   ·go_wp2
    go_ret;exact⟨by rw[d.out];rfl,rfl⟩
  | succ k=>
   cases c with
   | nil=>
    have d:Hid (decide (n<=a.length)=false):=by show _=_;exact Ba1 (λh=>by have:=g.2 h;simp at this)
    have y:=f.nil;subst y
    go_wp2
    go_ret;refine⟨?_,rfl⟩;have z:(((k:Int)+1)==0)=false:=by rw[A95];omega
    rw[d.out];show Ending.returned (Value.bool _)=_
    rw[z]
   | cons m r=>
    obtain⟨b,j,rfl,rfl,C,⟨A,I,E,J⟩,p,B,i⟩:=f.cons;have q:Hid (Kr w j r p):=i;have t:=i.ptr;clear i f;have F:IntKind.i64.wrap (((k+1:Nat):Int) - 1)=(k:Int):=by rw[IntKind.wrap_i64];omega
    obtain rfl | ⟨D,rfl⟩:=t
    ·go_wp2
     exact⟨⟨k,j,r,spz,q.out,by rw[<-g.out];simp,omz⟩,by simp[intOf]⟩
    ·go_wp2
     exact⟨⟨k,j,r,spz,q.out,by rw[<-g.out];simp,omz⟩,by simp[intOf]⟩
theorem Azi {w w3 c:World}{a:Option Nat}(h:Below w.heap.size w w3)(hg:w3.grownBy c a)(hr:a=r\/∀q,a=some q->w.heap.size<=q):w.grownBy c r:=
 ⟨hg.os.trans h.os,hg.tape.trans h.tape,hg.output.trans h.output,A9f h.size hg.size,λk b d=>(hg.block k (A82 b h.size) (λe=>by
  rcases hr with hr | hr
  ·exact d (by rw[e,hr])
  ·have:=hr k e.symm
   omega)).trans (h.block k b)⟩
theorem Att {w W:World}{b:Nat}{e u1 u2 u3:Value}(h:w.grownBy W r)(c:w.heap.size<=b):w.grownBy ((((W.setCell ⟨b,0,none⟩ e).setCell ⟨b,1,none⟩ u1).setCell ⟨b,2,none⟩ u2).setCell ⟨b,3,none⟩ u3) r:=by
 have a:Below w.heap.size W ((((W.setCell ⟨b,0,none⟩ e).setCell ⟨b,1,none⟩ u1).setCell ⟨b,2,none⟩ u2).setCell ⟨b,3,none⟩ u3):=((((Below.refl _ _).setCell c _).setCell c _).setCell c _).setCell c _;exact⟨a.os.trans h.os,a.tape.trans h.tape,a.output.trans h.output,A9f h.size a.size,λk d f=>(a.block k d).trans (h.block k d f)⟩
theorem X3 (k:Int)(a b:Ah)(base:Nat)(w:World)(ha:I7 w base a)(hb:I7 w base b)(hp:(a.vals++b.vals).Pairwise Aside)(hs:Aj a.net+Aj b.net<=900000)(aD:Cj a.net)(hz:a.kind=0->Bl a.net=true)(aH:base<=w.heap.size):
  Calls prog 77 #[.int .i64 k, .agg #[.int .i64 a.kind, .int .i64 a.op,a.av,a.kv], .agg #[.int .i64 b.kind, .int .i64 b.op,b.av,b.kv]] w λe w'=>Am8 w w' base (a.vals++b.vals) a.kv.ownBlock (Ff k a.net b.net) e:=by
 have ar:=MOk.from a ha.1;have P:Hid (∀W,Below w.heap.size w W->Calls prog 62 #[.agg #[.int .i64 a.kind, .int .i64 a.op,a.av,a.kv]] W λe w'=>e=.returned (.bool (Bl a.net))/\Below W.heap.size W w'):=λW h=>by
  have h5:=Tm a.net a.av a.kv W (ar.1.at.below h) (ar.2.at.below h) aD;rw[show a.net.kind=a.kind by rw[Ah.net_eq],show a.net.one.op=a.op by rw[Ah.net_eq]] at h5;exact h5
 have aK:Hid (∀W,Below w.heap.size w W->Calls prog 102 #[.int .i64 k, .agg #[.int .i64 a.kind, .int .i64 a.op,a.av,a.kv]] W λe w'=>Ap5 W w' base k a e):=λW h=>Ahs k a base W (ha.below h) (A9f aH h.size)
 have aw:Hid (∀W,Below w.heap.size w W->Calls prog 102 #[.int .i64 k, .agg #[.int .i64 b.kind, .int .i64 b.op,b.av,b.kv]] W λe w'=>Ap5 W w' base k b e):=λW h=>Ahs k b base W (hb.below h) (A9f aH h.size)
 have aI:Bl a.net=decide (a.kind=0):=by
  by_cases h0:a.kind=0
  ·rw[hz h0,Bba h0]
  ·rw[Ba1 h0]
   unfold Bl;rw[show a.net.kind=a.kind by rw[Ah.net_eq]];simp[h0]
 have HN:Hid (Ff k a.net b.net=if a.kind=0 then b.net else Jd k a.net b.net):=by
  show _=_
  unfold Ff;rw[show a.net.kind=a.kind by rw[Ah.net_eq]]
 have ap:=(Ee _ _ _).1 ha.1;have ao:=(Ee _ _ _).1 hb.1;obtain⟨pa,ca,aE⟩:=Ac ap.1;obtain⟨M,H,aF⟩:=Ac ap.2.1;obtain⟨T,O,az⟩:=Ac ao.1;obtain⟨D,G,aJ⟩:=Ac ao.2.1;have an:(Oi k a).length+(Oi k b).length<=900000:=by
  have h1:=Qe k a.net;have h2:=Qe k b.net;have h3:=Fz (Stil.opn k a.net);have h4:=Fz (Stil.opn k b.net);rw[<-P7,A9j] at h3;rw[<-P7,A9j] at h4;rw[<-P7] at h1 h2;omega
 have xP:Hid (∀x∈a.vals++b.vals,∀q,x.ownBlock=some q->q<w.heap.size):=λx i q s=>by
  rcases List.mem_append.1 i with i | i
  ·exact(MOk.lt a ha.1 x i q s).2
  ·exact(MOk.lt b hb.1 x i q s).2
 have uG:Hid (a.kv∈a.vals):=by show _∈_;rw[Ah.vals_eq];simp
 have zZ:Hid (∀W,Below w.heap.size w W->I7 W base b):=λW h=>hb.below h
 have qm:Hid (∀vA:Value,(vA::Bq (Oi k a)).Pairwise Aside->(vA.ownBlock=a.kv.ownBlock\/∀q,vA.ownBlock=some q->w.heap.size<=q)->(vA::(Bq (Oi k a)++Bq (Oi k b))).Pairwise Aside):=λvA h1 h2=>A06 h1 hp h2 (λx i q s=>xP x (A9b _ i) q s)
 have tq:Hid ((Oi k a++Oi k b).map Ah.net=Stil.opn k a.net++Stil.opn k b.net):=by show _=_;rw[A9h,P7,P7]
 have zT:Hid (∀x∈Bq (Oi k a++Oi k b),x∈a.vals++b.vals):=λx i=>by
  rw[Cb] at i;rcases List.mem_append.1 i with i | i
  ·exact A9e _ (Nb i)
  ·exact A9b _ (Nb i)
 rw[aI] at P;obtain⟨NA,ax⟩:∃ah,ah=a.net:=⟨_,rfl⟩
 obtain⟨NB,oz⟩:∃ah,ah=b.net:=⟨_,rfl⟩
 have qM:Hid (NB=b.net):=oz;rw[<-ax,<-oz] at HN tq ⊢;obtain⟨g,kS⟩:∃ai,ai=Oi k a:=⟨_,rfl⟩
 obtain⟨j,kR⟩:∃ai,ai=Oi k b:=⟨_,rfl⟩
 have oV:Hid (∀W,Below w.heap.size w W->Calls prog 102 #[.int .i64 k, .agg #[.int .i64 a.kind, .int .i64 a.op,a.av,a.kv]] W λe w'=>∃(r:Option Addr) (c:Nat),e=.returned (.slice r g.length c)/\Gq w' base (.slice r g.length c) g/\((Value.slice r g.length c).ownBlock=a.kv.ownBlock\/∀q,(Value.slice r g.length c).ownBlock=some q->W.heap.size<=q)/\Below W.heap.size W w'):=by rw[kS];exact aK
 have ae:Hid (∀W,Below w.heap.size w W->Calls prog 102 #[.int .i64 k, .agg #[.int .i64 b.kind, .int .i64 b.op,b.av,b.kv]] W λe w'=>∃(r:Option Addr) (c:Nat),e=.returned (.slice r j.length c)/\Gq w' base (.slice r j.length c) j/\((Value.slice r j.length c).ownBlock=b.kv.ownBlock\/∀q,(Value.slice r j.length c).ownBlock=some q->W.heap.size<=q)/\Below W.heap.size W w'):=by rw[kR];exact aw
 rw[<-kS,<-kR] at an qm tq zT;obtain⟨vs,ac⟩:∃vs,vs=a.vals++b.vals:=⟨_,rfl⟩
 have oQ:Hid (∀x∈b.vals,x∈vs):=λx i=>by rw[ac];exact A9b _ i
 have yI:Hid (a.kv∈vs):=by show _∈_;rw[ac];exact A9e _ uG.out
 rw[<-ac] at xP zT ⊢;have jA:Hid (g.length+j.length<=900000):=an;clear ax oz kS kR ac ar ap ao ha hb hp hs aD hz aI an aK aw uG;obtain⟨ak,iV,fU,zO,zN,C⟩:=a;obtain⟨V,S,X,aU,aV,J⟩:=b;simp only at aE aF az aJ P oV ae HN qm yI ⊢;subst aE;subst aF;subst az;subst aJ;by_cases hk:ak=0
 ·subst hk
  rw[if_pos rfl] at HN;simp only[decide_true] at P;clear oV ae;go_enter func77,ntmps77
  go_wp2_with (go_at_call 62;refine(P _ blA).mono ?_;rintro e f ⟨rfl,ab⟩;obtain⟨l,m⟩:=Eh ab;have u0:f.cell? ⟨w.heap.size+1,0,none⟩=some (.int .i64 V):=(by rw[l _ _ spz];simp[go_sem]);have Y:f.cell? ⟨w.heap.size+1,1,none⟩=some (.int .i64 S):=(by rw[l _ _ spz];simp[go_sem]);have u2:f.cell? ⟨w.heap.size+1,2,none⟩=some (.slice T X.length O):=(by rw[l _ _ spz];simp[go_sem]);have Z:f.cell? ⟨w.heap.size+1,3,none⟩=some (.slice D J.length G):=(by rw[l _ _ spz];simp[go_sem]);have B:f.cell? ⟨w.heap.size+2,0,none⟩=some (.int .i64 0):=(by rw[l _ _ spz];simp[go_sem]);have K:f.cell? ⟨w.heap.size+2,1,none⟩=some (.int .i64 0):=(by rw[l _ _ spz];simp[go_sem]);have L:f.cell? ⟨w.heap.size+2,2,none⟩=some (.slice none 0 0):=(by rw[l _ _ spz];simp[go_sem]);have E:f.cell? ⟨w.heap.size+2,3,none⟩=some (.slice none 0 0):=(by rw[l _ _ spz];simp[go_sem]);have U:f.frozen? ⟨w.heap.size+2,0,none⟩=false:=(by rw[m _ _ spz];simp[go_sem]);have R:f.frozen? ⟨w.heap.size+2,1,none⟩=false:=(by rw[m _ _ spz];simp[go_sem]);have Q:f.frozen? ⟨w.heap.size+2,2,none⟩=false:=(by rw[m _ _ spz];simp[go_sem]);have N:f.frozen? ⟨w.heap.size+2,3,none⟩=false:=(by rw[m _ _ spz];simp[go_sem]))
  refine bodyPost_ret (v:=.agg #[.int .i64 V, .int .i64 S, .slice T X.length O, .slice D J.length G]) (by simp[results,results77,go_sem,B,K,L,E]) rfl ?_;have hB:Below w.heap.size w ((((f.setCell ⟨w.heap.size+1+1,0,none⟩ (.int .i64 V)).setCell ⟨w.heap.size+1+1,1,none⟩ (.int .i64 S)).setCell ⟨w.heap.size+1+1,2,none⟩ (.slice T X.length O)).setCell ⟨w.heap.size+1+1,3,none⟩ (.slice D J.length G)):=blA;exact⟨V,S,X,T,O,D,G,J,rfl,zZ _ hB,(HN.trans qM.out).symm,λx i=>.inl (oQ x i),Al3 hB _⟩
 ·rw[if_neg hk] at HN
  rw[Ba1 hk] at P;go_enter func77,ntmps77;go_upto_region 3 with(go_at_call 62;refine(P _ blA).mono ?_;rintro e f ⟨rfl,ab⟩;obtain⟨l,m⟩:=Eh ab)
  have al:w.heap.size+2<f.heap.size:=by have:=ab.size;simp at this;omega
  have aa:Below w.heap.size w f:=blA;have bA:B4 f w.heap.size (.int .i64 ak) (.int .i64 iV) (.slice pa fU.length ca) (.slice M C.length H):=
   ⟨omz,⟨by rw[l _ _ yAb];simp[go_sem],by rw[l _ _ yAb];simp[go_sem],by rw[l _ _ yAb];simp[go_sem],by rw[l _ _ yAb];simp[go_sem]⟩,by rw[m _ _ yAb];simp[go_sem],by rw[m _ _ yAb];simp[go_sem],by rw[m _ _ yAb];simp[go_sem],by rw[m _ _ yAb];simp[go_sem]⟩
  have bB:B4 f (w.heap.size+1) (.int .i64 V) (.int .i64 S) (.slice T X.length O) (.slice D J.length G):=
   ⟨omz,⟨by rw[l _ _ spz];simp[go_sem],by rw[l _ _ spz];simp[go_sem],by rw[l _ _ spz];simp[go_sem],by rw[l _ _ spz];simp[go_sem]⟩,by rw[m _ _ spz];simp[go_sem],by rw[m _ _ spz];simp[go_sem],by rw[m _ _ spz];simp[go_sem],by rw[m _ _ spz];simp[go_sem]⟩
  have bC:B4 f (w.heap.size+2) (.int .i64 0) (.int .i64 0) (.slice none 0 0) (.slice none 0 0):=
   ⟨omz,⟨by rw[l _ _ spz];simp[go_sem],by rw[l _ _ spz];simp[go_sem],by rw[l _ _ spz];simp[go_sem],by rw[l _ _ spz];simp[go_sem]⟩,by rw[m _ _ spz];simp[go_sem],by rw[m _ _ spz];simp[go_sem],by rw[m _ _ spz];simp[go_sem],by rw[m _ _ spz];simp[go_sem]⟩
  have cO:Hid (∀W,Below f.heap.size f W->B4 W w.heap.size (.int .i64 ak) (.int .i64 iV) (.slice pa fU.length ca) (.slice M C.length H)/\B4 W (w.heap.size+1) (.int .i64 V) (.int .i64 S) (.slice T X.length O) (.slice D J.length G)/\B4 W (w.heap.size+2) (.int .i64 0) (.int .i64 0) (.slice none 0 0) (.slice none 0 0)):=λW h=>⟨bA.below h bA.1,bB.below h bB.1,bC.below h bC.1⟩
  have uq:Hid (∀W,Below f.heap.size f W->Calls prog 102 #[.int .i64 k, .agg #[.int .i64 ak, .int .i64 iV, .slice pa fU.length ca, .slice M C.length H]] W λe w'=>∃(r:Option Addr) (c:Nat),e=.returned (.slice r g.length c)/\Gq w' base (.slice r g.length c) g/\((Value.slice r g.length c).ownBlock=(Value.slice M C.length H).ownBlock\/∀q,(Value.slice r g.length c).ownBlock=some q->W.heap.size<=q)/\Below W.heap.size W w'):=λW h=>oV W (aa.trans (h.mono aa.size))
  have aL:Hid (∀W,Below f.heap.size f W->Calls prog 102 #[.int .i64 k, .agg #[.int .i64 V, .int .i64 S, .slice T X.length O, .slice D J.length G]] W λe w'=>∃(r:Option Addr) (c:Nat),e=.returned (.slice r j.length c)/\Gq w' base (.slice r j.length c) j/\((Value.slice r j.length c).ownBlock=(Value.slice D J.length G).ownBlock\/∀q,(Value.slice r j.length c).ownBlock=some q->W.heap.size<=q)/\Below W.heap.size W w'):=λW h=>ae W (aa.trans (h.mono aa.size))
  have aB:Hid (Below w.heap.size w f):=aa;obtain⟨_,⟨q0,q1,q2,q3⟩,_⟩:=bA;obtain⟨_,⟨u0,Y,u2,Z⟩,_⟩:=bB;obtain⟨_,⟨B,K,L,E⟩,U,R,Q,N⟩:=bC;clear l m ab aa oV ae P zZ oQ;have aC:Hid (∀v:Value,(v.ownBlock=(Value.slice M C.length H).ownBlock\/∀q,v.ownBlock=some q->f.heap.size<=q)->∀d,w.heap.size<=d->d<f.heap.size->v.ownBlock≠some d):=λv t d h1 h2 e=>by
   rcases t with t | t
   ·rw[t] at e
    have:=xP _ yI _ e
    omega
   ·have:=t _ e
    omega
  have ry:Hid (∀v:Value,(v.ownBlock=(Value.slice M C.length H).ownBlock\/∀q,v.ownBlock=some q->f.heap.size<=q)->v.ownBlock=(Value.slice M C.length H).ownBlock\/∀q,v.ownBlock=some q->w.heap.size<=q):=λv t=>by
   rcases t with t | t
   ·exact .inl t
   ·exact .inr (λq s=>by have:=t q s;omega)
  have aP:Hid (base<=f.heap.size):=by show _<=_;omega
  go_region_law (first | (have aO:=yF.out;clear aO;refine Afy rfl _ _ rfl base r2 c2 g j r3 c3 (by go_simp) (by go_simp) (nN.below blA) (cells_of_row yF.1) yF.2.1 (qm _ nN.2.2 (ry _ xZ.out)) yEg (A9f aP ag.out) ?_;intro z y w6 pO u vW;have gV:Hid (Gq w6 base (.slice z (g.length+j.length) y) (g++j)):=pO;have ay:Hid (w3.grownBy w6 (Value.slice r2 g.length c2).ownBlock):=u;have au:Hid ((Value.slice z (g.length+j.length) y).ownBlock=(Value.slice r2 g.length c2).ownBlock\/(Value.slice z (g.length+j.length) y).ownBlock=some w3.heap.size):=vW;have A:=aC _ xZ (w.heap.size+2) omz al;have F:=A82 al ag.out;have x0:=(A8 (o:=0) u F A).trans B;have x1:=(A8 (o:=1) u F A).trans K;have x2:=(A8 (o:=2) u F A).trans L;have x3:=(A8 (o:=3) u F A).trans E;have g0:=(Fa (o:=0) u F A).trans U;have g1:=(Fa (o:=1) u F A).trans R;have g2:=(Fa (o:=2) u F A).trans Q;have g3:=(Fa (o:=3) u F A).trans N;clear pO u vW A B K L E U R Q N q0 q1 q2 q3 u0 Y u2 Z) | (have aR:=nN.out;clear aR;go_simp;go_at_call 102;refine(aL _ blA).mono ?_;rintro e w3 ⟨r3,c3,rfl,jh,aM,aS⟩;have yF:Hid (Gq w3 base (.slice r3 j.length c3) j):=jh;have aj:Below f.heap.size f w3:=blA;have aN:Hid (Below f.heap.size f w3):=aj;have ag:Hid (f.heap.size<=w3.heap.size):=aj.size;clear aj jh aM q0 q1 q2 q3 u0 Y u2 Z B K L E U R Q N;obtain⟨⟨_,⟨q0,q1,q2,q3⟩,_⟩,⟨_,⟨u0,Y,u2,Z⟩,_⟩,⟨_,⟨B,K,L,E⟩,U,R,Q,N⟩⟩:=cO w3 blA) | (go_simp;go_at_call 102;refine(uq _ blA).mono ?_;rintro e w2 ⟨r2,c2,rfl,aG,aA,aT⟩;have nN:Hid (Gq w2 base (.slice r2 g.length c2) g):=aG;have xZ:Hid ((Value.slice r2 g.length c2).ownBlock=(Value.slice M C.length H).ownBlock\/∀q,(Value.slice r2 g.length c2).ownBlock=some q->_<=q):=aA;clear aG aA q0 q1 q2 q3 u0 Y u2 Z B K L E U R Q N;obtain⟨⟨_,⟨q0,q1,q2,q3⟩,_⟩,⟨_,⟨u0,Y,u2,Z⟩,_⟩,⟨_,⟨B,K,L,E⟩,U,R,Q,N⟩⟩:=cO w2 blA))
  all_goals
   try go_wp2
   refine bodyPost_ret (v:=.agg #[.int .i64 k, .int .i64 0, .slice none 0 0, .slice z (g.length+j.length) y]) (by simp[results,results77,go_sem,x0,x1,x2,x3]) rfl ?_;have hB:=aB.trans (aN.mono aB.size);have aQ:I7 w6 base ⟨k,0,[], .slice none 0 0, .slice z (g++j).length y,g++j⟩:=by
    have h6:=gV.out;rw[<-A83] at h6;exact h6.net k 0 [] (World.ownsRow_nil _ _ _ _) (λx _=>Le x)
   have af:∀q,(Value.slice z (g++j).length y).ownBlock=some q->(Value.slice z (g.length+j.length) y).ownBlock=some q:=λq s=>by rw[<-A83];exact s
   refine⟨k,0,[],none,0,z,y,g++j,by rw[A83];rfl,aQ.apart4 (λx i e=>?_),?_,λx i=>?_,Att (Azi hB ay (ry _ xZ.out)) omz⟩
   ·rw[Ah.vals_eq] at i
    simp only[A9o] at i;rcases i with rfl | rfl | i
    ·cases e
    ·rcases au with I | I
     ·exact aC _ xZ _ omz al (I ▸ af _ e)
     ·have e2:=af _ e
      rw[I] at e2;have:=ag.out
      simp only[A96] at e2;omega
    ·have:=xP x (zT x i) _ e
     omega
   ·rw[Ah.net_eq,HN.out]
    unfold Jd;rw[<-tq.out]
   ·rw[Ah.vals_eq] at i
    simp only[A9o] at i;rcases i with rfl | rfl | i
    ·exact .inr (.inr (λq s=>by cases s))
    ·rcases au with I | I
     ·rcases ry _ xZ with h | h
      ·right;left
       have e3:(Value.slice z (g++j).length y).ownBlock=(Value.slice z (g.length+j.length) y).ownBlock:=by rw[A83]
       rw[e3,I,h]
      ·exact .inr (.inr (λq s=>h q (I ▸ af q s)))
     ·refine .inr (.inr (λq s=>?_))
      have e2:=af q s;rw[I] at e2;have:=ag.out
      simp only[A96] at e2;omega
    ·exact .inl (zT x i)
end Go.Proofs.YtobbpffcggchmaaGreatDoor
