import Derived.Test.YtfeablpbkcgdjaaGreatDoorBR2
set_option maxHeartbeats 4000000
set_option maxRecDepth 100000
namespace Go.Proofs.YtfeablpbkcgdjaaGreatDoor
open Tryz Go.RowKit Go.Sort Go.BigFrame Go.Shelf
attribute [local go_sem] Oper.semAt_some
def Sq (P:Nat)(A:World)(bs:List Nat)(ts:List (List Tr × List Value)):Prop:=A.heap.size<=P/\Sv A bs ts\/Sv A (P::bs) ts
theorem Sq.next {P:Nat}{A W:World}{bs:List Nat}{ts:List (List Tr × List Value)}(h:Sq P A bs ts)(hg:A.grownBy W (some P))(a:P<W.heap.size):Sv W (P::bs) ts:=by
 rcases h with⟨d,h⟩ | h
 .exact h.moreG (r:=none) ⟨hg.os,hg.tape,hg.output,hg.size,λk c _=>hg.block k c λe=>by injection e with e;omega⟩ (λb e=>by cases e) d a
 .exact h.grow hg λb e=>by cases e;exact .head _
structure AV where
 y:Stil.B5
 a:Option Addr
 p:Nat
 b:Option Addr
 q:Nat
 d:Option Addr
 r:Nat
 f:Option Addr
 s:Nat
def AV.cells (x:AV):List Value:=[.int .i64 x.y.net.kind, .int .i64 x.y.net.one.op, .slice x.a x.y.net.one.args.length x.p, .slice x.b x.y.net.kids.length x.q, .slice x.d x.y.coils.length x.r, .slice x.f x.y.kids.length x.s]
def AV.arg (x:AV):Value:=.agg #[.int .i64 x.y.net.kind, .int .i64 x.y.net.one.op, .slice x.a x.y.net.one.args.length x.p, .slice x.b x.y.net.kids.length x.q, .slice x.d x.y.coils.length x.r, .slice x.f x.y.kids.length x.s]
theorem vq (k:World)(b o cap LB l n:Nat)(L:List Stil.Dj)(O:Option Addr)(ac:L≠[]->O=some ⟨b,o,none⟩)(ah:LAt k b o L)(hl:L.length<=1000)(ae:∀i∈L,i.fits)(az:L.length<=cap)(J:List AV->World->Prop)(ad:List AV->AV->World->World->Prop)(W:World)(X:Below k.heap.size k W)(xG:W.cell? ⟨LB,0,none⟩=some (.slice O L.length cap))
  (hJ:∀pre A,J pre A->pre.length<1000->∃z s,Sq W.heap.size A z s/\∀(x:AV) g,A.grownBy g (some W.heap.size)->Sv g (W.heap.size::z) (([J7 x.y],x.cells)::s)->ad pre x A g)
  (hY:∀(pre:List AV) (x:AV) (A g:World),J pre A->A.grownBy g (some W.heap.size)->ad pre x A g->YieldAt Fence.wide (n - 1) prog l #[x.arg] g λe u=>e=.returned (.bool true)/\J (pre++[x]) u/\Below k.heap.size g u/\u.heap[W.heap.size]?=g.heap[W.heap.size]?)
  (h0:J [] W) (cs:List (List Stil.Dj)) (xs:List Stil.B5) (w:Stil.UpR cs xs) (aB:cs.flatten=L) (aH:xs.length<=1000):
  CallsIn Fence.wide n prog 83 #[.func (.yield l) #[] #[], .pointer (some ⟨LB,0,none⟩)] W λe u=>(∃v,e=.returned v)/\∃(d:List AV) (A:World),d.map AV.y=xs/\J d A/\A.grownBy u (some W.heap.size):=by
 have ax:Hid (LAt k b o L):=ah;have HF:Hid (∀i∈L,i.fits):=ae;have vU:Hid (Stil.UpR cs xs):=w;have vP:=Ci hY;have lZ:=Ci hJ;have ar:Hid (∀t:TypeId,RdP k (W.alloc (.cells #[.slice O L.length cap] t)) W.heap.size b o L L):=λt=>by
  refine⟨X.trans ((Aa _ _).mono X.size),X.size,AW,⟨cap,O,az,by simp[go_sem],λh=>by rw[ac h,Nat.sub_self,ER];rfl⟩,by simp[go_sem],List.suffix_refl _⟩
 have aI:=Aq xG;clear ah ac ae w hY hJ;refine callsIn_of_wp func83 rfl trivial ?_ rfl;simp only[ntmps83,CS,CC,CM,Nat.reduceAdd,Nat.reduceSub,DF,DG,DJ,DI,C3,CY]
 gi_wp2
 gi_loopw [] (λwr=>∃(M:List (List Stil.Dj)) (Q:List Stil.B5) (d:List AV) (A:World),Stil.UpR M Q/\d.map AV.y++Q=xs/\J d A/\A.grownBy wr (some W.heap.size)/\RdP k wr W.heap.size b o L M.flatten) (λwr=>Vx wr W.heap.size)
 case atStart=>
  exact⟨cs,xs,[],W,vU.out,rfl,h0,grown_of (Aa _ _) _,by rw[aB];exact ar _⟩
 case round=>
  clear ar vU h0;obtain⟨M,Q,d,A,w,H,I,K,f⟩:=hrel;obtain⟨cp,q,af,Y,-⟩:=f.c0;have oZ:=f.lt;cases M with
  | nil=>
   have au:Q=[]:=w;subst au;simp only[JX,CM] at Y
   gi_wp2
   go_end0
   exact⟨⟨_,rfl⟩,d,A,by rw[<-H,EO],I,K⟩
  | cons c cs2=>
   obtain⟨x,wR,r,rfl,ha,yT⟩:=w;have ap:Stil.DW 1001 [] (c++cs2.flatten) x (r::cs2.flatten):=by
    have:=ha.more cs2.flatten
    simpa using this
   have aE:1<=c.length:=ha.suffix.length_le;have aC:d.length<1000:=by
    have h2:=congrArg List.length H;simp only[CO,CP,CC] at h2;omega
   rw[DV] at f Y af;have e:=Qr (GK f.lt);have jU:=f.rd9;have aa:=f.lat ax.out;obtain⟨z,s,hq,ao⟩:=lZ d A I aC;have fG:=Ci ao;have mG:Hid (Calls prog 84 #[.pointer (some ⟨W.heap.size,0,none⟩), .pointer none] wr λe m=>LD x (W.heap.size::z) s e m/\C0 (cutAt wr W.heap.size) m b o L (r::cs2.flatten)/\wr.grownBy m (some W.heap.size)):=by
    have h:=cw (cutAt wr W.heap.size) b o L aa hl HF 1000 _ _ x wr (W.heap.size::z) s (hq.next K oZ) (by rw[e];exact .head _) ap jU;rw[e] at h;exact h
   have iV:Hid (∀j,C0 (cutAt wr W.heap.size) j b o L (r::cs2.flatten)->Calls prog 85 #[.pointer (some ⟨W.heap.size,0,none⟩)] j λe m=>(∃v,e=.returned v)/\C0 (cutAt wr W.heap.size) m b o L cs2.flatten/\j.grownBy m (some W.heap.size)):=λj S=>by
    have h:=MC L cs2.flatten r b o (cutAt wr W.heap.size) j S aa hl;rw[e] at h;refine h.mono ?_;rintro e m ⟨⟨a,c,rfl,_⟩,h2,h3⟩;exact⟨⟨_,rfl⟩,h2,h3⟩
   have nD:Hid (∀j:World,C0 (cutAt wr W.heap.size) j b o L (r::cs2.flatten)->∀ob:Obj,C0 (cutAt wr W.heap.size) (j.alloc ob) b o L (r::cs2.flatten)):=λj S ob=>S.below (Aa _ _) S.lt
   have kT:Hid (RdP k wr W.heap.size b o L (c++cs2.flatten)):=f;have dO:Hid (Vx wr W.heap.size=c.length+cs2.flatten.length):=by have h:=f.len;rw[CO] at h;exact h
   have aA:Hid (d.map AV.y++x::wR=xs):=H;have HJ:Hid (J d A):=I;have HG:Hid (A.grownBy wr (some W.heap.size)):=K;obtain⟨T,Z⟩:∃T,T=(c++cs2.flatten).length:=⟨_,rfl⟩
   have xu:1<=T:=by rw[Z,CO];omega
   rw[<-Z] at Y;have xq:T<=1000:=by have:=f.suf.length_le;omega
   clear f jU aa e H I K af Z ha ap hq ao
   gi_wp2_with (first | (refine⟨trivial,λh=>BM,?_⟩;gi_at_call 84;refine(callsIn_wide.2 mG.out).mono ?_;rintro e w5 ⟨⟨C,U,N,D,E,F,B,R,rfl,ak⟩,bZ,V⟩;have ay:=Ci ak;have qX:=Ci bZ;have qG:=Ci V;have aF:W.heap.size<w5.heap.size:=B8 oZ V.size;clear ak bZ V) | (refine⟨trivial,λh=>BM,?_⟩;gi_at_call 85;refine(callsIn_wide.2 (iV _ (nD _ qX _))).mono ?_;rintro e w7 ⟨⟨v7,rfl⟩,sW,G⟩;have cu:=Ci sW;have P:wr.grownBy w7 (some W.heap.size):=((qG.trans (grown_of (Aa _ _) _)).trans G);have aw:=Ci P;obtain⟨_,⟨d0,d1,d2,d3,d4,d5⟩,_⟩:=(B6.new w5 (.int .i64 x.net.kind) (.int .i64 x.net.one.op) (.slice C x.net.one.args.length U) (.slice N x.net.kids.length D) (.slice E x.coils.length F) (.slice B x.kids.length R) _).grown G (λe=>by injection e with e;omega);obtain⟨fn,aG,assign,body,wW,hR⟩:=vP d ⟨x,C,U,N,D,E,F,B,R⟩ A w7 HJ (HG.trans P) (fG ⟨x,C,U,N,D,E,F,B,R⟩ w7 (HG.trans P) ((ay.alloc _).grow G (λq e=>by cases e;exact .head _)));simp only[AV.arg] at wW;have ab:=KO hR;clear sW G P hR))
   refine⟨λh=>BM,ab.mono ?_⟩;rintro e W3 ⟨rfl,an,al,ai⟩;have ag:RdP k W3 W.heap.size b o L cs2.flatten:=kT.next cu aw al ai;have aj:=KO ag;have aD:=KO an;clear ag an al ai wW ab
   gi_wp2
   refine⟨⟨cs2,wR,d++[⟨x,C,U,N,D,E,F,B,R⟩],W3,yT,?_,aD.out,World.grownBy.refl _ _,aj.out⟩,by rw[aj.out.len,dO.out];omega⟩;rw[CX,C6,fj];exact aA.out
