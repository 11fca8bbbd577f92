import Derived.Test.YthdogflpbpkbeaaGreatDoorBR2
set_option maxHeartbeats 4000000
set_option maxRecDepth 100000
namespace Go.Proofs.YthdogflpbpkbeaaGreatDoor
open Tryz Go.RowKit Go.Sort Go.BigFrame Go.Shelf
attribute [local go_sem] Oper.semAt_some
def Sq(P:Nat)(A:AU)(bs:Γ)(ts:Ao):Prop:=A.heap.size<=P/\Sv A bs ts\/Sv A (P::bs) ts
theorem Sq.next{P:Nat}{A W:AU}{bs:Γ}{ts:Ao}(h:Sq P A bs ts)(hg:A.grownBy W (some P))(c:P<W.heap.size):Sv W (P::bs) ts:=by
 rcases h with⟨a,h⟩|h
 .exact h.moreG (r:=none) ⟨hg.os,hg.tape,hg.output,hg.size,λk d _=>hg.block k d λe=>by injection e with e;omega⟩ (λb e=>by cases e) a c
 exact h.grow hg λb e=>by cases e;exact .head _
structure AV where
 y:Stil.DL
 a:Option Ab
 p:Nat
 b:Option Ab
 q:Nat
 d:Option Ab
 r:Nat
 f:Option Ab
 s:Nat
def AV.cells(x:AV):Θ:=[AB x.y.N.kind,AB x.y.N.O.op,AE x.a x.y.N.O.args.length x.p,AE x.b x.y.N.K.length x.q,AE x.d x.y.C.length x.r,AE x.f x.y.K.length x.s]
def AV.arg(x:AV):AW:=.agg #[AB x.y.N.kind,AB x.y.N.O.op,AE x.a x.y.N.O.args.length x.p,AE x.b x.y.N.K.length x.q,AE x.d x.y.C.length x.r,AE x.f x.y.K.length x.s]
theorem hH(g:AU)(b o cap LB l n:Nat)(L:AP)(U:Δ)(ar:L≠[]->U=some (AK b o))(ae:LAt g b o L)(hl:L.length<=1000)(ac:∀i∈L,i.fits)(aB:L.length<=cap)(J:List AV->World->Prop)(aj:List AV->AV->World->World->Prop)(W:AU)(hE:AO g W)(jc:W.cell? (AK LB 0)=some (AE U L.length cap))
  (hJ:∀pre A,J pre A->pre.length<1000->∃w u,Sq W.heap.size A w u/\∀(x:AV)j,A.grownBy j (some W.heap.size)->Sv j (W.heap.size::w) (([J9 x.y],x.cells)::u)->aj pre x A j)
  (hY:∀(pre:List AV)(x:AV)(A j:AU),J pre A->A.grownBy j (some W.heap.size)->aj pre x A j->YieldAt Fence.wide (n - 1) prog l #[x.arg] j λe z=>e=.returned (.bool true)/\J (pre++[x]) z/\Below g.heap.size j z/\z.heap[W.heap.size]?=j.heap[W.heap.size]?)
  (h0:J [] W) (cs:List (AP)) (xs:Ek) (s:Stil.UpR cs xs) (ay:cs.flatten=L) (aI:xs.length<=1000):
  CallsIn Fence.wide n prog 106 #[.func (.yield l) #[] #[],AH LB] W λe z=>(∃v,e=.returned v)/\∃(d:List AV)(A:AU),d.map AV.y=xs/\J d A/\A.grownBy z (some W.heap.size):=by
 have aA:Hid (LAt g b o L):=ae;have HF:Hid (∀i∈L,i.fits):=ac;have zO:Hid (Stil.UpR cs xs):=s;have zM:=Af hY;have qI:=Af hJ;have ao:Hid (∀t:AZ,RdP g (W.alloc (.cells #[AE U L.length cap] t)) W.heap.size b o L L):=λt=>by refine⟨hE.trans ((Aa _ _).mono hE.size),hE.size,BU,⟨cap,U,aB,xAa,λh=>by rw[ar h,Nat.sub_self,G0];rfl⟩,xAa,List.suffix_refl _⟩
 have aG:=Bd jc;clear ae ar ac s hY hJ;refine callsIn_of_wp func106 rfl trivial ?_ rfl;simp only[ntmps106,D1,DT,DW,Nat.reduceAdd,Nat.reduceSub,EV,EW,EY,EX,ED,EA];gi_wp2;gi_loopw [] (λwr=>∃(O:List (AP))(S:Ek)(d:List AV)(A:AU),Stil.UpR O S/\d.map AV.y++S=xs/\J d A/\A.grownBy wr (some W.heap.size)/\RdP g wr W.heap.size b o L O.flatten) (λwr=>Xt wr W.heap.size);case atStart=>exact⟨cs,xs,[],W,zO.out,rfl,h0,grown_of (Aa _ _) _,by rw[ay];exact ao _⟩
 case round=>
  clear ao zO h0;obtain⟨O,S,d,A,s,H,C,P,f⟩:=hrel;obtain⟨cp,q,ad,c0,-⟩:=f.c0;have pR:=f.lt;cases O with
  |nil=>have aw:S=[]:=s;subst aw;simp only[M6,DW]at c0;gi_wp2;go_end0;exact⟨⟨_,rfl⟩,d,A,by rw[<-H,EZ],C,P⟩|cons c cs2=>(obtain⟨x,dm,r,rfl,X,qh⟩:=s;have ap:Stil.Wl 1001 [] (c++cs2.flatten) x (r::cs2.flatten):=by have:=X.more cs2.flatten;simpa using this);have aH:1<=c.length:=X.suffix.length_le;have aC:d.length<1000:=(by have V:=congrArg List.length H;simp only[DV,Db,DT]at V;omega);(rw[ER]at f c0 ad;have e:=Tf (EO f.lt);have mW:=f.rd9;have aa:=f.lat aA.out;have⟨w,u,hq,ag⟩:=qI d A C aC;have iV:=Af ag;have qM:Hid (Calls prog 107 #[AH W.heap.size,.pointer none] wr λe m=>JW x (W.heap.size::w) u e m/\EG (cutAt wr W.heap.size) m b o L (r::cs2.flatten)/\wr.grownBy m (some W.heap.size)):=by have h:=pV (cutAt wr W.heap.size) b o L aa hl HF 1000 _ _ x wr (W.heap.size::w) u (hq.next P pR) (by rw[e];exact .head _) ap mW;rwa[e]at h);(have eU:Hid (∀k,EG (cutAt wr W.heap.size) k b o L (r::cs2.flatten)->Calls prog 108 #[AH W.heap.size] k λe m=>(∃v,e=.returned v)/\EG (cutAt wr W.heap.size) m b o L cs2.flatten/\k.grownBy m (some W.heap.size)):=λk D=>by have h:=OV L cs2.flatten r b o (cutAt wr W.heap.size) k D aa hl;rw[e]at h;refine h.mono ?_;rintro e m⟨⟨a,c,rfl,_⟩,V,h3⟩;exact⟨⟨_,rfl⟩,V,h3⟩);have rF:Hid (∀k:AU,EG (cutAt wr W.heap.size) k b o L (r::cs2.flatten)->∀ob:Obj,EG (cutAt wr W.heap.size) (k.alloc ob) b o L (r::cs2.flatten)):=λk D ob=>D.below (Aa _ _) D.lt;have dY:Hid (RdP g wr W.heap.size b o L (c++cs2.flatten)):=f;have dQ:Hid (Xt wr W.heap.size=c.length+cs2.flatten.length):=(by have h:=f.len;rwa[DV]at h);have aD:Hid (d.map AV.y++x::dm=xs):=H;have HJ:Hid (J d A):=C;have HG:Hid (A.grownBy wr (some W.heap.size)):=P;have⟨M,Y⟩:=AA ((c++cs2.flatten).length);have aJ:1<=M:=(by rw[Y,DV];omega);(rw[<-Y]at c0;have aF:M<=1000:=by have:=f.suf.length_le;omega);clear f mW aa e H C P ad Y X ap hq ag;gi_wp2_with(first|(refine⟨trivial,λh=>CQ,?_⟩;gi_at_call 107;refine(callsIn_wide.2 qM.out).mono ?_;rintro e w5⟨⟨G,N,T,F,Q,B,K,R,rfl,au⟩,aV,ab⟩;have oG:=Af au;have kT:=Af aV;have kJ:=Af ab;have aE:W.heap.size<w5.heap.size:=DO pR ab.size;clear au aV ab)|(refine⟨trivial,λh=>CQ,?_⟩;gi_at_call 108;refine(callsIn_wide.2 (eU _ (rF _ kT _))).mono ?_;rintro e Z⟨⟨v7,rfl⟩,mX,I⟩;have yx:=Af mX;have E:wr.grownBy Z (some W.heap.size):=((kJ.trans (grown_of (Aa _ _) _)).trans I);have az:=Af E;have⟨_,⟨d0,d1,d2,d3,d4,d5⟩,_⟩:=(B6.new w5 (AB x.N.kind) (AB x.N.O.op) (AE G x.N.O.args.length N) (AE T x.N.K.length F) (AE Q x.C.length B) (AE K x.K.length R) _).grown I (λe=>by injection e with e;omega);have⟨fn,aK,assign,body,gu,hR⟩:=zM d ⟨x,G,N,T,F,Q,B,K,R⟩ A Z HJ (HG.trans E) (iV ⟨x,G,N,T,F,Q,B,K,R⟩ Z (HG.trans E) ((oG.alloc _).grow I (λq e=>by cases e;exact .head _)));simp only[AV.arg]at gu;have af:=MJ hR;clear mX I E hR));refine⟨λh=>CQ,af.mono ?_⟩;rintro e W3⟨rfl,ak,al,ai⟩;have an:RdP g W3 W.heap.size b o L cs2.flatten:=dY.next yx az al ai;have ah:=MJ an;have ax:=MJ ak;clear an ak al ai gu af;gi_wp2;refine⟨⟨cs2,dm,d++[⟨x,G,N,T,F,Q,B,K,R⟩],W3,qh,?_,ax.out,World.grownBy.refl _ _,ah.out⟩,by rw[ah.out.len,dQ.out];omega⟩;rw[D4,EJ,Bdf];exact aD.out
