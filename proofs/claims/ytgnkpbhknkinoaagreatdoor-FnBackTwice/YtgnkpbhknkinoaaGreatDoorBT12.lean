import Derived.Test.YtgnkpbhknkinoaaGreatDoorCH1
set_option maxHeartbeats 4000000
set_option maxRecDepth 100000
namespace Go.Proofs.YtgnkpbhknkinoaaGreatDoor
open Tryz Go.RowKit Go.Sort Go.BigFrame Go.Shelf
attribute [local go_sem] Oper.semAt_some
def Sq(P:Nat)(A:AU)(bs:List Nat)(ts:Ao):Prop:=A.heap.size<=P/\Sv A bs ts\/Sv A (P::bs) ts
theorem Sq.next{P:Nat}{A W:AU}{bs:List Nat}{ts:Ao}(h:Sq P A bs ts)(hg:A.grownBy W (some P))(c:P<W.heap.size):Sv W (P::bs) ts:=by
 rcases h with⟨a,h⟩|h
 .exact h.moreG (r:=none) ⟨hg.os,hg.tape,hg.output,hg.size,λk d _=>hg.block k d λe=>by injection e with e;omega⟩ (λb e=>by cases e) a c
 exact h.grow hg λb e=>by cases e;exact .head _
structure AV where
 y:Stil.DJ
 a:Option Ab
 p:Nat
 b:Option Ab
 q:Nat
 d:Option Ab
 r:Nat
 f:Option Ab
 s:Nat
def AV.cells(x:AV):List AW:=[AB x.y.N.kind,AB x.y.N.O.op,AE x.a x.y.N.O.args.length x.p,AE x.b x.y.N.K.length x.q,AE x.d x.y.C.length x.r,AE x.f x.y.K.length x.s]
def AV.arg(x:AV):AW:=.agg #[AB x.y.N.kind,AB x.y.N.O.op,AE x.a x.y.N.O.args.length x.p,AE x.b x.y.N.K.length x.q,AE x.d x.y.C.length x.r,AE x.f x.y.K.length x.s]
theorem Azl(g:AU)(b o cap LB l n:Nat)(L:List Stil.Aw)(N:Option Ab)(aw:L≠[]->N=some (AK b o))(al:LAt g b o L)(hl:L.length<=1000)(au:∀i∈L,i.fits)(aF:L.length<=cap)(J:List AV->World->Prop)(ai:List AV->AV->World->World->Prop)(W:AU)(Y:AO g W)(dm:W.cell? (AK LB 0)=some (AE N L.length cap))
  (hJ:∀pre A,J pre A->pre.length<1000->∃u z,Sq W.heap.size A u z/\∀(x:AV)k,A.grownBy k (some W.heap.size)->Sv k (W.heap.size::u) (([J6 x.y],x.cells)::z)->ai pre x A k)
  (hY:∀(pre:List AV)(x:AV)(A k:AU),J pre A->A.grownBy k (some W.heap.size)->ai pre x A k->YieldAt Fence.wide (n - 1) prog l #[x.arg] k λe w=>e=.returned (.bool true)/\J (pre++[x]) w/\Below g.heap.size k w/\w.heap[W.heap.size]?=k.heap[W.heap.size]?)
  (h0:J [] W) (cs:List (List Stil.Aw)) (xs:List Stil.DJ) (s:Stil.UpR cs xs) (aC:cs.flatten=L) (aG:xs.length<=1000):
  CallsIn Fence.wide n prog 85 #[.func (.yield l) #[] #[],AH LB] W λe w=>(∃v,e=.returned v)/\∃(d:List AV)(A:AU),d.map AV.y=xs/\J d A/\A.grownBy w (some W.heap.size):=by
 have aD:Hid (LAt g b o L):=al;have HF:Hid (∀i∈L,i.fits):=au;have zB:Hid (Stil.UpR cs xs):=s;have yY:=Af hY;have qA:=Af hJ;have ao:Hid (∀t:AZ,RdP g (W.alloc (.cells #[AE N L.length cap] t)) W.heap.size b o L L):=λt=>by refine⟨Y.trans ((Aa _ _).mono Y.size),Y.size,BU,⟨cap,N,aF,AP,λh=>by rw[aw h,Nat.sub_self,GZ];rfl⟩,AP,List.suffix_refl _⟩
 have aJ:=Ba dm;clear al aw au s hY hJ;refine callsIn_of_wp func85 rfl trivial ?_ rfl;simp only[ntmps85,Db,DO,DU,Nat.reduceAdd,Nat.reduceSub,ES,ET,EV,EU,EB,D4];gi_wp2;gi_loopw [] (λwr=>∃(B:List (List Stil.Aw))(U:List Stil.DJ)(d:List AV)(A:AU),Stil.UpR B U/\d.map AV.y++U=xs/\J d A/\A.grownBy wr (some W.heap.size)/\RdP g wr W.heap.size b o L B.flatten) (λwr=>Xm wr W.heap.size);case atStart=>exact⟨cs,xs,[],W,zB.out,rfl,h0,grown_of (Aa _ _) _,by rw[aC];exact ao _⟩
 case round=>
  clear ao zB h0;obtain⟨B,U,d,A,s,C,S,O,f⟩:=hrel;obtain⟨cp,q,ak,Z,-⟩:=f.c0;have oV:=f.lt;cases B with
  |nil=>have aA:U=[]:=s;subst aA;simp only[M1,DU]at Z;gi_wp2;go_end0;exact⟨⟨_,rfl⟩,d,A,by rw[<-C,EW],S,O⟩|cons c cs2=>(obtain⟨x,af,r,rfl,V,l7⟩:=s;have ap:Stil.Wh 1001 [] (c++cs2.flatten) x (r::cs2.flatten):=by have:=V.more cs2.flatten;simpa using this);have aL:1<=c.length:=V.suffix.length_le;have aB:d.length<1000:=(by have h2:=congrArg List.length C;simp only[DT,DZ,DO]at h2;omega);(rw[EN]at f Z ak;have e:=Sz (EL f.lt);have mO:=f.rd9;have ab:=f.lat aD.out;have⟨u,z,hq,ar⟩:=qA d A S aB;have iP:=Af ar;have qF:Hid (Calls prog 86 #[AH W.heap.size,.pointer none] wr λe m=>JR x (W.heap.size::u) z e m/\EC (cutAt wr W.heap.size) m b o L (r::cs2.flatten)/\wr.grownBy m (some W.heap.size)):=by have h:=nQ (cutAt wr W.heap.size) b o L ab hl HF 1000 _ _ x wr (W.heap.size::u) z (hq.next O oV) (by rw[e];exact .head _) ap mO;rwa[e]at h);(have eF:Hid (∀j,EC (cutAt wr W.heap.size) j b o L (r::cs2.flatten)->Calls prog 87 #[AH W.heap.size] j λe m=>(∃v,e=.returned v)/\EC (cutAt wr W.heap.size) m b o L cs2.flatten/\j.grownBy m (some W.heap.size)):=λj K=>by have h:=OV L cs2.flatten r b o (cutAt wr W.heap.size) j K ab hl;rw[e]at h;refine h.mono ?_;rintro e m⟨⟨a,c,rfl,_⟩,h2,h3⟩;exact⟨⟨_,rfl⟩,h2,h3⟩);have qX:Hid (∀j:AU,EC (cutAt wr W.heap.size) j b o L (r::cs2.flatten)->∀ob:Obj,EC (cutAt wr W.heap.size) (j.alloc ob) b o L (r::cs2.flatten)):=λj K ob=>K.below (Aa _ _) K.lt;have dW:Hid (RdP g wr W.heap.size b o L (c++cs2.flatten)):=f;have dN:Hid (Xm wr W.heap.size=c.length+cs2.flatten.length):=(by have h:=f.len;rwa[DT]at h);have az:Hid (d.map AV.y++x::af=xs):=C;have HJ:Hid (J d A):=S;have HG:Hid (A.grownBy wr (some W.heap.size)):=O;have⟨P,X⟩:=AA ((c++cs2.flatten).length);have aK:1<=P:=(by rw[X,DT];omega);(rw[<-X]at Z;have aI:P<=1000:=by have:=f.suf.length_le;omega);clear f mO ab e C S O ak X V ap hq ar;gi_wp2_with(first|(refine⟨trivial,λh=>CQ,?_⟩;gi_at_call 86;refine(callsIn_wide.2 qF.out).mono ?_;rintro e w5⟨⟨R,D,T,I,E,H,Q,M,rfl,ac⟩,aQ,aa⟩;have nT:=Af ac;have kN:=Af aQ;have kD:=Af aa;have aH:W.heap.size<w5.heap.size:=DL oV aa.size;clear ac aQ aa)|(refine⟨trivial,λh=>CQ,?_⟩;gi_at_call 87;refine(callsIn_wide.2 (eF _ (qX _ kN _))).mono ?_;rintro e w7⟨⟨v7,rfl⟩,mP,G⟩;have uz:=Af mP;have F:wr.grownBy w7 (some W.heap.size):=((kD.trans (grown_of (Aa _ _) _)).trans G);have aE:=Af F;have⟨_,⟨d0,d1,d2,d3,d4,d5⟩,_⟩:=(B6.new w5 (AB x.N.kind) (AB x.N.O.op) (AE R x.N.O.args.length D) (AE T x.N.K.length I) (AE E x.C.length H) (AE Q x.K.length M) _).grown G (λe=>by injection e with e;omega);have⟨fn,aM,assign,body,ax,hR⟩:=yY d ⟨x,R,D,T,I,E,H,Q,M⟩ A w7 HJ (HG.trans F) (iP ⟨x,R,D,T,I,E,H,Q,M⟩ w7 (HG.trans F) ((nT.alloc _).grow G (λq e=>by cases e;exact .head _)));simp only[AV.arg]at ax;have an:=MH hR;clear mP G F hR));refine⟨λh=>CQ,an.mono ?_⟩;rintro e W3⟨rfl,ah,ad,ag⟩;have ae:RdP g W3 W.heap.size b o L cs2.flatten:=dW.next uz aE ad ag;have aj:=MH ae;have ay:=MH ah;clear ae ah ad ag ax an;gi_wp2;refine⟨⟨cs2,af,d++[⟨x,R,D,T,I,E,H,Q,M⟩],W3,l7,?_,ay.out,World.grownBy.refl _ _,aj.out⟩,by rw[aj.out.len,dN.out];omega⟩;rw[D2,EG,Bck];exact az.out
