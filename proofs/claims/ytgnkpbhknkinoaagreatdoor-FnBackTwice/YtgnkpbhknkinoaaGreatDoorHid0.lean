import Derived.Test.YtgnkpbhknkinoaaGreatDoorA00
import Derived.Lib.ItoaNum
import Derived.Test.YtgnkpbhknkinoaaGreatDoorChecked
import Derived.WalkSpells
import Derived.WalkLawsBesides
import Derived.BigQuiet
import Derived.Lib.QuietBelow
import Derived.Deep.Light
import Derived.Deep.RegionHeld3
set_option linter.defProp false
set_option maxHeartbeats 4000000
set_option maxRecDepth 100000
namespace Stil
variable {α β:Type}
structure DN where
 kind:Int
 n:Int
 p:Int
def I7(k:Int):Int:=
 if k=1\/k=2\/k=5\/k=9 then 32 else if k=3 then 64 else if k=4\/k=7\/k=8\/k=10 then 16 else if k=6 then 5 else 0
def Ia(k n p:Int):Bool:=
 if k=11 then decide (-32768<=n/\n<=32767/\p=0)
 else if k=12 then decide (-999999999<=n/\n<=999999999/\1<=p/\p<=6/\(p=1\/n.tmod 10≠0))
 else if k=13 then decide (0<=n/\n<=3/\p=0)
 else decide (0<=n/\n<I7 k/\p=0)
def Q7(k n p:Int):Bool:=Ia k n p && (decide (k<=4) || k==6 || k==7 || k==8)
def I8(k n p:Int):Bool:=Ia k n p && (k==7 || k==8 || k==9 || k==11)
def Jy(k n p:Int):Bool:=Ia k n p && (k==10 || k==12 || k==13)
def letters:List UInt8:=[88,89,77,83,69,71,84,67,68,82]
def Q5(k:Int):ByteArray:=if 1<=k/\k<=10 then⟨#[letters.getD (k.toNat - 1) 0]⟩ else⟨#[]⟩
def arity(op:Int):Int:=
 if op=1\/op=2\/op=21\/op=22\/op=23\/op=25 then 1
 else if 31<=op/\op<=35 then 3
 else if(1<=op/\op<=10)\/(21<=op/\op<=37) then 2 else 0
def DN.ok(d:DN):Bool:=Ia d.kind d.n d.p
def DN.isBit(d:DN):Bool:=Q7 d.kind d.n d.p
def DN.isWhole(d:DN):Bool:=I8 d.kind d.n d.p
def DN.isReal(d:DN):Bool:=Jy d.kind d.n d.p
def N8(k n p a b:Int):Bool:=Ia k n p && (k==a || k==b)
def DN.kindIs(d:DN)(a b:Int):Bool:=N8 d.kind d.n d.p a b
def DN.fits(d:DN):Prop:=(-9223372036854775808<=d.kind/\d.kind<=9223372036854775807)/\(-9223372036854775808<=d.n/\d.n<=9223372036854775807)/\(-9223372036854775808<=d.p/\d.p<=9223372036854775807)
def Dc(op:Int)(ds:List DN):Bool:=
 if op<1\/10<op then false
 else match ds with
  |[a]=>decide (op<=2) && a.isBit
  |[a,b]=>
   if op<=2 then false
   else if op<=4 then a.isBit && b.ok && b.kind==5
   else a.isWhole && b.isWhole || a.isReal && b.isReal
  |_=>false
def Oe(whole:Bool)(l:List DN):Bool:=if whole then l.all DN.isWhole else l.all DN.isReal
def Gk(op:Int):List DN->Bool
 |[]=>false
 |d::r=>d.kindIs 9 10 && Oe (d.kind==9) r && (d.kind==9 || op !=35)
def F7(op:Int)(ds:List DN):Bool:=
 if op<21\/37<op\/(ds.length:Int)≠arity op then false
 else match ds with
  |[a]=>if op=21 then a.kindIs 2 3 else if op=22 then a.kindIs 2 3 || a.kindIs 4 4 else if op=23 then a.kindIs 2 3 || a.kindIs 4 7 || a.kindIs 8 8 else a.kindIs 4 4
  |[a,b]=>
   if op=24 then a.kindIs 2 3 && b.kindIs 5 5
   else if op=26\/op=27\/op=28 then a.kindIs 7 7 && b.kindIs 11 11 && decide (0<=b.n)
   else if op=29 then a.kindIs 8 8 && b.kindIs 11 11 && decide (0<=b.n)
   else if op=36 then a.kindIs 10 10 && b.isWhole
   else if op=37 then a.kindIs 9 9 && b.isReal
   else Gk op ds
  |_=>Gk op ds
structure Elem where
 op:Int
 args:List DN
structure DI where
 kind:Int
 O:Elem
 K:List DI
structure DJ where
 N:DI
 C:List Elem
 K:List DJ
 abbrev _root_.A0 (n:DI)(a:Option Go.Addr)(c:Nat)(b:Option Go.Addr)(d:Nat):Go.Value:=.agg #[AB n.kind,AB n.O.op,AE a n.O.args.length c,AE b n.K.length d]
 abbrev _root_.A2 (n:DI)(a:Option Go.Addr)(c:Nat)(b:Option Go.Addr)(d:Nat):Go.TypeId->Go.Obj:=.cells #[AB n.kind,AB n.O.op,AE a n.O.args.length c,AE b n.K.length d]
 abbrev _root_.A3 (n:DI)(a:Option Go.Addr)(c:Nat)(b:Option Go.Addr)(d:Nat):List Go.Value:=[AB n.kind,AB n.O.op,AE a n.O.args.length c,AE b n.K.length d]
 abbrev _root_.A4 (n:DJ)(a:Option Go.Addr)(c:Nat)(b:Option Go.Addr)(d:Nat)(e:Option Go.Addr)(f:Nat)(g:Option Go.Addr)(h:Nat):Go.Value:=.agg #[AB n.N.kind,AB n.N.O.op,AE a n.N.O.args.length c,AE b n.N.K.length d,AE e n.C.length f,AE g n.K.length h]
 abbrev _root_.A5 (n:DJ)(a:Option Go.Addr)(c:Nat)(b:Option Go.Addr)(d:Nat)(e:Option Go.Addr)(f:Nat)(g:Option Go.Addr)(h:Nat):Go.TypeId->Go.Obj:=.cells #[AB n.N.kind,AB n.N.O.op,AE a n.N.O.args.length c,AE b n.N.K.length d,AE e n.C.length f,AE g n.K.length h]
 abbrev _root_.A6 (n:DJ)(a:Option Go.Addr)(c:Nat)(b:Option Go.Addr)(d:Nat)(e:Option Go.Addr)(f:Nat)(g:Option Go.Addr)(h:Nat):List Go.Value:=[AB n.N.kind,AB n.N.O.op,AE a n.N.O.args.length c,AE b n.N.K.length d,AE e n.C.length f,AE g n.K.length h]
theorem Gs(P:DI->Prop)(h:∀k o kids,(∀x∈kids,P x)->P ⟨k,o,kids⟩):∀n,P n
 |⟨k,o,kids⟩=>h k o kids (λx _=>Gs P h x)
theorem Fv(P:DJ->Prop)(h:∀n c kids,(∀x∈kids,P x)->P ⟨n,c,kids⟩):∀n,P n
 |⟨k,o,kids⟩=>h k o kids (λx _=>Fv P h x)
def Ac:DI->Nat
 |⟨_,_,kids⟩=>1+(kids.map Ac).sum
def Qc(k:Int)(o:Elem)(kids:List DI):Ac ⟨k,o,kids⟩=1+(kids.map Ac).sum:=by rw[Ac]
def Ai(n:DI):Bool:=n.kind==0 && n.O.op==0 && n.O.args.length==0 && n.K.length==0
def Ah:DJ->Nat
 |⟨n,a,kids⟩=>1+a.length+(if Ai n then 0 else Ac n)+(kids.map Ah).sum
def S9(n:DI)(a:List Elem)(kids:List DJ):Ah ⟨n,a,kids⟩=1+a.length+(if Ai n then 0 else Ac n)+(kids.map Ah).sum:=by rw[Ah]
def Au(l:List DJ):Nat:=(l.map Ah).sum
def i64(n:Int):Prop:=-9223372036854775808<=n/\n<=9223372036854775807
def Elem.fits(e:Elem):Prop:=i64 e.op/\e.args.length<=1048576/\∀d∈e.args,d.fits
def all_map(f:α->Prop)(l:List α):(∀p∈l.map f,p)↔∀x∈l,f x:=by
 constructor
 .intro h x a;exact h _ (BM.2 ⟨x,a,rfl⟩)
 intro h p b;obtain⟨x,a,rfl⟩:=BM.1 b;exact h x a
def Cj:DI->Prop
 |⟨k,e,kids⟩=>i64 k/\e.fits/\kids.length<=1048576/\∀p∈kids.map Cj,p
def Hg(k:Int)(e:Elem)(kids:List DI):Cj ⟨k,e,kids⟩↔i64 k/\e.fits/\kids.length<=1048576/\∀x∈kids,Cj x:=by rw[Cj,all_map]
def Bh:DJ->Prop
 |⟨n,a,kids⟩=>Cj n/\a.length<=1048576/\(∀c∈a,c.fits)/\kids.length<=1048576/\∀p∈kids.map Bh,p
def Fa(n:DI)(a:List Elem)(kids:List DJ):Bh ⟨n,a,kids⟩↔Cj n/\a.length<=1048576/\(∀c∈a,c.fits)/\kids.length<=1048576/\∀x∈kids,Bh x:=by rw[Bh,all_map]
def D8{n:DI}(h:Cj n):i64 n.kind/\n.O.fits/\n.K.length<=1048576/\∀x∈n.K,Cj x:=by obtain⟨_,_,_⟩:=n;exact(Hg _ _ _).1 h
def Ig{n:DJ}(h:Bh n):Cj n.N/\n.C.length<=1048576/\(∀c∈n.C,c.fits)/\n.K.length<=1048576/\∀x∈n.K,Bh x:=by obtain⟨_,_,_⟩:=n;exact(Fa _ _ _).1 h
theorem Ey(f:α->Nat):∀(l:List α)(x:α),x∈l->f x<=(l.map f).sum
 |y::r,x,h=>by
  rw[DX,FK];rcases BD.1 h with rfl|h
  .omega
  .have:=Ey f r x h;omega
def Elem.wf(e:Elem):Prop:=i64 e.op/\e.args.length<=9223372036854775807/\∀d∈e.args,d.fits
def Az:List Int->Int
 |[]=>0
 |c::r=>if 0<c then c else Az r
def V6(k op:Int)(b a:Nat):Bool:=decide (k<2) || decide (4<k) || op !=0 || decide ((0:Int)<(b:Int)) || (a:Int)==0 || (k==4 && (a:Int) !=1)
def Am:DI->Int
 |⟨k,e,kids⟩=>
  if k=1 then(if 0<kids.length then 2 else if Dc e.op e.args then 0 else 3)
  else if V6 k e.op e.args.length kids.length then 2 else Az (kids.map Am)
def Kr(k:Int)(e:Elem)(kids:List DI):Am ⟨k,e,kids⟩=if k=1 then(if 0<kids.length then 2 else if Dc e.op e.args then 0 else 3)
  else if V6 k e.op e.args.length kids.length then 2 else Az (kids.map Am):=by rw[Am]
def Zl(l:List Int)(h:∀x∈l,0<=x/\x<=5):0<=Az l/\Az l<=5:=by induction l with|nil=>simp[Az]|cons x r a=>unfold Az;split;{have:=h x BU;omega};exact a (λy hy=>h y DG)
def La(n:DI):0<=Am n/\Am n<=5:=by induction n using Gs with|h k e kids a=>rw[Kr];split;{split;{omega};split<;>omega};split;{omega};exact Zl _ (λx b=>by obtain⟨y,c,rfl⟩:=BM.1 b;exact a y c)
def JC:DI->List DI
 |⟨k,e,kids⟩=>⟨k,e,kids⟩::(kids.map JC).flatten
def QW(n:DI):JC n=n::(n.K.map JC).flatten:=by obtain⟨k,e,kids⟩:=n;rw[JC]
def Et(l:List DI):List DI:=(l.map JC).flatten
def Zq:DJ->List DJ
 |⟨n,c,kids⟩=>⟨n,c,kids⟩::(kids.map Zq).flatten
def Ue(n:DJ):Zq n=n::(n.K.map Zq).flatten:=by obtain⟨k,e,kids⟩:=n;rw[Zq]
def D9(l:List DJ):List DJ:=(l.map Zq).flatten
def P8(a:DJ):Nat:=1+a.C.length+(if Ai a.N then 0 else Ac a.N)
theorem XI(f:α->List β):∀l:List α,((l.map f).flatten).length=(l.map (λx=>(f x).length)).sum
 |[]=>rfl
 |x::r=>by simp[XI f r]
def Vk{f g:α->β}{l:List α}(h:∀x∈l,f x=g x):l.map f=l.map g:=LJ h
def Aui(n:DI):(JC n).length=Ac n:=by induction n using Gs with|h k e kids a=>rw[QW,Qc,DO,XI,Vk a];omega
theorem P4(f:α->List β)(g:β->Nat):∀l:List α,(((l.map f).flatten).map g).sum=(l.map (λx=>((f x).map g).sum)).sum
 |[]=>rfl
 |x::r=>by rw[DX,EN,D2,KB,P4 f g r,DX,FK]
def Awe(n:DJ):((Zq n).map P8).sum=Ah n:=by induction n using Fv with|h n c kids a=>rw[Ue,S9,DX,FK,P4,Vk a];simp only[P8]
def xX(l:List DJ):((D9 l).map P8).sum=Au l:=by unfold D9 Au;rw[P4,Vk (λx _=>Awe x)]
def WQ(n:DI):Et [n]=JC n:=by simp[Et]
def Ur(l:List DI)(j:Nat)(h:j<l.length):Et (l.take (j+1))=Et (l.take j)++(l[j]::Et l[j].K):=by unfold Et;rw[ER h,D2,FY];simp only[DX,FD,EN,M1,EW];rw[QW l[j]]
def Ux(l:List DJ)(j:Nat)(h:j<l.length):D9 (l.take (j+1))=D9 (l.take j)++(l[j]::D9 l[j].K):=by unfold D9;rw[ER h,D2,FY];simp only[DX,FD,EN,M1,EW];rw[Ue l[j]]
def Pl(l:List DI)(j:Nat):Et (l.take j)<+:Et l:=by
 have h:Et l=Et (l.take j)++Et (l.drop j):=by unfold Et;rw[<-FY,<-D2,KC]
 rw[h];exact List.prefix_append _ _
def QA(l:List DJ)(j:Nat):D9 (l.take j)<+:D9 l:=by
 have h:D9 l=D9 (l.take j)++D9 (l.drop j):=by unfold D9;rw[<-FY,<-D2,KC]
 rw[h];exact List.prefix_append _ _
def xm(g:α->Nat){a b:List α}(h:a<+:b):(a.map g).sum<=(b.map g).sum:=by obtain⟨c,rfl⟩:=h;rw[D2,KB];omega
theorem wL(n:DJ):∀x∈Zq n,∀y∈x.K,y∈Zq n:=by induction n using Fv with|h n c kids f=>intro x a y b;rw[Ue]at a⊢;rcases BD.1 a with rfl|a;{exact BD.2 (.inr (List.mem_flatten.2 ⟨_,BM.2 ⟨y,b,rfl⟩,by rw[Ue];exact BD.2 (.inl rfl)⟩))};have⟨l,d,g⟩:=List.mem_flatten.1 a;obtain⟨z,e,rfl⟩:=BM.1 d;exact BD.2 (.inr (List.mem_flatten.2 ⟨_,d,f z e x g y b⟩))
def t9(l:List DJ):∀x∈D9 l,∀y∈x.K,y∈D9 l:=by intro x b y d;have⟨m,a,c⟩:=List.mem_flatten.1 b;obtain⟨z,e,rfl⟩:=BM.1 a;exact List.mem_flatten.2 ⟨_,a,wL z x c y d⟩
def xd(l:List DJ):∀x∈l,x∈D9 l:=by intro x a;exact List.mem_flatten.2 ⟨_,BM.2 ⟨x,a,rfl⟩,by rw[Ue];exact BD.2 (.inl rfl)⟩
theorem wN(n:DJ):Bh n->∀x∈Zq n,Bh x:=by induction n using Fv with|h n c kids e=>intro d x a;rw[Ue]at a;rcases BD.1 a with rfl|a;{exact d};have⟨l,f,g⟩:=List.mem_flatten.1 a;obtain⟨z,b,rfl⟩:=BM.1 f;exact e z b (((Ig d).2.2.2.2) z b) x g
def VT(l:List DJ)(d:∀x∈l,Bh x):∀x∈D9 l,Bh x:=by intro x c;have⟨m,b,e⟩:=List.mem_flatten.1 c;obtain⟨z,a,rfl⟩:=BM.1 b;exact wN z (d z a) x e
def Auo(g:α->Nat){l:List α}{x:α}(h:x∈l):g x<=(l.map g).sum:=Ey g l x h
theorem Tn(a b:List Int):Az (a++b)=if 0<Az a then Az a else Az b:=by induction a with|nil=>simp[Az]|cons x r c=>rw[D4,Az,Az,c];by_cases h:0<x;{simp[h]};simp[h]
def Xp(f:α->List β)(g:β->Int)(l:List α):Az (((l.map f).flatten).map g)=Az (l.map (λx=>Az ((f x).map g))):=by induction l with|nil=>rfl|cons x r a=>rw[DX,EN,D2,Tn,a,DX,Az]
def KH(n:DI):Bool:=
 if n.kind=1 then decide (n.K.length=0)
 else if n.kind=2\/n.kind=3 then(n.O.op==0 && n.O.args.length==0) && decide (0<n.K.length)
 else if n.kind=4 then(n.O.op==0 && n.O.args.length==0) && decide (n.K.length=1)
 else false
def Gj(n:DI):Int:=if KH n then(if n.kind=1 then(if Dc n.O.op n.O.args then 0 else 3) else 0) else 2
theorem tg(n:DI):Az ((JC n).map Gj)=Am n:=by
 induction n using Gs with
 |h k e kids v=>
  have u:Az ((JC ⟨k,e,kids⟩).map Gj)=if 0<Gj ⟨k,e,kids⟩ then Gj ⟨k,e,kids⟩ else Az (kids.map Am):=by rw[QW,DX,Az,Xp,Vk v]
  rw[u,Kr];unfold Gj KH;simp only;by_cases f:k=1;{subst f;by_cases r:0<kids.length;{have j:¬kids.length=0:=(by omega);simp only[if_true,j,decide_false,r];simp};have j:kids.length=0:=(by omega);have l:=List.eq_nil_of_length_eq_zero j;subst l;cases Dc e.op e.args<;>simp[Az]};rw[BQ f,BQ f,BQ f];unfold V6;have⟨q,s⟩:=AA (Az (kids.map Am));rw[<-s];generalize kids.length=lk;generalize e.args.length=la;generalize e.op=op;have c:k<2\/(k=2\/k=3)\/k=4\/4<k:=BS;rcases c with c|c|rfl|c;{have i:¬(k=2\/k=3):=(by omega);have g:¬k=4:=BS;simp[c,i,g]};{rw[BR c];have l:(k==4)=false:=xAf;have o:decide (k<2)=false:=xCl;have t:decide (4<k)=false:=xCl;rw[l,o,t];by_cases a:op=0;{by_cases b:la=0;{by_cases d:lk=0;{simp[a,b,d]};have:0<lk:=(by omega);simp[a,b,this,d]};have:0<la:=(by omega);simp[a,b,this]};simp[a]};{by_cases a:op=0;{by_cases b:la=0;{by_cases d:lk=1;{simp[a,b,d]};have m:¬(lk:Int)=1:=(by omega);simp[a,b,d,m]};have:0<la:=(by omega);simp[a,b,this]};simp[a]};have i:¬(k=2\/k=3):=by omega
  have g:¬k=4:=BS;simp[c,i,g]
def Dq(l:List Elem):Bool:=l.any (λc=>!F7 c.op c.args)
def Cm(a:DJ):Int:=
 if Ai a.N=false/\0<Am a.N then Am a.N
 else if Dq a.C then 3
 else if a.C.length=0/\a.K.length=0 then 5 else 0
def Cb:DJ->Int
 |⟨n,a,kids⟩=>if 0<Cm ⟨n,a,kids⟩ then Cm ⟨n,a,kids⟩ else Az (kids.map Cb)
def Xg(a:DJ):Cb a=if 0<Cm a then Cm a else Az (a.K.map Cb):=by obtain⟨n,c,kids⟩:=a;rw[Cb]
def VU(a:DJ):Az ((Zq a).map Cm)=Cb a:=by induction a using Fv with|h n c kids b=>rw[Ue,DX,Az,Xp,Vk b,Xg]
def Qj(a:DJ):0<=Cm a/\Cm a<=5:=by
 unfold Cm;have:=La a.N;split
 .omega
 split
 .omega
 split<;>omega
def Qr(a:DJ):0<=Cb a/\Cb a<=5:=by rw[<-VU];exact Zl _ (λx b=>by obtain⟨y,c,rfl⟩:=BM.1 b;exact Qj y)
def Fh(a:DJ):Int:=if Ai a.N then 4 else Cb a
def Ej:List DJ->Nat->Int × Nat
 |[],_=>(0,0)
 |a::r,k=>if 0<Fh a then(Fh a,k) else Ej r (k+1)
def Ap(l:List DJ):Int × Nat:=if 40<l.length\/400<Au l then(1,0) else Ej l 0
def Zk(l:List DJ)(j:Nat)(h:j<l.length):Ej (l.drop j) j=if 0<Fh l[j] then(Fh l[j],j) else Ej (l.drop (j+1)) (j+1):=by rw[GH h,Ej]
def Tj(a:DJ):0<=Fh a/\Fh a<=5:=by
 unfold Fh;split
 .omega
 exact Qr a
def Xc(l:List Elem)(j:Nat)(h:j<l.length):Dq (l.drop j)=(!F7 l[j].op l[j].args || Dq (l.drop (j+1))):=by rw[GH h];rfl
theorem dM(f g:α->Nat):∀l:List α,(∀x∈l,f x<=g x)->(l.map f).sum<=(l.map g).sum
 |[],_=>by simp
 |x::r,h=>by
  have:=dM f g r (λy hy=>h y DG)
  have:=h x BU
  simp only[DX,FK];omega
end Stil
namespace Go.Proofs.YtgnkpbhknkinoaaGreatDoor
open Tryz Stil Go.RowKit Go.Sort Go.BigFrame
def Fg{k:IntKind}{a b:Int}(h:a=b):Ending.returned (.int k a)=.returned (.int k b):=by rw[h]
def Ad{a b:Bool}(h:a=b):Ending.returned (.bool a)=.returned (.bool b):=by rw[h]
def F8{W a:AU}(c:AO W a):(∀b o,b<W.heap.size->a.cell? (AK b o)=W.cell? (AK b o))/\(∀b o,b<W.heap.size->a.frozen? (AK b o)=W.frozen? (AK b o)):=
 ⟨λb o h=>c.cell (p:=(AK b o)) h,λb o h=>c.frozen (p:=(AK b o)) h⟩
def Aa(w:AU)(o:Obj):AO w (w.alloc o):=(BP _ _).alloc (DK _) o
def Ve{P:AY}{f:FuncId}{args:Array AW}{w:AU}{v:AW}(h:Calls P f args w λe a=>e=.returned v/\a=w):Calls P f args w (AN w v):=
 h.mo λ_ _⟨b,c⟩=>⟨b,by rw[c];exact BP _ _⟩
def X4(k:Int)(w:World):
  Calls prog 104 #[.int .i64 k] w λe a=>e=.returned (.int .i64 (I7 k))/\a=w:=by
 go_enter func104,ntmps104;go_wp2;all_goals go_ret
 all_goals(refine⟨Fg ?_,rfl⟩;simp only[E0,DV] at*;unfold I7;simp[*])
def zka {p:Prop}(h:p:=by
 refine wpQuiet_nil ?_;intro _ hw';obtain⟨⟨dq,osq⟩,hw''⟩:=hw';subst hw'';go_wp2;go_ret;refine⟨Ad ?_,(Aa _ _).tr ((below_regrown _ dq osq).mo BU)⟩;go_light;simp only[DV] at*
 (rw[E6];simp[Ia, *];try omega)):p:=h
def zTa {p:Prop}(h:p:=by
 refine wp_region_quiet_below BW BW ?_;repeat(go_big_quiet_step ((exact Calls.regrown_of (Ve (X4 _ _)))))
 exact zka):p:=h
def K6(k n p:Int)(w:AU)(i:-9223372036854775808<=n)(q:n<=9223372036854775807):
  Calls prog 154 #[.agg #[AB k,AB n,AB p]] w (AN w (.bool (Ia k n p))):=by
 have a:(w.alloc (Obj.cells #[AB k,AB n,AB p] 111)).c (AL w 0)=some (AB k):=AP;have c:(w.alloc (Obj.cells #[AB k,AB n,AB p] 111)).c (AL w 1)=some (AB n):=AP;have b:(w.alloc (Obj.cells #[AB k,AB n,AB p] 111)).c (AL w 2)=some (AB p):=AP;have l:=cell_regrown a;have j:=cell_regrown c;have r:=cell_regrown b;clear a c b;go_enter func154,ntmps154;go_wp2
 rotate_right 1
 focus
  by_cases g:0<=n
  .by_cases d:n<I7 k
   .refine wp_region_quiet_below BW BW ?_
    repeat(go_big_quiet_step ((exact Calls.regrown_of (Ve (X4 _ _)))))
    exact zka
   .have m:decide (n<I7 k)=false:=by simpa using d
    exact zTa
  .have o:decide (0<=n)=false:=by simpa using g
   exact zTa
 all_goals go_ret
 all_goals(refine⟨Ad ?_,Aa _ _⟩)
 all_goals go_light
 all_goals simp only[E0,DV] at*
 all_goals(rw[E6];simp[Ia, *];try omega)
def Ub{w a:AU}{o:Obj}(b:Below (w.alloc o).heap.size (w.alloc o) a):AO w a:=(Aa w o).tr (b.mo BU)
def Yx(k n p:Int)(w:AU)(c:-9223372036854775808<=n)(d:n<=9223372036854775807):
  Calls prog 153 #[.agg #[AB k,AB n,AB p]] w (AN w (.bool (Q7 k n p))):=by
 cases h:Ia k n p;all_goals
  go_enter func153,ntmps153;go_wp2_with(go_at_call 154;refine(K6 _ _ _ _ c d).mo ?_;rintro e a⟨rfl,b⟩;have⟨g,f⟩:=F8 b);all_goals go_ret
  all_goals(refine⟨Ad ?_,Ub CB⟩)
  all_goals go_light
  all_goals(rw[Q7,h,E6];clear h;simp[*];try omega)
def Uk(k n p:Int)(w:AU)(c:-9223372036854775808<=n)(d:n<=9223372036854775807):
  Calls prog 119 #[.agg #[AB k,AB n,AB p]] w (AN w (.bool (I8 k n p))):=by
 cases h:Ia k n p;all_goals
  go_enter func119,ntmps119;go_wp2_with(go_at_call 154;refine(K6 _ _ _ _ c d).mo ?_;rintro e a⟨rfl,b⟩;have⟨g,f⟩:=F8 b);all_goals go_ret
  all_goals(refine⟨Ad ?_,Ub CB⟩)
  all_goals go_light
  all_goals(rw[I8,h,E6];clear h;simp[*];try omega)
def Wv(k n p:Int)(w:AU)(c:-9223372036854775808<=n)(d:n<=9223372036854775807):
  Calls prog 120 #[.agg #[AB k,AB n,AB p]] w (AN w (.bool (Jy k n p))):=by
 cases h:Ia k n p;all_goals
  go_enter func120,ntmps120;go_wp2_with(go_at_call 154;refine(K6 _ _ _ _ c d).mo ?_;rintro e a⟨rfl,b⟩;have⟨g,f⟩:=F8 b);all_goals go_ret
  all_goals(refine⟨Ad ?_,Ub CB⟩)
  all_goals go_light
  all_goals(rw[Jy,h,E6];clear h;simp[*];try omega)
def fw{k n p:Int}(h:Ia k n p=true)(h1:k≠11)(d:k≠12)(e:k≠13):1<=k/\k<=10/\0<=n/\n<64/\p=0:=by
 simp only[Ia,BQ h1,BQ d,BQ e,decide_eq_true_eq]at h;obtain⟨a,b,c⟩:=h;unfold I7 at b;split at b
 .omega
 split at b
 .omega
 split at b
 .omega
 split at b<;>omega
def Lo{w a:AU}{o:Obj}(b:Below (w.alloc o).heap.size (w.alloc o) a):w.heap.size<a.heap.size:=by have:=b.size;simp at this;omega
end Go.Proofs.YtgnkpbhknkinoaaGreatDoor
namespace Go.RowKit
def BX{p:Prop}(h:p):Hid p:=h
