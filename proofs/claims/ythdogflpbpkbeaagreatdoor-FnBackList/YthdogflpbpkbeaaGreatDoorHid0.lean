import Derived.Test.YthdogflpbpkbeaaGreatDoorA00
import Derived.Lib.ItoaNum
import Derived.Test.YthdogflpbpkbeaaGreatDoorChecked
import Derived.WalkSpells
import Derived.WalkLawsBesides
import Derived.BigQuiet
import Derived.Lib.QuietBelow
import Derived.Deep.Light
import Derived.Deep.RegionHeld3
set_option linter.defProp false
set_option maxHeartbeats 4000000
set_option maxRecDepth 100000
namespace Stil
variable {α β:Type}
structure DR where
 kind:Int
 n:Int
 p:Int
 abbrev _root_.Ψ:=List DR
def Jb(k:Int):Int:=
 if k=1\/k=2\/k=5\/k=9 then 32 else if k=3 then 64 else if k=4\/k=7\/k=8\/k=10 then 16 else if k=6 then 5 else 0
def Ii(k n p:Int):Bool:=
 if k=11 then decide (-32768<=n/\n<=32767/\p=0)
 else if k=12 then decide (-999999999<=n/\n<=999999999/\1<=p/\p<=6/\(p=1\/n.tmod 10≠0))
 else if k=13 then decide (0<=n/\n<=3/\p=0)
 else decide (0<=n/\n<Jb k/\p=0)
def Rf(k n p:Int):Bool:=Ii k n p && (decide (k<=4) || k==6 || k==7 || k==8)
def Jc(k n p:Int):Bool:=Ii k n p && (k==7 || k==8 || k==9 || k==11)
def J5(k n p:Int):Bool:=Ii k n p && (k==10 || k==12 || k==13)
def letters:List UInt8:=[88,89,77,83,69,71,84,67,68,82]
def Q9(k:Int):ByteArray:=if 1<=k/\k<=10 then⟨#[letters.getD (k.toNat - 1) 0]⟩ else⟨#[]⟩
def arity(op:Int):Int:=
 if op=1\/op=2\/op=21\/op=22\/op=23\/op=25 then 1
 else if 31<=op/\op<=35 then 3
 else if(1<=op/\op<=10)\/(21<=op/\op<=37) then 2 else 0
def DR.ok(d:DR):Bool:=Ii d.kind d.n d.p
def DR.isBit(d:DR):Bool:=Rf d.kind d.n d.p
def DR.isWhole(d:DR):Bool:=Jc d.kind d.n d.p
def DR.isReal(d:DR):Bool:=J5 d.kind d.n d.p
def Ob(k n p a b:Int):Bool:=Ii k n p && (k==a || k==b)
def DR.kindIs(d:DR)(a b:Int):Bool:=Ob d.kind d.n d.p a b
def DR.fits(d:DR):Prop:=(-9223372036854775808<=d.kind/\d.kind<=9223372036854775807)/\(-9223372036854775808<=d.n/\d.n<=9223372036854775807)/\(-9223372036854775808<=d.p/\d.p<=9223372036854775807)
def Df(op:Int)(ds:Ψ):Bool:=
 if op<1\/10<op then false
 else match ds with
  |[a]=>decide (op<=2) && a.isBit
  |[a,b]=>
   if op<=2 then false
   else if op<=4 then a.isBit && b.ok && b.kind==5
   else a.isWhole && b.isWhole || a.isReal && b.isReal
  |_=>false
def Oj(whole:Bool)(l:Ψ):Bool:=if whole then l.all DR.isWhole else l.all DR.isReal
def G3(op:Int):Ψ->Bool
 |[]=>false
 |d::r=>d.kindIs 9 10 && Oj (d.kind==9) r && (d.kind==9 || op !=35)
def Gi(op:Int)(ds:Ψ):Bool:=
 if op<21\/37<op\/(ds.length:Int)≠arity op then false
 else match ds with
  |[a]=>if op=21 then a.kindIs 2 3 else if op=22 then a.kindIs 2 3 || a.kindIs 4 4 else if op=23 then a.kindIs 2 3 || a.kindIs 4 7 || a.kindIs 8 8 else a.kindIs 4 4
  |[a,b]=>
   if op=24 then a.kindIs 2 3 && b.kindIs 5 5
   else if op=26\/op=27\/op=28 then a.kindIs 7 7 && b.kindIs 11 11 && decide (0<=b.n)
   else if op=29 then a.kindIs 8 8 && b.kindIs 11 11 && decide (0<=b.n)
   else if op=36 then a.kindIs 10 10 && b.isWhole
   else if op=37 then a.kindIs 9 9 && b.isReal
   else G3 op ds
  |_=>G3 op ds
structure Elem where
 op:Int
 args:List DR
 abbrev _root_.Ω:=List Elem
structure DK where
 kind:Int
 O:Elem
 K:List DK
 abbrev _root_.Ξ:=List DK
structure DL where
 N:DK
 C:List Elem
 K:List DL
 abbrev _root_.A0 (n:DK)(a:Option Go.Addr)(c:Nat)(b:Option Go.Addr)(d:Nat):Go.Value:=.agg #[AB n.kind,AB n.O.op,AE a n.O.args.length c,AE b n.K.length d]
 abbrev _root_.A2 (n:DK)(a:Option Go.Addr)(c:Nat)(b:Option Go.Addr)(d:Nat):Go.TypeId->Go.Obj:=.cells #[AB n.kind,AB n.O.op,AE a n.O.args.length c,AE b n.K.length d]
 abbrev _root_.A3 (n:DK)(a:Option Go.Addr)(c:Nat)(b:Option Go.Addr)(d:Nat):List Go.Value:=[AB n.kind,AB n.O.op,AE a n.O.args.length c,AE b n.K.length d]
 abbrev _root_.A4 (n:DL)(a:Option Go.Addr)(c:Nat)(b:Option Go.Addr)(d:Nat)(e:Option Go.Addr)(f:Nat)(g:Option Go.Addr)(h:Nat):Go.Value:=.agg #[AB n.N.kind,AB n.N.O.op,AE a n.N.O.args.length c,AE b n.N.K.length d,AE e n.C.length f,AE g n.K.length h]
 abbrev _root_.A5 (n:DL)(a:Option Go.Addr)(c:Nat)(b:Option Go.Addr)(d:Nat)(e:Option Go.Addr)(f:Nat)(g:Option Go.Addr)(h:Nat):Go.TypeId->Go.Obj:=.cells #[AB n.N.kind,AB n.N.O.op,AE a n.N.O.args.length c,AE b n.N.K.length d,AE e n.C.length f,AE g n.K.length h]
 abbrev _root_.A6 (n:DL)(a:Option Go.Addr)(c:Nat)(b:Option Go.Addr)(d:Nat)(e:Option Go.Addr)(f:Nat)(g:Option Go.Addr)(h:Nat):List Go.Value:=[AB n.N.kind,AB n.N.O.op,AE a n.N.O.args.length c,AE b n.N.K.length d,AE e n.C.length f,AE g n.K.length h]
 abbrev _root_.Ek:=List DL
theorem Gp(P:DK->Prop)(h:∀k o kids,(∀x∈kids,P x)->P ⟨k,o,kids⟩):∀n,P n
 |⟨k,o,kids⟩=>h k o kids (λx _=>Gp P h x)
theorem Fz(P:DL->Prop)(h:∀n c kids,(∀x∈kids,P x)->P ⟨n,c,kids⟩):∀n,P n
 |⟨k,o,kids⟩=>h k o kids (λx _=>Fz P h x)
def Ad:DK->Nat
 |⟨_,_,kids⟩=>1+(kids.map Ad).sum
def Qg(k:Int)(o:Elem)(kids:Ξ):Ad ⟨k,o,kids⟩=1+(kids.map Ad).sum:=by rw[Ad]
def Aj(n:DK):Bool:=n.kind==0 && n.O.op==0 && n.O.args.length==0 && n.K.length==0
def Ah:DL->Nat
 |⟨n,a,kids⟩=>1+a.length+(if Aj n then 0 else Ad n)+(kids.map Ah).sum
def Ti(n:DK)(a:Ω)(kids:Ek):Ah ⟨n,a,kids⟩=1+a.length+(if Aj n then 0 else Ad n)+(kids.map Ah).sum:=by rw[Ah]
def Aw(l:Ek):Nat:=(l.map Ah).sum
def i64(n:Int):Prop:=-9223372036854775808<=n/\n<=9223372036854775807
def Elem.fits(e:Elem):Prop:=i64 e.op/\e.args.length<=1048576/\∀d∈e.args,d.fits
def all_map(f:α->Prop)(l:List α):(∀p∈l.map f,p)↔∀x∈l,f x:=by
 constructor
 .intro h x a;exact h _ (BM.2 ⟨x,a,rfl⟩)
 intro h p b;obtain⟨x,a,rfl⟩:=BM.1 b;exact h x a
def Ci:DK->Prop
 |⟨k,e,kids⟩=>i64 k/\e.fits/\kids.length<=1048576/\∀p∈kids.map Ci,p
def G6(k:Int)(e:Elem)(kids:Ξ):Ci ⟨k,e,kids⟩↔i64 k/\e.fits/\kids.length<=1048576/\∀x∈kids,Ci x:=by rw[Ci,all_map]
def Ba:DL->Prop
 |⟨n,a,kids⟩=>Ci n/\a.length<=1048576/\(∀c∈a,c.fits)/\kids.length<=1048576/\∀p∈kids.map Ba,p
def Ep(n:DK)(a:Ω)(kids:Ek):Ba ⟨n,a,kids⟩↔Ci n/\a.length<=1048576/\(∀c∈a,c.fits)/\kids.length<=1048576/\∀x∈kids,Ba x:=by rw[Ba,all_map]
def Ea{n:DK}(h:Ci n):i64 n.kind/\n.O.fits/\n.K.length<=1048576/\∀x∈n.K,Ci x:=by obtain⟨_,_,_⟩:=n;exact(G6 _ _ _).1 h
def Io{n:DL}(h:Ba n):Ci n.N/\n.C.length<=1048576/\(∀c∈n.C,c.fits)/\n.K.length<=1048576/\∀x∈n.K,Ba x:=by obtain⟨_,_,_⟩:=n;exact(Ep _ _ _).1 h
theorem Fa(f:α->Nat):∀(l:List α)(x:α),x∈l->f x<=(l.map f).sum
 |y::r,x,h=>by
  rw[DZ,FO];rcases BD.1 h with rfl|h
  .omega
  .have:=Fa f r x h;omega
def Elem.wf(e:Elem):Prop:=i64 e.op/\e.args.length<=9223372036854775807/\∀d∈e.args,d.fits
def A7:ζ->Int
 |[]=>0
 |c::r=>if 0<c then c else A7 r
def V9(k op:Int)(b a:Nat):Bool:=decide (k<2) || decide (4<k) || op !=0 || decide ((0:Int)<(b:Int)) || (a:Int)==0 || (k==4 && (a:Int) !=1)
def Ap:DK->Int
 |⟨k,e,kids⟩=>
  if k=1 then(if 0<kids.length then 2 else if Df e.op e.args then 0 else 3)
  else if V9 k e.op e.args.length kids.length then 2 else A7 (kids.map Ap)
def Ku(k:Int)(e:Elem)(kids:Ξ):Ap ⟨k,e,kids⟩=if k=1 then(if 0<kids.length then 2 else if Df e.op e.args then 0 else 3)
  else if V9 k e.op e.args.length kids.length then 2 else A7 (kids.map Ap):=by rw[Ap]
def Zu(l:ζ)(h:∀x∈l,0<=x/\x<=5):0<=A7 l/\A7 l<=5:=by induction l with|nil=>simp[A7]|cons x r a=>unfold A7;split;{have:=h x BU;omega};exact a (λy hy=>h y DJ)
def Ld(n:DK):0<=Ap n/\Ap n<=5:=by induction n using Gp with|h k e kids a=>rw[Ku];split;{split;{omega};split<;>omega};split;{omega};exact Zu _ (λx b=>by obtain⟨y,c,rfl⟩:=BM.1 b;exact a y c)
def JF:DK->Ξ
 |⟨k,e,kids⟩=>⟨k,e,kids⟩::(kids.map JF).flatten
def RG(n:DK):JF n=n::(n.K.map JF).flatten:=by obtain⟨k,e,kids⟩:=n;rw[JF]
def Ez(l:Ξ):Ξ:=(l.map JF).flatten
def Zz:DL->Ek
 |⟨n,c,kids⟩=>⟨n,c,kids⟩::(kids.map Zz).flatten
def Ui(n:DL):Zz n=n::(n.K.map Zz).flatten:=by obtain⟨k,e,kids⟩:=n;rw[Zz]
def Eb(l:Ek):Ek:=(l.map Zz).flatten
def Qb(a:DL):Nat:=1+a.C.length+(if Aj a.N then 0 else Ad a.N)
theorem Xs(f:α->List β):∀l:List α,((l.map f).flatten).length=(l.map (λx=>(f x).length)).sum
 |[]=>rfl
 |x::r=>by simp[Xs f r]
def Vp{f g:α->β}{l:List α}(h:∀x∈l,f x=g x):l.map f=l.map g:=LN h
def Au7(n:DK):(JF n).length=Ad n:=by induction n using Gp with|h k e kids a=>rw[RG,Qg,DT,Xs,Vp a];omega
theorem QI(f:α->List β)(g:β->Nat):∀l:List α,(((l.map f).flatten).map g).sum=(l.map (λx=>((f x).map g).sum)).sum
 |[]=>rfl
 |x::r=>by rw[DZ,ER,D4,KE,QI f g r,DZ,FO]
def Aw2(n:DL):((Zz n).map Qb).sum=Ah n:=by induction n using Fz with|h n c kids a=>rw[Ui,Ti,DZ,FO,QI,Vp a];simp only[Qb]
def Ark(l:Ek):((Eb l).map Qb).sum=Aw l:=by unfold Eb Aw;rw[QI,Vp (λx _=>Aw2 x)]
def Wg(n:DK):Ez [n]=JF n:=by simp[Ez]
def Uw(l:Ξ)(j:Nat)(h:j<l.length):Ez (l.take (j+1))=Ez (l.take j)++(l[j]::Ez l[j].K):=by unfold Ez;rw[EK h,D4,Ft];simp only[DZ,FI,ER,M6,EZ];rw[RG l[j]]
def U1(l:Ek)(j:Nat)(h:j<l.length):Eb (l.take (j+1))=Eb (l.take j)++(l[j]::Eb l[j].K):=by unfold Eb;rw[EK h,D4,Ft];simp only[DZ,FI,ER,M6,EZ];rw[Ui l[j]]
def QD(l:Ξ)(j:Nat):Ez (l.take j)<+:Ez l:=by
 have h:Ez l=Ez (l.take j)++Ez (l.drop j):=by unfold Ez;rw[<-Ft,<-D4,KC]
 rw[h];exact List.prefix_append _ _
def QJ(l:Ek)(j:Nat):Eb (l.take j)<+:Eb l:=by
 have h:Eb l=Eb (l.take j)++Eb (l.drop j):=by unfold Eb;rw[<-Ft,<-D4,KC]
 rw[h];exact List.prefix_append _ _
def Aur(g:α->Nat){a b:List α}(h:a<+:b):(a.map g).sum<=(b.map g).sum:=by obtain⟨c,rfl⟩:=h;rw[D4,KE];omega
theorem Arn(n:DL):∀x∈Zz n,∀y∈x.K,y∈Zz n:=by induction n using Fz with|h n c kids e=>intro x a y d;rw[Ui]at a⊢;rcases BD.1 a with rfl|a;{exact BD.2 (.inr (List.mem_flatten.2 ⟨_,BM.2 ⟨y,d,rfl⟩,by rw[Ui];exact BD.2 (.inl rfl)⟩))};have⟨l,b,f⟩:=List.mem_flatten.1 a;obtain⟨z,g,rfl⟩:=BM.1 b;exact BD.2 (.inr (List.mem_flatten.2 ⟨_,b,e z g x f y d⟩))
def wJ(l:Ek):∀x∈Eb l,∀y∈x.K,y∈Eb l:=by intro x b y d;have⟨m,a,c⟩:=List.mem_flatten.1 b;obtain⟨z,e,rfl⟩:=BM.1 a;exact List.mem_flatten.2 ⟨_,a,Arn z x c y d⟩
def Arl(l:Ek):∀x∈l,x∈Eb l:=by intro x a;exact List.mem_flatten.2 ⟨_,BM.2 ⟨x,a,rfl⟩,by rw[Ui];exact BD.2 (.inl rfl)⟩
theorem Aro(n:DL):Ba n->∀x∈Zz n,Ba x:=by induction n using Fz with|h n c kids e=>intro b x a;rw[Ui]at a;rcases BD.1 a with rfl|a;{exact b};have⟨l,f,g⟩:=List.mem_flatten.1 a;obtain⟨z,d,rfl⟩:=BM.1 f;exact e z d (((Io b).2.2.2.2) z d) x g
def WH(l:Ek)(a:∀x∈l,Ba x):∀x∈Eb l,Ba x:=by intro x b;have⟨m,c,d⟩:=List.mem_flatten.1 b;obtain⟨z,e,rfl⟩:=BM.1 c;exact Aro z (a z e) x d
def Avd(g:α->Nat){l:List α}{x:α}(h:x∈l):g x<=(l.map g).sum:=Fa g l x h
theorem Tv(a b:ζ):A7 (a++b)=if 0<A7 a then A7 a else A7 b:=by induction a with|nil=>simp[A7]|cons x r c=>rw[EA,A7,A7,c];by_cases h:0<x;{simp[h]};simp[h]
def Xw(f:α->List β)(g:β->Int)(l:List α):A7 (((l.map f).flatten).map g)=A7 (l.map (λx=>A7 ((f x).map g))):=by induction l with|nil=>rfl|cons x r a=>rw[DZ,ER,D4,Tv,a,DZ,A7]
def KO(n:DK):Bool:=
 if n.kind=1 then decide (n.K.length=0)
 else if n.kind=2\/n.kind=3 then(n.O.op==0 && n.O.args.length==0) && decide (0<n.K.length)
 else if n.kind=4 then(n.O.op==0 && n.O.args.length==0) && decide (n.K.length=1)
 else false
def Gq(n:DK):Int:=if KO n then(if n.kind=1 then(if Df n.O.op n.O.args then 0 else 3) else 0) else 2
theorem ud(n:DK):A7 ((JF n).map Gq)=Ap n:=by
 induction n using Gp with
 |h k e kids s=>
  have o:A7 ((JF ⟨k,e,kids⟩).map Gq)=if 0<Gq ⟨k,e,kids⟩ then Gq ⟨k,e,kids⟩ else A7 (kids.map Ap):=by rw[RG,DZ,A7,Xw,Vp s]
  rw[o,Ku];unfold Gq KO;simp only;by_cases f:k=1;{subst f;by_cases m:0<kids.length;{have j:¬kids.length=0:=(by omega);simp only[if_true,j,decide_false,m];simp};have j:kids.length=0:=(by omega);have l:=List.eq_nil_of_length_eq_zero j;subst l;cases Df e.op e.args<;>simp[A7]};rw[BQ f,BQ f,BQ f];unfold V9;have⟨q,v⟩:=AA (A7 (kids.map Ap));rw[<-v];generalize kids.length=lk;generalize e.args.length=la;generalize e.op=op;have b:k<2\/(k=2\/k=3)\/k=4\/4<k:=BS;rcases b with b|b|rfl|b;{have i:¬(k=2\/k=3):=(by omega);have g:¬k=4:=BS;simp[b,i,g]};{rw[BR b];have l:(k==4)=false:=xAh;have u:decide (k<2)=false:=xCp;have t:decide (4<k)=false:=xCp;rw[l,u,t];by_cases a:op=0;{by_cases c:la=0;{by_cases d:lk=0;{simp[a,c,d]};have:0<lk:=(by omega);simp[a,c,this,d]};have:0<la:=(by omega);simp[a,c,this]};simp[a]};{by_cases a:op=0;{by_cases c:la=0;{by_cases d:lk=1;{simp[a,c,d]};have r:¬(lk:Int)=1:=(by omega);simp[a,c,d,r]};have:0<la:=(by omega);simp[a,c,this]};simp[a]};have i:¬(k=2\/k=3):=by omega
  have g:¬k=4:=BS;simp[b,i,g]
def Dt(l:Ω):Bool:=l.any (λc=>!Gi c.op c.args)
def C9(a:DL):Int:=
 if Aj a.N=false/\0<Ap a.N then Ap a.N
 else if Dt a.C then 3
 else if a.C.length=0/\a.K.length=0 then 5 else 0
def Cb:DL->Int
 |⟨n,a,kids⟩=>if 0<C9 ⟨n,a,kids⟩ then C9 ⟨n,a,kids⟩ else A7 (kids.map Cb)
def Xm(a:DL):Cb a=if 0<C9 a then C9 a else A7 (a.K.map Cb):=by obtain⟨n,c,kids⟩:=a;rw[Cb]
def WI(a:DL):A7 ((Zz a).map C9)=Cb a:=by induction a using Fz with|h n c kids b=>rw[Ui,DZ,A7,Xw,Vp b,Xm]
def Qn(a:DL):0<=C9 a/\C9 a<=5:=by
 unfold C9;have:=Ld a.N;split
 .omega
 split
 .omega
 split<;>omega
def Qw(a:DL):0<=Cb a/\Cb a<=5:=by rw[<-WI];exact Zu _ (λx b=>by obtain⟨y,c,rfl⟩:=BM.1 b;exact Qn y)
def Fv(a:DL):Int:=if Aj a.N then 4 else Cb a
def Es:Ek->Nat->Int × Nat
 |[],_=>(0,0)
 |a::r,k=>if 0<Fv a then(Fv a,k) else Es r (k+1)
def Am(l:Ek):Int × Nat:=if 40<l.length\/400<Aw l then(1,0) else Es l 0
def Zt(l:Ek)(j:Nat)(h:j<l.length):Es (l.drop j) j=if 0<Fv l[j] then(Fv l[j],j) else Es (l.drop (j+1)) (j+1):=by rw[GL h,Es]
def Tt(a:DL):0<=Fv a/\Fv a<=5:=by
 unfold Fv;split
 .omega
 exact Qw a
def Xi(l:Ω)(j:Nat)(h:j<l.length):Dt (l.drop j)=(!Gi l[j].op l[j].args || Dt (l.drop (j+1))):=by rw[GL h];rfl
theorem dk(f g:α->Nat):∀l:List α,(∀x∈l,f x<=g x)->(l.map f).sum<=(l.map g).sum
 |[],_=>by simp
 |x::r,h=>by
  have:=dk f g r (λy hy=>h y DJ)
  have:=h x BU
  simp only[DZ,FO];omega
end Stil
namespace Go.Proofs.YthdogflpbpkbeaaGreatDoor
open Tryz Stil Go.RowKit Go.Sort Go.BigFrame
def Fp{k:IntKind}{a b:Int}(h:a=b):Ending.returned (.int k a)=.returned (.int k b):=by rw[h]
def Ac{a b:Bool}(h:a=b):Ending.returned (.bool a)=.returned (.bool b):=by rw[h]
def F7{W a:AU}(c:AO W a):(∀b o,b<W.heap.size->a.cell? (AK b o)=W.cell? (AK b o))/\(∀b o,b<W.heap.size->a.frozen? (AK b o)=W.frozen? (AK b o)):=
 ⟨λb o h=>c.cell (p:=(AK b o)) h,λb o h=>c.frozen (p:=(AK b o)) h⟩
def Aa(w:AU)(o:Obj):AO w (w.alloc o):=(BP _ _).alloc (DN _) o
def Vj{P:AY}{f:FuncId}{args:δ}{w:AU}{v:AW}(h:Calls P f args w λe a=>e=.returned v/\a=w):Calls P f args w (AN w v):=
 h.mo λ_ _⟨b,c⟩=>⟨b,by rw[c];exact BP _ _⟩
def Ya(k:Int)(w:AU):
  Calls prog 141 #[.int .i64 k] w λe a=>e=.returned (.int .i64 (Jb k))/\a=w:=by
 go_enter func141,ntmps141;go_wp2;all_goals go_ret
 all_goals(refine⟨Fp ?_,rfl⟩;simp only[E4,DX] at*;unfold Jb;simp[*])
def zka {p:Prop}(h:p:=by
 refine wpQuiet_nil ?_;intro _ hw';obtain⟨⟨dq,osq⟩,hw''⟩:=hw';subst hw'';go_wp2;go_ret;refine⟨Ac ?_,(Aa _ _).tr ((below_regrown _ dq osq).mo BU)⟩;go_light;simp only[DX] at*
 (rw[FB];simp[Ii, *];try omega)):p:=h
def zUa {p:Prop}(h:p:=by
 refine wp_region_quiet_below BW BW ?_;repeat(go_big_quiet_step ((exact Calls.regrown_of (Vj (Ya _ _)))))
 exact zka):p:=h
def LA(k n p:Int)(w:AU)(m:-9223372036854775808<=n)(l:n<=9223372036854775807):
  Calls prog 156 #[.agg #[AB k,AB n,AB p]] w (AN w (.bool (Ii k n p))):=by
 have b:(w.alloc (Obj.cells #[AB k,AB n,AB p] 153)).c (AL w 0)=some (AB k):=xAa;have c:(w.alloc (Obj.cells #[AB k,AB n,AB p] 153)).c (AL w 1)=some (AB n):=xAa;have a:(w.alloc (Obj.cells #[AB k,AB n,AB p] 153)).c (AL w 2)=some (AB p):=xAa;have r:=cell_regrown b;have q:=cell_regrown c;have o:=cell_regrown a;clear b c a;go_enter func156,ntmps156;go_wp2
 rotate_right 1
 focus
  by_cases g:0<=n
  .by_cases d:n<Jb k
   .refine wp_region_quiet_below BW BW ?_
    repeat(go_big_quiet_step ((exact Calls.regrown_of (Vj (Ya _ _)))))
    exact zka
   .have i:decide (n<Jb k)=false:=by simpa using d
    exact zUa
  .have j:decide (0<=n)=false:=by simpa using g
   exact zUa
 all_goals go_ret
 all_goals(refine⟨Ac ?_,Aa _ _⟩)
 all_goals go_light
 all_goals simp only[E4,DX] at*
 all_goals(rw[FB];simp[Ii, *];try omega)
def Uf{w a:AU}{o:Obj}(b:Below (w.alloc o).heap.size (w.alloc o) a):AO w a:=(Aa w o).tr (b.mo BU)
def Y4(k n p:Int)(w:AU)(c:-9223372036854775808<=n)(b:n<=9223372036854775807):
  Calls prog 155 #[.agg #[AB k,AB n,AB p]] w (AN w (.bool (Rf k n p))):=by
 cases h:Ii k n p;all_goals
  go_enter func155,ntmps155;go_wp2_with(go_at_call 156;refine(LA _ _ _ _ c b).mo ?_;rintro e a⟨rfl,d⟩;have⟨g,f⟩:=F7 d);all_goals go_ret
  all_goals(refine⟨Ac ?_,Uf CB⟩)
  all_goals go_light
  all_goals(rw[Rf,h,FB];clear h;simp[*];try omega)
def Uo(k n p:Int)(w:AU)(c:-9223372036854775808<=n)(b:n<=9223372036854775807):
  Calls prog 152 #[.agg #[AB k,AB n,AB p]] w (AN w (.bool (Jc k n p))):=by
 cases h:Ii k n p;all_goals
  go_enter func152,ntmps152;go_wp2_with(go_at_call 156;refine(LA _ _ _ _ c b).mo ?_;rintro e a⟨rfl,d⟩;have⟨g,f⟩:=F7 d);all_goals go_ret
  all_goals(refine⟨Ac ?_,Uf CB⟩)
  all_goals go_light
  all_goals(rw[Jc,h,FB];clear h;simp[*];try omega)
def Xb(k n p:Int)(w:AU)(c:-9223372036854775808<=n)(b:n<=9223372036854775807):
  Calls prog 153 #[.agg #[AB k,AB n,AB p]] w (AN w (.bool (J5 k n p))):=by
 cases h:Ii k n p;all_goals
  go_enter func153,ntmps153;go_wp2_with(go_at_call 156;refine(LA _ _ _ _ c b).mo ?_;rintro e a⟨rfl,d⟩;have⟨g,f⟩:=F7 d);all_goals go_ret
  all_goals(refine⟨Ac ?_,Uf CB⟩)
  all_goals go_light
  all_goals(rw[J5,h,FB];clear h;simp[*];try omega)
def jW{k n p:Int}(h:Ii k n p=true)(h1:k≠11)(d:k≠12)(e:k≠13):1<=k/\k<=10/\0<=n/\n<64/\p=0:=by
 simp only[Ii,BQ h1,BQ d,BQ e,decide_eq_true_eq]at h;obtain⟨a,b,c⟩:=h;unfold Jb at b;split at b
 .omega
 split at b
 .omega
 split at b
 .omega
 split at b<;>omega
def MA{w a:AU}{o:Obj}(b:Below (w.alloc o).heap.size (w.alloc o) a):w.heap.size<a.heap.size:=by have:=b.size;simp at this;omega
end Go.Proofs.YthdogflpbpkbeaaGreatDoor
namespace Go.RowKit
def BZ{p:Prop}(h:p):Hid p:=h
