import Derived.Test.YtfeablpbkcgdjaaGreatDoorA00
import Derived.Lib.ItoaNum
import Derived.Test.YtfeablpbkcgdjaaGreatDoorChecked
import Derived.WalkSpells
import Derived.WalkLawsBesides
import Derived.BigQuiet
import Derived.Lib.QuietBelow
import Derived.Deep.Light
import Derived.Deep.RegionHeld3
set_option linter.defProp false
set_option maxHeartbeats 4000000
set_option maxRecDepth 100000
namespace Stil
variable {α β:Type}
structure B9 where
 kind:Int
 n:Int
 p:Int
def H6 (k:Int):Int:=
 if k=1\/k=2\/k=5\/k=9 then 32 else if k=3 then 64 else if k=4\/k=7\/k=8\/k=10 then 16 else if k=6 then 5 else 0
def Gz (k n p:Int):Bool:=
 if k=11 then decide (-32768<=n/\n<=32767/\p=0)
 else if k=12 then decide (-999999999<=n/\n<=999999999/\1<=p/\p<=6/\(p=1\/n.tmod 10≠0))
 else if k=13 then decide (0<=n/\n<=3/\p=0)
 else decide (0<=n/\n<H6 k/\p=0)
def Pq (k n p:Int):Bool:=Gz k n p && (decide (k<=4) || k==6 || k==7 || k==8)
def H7 (k n p:Int):Bool:=Gz k n p && (k==7 || k==8 || k==9 || k==11)
def Iy (k n p:Int):Bool:=Gz k n p && (k==10 || k==12 || k==13)
def letters:List UInt8:=[88,89,77,83,69,71,84,67,68,82]
def Po (k:Int):ByteArray:=if 1<=k/\k<=10 then⟨#[letters.getD (k.toNat - 1) 0]⟩ else⟨#[]⟩
def arity (op:Int):Int:=
 if op=1\/op=2\/op=21\/op=22\/op=23\/op=25 then 1
 else if 31<=op/\op<=35 then 3
 else if(1<=op/\op<=10)\/(21<=op/\op<=37) then 2 else 0
def B9.ok (d:B9):Bool:=Gz d.kind d.n d.p
def B9.isBit (d:B9):Bool:=Pq d.kind d.n d.p
def B9.isWhole (d:B9):Bool:=H7 d.kind d.n d.p
def B9.isReal (d:B9):Bool:=Iy d.kind d.n d.p
def Lh (k n p a b:Int):Bool:=Gz k n p && (k==a || k==b)
def B9.kindIs (d:B9)(a b:Int):Bool:=Lh d.kind d.n d.p a b
def B9.fits (d:B9):Prop:=(-9223372036854775808<=d.kind/\d.kind<=9223372036854775807)/\(-9223372036854775808<=d.n/\d.n<=9223372036854775807)/\(-9223372036854775808<=d.p/\d.p<=9223372036854775807)
def Dl (op:Int)(ds:List B9):Bool:=
 if op<1\/10<op then false
 else match ds with
  | [a]=>decide (op<=2) && a.isBit
  | [a,b]=>
   if op<=2 then false
   else if op<=4 then a.isBit && b.ok && b.kind==5
   else a.isWhole && b.isWhole || a.isReal && b.isReal
  | _=>false
def Lr (whole:Bool)(l:List B9):Bool:=if whole then l.all B9.isWhole else l.all B9.isReal
def FC (op:Int):List B9->Bool
 | []=>false
 | d::r=>d.kindIs 9 10 && Lr (d.kind==9) r && (d.kind==9 || op !=35)
def Fz (op:Int)(ds:List B9):Bool:=
 if op<21\/37<op\/(ds.length:Int)≠arity op then false
 else match ds with
  | [a]=>if op=21 then a.kindIs 2 3 else if op=22 then a.kindIs 2 3 || a.kindIs 4 4 else if op=23 then a.kindIs 2 3 || a.kindIs 4 7 || a.kindIs 8 8 else a.kindIs 4 4
  | [a,b]=>
   if op=24 then a.kindIs 2 3 && b.kindIs 5 5
   else if op=26\/op=27\/op=28 then a.kindIs 7 7 && b.kindIs 11 11 && decide (0<=b.n)
   else if op=29 then a.kindIs 8 8 && b.kindIs 11 11 && decide (0<=b.n)
   else if op=36 then a.kindIs 10 10 && b.isWhole
   else if op=37 then a.kindIs 9 9 && b.isReal
   else FC op ds
  | _=>FC op ds
structure Elem where
 op:Int
 args:List B9
structure B1 where
 kind:Int
 one:Elem
 kids:List B1
structure B5 where
 net:B1
 coils:List Elem
 kids:List B5
theorem Fv (P:B1->Prop)(h:∀k o kids,(∀x∈kids,P x)->P ⟨k,o,kids⟩):∀n,P n
 | ⟨k,o,kids⟩=>h k o kids (λx _=>Fv P h x)
theorem Fb (P:B5->Prop)(h:∀n c kids,(∀x∈kids,P x)->P ⟨n,c,kids⟩):∀n,P n
 | ⟨k,o,kids⟩=>h k o kids (λx _=>Fb P h x)
def Ac:B1->Nat
 | ⟨_,_,kids⟩=>1+(kids.map Ac).sum
def Oi (k:Int)(o:Elem)(kids:List B1):Ac ⟨k,o,kids⟩=1+(kids.map Ac).sum:=by rw[Ac]
def Ai (n:B1):Bool:=n.kind==0 && n.one.op==0 && n.one.args.length==0 && n.kids.length==0
def Ah:B5->Nat
 | ⟨n,b,kids⟩=>1+b.length+(if Ai n then 0 else Ac n)+(kids.map Ah).sum
def Qs (n:B1)(b:List Elem)(kids:List B5):Ah ⟨n,b,kids⟩=1+b.length+(if Ai n then 0 else Ac n)+(kids.map Ah).sum:=by rw[Ah]
def Bc (l:List B5):Nat:=(l.map Ah).sum
def i64 (n:Int):Prop:=-9223372036854775808<=n/\n<=9223372036854775807
def Elem.fits (e:Elem):Prop:=i64 e.op/\e.args.length<=1048576/\∀d∈e.args,d.fits
def all_map (f:α->Prop)(l:List α):(∀p∈l.map f,p)↔∀x∈l,f x:=by
 constructor
 .intro h x b;exact h _ (List.mem_map.2 ⟨x,b,rfl⟩)
 .intro h p c;obtain⟨x,b,rfl⟩:=List.mem_map.1 c;exact h x b
def Bi:B1->Prop
 | ⟨k,e,kids⟩=>i64 k/\e.fits/\kids.length<=1048576/\∀p∈kids.map Bi,p
def Gn (k:Int)(e:Elem)(kids:List B1):Bi ⟨k,e,kids⟩↔i64 k/\e.fits/\kids.length<=1048576/\∀x∈kids,Bi x:=by rw[Bi,all_map]
def Ba:B5->Prop
 | ⟨n,b,kids⟩=>Bi n/\b.length<=1048576/\(∀c∈b,c.fits)/\kids.length<=1048576/\∀p∈kids.map Ba,p
def Eu (n:B1)(b:List Elem)(kids:List B5):Ba ⟨n,b,kids⟩↔Bi n/\b.length<=1048576/\(∀c∈b,c.fits)/\kids.length<=1048576/\∀x∈kids,Ba x:=by rw[Ba,all_map]
def Dw {n:B1}(h:Bi n):i64 n.kind/\n.one.fits/\n.kids.length<=1048576/\∀x∈n.kids,Bi x:=by obtain⟨_,_,_⟩:=n;exact(Gn _ _ _).1 h
def G9 {n:B5}(h:Ba n):Bi n.net/\n.coils.length<=1048576/\(∀c∈n.coils,c.fits)/\n.kids.length<=1048576/\∀x∈n.kids,Ba x:=by obtain⟨_,_,_⟩:=n;exact(Eu _ _ _).1 h
theorem Em (f:α->Nat):∀(l:List α) (x:α),x∈l->f x<=(l.map f).sum
 | y::r,x,h=>by
  rw[CN,Da];rcases List.mem_cons.1 h with rfl | h
  .omega
  .have:=Em f r x h;omega
def Ap:List Int->Int
 | []=>0
 | c::r=>if 0<c then c else Ap r
def V8 (k op:Int)(c b:Nat):Bool:=decide (k<2) || decide (4<k) || op !=0 || decide ((0:Int)<(c:Int)) || (b:Int)==0 || (k==4 && (b:Int) !=1)
def Aj:B1->Int
 | ⟨k,e,kids⟩=>
  if k=1 then(if 0<kids.length then 2 else if Dl e.op e.args then 0 else 3)
  else if V8 k e.op e.args.length kids.length then 2 else Ap (kids.map Aj)
def Lt (k:Int)(e:Elem)(kids:List B1):Aj ⟨k,e,kids⟩=if k=1 then(if 0<kids.length then 2 else if Dl e.op e.args then 0 else 3)
  else if V8 k e.op e.args.length kids.length then 2 else Ap (kids.map Aj):=by rw[Aj]
def Yi (l:List Int)(h:∀x∈l,0<=x/\x<=5):0<=Ap l/\Ap l<=5:=by
 induction l with
 | nil=>simp[Ap]
 | cons x r b=>
  unfold Ap;split
  .have:=h x AW;omega
  .exact b (λy hy=>h y Bw)
def Ji (n:B1):0<=Aj n/\Aj n<=5:=by
 induction n using Fv with
 | h k e kids c=>
  rw[Lt];split
  .split
   .omega
   .split<;>omega
  .split
   .omega
   .exact Yi _ (λx d=>by obtain⟨y,b,rfl⟩:=List.mem_map.1 d;exact c y b)
def Zz:B1->List B1
 | ⟨k,e,kids⟩=>⟨k,e,kids⟩::(kids.map Zz).flatten
def NZ (n:B1):Zz n=n::(n.kids.map Zz).flatten:=by obtain⟨k,e,kids⟩:=n;rw[Zz]
def Ei (l:List B1):List B1:=(l.map Zz).flatten
def Yn:B5->List B5
 | ⟨n,c,kids⟩=>⟨n,c,kids⟩::(kids.map Yn).flatten
def Rl (n:B5):Yn n=n::(n.kids.map Yn).flatten:=by obtain⟨k,e,kids⟩:=n;rw[Yn]
def Dy (l:List B5):List B5:=(l.map Yn).flatten
def Oc (a:B5):Nat:=1+a.coils.length+(if Ai a.net then 0 else Ac a.net)
theorem TJ (f:α->List β):∀l:List α,((l.map f).flatten).length=(l.map (λx=>(f x).length)).sum
 | []=>rfl
 | x::r=>by simp[TJ f r]
def Ue {f g:α->β}{l:List α}(h:∀x∈l,f x=g x):l.map f=l.map g:=JY h
def pH (n:B1):(Zz n).length=Ac n:=by
 induction n using Fv with
 | h k e kids b=>
  rw[NZ,Oi,CC,TJ,Ue b];omega
theorem Y2 (f:α->List β)(g:β->Nat):∀l:List α,(((l.map f).flatten).map g).sum=(l.map (λx=>((f x).map g).sum)).sum
 | []=>rfl
 | x::r=>by rw[CN,DV,CX,FX,Y2 f g r,CN,Da]
def tG (n:B5):((Yn n).map Oc).sum=Ah n:=by
 induction n using Fb with
 | h n c kids b=>
  rw[Rl,Qs,CN,Da,Y2,Ue b];simp only[Oc]
def oV (l:List B5):((Dy l).map Oc).sum=Bc l:=by
 unfold Dy Bc;rw[Y2,Ue (λx _=>tG x)]
def S0 (n:B1):Ei [n]=Zz n:=by simp[Ei]
def Si (l:List B1)(j:Nat)(h:j<l.length):Ei (l.take (j+1))=Ei (l.take j)++(l[j]::Ei l[j].kids):=by
 unfold Ei;rw[DO h,CX,ET];simp only[CN,EB,DV,JX,EO];rw[NZ l[j]]
def Su (l:List B5)(j:Nat)(h:j<l.length):Dy (l.take (j+1))=Dy (l.take j)++(l[j]::Dy l[j].kids):=by
 unfold Dy;rw[DO h,CX,ET];simp only[CN,EB,DV,JX,EO];rw[Rl l[j]]
def Yv (l:List B1)(j:Nat):Ei (l.take j)<+:Ei l:=by
 have h:Ei l=Ei (l.take j)++Ei (l.drop j):=by
  unfold Ei;rw[<-ET,<-CX,Ft]
 rw[h];exact List.prefix_append _ _
def Y7 (l:List B5)(j:Nat):Dy (l.take j)<+:Dy l:=by
 have h:Dy l=Dy (l.take j)++Dy (l.drop j):=by
  unfold Dy;rw[<-ET,<-CX,Ft]
 rw[h];exact List.prefix_append _ _
def qL (g:α->Nat){a b:List α}(h:a<+:b):(a.map g).sum<=(b.map g).sum:=by
 obtain⟨c,rfl⟩:=h;rw[CX,FX];omega
theorem nQ (n:B5):∀x∈Yn n,∀y∈x.kids,y∈Yn n:=by
 induction n using Fb with
 | h n c kids i=>
  intro x b y e;rw[Rl] at b ⊢;rcases List.mem_cons.1 b with rfl | b
  .exact List.mem_cons.2 (.inr (List.mem_flatten.2 ⟨_,List.mem_map.2 ⟨y,e,rfl⟩,by rw[Rl];exact List.mem_cons.2 (.inl rfl)⟩))
  .obtain⟨l,d,f⟩:=List.mem_flatten.1 b
   obtain⟨z,g,rfl⟩:=List.mem_map.1 d;exact List.mem_cons.2 (.inr (List.mem_flatten.2 ⟨_,d,i z g x f y e⟩))
def ki (l:List B5):∀x∈Dy l,∀y∈x.kids,y∈Dy l:=by
 intro x e y c;obtain⟨m,b,d⟩:=List.mem_flatten.1 e;obtain⟨z,f,rfl⟩:=List.mem_map.1 b;exact List.mem_flatten.2 ⟨_,b,nQ z x d y c⟩
def nL (l:List B5):∀x∈l,x∈Dy l:=by
 intro x b;exact List.mem_flatten.2 ⟨_,List.mem_map.2 ⟨x,b,rfl⟩,by rw[Rl];exact List.mem_cons.2 (.inl rfl)⟩
theorem nW (n:B5):Ba n->∀x∈Yn n,Ba x:=by
 induction n using Fb with
 | h n c kids i=>
  intro d x b;rw[Rl] at b;rcases List.mem_cons.1 b with rfl | b
  .exact d
  .obtain⟨l,g,f⟩:=List.mem_flatten.1 b
   obtain⟨z,e,rfl⟩:=List.mem_map.1 g;exact i z e (((G9 d).2.2.2.2) z e) x f
def SD (l:List B5)(b:∀x∈l,Ba x):∀x∈Dy l,Ba x:=by
 intro x f;obtain⟨m,c,e⟩:=List.mem_flatten.1 f;obtain⟨z,d,rfl⟩:=List.mem_map.1 c;exact nW z (b z d) x e
def rL (g:α->Nat){l:List α}{x:α}(h:x∈l):g x<=(l.map g).sum:=Em g l x h
theorem Q7 (a b:List Int):Ap (a++b)=if 0<Ap a then Ap a else Ap b:=by
 induction a with
 | nil=>simp[Ap]
 | cons x r c=>
  rw[CY,Ap,Ap,c];by_cases h:0<x
  .simp[h]
  .simp[h]
def V3 (f:α->List β)(g:β->Int)(l:List α):Ap (((l.map f).flatten).map g)=Ap (l.map (λx=>Ap ((f x).map g))):=by
 induction l with
 | nil=>rfl
 | cons x r b=>
  rw[CN,DV,CX,Q7,b,CN,Ap]
def Y0 (n:B1):Bool:=
 if n.kind=1 then decide (n.kids.length=0)
 else if n.kind=2\/n.kind=3 then(n.one.op==0 && n.one.args.length==0) && decide (0<n.kids.length)
 else if n.kind=4 then(n.one.op==0 && n.one.args.length==0) && decide (n.kids.length=1)
 else false
def Fh (n:B1):Int:=if Y0 n then(if n.kind=1 then(if Dl n.one.op n.one.args then 0 else 3) else 0) else 2
theorem kZ (n:B1):Ap ((Zz n).map Fh)=Aj n:=by
 induction n using Fv with
 | h k e kids x=>
  have t:Ap ((Zz ⟨k,e,kids⟩).map Fh)=if 0<Fh ⟨k,e,kids⟩ then Fh ⟨k,e,kids⟩ else Ap (kids.map Aj):=by
   rw[NZ,CN,Ap,V3,Ue x]
  rw[t,Lt];unfold Fh Y0;simp only;by_cases g:k=1
  .subst g
   by_cases s:0<kids.length
   .have i:¬kids.length=0:=by omega
    simp only[if_true,i,decide_false,s];simp
   .have i:kids.length=0:=by omega
    have j:=List.eq_nil_of_length_eq_zero i;subst j;cases Dl e.op e.args<;>simp[Ap]
  .rw[if_neg g,if_neg g,if_neg g]
   unfold V8;obtain⟨q,o⟩:∃q,q=Ap (kids.map Aj):=⟨_,rfl⟩
   rw[<-o];generalize kids.length=lk;generalize e.args.length=la;generalize e.op=op;have d:k<2\/(k=2\/k=3)\/k=4\/4<k:=AU
   rcases d with d | d | rfl | d
   .have m:¬(k=2\/k=3):=by omega
    have l:¬k=4:=AU
    simp[d,m,l]
   .rw[if_pos d]
    have j:(k==4)=false:=by rw[CJ];omega
    have w:decide (k<2)=false:=by rw[ES];omega
    have r:decide (4<k)=false:=by rw[ES];omega
    rw[j,w,r];by_cases b:op=0
    .by_cases c:la=0
     .by_cases f:lk=0
      .simp[b,c,f]
      .have:0<lk:=by omega
       simp[b,c,this,f]
     .have:0<la:=by omega
      simp[b,c,this]
    .simp[b]
   .by_cases b:op=0
    .by_cases c:la=0
     .by_cases f:lk=1
      .simp[b,c,f]
      .have u:¬(lk:Int)=1:=by omega
       simp[b,c,f,u]
     .have:0<la:=by omega
      simp[b,c,this]
    .simp[b]
   .have m:¬(k=2\/k=3):=by omega
    have l:¬k=4:=AU
    simp[d,m,l]
def Dn (l:List Elem):Bool:=l.any (λc=>!Fz c.op c.args)
def Cb (a:B5):Int:=
 if Ai a.net=false/\0<Aj a.net then Aj a.net
 else if Dn a.coils then 3
 else if a.coils.length=0/\a.kids.length=0 then 5 else 0
def Bo:B5->Int
 | ⟨n,b,kids⟩=>if 0<Cb ⟨n,b,kids⟩ then Cb ⟨n,b,kids⟩ else Ap (kids.map Bo)
theorem Vq (a:B5):Bo a=if 0<Cb a then Cb a else Ap (a.kids.map Bo):=by obtain⟨n,c,kids⟩:=a;rw[Bo]
theorem SE (a:B5):Ap ((Yn a).map Cb)=Bo a:=by
 induction a using Fb with
 | h n c kids b=>
  rw[Rl,CN,Ap,V3,Ue b,Vq]
def O0 (a:B5):0<=Cb a/\Cb a<=5:=by
 unfold Cb;have:=Ji a.net
 split
 .omega
 .split
  .omega
  .split<;>omega
def Pg (a:B5):0<=Bo a/\Bo a<=5:=by
 rw[<-SE];exact Yi _ (λx b=>by obtain⟨y,c,rfl⟩:=List.mem_map.1 b;exact O0 y)
def Ey (a:B5):Int:=if Ai a.net then 4 else Bo a
def Ec:List B5->Nat->Int × Nat
 | [],_=>(0,0)
 | a::r,k=>if 0<Ey a then(Ey a,k) else Ec r (k+1)
def Am (l:List B5):Int × Nat:=if 40<l.length\/400<Bc l then(1,0) else Ec l 0
def Yh (l:List B5)(j:Nat)(h:j<l.length):Ec (l.drop j) j=if 0<Ey l[j] then(Ey l[j],j) else Ec (l.drop (j+1)) (j+1):=by
 rw[FZ h,Ec]
def Qz (a:B5):0<=Ey a/\Ey a<=5:=by
 unfold Ey;split
 .omega
 .exact Pg a
def Vk (l:List Elem)(j:Nat)(h:j<l.length):Dn (l.drop j)=(!Fz l[j].op l[j].args || Dn (l.drop (j+1))):=by
 rw[FZ h];rfl
theorem WW (f g:α->Nat):∀l:List α,(∀x∈l,f x<=g x)->(l.map f).sum<=(l.map g).sum
 | [],_=>by simp
 | x::r,h=>by
  have:=WW f g r (λy hy=>h y Bw)
  have:=h x AW
  simp only[CN,Da];omega
end Stil
namespace Go.Proofs.YtfeablpbkcgdjaaGreatDoor
open Tryz Stil Go.RowKit Go.Sort Go.BigFrame
def Fa {k:IntKind}{a b:Int}(h:a=b):Ending.returned (.int k a)=.returned (.int k b):=by rw[h]
def Ad {a b:Bool}(h:a=b):Ending.returned (.bool a)=.returned (.bool b):=by rw[h]
def Ff {W c:World}(d:Below W.heap.size W c):(∀b o,b<W.heap.size->c.cell? ⟨b,o,none⟩=W.cell? ⟨b,o,none⟩)/\(∀b o,b<W.heap.size->c.frozen? ⟨b,o,none⟩=W.frozen? ⟨b,o,none⟩):=
 ⟨λb o h=>d.cell (p:=⟨b,o,none⟩) h,λb o h=>d.frozen (p:=⟨b,o,none⟩) h⟩
def Aa (w:World)(o:Obj):Below w.heap.size w (w.alloc o):=(Below.refl _ _).alloc (B7 _) o
def Tz {P:Program}{f:FuncId}{args:Array Value}{w:World}{v:Value}(h:Calls P f args w λe w'=>e=.returned v/\w'=w):Calls P f args w λe w'=>e=.returned v/\Below w.heap.size w w':=
 h.mono λ_ _ ⟨b,c⟩=>⟨b,by rw[c];exact Below.refl _ _⟩
theorem Wp (k:Int)(w:World):
  Calls prog 125 #[.int .i64 k] w λe w'=>e=.returned (.int .i64 (H6 k))/\w'=w:=by
 go_enter func125,ntmps125
 go_wp2
 all_goals go_ret
 all_goals (refine⟨Fa ?_,rfl⟩;simp only[D3,CJ] at*;unfold H6;simp[*])
def zia {p:Prop}(h:p:=by
 refine wpQuiet_nil ?_;intro _ hw';obtain⟨⟨dq,osq⟩,hw''⟩:=hw';subst hw''
 go_wp2
 go_ret;refine⟨Ad ?_,(Aa _ _).trans ((below_regrown _ dq osq).mono AW)⟩;go_light;simp only[CJ] at*
 (rw[Db];simp[Gz, *];try omega)):p:=h
def zMa {p:Prop}(h:p:=by
 refine wp_region_quiet_below AY AY ?_;repeat (go_big_quiet_step ((exact Calls.regrown_of (Tz (Wp _ _)))))
 exact zia):p:=h
theorem JG (k n p:Int)(w:World)(l:-9223372036854775808<=n)(m:n<=9223372036854775807):
  Calls prog 145 #[.agg #[.int .i64 k, .int .i64 n, .int .i64 p]] w λe w'=>e=.returned (.bool (Gz k n p))/\Below w.heap.size w w':=by
 have d:(w.alloc (Obj.cells #[.int .i64 k, .int .i64 n, .int .i64 p] 92)).cell? ⟨w.heap.size,0,none⟩=some (.int .i64 k):=by simp[go_sem]
 have c:(w.alloc (Obj.cells #[.int .i64 k, .int .i64 n, .int .i64 p] 92)).cell? ⟨w.heap.size,1,none⟩=some (.int .i64 n):=by simp[go_sem]
 have b:(w.alloc (Obj.cells #[.int .i64 k, .int .i64 n, .int .i64 p] 92)).cell? ⟨w.heap.size,2,none⟩=some (.int .i64 p):=by simp[go_sem]
 have j:=cell_regrown d;have r:=cell_regrown c;have o:=cell_regrown b;clear d c b;go_enter func145,ntmps145
 go_wp2
 rotate_right 1
 focus
  by_cases f:0<=n
  .by_cases g:n<H6 k
   .refine wp_region_quiet_below AY AY ?_
    repeat (go_big_quiet_step ((exact Calls.regrown_of (Tz (Wp _ _)))))
    exact zia
   .have q:decide (n<H6 k)=false:=by simpa using g
    exact zMa
  .have i:decide (0<=n)=false:=by simpa using f
   exact zMa
 all_goals go_ret
 all_goals (refine⟨Ad ?_,Aa _ _⟩)
 all_goals go_light
 all_goals simp only[D3,CJ] at*
 all_goals (rw[Db];simp[Gz, *];try omega)
def Ri {w b:World}{o:Obj}(c:Below (w.alloc o).heap.size (w.alloc o) b):Below w.heap.size w b:=(Aa w o).trans (c.mono AW)
theorem Xt (k n p:Int)(w:World)(c:-9223372036854775808<=n)(d:n<=9223372036854775807):
  Calls prog 144 #[.agg #[.int .i64 k, .int .i64 n, .int .i64 p]] w λe w'=>e=.returned (.bool (Pq k n p))/\Below w.heap.size w w':=by
 cases h:Gz k n p;all_goals
  go_enter func144,ntmps144
  go_wp2_with (go_at_call 145;refine(JG _ _ _ _ c d).mono ?_;rintro e w' ⟨rfl,b⟩;obtain⟨g,f⟩:=Ff b)
  all_goals go_ret
  all_goals (refine⟨Ad ?_,Ri BA⟩)
  all_goals go_light
  all_goals (rw[Pq,h,Db];clear h;simp[*];try omega)
theorem Ru (k n p:Int)(w:World)(c:-9223372036854775808<=n)(d:n<=9223372036854775807):
  Calls prog 117 #[.agg #[.int .i64 k, .int .i64 n, .int .i64 p]] w λe w'=>e=.returned (.bool (H7 k n p))/\Below w.heap.size w w':=by
 cases h:Gz k n p;all_goals
  go_enter func117,ntmps117
  go_wp2_with (go_at_call 145;refine(JG _ _ _ _ c d).mono ?_;rintro e w' ⟨rfl,b⟩;obtain⟨g,f⟩:=Ff b)
  all_goals go_ret
  all_goals (refine⟨Ad ?_,Ri BA⟩)
  all_goals go_light
  all_goals (rw[H7,h,Db];clear h;simp[*];try omega)
theorem U8 (k n p:Int)(w:World)(c:-9223372036854775808<=n)(d:n<=9223372036854775807):
  Calls prog 118 #[.agg #[.int .i64 k, .int .i64 n, .int .i64 p]] w λe w'=>e=.returned (.bool (Iy k n p))/\Below w.heap.size w w':=by
 cases h:Gz k n p;all_goals
  go_enter func118,ntmps118
  go_wp2_with (go_at_call 145;refine(JG _ _ _ _ c d).mono ?_;rintro e w' ⟨rfl,b⟩;obtain⟨g,f⟩:=Ff b)
  all_goals go_ret
  all_goals (refine⟨Ad ?_,Ri BA⟩)
  all_goals go_light
  all_goals (rw[Iy,h,Db];clear h;simp[*];try omega)
theorem xY {k n p:Int}(h:Gz k n p=true)(h1:k≠11)(e:k≠12)(d:k≠13):1<=k/\k<=10/\0<=n/\n<64/\p=0:=by
 simp only[Gz,if_neg h1,if_neg e,if_neg d,decide_eq_true_eq] at h;obtain⟨a,b,c⟩:=h;unfold H6 at b;split at b
 .omega
 .split at b
  .omega
  .split at b
   .omega
   .split at b<;>omega
def KC {w b:World}{o:Obj}(c:Below (w.alloc o).heap.size (w.alloc o) b):w.heap.size<b.heap.size:=by have:=c.size;simp at this;omega
end Go.Proofs.YtfeablpbkcgdjaaGreatDoor
namespace Go.RowKit
theorem Ab {p:Prop}(h:p):Hid p:=h
end Go.RowKit
namespace Go.Proofs.YtfeablpbkcgdjaaGreatDoor
open Tryz Stil Go.RowKit Go.Sort Go.BigFrame
variable {W a w':World}{n:Nat}{v:Value}
theorem Ir (op:Int)(w:World):
  Calls prog 90 #[.int .i64 op] w λe w'=>e=.returned (.int .i64 (Stil.arity op))/\w'=w:=by
 go_enter func90,ntmps90
 go_wp2
 all_goals go_ret
 all_goals (refine⟨Fa ?_,rfl⟩;go_light;simp only[D3,CJ] at*;unfold Stil.arity;first | (simp[*];done) | (repeat (first | rw[if_pos AU] | rw[if_neg AU])))
theorem Zt (k n p a b:Int)(w:World)(d:-9223372036854775808<=n)(f:n<=9223372036854775807):
  Calls prog 116 #[.agg #[.int .i64 k, .int .i64 n, .int .i64 p], .int .i64 a, .int .i64 b] w λe w'=>e=.returned (.bool (Lh k n p a b))/\Below w.heap.size w w':=by
 cases h:Gz k n p;all_goals
  go_enter func116,ntmps116
  go_wp2_with (go_at_call 145;refine(JG _ _ _ _ d f).mono ?_;rintro e w' ⟨rfl,c⟩;obtain⟨i,g⟩:=Ff c)
  all_goals go_ret
  all_goals (refine⟨Ad ?_,Ri BA⟩)
  all_goals go_light
  all_goals (rw[Lh,h,Db];clear h;simp[*])
def Ce {w:World}(h:Below w.heap.size w a)(o:Obj):Below w.heap.size w (a.alloc o):=h.alloc h.size o
def BH {a b:Nat}(h:a<b:=by first | with_reducible assumption | (simp;done) | (simp;omega)):a<b:=h
def A4 {w:World}{a:Addr}{v:Bool}(hb:Below n w W)(h1:a.block<n:=by simp)(h2:w.frozen? a=v:=by simp[go_sem]):W.frozen? a=v:=(hb.frozen h1).trans h2
def A3 {w:World}{a:Addr}{v:Option Value}(hb:Below n w W)(h1:a.block<n:=by simp)(h2:w.cell? a=v:=by simp[go_sem]):W.cell? a=v:=(hb.cell h1).trans h2
def Ny {w:World}(h:Below w.heap.size w a)(n:Nat):Below w.heap.size w (a.drewN n):=below_drewN h n
def Rh {w:World}(h:Below w.heap.size w a):Below w.heap.size w a.drew:=h.drew
def Au {w b:World}(h:Below w.heap.size w a)(k:Below a.heap.size a b):Below w.heap.size w b:=h.trans (k.mono h.size)
def Uu {w:World}{p:Addr}(b:w.heap.size<=p.block)(h:Below w.heap.size w a)(v:Value):Below w.heap.size w (a.setCell p v):=h.setCell b v
def H9 {w:World}(h:Below w.heap.size w a)(d:Nat)(os:Array Obj):Below w.heap.size w (grow (redrawn a d) os):=Au h (below_regrown a d os)
def A2 {w:World}(h:Below n w W:=by(repeat (first | exact Below.refl _ _ | assumption | refine Ce ?_ _ | refine Ny ?_ _ | refine Rh ?_ | refine H9 ?_ _ _ | refine Uu (B7 _) ?_ _ | refine Au ?_ (by assumption)))):Below n w W:=h
def AX {w:World}(h:Below n w W:=by(repeat (first | with_reducible exact Below.refl _ _ | with_reducible assumption | with_reducible refine Uu (by first | exact B7 _ | (simp;done) | (simp;omega) | omega) ?_ _ | with_reducible refine Ce ?_ _ | with_reducible refine Ny ?_ _ | with_reducible refine Rh ?_ | with_reducible refine H9 ?_ _ _ | with_reducible refine Au ?_ (by assumption)))):Below n w W:=h
def W7 {w:World}{b:Nat}(h:b<w.heap.size)(k:Below w.heap.size w a):b<a.heap.size:=B8 h k.size
def tf {w b:World}{o:Obj}(c:Below ((w.alloc o).drewN n).heap.size ((w.alloc o).drewN n) b):w.heap.size<b.heap.size:=by have:=c.size;simp at this;omega
def Iz (w:World)(b o:Nat)(d:Stil.B9):Prop:=w.cell? ⟨b,o,none⟩=some (.int .i64 d.kind)/\w.cell? ⟨b,o+1,none⟩=some (.int .i64 d.n)/\w.cell? ⟨b,o+2,none⟩=some (.int .i64 d.p)
def Ak (w:World)(v:Value)(ds:List Stil.B9):Prop:=∃a cap,v=.slice a ds.length cap/\∀i (h:i<ds.length),∃b o,a=some ⟨b,o,none⟩/\b<w.heap.size/\Iz w b (o+i*3) ds[i]
theorem Iz.below {w:World}{b o:Nat}{d:Stil.B9}(h:Iz w b o d)(c:Below w.heap.size w w')(e:b<w.heap.size):Iz w' b o d:=by
 unfold Iz at*;rw[c.cell (p:=⟨b,o,none⟩) e,c.cell (p:=⟨b,o+1,none⟩) e,c.cell (p:=⟨b,o+2,none⟩) e];exact h
theorem Ak.below {w:World}{ds:List Stil.B9}(h:Ak w v ds)(c:Below w.heap.size w w'):Ak w' v ds:=by
 obtain⟨a,cap,g,e⟩:=h;refine⟨a,cap,g,λi hi=>?_⟩;obtain⟨b,o,f,d,hd⟩:=e i hi;exact⟨b,o,f,B8 d c.size,hd.below c d⟩
theorem Ak.one {w:World}{d:Stil.B9}(h:Ak w v [d]):∃b o cap,v=.slice (some ⟨b,o,none⟩) 1 cap/\b<w.heap.size/\Iz w b o d:=by
 obtain⟨a,cap,f,e⟩:=h;obtain⟨b,o,rfl,c,hd⟩:=e 0 AW;exact⟨b,o,cap,f,c,hd⟩
theorem Ak.two {w:World}{d e:Stil.B9}(h:Ak w v [d,e]):∃b o cap,v=.slice (some ⟨b,o,none⟩) 2 cap/\b<w.heap.size/\Iz w b o d/\Iz w b (o+3) e:=by
 obtain⟨a,cap,j,c⟩:=h;obtain⟨b,o,rfl,g,hd⟩:=c 0 AW;obtain⟨l,k,f,_,i⟩:=c 1 AW;simp only[EQ,Addr.mk.injEq,F3] at f;obtain⟨rfl,rfl⟩:=f;exact⟨b,o,cap,j,g,hd,i⟩
def zFa {p:Prop}(h:p:=by
 go_enter func115,ntmps115
 go_wp2
 go_quiet (exact Calls.quiet_of_same (Ir _ _))
 go_wp2
 go_ret;exact⟨rfl,below_drewN (Aa _ _) _⟩):p:=h
theorem g9 (op:Int)(a:Option Addr)(len cap:Nat)(w:World)(h:op<1\/10<op\/(len:Int)≠Stil.arity op)(_hl:len<=9223372036854775807):
  Calls prog 115 #[.agg #[.int .i64 op, .slice a len cap]] w λe w'=>e=.returned (.bool false)/\Below w.heap.size w w':=by
 by_cases c:op<1
 .have d:decide (op<1)=true:=by simpa using c
  exact zFa
 .have d:decide (op<1)=false:=by simpa using c
  by_cases b:10<op
  .have f:decide (10<op)=true:=by simpa using b
   exact zFa
  .have f:decide (10<op)=false:=by simpa using b
   have g:((len:Int) !=Stil.arity op)=true:=by rw[bne_iff_ne];omega
   clear h;go_enter func115,ntmps115
   go_wp2
   go_quiet (exact Calls.quiet_of_same (Ir _ _))
   go_wp2
   go_ret;exact⟨rfl,below_drewN (Aa _ _) _⟩
theorem gd (op:Int)(b o cap:Nat)(d:Stil.B9)(w:World)(h1:1<=op)(r:op<=2)(j:b<w.heap.size)(g:Iz w b o d)(c:-9223372036854775808<=d.n)(f:d.n<=9223372036854775807):
  Calls prog 115 #[.agg #[.int .i64 op, .slice (some ⟨b,o,none⟩) 1 cap]] w λe w'=>e=.returned (.bool d.isBit)/\Below w.heap.size w w':=by
 obtain⟨t,l,q⟩:=g;have s:decide (op<1)=false:=by simp;omega
 have m:decide (10<op)=false:=by simp;omega
 have k:Stil.arity op=1:=by unfold Stil.arity;rw[if_pos AU]
 go_enter func115,ntmps115
 go_wp2
 go_quiet (exact Calls.quiet_of_same (Ir _ _))
 go_wp2_with (go_at_call 144;refine(Xt _ _ _ _ c f).mono ?_;rintro e w' ⟨rfl,i⟩)
 go_ret;exact⟨rfl,A2⟩
theorem g8 (op:Int)(b o cap:Nat)(d f:Stil.B9)(w:World)(h1:3<=op)(F:op<=4)(r:b<w.heap.size)(u:Iz w b o d)(x:Iz w b (o+3) f)(g:-9223372036854775808<=d.n)(i:d.n<=9223372036854775807)(k:-9223372036854775808<=f.n)(j:f.n<=9223372036854775807):
  Calls prog 115 #[.agg #[.int .i64 op, .slice (some ⟨b,o,none⟩) 2 cap]] w λe w'=>e=.returned (.bool (d.isBit && f.ok && f.kind==5))/\Below w.heap.size w w':=by
 obtain⟨G,K,E⟩:=u;obtain⟨B,H,D⟩:=x;have y:b<w.heap.size+1:=AU
 have N:decide (op<1)=false:=by simp;omega
 have L:decide (10<op)=false:=by simp;omega
 have z:Stil.arity op=2:=by unfold Stil.arity;rw[if_neg AU,if_neg AU,if_pos AU]
 have M:decide (op<=2)=false:=by simp;omega
 unfold Stil.B9.isBit Stil.B9.ok;cases A:Pq d.kind d.n d.p
 .go_enter func115,ntmps115
  go_wp2
  go_quiet (exact Calls.quiet_of_same (Ir _ _))
  go_wp2_with (go_at_call 144;refine(Xt _ _ _ _ g i).mono ?_;rintro e w' ⟨rfl,c⟩;obtain⟨m,l⟩:=Ff c)
  go_ret;exact⟨rfl,A2⟩
 .cases C:Gz f.kind f.n f.p
  .go_enter func115,ntmps115
   go_wp2
   go_quiet (exact Calls.quiet_of_same (Ir _ _))
   go_wp2_with (first | (go_at_call 144;refine(Xt _ _ _ _ g i).mono ?_;rintro e w' ⟨rfl,c⟩;obtain⟨m,l⟩:=Ff c) | (go_at_call 145;refine(JG _ _ _ _ k j).mono ?_;rintro e s ⟨rfl,q⟩))
   go_ret;exact⟨Ad AW,A2⟩
  .go_enter func115,ntmps115
   go_wp2
   go_quiet (exact Calls.quiet_of_same (Ir _ _))
   go_wp2_with (first | (go_at_call 144;refine(Xt _ _ _ _ g i).mono ?_;rintro e w' ⟨rfl,c⟩;obtain⟨m,l⟩:=Ff c;have t:=tf c;have O:=Nat.lt_trans r t) | (go_at_call 145;refine(JG _ _ _ _ k j).mono ?_;rintro e s ⟨rfl,q⟩;obtain⟨I,J⟩:=Ff q))
   go_ret;exact⟨Ad AW,A2⟩
theorem gg (op:Int)(b o cap:Nat)(d f:Stil.B9)(w:World)(h1:5<=op)(C:op<=10)(F:b<w.heap.size)(l:Iz w b o d)(q:Iz w b (o+3) f)(s:-9223372036854775808<=d.n)(H:d.n<=9223372036854775807)(y:-9223372036854775808<=f.n)(r:f.n<=9223372036854775807):
  Calls prog 115 #[.agg #[.int .i64 op, .slice (some ⟨b,o,none⟩) 2 cap]] w λe w'=>e=.returned (.bool (d.isWhole && f.isWhole || d.isReal && f.isReal))/\Below w.heap.size w w':=by
 obtain⟨D,G,B⟩:=l;obtain⟨x,E,A⟩:=q;have t:b<w.heap.size+1:=AU
 have K:decide (op<1)=false:=by simp;omega
 have I:decide (10<op)=false:=by simp;omega
 have u:Stil.arity op=2:=by unfold Stil.arity;rw[if_neg AU,if_neg AU,if_pos AU]
 have J:decide (op<=2)=false:=by simp;omega
 have z:decide (op<=4)=false:=by simp;omega
 unfold Stil.B9.isWhole Stil.B9.isReal;go_enter func115,ntmps115
 go_wp2
 go_quiet (exact Calls.quiet_of_same (Ir _ _))
 go_wp2_with (first | (go_at_call 117;refine(Ru _ _ _ _ BA BA).mono ?_;rintro e g ⟨rfl,c⟩;obtain⟨k,j⟩:=Ff c;have i:w.heap.size<g.heap.size:=B8 A5 c.size;have m:=B8 A5 c.size) | (go_at_call 118;refine(U8 _ _ _ _ BA BA).mono ?_;rintro e g ⟨rfl,c⟩;obtain⟨k,j⟩:=Ff c;have i:w.heap.size<g.heap.size:=B8 A5 c.size;have m:=B8 A5 c.size))
 all_goals go_ret
 all_goals (refine⟨Ad ?_,A2⟩)
 all_goals go_light
 all_goals simp[*]
theorem mL (op:Int)(v:Value)(ds:List Stil.B9)(w:World)(j:Ak w v ds)(i:∀d∈ds,d.fits)(hl:ds.length<=9223372036854775807):
  Calls prog 115 #[.agg #[.int .i64 op,v]] w λe w'=>e=.returned (.bool (Dl op ds))/\Below w.heap.size w w':=by
 have c:∀(h:op<1\/10<op\/(ds.length:Int)≠Stil.arity op),Dl op ds=false->Calls prog 115 #[.agg #[.int .i64 op,v]] w λe w'=>e=.returned (.bool (Dl op ds))/\Below w.heap.size w w':=by
  intro h u;obtain⟨a,cap,rfl,_⟩:=j;rw[u];exact g9 op a ds.length cap w h hl
 by_cases h1:op<1\/10<op
 .exact c AU (by unfold Dl;rw[if_pos h1])
 .by_cases k:op<=2
  .have ha:Stil.arity op=1:=by unfold Stil.arity;rw[if_pos AU]
   match ds,j,i,hl,c with
   | [],_,_,_,c=>exact c yEa yDb
   | [d],j,i,_,_=>
    obtain⟨b,o,cap,rfl,m,hd⟩:=j.one;have:=(i d AW).2.1
    have e:Dl op [d]=d.isBit:=by unfold Dl;rw[if_neg h1];simp[k]
    rw[e];exact gd op b o cap d w AU k m hd this.1 this.2
   | [d,f],_,_,_,c=>exact c yEa (by unfold Dl;rw[if_neg h1];simp[k])
   | d::f::g::r,_,_,_,c=>exact c (by right;right;simp[ha];omega) yDb
  .have ha:Stil.arity op=2:=by unfold Stil.arity;rw[if_neg AU,if_neg AU,if_pos AU]
   match ds,j,i,hl,c with
   | [],_,_,_,c=>exact c yEa yDb
   | [d],_,_,_,c=>exact c yEa (by unfold Dl;rw[if_neg h1];simp[k])
   | [d,f],j,i,_,_=>
    obtain⟨b,o,cap,rfl,m,hd,t⟩:=j.two;have l:=(i d AW).2.1;have q:=(i f AW).2.1;by_cases s:op<=4
    .have e:Dl op [d,f]=(d.isBit && f.ok && f.kind==5):=by unfold Dl;rw[if_neg h1];simp[k,s]
     rw[e];exact g8 op b o cap d f w AU s m hd t l.1 l.2 q.1 q.2
    .have e:Dl op [d,f]=(d.isWhole && f.isWhole || d.isReal && f.isReal):=by unfold Dl;rw[if_neg h1];simp[k,s]
     rw[e];exact gg op b o cap d f w AU AU m hd t l.1 l.2 q.1 q.2
   | d::f::g::r,_,_,_,c=>exact c (by right;right;simp[ha];omega) yDb
def zPa {p:Prop}(h:p:=by
 refine⟨⟨k+1,AU,by go_num,by rw[HC.out,HR.out];rfl,?_⟩,by simp[intOf];omega⟩;exact hB.trans (hb.mono hz)):p:=h
theorem dk (op:Int)(b o cap:Nat)(d:Stil.B9)(r:List Stil.B9)(w:World)(I:b<w.heap.size)(hl:r.length<=100)
  (u:∀i (h:i<(d::r).length),Iz w b (o+i*3) (d::r)[i]) (t:∀x∈d::r,x.fits):
  Calls prog 119 #[.agg #[.int .i64 op, .slice (some ⟨b,o,none⟩) (r.length+1) cap]] w λe w'=>e=.returned (.bool (FC op (d::r)))/\Below w.heap.size w w':=by
 have U:b<w.heap.size+1:=AU
 obtain⟨z,D,L⟩:=u 0 AW;simp only[ER,GI,FM] at z D L;obtain⟨J,N⟩:=(t d AW).2.1;cases K:Lh d.kind d.n d.p 9 10
 .have s:Hid (FC op (d::r)=false):=by show _=_;simp only[FC,Stil.B9.kindIs,K];rfl
  clear u t;go_enter func119,ntmps119
  go_wp2_with (first | (go_at_call 116;refine(Zt _ _ _ _ _ _ J N).mono ?_;rintro e B ⟨rfl,hb⟩;obtain⟨j,g⟩:=Ff hb;have f:w.heap.size<B.heap.size:=B8 A5 hb.size;have c:=B8 A5 hb.size))
  go_ret;exact⟨Ad (by rw[s.out]),A2⟩
 .cases Q:d.kind==9
  .have s:Hid (FC op (d::r)=(Lr false r && (op !=35))):=by show _=_;simp only[FC,Stil.B9.kindIs,K,Q];simp
   have M:=Ab u;have O:=Ab t;clear u t;go_enter func119,ntmps119
   go_wp2_with (first | (go_at_call 116;refine(Zt _ _ _ _ _ _ J N).mono ?_;rintro e B ⟨rfl,hb⟩;obtain⟨j,g⟩:=Ff hb;have f:w.heap.size<B.heap.size:=B8 A5 hb.size;have c:=B8 A5 hb.size))
   clear j g f c;go_loopw [4] (λi wr=>∃k:Nat,k<=r.length/\i=.int .i64 ((k:Int)+1)/\Lr false r=Lr false (r.drop k)/\Below (w.heap.size+1) (w.alloc (.cells #[.int .i64 op, .slice (some ⟨b,o,none⟩) (r.length+1) cap] 51)) wr) (λi _=>r.length+1 - (intOf i).toNat)
   case atStart=>exact⟨0,AU,rfl,rfl,hb.mono AW⟩
   case round=>
    clear hb;obtain⟨k,T,rfl,y,hB⟩:=hrel;have HC:=Ab y;clear y z D L;have hz:w.heap.size<wr.heap.size:=by have:=hB.size;simp at this;omega
    have z:wr.cell? ⟨w.heap.size,0,none⟩=some (.int .i64 op):=A3 hB;have S:wr.frozen? ⟨w.heap.size,0,none⟩=false:=A4 hB;have D:wr.cell? ⟨w.heap.size,1,none⟩=some (.slice (some ⟨b,o,none⟩) (r.length+1) cap):=A3 hB;have R:wr.frozen? ⟨w.heap.size,1,none⟩=false:=A4 hB;have H:=(Aa _ _).trans (hB.mono AU);have c:=W7 I H;by_cases P:k<r.length
    .obtain⟨C,F,G⟩:=(M (k+1) Ax).below H I
     simp only[J0] at C F G;obtain⟨m,l⟩:=(O r[k] AW).2.1;have HR:Hid (Lr false (r.drop k)=(Iy r[k].kind r[k].n r[k].p && Lr false (r.drop (k+1)))):=by
      show(r.drop k).all _=_
      rw[FZ P,List.all_cons];rfl
     obtain⟨x,A⟩:∃x,x=r[k]:=⟨_,rfl⟩
     rw[<-A] at C F G m l HR;clear A;cases E:Iy x.kind x.n x.p
     .rw[E] at HR
      go_wp2_with (first | (go_at_call 118;refine(U8 _ _ _ _ m l).mono ?_;rintro e q ⟨rfl,hb⟩;obtain⟨j,g⟩:=Ff hb;have f:w.heap.size<q.heap.size:=B8 A5 hb.size;have c:=B8 A5 hb.size))
      go_ret;exact⟨Ad (by rw[s.out,HC.out,HR.out];rfl),A2⟩
     .rw[E] at HR
      go_wp2_with (first | (go_at_call 118;refine(U8 _ _ _ _ m l).mono ?_;rintro e q ⟨rfl,hb⟩;obtain⟨j,g⟩:=Ff hb;have f:w.heap.size<q.heap.size:=B8 A5 hb.size;have c:=B8 A5 hb.size))
      exact zPa
    .go_wp2
     go_ret;exact⟨Ad (by rw[s.out,HC.out,GH AU];rfl),A2⟩
  .have s:Hid (FC op (d::r)=Lr true r):=by show _=_;simp only[FC,Stil.B9.kindIs,K,Q];simp
   have M:=Ab u;have O:=Ab t;clear u t;go_enter func119,ntmps119
   go_wp2_with (first | (go_at_call 116;refine(Zt _ _ _ _ _ _ J N).mono ?_;rintro e B ⟨rfl,hb⟩;obtain⟨j,g⟩:=Ff hb;have f:w.heap.size<B.heap.size:=B8 A5 hb.size;have c:=B8 A5 hb.size))
   clear j g f c;go_loopw [4] (λi wr=>∃k:Nat,k<=r.length/\i=.int .i64 ((k:Int)+1)/\Lr true r=Lr true (r.drop k)/\Below (w.heap.size+1) (w.alloc (.cells #[.int .i64 op, .slice (some ⟨b,o,none⟩) (r.length+1) cap] 51)) wr) (λi _=>r.length+1 - (intOf i).toNat)
   case atStart=>exact⟨0,AU,rfl,rfl,hb.mono AW⟩
   case round=>
    clear hb;obtain⟨k,T,rfl,y,hB⟩:=hrel;have HC:=Ab y;clear y z D L;have hz:w.heap.size<wr.heap.size:=by have:=hB.size;simp at this;omega
    have z:wr.cell? ⟨w.heap.size,0,none⟩=some (.int .i64 op):=A3 hB;have S:wr.frozen? ⟨w.heap.size,0,none⟩=false:=A4 hB;have D:wr.cell? ⟨w.heap.size,1,none⟩=some (.slice (some ⟨b,o,none⟩) (r.length+1) cap):=A3 hB;have R:wr.frozen? ⟨w.heap.size,1,none⟩=false:=A4 hB;have H:=(Aa _ _).trans (hB.mono AU);have c:=W7 I H;by_cases P:k<r.length
    .obtain⟨C,F,G⟩:=(M (k+1) Ax).below H I
     simp only[J0] at C F G;obtain⟨m,l⟩:=(O r[k] AW).2.1;have HR:Hid (Lr true (r.drop k)=(H7 r[k].kind r[k].n r[k].p && Lr true (r.drop (k+1)))):=by
      show(r.drop k).all _=_
      rw[FZ P,List.all_cons];rfl
     obtain⟨x,A⟩:∃x,x=r[k]:=⟨_,rfl⟩
     rw[<-A] at C F G m l HR;clear A;cases E:H7 x.kind x.n x.p
     .rw[E] at HR
      go_wp2_with (first | (go_at_call 117;refine(Ru _ _ _ _ m l).mono ?_;rintro e q ⟨rfl,hb⟩;obtain⟨j,g⟩:=Ff hb;have f:w.heap.size<q.heap.size:=B8 A5 hb.size;have c:=B8 A5 hb.size))
      go_ret;exact⟨Ad (by rw[s.out,HC.out,HR.out];rfl),A2⟩
     .rw[E] at HR
      go_wp2_with (first | (go_at_call 117;refine(Ru _ _ _ _ m l).mono ?_;rintro e q ⟨rfl,hb⟩;obtain⟨j,g⟩:=Ff hb;have f:w.heap.size<q.heap.size:=B8 A5 hb.size;have c:=B8 A5 hb.size))
      exact zPa
    .go_wp2
     go_ret;exact⟨Ad (by rw[s.out,HC.out,GH AU];rfl),A2⟩
def zHa {p:Prop}(h:p:=by
 go_enter func75,ntmps75
 go_wp2
 go_quiet (exact Calls.quiet_of_same (Ir _ _))
 go_wp2
 go_ret;exact⟨rfl,below_drewN (Aa _ _) _⟩):p:=h
theorem lH (op:Int)(a:Option Addr)(len cap:Nat)(w:World)(h:op<21\/37<op\/(len:Int)≠Stil.arity op)(_hl:len<=9223372036854775807):
  Calls prog 75 #[.agg #[.int .i64 op, .slice a len cap]] w λe w'=>e=.returned (.bool false)/\Below w.heap.size w w':=by
 by_cases c:op<21
 .have d:decide (op<21)=true:=by simpa using c
  exact zHa
 .have d:decide (op<21)=false:=by simpa using c
  by_cases b:37<op
  .have f:decide (37<op)=true:=by simpa using b
   exact zHa
  .have f:decide (37<op)=false:=by simpa using b
   have g:((len:Int) !=Stil.arity op)=true:=by rw[bne_iff_ne];omega
   clear h;go_enter func75,ntmps75
   go_wp2
   go_quiet (exact Calls.quiet_of_same (Ir _ _))
   go_wp2
   go_ret;exact⟨rfl,below_drewN (Aa _ _) _⟩
theorem jn (op:Int)(b o cap:Nat)(d:Stil.B9)(w:World)(h1:21<=op)(j:op<=37)(c:Stil.arity op=1)(z:b<w.heap.size)(l:Iz w b o d)(m:-9223372036854775808<=d.n)(C:d.n<=9223372036854775807):
  Calls prog 75 #[.agg #[.int .i64 op, .slice (some ⟨b,o,none⟩) 1 cap]] w λe w'=>e=.returned (.bool (Fz op [d]))/\Below w.heap.size w w':=by
 obtain⟨u,B,s⟩:=l;have q:b<w.heap.size+1:=AU
 have r:b<w.heap.size+1+1:=AU
 have i:op=21\/op=22\/op=23\/op=25:=by
  unfold Stil.arity at c;split at c
  .omega
  .split at c
   .omega
   .split at c<;>omega
 have k:Hid (Fz op [d]=if op=21 then Lh d.kind d.n d.p 2 3 else if op=22 then Lh d.kind d.n d.p 2 3 || Lh d.kind d.n d.p 4 4 else if op=23 then Lh d.kind d.n d.p 2 3 || Lh d.kind d.n d.p 4 7 || Lh d.kind d.n d.p 8 8 else Lh d.kind d.n d.p 4 4):=by
  show _=_
  unfold Fz;rw[if_neg (by simp[c];omega)];rfl
 have E:decide (op<21)=false:=by simp;omega
 have D:decide (37<op)=false:=by simp;omega
 clear h1 j;rcases i with rfl | rfl | rfl | rfl
 all_goals
  go_enter func75,ntmps75
  go_wp2
  go_quiet (exact Calls.quiet_of_same (Ir _ _))
  go_wp2_with (first | (go_at_call 116;refine(Zt _ _ _ _ _ _ BA BA).mono ?_;rintro e g ⟨rfl,f⟩;obtain⟨A,x⟩:=Ff f;have t:w.heap.size<g.heap.size:=B8 A5 f.size;have F:w.heap.size+1<g.heap.size:=B8 A5 f.size;have y:=B8 A5 f.size))
  all_goals go_ret
  all_goals (refine⟨Ad ?_,A2⟩)
  all_goals rw[k.out]
  all_goals go_light
  all_goals simp[*]
def zda {p:Prop}(h:p:=by
 go_enter func75,ntmps75
 go_wp2
 go_quiet (exact Calls.quiet_of_same (Ir _ _))
 go_wp2_with (first | (go_at_call 116;refine(Zt _ _ _ _ _ _ BA BA).mono ?_;rintro e w1 ⟨rfl,hb⟩;obtain⟨hc,hf⟩:=Ff hb;have hz0:w.heap.size<w1.heap.size:=B8 A5 hb.size;have hz1:w.heap.size+1<w1.heap.size:=B8 A5 hb.size;have hz2:=B8 A5 hb.size))
 all_goals go_ret
 all_goals (refine⟨Ad ?_,A2⟩)
 all_goals go_light
 all_goals simp[*]):p:=h
def zma {p:Prop}(h:p:=by
 obtain⟨c0,c1,c2⟩:=hat;obtain⟨e0,e1,e2⟩:=bP;have hlt1:b<w.heap.size+1:=AU
 have hlt2:b<w.heap.size+1+1:=AU
 have h3:Stil.arity op=2:=by unfold Stil.arity;rw[if_neg AU,if_neg AU,if_pos AU]
 have h1':decide (op<21)=false:=by simp;omega
 have h2':decide (37<op)=false:=by simp;omega
 subst ho;all_goals
  exact zda):p:=h
def iC (op:Int)(b o cap:Nat)(d f:Stil.B9)(w:World)(ho:op=24)(g:b<w.heap.size)(hat:Iz w b o d)(bP:Iz w b (o+3) f)(i:-9223372036854775808<=d.n)(j:d.n<=9223372036854775807)(k:-9223372036854775808<=f.n)(c:f.n<=9223372036854775807):
  Calls prog 75 #[.agg #[.int .i64 op, .slice (some ⟨b,o,none⟩) 2 cap]] w λe w'=>e=.returned (.bool (Lh d.kind d.n d.p 2 3 && Lh f.kind f.n f.p 5 5))/\Below w.heap.size w w':=by
 exact zma
theorem Tc (op:Int)(b o cap:Nat)(d f:Stil.B9)(w:World)(c:op=26\/op=27\/op=28)(k:b<w.heap.size)(g:Iz w b o d)(i:Iz w b (o+3) f)(l:-9223372036854775808<=d.n)(t:d.n<=9223372036854775807)(u:-9223372036854775808<=f.n)(j:f.n<=9223372036854775807):
  Calls prog 75 #[.agg #[.int .i64 op, .slice (some ⟨b,o,none⟩) 2 cap]] w λe w'=>e=.returned (.bool (Lh d.kind d.n d.p 7 7 && Lh f.kind f.n f.p 11 11 && decide (0<=f.n)))/\Below w.heap.size w w':=by
 obtain⟨C,s,A⟩:=g;obtain⟨r,D,y⟩:=i;have m:b<w.heap.size+1:=AU
 have z:b<w.heap.size+1+1:=AU
 have q:Stil.arity op=2:=by unfold Stil.arity;rw[if_neg AU,if_neg AU,if_pos AU]
 have B:decide (op<21)=false:=by simp;omega
 have x:decide (37<op)=false:=by simp;omega
 rcases c with rfl | rfl | rfl
 all_goals exact zda
def iF (op:Int)(b o cap:Nat)(d f:Stil.B9)(w:World)(ho:op=29)(g:b<w.heap.size)(hat:Iz w b o d)(bP:Iz w b (o+3) f)(i:-9223372036854775808<=d.n)(j:d.n<=9223372036854775807)(k:-9223372036854775808<=f.n)(c:f.n<=9223372036854775807):
  Calls prog 75 #[.agg #[.int .i64 op, .slice (some ⟨b,o,none⟩) 2 cap]] w λe w'=>e=.returned (.bool (Lh d.kind d.n d.p 8 8 && Lh f.kind f.n f.p 11 11 && decide (0<=f.n)))/\Below w.heap.size w w':=by
 exact zma
theorem iv (op:Int)(b o cap:Nat)(d f:Stil.B9)(w:World)(i:op=36)(G:b<w.heap.size)(q:Iz w b o d)(s:Iz w b (o+3) f)(u:-9223372036854775808<=d.n)(I:d.n<=9223372036854775807)(A:-9223372036854775808<=f.n)(t:f.n<=9223372036854775807):
  Calls prog 75 #[.agg #[.int .i64 op, .slice (some ⟨b,o,none⟩) 2 cap]] w λe w'=>e=.returned (.bool (Lh d.kind d.n d.p 10 10 && H7 f.kind f.n f.p))/\Below w.heap.size w w':=by
 obtain⟨E,H,D⟩:=q;obtain⟨z,F,B⟩:=s;have x:b<w.heap.size+1:=AU
 have C:b<w.heap.size+1+1:=AU
 have y:Stil.arity op=2:=by unfold Stil.arity;rw[if_neg AU,if_neg AU,if_pos AU]
 have K:decide (op<21)=false:=by simp;omega
 have J:decide (37<op)=false:=by simp;omega
 subst i;all_goals
  go_enter func75,ntmps75
  go_wp2
  go_quiet (exact Calls.quiet_of_same (Ir _ _))
  go_wp2_with (first | (go_at_call 116;refine(Zt _ _ _ _ _ _ BA BA).mono ?_;rintro e g ⟨rfl,c⟩;obtain⟨m,k⟩:=Ff c;have j:w.heap.size<g.heap.size:=B8 A5 c.size;have r:w.heap.size+1<g.heap.size:=B8 A5 c.size;have l:=B8 A5 c.size) | (go_at_call 117;refine(Ru _ _ _ _ BA BA).mono ?_;rintro e g ⟨rfl,c⟩;obtain⟨m,k⟩:=Ff c;have j:w.heap.size<g.heap.size:=B8 A5 c.size;have r:w.heap.size+1<g.heap.size:=B8 A5 c.size;have l:=B8 A5 c.size))
  all_goals go_ret
  all_goals (refine⟨Ad ?_,A2⟩)
  all_goals go_light
  all_goals simp[*]
theorem hH (op:Int)(b o cap:Nat)(d f:Stil.B9)(w:World)(i:op=37)(G:b<w.heap.size)(q:Iz w b o d)(s:Iz w b (o+3) f)(u:-9223372036854775808<=d.n)(I:d.n<=9223372036854775807)(A:-9223372036854775808<=f.n)(t:f.n<=9223372036854775807):
  Calls prog 75 #[.agg #[.int .i64 op, .slice (some ⟨b,o,none⟩) 2 cap]] w λe w'=>e=.returned (.bool (Lh d.kind d.n d.p 9 9 && Iy f.kind f.n f.p))/\Below w.heap.size w w':=by
 obtain⟨E,H,D⟩:=q;obtain⟨z,F,B⟩:=s;have x:b<w.heap.size+1:=AU
 have C:b<w.heap.size+1+1:=AU
 have y:Stil.arity op=2:=by unfold Stil.arity;rw[if_neg AU,if_neg AU,if_pos AU]
 have K:decide (op<21)=false:=by simp;omega
 have J:decide (37<op)=false:=by simp;omega
 subst i;all_goals
  go_enter func75,ntmps75
  go_wp2
  go_quiet (exact Calls.quiet_of_same (Ir _ _))
  go_wp2_with (first | (go_at_call 116;refine(Zt _ _ _ _ _ _ BA BA).mono ?_;rintro e g ⟨rfl,c⟩;obtain⟨m,k⟩:=Ff c;have j:w.heap.size<g.heap.size:=B8 A5 c.size;have r:w.heap.size+1<g.heap.size:=B8 A5 c.size;have l:=B8 A5 c.size) | (go_at_call 118;refine(U8 _ _ _ _ BA BA).mono ?_;rintro e g ⟨rfl,c⟩;obtain⟨m,k⟩:=Ff c;have j:w.heap.size<g.heap.size:=B8 A5 c.size;have r:w.heap.size+1<g.heap.size:=B8 A5 c.size;have l:=B8 A5 c.size))
  all_goals go_ret
  all_goals (refine⟨Ad ?_,A2⟩)
  all_goals go_light
  all_goals simp[*]
theorem Zu (op:Int)(b o cap:Nat)(d:Stil.B9)(r:List Stil.B9)(w:World)(j:30<=op/\op<=35)(f:Stil.arity op=(r.length:Int)+1)(s:b<w.heap.size)
  (c:∀i (h:i<(d::r).length),Iz w b (o+i*3) (d::r)[i]) (g:∀x∈d::r,x.fits):
  Calls prog 75 #[.agg #[.int .i64 op, .slice (some ⟨b,o,none⟩) (r.length+1) cap]] w λe w'=>e=.returned (.bool (FC op (d::r)))/\Below w.heap.size w w':=by
 obtain⟨q,t,l⟩:=c 0 AW;simp only[ER,GI,FM] at q t l;have z:r.length<=100:=by
  have:Stil.arity op<=3:=by unfold Stil.arity;split<;>(try split)<;>(try split)<;>omega
  omega
 have m:Hid (∀W,Below w.heap.size w W->∀i (h:i<(d::r).length),Iz W b (o+i*3) (d::r)[i]):=λW y i h=>(c i h).below y s
 have u:=Ab g;have P:decide (op<21)=false:=by simp;omega
 have M:decide (37<op)=false:=by simp;omega
 have k:(op==21)=false/\(op==22)=false/\(op==23)=false/\(op==24)=false/\(op==25)=false/\(op==26)=false/\(op==27)=false/\(op==28)=false/\(op==29)=false/\(op==36)=false/\(op==37)=false:=by
  simp only[CJ];omega
 obtain⟨D,L,E,F,C,N,I,H,G,K,O⟩:=k;have B:(((r.length:Int)+1) !=Stil.arity op)=false:=by rw[f];simp
 clear c g j f;go_enter func75,ntmps75
 go_wp2
 go_quiet (exact Calls.quiet_of_same (Ir _ _))
 go_wp2_with (first | (go_at_call 119;refine(dk op b o cap d r _ Ax z (m _ A2) u.out).mono ?_;rintro e J ⟨rfl,A⟩))
 go_ret;exact⟨rfl,A2⟩
theorem nZ {op:Int}(h1:21<=op)(c:op<=37):(Stil.arity op=1/\(op=21\/op=22\/op=23\/op=25))\/(Stil.arity op=2/\(op=24\/op=26\/op=27\/op=28\/op=29\/op=30\/op=36\/op=37))\/(Stil.arity op=3/\31<=op/\op<=35):=by
 unfold Stil.arity;by_cases a:op=1\/op=2\/op=21\/op=22\/op=23\/op=25
 .rw[if_pos a];left;exact⟨rfl,AU⟩
 .rw[if_neg a]
  by_cases b:31<=op/\op<=35
  .rw[if_pos b];right;right;exact⟨rfl,b⟩
  .rw[if_neg b,if_pos AU];right;left;exact⟨rfl,AU⟩
theorem Ak.cons {w:World}{d:Stil.B9}{r:List Stil.B9}(h:Ak w v (d::r)):∃b o cap,v=.slice (some ⟨b,o,none⟩) (r.length+1) cap/\b<w.heap.size/\∀i (hi:i<(d::r).length),Iz w b (o+i*3) (d::r)[i]:=by
 obtain⟨a,cap,j,c⟩:=h;obtain⟨b,o,rfl,f,_⟩:=c 0 AW;refine⟨b,o,cap,j,f,λi hi=>?_⟩;obtain⟨k,l,e,_,g⟩:=c i hi;simp only[EQ,Addr.mk.injEq,F3] at e;obtain⟨rfl,rfl⟩:=e;exact g
theorem yQ (op:Int)(v:Value)(ds:List Stil.B9)(w:World)(q:Ak w v ds)(m:∀d∈ds,d.fits)(hl:ds.length<=9223372036854775807):
  Calls prog 75 #[.agg #[.int .i64 op,v]] w λe w'=>e=.returned (.bool (Fz op ds))/\Below w.heap.size w w':=by
 by_cases h:op<21\/37<op\/(ds.length:Int)≠Stil.arity op
 .have e:Fz op ds=false:=by unfold Fz;rw[if_pos h]
  obtain⟨a,cap,rfl,_⟩:=q;rw[e];exact lH op a ds.length cap w h hl
 .have z:21<=op:=by omega
  have x:op<=37:=AU
  have c:(ds.length:Int)=Stil.arity op:=AU
  rcases nZ z x with⟨l,t⟩ | ⟨l,t⟩ | ⟨l,t⟩
  .match ds,q,m,h,c with
   | [],_,_,_,c=>rw[l] at c;simp at c
   | [d],q,m,h,c=>
    obtain⟨b,o,cap,rfl,k,hd⟩:=q.one;have i:=(m d AW).2.1;exact jn op b o cap d w z x l k hd i.1 i.2
   | d::f::r,_,_,_,c=>rw[l] at c;simp at c;omega
  .match ds,q,m,h,c with
   | [],_,_,_,c=>rw[l] at c;simp at c
   | [d],_,_,_,c=>rw[l] at c;simp at c
   | [d,f],q,m,h,c=>
    by_cases y:op=30
    .obtain⟨b,o,cap,u,k,hd⟩:=q.cons
     have e:Fz op [d,f]=FC op [d,f]:=by
      unfold Fz;rw[if_neg h];simp[y]
     rw[e,u];exact Zu op b o cap d [f] w AU (by rw[l];rfl) k hd m
    .obtain⟨b,o,cap,rfl,k,hd,s⟩:=q.two
     have i:=(m d AW).2.1;have j:=(m f AW).2.1;rcases t with rfl | rfl | rfl | rfl | rfl | rfl | rfl | rfl
     .have e:Fz 24 [d,f]=(Lh d.kind d.n d.p 2 3 && Lh f.kind f.n f.p 5 5):=by unfold Fz;rw[if_neg h];rfl
      rw[e];exact iC 24 b o cap d f w rfl k hd s i.1 i.2 j.1 j.2
     .have e:Fz 26 [d,f]=(Lh d.kind d.n d.p 7 7 && Lh f.kind f.n f.p 11 11 && decide (0<=f.n)):=by unfold Fz;rw[if_neg h];rfl
      rw[e];exact Tc 26 b o cap d f w AU k hd s i.1 i.2 j.1 j.2
     .have e:Fz 27 [d,f]=(Lh d.kind d.n d.p 7 7 && Lh f.kind f.n f.p 11 11 && decide (0<=f.n)):=by unfold Fz;rw[if_neg h];rfl
      rw[e];exact Tc 27 b o cap d f w AU k hd s i.1 i.2 j.1 j.2
     .have e:Fz 28 [d,f]=(Lh d.kind d.n d.p 7 7 && Lh f.kind f.n f.p 11 11 && decide (0<=f.n)):=by unfold Fz;rw[if_neg h];rfl
      rw[e];exact Tc 28 b o cap d f w AU k hd s i.1 i.2 j.1 j.2
     .have e:Fz 29 [d,f]=(Lh d.kind d.n d.p 8 8 && Lh f.kind f.n f.p 11 11 && decide (0<=f.n)):=by unfold Fz;rw[if_neg h];rfl
      rw[e];exact iF 29 b o cap d f w rfl k hd s i.1 i.2 j.1 j.2
     .exact absurd rfl y
     .have e:Fz 36 [d,f]=(Lh d.kind d.n d.p 10 10 && H7 f.kind f.n f.p):=by unfold Fz;rw[if_neg h];rfl
      rw[e];exact iv 36 b o cap d f w rfl k hd s i.1 i.2 j.1 j.2
     .have e:Fz 37 [d,f]=(Lh d.kind d.n d.p 9 9 && Iy f.kind f.n f.p):=by unfold Fz;rw[if_neg h];rfl
      rw[e];exact hH 37 b o cap d f w rfl k hd s i.1 i.2 j.1 j.2
   | d::f::g::r,_,_,_,c=>rw[l] at c;simp at c;omega
  .match ds,q,m,h,c with
   | [],_,_,_,c=>rw[l] at c;simp at c
   | [d],_,_,_,c=>rw[l] at c;simp at c
   | [d,f],_,_,_,c=>rw[l] at c;simp at c
   | d::f::g::r,q,m,h,c=>
    obtain⟨b,o,cap,u,k,hd⟩:=q.cons;have e:Fz op (d::f::g::r)=FC op (d::f::g::r):=by
     unfold Fz;rw[if_neg h]
    rw[e,u];exact Zu op b o cap d (f::g::r) w AU (by rw[<-c];simp) k hd m
