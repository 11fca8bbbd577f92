import Derived.Test.YtobbpffcggchmaaGreatDoorA00
import Derived.Lib.ItoaNum
import Derived.Test.YtobbpffcggchmaaGreatDoorCA6
import GoSem.Extern.Table
import Derived.Test.YtobbpffcggchmaaGreatDoorChecked
import Derived.WalkKit
import Derived.WalkSpells
import Derived.WalkLawsBesides
import Derived.Deep.QuietTactic
import Derived.BigQuiet
import Derived.Lib.QuietBelow
import Derived.Deep.Light
import Derived.Laws.BytesArg
import Derived.Deep.RegionHeld3
import Derived.KernelRfl
namespace Stil
variable {α β:Type}
structure Dev where
 kind:Int
 n:Int
 p:Int
def Ie (k:Int):Int:=
 if k=1\/k=2\/k=5\/k=9 then 32 else if k=3 then 64 else if k=4\/k=7\/k=8\/k=10 then 16 else if k=6 then 5 else 0
def Ha (k n p:Int):Bool:=
 if k=11 then decide (-32768<=n/\n<=32767/\p=0)
 else if k=12 then decide (-999999999<=n/\n<=999999999/\1<=p/\p<=6/\(p=1\/n.tmod 10≠0))
 else if k=13 then decide (0<=n/\n<=3/\p=0)
 else decide (0<=n/\n<Ie k/\p=0)
def Qm (k n p:Int):Bool:=Ha k n p && (decide (k<=4) || k==6 || k==7 || k==8)
def Ig (k n p:Int):Bool:=Ha k n p && (k==7 || k==8 || k==9 || k==11)
def Ji (k n p:Int):Bool:=Ha k n p && (k==10 || k==12 || k==13)
def letters:List UInt8:=[88,89,77,83,69,71,84,67,68,82]
def Ql (k:Int):ByteArray:=if 1<=k/\k<=10 then⟨#[letters.getD (k.toNat - 1) 0]⟩ else⟨#[]⟩
def arity (op:Int):Int:=
 if op=1\/op=2\/op=21\/op=22\/op=23\/op=25 then 1
 else if 31<=op/\op<=35 then 3
 else if(1<=op/\op<=10)\/(21<=op/\op<=37) then 2 else 0
def Dev.ok (d:Dev):Bool:=Ha d.kind d.n d.p
def Dev.isBit (d:Dev):Bool:=Qm d.kind d.n d.p
def Dev.isWhole (d:Dev):Bool:=Ig d.kind d.n d.p
def Dev.isReal (d:Dev):Bool:=Ji d.kind d.n d.p
def Ia (k n p a b:Int):Bool:=Ha k n p && (k==a || k==b)
def Dev.kindIs (d:Dev)(a b:Int):Bool:=Ia d.kind d.n d.p a b
def Dev.fits (d:Dev):Prop:=(-9223372036854775808<=d.kind/\d.kind<=9223372036854775807)/\(-9223372036854775808<=d.n/\d.n<=9223372036854775807)/\(-9223372036854775808<=d.p/\d.p<=9223372036854775807)
def Af (op:Int)(c:List Dev):Bool:=
 if op<1\/10<op then false
 else match c with
  | [a]=>decide (op<=2) && a.isBit
  | [a,b]=>
   if op<=2 then false
   else if op<=4 then a.isBit && b.ok && b.kind==5
   else a.isWhole && b.isWhole || a.isReal && b.isReal
  | _=>false
def I4 (whole:Bool)(l:List Dev):Bool:=if whole then l.all Dev.isWhole else l.all Dev.isReal
def Wi (op:Int):List Dev->Bool
 | []=>false
 | d::r=>d.kindIs 9 10 && I4 (d.kind==9) r && (d.kind==9 || op !=35)
def Ar (op:Int)(c:List Dev):Bool:=
 if op<21\/37<op\/(c.length:Int)≠arity op then false
 else match c with
  | [a]=>if op=21 then a.kindIs 2 3 else if op=22 then a.kindIs 2 3 || a.kindIs 4 4 else if op=23 then a.kindIs 2 3 || a.kindIs 4 7 || a.kindIs 8 8 else a.kindIs 4 4
  | [a,b]=>
   if op=24 then a.kindIs 2 3 && b.kindIs 5 5
   else if op=26\/op=27\/op=28 then a.kindIs 7 7 && b.kindIs 11 11 && decide (0<=b.n)
   else if op=29 then a.kindIs 8 8 && b.kindIs 11 11 && decide (0<=b.n)
   else if op=36 then a.kindIs 10 10 && b.isWhole
   else if op=37 then a.kindIs 9 9 && b.isReal
   else Wi op c
  | _=>Wi op c
structure Elem where
 op:Int
 args:List Dev
structure Net where
 kind:Int
 one:Elem
 kids:List Net
structure Arm where
 net:Net
 coils:List Elem
 kids:List Arm
theorem Et (P:Net->Prop)(h:∀k o kids,(∀x∈kids,P x)->P ⟨k,o,kids⟩):∀n,P n
 | ⟨k,o,kids⟩=>h k o kids (λx _=>Et P h x)
theorem I9 (P:Arm->Prop)(h:∀n c kids,(∀x∈kids,P x)->P ⟨n,c,kids⟩):∀n,P n
 | ⟨k,o,kids⟩=>h k o kids (λx _=>I9 P h x)
def Aj:Net->Nat
 | ⟨_,_,kids⟩=>1+(kids.map Aj).sum
theorem Oa (k:Int)(o:Elem)(kids:List Net):Aj ⟨k,o,kids⟩=1+(kids.map Aj).sum:=by rw[Aj]
def Bl (n:Net):Bool:=n.kind==0 && n.one.op==0 && n.one.args.length==0 && n.kids.length==0
def Ed:Arm->Nat
 | ⟨n,a,kids⟩=>1+a.length+(if Bl n then 0 else Aj n)+(kids.map Ed).sum
theorem Abu (n:Net)(a:List Elem)(kids:List Arm):Ed ⟨n,a,kids⟩=1+a.length+(if Bl n then 0 else Aj n)+(kids.map Ed).sum:=by rw[Ed]
def Ce (l:List Arm):Nat:=(l.map Ed).sum
def i64 (n:Int):Prop:=-9223372036854775808<=n/\n<=9223372036854775807
def Elem.fits (e:Elem):Prop:=i64 e.op/\e.args.length<=1048576/\∀d∈e.args,d.fits
theorem all_map (f:α->Prop)(l:List α):(∀p∈l.map f,p)↔∀x∈l,f x:=by
 constructor
 ·intro h x a;exact h _ (List.mem_map.2 ⟨x,a,rfl⟩)
 ·intro h p b;obtain⟨x,a,rfl⟩:=List.mem_map.1 b;exact h x a
def Cj:Net->Prop
 | ⟨k,e,kids⟩=>i64 k/\e.fits/\kids.length<=1048576/\∀p∈kids.map Cj,p
theorem Gt (k:Int)(e:Elem)(kids:List Net):Cj ⟨k,e,kids⟩↔i64 k/\e.fits/\kids.length<=1048576/\∀x∈kids,Cj x:=by rw[Cj,all_map]
def D7:Arm->Prop
 | ⟨n,a,kids⟩=>Cj n/\a.length<=1048576/\(∀c∈a,c.fits)/\kids.length<=1048576/\∀p∈kids.map D7,p
theorem Gh (n:Net)(a:List Elem)(kids:List Arm):D7 ⟨n,a,kids⟩↔Cj n/\a.length<=1048576/\(∀c∈a,c.fits)/\kids.length<=1048576/\∀x∈kids,D7 x:=by rw[D7,all_map]
theorem Es {n:Net}(h:Cj n):i64 n.kind/\n.one.fits/\n.kids.length<=1048576/\∀x∈n.kids,Cj x:=by obtain⟨_,_,_⟩:=n;exact(Gt _ _ _).1 h
theorem H5 {n:Arm}(h:D7 n):Cj n.net/\n.coils.length<=1048576/\(∀c∈n.coils,c.fits)/\n.kids.length<=1048576/\∀x∈n.kids,D7 x:=by obtain⟨_,_,_⟩:=n;exact(Gh _ _ _).1 h
def Xb:Net->Nat
 | ⟨_,e,kids⟩=>e.args.length+(kids.length+(kids.map Xb).sum)
theorem Vf (k:Int)(e:Elem)(kids:List Net):Xb ⟨k,e,kids⟩=e.args.length+(kids.length+(kids.map Xb).sum):=by rw[Xb]
def A4c (e:Elem):Nat:=e.args.length
theorem Hr (f:α->Nat):∀(l:List α) (x:α),x∈l->f x<=(l.map f).sum
 | y::r,x,h=>by
  rw[A9l,Bac];rcases List.mem_cons.1 h with rfl | h
  ·omega
  ·have:=Hr f r x h;omega
def Elem.wf (e:Elem):Prop:=i64 e.op/\e.args.length<=9223372036854775807/\∀d∈e.args,d.fits
def Asy:Net->Prop
 | ⟨k,e,kids⟩=>i64 k/\e.wf/\kids.length<=9223372036854775807/\∀p∈kids.map Asy,p
theorem Aq1 (k:Int)(e:Elem)(kids:List Net):Asy ⟨k,e,kids⟩↔i64 k/\e.wf/\kids.length<=9223372036854775807/\∀x∈kids,Asy x:=by rw[Asy,all_map]
theorem Ao8 {e:Elem}(h:e.wf)(a:A4c e<=1048576):e.fits:=⟨h.1,a,h.2.2⟩
theorem As5 (n:Net):Asy n->Xb n<=1048576->Cj n:=by
 induction n using Et with
 | h k e kids d=>
  intro h c;obtain⟨f,g,i,b⟩:=(Aq1 _ _ _).1 h;rw[Vf] at c;refine(Gt _ _ _).2 ⟨f,Ao8 g (by unfold A4c;omega),omz,λx a=>d x a (b x a) ?_⟩;have:=Hr Xb kids x a
  omega
theorem Asz (n:Net):Aj n<=1+Xb n:=by
 induction n using Et with
 | h k e kids a=>
  rw[Oa,Vf];have:∀l:List Net,(∀x∈l,Aj x<=1+Xb x)->(l.map Aj).sum<=l.length+(l.map Xb).sum:=by
   intro l;induction l with
   | nil=>intro _;simp
   | cons y r b=>
    intro h;have c:=h y spz;have d:=b (λx hx=>h x yBj);simp only[A9l,Bac,A84];omega
  have:=this kids a
  omega
def Bv:List Int->Int
 | []=>0
 | c::r=>if 0<c then c else Bv r
def Xn (k op:Int)(b a:Nat):Bool:=decide (k<2) || decide (4<k) || op !=0 || decide ((0:Int)<(b:Int)) || (a:Int)==0 || (k==4 && (a:Int) !=1)
def Bc:Net->Int
 | ⟨k,e,kids⟩=>
  if k=1 then(if 0<kids.length then 2 else if Af e.op e.args then 0 else 3)
  else if Xn k e.op e.args.length kids.length then 2 else Bv (kids.map Bc)
theorem Jo (k:Int)(e:Elem)(kids:List Net):Bc ⟨k,e,kids⟩=if k=1 then(if 0<kids.length then 2 else if Af e.op e.args then 0 else 3)
  else if Xn k e.op e.args.length kids.length then 2 else Bv (kids.map Bc):=by rw[Bc]
theorem Yn (l:List Int)(h:∀x∈l,0<=x/\x<=5):0<=Bv l/\Bv l<=5:=by
 induction l with
 | nil=>simp[Bv]
 | cons x r a=>
  unfold Bv;split
  ·have:=h x spz;omega
  ·exact a (λy hy=>h y yCg)
theorem Nh (n:Net):0<=Bc n/\Bc n<=5:=by
 induction n using Et with
 | h k e kids a=>
  rw[Jo];split
  ·split
   ·omega
   ·split<;>omega
  ·split
   ·omega
   ·exact Yn _ (λx c=>by obtain⟨y,b,rfl⟩:=List.mem_map.1 c;exact a y b)
def Aaa:Net->List Net
 | ⟨k,e,kids⟩=>⟨k,e,kids⟩::(kids.map Aaa).flatten
theorem Aeo (n:Net):Aaa n=n::(n.kids.map Aaa).flatten:=by obtain⟨k,e,kids⟩:=n;rw[Aaa]
def Ef (l:List Net):List Net:=(l.map Aaa).flatten
def Yt:Arm->List Arm
 | ⟨n,c,kids⟩=>⟨n,c,kids⟩::(kids.map Yt).flatten
theorem Rz (n:Arm):Yt n=n::(n.kids.map Yt).flatten:=by obtain⟨k,e,kids⟩:=n;rw[Yt]
def Dz (l:List Arm):List Arm:=(l.map Yt).flatten
def Qr (a:Arm):Nat:=1+a.coils.length+(if Bl a.net then 0 else Aj a.net)
theorem Ae3 (f:α->List β):∀l:List α,((l.map f).flatten).length=(l.map (λx=>(f x).length)).sum
 | []=>rfl
 | x::r=>by simp[Ae3 f r]
theorem Uk {f g:α->β}{l:List α}(h:∀x∈l,f x=g x):l.map f=l.map g:=Bbo h
theorem As0 (n:Net):(Aaa n).length=Aj n:=by
 induction n using Et with
 | h k e kids a=>
  rw[Aeo,Oa,A84,Ae3,Uk a];omega
theorem Y5 (f:α->List β)(g:β->Nat):∀l:List α,(((l.map f).flatten).map g).sum=(l.map (λx=>((f x).map g).sum)).sum
 | []=>rfl
 | x::r=>by rw[A9l,Bag,A9h,Bbb,Y5 f g r,A9l,Bac]
theorem Au5 (n:Arm):((Yt n).map Qr).sum=Ed n:=by
 induction n using I9 with
 | h n c kids a=>
  rw[Rz,Abu,A9l,Bac,Y5,Uk a];simp only[Qr]
theorem Apu (l:List Arm):((Dz l).map Qr).sum=Ce l:=by
 unfold Dz Ce;rw[Y5,Uk (λx _=>Au5 x)]
theorem Aen (n:Net):Ef [n]=Aaa n:=by simp[Ef]
theorem Ti (l:List Net)(j:Nat)(h:j<l.length):Ef (l.take (j+1))=Ef (l.take j)++(l[j]::Ef l[j].kids):=by
 unfold Ef;rw[A9m h,A9h,Bbg];simp only[A9l,A97,Bag,Bci,Bbz];rw[Aeo l[j]]
theorem Tt (l:List Arm)(j:Nat)(h:j<l.length):Dz (l.take (j+1))=Dz (l.take j)++(l[j]::Dz l[j].kids):=by
 unfold Dz;rw[A9m h,A9h,Bbg];simp only[A9l,A97,Bag,Bci,Bbz];rw[Rz l[j]]
theorem Yz (l:List Net)(j:Nat):Ef (l.take j)<+:Ef l:=by
 have h:Ef l=Ef (l.take j)++Ef (l.drop j):=by
  unfold Ef;rw[<-Bbg,<-A9h,Bbu]
 rw[h];exact List.prefix_append _ _
theorem Zb (l:List Arm)(j:Nat):Dz (l.take j)<+:Dz l:=by
 have h:Dz l=Dz (l.take j)++Dz (l.drop j):=by
  unfold Dz;rw[<-Bbg,<-A9h,Bbu]
 rw[h];exact List.prefix_append _ _
theorem Asf (g:α->Nat){a b:List α}(h:a<+:b):(a.map g).sum<=(b.map g).sum:=by
 obtain⟨c,rfl⟩:=h;rw[A9h,Bbb];omega
theorem Apx (n:Arm):∀x∈Yt n,∀y∈x.kids,y∈Yt n:=by
 induction n using I9 with
 | h n c kids f=>
  intro x a y d;rw[Rz] at a ⊢;rcases List.mem_cons.1 a with rfl | a
  ·exact List.mem_cons.2 (.inr (List.mem_flatten.2 ⟨_,List.mem_map.2 ⟨y,d,rfl⟩,by rw[Rz];exact List.mem_cons.2 (.inl rfl)⟩))
  ·obtain⟨l,b,g⟩:=List.mem_flatten.1 a
   obtain⟨z,e,rfl⟩:=List.mem_map.1 b;exact List.mem_cons.2 (.inr (List.mem_flatten.2 ⟨_,b,f z e x g y d⟩))
theorem Am6 (l:List Arm):∀x∈Dz l,∀y∈x.kids,y∈Dz l:=by
 intro x d y c;obtain⟨m,a,b⟩:=List.mem_flatten.1 d;obtain⟨z,e,rfl⟩:=List.mem_map.1 a;exact List.mem_flatten.2 ⟨_,a,Apx z x b y c⟩
theorem Apv (l:List Arm):∀x∈l,x∈Dz l:=by
 intro x a;exact List.mem_flatten.2 ⟨_,List.mem_map.2 ⟨x,a,rfl⟩,by rw[Rz];exact List.mem_cons.2 (.inl rfl)⟩
theorem Apy (n:Arm):D7 n->∀x∈Yt n,D7 x:=by
 induction n using I9 with
 | h n c kids f=>
  intro b x a;rw[Rz] at a;rcases List.mem_cons.1 a with rfl | a
  ·exact b
  ·obtain⟨l,e,g⟩:=List.mem_flatten.1 a
   obtain⟨z,d,rfl⟩:=List.mem_map.1 e;exact f z d (((H5 b).2.2.2.2) z d) x g
theorem Acl (l:List Arm)(a:∀x∈l,D7 x):∀x∈Dz l,D7 x:=by
 intro x e;obtain⟨m,d,b⟩:=List.mem_flatten.1 e;obtain⟨z,c,rfl⟩:=List.mem_map.1 d;exact Apy z (a z c) x b
theorem As9 (g:α->Nat){l:List α}{x:α}(h:x∈l):g x<=(l.map g).sum:=Hr g l x h
theorem Rw (a b:List Int):Bv (a++b)=if 0<Bv a then Bv a else Bv b:=by
 induction a with
 | nil=>simp[Bv]
 | cons x r c=>
  rw[A9t,Bv,Bv,c];by_cases h:0<x
  ·simp[h]
  ·simp[h]
theorem V6 (f:α->List β)(g:β->Int)(l:List α):Bv (((l.map f).flatten).map g)=Bv (l.map (λx=>Bv ((f x).map g))):=by
 induction l with
 | nil=>rfl
 | cons x r a=>
  rw[A9l,Bag,A9h,Rw,a,A9l,Bv]
def Y3 (n:Net):Bool:=
 if n.kind=1 then decide (n.kids.length=0)
 else if n.kind=2\/n.kind=3 then(n.one.op==0 && n.one.args.length==0) && decide (0<n.kids.length)
 else if n.kind=4 then(n.one.op==0 && n.one.args.length==0) && decide (n.kids.length=1)
 else false
def Ew (n:Net):Int:=if Y3 n then(if n.kind=1 then(if Af n.one.op n.one.args then 0 else 3) else 0) else 2
theorem Alh (n:Net):Bv ((Aaa n).map Ew)=Bc n:=by
 induction n using Et with
 | h k e kids u=>
  have m:Bv ((Aaa ⟨k,e,kids⟩).map Ew)=if 0<Ew ⟨k,e,kids⟩ then Ew ⟨k,e,kids⟩ else Bv (kids.map Bc):=by
   rw[Aeo,A9l,Bv,V6,Uk u]
  rw[m,Jo];unfold Ew Y3;simp only;by_cases f:k=1
  ·subst f
   by_cases t:0<kids.length
   ·have l:¬kids.length=0:=by omega
    simp only[if_true,l,decide_false,t];simp
   ·have l:kids.length=0:=by omega
    have i:=List.eq_nil_of_length_eq_zero l;subst i;cases Af e.op e.args<;>simp[Bv]
  ·rw[if_neg f,if_neg f,if_neg f]
   unfold Xn;obtain⟨q,v⟩:∃q,q=Bv (kids.map Bc):=⟨_,rfl⟩
   rw[<-v];generalize kids.length=lk;generalize e.args.length=la;generalize e.op=op;have c:k<2\/(k=2\/k=3)\/k=4\/4<k:=omz
   rcases c with c | c | rfl | c
   ·have g:¬(k=2\/k=3):=by omega
    have j:¬k=4:=omz
    simp[c,g,j]
   ·rw[if_pos c]
    have i:(k==4)=false:=by rw[A95];omega
    have o:decide (k<2)=false:=by rw[Baq];omega
    have r:decide (4<k)=false:=by rw[Baq];omega
    rw[i,o,r];by_cases a:op=0
    ·by_cases b:la=0
     ·by_cases d:lk=0
      ·simp[a,b,d]
      ·have:0<lk:=by omega
       simp[a,b,this,d]
     ·have:0<la:=by omega
      simp[a,b,this]
    ·simp[a]
   ·by_cases a:op=0
    ·by_cases b:la=0
     ·by_cases d:lk=1
      ·simp[a,b,d]
      ·have s:¬(lk:Int)=1:=by omega
       simp[a,b,d,s]
     ·have:0<la:=by omega
      simp[a,b,this]
    ·simp[a]
   ·have g:¬(k=2\/k=3):=by omega
    have j:¬k=4:=omz
    simp[c,g,j]
def Fb (l:List Elem):Bool:=l.any (λc=>!Ar c.op c.args)
def Cm (a:Arm):Int:=
 if Bl a.net=false/\0<Bc a.net then Bc a.net
 else if Fb a.coils then 3
 else if a.coils.length=0/\a.kids.length=0 then 5 else 0
def Fv:Arm->Int
 | ⟨n,a,kids⟩=>if 0<Cm ⟨n,a,kids⟩ then Cm ⟨n,a,kids⟩ else Bv (kids.map Fv)
theorem Zc (a:Arm):Fv a=if 0<Cm a then Cm a else Bv (a.kids.map Fv):=by obtain⟨n,c,kids⟩:=a;rw[Fv]
theorem Acm (a:Arm):Bv ((Yt a).map Cm)=Fv a:=by
 induction a using I9 with
 | h n c kids b=>
  rw[Rz,A9l,Bv,V6,Uk b,Zc]
theorem Pn (a:Arm):0<=Cm a/\Cm a<=5:=by
 unfold Cm;have:=Nh a.net
 split
 ·omega
 ·split
  ·omega
  ·split<;>omega
theorem Uc (a:Arm):0<=Fv a/\Fv a<=5:=by
 rw[<-Acm];exact Yn _ (λx b=>by obtain⟨y,c,rfl⟩:=List.mem_map.1 b;exact Pn y)
def F9 (a:Arm):Int:=if Bl a.net then 4 else Fv a
def Gf:List Arm->Nat->Int × Nat
 | [],_=>(0,0)
 | a::r,k=>if 0<F9 a then(F9 a,k) else Gf r (k+1)
def Dc (l:List Arm):Int × Nat:=if 40<l.length\/400<Ce l then(1,0) else Gf l 0
theorem Agj (l:List Arm)(j:Nat)(h:j<l.length):Gf (l.drop j) j=if 0<F9 l[j] then(F9 l[j],j) else Gf (l.drop (j+1)) (j+1):=by
 rw[Bas h,Gf]
theorem Ad5 (a:Arm):0<=F9 a/\F9 a<=5:=by
 unfold F9;split
 ·omega
 ·exact Uc a
theorem Aao (l:List Elem)(j:Nat)(h:j<l.length):Fb (l.drop j)=(!Ar l[j].op l[j].args || Fb (l.drop (j+1))):=by
 rw[Bas h];rfl
def A5x (x d:Dev):Bool:=x.kind==d.kind && x.n==d.n && x.p==d.p
def Vo (d:Dev)(l:List Dev):Nat:=(l.map (λx=>if A5x x d then 1 else 0)).sum
def Qa (d:Dev)(e:Elem):Nat:=Vo d e.args
def Hm (d:Dev):Net->Nat
 | ⟨_,e,kids⟩=>Qa d e+(kids.map (Hm d)).sum
theorem N9 (d:Dev)(n:Net):Hm d n=Qa d n.one+(n.kids.map (Hm d)).sum:=by obtain⟨k,e,kids⟩:=n;rw[Hm]
def Aan (d:Dev)(l:List Elem):Nat:=(l.map (Qa d)).sum
def Pi (d:Dev):Arm->Nat
 | ⟨n,a,kids⟩=>Hm d n+Aan d a+(kids.map (Pi d)).sum
theorem Rj (d:Dev)(a:Arm):Pi d a=Hm d a.net+Aan d a.coils+(a.kids.map (Pi d)).sum:=by obtain⟨k,e,kids⟩:=a;rw[Pi]
def U4 (d:Dev)(l:List Arm):Nat:=(l.map (Pi d)).sum
theorem Agw (f:α->Nat)(a:∀x,f x<=1):∀l:List α,(l.map f).sum<=l.length
 | []=>by simp
 | x::r=>by
  have:=Agw f a r
  have:=a x
  simp only[A9l,Bac,A84];omega
theorem Ae5 (d:Dev)(l:List Dev):Vo d l<=l.length:=Agw _ (λx=>by split<;>omega) l
theorem Aqe (f g:α->Nat):∀l:List α,(∀x∈l,f x<=g x)->(l.map f).sum<=(l.map g).sum
 | [],_=>by simp
 | x::r,h=>by
  have:=Aqe f g r (λy hy=>h y yCg)
  have:=h x spz
  simp only[A9l,Bac];omega
end Stil
namespace Go.Co
section
variable {P : Program}
open Go.Extern.Rtype in
@[simp] theorem Afu (h:Value):Calm P (Go.Extern.Rtype.ofHandle h:Sem TypeId):=by
 unfold Go.Extern.Rtype.ofHandle;exact cmB
open Go.Extern.Rtype in
@[simp] theorem Ah4 (t:TypeId):Calm P (Go.Extern.Rtype.handle t:Sem Value):=by
 unfold Go.Extern.Rtype.handle;exact cmB
open Go.Extern.Rtype in
@[simp] theorem Ah3 (what:String)(t:TypeId):Calm P (Go.Extern.Rtype.noPack what t:Sem Unit):=by
 unfold Go.Extern.Rtype.noPack;exact cmB
open Go.Extern.Rtype in
@[simp] theorem Ada (what:String)(t:TypeId):Calm P (Go.Extern.Rtype.noPackHeld what t:Sem Unit):=by
 unfold Go.Extern.Rtype.noPackHeld;exact cmB
open Go.Extern.Rtype in
@[simp] theorem Ac1 (what:String)(t:TypeId):Calm P (Go.Extern.Rtype.noPackNamed what t:Sem Unit):=by
 unfold Go.Extern.Rtype.noPackNamed;exact cmB
open Go.Extern.Rtype in
@[simp] theorem Abs (what:String)(t:TypeId):Calm P (Go.Extern.Rtype.noPackMethods what t:Sem Unit):=by
 unfold Go.Extern.Rtype.noPackMethods;exact cmB
open Go.Extern.Rtype in
@[simp] theorem Ajv (t:TypeId):Calm P (Go.Extern.Rtype.spelt t:Sem String):=by
 unfold Go.Extern.Rtype.spelt;exact cmB
open Go.Extern.Rtype in
@[simp] theorem Aju (t:TypeId):Calm P (Go.Extern.Rtype.under t:Sem (TypeId × TypeInfo)):=by
 unfold Go.Extern.Rtype.under;exact cmB
open Go.Extern.Rtype in
@[simp] theorem Ake (t:TypeId):Calm P (Go.Extern.Rtype.kind t:Sem Nat):=by
 unfold Go.Extern.Rtype.kind;exact cmB
open Go.Extern.Rtype in
@[simp] theorem Agq (t:TypeId):Calm P (Go.Extern.Rtype.hasName t:Sem Bool):=by
 unfold Go.Extern.Rtype.hasName;exact cmB
open Go.Extern.Rtype in
@[simp] theorem Ajw (t:TypeId):Calm P (Go.Extern.Rtype.elem? t:Sem (Option TypeId)):=by
 unfold Go.Extern.Rtype.elem?;exact cmB
open Go.Extern.Rtype in
@[simp] theorem Adb (T:TypeId)(V:TypeId):Calm P (Go.Extern.Rtype.implements T V:Sem Bool):=by
 unfold Go.Extern.Rtype.implements;exact cmB
open Go.Extern.Rtype in
@[simp] theorem Yr (T:TypeId)(V:TypeId):Calm P (Go.Extern.Rtype.directlyAssignable T V:Sem Bool):=by
 unfold Go.Extern.Rtype.directlyAssignable;exact cmB
open Go.Extern.ReflectliteType in
@[simp] theorem Zo (t:TypeId):Calm P (Go.Extern.ReflectliteType.toType t:Sem Value):=by
 unfold Go.Extern.ReflectliteType.toType;exact cmB
open Go.Extern.ReflectliteType in
@[simp] theorem Y8 (a:Value):Calm P (Go.Extern.ReflectliteType.ofRtype a):=by
 unfold Go.Extern.ReflectliteType.ofRtype;cases a
 case agg b=>
  (rcases b with⟨_ | ⟨d,_ | ⟨c,_⟩⟩⟩)
  all_goals
  repeat' first
   | exact Ak
   | exact Or.inl rfl
   | assumption
   | (simp;done)
   | refine Calm.bind ?_ (λ_=>?_)
   | dsimp only
   | refine Calm.map ?_
   | split
   | intro _
 all_goals
  exact cmC
open Go.Extern.ReflectliteType in
@[simp] theorem Zn (a:Array Value):Calm P (Go.Extern.ReflectliteType.typeOf a):=by
 unfold Go.Extern.ReflectliteType.typeOf;rcases a with⟨_ | ⟨b,_ | ⟨c,_ | ⟨d,l⟩⟩⟩⟩
 case cons.nil=>cases b<;>(repeat' first
   | exact Ak
   | exact Or.inl rfl
   | assumption
   | (simp;done)
   | refine Calm.bind ?_ (λ_=>?_)
   | dsimp only
   | refine Calm.map ?_
   | split
   | intro _)
 all_goals
  exact cmC
open Go.Extern.ReflectliteType in
theorem Oj {f:TypeId->Sem Value}(h1:∀t,Calm P (f t))(a:Array Value):Calm P (Go.Extern.ReflectliteType.method f a):=by
 unfold Go.Extern.ReflectliteType.method;rcases a with⟨_ | ⟨b,_ | ⟨c,_ | ⟨d,l⟩⟩⟩⟩
 all_goals
  repeat' first
   | exact Ak
   | exact Or.inl rfl
   | assumption
   | (simp;done)
   | exact h1 _
   | refine Calm.bind ?_ (λ_=>?_)
   | dsimp only
   | refine Calm.map ?_
   | split
   | intro _
@[simp] theorem Aa2 (t:TypeId):Calm P (Go.Extern.ReflectliteType.elem t):=by
 unfold Go.Extern.ReflectliteType.elem;exact cmG
open Go.Extern.ReflectliteType in
@[simp] theorem Aa1 (t:TypeId):Calm P (Go.Extern.ReflectliteType.name t:Sem Value):=by
 unfold Go.Extern.ReflectliteType.name;exact cmB
open Go.Extern.ReflectliteType in
@[simp] theorem Y7 (t:TypeId):Calm P (Go.Extern.ReflectliteType.pkgPath t:Sem Value):=by
 unfold Go.Extern.ReflectliteType.pkgPath;exact cmB
open Go.Extern.ReflectliteType in
theorem Np (what:String){f:TypeId->TypeId->Sem Bool}(c:∀t u,Calm P (f t u))(a:Array Value):Calm P (Go.Extern.ReflectliteType.relation what f a):=by
 unfold Go.Extern.ReflectliteType.relation;rcases a with⟨_ | ⟨d,_ | ⟨b,_ | ⟨e,l⟩⟩⟩⟩
 case cons.cons.nil=>cases b<;>(repeat' first
   | exact Ak
   | exact Or.inl rfl
   | assumption
   | (simp;done)
   | exact c _ _
   | refine Calm.bind ?_ (λ_=>?_)
   | dsimp only
   | refine Calm.map ?_
   | split
   | intro _)
 all_goals
  exact cmC
open Go.Extern.ReflectliteType in
@[simp] theorem X9 (u:TypeId)(t:TypeId):Calm P (Go.Extern.ReflectliteType.implements_ u t:Sem Bool):=by
 unfold Go.Extern.ReflectliteType.implements_;exact cmB
open Go.Extern.ReflectliteType in
@[simp] theorem Wn (u:TypeId)(t:TypeId):Calm P (Go.Extern.ReflectliteType.assignableTo u t:Sem Bool):=by
 unfold Go.Extern.ReflectliteType.assignableTo;exact cmB
open Go.Extern.ReflectliteType in
theorem Me {f:TypeId->Sem Value}(h1:∀t,Calm P (f t))(a:Array Value):Calm P (Go.Extern.ReflectliteType.abiMethod f a):=by
 unfold Go.Extern.ReflectliteType.abiMethod;rcases a with⟨_ | ⟨b,_ | ⟨c,_ | ⟨d,l⟩⟩⟩⟩
 all_goals
  repeat' first
   | exact Ak
   | exact Or.inl rfl
   | assumption
   | (simp;done)
   | exact h1 _
   | refine Calm.bind ?_ (λ_=>?_)
   | dsimp only
   | refine Calm.map ?_
   | split
   | intro _
open Go.Extern.ReflectliteValue in
@[simp] theorem Abt (t:TypeId)(a:Addr)(flags:Nat):Calm P (Go.Extern.ReflectliteValue.mk t a flags:Sem Value):=by
 unfold Go.Extern.ReflectliteValue.mk;exact cmB
open Go.Extern.ReflectliteValue in
@[simp] theorem Y6 (a:Value):Calm P (Go.Extern.ReflectliteValue.unpack a:Sem Value):=by
 unfold Go.Extern.ReflectliteValue.unpack;exact cmB
open Go.Extern.ReflectliteValue in
@[simp] theorem Xm {α:Type}(method:String)(k:Nat):Calm P (Go.Extern.ReflectliteValue.valueError method k:Sem α):=by
 unfold Go.Extern.ReflectliteValue.valueError;exact cmB
open Go.Extern.ReflectliteValue in
@[simp] theorem Yc (b:Value):Calm P (Go.Extern.ReflectliteValue.partsAny b):=by
 unfold Go.Extern.ReflectliteValue.partsAny;cases b
 case agg f=>
  rcases f with⟨_ | ⟨j,_ | ⟨g,_ | ⟨c,_ | ⟨i,l⟩⟩⟩⟩⟩
  case cons.cons.cons.nil=>
   cases c<;>first | exact Or.inl rfl | skip
   rename_i e a;cases e<;>first | exact Or.inl rfl | skip
   rcases a with(_ | a) | a
   ·exact Ak
   all_goals
    cases g<;>first | exact Or.inl rfl | skip
    rename_i d;cases d<;>first | exact Or.inl rfl | (exact Calm.bind spz λ_=>Ak)
  all_goals
  repeat' first
   | exact Ak
   | exact Or.inl rfl
   | assumption
   | (simp;done)
   | refine Calm.bind ?_ (λ_=>?_)
   | dsimp only
   | refine Calm.map ?_
   | split
   | intro _
 all_goals
  exact cmC
open Go.Extern.ReflectliteValue in
@[simp] theorem Zl (x:Value):Calm P (Go.Extern.ReflectliteValue.parts x:Sem (Option (TypeId × Addr × Nat))):=by
 unfold Go.Extern.ReflectliteValue.parts;exact cmB
open Go.Extern.ReflectliteValue in
theorem Nv {zero:Sem Value}{f:TypeId->Addr->Nat->Nat->Sem Value}(h:Calm P zero)(c:∀t a x y,Calm P (f t a x y))(b:Array Value):Calm P (Go.Extern.ReflectliteValue.method zero f b):=by
 unfold Go.Extern.ReflectliteValue.method;rcases b with⟨_ | ⟨d,_ | ⟨e,_ | ⟨g,l⟩⟩⟩⟩
 all_goals
  repeat' first
   | exact Ak
   | exact Or.inl rfl
   | assumption
   | (simp;done)
   | exact c _ _ _ _
   | refine Calm.bind ?_ (λ_=>?_)
   | dsimp only
   | refine Calm.map ?_
   | split
   | intro _
open Go.Extern.ReflectliteValue in
theorem L8 {zero:Sem Value}{f:TypeId->Addr->Nat->Nat->Sem Value}(h:Calm P zero)(c:∀t a x y,Calm P (f t a x y))(b:Array Value):Calm P (Go.Extern.ReflectliteValue.methodAny zero f b):=by
 unfold Go.Extern.ReflectliteValue.methodAny;rcases b with⟨_ | ⟨d,_ | ⟨e,_ | ⟨g,l⟩⟩⟩⟩
 all_goals
  repeat' first
   | exact Ak
   | exact Or.inl rfl
   | assumption
   | (simp;done)
   | exact c _ _ _ _
   | refine Calm.bind ?_ (λ_=>?_)
   | dsimp only
   | refine Calm.map ?_
   | split
   | intro _
open Go.Extern.ReflectliteValue in
@[simp] theorem Zm (t:TypeId)(a:Addr)(x k:Nat):Calm P (Go.Extern.ReflectliteValue.isNil t a x k):=by
 unfold Go.Extern.ReflectliteValue.isNil;exact cmG
open Go.Extern.ReflectliteValue in
@[simp] theorem Aa0 (t:TypeId)(a:Addr)(x k:Nat):Calm P (Go.Extern.ReflectliteValue.len t a x k):=by
 unfold Go.Extern.ReflectliteValue.len;exact cmG
@[simp] theorem Aar (t:TypeId)(a:Addr)(x k:Nat):Calm P (Go.Extern.ReflectliteValue.elem t a x k):=by
 unfold Go.Extern.ReflectliteValue.elem;exact cmG
open Go.Extern.ReflectliteValue in
@[simp] theorem Aaz (a:Array Value):Calm P (Go.Extern.ReflectliteValue.set a):=by
 unfold Go.Extern.ReflectliteValue.set;rcases a with⟨_ | ⟨b,_ | ⟨c,_ | ⟨d,l⟩⟩⟩⟩
 all_goals
  exact cmC
open Go.Extern.ReflectliteValue in
@[simp] theorem X8 (a:Array Value):Calm P (Go.Extern.ReflectliteValue.errorText a):=by
 unfold Go.Extern.ReflectliteValue.errorText;rcases a with⟨_ | ⟨b,_ | ⟨c,_ | ⟨d,l⟩⟩⟩⟩
 case cons.nil=>
  cases b
  case pointer o=>cases o<;>(repeat' first
   | exact Ak
   | exact Or.inl rfl
   | assumption
   | (simp;done)
   | refine Calm.bind ?_ (λ_=>?_)
   | dsimp only
   | refine Calm.map ?_
   | split
   | intro _)
  all_goals
  repeat' first
   | exact Ak
   | exact Or.inl rfl
   | assumption
   | (simp;done)
   | refine Calm.bind ?_ (λ_=>?_)
   | dsimp only
   | refine Calm.map ?_
   | split
   | intro _
 all_goals
  exact cmC
open Go.Extern.AbiNoEscape in
@[simp] theorem Adc (a:Array Value):Calm P (Go.Extern.AbiNoEscape.same a):=by
 unfold Go.Extern.AbiNoEscape.same;rcases a with⟨_ | ⟨b,_ | ⟨c,_ | ⟨d,l⟩⟩⟩⟩
 all_goals
  exact cmC
open Go.Extern.BytealgMakeNoZero in
@[simp] theorem Wp (c rs:Array TypeId)(a:Array Value):Calm P (Go.Extern.BytealgMakeNoZero.makeNoZero c rs a):=by
 unfold Go.Extern.BytealgMakeNoZero.makeNoZero;rcases a with⟨_ | ⟨b,_ | ⟨d,_ | ⟨e,l⟩⟩⟩⟩
 case cons.nil=>
  cases b
  case int k n=>cases k<;>(repeat' first
   | exact Ak
   | exact Or.inl rfl
   | assumption
   | (simp;done)
   | refine Calm.bind ?_ (λ_=>?_)
   | dsimp only
   | refine Calm.map ?_
   | split
   | intro _)
  all_goals
  repeat' first
   | exact Ak
   | exact Or.inl rfl
   | assumption
   | (simp;done)
   | refine Calm.bind ?_ (λ_=>?_)
   | dsimp only
   | refine Calm.map ?_
   | split
   | intro _
 all_goals
  exact cmC
open Go.Extern.RuntimeError in
@[simp] theorem Ac0 (s:String):Calm P (Go.Extern.RuntimeError.text s:Sem Value):=by
 unfold Go.Extern.RuntimeError.text;exact cmB
open Go.Extern.RuntimeError in
@[simp] theorem Yq (c:Array Value):Calm P (Go.Extern.RuntimeError.boundsError c):=by
 unfold Go.Extern.RuntimeError.boundsError;rcases c with⟨_ | ⟨e,_ | ⟨q,_ | ⟨n,l⟩⟩⟩⟩
 case cons.nil=>
  cases e
  case agg f=>
   rcases f with⟨_ | ⟨i,_ | ⟨j,_ | ⟨k,_ | ⟨d,_ | ⟨p,l⟩⟩⟩⟩⟩⟩
   case cons.cons.cons.cons.nil=>
    cases i<;>first | exact Or.inl rfl | skip
    cases j<;>first | exact Or.inl rfl | skip
    cases k<;>first | exact Or.inl rfl | skip
    cases d<;>first | exact Or.inl rfl | skip
    rename_i r x s y b m code;have key:∀(o:Option String) (g:String->String),Calm P (match o with | some a=>Go.Extern.RuntimeError.text (g a) | none=>stuck "boundsError: no such code"):=λo g=>by cases o<;>first | exact Or.inl rfl | exact Ak
    exact key ((if(b && decide (x<0))=true then Go.Extern.RuntimeError.boundsNegErrorFmts else Go.Extern.RuntimeError.boundsErrorFmts)[code.toNat]?) (λa=> "runtime error: " ++(a.replace "%x" (toString (if b=true then x else IntKind.u64.wrap x))).replace "%y" (toString y))
   all_goals
   repeat' first
   | exact Ak
   | exact Or.inl rfl
   | assumption
   | (simp;done)
   | refine Calm.bind ?_ (λ_=>?_)
   | dsimp only
   | refine Calm.map ?_
   | split
   | intro _
  all_goals
  repeat' first
   | exact Ak
   | exact Or.inl rfl
   | assumption
   | (simp;done)
   | refine Calm.bind ?_ (λ_=>?_)
   | dsimp only
   | refine Calm.map ?_
   | split
   | intro _
 all_goals
  exact cmC
open Go.Extern.RuntimeError in
@[simp] theorem Zk (v:Value):Calm P (Go.Extern.RuntimeError.described v:Sem (Option TypeInfo)):=by
 unfold Go.Extern.RuntimeError.described;exact cmB
open Go.Extern.RuntimeError in
@[simp] theorem Zj (i:TypeInfo):Calm P (Go.Extern.RuntimeError.pkgpathOf i:Sem (Option String)):=by
 unfold Go.Extern.RuntimeError.pkgpathOf;exact cmB
open Go.Extern.RuntimeError in
@[simp] theorem Vt (args:Array Value):Calm P (Go.Extern.RuntimeError.typeAssertionError args:Sem Value):=by
 unfold Go.Extern.RuntimeError.typeAssertionError;exact cmB
open Go.Extern.RuntimeError in
@[simp] theorem U1 (a:Array Value):Calm P (Go.Extern.RuntimeError.unhashableTypeError a):=by
 unfold Go.Extern.RuntimeError.unhashableTypeError;rcases a with⟨_ | ⟨b,_ | ⟨d,_ | ⟨e,l⟩⟩⟩⟩
 case cons.nil=>
  cases b
  case agg c=>
   (rcases c with⟨_ | ⟨g,_ | ⟨f,_⟩⟩⟩)
   all_goals
   repeat' first
   | exact Ak
   | exact Or.inl rfl
   | assumption
   | (simp;done)
   | refine Calm.bind ?_ (λ_=>?_)
   | dsimp only
   | refine Calm.map ?_
   | split
   | intro _
  all_goals
  repeat' first
   | exact Ak
   | exact Or.inl rfl
   | assumption
   | (simp;done)
   | refine Calm.bind ?_ (λ_=>?_)
   | dsimp only
   | refine Calm.map ?_
   | split
   | intro _
 all_goals
  exact cmC
open Go.Extern.RuntimeError in
@[simp] theorem Aay (a:Array Value):Calm P (Go.Extern.RuntimeError.nothing a):=by
 exact Ak
end
end Go.Co
set_option maxHeartbeats 4000000
set_option maxRecDepth 100000
namespace Go.Proofs.YtobbpffcggchmaaGreatDoor
open Tryz
open Stil
open Go.RowKit Go.Sort Go.BigFrame
theorem Ad8 {k:IntKind}{a b:Int}(h:a=b):Ending.returned (.int k a)=.returned (.int k b):=by rw[h]
theorem Ad {a b:Bool}(h:a=b):Ending.returned (.bool a)=.returned (.bool b):=by rw[h]
theorem Eh {W w1:World}(a:Below W.heap.size W w1):(∀b o,b<W.heap.size->w1.cell? ⟨b,o,none⟩=W.cell? ⟨b,o,none⟩)/\(∀b o,b<W.heap.size->w1.frozen? ⟨b,o,none⟩=W.frozen? ⟨b,o,none⟩):=
 ⟨λb o h=>a.cell (p:=⟨b,o,none⟩) h,λb o h=>a.frozen (p:=⟨b,o,none⟩) h⟩
theorem Aa (w:World)(o:Obj):Below w.heap.size w (w.alloc o):=(Below.refl _ _).alloc (A88 _) o
theorem Aa6 {P:Program}{f:FuncId}{args:Array Value}{w:World}{v:Value}(h:Calls P f args w λe a=>e=.returned v/\a=w):Calls P f args w λe a=>e=.returned v/\Below w.heap.size w a:=
 h.mono λ_ _ ⟨b,c⟩=>⟨b,by rw[c];exact Below.refl _ _⟩
theorem Wv (k:Int)(w:World):
  Calls prog 69 #[.int .i64 k] w λe a=>e=.returned (.int .i64 (Ie k))/\a=w:=by
 go_enter func69,ntmps69
 go_wp2
 all_goals go_ret
 all_goals (refine⟨Ad8 ?_,rfl⟩;simp only[Bbk,A95] at*;unfold Ie;simp[*])
theorem Aa8 (k n p:Int)(w:World)(s:-9223372036854775808<=n)(t:n<=9223372036854775807):
  Calls prog 83 #[.agg #[.int .i64 k, .int .i64 n, .int .i64 p]] w λe j=>e=.returned (.bool (Ha k n p))/\Below w.heap.size w j:=by
 have g:(w.alloc (Obj.cells #[.int .i64 k, .int .i64 n, .int .i64 p] 34)).cell? ⟨w.heap.size,0,none⟩=some (.int .i64 k):=by simp[go_sem]
 have d:(w.alloc (Obj.cells #[.int .i64 k, .int .i64 n, .int .i64 p] 34)).cell? ⟨w.heap.size,1,none⟩=some (.int .i64 n):=by simp[go_sem]
 have f:(w.alloc (Obj.cells #[.int .i64 k, .int .i64 n, .int .i64 p] 34)).cell? ⟨w.heap.size,2,none⟩=some (.int .i64 p):=by simp[go_sem]
 have u:=cell_regrown g;have m:=cell_regrown d;have q:=cell_regrown f;clear g d f;go_enter func83,ntmps83
 go_wp2
 rotate_right 1
 focus
  by_cases i:0<=n
  ·by_cases l:n<Ie k
   ·refine wp_region_quiet_below krz krz ?_
    repeat (go_big_quiet_step ((exact Calls.regrown_of (Aa6 (Wv _ _)))))
    refine wpQuiet_nil ?_;intro _ c;obtain⟨⟨b,osq⟩,a⟩:=c;subst a
    go_wp2
    go_ret;refine⟨Ad ?_,(Aa _ _).trans ((below_regrown _ b osq).mono spz)⟩;go_light;simp only[A95] at*
    (rw[Baf];simp[Ha, *];try omega)
   ·have o:decide (n<Ie k)=false:=by simpa using l
    refine wp_region_quiet_below krz krz ?_;repeat (go_big_quiet_step ((exact Calls.regrown_of (Aa6 (Wv _ _)))))
    refine wpQuiet_nil ?_;intro _ c;obtain⟨⟨b,osq⟩,a⟩:=c;subst a
    go_wp2
    go_ret;refine⟨Ad ?_,(Aa _ _).trans ((below_regrown _ b osq).mono spz)⟩;go_light;simp only[A95] at*
    (rw[Baf];simp[Ha, *];try omega)
  ·have r:decide (0<=n)=false:=by simpa using i
   refine wp_region_quiet_below krz krz ?_;repeat (go_big_quiet_step ((exact Calls.regrown_of (Aa6 (Wv _ _)))))
   refine wpQuiet_nil ?_;intro _ c;obtain⟨⟨b,osq⟩,a⟩:=c;subst a
   go_wp2
   go_ret;refine⟨Ad ?_,(Aa _ _).trans ((below_regrown _ b osq).mono spz)⟩;go_light;simp only[A95] at*
   (rw[Baf];simp[Ha, *];try omega)
 all_goals go_ret
 all_goals (refine⟨Ad ?_,Aa _ _⟩)
 all_goals go_light
 all_goals simp only[Bbk,A95] at*
 all_goals (rw[Baf];simp[Ha, *];try omega)
theorem Ry {w w1:World}{o:Obj}(a:Below (w.alloc o).heap.size (w.alloc o) w1):Below w.heap.size w w1:=(Aa w o).trans (a.mono spz)
theorem Xx (k n p:Int)(w:World)(d:-9223372036854775808<=n)(c:n<=9223372036854775807):
  Calls prog 82 #[.agg #[.int .i64 k, .int .i64 n, .int .i64 p]] w λe a=>e=.returned (.bool (Qm k n p))/\Below w.heap.size w a:=by
 cases h:Ha k n p;all_goals
  go_enter func82,ntmps82
  go_wp2_with (go_at_call 83;refine(Aa8 _ _ _ _ d c).mono ?_;rintro e a ⟨rfl,b⟩;obtain⟨g,f⟩:=Eh b)
  all_goals go_ret
  all_goals (refine⟨Ad ?_,Ry aqz⟩)
  all_goals go_light
  all_goals (rw[Qm,h,Baf];clear h;simp[*];try omega)
theorem Sz (k n p:Int)(w:World)(d:-9223372036854775808<=n)(c:n<=9223372036854775807):
  Calls prog 84 #[.agg #[.int .i64 k, .int .i64 n, .int .i64 p]] w λe a=>e=.returned (.bool (Ig k n p))/\Below w.heap.size w a:=by
 cases h:Ha k n p;all_goals
  go_enter func84,ntmps84
  go_wp2_with (go_at_call 83;refine(Aa8 _ _ _ _ d c).mono ?_;rintro e a ⟨rfl,b⟩;obtain⟨g,f⟩:=Eh b)
  all_goals go_ret
  all_goals (refine⟨Ad ?_,Ry aqz⟩)
  all_goals go_light
  all_goals (rw[Ig,h,Baf];clear h;simp[*];try omega)
theorem U8 (k n p:Int)(w:World)(d:-9223372036854775808<=n)(c:n<=9223372036854775807):
  Calls prog 85 #[.agg #[.int .i64 k, .int .i64 n, .int .i64 p]] w λe a=>e=.returned (.bool (Ji k n p))/\Below w.heap.size w a:=by
 cases h:Ha k n p;all_goals
  go_enter func85,ntmps85
  go_wp2_with (go_at_call 83;refine(Aa8 _ _ _ _ d c).mono ?_;rintro e a ⟨rfl,b⟩;obtain⟨g,f⟩:=Eh b)
  all_goals go_ret
  all_goals (refine⟨Ad ?_,Ry aqz⟩)
  all_goals go_light
  all_goals (rw[Ji,h,Baf];clear h;simp[*];try omega)
theorem Azv {k n p:Int}(h:Ha k n p=true)(h1:k≠11)(e:k≠12)(d:k≠13):1<=k/\k<=10/\0<=n/\n<64/\p=0:=by
 simp only[Ha,if_neg h1,if_neg e,if_neg d,decide_eq_true_eq] at h;obtain⟨a,b,c⟩:=h;unfold Ie at b;split at b
 ·omega
 ·split at b
  ·omega
  ·split at b
   ·omega
   ·split at b<;>omega
theorem Aas {w w1:World}{o:Obj}(a:Below (w.alloc o).heap.size (w.alloc o) w1):w.heap.size<w1.heap.size:=by have:=a.size;simp at this;omega
open Go.Co
def Aef:List (String × (Array Value->Sem Value)):=Extern.ReflectliteValue.rows++(Extern.ReflectliteType.rows++(Extern.AbiNoEscape.rows++Extern.RuntimeError.rows))
theorem Ak7 (P:Program):∀p∈Aef,∀args,Go.Co.Calm P (p.2 args):=by
 intro p a args;simp only[Aef,Extern.ReflectliteValue.rows,Extern.ReflectliteType.rows,Extern.AbiNoEscape.rows,Extern.RuntimeError.rows,A9g,A9o,A99,Bax] at a;rcases a with a | a | a | a
 ·rcases a with rfl | rfl | rfl | rfl | rfl | rfl | rfl | rfl | rfl | rfl
  all_goals dsimp only
  all_goals first
   | (simp;done)
   | (refine Nv ?_ (λ_ _ _ _=>?_) _<;>first | exact Ak | (simp;done))
   | (refine L8 ?_ (λ_ _ _ _=>?_) _<;>first | exact Ak | (simp;done))
 ·rcases a with rfl | rfl | rfl | rfl | rfl | rfl | rfl | rfl | rfl | rfl | rfl | rfl
  all_goals dsimp only
  all_goals first
   | (simp;done)
   | (refine Oj (λ_=>?_) _<;>first | (simp;done) | (refine Go.Co.Calm.bind spz λ_=>?_;first | (simp;done) | (refine Go.Co.Calm.bind spz λ_=>?_;exact Ak)))
   | (refine Np _ (λ_ _=>?_) _<;>(simp;done))
   | (refine Me (λ_=>?_) _<;>first | (simp;done) | (refine Go.Co.Calm.bind spz λ_=>?_;first | exact Ak | (simp;done) | (refine Go.Co.Calm.bind spz λ_=>?_;exact Ak)))
   | (refine Go.Co.Calm.bind spz λ_=>?_;exact Ak)
 ·rcases a with rfl | rfl | rfl | rfl
  all_goals dsimp only
  all_goals first | (simp;done) | exact Ak
 ·rcases a with rfl | rfl | rfl | rfl | rfl | rfl | rfl | rfl | rfl | rfl | rfl | rfl | rfl | rfl | rfl
  all_goals dsimp only
  all_goals first
   | (simp;done)
   | exact Ak
   | (refine Go.Co.Calm.bind spz λ_=>?_;first | exact Ak | (refine Go.Co.Calm.bind spz λ_=>?_;exact Ak))
def An9 (fn:Func):Option (Array Value->Sem Value):=match Aef.lookup fn.name with
 | some e=>some e
 | none=>if fn.name= "internal/bytealg.MakeNoZero" then some (Extern.BytealgMakeNoZero.makeNoZero fn.params fn.resultTypes) else none
theorem Ak8 (P:Program)(fn:Func)(e:Array Value->Sem Value)(h:An9 fn=some e)(args:Array Value):Go.Co.Calm P (e args):=by
 unfold An9 at h;split at h
 ·rename_i d b
  cases h;have:(fn.name,e)∈Aef:=by
   clear args
   revert b
   generalize Aef=l;induction l with
   | nil=>intro h;cases h
   | cons p l c=>
    intro h;rw[List.lookup_cons] at h;split at h
    ·rename_i a
     cases h;rw[Bbk] at a;rw[a];exact Bau
    ·exact A87 _ (c h)
  exact Ak7 P _ this args
 ·split at h
  ·cases h
   simp
  ·cases h
theorem Ax0:(prog.funcs.toList.all λa=>!(a.name== "runtime.NumGoroutine"))=true:=krz
theorem Axz:((prog.funcs.toList.filter λa=>a.body.isNone).all λa=>(Extern.findNext a).isNone)=true:=krz
theorem Ax1:(prog.funcs.toList.filter λa=>a.body.isNone).map Extern.find=(prog.funcs.toList.filter λa=>a.body.isNone).map An9:=krz
theorem okP:OkP prog:=by
 have c:∀(f:Nat) (a:Func),prog.funcs[f]?=some a->a∈prog.funcs.toList:=λf a h=>by
  rw[<-Array.getElem?_toList] at h;exact Baz h
 refine⟨λf a h=>?_,λf a h b=>?_,λf a e h b d args=>?_⟩
 ·have:=List.all_eq_true.1 Ax0 a (c f a h)
  simpa using this
 ·have:=List.all_eq_true.1 Axz a (List.mem_filter.2 ⟨c f a h,b⟩)
  simpa using this
 ·have:=List.map_inj_left.1 Ax1 a (List.mem_filter.2 ⟨c f a h,b⟩)
  rw[this] at d;exact Ak8 _ a e d args
end Go.Proofs.YtobbpffcggchmaaGreatDoor
