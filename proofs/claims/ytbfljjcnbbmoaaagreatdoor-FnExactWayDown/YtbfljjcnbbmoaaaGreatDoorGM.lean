import Derived.Test.YtbfljjcnbbmoaaaGreatDoorCA2
import Derived.Lib.ItoaNum
namespace Stil
variable {α β:Type}
structure Dev where
 kind:Int
 n:Int
 p:Int
def Jw (k:Int):Int:=
 if k=1\/k=2\/k=5\/k=9 then 32 else if k=3 then 64 else if k=4\/k=7\/k=8\/k=10 then 16 else if k=6 then 5 else 0
def Gy (k n p:Int):Bool:=
 if k=11 then decide (-32768<=n/\n<=32767/\p=0)
 else if k=12 then decide (-999999999<=n/\n<=999999999/\1<=p/\p<=6/\(p=1\/n.tmod 10≠0))
 else if k=13 then decide (0<=n/\n<=3/\p=0)
 else decide (0<=n/\n<Jw k/\p=0)
def O8 (k n p:Int):Bool:=Gy k n p && (decide (k<=4) || k==6 || k==7 || k==8)
def Hy (k n p:Int):Bool:=Gy k n p && (k==7 || k==8 || k==9 || k==11)
def Iu (k n p:Int):Bool:=Gy k n p && (k==10 || k==12 || k==13)
def letters:List UInt8:=[88,89,77,83,69,71,84,67,68,82]
def O7 (k:Int):ByteArray:=if 1<=k/\k<=10 then⟨#[letters.getD (k.toNat - 1) 0]⟩ else⟨#[]⟩
def arity (op:Int):Int:=
 if op=1\/op=2\/op=21\/op=22\/op=23\/op=25 then 1
 else if 31<=op/\op<=35 then 3
 else if(1<=op/\op<=10)\/(21<=op/\op<=37) then 2 else 0
def Dev.ok (d:Dev):Bool:=Gy d.kind d.n d.p
def Dev.isBit (d:Dev):Bool:=O8 d.kind d.n d.p
def Dev.isWhole (d:Dev):Bool:=Hy d.kind d.n d.p
def Dev.isReal (d:Dev):Bool:=Iu d.kind d.n d.p
def Hw (k n p a b:Int):Bool:=Gy k n p && (k==a || k==b)
def Dev.kindIs (d:Dev)(a b:Int):Bool:=Hw d.kind d.n d.p a b
def Dev.fits (d:Dev):Prop:=(-9223372036854775808<=d.kind/\d.kind<=9223372036854775807)/\(-9223372036854775808<=d.n/\d.n<=9223372036854775807)/\(-9223372036854775808<=d.p/\d.p<=9223372036854775807)
def Ad (op:Int)(ds:List Dev):Bool:=
 if op<1\/10<op then false
 else match ds with
  | [a]=>decide (op<=2) && a.isBit
  | [a,b]=>
   if op<=2 then false
   else if op<=4 then a.isBit && b.ok && b.kind==5
   else a.isWhole && b.isWhole || a.isReal && b.isReal
  | _=>false
def Ih (whole:Bool)(l:List Dev):Bool:=if whole then l.all Dev.isWhole else l.all Dev.isReal
def Vt (op:Int):List Dev->Bool
 | []=>false
 | d::r=>d.kindIs 9 10 && Ih (d.kind==9) r && (d.kind==9 || op !=35)
def Ap (op:Int)(ds:List Dev):Bool:=
 if op<21\/37<op\/(ds.length:Int)≠arity op then false
 else match ds with
  | [a]=>if op=21 then a.kindIs 2 3 else if op=22 then a.kindIs 2 3 || a.kindIs 4 4 else if op=23 then a.kindIs 2 3 || a.kindIs 4 7 || a.kindIs 8 8 else a.kindIs 4 4
  | [a,b]=>
   if op=24 then a.kindIs 2 3 && b.kindIs 5 5
   else if op=26\/op=27\/op=28 then a.kindIs 7 7 && b.kindIs 11 11 && decide (0<=b.n)
   else if op=29 then a.kindIs 8 8 && b.kindIs 11 11 && decide (0<=b.n)
   else if op=36 then a.kindIs 10 10 && b.isWhole
   else if op=37 then a.kindIs 9 9 && b.isReal
   else Vt op ds
  | _=>Vt op ds
structure Elem where
 op:Int
 args:List Dev
structure Net where
 kind:Int
 one:Elem
 kids:List Net
structure Arm where
 net:Net
 coils:List Elem
 kids:List Arm
theorem Fh (P:Net->Prop)(h:∀k o kids,(∀x∈kids,P x)->P ⟨k,o,kids⟩):∀n,P n
 | ⟨k,o,kids⟩=>h k o kids (λx _=>Fh P h x)
theorem Fg (P:Arm->Prop)(h:∀n c kids,(∀x∈kids,P x)->P ⟨n,c,kids⟩):∀n,P n
 | ⟨k,o,kids⟩=>h k o kids (λx _=>Fg P h x)
def Aj:Net->Nat
 | ⟨_,_,kids⟩=>1+(kids.map Aj).sum
theorem Lu (k:Int)(o:Elem)(kids:List Net):Aj ⟨k,o,kids⟩=1+(kids.map Aj).sum:=by rw[Aj]
def Aq (n:Net):Bool:=n.kind==0 && n.one.op==0 && n.one.args.length==0 && n.kids.length==0
def Ak:Arm->Nat
 | ⟨n,coils,kids⟩=>1+coils.length+(if Aq n then 0 else Aj n)+(kids.map Ak).sum
theorem Qe (n:Net)(coils:List Elem)(kids:List Arm):Ak ⟨n,coils,kids⟩=1+coils.length+(if Aq n then 0 else Aj n)+(kids.map Ak).sum:=by rw[Ak]
def Ce (l:List Arm):Nat:=(l.map Ak).sum
def i64 (n:Int):Prop:=-9223372036854775808<=n/\n<=9223372036854775807
def Elem.fits (e:Elem):Prop:=i64 e.op/\e.args.length<=1048576/\∀d∈e.args,d.fits
theorem all_map (f:α->Prop)(l:List α):(∀p∈l.map f,p)↔∀x∈l,f x:=by
 constructor
 ·intro h x hx;exact h _ (List.mem_map.2 ⟨x,hx,rfl⟩)
 ·intro h p hp;obtain⟨x,hx,rfl⟩:=List.mem_map.1 hp;exact h x hx
def Dc:Net->Prop
 | ⟨k,e,kids⟩=>i64 k/\e.fits/\kids.length<=1048576/\∀p∈kids.map Dc,p
theorem Hu (k:Int)(e:Elem)(kids:List Net):Dc ⟨k,e,kids⟩↔i64 k/\e.fits/\kids.length<=1048576/\∀x∈kids,Dc x:=by rw[Dc,all_map]
def Ci:Arm->Prop
 | ⟨n,coils,kids⟩=>Dc n/\coils.length<=1048576/\(∀c∈coils,c.fits)/\kids.length<=1048576/\∀p∈kids.map Ci,p
theorem Em (n:Net)(coils:List Elem)(kids:List Arm):Ci ⟨n,coils,kids⟩↔Dc n/\coils.length<=1048576/\(∀c∈coils,c.fits)/\kids.length<=1048576/\∀x∈kids,Ci x:=by rw[Ci,all_map]
theorem Dp {n:Net}(h:Dc n):i64 n.kind/\n.one.fits/\n.kids.length<=1048576/\∀x∈n.kids,Dc x:=by obtain⟨_,_,_⟩:=n;exact(Hu _ _ _).1 h
theorem G8 {n:Arm}(h:Ci n):Dc n.net/\n.coils.length<=1048576/\(∀c∈n.coils,c.fits)/\n.kids.length<=1048576/\∀x∈n.kids,Ci x:=by obtain⟨_,_,_⟩:=n;exact(Em _ _ _).1 h
def N9:Net->Nat
 | ⟨_,e,kids⟩=>e.args.length+(kids.length+(kids.map N9).sum)
theorem Ag0 (k:Int)(e:Elem)(kids:List Net):N9 ⟨k,e,kids⟩=e.args.length+(kids.length+(kids.map N9).sum):=by rw[N9]
def Adf (l:List Net):Nat:=l.length+(l.map N9).sum
def Px (e:Elem):Nat:=e.args.length
def Qr (l:List Elem):Nat:=l.length+(l.map Px).sum
def Po:Arm->Nat
 | ⟨n,coils,kids⟩=>N9 n+(Qr coils+(kids.length+(kids.map Po).sum))
theorem Ah5 (n:Net)(coils:List Elem)(kids:List Arm):Po ⟨n,coils,kids⟩=N9 n+(Qr coils+(kids.length+(kids.map Po).sum)):=by rw[Po]
def Qx (l:List Arm):Nat:=l.length+(l.map Po).sum
theorem Alz (n:Net):N9 n=Px n.one+Adf n.kids:=by obtain⟨k,e,kids⟩:=n;rw[Ag0];rfl
theorem Am6 (n:Arm):Po n=N9 n.net+(Qr n.coils+Qx n.kids):=by obtain⟨k,e,kids⟩:=n;rw[Ah5];rfl
theorem D9 (f:α->Nat):∀(l:List α) (x:α),x∈l->f x<=(l.map f).sum
 | y::r,x,h=>by
  rw[A4q,List.sum_cons];rcases List.mem_cons.1 h with rfl | h
  ·omega
  ·have:=D9 f r x h;omega
def Elem.wf (e:Elem):Prop:=i64 e.op/\e.args.length<=9223372036854775807/\∀d∈e.args,d.fits
def Adi:Net->Prop
 | ⟨k,e,kids⟩=>i64 k/\e.wf/\kids.length<=9223372036854775807/\∀p∈kids.map Adi,p
theorem Ab4 (k:Int)(e:Elem)(kids:List Net):Adi ⟨k,e,kids⟩↔i64 k/\e.wf/\kids.length<=9223372036854775807/\∀x∈kids,Adi x:=by rw[Adi,all_map]
def Aef:Arm->Prop
 | ⟨n,coils,kids⟩=>Adi n/\coils.length<=9223372036854775807/\(∀c∈coils,c.wf)/\kids.length<=9223372036854775807/\∀p∈kids.map Aef,p
theorem Ah4 (n:Net)(coils:List Elem)(kids:List Arm):Aef ⟨n,coils,kids⟩↔Adi n/\coils.length<=9223372036854775807/\(∀c∈coils,c.wf)/\kids.length<=9223372036854775807/\∀x∈kids,Aef x:=by rw[Aef,all_map]
theorem Ad2 {e:Elem}(h:e.wf)(hs:Px e<=1048576):e.fits:=⟨h.1,hs,h.2.2⟩
theorem Ap5 (n:Net):Adi n->N9 n<=1048576->Dc n:=by
 induction n using Fh with
 | h k e kids ih=>
  intro h hs;obtain⟨h1,h2,h3,h4⟩:=(Ab4 _ _ _).1 h;rw[Ag0] at hs;refine(Hu _ _ _).2 ⟨h1,Ad2 h2 (by unfold Px;omega),omz,λx hx=>ih x hx (h4 x hx) ?_⟩;have:=D9 N9 kids x hx
  omega
theorem Ar8 (n:Arm):Aef n->Po n<=1048576->Ci n:=by
 induction n using Fg with
 | h n coils kids ih=>
  intro h hs;obtain⟨h1,h2,h3,h4,h5⟩:=(Ah4 _ _ _).1 h;rw[Ah5] at hs;have he:Qr coils=coils.length+(coils.map Px).sum:=rfl;refine(Em _ _ _).2 ⟨Ap5 n h1 omz,omz,λc hc=>Ad2 (h3 c hc) ?_,omz,λx hx=>ih x hx (h5 x hx) ?_⟩
  ·have:=D9 Px coils c hc
   omega
  ·have:=D9 Po kids x hx
   omega
theorem zC0 {p:Prop}(h:p:=by
 intro h;have h1:=h y spz;have h2:=ih2 (λx hx=>h x (by simp[hx]));simp only[A4q,List.sum_cons,A39];omega):p:=h
theorem Ap0 (n:Net):Aj n<=1+N9 n:=by
 induction n using Fh with
 | h k e kids ih=>
  rw[Lu,Ag0];have:∀l:List Net,(∀x∈l,Aj x<=1+N9 x)->(l.map Aj).sum<=l.length+(l.map N9).sum:=by
   intro l;induction l with
   | nil=>intro _;simp
   | cons y r ih2=>exact zC0
  have:=this kids ih
  omega
theorem Ar6 (n:Arm):Ak n<=2+2*Po n:=by
 induction n using Fg with
 | h n coils kids ih=>
  rw[Qe,Ah5];have:∀l:List Arm,(∀x∈l,Ak x<=2+2*Po x)->(l.map Ak).sum<=2*l.length+2*(l.map Po).sum:=by
   intro l;induction l with
   | nil=>intro _;simp
   | cons y r ih2=>exact zC0
  have h1:=this kids ih;have h2:=Ap0 n;have he:Qr coils=coils.length+(coils.map Px).sum:=rfl;split<;>omega
def A8:List Int->Int
 | []=>0
 | c::r=>if 0<c then c else A8 r
def Vq (k op:Int)(la lk:Nat):Bool:=decide (k<2) || decide (4<k) || op !=0 || decide ((0:Int)<(la:Int)) || (lk:Int)==0 || (k==4 && (lk:Int) !=1)
def Au:Net->Int
 | ⟨k,e,kids⟩=>
  if k=1 then(if 0<kids.length then 2 else if Ad e.op e.args then 0 else 3)
  else if Vq k e.op e.args.length kids.length then 2 else A8 (kids.map Au)
theorem N8 (k:Int)(e:Elem)(kids:List Net):Au ⟨k,e,kids⟩=if k=1 then(if 0<kids.length then 2 else if Ad e.op e.args then 0 else 3)
  else if Vq k e.op e.args.length kids.length then 2 else A8 (kids.map Au):=by rw[Au]
theorem Ya (l:List Int)(h:∀x∈l,0<=x/\x<=5):0<=A8 l/\A8 l<=5:=by
 induction l with
 | nil=>simp[A8]
 | cons x r ih=>
  unfold A8;split
  ·have:=h x spz;omega
  ·exact ih (λy hy=>h y (by simp[hy]))
theorem Ji (n:Net):0<=Au n/\Au n<=5:=by
 induction n using Fh with
 | h k e kids ih=>
  rw[N8];split
  ·split
   ·omega
   ·split<;>omega
  ·split
   ·omega
   ·exact Ya _ (λx hx=>by obtain⟨y,hy,rfl⟩:=List.mem_map.1 hx;exact ih y hy)
def Zl:Net->List Net
 | ⟨k,e,kids⟩=>⟨k,e,kids⟩::(kids.map Zl).flatten
theorem Adj (n:Net):Zl n=n::(n.kids.map Zl).flatten:=by obtain⟨k,e,kids⟩:=n;rw[Zl]
def Ei (l:List Net):List Net:=(l.map Zl).flatten
def Yf:Arm->List Arm
 | ⟨n,c,kids⟩=>⟨n,c,kids⟩::(kids.map Yf).flatten
theorem Qz (n:Arm):Yf n=n::(n.kids.map Yf).flatten:=by obtain⟨k,e,kids⟩:=n;rw[Yf]
def D6 (l:List Arm):List Arm:=(l.map Yf).flatten
def Pe (a:Arm):Nat:=1+a.coils.length+(if Aq a.net then 0 else Aj a.net)
theorem Ad0 (f:α->List β):∀l:List α,((l.map f).flatten).length=(l.map (λx=>(f x).length)).sum
 | []=>rfl
 | x::r=>by simp[Ad0 f r]
theorem Tv {f g:α->β}{l:List α}(h:∀x∈l,f x=g x):l.map f=l.map g:=List.map_congr_left h
theorem Ap1 (n:Net):(Zl n).length=Aj n:=by
 induction n using Fh with
 | h k e kids ih=>
  rw[Adj,Lu,A39,Ad0,Tv ih];omega
theorem Yt (f:α->List β)(g:β->Nat):∀l:List α,(((l.map f).flatten).map g).sum=(l.map (λx=>((f x).map g).sum)).sum
 | []=>rfl
 | x::r=>by rw[A4q,List.flatten_cons,A4m,List.sum_append,Yt f g r,A4q,List.sum_cons]
theorem Ar7 (n:Arm):((Yf n).map Pe).sum=Ak n:=by
 induction n using Fg with
 | h n c kids ih=>
  rw[Qz,Qe,A4q,List.sum_cons,Yt,Tv ih];simp only[Pe]
theorem Am4 (l:List Arm):((D6 l).map Pe).sum=Ce l:=by
 unfold D6 Ce;rw[Yt,Tv (λx _=>Ar7 x)]
theorem Adg (n:Net):Ei [n]=Zl n:=by simp[Ei]
theorem Ry (l:List Net)(j:Nat)(h:j<l.length):Ei (l.take (j+1))=Ei (l.take j)++(l[j]::Ei l[j].kids):=by
 unfold Ei;rw[A4r h,A4m,List.flatten_append];simp only[A4q,List.map_nil,List.flatten_cons,List.flatten_nil,List.append_nil];rw[Adj l[j]]
theorem Sl (l:List Arm)(j:Nat)(h:j<l.length):D6 (l.take (j+1))=D6 (l.take j)++(l[j]::D6 l[j].kids):=by
 unfold D6;rw[A4r h,A4m,List.flatten_append];simp only[A4q,List.map_nil,List.flatten_cons,List.flatten_nil,List.append_nil];rw[Qz l[j]]
theorem Yo (l:List Net)(j:Nat):Ei (l.take j)<+:Ei l:=by
 have h:Ei l=Ei (l.take j)++Ei (l.drop j):=by
  unfold Ei;rw[<-List.flatten_append,<-A4m,List.take_append_drop]
 rw[h];exact List.prefix_append _ _
theorem Y0 (l:List Arm)(j:Nat):D6 (l.take j)<+:D6 l:=by
 have h:D6 l=D6 (l.take j)++D6 (l.drop j):=by
  unfold D6;rw[<-List.flatten_append,<-A4m,List.take_append_drop]
 rw[h];exact List.prefix_append _ _
theorem Apg (g:α->Nat){a b:List α}(h:a<+:b):(a.map g).sum<=(b.map g).sum:=by
 obtain⟨c,rfl⟩:=h;rw[A4m,List.sum_append];omega
theorem Am7 (n:Arm):∀x∈Yf n,∀y∈x.kids,y∈Yf n:=by
 induction n using Fg with
 | h n c kids ih=>
  intro x hx y hy;rw[Qz] at hx ⊢;rcases List.mem_cons.1 hx with rfl | hx
  ·exact List.mem_cons.2 (.inr (List.mem_flatten.2 ⟨_,List.mem_map.2 ⟨y,hy,rfl⟩,by rw[Qz];exact List.mem_cons.2 (.inl rfl)⟩))
  ·obtain⟨l,hl,hxl⟩:=List.mem_flatten.1 hx
   obtain⟨z,hz,rfl⟩:=List.mem_map.1 hl;exact List.mem_cons.2 (.inr (List.mem_flatten.2 ⟨_,hl,ih z hz x hxl y hy⟩))
theorem Akp (l:List Arm):∀x∈D6 l,∀y∈x.kids,y∈D6 l:=by
 intro x hx y hy;obtain⟨m,hm,hxm⟩:=List.mem_flatten.1 hx;obtain⟨z,hz,rfl⟩:=List.mem_map.1 hm;exact List.mem_flatten.2 ⟨_,hm,Am7 z x hxm y hy⟩
theorem Am5 (l:List Arm):∀x∈l,x∈D6 l:=by
 intro x hx;exact List.mem_flatten.2 ⟨_,List.mem_map.2 ⟨x,hx,rfl⟩,by rw[Qz];exact List.mem_cons.2 (.inl rfl)⟩
theorem Am8 (n:Arm):Ci n->∀x∈Yf n,Ci x:=by
 induction n using Fg with
 | h n c kids ih=>
  intro hf x hx;rw[Qz] at hx;rcases List.mem_cons.1 hx with rfl | hx
  ·exact hf
  ·obtain⟨l,hl,hxl⟩:=List.mem_flatten.1 hx
   obtain⟨z,hz,rfl⟩:=List.mem_map.1 hl;exact ih z hz (((G8 hf).2.2.2.2) z hz) x hxl
theorem Abp (l:List Arm)(hf:∀x∈l,Ci x):∀x∈D6 l,Ci x:=by
 intro x hx;obtain⟨m,hm,hxm⟩:=List.mem_flatten.1 hx;obtain⟨z,hz,rfl⟩:=List.mem_map.1 hm;exact Am8 z (hf z hz) x hxm
theorem Ap7 (g:α->Nat){l:List α}{x:α}(h:x∈l):g x<=(l.map g).sum:=D9 g l x h
theorem Qq (a b:List Int):A8 (a++b)=if 0<A8 a then A8 a else A8 b:=by
 induction a with
 | nil=>simp[A8]
 | cons x r ih=>
  rw[A4y,A8,A8,ih];by_cases h:0<x
  ·simp[h]
  ·simp[h]
theorem Vk (f:α->List β)(g:β->Int)(l:List α):A8 (((l.map f).flatten).map g)=A8 (l.map (λx=>A8 ((f x).map g))):=by
 induction l with
 | nil=>rfl
 | cons x r ih=>
  rw[A4q,List.flatten_cons,A4m,Qq,ih,A4q,A8]
def Yq (n:Net):Bool:=
 if n.kind=1 then decide (n.kids.length=0)
 else if n.kind=2\/n.kind=3 then(n.one.op==0 && n.one.args.length==0) && decide (0<n.kids.length)
 else if n.kind=4 then(n.one.op==0 && n.one.args.length==0) && decide (n.kids.length=1)
 else false
def E8 (n:Net):Int:=if Yq n then(if n.kind=1 then(if Ad n.one.op n.one.args then 0 else 3) else 0) else 2
theorem Ai8 (n:Net):A8 ((Zl n).map E8)=Au n:=by
 induction n using Fh with
 | h k e kids ih=>
  have e1:A8 ((Zl ⟨k,e,kids⟩).map E8)=if 0<E8 ⟨k,e,kids⟩ then E8 ⟨k,e,kids⟩ else A8 (kids.map Au):=by
   rw[Adj,A4q,A8,Vk,Tv ih]
  rw[e1,N8];unfold E8 Yq;simp only;by_cases h1:k=1
  ·subst h1
   by_cases h2:0<kids.length
   ·have h3:¬kids.length=0:=by omega
    simp only[if_true,h3,decide_false,h2];simp
   ·have h3:kids.length=0:=by omega
    have h4:=List.eq_nil_of_length_eq_zero h3;subst h4;cases Ad e.op e.args<;>simp[A8]
  ·rw[if_neg h1,if_neg h1,if_neg h1]
   unfold Vq;obtain⟨q,hq⟩:∃q,q=A8 (kids.map Au):=⟨_,rfl⟩
   rw[<-hq];generalize kids.length=lk;generalize e.args.length=la;generalize e.op=op;have h5:k<2\/(k=2\/k=3)\/k=4\/4<k:=omz
   rcases h5 with h5 | h5 | rfl | h5
   ·have n2:¬(k=2\/k=3):=by omega
    have n4:¬k=4:=omz
    simp[h5,n2,n4]
   ·rw[if_pos h5]
    have h4:(k==4)=false:=by rw[A5a];omega
    have h6:decide (k<2)=false:=by rw[decide_eq_false_iff_not];omega
    have h7:decide (4<k)=false:=by rw[decide_eq_false_iff_not];omega
    rw[h4,h6,h7];by_cases ho:op=0
    ·by_cases ha:la=0
     ·by_cases hk:lk=0
      ·simp[ho,ha,hk]
      ·have:0<lk:=by omega
       simp[ho,ha,this,hk]
     ·have:0<la:=by omega
      simp[ho,ha,this]
    ·simp[ho]
   ·by_cases ho:op=0
    ·by_cases ha:la=0
     ·by_cases hk:lk=1
      ·simp[ho,ha,hk]
      ·have hk':¬(lk:Int)=1:=by omega
       simp[ho,ha,hk,hk']
     ·have:0<la:=by omega
      simp[ho,ha,this]
    ·simp[ho]
   ·have n2:¬(k=2\/k=3):=by omega
    have n4:¬k=4:=omz
    simp[h5,n2,n4]
def Dy (l:List Elem):Bool:=l.any (λc=>!Ap c.op c.args)
def Cm (a:Arm):Int:=
 if Aq a.net=false/\0<Au a.net then Au a.net
 else if Dy a.coils then 3
 else if a.coils.length=0/\a.kids.length=0 then 5 else 0
def Cj:Arm->Int
 | ⟨n,coils,kids⟩=>if 0<Cm ⟨n,coils,kids⟩ then Cm ⟨n,coils,kids⟩ else A8 (kids.map Cj)
theorem U8 (a:Arm):Cj a=if 0<Cm a then Cm a else A8 (a.kids.map Cj):=by obtain⟨n,c,kids⟩:=a;rw[Cj]
theorem Abq (a:Arm):A8 ((Yf a).map Cm)=Cj a:=by
 induction a using Fg with
 | h n c kids ih=>
  rw[Qz,A4q,A8,Vk,Tv ih,U8]
theorem Oe (a:Arm):0<=Cm a/\Cm a<=5:=by
 unfold Cm;have:=Ji a.net
 split
 ·omega
 ·split
  ·omega
  ·split<;>omega
theorem Ot (a:Arm):0<=Cj a/\Cj a<=5:=by
 rw[<-Abq];exact Ya _ (λx hx=>by obtain⟨y,hy,rfl⟩:=List.mem_map.1 hx;exact Oe y)
def Eo (a:Arm):Int:=if Aq a.net then 4 else Cj a
def Ed:List Arm->Nat->Int × Nat
 | [],_=>(0,0)
 | a::r,k=>if 0<Eo a then(Eo a,k) else Ed r (k+1)
def Bo (l:List Arm):Int × Nat:=if 40<l.length\/400<Ce l then(1,0) else Ed l 0
theorem X9 (l:List Arm)(j:Nat)(h:j<l.length):Ed (l.drop j) j=if 0<Eo l[j] then(Eo l[j],j) else Ed (l.drop (j+1)) (j+1):=by
 rw[List.drop_eq_getElem_cons h,Ed]
theorem Qm (a:Arm):0<=Eo a/\Eo a<=5:=by
 unfold Eo;split
 ·omega
 ·exact Ot a
theorem U2 (l:List Elem)(j:Nat)(h:j<l.length):Dy (l.drop j)=(!Ap l[j].op l[j].args || Dy (l.drop (j+1))):=by
 rw[List.drop_eq_getElem_cons h];rfl
theorem Ani (f g:α->Nat):∀l:List α,(∀x∈l,f x<=g x)->(l.map f).sum<=(l.map g).sum
 | [],_=>by simp
 | x::r,h=>by
  have:=Ani f g r (λy hy=>h y (by simp[hy]))
  have:=h x spz
  simp only[A4q,List.sum_cons];omega
end Stil
