import Derived.Test.YtbfljjcnbbmoaaaGreatDoorCA2
import Derived.Lib.ItoaNum
namespace Stil
structure Dev where
 kind:Int
 n:Int
 p:Int
def Jp (k:Int):Int:=
 if k=1\/k=2\/k=5\/k=9 then 32 else if k=3 then 64 else if k=4\/k=7\/k=8\/k=10 then 16 else if k=6 then 5 else 0
def Gh (k n p:Int):Bool:=
 if k=11 then decide (-32768<=n/\n<=32767/\p=0)
 else if k=12 then decide (-999999999<=n/\n<=999999999/\1<=p/\p<=6/\(p=1\/n.tmod 10≠0))
 else if k=13 then decide (0<=n/\n<=3/\p=0)
 else decide (0<=n/\n<Jp k/\p=0)
def Oj (k n p:Int):Bool:=Gh k n p && (decide (k<=4) || k==6 || k==7 || k==8)
def Hm (k n p:Int):Bool:=Gh k n p && (k==7 || k==8 || k==9 || k==11)
def Ii (k n p:Int):Bool:=Gh k n p && (k==10 || k==12 || k==13)
def letters:List UInt8:=[88,89,77,83,69,71,84,67,68,82]
def Oi (k:Int):ByteArray:=if 1<=k/\k<=10 then⟨#[letters.getD (k.toNat - 1) 0]⟩ else⟨#[]⟩
def Axj (p:Nat) (s:List UInt8):List UInt8:=List.replicate (p+1 - s.length) 48++s
def decNat (n p:Nat):List UInt8:=(Axj p (Go.Lib.decDigits n)).take ((Axj p (Go.Lib.decDigits n)).length - p)++46::(Axj p (Go.Lib.decDigits n)).drop ((Axj p (Go.Lib.decDigits n)).length - p)
def A1a (n p:Int):List UInt8:=if n<0 then 45::decNat n.natAbs p.toNat else decNat n.toNat p.toNat
def words:List (List UInt8):=[[110,97,110],[105,110,102],[45,105,110,102],[45,48,46,48]]
def A08 (k n p:Int):List UInt8:=
 if Gh k n p then
  if k=11 then Go.Lib.itoa n else if k=12 then A1a n p else if k=13 then words.getD n.toNat [] else letters.getD (k.toNat - 1) 0::Go.Lib.itoa n
 else []
def Anp (c:UInt8):List UInt8->Nat->Int
 | [],_=>-1
 | x::r,k=>if x=c then k else Anp c r (k+1)
def find (c:UInt8) (l:List UInt8):Int:=Anp c l 0
def Avk:Nat->List UInt8->Option Nat
 | acc,[]=>some acc
 | acc,c::r=>if 48<=c.toNat/\c.toNat<=57 then Avk (acc*10+(c.toNat - 48)) r else none
def A2k:Option Nat->Int
 | some n=>n
 | none=>-1
def digits (l:List UInt8):Int:=if l.length=0\/17<l.length then -1 else A2k (Avk 0 l)
def Azi (l:List UInt8):Int:=if l.head?=some 45 then -1 else 1
def bare (l:List UInt8):List UInt8:=if l.head?=some 45 then l.drop 1 else l
def Aya (l:List UInt8):Dev:=
 if find 46 (bare l)<0 then⟨11,Azi l*digits (bare l),0⟩
 else⟨12,Azi l*digits ((bare l).take (find 46 (bare l)).toNat++(bare l).drop ((find 46 (bare l)).toNat+1)),(bare l).length - find 46 (bare l) - 1⟩
def Axw (l:List UInt8) (k:Nat):Bool:=l.head?==some (letters.getD (k - 1) 0)
def Ai0 (l:List UInt8):Nat->Nat->Dev
 | 0,_=>Aya l
 | m+1,k=>if Axw l k then⟨k,digits (l.drop 1),0⟩ else Ai0 l m (k+1)
def Ams (l:List UInt8):Nat->Nat->Dev
 | 0,_=>Ai0 l 10 1
 | m+1,k=>if l=words.getD k [] then⟨13,k,0⟩ else Ams l m (k+1)
def A2s (l:List UInt8):Dev:=Ams l 4 0
def Dev.text (d:Dev):List UInt8:=A08 d.kind d.n d.p
def Ayj (l:List UInt8):Bool:=!l.isEmpty && (A2s l).text==l
def A09 (l:List UInt8):Dev:=if Ayj l then A2s l else⟨0,0,0⟩
def arity (op:Int):Int:=
 if op=1\/op=2\/op=21\/op=22\/op=23\/op=25 then 1
 else if 31<=op/\op<=35 then 3
 else if(1<=op/\op<=10)\/(21<=op/\op<=37) then 2 else 0
def names:List (List UInt8):=[[111,117,116],[115,101,116],[114,101,115,101,116],[112,117,108,115,101],[115,116,101,112],[116,105,109,101,114],[104,111,108,100],[108,97,116,101],[99,111,117,110,116],[109,111,118,101],[97,100,100],[115,117,98],[109,117,108],[100,105,118],[114,101,109],[114,101,97,108],[119,104,111,108,101]]
def signs:List (List UInt8):=[[60],[60,61],[61],[60,62],[62,61],[62]]
def elemName (op:Int):List UInt8:=if 21<=op/\op<=37 then names.getD (op - 21).toNat [] else []
def sign (op:Int):List UInt8:=if 5<=op/\op<=10 then signs.getD (op - 5).toNat [] else []
def Dev.ok (d:Dev):Bool:=Gh d.kind d.n d.p
def Dev.isBit (d:Dev):Bool:=Oj d.kind d.n d.p
def Dev.isWhole (d:Dev):Bool:=Hm d.kind d.n d.p
def Dev.isReal (d:Dev):Bool:=Ii d.kind d.n d.p
def Hl (k n p a b:Int):Bool:=Gh k n p && (k==a || k==b)
def Dev.kindIs (d:Dev) (a b:Int):Bool:=Hl d.kind d.n d.p a b
def Dev.fits (d:Dev):Prop:=(-9223372036854775808<=d.kind/\d.kind<=9223372036854775807)/\(-9223372036854775808<=d.n/\d.n<=9223372036854775807)/\(-9223372036854775808<=d.p/\d.p<=9223372036854775807)
def Ad (op:Int) (ds:List Dev):Bool:=
 if op<1\/10<op then false
 else match ds with
  | [a]=>decide (op<=2) && a.isBit
  | [a,b]=>
   if op<=2 then false
   else if op<=4 then a.isBit && b.ok && b.kind==5
   else a.isWhole && b.isWhole || a.isReal && b.isReal
  | _=>false
def H7 (whole:Bool) (l:List Dev):Bool:=if whole then l.all Dev.isWhole else l.all Dev.isReal
def U7 (op:Int):List Dev->Bool
 | []=>false
 | d::r=>d.kindIs 9 10 && H7 (d.kind==9) r && (d.kind==9 || op !=35)
def Am (op:Int) (ds:List Dev):Bool:=
 if op<21\/37<op\/(ds.length:Int)≠arity op then false
 else match ds with
  | [a]=>if op=21 then a.kindIs 2 3 else if op=22 then a.kindIs 2 3 || a.kindIs 4 4 else if op=23 then a.kindIs 2 3 || a.kindIs 4 7 || a.kindIs 8 8 else a.kindIs 4 4
  | [a,b]=>
   if op=24 then a.kindIs 2 3 && b.kindIs 5 5
   else if op=26\/op=27\/op=28 then a.kindIs 7 7 && b.kindIs 11 11 && decide (0<=b.n)
   else if op=29 then a.kindIs 8 8 && b.kindIs 11 11 && decide (0<=b.n)
   else if op=36 then a.kindIs 10 10 && b.isWhole
   else if op=37 then a.kindIs 9 9 && b.isReal
   else U7 op ds
  | _=>U7 op ds
def Aoa:List Dev->List UInt8
 | []=>[]
 | d::r=>44::d.text++Aoa r
def Ayg (op:Int) (ds:List Dev):List UInt8:=
 if Am op ds then
  match ds with
  | []=>[]
  | d::r=>elemName op++58::d.text++Aoa r
 else if Ad op ds then
  match ds with
  | [a]=>if op=1 then a.text else 47::a.text
  | [a,b]=>if op=3 then 43::a.text++58::b.text else if op=4 then 45::a.text++58::b.text else a.text++sign op++b.text
  | _=>[]
 else []
def Ayk (x:UInt8):List (List UInt8)->List (List UInt8)
 | []=>[[x]]
 | h::t=>(x::h)::t
def cut (c:UInt8):List UInt8->List (List UInt8)
 | []=>[[]]
 | x::r=>if x=c then []::cut c r else Ayk x (cut c r)
def args (c:UInt8) (l:List UInt8):List Dev:=((cut c l).map A09).take 4
structure Elem where
 op:Int
 args:List Dev
def Elem.text (e:Elem):List UInt8:=Ayg e.op e.args
structure Net where
 kind:Int
 one:Elem
 kids:List Net
structure Arm where
 net:Net
 coils:List Elem
 kids:List Arm
theorem Fg (P:Net->Prop) (h:∀k o kids,(∀x∈kids,P x)->P ⟨k,o,kids⟩):∀n,P n
 | ⟨k,o,kids⟩=>h k o kids (λx _=>Fg P h x)
theorem Fz (P:Arm->Prop) (h:∀n c kids,(∀x∈kids,P x)->P ⟨n,c,kids⟩):∀n,P n
 | ⟨k,o,kids⟩=>h k o kids (λx _=>Fz P h x)
def Aj:Net->Nat
 | ⟨_,_,kids⟩=>1+(kids.map Aj).sum
theorem La (k:Int) (o:Elem) (kids:List Net):Aj ⟨k,o,kids⟩=1+(kids.map Aj).sum:=by rw[Aj]
def Aq (n:Net):Bool:=n.kind==0 && n.one.op==0 && n.one.args.length==0 && n.kids.length==0
def A7:Arm->Nat
 | ⟨n,coils,kids⟩=>1+coils.length+(if Aq n then 0 else Aj n)+(kids.map A7).sum
theorem Pq (n:Net) (coils:List Elem) (kids:List Arm):A7 ⟨n,coils,kids⟩=1+coils.length+(if Aq n then 0 else Aj n)+(kids.map A7).sum:=by rw[A7]
def Bh (l:List Arm):Nat:=(l.map A7).sum
def i64 (n:Int):Prop:=-9223372036854775808<=n/\n<=9223372036854775807
def Elem.fits (e:Elem):Prop:=i64 e.op/\e.args.length<=1048576/\∀d∈e.args,d.fits
theorem all_map {α:Type} (f:α->Prop) (l:List α):(∀p∈l.map f,p)↔∀x∈l,f x:=by
 constructor
 ·intro h x hx;exact h _ (List.mem_map.2 ⟨x,hx,rfl⟩)
 ·intro h p hp;obtain⟨x,hx,rfl⟩:=List.mem_map.1 hp;exact h x hx
def Cc:Net->Prop
 | ⟨k,e,kids⟩=>i64 k/\e.fits/\kids.length<=1048576/\∀p∈kids.map Cc,p
theorem Fa (k:Int) (e:Elem) (kids:List Net):Cc ⟨k,e,kids⟩↔i64 k/\e.fits/\kids.length<=1048576/\∀x∈kids,Cc x:=by rw[Cc,all_map]
def C9:Arm->Prop
 | ⟨n,coils,kids⟩=>Cc n/\coils.length<=1048576/\(∀c∈coils,c.fits)/\kids.length<=1048576/\∀p∈kids.map C9,p
theorem Ee (n:Net) (coils:List Elem) (kids:List Arm):C9 ⟨n,coils,kids⟩↔Cc n/\coils.length<=1048576/\(∀c∈coils,c.fits)/\kids.length<=1048576/\∀x∈kids,C9 x:=by rw[C9,all_map]
theorem Df {n:Net} (h:Cc n):i64 n.kind/\n.one.fits/\n.kids.length<=1048576/\∀x∈n.kids,Cc x:=by obtain⟨_,_,_⟩:=n;exact(Fa _ _ _).1 h
theorem Gy {n:Arm} (h:C9 n):Cc n.net/\n.coils.length<=1048576/\(∀c∈n.coils,c.fits)/\n.kids.length<=1048576/\∀x∈n.kids,C9 x:=by obtain⟨_,_,_⟩:=n;exact(Ee _ _ _).1 h
def Nk:Net->Nat
 | ⟨_,e,kids⟩=>e.args.length+(kids.length+(kids.map Nk).sum)
theorem Af8 (k:Int) (e:Elem) (kids:List Net):Nk ⟨k,e,kids⟩=e.args.length+(kids.length+(kids.map Nk).sum):=by rw[Nk]
def Ack (l:List Net):Nat:=l.length+(l.map Nk).sum
def O9 (e:Elem):Nat:=e.args.length
def Qg (l:List Elem):Nat:=l.length+(l.map O9).sum
def O6:Arm->Nat
 | ⟨n,coils,kids⟩=>Nk n+(Qg coils+(kids.length+(kids.map O6).sum))
theorem Ahb (n:Net) (coils:List Elem) (kids:List Arm):O6 ⟨n,coils,kids⟩=Nk n+(Qg coils+(kids.length+(kids.map O6).sum)):=by rw[O6]
def Qj (l:List Arm):Nat:=l.length+(l.map O6).sum
theorem Ak8 (n:Net):Nk n=O9 n.one+Ack n.kids:=by obtain⟨k,e,kids⟩:=n;rw[Af8];rfl
theorem Amh (n:Arm):O6 n=Nk n.net+(Qg n.coils+Qj n.kids):=by obtain⟨k,e,kids⟩:=n;rw[Ahb];rfl
theorem Ew {α:Type} (f:α->Nat):∀(l:List α) (x:α),x∈l->f x<=(l.map f).sum
 | y::r,x,h=>by
  rw[A4v,List.sum_cons];rcases List.mem_cons.1 h with rfl | h
  ·omega
  ·have:=Ew f r x h;omega
def Elem.wf (e:Elem):Prop:=i64 e.op/\e.args.length<=9223372036854775807/\∀d∈e.args,d.fits
def Acn:Net->Prop
 | ⟨k,e,kids⟩=>i64 k/\e.wf/\kids.length<=9223372036854775807/\∀p∈kids.map Acn,p
theorem Abd (k:Int) (e:Elem) (kids:List Net):Acn ⟨k,e,kids⟩↔i64 k/\e.wf/\kids.length<=9223372036854775807/\∀x∈kids,Acn x:=by rw[Acn,all_map]
def Adl:Arm->Prop
 | ⟨n,coils,kids⟩=>Acn n/\coils.length<=9223372036854775807/\(∀c∈coils,c.wf)/\kids.length<=9223372036854775807/\∀p∈kids.map Adl,p
theorem Aha (n:Net) (coils:List Elem) (kids:List Arm):Adl ⟨n,coils,kids⟩↔Acn n/\coils.length<=9223372036854775807/\(∀c∈coils,c.wf)/\kids.length<=9223372036854775807/\∀x∈kids,Adl x:=by rw[Adl,all_map]
theorem Ac6 {e:Elem} (h:e.wf) (hs:O9 e<=1048576):e.fits:=⟨h.1,hs,h.2.2⟩
theorem Apl (n:Net):Acn n->Nk n<=1048576->Cc n:=by
 induction n using Fg with
 | h k e kids ih=>
  intro h hs;obtain⟨h1,h2,h3,h4⟩:=(Abd _ _ _).1 h;rw[Af8] at hs;refine(Fa _ _ _).2 ⟨h1,Ac6 h2 (by unfold O9;omega),by omega,λx hx=>ih x hx (h4 x hx) ?_⟩;have:=Ew Nk kids x hx
  omega
theorem Arn (n:Arm):Adl n->O6 n<=1048576->C9 n:=by
 induction n using Fz with
 | h n coils kids ih=>
  intro h hs;obtain⟨h1,h2,h3,h4,h5⟩:=(Aha _ _ _).1 h;rw[Ahb] at hs;have he:Qg coils=coils.length+(coils.map O9).sum:=rfl;refine(Ee _ _ _).2 ⟨Apl n h1 (by omega),by omega,λc hc=>Ac6 (h3 c hc) ?_,by omega,λx hx=>ih x hx (h5 x hx) ?_⟩
  ·have:=Ew O9 coils c hc
   omega
  ·have:=Ew O6 kids x hx
   omega
theorem Apg (n:Net):Aj n<=1+Nk n:=by
 induction n using Fg with
 | h k e kids ih=>
  rw[La,Af8];have:∀l:List Net,(∀x∈l,Aj x<=1+Nk x)->(l.map Aj).sum<=l.length+(l.map Nk).sum:=by
   intro l;induction l with
   | nil=>intro _;simp
   | cons y r ih2=>
    intro h;have h1:=h y (by simp);have h2:=ih2 (λx hx=>h x (by simp[hx]));simp only[A4v,List.sum_cons,A4e];omega
  have:=this kids ih
  omega
theorem Ark (n:Arm):A7 n<=2+2*O6 n:=by
 induction n using Fz with
 | h n coils kids ih=>
  rw[Pq,Ahb];have:∀l:List Arm,(∀x∈l,A7 x<=2+2*O6 x)->(l.map A7).sum<=2*l.length+2*(l.map O6).sum:=by
   intro l;induction l with
   | nil=>intro _;simp
   | cons y r ih2=>
    intro h;have h1:=h y (by simp);have h2:=ih2 (λx hx=>h x (by simp[hx]));simp only[A4v,List.sum_cons,A4e];omega
  have h1:=this kids ih;have h2:=Apg n;have he:Qg coils=coils.length+(coils.map O9).sum:=rfl;split<;>omega
def A8:List Int->Int
 | []=>0
 | c::r=>if 0<c then c else A8 r
def U3 (k op:Int) (la lk:Nat):Bool:=decide (k<2) || decide (4<k) || op !=0 || decide ((0:Int)<(la:Int)) || (lk:Int)==0 || (k==4 && (lk:Int) !=1)
def Ar:Net->Int
 | ⟨k,e,kids⟩=>
  if k=1 then(if 0<kids.length then 2 else if Ad e.op e.args then 0 else 3)
  else if U3 k e.op e.args.length kids.length then 2 else A8 (kids.map Ar)
theorem Nj (k:Int) (e:Elem) (kids:List Net):Ar ⟨k,e,kids⟩=if k=1 then(if 0<kids.length then 2 else if Ad e.op e.args then 0 else 3)
  else if U3 k e.op e.args.length kids.length then 2 else A8 (kids.map Ar):=by rw[Ar]
theorem Xo (l:List Int) (h:∀x∈l,0<=x/\x<=5):0<=A8 l/\A8 l<=5:=by
 induction l with
 | nil=>simp[A8]
 | cons x r ih=>
  unfold A8;split
  ·have:=h x (by simp);omega
  ·exact ih (λy hy=>h y (by simp[hy]))
theorem I8 (n:Net):0<=Ar n/\Ar n<=5:=by
 induction n using Fg with
 | h k e kids ih=>
  rw[Nj];split
  ·split
   ·omega
   ·split<;>omega
  ·split
   ·omega
   ·exact Xo _ (λx hx=>by obtain⟨y,hy,rfl⟩:=List.mem_map.1 hx;exact ih y hy)
def Y1:Net->List Net
 | ⟨k,e,kids⟩=>⟨k,e,kids⟩::(kids.map Y1).flatten
theorem Aco (n:Net):Y1 n=n::(n.kids.map Y1).flatten:=by obtain⟨k,e,kids⟩:=n;rw[Y1]
def Ec (l:List Net):List Net:=(l.map Y1).flatten
def Xu:Arm->List Arm
 | ⟨n,c,kids⟩=>⟨n,c,kids⟩::(kids.map Xu).flatten
theorem Qk (n:Arm):Xu n=n::(n.kids.map Xu).flatten:=by obtain⟨k,e,kids⟩:=n;rw[Xu]
def Dx (l:List Arm):List Arm:=(l.map Xu).flatten
def Ot (a:Arm):Nat:=1+a.coils.length+(if Aq a.net then 0 else Aj a.net)
theorem Ac4 {α β:Type} (f:α->List β):∀l:List α,((l.map f).flatten).length=(l.map (λx=>(f x).length)).sum
 | []=>rfl
 | x::r=>by simp[Ac4 f r]
theorem Rx {α β:Type} {f g:α->β} {l:List α} (h:∀x∈l,f x=g x):l.map f=l.map g:=List.map_congr_left h
theorem Aph (n:Net):(Y1 n).length=Aj n:=by
 induction n using Fg with
 | h k e kids ih=>
  rw[Aco,La,A4e,Ac4,Rx ih];omega
theorem X8 {α β:Type} (f:α->List β) (g:β->Nat):∀l:List α,(((l.map f).flatten).map g).sum=(l.map (λx=>((f x).map g).sum)).sum
 | []=>rfl
 | x::r=>by rw[A4v,List.flatten_cons,A4r,List.sum_append,X8 f g r,A4v,List.sum_cons]
theorem Arl (n:Arm):((Xu n).map Ot).sum=A7 n:=by
 induction n using Fz with
 | h n c kids ih=>
  rw[Qk,Pq,A4v,List.sum_cons,X8,Rx ih];simp only[Ot]
theorem Ame (l:List Arm):((Dx l).map Ot).sum=Bh l:=by
 unfold Dx Bh;rw[X8,Rx (λx _=>Arl x)]
theorem Acl (n:Net):Ec [n]=Y1 n:=by simp[Ec]
theorem Qy (l:List Net) (j:Nat) (h:j<l.length):Ec (l.take (j+1))=Ec (l.take j)++(l[j]::Ec l[j].kids):=by
 unfold Ec;rw[A4w h,A4r,List.flatten_append];simp only[A4v,List.map_nil,List.flatten_cons,List.flatten_nil,List.append_nil];rw[Aco l[j]]
theorem Q9 (l:List Arm) (j:Nat) (h:j<l.length):Dx (l.take (j+1))=Dx (l.take j)++(l[j]::Dx l[j].kids):=by
 unfold Dx;rw[A4w h,A4r,List.flatten_append];simp only[A4v,List.map_nil,List.flatten_cons,List.flatten_nil,List.append_nil];rw[Qk l[j]]
theorem X5 (l:List Net) (j:Nat):Ec (l.take j)<+:Ec l:=by
 have h:Ec l=Ec (l.take j)++Ec (l.drop j):=by
  unfold Ec;rw[<-List.flatten_append,<-A4r,List.take_append_drop]
 rw[h];exact List.prefix_append _ _
theorem Yd (l:List Arm) (j:Nat):Dx (l.take j)<+:Dx l:=by
 have h:Dx l=Dx (l.take j)++Dx (l.drop j):=by
  unfold Dx;rw[<-List.flatten_append,<-A4r,List.take_append_drop]
 rw[h];exact List.prefix_append _ _
theorem Aow {α:Type} (g:α->Nat) {a b:List α} (h:a<+:b):(a.map g).sum<=(b.map g).sum:=by
 obtain⟨c,rfl⟩:=h;rw[A4r,List.sum_append];omega
theorem Ami (n:Arm):∀x∈Xu n,∀y∈x.kids,y∈Xu n:=by
 induction n using Fz with
 | h n c kids ih=>
  intro x hx y hy;rw[Qk] at hx ⊢;rcases List.mem_cons.1 hx with rfl | hx
  ·exact List.mem_cons.2 (.inr (List.mem_flatten.2 ⟨_,List.mem_map.2 ⟨y,hy,rfl⟩,by rw[Qk];exact List.mem_cons.2 (.inl rfl)⟩))
  ·obtain⟨l,hl,hxl⟩:=List.mem_flatten.1 hx
   obtain⟨z,hz,rfl⟩:=List.mem_map.1 hl;exact List.mem_cons.2 (.inr (List.mem_flatten.2 ⟨_,hl,ih z hz x hxl y hy⟩))
theorem Aj2 (l:List Arm):∀x∈Dx l,∀y∈x.kids,y∈Dx l:=by
 intro x hx y hy;obtain⟨m,hm,hxm⟩:=List.mem_flatten.1 hx;obtain⟨z,hz,rfl⟩:=List.mem_map.1 hm;exact List.mem_flatten.2 ⟨_,hm,Ami z x hxm y hy⟩
theorem Amf (l:List Arm):∀x∈l,x∈Dx l:=by
 intro x hx;exact List.mem_flatten.2 ⟨_,List.mem_map.2 ⟨x,hx,rfl⟩,by rw[Qk];exact List.mem_cons.2 (.inl rfl)⟩
theorem Amj (n:Arm):C9 n->∀x∈Xu n,C9 x:=by
 induction n using Fz with
 | h n c kids ih=>
  intro hf x hx;rw[Qk] at hx;rcases List.mem_cons.1 hx with rfl | hx
  ·exact hf
  ·obtain⟨l,hl,hxl⟩:=List.mem_flatten.1 hx
   obtain⟨z,hz,rfl⟩:=List.mem_map.1 hl;exact ih z hz (((Gy hf).2.2.2.2) z hz) x hxl
theorem Aa0 (l:List Arm) (hf:∀x∈l,C9 x):∀x∈Dx l,C9 x:=by
 intro x hx;obtain⟨m,hm,hxm⟩:=List.mem_flatten.1 hx;obtain⟨z,hz,rfl⟩:=List.mem_map.1 hm;exact Amj z (hf z hz) x hxm
theorem Apn {α:Type} (g:α->Nat) {l:List α} {x:α} (h:x∈l):g x<=(l.map g).sum:=Ew g l x h
theorem Qe (a b:List Int):A8 (a++b)=if 0<A8 a then A8 a else A8 b:=by
 induction a with
 | nil=>simp[A8]
 | cons x r ih=>
  rw[A43,A8,A8,ih];by_cases h:0<x
  ·simp[h]
  ·simp[h]
theorem Uy {α β:Type} (f:α->List β) (g:β->Int) (l:List α):A8 (((l.map f).flatten).map g)=A8 (l.map (λx=>A8 ((f x).map g))):=by
 induction l with
 | nil=>rfl
 | cons x r ih=>
  rw[A4v,List.flatten_cons,A4r,Qe,ih,A4v,A8]
def X6 (n:Net):Bool:=
 if n.kind=1 then decide (n.kids.length=0)
 else if n.kind=2\/n.kind=3 then(n.one.op==0 && n.one.args.length==0) && decide (0<n.kids.length)
 else if n.kind=4 then(n.one.op==0 && n.one.args.length==0) && decide (n.kids.length=1)
 else false
def Eo (n:Net):Int:=if X6 n then(if n.kind=1 then(if Ad n.one.op n.one.args then 0 else 3) else 0) else 2
theorem Aig (n:Net):A8 ((Y1 n).map Eo)=Ar n:=by
 induction n using Fg with
 | h k e kids ih=>
  have e1:A8 ((Y1 ⟨k,e,kids⟩).map Eo)=if 0<Eo ⟨k,e,kids⟩ then Eo ⟨k,e,kids⟩ else A8 (kids.map Ar):=by
   rw[Aco,A4v,A8,Uy,Rx ih]
  rw[e1,Nj];unfold Eo X6;simp only;by_cases h1:k=1
  ·subst h1
   by_cases h2:0<kids.length
   ·have h3:¬kids.length=0:=by omega
    simp only[if_true,h3,decide_false,h2];simp
   ·have h3:kids.length=0:=by omega
    have h4:=List.eq_nil_of_length_eq_zero h3;subst h4;cases Ad e.op e.args<;>simp[A8]
  ·rw[if_neg h1,if_neg h1,if_neg h1]
   unfold U3;obtain⟨q,hq⟩:∃q,q=A8 (kids.map Ar):=⟨_,rfl⟩
   rw[<-hq];generalize kids.length=lk;generalize e.args.length=la;generalize e.op=op;have h5:k<2\/(k=2\/k=3)\/k=4\/4<k:=by omega
   rcases h5 with h5 | h5 | rfl | h5
   ·have n2:¬(k=2\/k=3):=by omega
    have n4:¬k=4:=by omega
    simp[h5,n2,n4]
   ·rw[if_pos h5]
    have h4:(k==4)=false:=by rw[A5f];omega
    have h6:decide (k<2)=false:=by rw[decide_eq_false_iff_not];omega
    have h7:decide (4<k)=false:=by rw[decide_eq_false_iff_not];omega
    rw[h4,h6,h7];by_cases ho:op=0
    ·by_cases ha:la=0
     ·by_cases hk:lk=0
      ·simp[ho,ha,hk]
      ·have:0<lk:=by omega
       simp[ho,ha,this,hk]
     ·have:0<la:=by omega
      simp[ho,ha,this]
    ·simp[ho]
   ·by_cases ho:op=0
    ·by_cases ha:la=0
     ·by_cases hk:lk=1
      ·simp[ho,ha,hk]
      ·have hk':¬(lk:Int)=1:=by omega
       simp[ho,ha,hk,hk']
     ·have:0<la:=by omega
      simp[ho,ha,this]
    ·simp[ho]
   ·have n2:¬(k=2\/k=3):=by omega
    have n4:¬k=4:=by omega
    simp[h5,n2,n4]
def Dt (l:List Elem):Bool:=l.any (λc=>!Am c.op c.args)
def Ci (a:Arm):Int:=
 if Aq a.net=false/\0<Ar a.net then Ar a.net
 else if Dt a.coils then 3
 else if a.coils.length=0/\a.kids.length=0 then 5 else 0
def Cf:Arm->Int
 | ⟨n,coils,kids⟩=>if 0<Ci ⟨n,coils,kids⟩ then Ci ⟨n,coils,kids⟩ else A8 (kids.map Cf)
theorem Um (a:Arm):Cf a=if 0<Ci a then Ci a else A8 (a.kids.map Cf):=by obtain⟨n,c,kids⟩:=a;rw[Cf]
theorem Aa1 (a:Arm):A8 ((Xu a).map Ci)=Cf a:=by
 induction a using Fz with
 | h n c kids ih=>
  rw[Qk,A4v,A8,Uy,Rx ih,Um]
theorem Ns (a:Arm):0<=Ci a/\Ci a<=5:=by
 unfold Ci;have:=I8 a.net
 split
 ·omega
 ·split
  ·omega
  ·split<;>omega
theorem N8 (a:Arm):0<=Cf a/\Cf a<=5:=by
 rw[<-Aa1];exact Xo _ (λx hx=>by obtain⟨y,hy,rfl⟩:=List.mem_map.1 hx;exact Ns y)
def Eg (a:Arm):Int:=if Aq a.net then 4 else Cf a
def D9:List Arm->Nat->Int × Nat
 | [],_=>(0,0)
 | a::r,k=>if 0<Eg a then(Eg a,k) else D9 r (k+1)
def Ce (l:List Arm):Int × Nat:=if 40<l.length\/400<Bh l then(1,0) else D9 l 0
theorem Xn (l:List Arm) (j:Nat) (h:j<l.length):D9 (l.drop j) j=if 0<Eg l[j] then(Eg l[j],j) else D9 (l.drop (j+1)) (j+1):=by
 rw[List.drop_eq_getElem_cons h,D9]
theorem P8 (a:Arm):0<=Eg a/\Eg a<=5:=by
 unfold Eg;split
 ·omega
 ·exact N8 a
theorem Ug (l:List Elem) (j:Nat) (h:j<l.length):Dt (l.drop j)=(!Am l[j].op l[j].args || Dt (l.drop (j+1))):=by
 rw[List.drop_eq_getElem_cons h];rfl
theorem Amx {α:Type} (f g:α->Nat):∀l:List α,(∀x∈l,f x<=g x)->(l.map f).sum<=(l.map g).sum
 | [],_=>by simp
 | x::r,h=>by
  have:=Amx f g r (λy hy=>h y (by simp[hy]))
  have:=h x (by simp)
  simp only[A4v,List.sum_cons];omega
end Stil
