import Derived.Test.YtnpfcnolmkanfaaGreatDoorA00
import Derived.Lib.ItoaNum
namespace Stil
variable {α β:Type}
structure Dev where
 kind:Int
 n:Int
 p:Int
def Ih (k:Int):Int:=
 if k=1\/k=2\/k=5\/k=9 then 32 else if k=3 then 64 else if k=4\/k=7\/k=8\/k=10 then 16 else if k=6 then 5 else 0
def Hg (k n p:Int):Bool:=
 if k=11 then decide (-32768<=n/\n<=32767/\p=0)
 else if k=12 then decide (-999999999<=n/\n<=999999999/\1<=p/\p<=6/\(p=1\/n.tmod 10≠0))
 else if k=13 then decide (0<=n/\n<=3/\p=0)
 else decide (0<=n/\n<Ih k/\p=0)
def Qa (k n p:Int):Bool:=Hg k n p && (decide (k<=4) || k==6 || k==7 || k==8)
def Ii (k n p:Int):Bool:=Hg k n p && (k==7 || k==8 || k==9 || k==11)
def Jh (k n p:Int):Bool:=Hg k n p && (k==10 || k==12 || k==13)
def letters:List UInt8:=[88,89,77,83,69,71,84,67,68,82]
def P9 (k:Int):ByteArray:=if 1<=k/\k<=10 then⟨#[letters.getD (k.toNat - 1) 0]⟩ else⟨#[]⟩
def arity (op:Int):Int:=
 if op=1\/op=2\/op=21\/op=22\/op=23\/op=25 then 1
 else if 31<=op/\op<=35 then 3
 else if(1<=op/\op<=10)\/(21<=op/\op<=37) then 2 else 0
def Dev.ok (d:Dev):Bool:=Hg d.kind d.n d.p
def Dev.isBit (d:Dev):Bool:=Qa d.kind d.n d.p
def Dev.isWhole (d:Dev):Bool:=Ii d.kind d.n d.p
def Dev.isReal (d:Dev):Bool:=Jh d.kind d.n d.p
def Ic (k n p a b:Int):Bool:=Hg k n p && (k==a || k==b)
def Dev.kindIs (d:Dev)(a b:Int):Bool:=Ic d.kind d.n d.p a b
def Dev.fits (d:Dev):Prop:=(-9223372036854775808<=d.kind/\d.kind<=9223372036854775807)/\(-9223372036854775808<=d.n/\d.n<=9223372036854775807)/\(-9223372036854775808<=d.p/\d.p<=9223372036854775807)
def Ae (op:Int)(c:List Dev):Bool:=
 if op<1\/10<op then false
 else match c with
  | [a]=>decide (op<=2) && a.isBit
  | [a,b]=>
   if op<=2 then false
   else if op<=4 then a.isBit && b.ok && b.kind==5
   else a.isWhole && b.isWhole || a.isReal && b.isReal
  | _=>false
def I7 (whole:Bool)(l:List Dev):Bool:=if whole then l.all Dev.isWhole else l.all Dev.isReal
def Wi (op:Int):List Dev->Bool
 | []=>false
 | d::r=>d.kindIs 9 10 && I7 (d.kind==9) r && (d.kind==9 || op !=35)
def Ak (op:Int)(c:List Dev):Bool:=
 if op<21\/37<op\/(c.length:Int)≠arity op then false
 else match c with
  | [a]=>if op=21 then a.kindIs 2 3 else if op=22 then a.kindIs 2 3 || a.kindIs 4 4 else if op=23 then a.kindIs 2 3 || a.kindIs 4 7 || a.kindIs 8 8 else a.kindIs 4 4
  | [a,b]=>
   if op=24 then a.kindIs 2 3 && b.kindIs 5 5
   else if op=26\/op=27\/op=28 then a.kindIs 7 7 && b.kindIs 11 11 && decide (0<=b.n)
   else if op=29 then a.kindIs 8 8 && b.kindIs 11 11 && decide (0<=b.n)
   else if op=36 then a.kindIs 10 10 && b.isWhole
   else if op=37 then a.kindIs 9 9 && b.isReal
   else Wi op c
  | _=>Wi op c
structure Elem where
 op:Int
 args:List Dev
structure Net where
 kind:Int
 one:Elem
 kids:List Net
structure Arm where
 net:Net
 coils:List Elem
 kids:List Arm
theorem Gf (P:Net->Prop)(h:∀k o kids,(∀x∈kids,P x)->P ⟨k,o,kids⟩):∀n,P n
 | ⟨k,o,kids⟩=>h k o kids (λx _=>Gf P h x)
theorem Fz (P:Arm->Prop)(h:∀n c kids,(∀x∈kids,P x)->P ⟨n,c,kids⟩):∀n,P n
 | ⟨k,o,kids⟩=>h k o kids (λx _=>Fz P h x)
def Am:Net->Nat
 | ⟨_,_,kids⟩=>1+(kids.map Am).sum
theorem Oz (k:Int)(o:Elem)(kids:List Net):Am ⟨k,o,kids⟩=1+(kids.map Am).sum:=by rw[Am]
def Ar (n:Net):Bool:=n.kind==0 && n.one.op==0 && n.one.args.length==0 && n.kids.length==0
def Aw:Arm->Nat
 | ⟨n,a,kids⟩=>1+a.length+(if Ar n then 0 else Am n)+(kids.map Aw).sum
theorem Rj (n:Net)(a:List Elem)(kids:List Arm):Aw ⟨n,a,kids⟩=1+a.length+(if Ar n then 0 else Am n)+(kids.map Aw).sum:=by rw[Aw]
def Bv (l:List Arm):Nat:=(l.map Aw).sum
def i64 (n:Int):Prop:=-9223372036854775808<=n/\n<=9223372036854775807
def Elem.fits (e:Elem):Prop:=i64 e.op/\e.args.length<=1048576/\∀d∈e.args,d.fits
theorem all_map (f:α->Prop)(l:List α):(∀p∈l.map f,p)↔∀x∈l,f x:=by
 constructor
 ·intro h x a;exact h _ (List.mem_map.2 ⟨x,a,rfl⟩)
 ·intro h p b;obtain⟨x,a,rfl⟩:=List.mem_map.1 b;exact h x a
def Dt:Net->Prop
 | ⟨k,e,kids⟩=>i64 k/\e.fits/\kids.length<=1048576/\∀p∈kids.map Dt,p
theorem Lh (k:Int)(e:Elem)(kids:List Net):Dt ⟨k,e,kids⟩↔i64 k/\e.fits/\kids.length<=1048576/\∀x∈kids,Dt x:=by rw[Dt,all_map]
def Cm:Arm->Prop
 | ⟨n,a,kids⟩=>Dt n/\a.length<=1048576/\(∀c∈a,c.fits)/\kids.length<=1048576/\∀p∈kids.map Cm,p
theorem Gi (n:Net)(a:List Elem)(kids:List Arm):Cm ⟨n,a,kids⟩↔Dt n/\a.length<=1048576/\(∀c∈a,c.fits)/\kids.length<=1048576/\∀x∈kids,Cm x:=by rw[Cm,all_map]
theorem Ei {n:Net}(h:Dt n):i64 n.kind/\n.one.fits/\n.kids.length<=1048576/\∀x∈n.kids,Dt x:=by obtain⟨_,_,_⟩:=n;exact(Lh _ _ _).1 h
theorem Hq {n:Arm}(h:Cm n):Dt n.net/\n.coils.length<=1048576/\(∀c∈n.coils,c.fits)/\n.kids.length<=1048576/\∀x∈n.kids,Cm x:=by obtain⟨_,_,_⟩:=n;exact(Gi _ _ _).1 h
def H6:Net->Nat
 | ⟨_,e,kids⟩=>e.args.length+(kids.length+(kids.map H6).sum)
theorem Ee (k:Int)(e:Elem)(kids:List Net):H6 ⟨k,e,kids⟩=e.args.length+(kids.length+(kids.map H6).sum):=by rw[H6]
def N7 (e:Elem):Nat:=e.args.length
def Fq (l:List Elem):Nat:=l.length+(l.map N7).sum
def F5:Arm->Nat
 | ⟨n,a,kids⟩=>H6 n+(Fq a+(kids.length+(kids.map F5).sum))
theorem Fe (n:Net)(a:List Elem)(kids:List Arm):F5 ⟨n,a,kids⟩=H6 n+(Fq a+(kids.length+(kids.map F5).sum)):=by rw[F5]
theorem Ed (f:α->Nat):∀(l:List α) (x:α),x∈l->f x<=(l.map f).sum
 | y::r,x,h=>by
  rw[A6k,A7b];rcases List.mem_cons.1 h with rfl | h
  ·omega
  ·have:=Ed f r x h;omega
def Elem.wf (e:Elem):Prop:=i64 e.op/\e.args.length<=9223372036854775807/\∀d∈e.args,d.fits
def Akr:Net->Prop
 | ⟨k,e,kids⟩=>i64 k/\e.wf/\kids.length<=9223372036854775807/\∀p∈kids.map Akr,p
theorem Apn (k:Int)(e:Elem)(kids:List Net):Akr ⟨k,e,kids⟩↔i64 k/\e.wf/\kids.length<=9223372036854775807/\∀x∈kids,Akr x:=by rw[Akr,all_map]
def Atr:Arm->Prop
 | ⟨n,a,kids⟩=>Akr n/\a.length<=9223372036854775807/\(∀c∈a,c.wf)/\kids.length<=9223372036854775807/\∀p∈kids.map Atr,p
theorem Aql (n:Net)(a:List Elem)(kids:List Arm):Atr ⟨n,a,kids⟩↔Akr n/\a.length<=9223372036854775807/\(∀c∈a,c.wf)/\kids.length<=9223372036854775807/\∀x∈kids,Atr x:=by rw[Atr,all_map]
theorem Aex {e:Elem}(h:e.wf)(a:N7 e<=1048576):e.fits:=⟨h.1,a,h.2.2⟩
theorem Arq (n:Net):Akr n->H6 n<=1048576->Dt n:=by
 induction n using Gf with
 | h k e kids g=>
  intro h b;obtain⟨c,d,i,f⟩:=(Apn _ _ _).1 h;rw[Ee] at b;refine(Lh _ _ _).2 ⟨c,Aex d (by unfold N7;omega),omz,λx a=>g x a (f x a) ?_⟩;have:=Ed H6 kids x a
  omega
theorem Ahq (n:Arm):Atr n->F5 n<=1048576->Cm n:=by
 induction n using Fz with
 | h n a kids g=>
  intro h e;obtain⟨f,l,j,m,i⟩:=(Aql _ _ _).1 h;rw[Fe] at e;have k:Fq a=a.length+(a.map N7).sum:=rfl;refine(Gi _ _ _).2 ⟨Arq n f omz,omz,λc d=>Aex (j c d) ?_,omz,λx b=>g x b (i x b) ?_⟩
  ·have:=Ed N7 a c d
   omega
  ·have:=Ed F5 kids x b
   omega
theorem Ark (n:Net):Am n<=1+H6 n:=by
 induction n using Gf with
 | h k e kids a=>
  rw[Oz,Ee];have:∀l:List Net,(∀x∈l,Am x<=1+H6 x)->(l.map Am).sum<=l.length+(l.map H6).sum:=by
   intro l;induction l with
   | nil=>intro _;simp
   | cons y r b=>
    intro h;have c:=h y spz;have d:=b (λx hx=>h x yCb);simp only[A6k,A7b,A53];omega
  have:=this kids a
  omega
theorem Ahp (n:Arm):Aw n<=2+2*F5 n:=by
 induction n using Fz with
 | h n a kids d=>
  rw[Rj,Fe];have:∀l:List Arm,(∀x∈l,Aw x<=2+2*F5 x)->(l.map Aw).sum<=2*l.length+2*(l.map F5).sum:=by
   intro l;induction l with
   | nil=>intro _;simp
   | cons y r e=>
    intro h;have b:=h y spz;have c:=e (λx hx=>h x yCb);simp only[A6k,A7b,A53];omega
  have b:=this kids d;have c:=Ark n;have f:Fq a=a.length+(a.map N7).sum:=rfl;split<;>omega
def A8:List Int->Int
 | []=>0
 | c::r=>if 0<c then c else A8 r
def We (k op:Int)(b a:Nat):Bool:=decide (k<2) || decide (4<k) || op !=0 || decide ((0:Int)<(b:Int)) || (a:Int)==0 || (k==4 && (a:Int) !=1)
def Az:Net->Int
 | ⟨k,e,kids⟩=>
  if k=1 then(if 0<kids.length then 2 else if Ae e.op e.args then 0 else 3)
  else if We k e.op e.args.length kids.length then 2 else A8 (kids.map Az)
theorem Oy (k:Int)(e:Elem)(kids:List Net):Az ⟨k,e,kids⟩=if k=1 then(if 0<kids.length then 2 else if Ae e.op e.args then 0 else 3)
  else if We k e.op e.args.length kids.length then 2 else A8 (kids.map Az):=by rw[Az]
theorem Y1 (l:List Int)(h:∀x∈l,0<=x/\x<=5):0<=A8 l/\A8 l<=5:=by
 induction l with
 | nil=>simp[A8]
 | cons x r a=>
  unfold A8;split
  ·have:=h x spz;omega
  ·exact a (λy hy=>h y yDb)
theorem Jv (n:Net):0<=Az n/\Az n<=5:=by
 induction n using Gf with
 | h k e kids b=>
  rw[Oy];split
  ·split
   ·omega
   ·split<;>omega
  ·split
   ·omega
   ·exact Y1 _ (λx a=>by obtain⟨y,c,rfl⟩:=List.mem_map.1 a;exact b y c)
def Aak:Net->List Net
 | ⟨k,e,kids⟩=>⟨k,e,kids⟩::(kids.map Aak).flatten
theorem Aec (n:Net):Aak n=n::(n.kids.map Aak).flatten:=by obtain⟨k,e,kids⟩:=n;rw[Aak]
def Ef (l:List Net):List Net:=(l.map Aak).flatten
def Y6:Arm->List Arm
 | ⟨n,c,kids⟩=>⟨n,c,kids⟩::(kids.map Y6).flatten
theorem Rz (n:Arm):Y6 n=n::(n.kids.map Y6).flatten:=by obtain⟨k,e,kids⟩:=n;rw[Y6]
def Dz (l:List Arm):List Arm:=(l.map Y6).flatten
def Qg (a:Arm):Nat:=1+a.coils.length+(if Ar a.net then 0 else Am a.net)
theorem Aev (f:α->List β):∀l:List α,((l.map f).flatten).length=(l.map (λx=>(f x).length)).sum
 | []=>rfl
 | x::r=>by simp[Aev f r]
theorem Ui {f g:α->β}{l:List α}(h:∀x∈l,f x=g x):l.map f=l.map g:=A8l h
theorem Arl (n:Net):(Aak n).length=Am n:=by
 induction n using Gf with
 | h k e kids a=>
  rw[Aec,Oz,A53,Aev,Ui a];omega
theorem Zh (f:α->List β)(g:β->Nat):∀l:List α,(((l.map f).flatten).map g).sum=(l.map (λx=>((f x).map g).sum)).sum
 | []=>rfl
 | x::r=>by rw[A6k,A7f,A6g,A78,Zh f g r,A6k,A7b]
theorem Atu (n:Arm):((Y6 n).map Qg).sum=Aw n:=by
 induction n using Fz with
 | h n c kids a=>
  rw[Rz,Rj,A6k,A7b,Zh,Ui a];simp only[Qg]
theorem Aou (l:List Arm):((Dz l).map Qg).sum=Bv l:=by
 unfold Dz Bv;rw[Zh,Ui (λx _=>Atu x)]
theorem Aeb (n:Net):Ef [n]=Aak n:=by simp[Ef]
theorem Tf (l:List Net)(j:Nat)(h:j<l.length):Ef (l.take (j+1))=Ef (l.take j)++(l[j]::Ef l[j].kids):=by
 unfold Ef;rw[A6l h,A6g,A8d];simp only[A6k,A66,A7f,A9f,A8w];rw[Aec l[j]]
theorem Tm (l:List Arm)(j:Nat)(h:j<l.length):Dz (l.take (j+1))=Dz (l.take j)++(l[j]::Dz l[j].kids):=by
 unfold Dz;rw[A6l h,A6g,A8d];simp only[A6k,A66,A7f,A9f,A8w];rw[Rz l[j]]
theorem Zb (l:List Net)(j:Nat):Ef (l.take j)<+:Ef l:=by
 have h:Ef l=Ef (l.take j)++Ef (l.drop j):=by
  unfold Ef;rw[<-A8d,<-A6g,A8r]
 rw[h];exact List.prefix_append _ _
theorem Zo (l:List Arm)(j:Nat):Dz (l.take j)<+:Dz l:=by
 have h:Dz l=Dz (l.take j)++Dz (l.drop j):=by
  unfold Dz;rw[<-A8d,<-A6g,A8r]
 rw[h];exact List.prefix_append _ _
theorem Aq2 (g:α->Nat){a b:List α}(h:a<+:b):(a.map g).sum<=(b.map g).sum:=by
 obtain⟨c,rfl⟩:=h;rw[A6g,A78];omega
theorem Aow (n:Arm):∀x∈Y6 n,∀y∈x.kids,y∈Y6 n:=by
 induction n using Fz with
 | h n c kids g=>
  intro x a y b;rw[Rz] at a ⊢;rcases List.mem_cons.1 a with rfl | a
  ·exact List.mem_cons.2 (.inr (List.mem_flatten.2 ⟨_,List.mem_map.2 ⟨y,b,rfl⟩,by rw[Rz];exact List.mem_cons.2 (.inl rfl)⟩))
  ·obtain⟨l,d,f⟩:=List.mem_flatten.1 a
   obtain⟨z,e,rfl⟩:=List.mem_map.1 d;exact List.mem_cons.2 (.inr (List.mem_flatten.2 ⟨_,d,g z e x f y b⟩))
theorem Amc (l:List Arm):∀x∈Dz l,∀y∈x.kids,y∈Dz l:=by
 intro x b y d;obtain⟨m,a,c⟩:=List.mem_flatten.1 b;obtain⟨z,e,rfl⟩:=List.mem_map.1 a;exact List.mem_flatten.2 ⟨_,a,Aow z x c y d⟩
theorem Aov (l:List Arm):∀x∈l,x∈Dz l:=by
 intro x a;exact List.mem_flatten.2 ⟨_,List.mem_map.2 ⟨x,a,rfl⟩,by rw[Rz];exact List.mem_cons.2 (.inl rfl)⟩
theorem Aox (n:Arm):Cm n->∀x∈Y6 n,Cm x:=by
 induction n using Fz with
 | h n c kids f=>
  intro b x a;rw[Rz] at a;rcases List.mem_cons.1 a with rfl | a
  ·exact b
  ·obtain⟨l,g,e⟩:=List.mem_flatten.1 a
   obtain⟨z,d,rfl⟩:=List.mem_map.1 g;exact f z d (((Hq b).2.2.2.2) z d) x e
theorem Acn (l:List Arm)(b:∀x∈l,Cm x):∀x∈Dz l,Cm x:=by
 intro x a;obtain⟨m,e,d⟩:=List.mem_flatten.1 a;obtain⟨z,c,rfl⟩:=List.mem_map.1 e;exact Aox z (b z c) x d
theorem Art (g:α->Nat){l:List α}{x:α}(h:x∈l):g x<=(l.map g).sum:=Ed g l x h
theorem Rw (a b:List Int):A8 (a++b)=if 0<A8 a then A8 a else A8 b:=by
 induction a with
 | nil=>simp[A8]
 | cons x r c=>
  rw[A6s,A8,A8,c];by_cases h:0<x
  ·simp[h]
  ·simp[h]
theorem V6 (f:α->List β)(g:β->Int)(l:List α):A8 (((l.map f).flatten).map g)=A8 (l.map (λx=>A8 ((f x).map g))):=by
 induction l with
 | nil=>rfl
 | cons x r a=>
  rw[A6k,A7f,A6g,Rw,a,A6k,A8]
def Zf (n:Net):Bool:=
 if n.kind=1 then decide (n.kids.length=0)
 else if n.kind=2\/n.kind=3 then(n.one.op==0 && n.one.args.length==0) && decide (0<n.kids.length)
 else if n.kind=4 then(n.one.op==0 && n.one.args.length==0) && decide (n.kids.length=1)
 else false
def Ey (n:Net):Int:=if Zf n then(if n.kind=1 then(if Ae n.one.op n.one.args then 0 else 3) else 0) else 2
theorem Aks (n:Net):A8 ((Aak n).map Ey)=Az n:=by
 induction n using Gf with
 | h k e kids r=>
  have t:A8 ((Aak ⟨k,e,kids⟩).map Ey)=if 0<Ey ⟨k,e,kids⟩ then Ey ⟨k,e,kids⟩ else A8 (kids.map Az):=by
   rw[Aec,A6k,A8,V6,Ui r]
  rw[t,Oy];unfold Ey Zf;simp only;by_cases f:k=1
  ·subst f
   by_cases v:0<kids.length
   ·have l:¬kids.length=0:=by omega
    simp only[if_true,l,decide_false,v];simp
   ·have l:kids.length=0:=by omega
    have j:=List.eq_nil_of_length_eq_zero l;subst j;cases Ae e.op e.args<;>simp[A8]
  ·rw[if_neg f,if_neg f,if_neg f]
   unfold We;obtain⟨q,m⟩:∃q,q=A8 (kids.map Az):=⟨_,rfl⟩
   rw[<-m];generalize kids.length=lk;generalize e.args.length=la;generalize e.op=op;have c:k<2\/(k=2\/k=3)\/k=4\/4<k:=omz
   rcases c with c | c | rfl | c
   ·have i:¬(k=2\/k=3):=by omega
    have g:¬k=4:=omz
    simp[c,i,g]
   ·rw[if_pos c]
    have j:(k==4)=false:=by rw[A64];omega
    have s:decide (k<2)=false:=by rw[A7o];omega
    have o:decide (4<k)=false:=by rw[A7o];omega
    rw[j,s,o];by_cases a:op=0
    ·by_cases b:la=0
     ·by_cases d:lk=0
      ·simp[a,b,d]
      ·have:0<lk:=by omega
       simp[a,b,this,d]
     ·have:0<la:=by omega
      simp[a,b,this]
    ·simp[a]
   ·by_cases a:op=0
    ·by_cases b:la=0
     ·by_cases d:lk=1
      ·simp[a,b,d]
      ·have u:¬(lk:Int)=1:=by omega
       simp[a,b,d,u]
     ·have:0<la:=by omega
      simp[a,b,this]
    ·simp[a]
   ·have i:¬(k=2\/k=3):=by omega
    have g:¬k=4:=omz
    simp[c,i,g]
def Dw (l:List Elem):Bool:=l.any (λc=>!Ak c.op c.args)
def Ci (a:Arm):Int:=
 if Ar a.net=false/\0<Az a.net then Az a.net
 else if Dw a.coils then 3
 else if a.coils.length=0/\a.kids.length=0 then 5 else 0
def Cf:Arm->Int
 | ⟨n,a,kids⟩=>if 0<Ci ⟨n,a,kids⟩ then Ci ⟨n,a,kids⟩ else A8 (kids.map Cf)
theorem Vo (a:Arm):Cf a=if 0<Ci a then Ci a else A8 (a.kids.map Cf):=by obtain⟨n,c,kids⟩:=a;rw[Cf]
theorem Aco (a:Arm):A8 ((Y6 a).map Ci)=Cf a:=by
 induction a using Fz with
 | h n c kids b=>
  rw[Rz,A6k,A8,V6,Ui b,Vo]
theorem Pe (a:Arm):0<=Ci a/\Ci a<=5:=by
 unfold Ci;have:=Jv a.net
 split
 ·omega
 ·split
  ·omega
  ·split<;>omega
theorem Po (a:Arm):0<=Cf a/\Cf a<=5:=by
 rw[<-Aco];exact Y1 _ (λx b=>by obtain⟨y,c,rfl⟩:=List.mem_map.1 b;exact Pe y)
def Ej (a:Arm):Int:=if Ar a.net then 4 else Cf a
def D9:List Arm->Nat->Int × Nat
 | [],_=>(0,0)
 | a::r,k=>if 0<Ej a then(Ej a,k) else D9 r (k+1)
def Bf (l:List Arm):Int × Nat:=if 40<l.length\/400<Bv l then(1,0) else D9 l 0
theorem Y0 (l:List Arm)(j:Nat)(h:j<l.length):D9 (l.drop j) j=if 0<Ej l[j] then(Ej l[j],j) else D9 (l.drop (j+1)) (j+1):=by
 rw[A7p h,D9]
theorem Rq (a:Arm):0<=Ej a/\Ej a<=5:=by
 unfold Ej;split
 ·omega
 ·exact Po a
theorem Vh (l:List Elem)(j:Nat)(h:j<l.length):Dw (l.drop j)=(!Ak l[j].op l[j].args || Dw (l.drop (j+1))):=by
 rw[A7p h];rfl
def A3g (x d:Dev):Bool:=x.kind==d.kind && x.n==d.n && x.p==d.p
def Ap0 (d:Dev)(l:List Dev):Nat:=(l.map (λx=>if A3g x d then 1 else 0)).sum
def Aaw (d:Dev)(e:Elem):Nat:=Ap0 d e.args
def Zc (d:Dev):Net->Nat
 | ⟨_,e,kids⟩=>Aaw d e+(kids.map (Zc d)).sum
theorem Arj (d:Dev)(n:Net):Zc d n=Aaw d n.one+(n.kids.map (Zc d)).sum:=by obtain⟨k,e,kids⟩:=n;rw[Zc]
def Ae4 (d:Dev)(l:List Elem):Nat:=(l.map (Aaw d)).sum
def Zq (d:Dev):Arm->Nat
 | ⟨n,a,kids⟩=>Zc d n+Ae4 d a+(kids.map (Zq d)).sum
theorem Att (d:Dev)(a:Arm):Zq d a=Zc d a.net+Ae4 d a.coils+(a.kids.map (Zq d)).sum:=by obtain⟨k,e,kids⟩:=a;rw[Zq]
def Ao6 (d:Dev)(l:List Arm):Nat:=(l.map (Zq d)).sum
theorem Agh (f:α->Nat)(a:∀x,f x<=1):∀l:List α,(l.map f).sum<=l.length
 | []=>by simp
 | x::r=>by
  have:=Agh f a r
  have:=a x
  simp only[A6k,A7b,A53];omega
theorem Aez (d:Dev)(l:List Dev):Ap0 d l<=l.length:=Agh _ (λx=>by split<;>omega) l
theorem Aaa (f g:α->Nat):∀l:List α,(∀x∈l,f x<=g x)->(l.map f).sum<=(l.map g).sum
 | [],_=>by simp
 | x::r,h=>by
  have:=Aaa f g r (λy hy=>h y yDb)
  have:=h x spz
  simp only[A6k,A7b];omega
theorem Ari (d:Dev)(n:Net):Zc d n<=H6 n:=by
 induction n using Gf with
 | h k e kids a=>
  rw[Arj,Ee];have b:=Aaa _ _ kids a;have c:=Aez d e.args;simp only[Aaw];omega
theorem Ats (d:Dev)(n:Arm):Zq d n<=F5 n:=by
 induction n using Fz with
 | h n a kids b=>
  rw[Att,Fe];have e:=Aaa _ _ kids b;have f:=Ari d n;have g:=Aaa (Aaw d) N7 a (λx _=>Aez d x.args);have c:Fq a=a.length+(a.map N7).sum:=rfl;simp only[Ae4];omega
end Stil
