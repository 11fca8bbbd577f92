import Derived.Lib.ItoaNum
import Derived.Test.YtifcnfeppdbjdaaGreatDoorCA6
import Derived.Test.YtifcnfeppdbjdaaGreatDoorChecked
import Derived.WalkSpells
import Derived.WalkLawsBesides
import Derived.BigQuiet
import Derived.Lib.QuietBelow
import Derived.Deep.Light
import Derived.Deep.RegionHeld3
namespace Stil
variable {α β:Type}
structure CC where
 kind:Int
 n:Int
 p:Int
def Jd (k:Int):Int:=
 if k=1\/k=2\/k=5\/k=9 then 32 else if k=3 then 64 else if k=4\/k=7\/k=8\/k=10 then 16 else if k=6 then 5 else 0
def Ih (k n p:Int):Bool:=
 if k=11 then decide (-32768<=n/\n<=32767/\p=0)
 else if k=12 then decide (-999999999<=n/\n<=999999999/\1<=p/\p<=6/\(p=1\/n.tmod 10≠0))
 else if k=13 then decide (0<=n/\n<=3/\p=0)
 else decide (0<=n/\n<Jd k/\p=0)
def Rj (k n p:Int):Bool:=Ih k n p && (decide (k<=4) || k==6 || k==7 || k==8)
def Je (k n p:Int):Bool:=Ih k n p && (k==7 || k==8 || k==9 || k==11)
def J6 (k n p:Int):Bool:=Ih k n p && (k==10 || k==12 || k==13)
def letters:List UInt8:=[88,89,77,83,69,71,84,67,68,82]
def Ri (k:Int):ByteArray:=if 1<=k/\k<=10 then⟨#[letters.getD (k.toNat - 1) 0]⟩ else⟨#[]⟩
def arity (op:Int):Int:=
 if op=1\/op=2\/op=21\/op=22\/op=23\/op=25 then 1
 else if 31<=op/\op<=35 then 3
 else if(1<=op/\op<=10)\/(21<=op/\op<=37) then 2 else 0
def CC.ok (d:CC):Bool:=Ih d.kind d.n d.p
def CC.isBit (d:CC):Bool:=Rj d.kind d.n d.p
def CC.isWhole (d:CC):Bool:=Je d.kind d.n d.p
def CC.isReal (d:CC):Bool:=J6 d.kind d.n d.p
def Oh (k n p a b:Int):Bool:=Ih k n p && (k==a || k==b)
def CC.kindIs (d:CC)(a b:Int):Bool:=Oh d.kind d.n d.p a b
def CC.fits (d:CC):Prop:=(-9223372036854775808<=d.kind/\d.kind<=9223372036854775807)/\(-9223372036854775808<=d.n/\d.n<=9223372036854775807)/\(-9223372036854775808<=d.p/\d.p<=9223372036854775807)
def Du (op:Int)(c:List CC):Bool:=
 if op<1\/10<op then false
 else match c with
  | [a]=>decide (op<=2) && a.isBit
  | [a,b]=>
   if op<=2 then false
   else if op<=4 then a.isBit && b.ok && b.kind==5
   else a.isWhole && b.isWhole || a.isReal && b.isReal
  | _=>false
def Om (whole:Bool)(l:List CC):Bool:=if whole then l.all CC.isWhole else l.all CC.isReal
def FB (op:Int):List CC->Bool
 | []=>false
 | d::r=>d.kindIs 9 10 && Om (d.kind==9) r && (d.kind==9 || op !=35)
def Gt (op:Int)(c:List CC):Bool:=
 if op<21\/37<op\/(c.length:Int)≠arity op then false
 else match c with
  | [a]=>if op=21 then a.kindIs 2 3 else if op=22 then a.kindIs 2 3 || a.kindIs 4 4 else if op=23 then a.kindIs 2 3 || a.kindIs 4 7 || a.kindIs 8 8 else a.kindIs 4 4
  | [a,b]=>
   if op=24 then a.kindIs 2 3 && b.kindIs 5 5
   else if op=26\/op=27\/op=28 then a.kindIs 7 7 && b.kindIs 11 11 && decide (0<=b.n)
   else if op=29 then a.kindIs 8 8 && b.kindIs 11 11 && decide (0<=b.n)
   else if op=36 then a.kindIs 10 10 && b.isWhole
   else if op=37 then a.kindIs 9 9 && b.isReal
   else FB op c
  | _=>FB op c
structure Elem where
 op:Int
 args:List CC
structure B9 where
 kind:Int
 one:Elem
 kids:List B9
structure B8 where
 net:B9
 coils:List Elem
 kids:List B8
theorem Gf (P:B9->Prop)(h:∀k o kids,(∀x∈kids,P x)->P ⟨k,o,kids⟩):∀n,P n
 | ⟨k,o,kids⟩=>h k o kids (λx _=>Gf P h x)
theorem Gl (P:B8->Prop)(h:∀n c kids,(∀x∈kids,P x)->P ⟨n,c,kids⟩):∀n,P n
 | ⟨k,o,kids⟩=>h k o kids (λx _=>Gl P h x)
def Af:B9->Nat
 | ⟨_,_,kids⟩=>1+(kids.map Af).sum
theorem Qa (k:Int)(o:Elem)(kids:List B9):Af ⟨k,o,kids⟩=1+(kids.map Af).sum:=by rw[Af]
def Am (n:B9):Bool:=n.kind==0 && n.one.op==0 && n.one.args.length==0 && n.kids.length==0
def Aj:B8->Nat
 | ⟨n,a,kids⟩=>1+a.length+(if Am n then 0 else Af n)+(kids.map Aj).sum
theorem Tt (n:B9)(a:List Elem)(kids:List B8):Aj ⟨n,a,kids⟩=1+a.length+(if Am n then 0 else Af n)+(kids.map Aj).sum:=by rw[Aj]
def Bz (l:List B8):Nat:=(l.map Aj).sum
def i64 (n:Int):Prop:=-9223372036854775808<=n/\n<=9223372036854775807
def Elem.fits (e:Elem):Prop:=i64 e.op/\e.args.length<=1048576/\∀d∈e.args,d.fits
theorem all_map (f:α->Prop)(l:List α):(∀p∈l.map f,p)↔∀x∈l,f x:=by
 constructor
 ·intro h x a;exact h _ (List.mem_map.2 ⟨x,a,rfl⟩)
 ·intro h p b;obtain⟨x,a,rfl⟩:=List.mem_map.1 b;exact h x a
def Dw:B9->Prop
 | ⟨k,e,kids⟩=>i64 k/\e.fits/\kids.length<=1048576/\∀p∈kids.map Dw,p
theorem Lc (k:Int)(e:Elem)(kids:List B9):Dw ⟨k,e,kids⟩↔i64 k/\e.fits/\kids.length<=1048576/\∀x∈kids,Dw x:=by rw[Dw,all_map]
def Dh:B8->Prop
 | ⟨n,a,kids⟩=>Dw n/\a.length<=1048576/\(∀c∈a,c.fits)/\kids.length<=1048576/\∀p∈kids.map Dh,p
theorem F7 (n:B9)(a:List Elem)(kids:List B8):Dh ⟨n,a,kids⟩↔Dw n/\a.length<=1048576/\(∀c∈a,c.fits)/\kids.length<=1048576/\∀x∈kids,Dh x:=by rw[Dh,all_map]
theorem Dz {n:B9}(h:Dw n):i64 n.kind/\n.one.fits/\n.kids.length<=1048576/\∀x∈n.kids,Dw x:=by obtain⟨_,_,_⟩:=n;exact(Lc _ _ _).1 h
theorem Il {n:B8}(h:Dh n):Dw n.net/\n.coils.length<=1048576/\(∀c∈n.coils,c.fits)/\n.kids.length<=1048576/\∀x∈n.kids,Dh x:=by obtain⟨_,_,_⟩:=n;exact(F7 _ _ _).1 h
def G9:B9->Nat
 | ⟨_,e,kids⟩=>e.args.length+(kids.length+(kids.map G9).sum)
theorem E5 (k:Int)(e:Elem)(kids:List B9):G9 ⟨k,e,kids⟩=e.args.length+(kids.length+(kids.map G9).sum):=by rw[G9]
def Pv (e:Elem):Nat:=e.args.length
def Gx (l:List Elem):Nat:=l.length+(l.map Pv).sum
def Gs:B8->Nat
 | ⟨n,a,kids⟩=>G9 n+(Gx a+(kids.length+(kids.map Gs).sum))
theorem Fv (n:B9)(a:List Elem)(kids:List B8):Gs ⟨n,a,kids⟩=G9 n+(Gx a+(kids.length+(kids.map Gs).sum)):=by rw[Gs]
theorem D9 (f:α->Nat):∀(l:List α) (x:α),x∈l->f x<=(l.map f).sum
 | y::r,x,h=>by
  rw[CP,DW];rcases List.mem_cons.1 h with rfl | h
  ·omega
  ·have:=D9 f r x h;omega
def Elem.wf (e:Elem):Prop:=i64 e.op/\e.args.length<=9223372036854775807/\∀d∈e.args,d.fits
def IE:B9->Prop
 | ⟨k,e,kids⟩=>i64 k/\e.wf/\kids.length<=9223372036854775807/\∀p∈kids.map IE,p
theorem ZO (k:Int)(e:Elem)(kids:List B9):IE ⟨k,e,kids⟩↔i64 k/\e.wf/\kids.length<=9223372036854775807/\∀x∈kids,IE x:=by rw[IE,all_map]
def J0:B8->Prop
 | ⟨n,a,kids⟩=>IE n/\a.length<=9223372036854775807/\(∀c∈a,c.wf)/\kids.length<=9223372036854775807/\∀p∈kids.map J0,p
theorem Z2 (n:B9)(a:List Elem)(kids:List B8):J0 ⟨n,a,kids⟩↔IE n/\a.length<=9223372036854775807/\(∀c∈a,c.wf)/\kids.length<=9223372036854775807/\∀x∈kids,J0 x:=by rw[J0,all_map]
theorem VO {e:Elem}(h:e.wf)(a:Pv e<=1048576):e.fits:=⟨h.1,a,h.2.2⟩
theorem Auw (n:B9):IE n->G9 n<=1048576->Dw n:=by
 induction n using Gf with
 | h k e kids d=>
  intro h f;obtain⟨b,c,i,g⟩:=(ZO _ _ _).1 h;rw[E5] at f;refine(Lc _ _ _).2 ⟨b,VO c (by unfold Pv;omega),AQ,λx a=>d x a (g x a) ?_⟩;have:=D9 G9 kids x a
  omega
theorem Awk (n:B8):J0 n->Gs n<=1048576->Dh n:=by
 induction n using Gl with
 | h n a kids i=>
  intro h j;obtain⟨e,l,f,m,g⟩:=(Z2 _ _ _).1 h;rw[Fv] at j;have k:Gx a=a.length+(a.map Pv).sum:=rfl;refine(F7 _ _ _).2 ⟨Auw n e AQ,AQ,λc d=>VO (f c d) ?_,AQ,λx b=>i x b (g x b) ?_⟩
  ·have:=D9 Pv a c d
   omega
  ·have:=D9 Gs kids x b
   omega
theorem Aur (n:B9):Af n<=1+G9 n:=by
 induction n using Gf with
 | h k e kids b=>
  rw[Qa,E5];have:∀l:List B9,(∀x∈l,Af x<=1+G9 x)->(l.map Af).sum<=l.length+(l.map G9).sum:=by
   intro l;induction l with
   | nil=>intro _;simp
   | cons y r a=>
    intro h;have c:=h y AU;have d:=a (λx hx=>h x BS);simp only[CP,DW,CH];omega
  have:=this kids b
  omega
theorem Awi (n:B8):Aj n<=2+2*Gs n:=by
 induction n using Gl with
 | h n a kids e=>
  rw[Tt,Fv];have:∀l:List B8,(∀x∈l,Aj x<=2+2*Gs x)->(l.map Aj).sum<=2*l.length+2*(l.map Gs).sum:=by
   intro l;induction l with
   | nil=>intro _;simp
   | cons y r c=>
    intro h;have b:=h y AU;have d:=c (λx hx=>h x BS);simp only[CP,DW,CH];omega
  have b:=this kids e;have d:=Aur n;have f:Gx a=a.length+(a.map Pv).sum:=rfl;split<;>omega
def Ar:List Int->Int
 | []=>0
 | c::r=>if 0<c then c else Ar r
def Xx (k op:Int)(b a:Nat):Bool:=decide (k<2) || decide (4<k) || op !=0 || decide ((0:Int)<(b:Int)) || (a:Int)==0 || (k==4 && (a:Int) !=1)
def Ai:B9->Int
 | ⟨k,e,kids⟩=>
  if k=1 then(if 0<kids.length then 2 else if Du e.op e.args then 0 else 3)
  else if Xx k e.op e.args.length kids.length then 2 else Ar (kids.map Ai)
theorem Oq (k:Int)(e:Elem)(kids:List B9):Ai ⟨k,e,kids⟩=if k=1 then(if 0<kids.length then 2 else if Du e.op e.args then 0 else 3)
  else if Xx k e.op e.args.length kids.length then 2 else Ar (kids.map Ai):=by rw[Ai]
theorem Z8 (l:List Int)(h:∀x∈l,0<=x/\x<=5):0<=Ar l/\Ar l<=5:=by
 induction l with
 | nil=>simp[Ar]
 | cons x r a=>
  unfold Ar;split
  ·have:=h x AU;omega
  ·exact a (λy hy=>h y Bt)
theorem La (n:B9):0<=Ai n/\Ai n<=5:=by
 induction n using Gf with
 | h k e kids c=>
  rw[Oq];split
  ·split
   ·omega
   ·split<;>omega
  ·split
   ·omega
   ·exact Z8 _ (λx b=>by obtain⟨y,a,rfl⟩:=List.mem_map.1 b;exact c y a)
def GY:B9->List B9
 | ⟨k,e,kids⟩=>⟨k,e,kids⟩::(kids.map GY).flatten
theorem PE (n:B9):GY n=n::(n.kids.map GY).flatten:=by obtain⟨k,e,kids⟩:=n;rw[GY]
def Eu (l:List B9):List B9:=(l.map GY).flatten
def GF:B8->List B8
 | ⟨n,c,kids⟩=>⟨n,c,kids⟩::(kids.map GF).flatten
theorem Ul (n:B8):GF n=n::(n.kids.map GF).flatten:=by obtain⟨k,e,kids⟩:=n;rw[GF]
def Ed (l:List B8):List B8:=(l.map GF).flatten
def Rn (a:B8):Nat:=1+a.coils.length+(if Am a.net then 0 else Af a.net)
theorem VN (f:α->List β):∀l:List α,((l.map f).flatten).length=(l.map (λx=>(f x).length)).sum
 | []=>rfl
 | x::r=>by simp[VN f r]
theorem Vr {f g:α->β}{l:List α}(h:∀x∈l,f x=g x):l.map f=l.map g:=JL h
theorem Aus (n:B9):(GY n).length=Af n:=by
 induction n using Gf with
 | h k e kids a=>
  rw[PE,Qa,CH,VN,Vr a];omega
theorem NY (f:α->List β)(g:β->Nat):∀l:List α,(((l.map f).flatten).map g).sum=(l.map (λx=>((f x).map g).sum)).sum
 | []=>rfl
 | x::r=>by rw[CP,EB,CU,GV,NY f g r,CP,DW]
theorem Awj (n:B8):((GF n).map Rn).sum=Aj n:=by
 induction n using Gl with
 | h n c kids a=>
  rw[Ul,Tt,CP,DW,NY,Vr a];simp only[Rn]
theorem v8 (l:List B8):((Ed l).map Rn).sum=Bz l:=by
 unfold Ed Bz;rw[NY,Vr (λx _=>Awj x)]
theorem VA (n:B9):Eu [n]=GY n:=by simp[Eu]
theorem U3 (l:List B9)(j:Nat)(h:j<l.length):Eu (l.take (j+1))=Eu (l.take j)++(l[j]::Eu l[j].kids):=by
 unfold Eu;rw[D2 h,CU,E6];simp only[CP,C3,EB,RQ,G4];rw[PE l[j]]
theorem U6 (l:List B8)(j:Nat)(h:j<l.length):Ed (l.take (j+1))=Ed (l.take j)++(l[j]::Ed l[j].kids):=by
 unfold Ed;rw[D2 h,CU,E6];simp only[CP,C3,EB,RQ,G4];rw[Ul l[j]]
theorem NU (l:List B9)(j:Nat):Eu (l.take j)<+:Eu l:=by
 have h:Eu l=Eu (l.take j)++Eu (l.drop j):=by
  unfold Eu;rw[<-E6,<-CU,IG]
 rw[h];exact List.prefix_append _ _
theorem NN (l:List B8)(j:Nat):Ed (l.take j)<+:Ed l:=by
 have h:Ed l=Ed (l.take j)++Ed (l.drop j):=by
  unfold Ed;rw[<-E6,<-CU,IG]
 rw[h];exact List.prefix_append _ _
theorem yh (g:α->Nat){a b:List α}(h:a<+:b):(a.map g).sum<=(b.map g).sum:=by
 obtain⟨c,rfl⟩:=h;rw[CU,GV];omega
theorem wA (n:B8):∀x∈GF n,∀y∈x.kids,y∈GF n:=by
 induction n using Gl with
 | h n c kids g=>
  intro x a y d;rw[Ul] at a ⊢;rcases List.mem_cons.1 a with rfl | a
  ·exact List.mem_cons.2 (.inr (List.mem_flatten.2 ⟨_,List.mem_map.2 ⟨y,d,rfl⟩,by rw[Ul];exact List.mem_cons.2 (.inl rfl)⟩))
  ·obtain⟨l,b,e⟩:=List.mem_flatten.1 a
   obtain⟨z,f,rfl⟩:=List.mem_map.1 b;exact List.mem_cons.2 (.inr (List.mem_flatten.2 ⟨_,b,g z f x e y d⟩))
theorem tQ (l:List B8):∀x∈Ed l,∀y∈x.kids,y∈Ed l:=by
 intro x c y b;obtain⟨m,a,d⟩:=List.mem_flatten.1 c;obtain⟨z,e,rfl⟩:=List.mem_map.1 a;exact List.mem_flatten.2 ⟨_,a,wA z x d y b⟩
theorem v9 (l:List B8):∀x∈l,x∈Ed l:=by
 intro x a;exact List.mem_flatten.2 ⟨_,List.mem_map.2 ⟨x,a,rfl⟩,by rw[Ul];exact List.mem_cons.2 (.inl rfl)⟩
theorem wG (n:B8):Dh n->∀x∈GF n,Dh x:=by
 induction n using Gl with
 | h n c kids g=>
  intro b x a;rw[Ul] at a;rcases List.mem_cons.1 a with rfl | a
  ·exact b
  ·obtain⟨l,e,f⟩:=List.mem_flatten.1 a
   obtain⟨z,d,rfl⟩:=List.mem_map.1 e;exact g z d (((Il b).2.2.2.2) z d) x f
theorem TT (l:List B8)(a:∀x∈l,Dh x):∀x∈Ed l,Dh x:=by
 intro x b;obtain⟨m,d,e⟩:=List.mem_flatten.1 b;obtain⟨z,c,rfl⟩:=List.mem_map.1 d;exact wG z (a z c) x e
theorem Auy (g:α->Nat){l:List α}{x:α}(h:x∈l):g x<=(l.map g).sum:=D9 g l x h
theorem Uf (a b:List Int):Ar (a++b)=if 0<Ar a then Ar a else Ar b:=by
 induction a with
 | nil=>simp[Ar]
 | cons x r c=>
  rw[C4,Ar,Ar,c];by_cases h:0<x
  ·simp[h]
  ·simp[h]
theorem Xt (f:α->List β)(g:β->Int)(l:List α):Ar (((l.map f).flatten).map g)=Ar (l.map (λx=>Ar ((f x).map g))):=by
 induction l with
 | nil=>rfl
 | cons x r a=>
  rw[CP,EB,CU,Uf,a,CP,Ar]
def Im (n:B9):Bool:=
 if n.kind=1 then decide (n.kids.length=0)
 else if n.kind=2\/n.kind=3 then(n.one.op==0 && n.one.args.length==0) && decide (0<n.kids.length)
 else if n.kind=4 then(n.one.op==0 && n.one.args.length==0) && decide (n.kids.length=1)
 else false
def Gg (n:B9):Int:=if Im n then(if n.kind=1 then(if Du n.one.op n.one.args then 0 else 3) else 0) else 2
theorem sf (n:B9):Ar ((GY n).map Gg)=Ai n:=by
 induction n using Gf with
 | h k e kids t=>
  have r:Ar ((GY ⟨k,e,kids⟩).map Gg)=if 0<Gg ⟨k,e,kids⟩ then Gg ⟨k,e,kids⟩ else Ar (kids.map Ai):=by
   rw[PE,CP,Ar,Xt,Vr t]
  rw[r,Oq];unfold Gg Im;simp only;by_cases f:k=1
  ·subst f
   by_cases v:0<kids.length
   ·have j:¬kids.length=0:=by omega
    simp only[if_true,j,decide_false,v];simp
   ·have j:kids.length=0:=by omega
    have i:=List.eq_nil_of_length_eq_zero j;subst i;cases Du e.op e.args<;>simp[Ar]
  ·rw[if_neg f,if_neg f,if_neg f]
   unfold Xx;obtain⟨q,m⟩:=AA (Ar (kids.map Ai))
   rw[<-m];generalize kids.length=lk;generalize e.args.length=la;generalize e.op=op;have c:k<2\/(k=2\/k=3)\/k=4\/4<k:=AQ
   rcases c with c | c | rfl | c
   ·have g:¬(k=2\/k=3):=by omega
    have l:¬k=4:=AQ
    simp[c,g,l]
   ·rw[if_pos c]
    have i:(k==4)=false:=by rw[CS];omega
    have o:decide (k<2)=false:=by rw[FQ];omega
    have u:decide (4<k)=false:=by rw[FQ];omega
    rw[i,o,u];by_cases a:op=0
    ·by_cases b:la=0
     ·by_cases d:lk=0
      ·simp[a,b,d]
      ·have:0<lk:=by omega
       simp[a,b,this,d]
     ·have:0<la:=by omega
      simp[a,b,this]
    ·simp[a]
   ·by_cases a:op=0
    ·by_cases b:la=0
     ·by_cases d:lk=1
      ·simp[a,b,d]
      ·have s:¬(lk:Int)=1:=by omega
       simp[a,b,d,s]
     ·have:0<la:=by omega
      simp[a,b,this]
    ·simp[a]
   ·have g:¬(k=2\/k=3):=by omega
    have l:¬k=4:=AQ
    simp[c,g,l]
def Dv (l:List Elem):Bool:=l.any (λc=>!Gt c.op c.args)
def Cj (a:B8):Int:=
 if Am a.net=false/\0<Ai a.net then Ai a.net
 else if Dv a.coils then 3
 else if a.coils.length=0/\a.kids.length=0 then 5 else 0
def Cf:B8->Int
 | ⟨n,a,kids⟩=>if 0<Cj ⟨n,a,kids⟩ then Cj ⟨n,a,kids⟩ else Ar (kids.map Cf)
theorem Xg (a:B8):Cf a=if 0<Cj a then Cj a else Ar (a.kids.map Cf):=by obtain⟨n,c,kids⟩:=a;rw[Cf]
theorem TU (a:B8):Ar ((GF a).map Cj)=Cf a:=by
 induction a using Gl with
 | h n c kids b=>
  rw[Ul,CP,Ar,Xt,Vr b,Xg]
theorem Ql (a:B8):0<=Cj a/\Cj a<=5:=by
 unfold Cj;have:=La a.net
 split
 ·omega
 ·split
  ·omega
  ·split<;>omega
theorem Qs (a:B8):0<=Cf a/\Cf a<=5:=by
 rw[<-TU];exact Z8 _ (λx b=>by obtain⟨y,c,rfl⟩:=List.mem_map.1 b;exact Ql y)
def Fg (a:B8):Int:=if Am a.net then 4 else Cf a
def Ep:List B8->Nat->Int × Nat
 | [],_=>(0,0)
 | a::r,k=>if 0<Fg a then(Fg a,k) else Ep r (k+1)
def Aw (l:List B8):Int × Nat:=if 40<l.length\/400<Bz l then(1,0) else Ep l 0
theorem Z7 (l:List B8)(j:Nat)(h:j<l.length):Ep (l.drop j) j=if 0<Fg l[j] then(Fg l[j],j) else Ep (l.drop (j+1)) (j+1):=by
 rw[GQ h,Ep]
theorem Ud (a:B8):0<=Fg a/\Fg a<=5:=by
 unfold Fg;split
 ·omega
 ·exact Qs a
theorem Xa (l:List Elem)(j:Nat)(h:j<l.length):Dv (l.drop j)=(!Gt l[j].op l[j].args || Dv (l.drop (j+1))):=by
 rw[GQ h];rfl
theorem YV (f g:α->Nat):∀l:List α,(∀x∈l,f x<=g x)->(l.map f).sum<=(l.map g).sum
 | [],_=>by simp
 | x::r,h=>by
  have:=YV f g r (λy hy=>h y Bt)
  have:=h x AU
  simp only[CP,DW];omega
open Go.Lib
end Stil
namespace Go.Co
section
variable {P : Program}
@[simp] theorem Ahe (h):Calm P (Extern.Rtype.ofHandle h):=by
 unfold Extern.Rtype.ofHandle;exact BB
@[simp] theorem Ajn (t):Calm P (Extern.Rtype.handle t):=by
 unfold Extern.Rtype.handle;exact BB
@[simp] theorem Ajm (what t):Calm P (Extern.Rtype.noPack what t):=by
 unfold Extern.Rtype.noPack;exact BB
@[simp] theorem Aep (what t):Calm P (Extern.Rtype.noPackHeld what t):=by
 unfold Extern.Rtype.noPackHeld;exact BB
@[simp] theorem Aeh (what t):Calm P (Extern.Rtype.noPackNamed what t):=by
 unfold Extern.Rtype.noPackNamed;exact BB
@[simp] theorem Adg (what t):Calm P (Extern.Rtype.noPackMethods what t):=by
 unfold Extern.Rtype.noPackMethods;exact BB
@[simp] theorem Alh (t):Calm P (Extern.Rtype.spelt t):=by
 unfold Extern.Rtype.spelt;exact BB
@[simp] theorem Alg (t):Calm P (Extern.Rtype.under t):=by
 unfold Extern.Rtype.under;exact BB
@[simp] theorem Al9 (t):Calm P (Extern.Rtype.kind t):=by
 unfold Extern.Rtype.kind;exact BB
@[simp] theorem Ah6 (t):Calm P (Extern.Rtype.hasName t):=by
 unfold Extern.Rtype.hasName;exact BB
@[simp] theorem Ali (t):Calm P (Extern.Rtype.elem? t):=by
 unfold Extern.Rtype.elem?;exact BB
@[simp] theorem Aeq (T V):Calm P (Extern.Rtype.implements T V):=by
 unfold Extern.Rtype.implements;exact BB
@[simp] theorem Aac (T V):Calm P (Extern.Rtype.directlyAssignable T V):=by
 unfold Extern.Rtype.directlyAssignable;exact BB
@[simp] theorem Abc (t):Calm P (Extern.ReflectliteType.toType t):=by
 unfold Extern.ReflectliteType.toType;exact BB
@[simp] theorem Aax (x0):Calm P (Extern.ReflectliteType.ofRtype x0):=by
 unfold Extern.ReflectliteType.ofRtype;cases x0
 case agg a=>
  (rcases a with⟨_ | ⟨c,_ | ⟨b,_⟩⟩⟩)
  all_goals
  repeat' first
   | exact Ad
   | exact Or.inl rfl
   | assumption
   | (simp;done)
   | refine Calm.bind ?_ (λ_=>?_)
   | dsimp only
   | refine Calm.map ?_
   | split
   | intro _
 all_goals
  exact cmC
@[simp] theorem Abb (x0):Calm P (Extern.ReflectliteType.typeOf x0):=by
 unfold Extern.ReflectliteType.typeOf;rcases x0 with⟨_ | ⟨a,_ | ⟨c,_ | ⟨b,l⟩⟩⟩⟩
 case cons.nil=>cases a<;>(repeat' first
   | exact Ad
   | exact Or.inl rfl
   | assumption
   | (simp;done)
   | refine Calm.bind ?_ (λ_=>?_)
   | dsimp only
   | refine Calm.map ?_
   | split
   | intro _)
 all_goals
  exact cmC
theorem Pe {f:TypeId->Sem Value}(h1:∀t,Calm P (f t))(a:Array Value):Calm P (Extern.ReflectliteType.method f a):=by
 unfold Extern.ReflectliteType.method;rcases a with⟨_ | ⟨d,_ | ⟨c,_ | ⟨b,l⟩⟩⟩⟩
 all_goals
  repeat' first
   | exact Ad
   | exact Or.inl rfl
   | assumption
   | (simp;done)
   | exact h1 _
   | refine Calm.bind ?_ (λ_=>?_)
   | dsimp only
   | refine Calm.map ?_
   | split
   | intro _
@[simp] theorem Acl (t):Calm P (Extern.ReflectliteType.elem t):=by
 unfold Extern.ReflectliteType.elem;exact cmG
@[simp] theorem Ack (t):Calm P (Extern.ReflectliteType.name t):=by
 unfold Extern.ReflectliteType.name;exact BB
@[simp] theorem Aaw (t):Calm P (Extern.ReflectliteType.pkgPath t):=by
 unfold Extern.ReflectliteType.pkgPath;exact BB
theorem Oj (what:String){f:TypeId->TypeId->Sem Bool}(c:∀t u,Calm P (f t u))(a:Array Value):Calm P (Extern.ReflectliteType.relation what f a):=by
 unfold Extern.ReflectliteType.relation;rcases a with⟨_ | ⟨e,_ | ⟨b,_ | ⟨d,l⟩⟩⟩⟩
 case cons.cons.nil=>cases b<;>(repeat' first
   | exact Ad
   | exact Or.inl rfl
   | assumption
   | (simp;done)
   | exact c _ _
   | refine Calm.bind ?_ (λ_=>?_)
   | dsimp only
   | refine Calm.map ?_
   | split
   | intro _)
 all_goals
  exact cmC
@[simp] theorem Zj (u t):Calm P (Extern.ReflectliteType.implements_ u t):=by
 unfold Extern.ReflectliteType.implements_;exact BB
@[simp] theorem X4 (u t):Calm P (Extern.ReflectliteType.assignableTo u t):=by
 unfold Extern.ReflectliteType.assignableTo;exact BB
theorem N7 {f:TypeId->Sem Value}(h1:∀t,Calm P (f t))(a:Array Value):Calm P (Extern.ReflectliteType.abiMethod f a):=by
 unfold Extern.ReflectliteType.abiMethod;rcases a with⟨_ | ⟨d,_ | ⟨c,_ | ⟨b,l⟩⟩⟩⟩
 all_goals
  repeat' first
   | exact Ad
   | exact Or.inl rfl
   | assumption
   | (simp;done)
   | exact h1 _
   | refine Calm.bind ?_ (λ_=>?_)
   | dsimp only
   | refine Calm.map ?_
   | split
   | intro _
@[simp] theorem Adh (t a flags):Calm P (Extern.ReflectliteValue.mk t a flags):=by
 unfold Extern.ReflectliteValue.mk;exact BB
@[simp] theorem Aav (x0):Calm P (Extern.ReflectliteValue.unpack x0):=by
 unfold Extern.ReflectliteValue.unpack;exact BB
@[simp] theorem Yp {α:Type}(method:String)(k:Nat):Calm P (Extern.ReflectliteValue.valueError method k:Sem α):=by
 unfold Extern.ReflectliteValue.valueError;exact BB
@[simp] theorem Zp (x0):Calm P (Extern.ReflectliteValue.partsAny x0):=by
 unfold Extern.ReflectliteValue.partsAny;cases x0
 case agg c=>
  rcases c with⟨_ | ⟨i,_ | ⟨b,_ | ⟨f,_ | ⟨g,l⟩⟩⟩⟩⟩
  case cons.cons.cons.nil=>
   cases f<;>first | exact Or.inl rfl | skip
   rename_i d a;cases d<;>first | exact Or.inl rfl | skip
   rcases a with(_ | a) | a
   ·exact Ad
   all_goals
    cases b<;>first | exact Or.inl rfl | skip
    rename_i e;cases e<;>first | exact Or.inl rfl | (exact Calm.bind AU λ_=>Ad)
  all_goals
  repeat' first
   | exact Ad
   | exact Or.inl rfl
   | assumption
   | (simp;done)
   | refine Calm.bind ?_ (λ_=>?_)
   | dsimp only
   | refine Calm.map ?_
   | split
   | intro _
 all_goals
  exact cmC
@[simp] theorem Aa9 (x):Calm P (Extern.ReflectliteValue.parts x):=by
 unfold Extern.ReflectliteValue.parts;exact BB
theorem Ov {zero:Sem Value}{f:TypeId->Addr->Nat->Nat->Sem Value}(h:Calm P zero)(c:∀t a x y,Calm P (f t a x y))(b:Array Value):Calm P (Extern.ReflectliteValue.method zero f b):=by
 unfold Extern.ReflectliteValue.method;rcases b with⟨_ | ⟨g,_ | ⟨e,_ | ⟨d,l⟩⟩⟩⟩
 all_goals
  repeat' first
   | exact Ad
   | exact Or.inl rfl
   | assumption
   | (simp;done)
   | exact c _ _ _ _
   | refine Calm.bind ?_ (λ_=>?_)
   | dsimp only
   | refine Calm.map ?_
   | split
   | intro _
theorem Nu {zero:Sem Value}{f:TypeId->Addr->Nat->Nat->Sem Value}(h:Calm P zero)(c:∀t a x y,Calm P (f t a x y))(b:Array Value):Calm P (Extern.ReflectliteValue.methodAny zero f b):=by
 unfold Extern.ReflectliteValue.methodAny;rcases b with⟨_ | ⟨g,_ | ⟨e,_ | ⟨d,l⟩⟩⟩⟩
 all_goals
  repeat' first
   | exact Ad
   | exact Or.inl rfl
   | assumption
   | (simp;done)
   | exact c _ _ _ _
   | refine Calm.bind ?_ (λ_=>?_)
   | dsimp only
   | refine Calm.map ?_
   | split
   | intro _
@[simp] theorem Aba (t a x k):Calm P (Extern.ReflectliteValue.isNil t a x k):=by
 unfold Extern.ReflectliteValue.isNil;exact cmG
@[simp] theorem Acj (t a x k):Calm P (Extern.ReflectliteValue.len t a x k):=by
 unfold Extern.ReflectliteValue.len;exact cmG
@[simp] theorem Ab7 (t a x k):Calm P (Extern.ReflectliteValue.elem t a x k):=by
 unfold Extern.ReflectliteValue.elem;exact cmG
@[simp] theorem Aci (x0):Calm P (Extern.ReflectliteValue.set x0):=by
 unfold Extern.ReflectliteValue.set;rcases x0 with⟨_ | ⟨c,_ | ⟨b,_ | ⟨a,l⟩⟩⟩⟩
 all_goals
  exact cmC
@[simp] theorem Zi (x0):Calm P (Extern.ReflectliteValue.errorText x0):=by
 unfold Extern.ReflectliteValue.errorText;rcases x0 with⟨_ | ⟨a,_ | ⟨c,_ | ⟨b,l⟩⟩⟩⟩
 case cons.nil=>
  cases a
  case pointer o=>cases o<;>(repeat' first
   | exact Ad
   | exact Or.inl rfl
   | assumption
   | (simp;done)
   | refine Calm.bind ?_ (λ_=>?_)
   | dsimp only
   | refine Calm.map ?_
   | split
   | intro _)
  all_goals
  repeat' first
   | exact Ad
   | exact Or.inl rfl
   | assumption
   | (simp;done)
   | refine Calm.bind ?_ (λ_=>?_)
   | dsimp only
   | refine Calm.map ?_
   | split
   | intro _
 all_goals
  exact cmC
@[simp] theorem Aer (x0):Calm P (Extern.AbiNoEscape.same x0):=by
 unfold Extern.AbiNoEscape.same;rcases x0 with⟨_ | ⟨c,_ | ⟨b,_ | ⟨a,l⟩⟩⟩⟩
 all_goals
  exact cmC
@[simp] theorem X5 (ps rs x0):Calm P (Extern.BytealgMakeNoZero.makeNoZero ps rs x0):=by
 unfold Extern.BytealgMakeNoZero.makeNoZero;rcases x0 with⟨_ | ⟨a,_ | ⟨c,_ | ⟨b,l⟩⟩⟩⟩
 case cons.nil=>
  cases a
  case int k n=>cases k<;>(repeat' first
   | exact Ad
   | exact Or.inl rfl
   | assumption
   | (simp;done)
   | refine Calm.bind ?_ (λ_=>?_)
   | dsimp only
   | refine Calm.map ?_
   | split
   | intro _)
  all_goals
  repeat' first
   | exact Ad
   | exact Or.inl rfl
   | assumption
   | (simp;done)
   | refine Calm.bind ?_ (λ_=>?_)
   | dsimp only
   | refine Calm.map ?_
   | split
   | intro _
 all_goals
  exact cmC
@[simp] theorem Aeg (s):Calm P (Extern.RuntimeError.text s):=by
 unfold Extern.RuntimeError.text;exact BB
@[simp] theorem Aab (x0):Calm P (Extern.RuntimeError.boundsError x0):=by
 unfold Extern.RuntimeError.boundsError;rcases x0 with⟨_ | ⟨f,_ | ⟨m,_ | ⟨p,l⟩⟩⟩⟩
 case cons.nil=>
  cases f
  case agg j=>
   rcases j with⟨_ | ⟨d,_ | ⟨i,_ | ⟨e,_ | ⟨c,_ | ⟨q,l⟩⟩⟩⟩⟩⟩
   case cons.cons.cons.cons.nil=>
    cases d<;>first | exact Or.inl rfl | skip
    cases i<;>first | exact Or.inl rfl | skip
    cases e<;>first | exact Or.inl rfl | skip
    cases c<;>first | exact Or.inl rfl | skip
    rename_i k x r y b n code;have key:∀(o:Option String) (g:String->String),Calm P (match o with | some a=>Extern.RuntimeError.text (g a) | none=>stuck "boundsError: no such code"):=λo g=>by cases o<;>first | exact Or.inl rfl | exact Ad
    exact key ((if(b && decide (x<0))=true then Extern.RuntimeError.boundsNegErrorFmts else Extern.RuntimeError.boundsErrorFmts)[code.toNat]?) (λa=> "runtime error: " ++(a.replace "%x" (toString (if b=true then x else IntKind.u64.wrap x))).replace "%y" (toString y))
   all_goals
   repeat' first
   | exact Ad
   | exact Or.inl rfl
   | assumption
   | (simp;done)
   | refine Calm.bind ?_ (λ_=>?_)
   | dsimp only
   | refine Calm.map ?_
   | split
   | intro _
  all_goals
  repeat' first
   | exact Ad
   | exact Or.inl rfl
   | assumption
   | (simp;done)
   | refine Calm.bind ?_ (λ_=>?_)
   | dsimp only
   | refine Calm.map ?_
   | split
   | intro _
 all_goals
  exact cmC
@[simp] theorem Aa8 (v):Calm P (Extern.RuntimeError.described v):=by
 unfold Extern.RuntimeError.described;exact BB
@[simp] theorem Aa7 (i):Calm P (Extern.RuntimeError.pkgpathOf i):=by
 unfold Extern.RuntimeError.pkgpathOf;exact BB
@[simp] theorem Xe (args):Calm P (Extern.RuntimeError.typeAssertionError args):=by
 unfold Extern.RuntimeError.typeAssertionError;exact BB
@[simp] theorem V8 (x0):Calm P (Extern.RuntimeError.unhashableTypeError x0):=by
 unfold Extern.RuntimeError.unhashableTypeError;rcases x0 with⟨_ | ⟨b,_ | ⟨f,_ | ⟨c,l⟩⟩⟩⟩
 case cons.nil=>
  cases b
  case agg a=>
   (rcases a with⟨_ | ⟨e,_ | ⟨d,_⟩⟩⟩)
   all_goals
   repeat' first
   | exact Ad
   | exact Or.inl rfl
   | assumption
   | (simp;done)
   | refine Calm.bind ?_ (λ_=>?_)
   | dsimp only
   | refine Calm.map ?_
   | split
   | intro _
  all_goals
  repeat' first
   | exact Ad
   | exact Or.inl rfl
   | assumption
   | (simp;done)
   | refine Calm.bind ?_ (λ_=>?_)
   | dsimp only
   | refine Calm.map ?_
   | split
   | intro _
 all_goals
  exact cmC
@[simp] theorem Ach (x0):Calm P (Extern.RuntimeError.nothing x0):=by
 exact Ad
end
end Go.Co
set_option maxHeartbeats 4000000
set_option maxRecDepth 100000
namespace Go.Proofs.YtifcnfeppdbjdaaGreatDoor
open Tryz Stil Go.RowKit Go.Sort Go.BigFrame
theorem F5 {k:IntKind}{a b:Int}(h:a=b):Ending.returned (.int k a)=.returned (.int k b):=by rw[h]
theorem Ae {a b:Bool}(h:a=b):Ending.returned (.bool a)=.returned (.bool b):=by rw[h]
theorem Ef {W w1:World}(a:AO W w1):(∀b o,b<W.heap.size->w1.cell? (AK b o)=W.cell? (AK b o))/\(∀b o,b<W.heap.size->w1.frozen? (AK b o)=W.frozen? (AK b o)):=
 ⟨λb o h=>a.cell (p:=(AK b o)) h,λb o h=>a.frozen (p:=(AK b o)) h⟩
theorem Aa (w:World)(o:Obj):AO w (w.alloc o):=(Below.refl _ _).alloc (CG _) o
theorem Vl {P:Program}{f:FuncId}{args:Array Value}{w:World}{v:Value}(h:Calls P f args w λe a=>e=.returned v/\a=w):Calls P f args w (AN w v):=
 h.mono λ_ _ ⟨b,c⟩=>⟨b,by rw[c];exact Below.refl _ _⟩
theorem Ya (k:Int)(w:World):
  Calls prog 109 #[.int .i64 k] w λe a=>e=.returned (.int .i64 (Jd k))/\a=w:=by
 go_enter func109,ntmps109
 go_wp2
 all_goals go_ret
 all_goals (refine⟨F5 ?_,rfl⟩;simp only[EC,CS] at*;unfold Jd;simp[*])
theorem JP (k n p:Int)(w:World)(o:-9223372036854775808<=n)(s:n<=9223372036854775807):
  Calls prog 130 #[.agg #[AB k,AB n,AB p]] w (AN w (.bool (Ih k n p))):=by
 have g:(w.alloc (Obj.cells #[AB k,AB n,AB p] 55)).cell? (AL w 0)=some (AB k):=by simp[go_sem]
 have d:(w.alloc (Obj.cells #[AB k,AB n,AB p] 55)).cell? (AL w 1)=some (AB n):=by simp[go_sem]
 have f:(w.alloc (Obj.cells #[AB k,AB n,AB p] 55)).cell? (AL w 2)=some (AB p):=by simp[go_sem]
 have m:=cell_regrown g;have u:=cell_regrown d;have r:=cell_regrown f;clear g d f;go_enter func130,ntmps130
 go_wp2
 rotate_right 1
 focus
  by_cases i:0<=n
  ·by_cases j:n<Jd k
   ·refine wp_region_quiet_below AX AX ?_
    repeat (go_big_quiet_step ((exact Calls.regrown_of (Vl (Ya _ _)))))
    refine wpQuiet_nil ?_;intro _ c;obtain⟨⟨b,osq⟩,a⟩:=c;subst a
    go_wp2
    go_ret;refine⟨Ae ?_,(Aa _ _).trans ((below_regrown _ b osq).mono AU)⟩;go_light;simp only[CS] at*
    (rw[DY];simp[Ih, *];try omega)
   ·have t:decide (n<Jd k)=false:=by simpa using j
    refine wp_region_quiet_below AX AX ?_;repeat (go_big_quiet_step ((exact Calls.regrown_of (Vl (Ya _ _)))))
    refine wpQuiet_nil ?_;intro _ c;obtain⟨⟨b,osq⟩,a⟩:=c;subst a
    go_wp2
    go_ret;refine⟨Ae ?_,(Aa _ _).trans ((below_regrown _ b osq).mono AU)⟩;go_light;simp only[CS] at*
    (rw[DY];simp[Ih, *];try omega)
  ·have q:decide (0<=n)=false:=by simpa using i
   refine wp_region_quiet_below AX AX ?_;repeat (go_big_quiet_step ((exact Calls.regrown_of (Vl (Ya _ _)))))
   refine wpQuiet_nil ?_;intro _ c;obtain⟨⟨b,osq⟩,a⟩:=c;subst a
   go_wp2
   go_ret;refine⟨Ae ?_,(Aa _ _).trans ((below_regrown _ b osq).mono AU)⟩;go_light;simp only[CS] at*
   (rw[DY];simp[Ih, *];try omega)
 all_goals go_ret
 all_goals (refine⟨Ae ?_,Aa _ _⟩)
 all_goals go_light
 all_goals simp only[EC,CS] at*
 all_goals (rw[DY];simp[Ih, *];try omega)
theorem Uj {w w1:World}{o:Obj}(a:Below (w.alloc o).heap.size (w.alloc o) w1):AO w w1:=(Aa w o).trans (a.mono AU)
theorem Y4 (k n p:Int)(w:World)(d:-9223372036854775808<=n)(c:n<=9223372036854775807):
  Calls prog 129 #[.agg #[AB k,AB n,AB p]] w (AN w (.bool (Rj k n p))):=by
 cases h:Ih k n p;all_goals
  go_enter func129,ntmps129
  go_wp2_with (go_at_call 130;refine(JP _ _ _ _ d c).mono ?_;rintro e a ⟨rfl,b⟩;obtain⟨g,f⟩:=Ef b)
  all_goals go_ret
  all_goals (refine⟨Ae ?_,Uj BD⟩)
  all_goals go_light
  all_goals (rw[Rj,h,DY];clear h;simp[*];try omega)
theorem Ux (k n p:Int)(w:World)(d:-9223372036854775808<=n)(c:n<=9223372036854775807):
  Calls prog 97 #[.agg #[AB k,AB n,AB p]] w (AN w (.bool (Je k n p))):=by
 cases h:Ih k n p;all_goals
  go_enter func97,ntmps97
  go_wp2_with (go_at_call 130;refine(JP _ _ _ _ d c).mono ?_;rintro e a ⟨rfl,b⟩;obtain⟨g,f⟩:=Ef b)
  all_goals go_ret
  all_goals (refine⟨Ae ?_,Uj BD⟩)
  all_goals go_light
  all_goals (rw[Je,h,DY];clear h;simp[*];try omega)
theorem Wq (k n p:Int)(w:World)(d:-9223372036854775808<=n)(c:n<=9223372036854775807):
  Calls prog 98 #[.agg #[AB k,AB n,AB p]] w (AN w (.bool (J6 k n p))):=by
 cases h:Ih k n p;all_goals
  go_enter func98,ntmps98
  go_wp2_with (go_at_call 130;refine(JP _ _ _ _ d c).mono ?_;rintro e a ⟨rfl,b⟩;obtain⟨g,f⟩:=Ef b)
  all_goals go_ret
  all_goals (refine⟨Ae ?_,Uj BD⟩)
  all_goals go_light
  all_goals (rw[J6,h,DY];clear h;simp[*];try omega)
theorem er {k n p:Int}(h:Ih k n p=true)(h1:k≠11)(e:k≠12)(d:k≠13):1<=k/\k<=10/\0<=n/\n<64/\p=0:=by
 simp only[Ih,if_neg h1,if_neg e,if_neg d,decide_eq_true_eq] at h;obtain⟨a,b,c⟩:=h;unfold Jd at b;split at b
 ·omega
 ·split at b
  ·omega
  ·split at b
   ·omega
   ·split at b<;>omega
theorem KF {w w1:World}{o:Obj}(a:Below (w.alloc o).heap.size (w.alloc o) w1):w.heap.size<w1.heap.size:=by have:=a.size;simp at this;omega
open Go.Co
def KP:List (String × (Array Value->Sem Value)):=Extern.ReflectliteValue.rows++(Extern.ReflectliteType.rows++(Extern.AbiNoEscape.rows++Extern.RuntimeError.rows))
theorem rz (P:Program):∀p∈KP,∀args,Go.Co.Calm P (p.2 args):=by
 intro p a args;simp only[KP,Extern.ReflectliteValue.rows,Extern.ReflectliteType.rows,Extern.AbiNoEscape.rows,Extern.RuntimeError.rows,E7,DF,Da,DK] at a;rcases a with a | a | a | a
 ·rcases a with rfl | rfl | rfl | rfl | rfl | rfl | rfl | rfl | rfl | rfl
  all_goals dsimp only
  all_goals first
   | (simp;done)
   | (refine Ov ?_ (λ_ _ _ _=>?_) _<;>first | exact Ad | (simp;done))
   | (refine Nu ?_ (λ_ _ _ _=>?_) _<;>first | exact Ad | (simp;done))
 ·rcases a with rfl | rfl | rfl | rfl | rfl | rfl | rfl | rfl | rfl | rfl | rfl | rfl
  all_goals dsimp only
  all_goals first
   | (simp;done)
   | (refine Pe (λ_=>?_) _<;>first | (simp;done) | (refine Go.Co.Calm.bind AU λ_=>?_;first | (simp;done) | (refine Go.Co.Calm.bind AU λ_=>?_;exact Ad)))
   | (refine Oj _ (λ_ _=>?_) _<;>(simp;done))
   | (refine N7 (λ_=>?_) _<;>first | (simp;done) | (refine Go.Co.Calm.bind AU λ_=>?_;first | exact Ad | (simp;done) | (refine Go.Co.Calm.bind AU λ_=>?_;exact Ad)))
   | (refine Go.Co.Calm.bind AU λ_=>?_;exact Ad)
 ·rcases a with rfl | rfl | rfl | rfl
  all_goals dsimp only
  all_goals first | (simp;done) | exact Ad
 ·rcases a with rfl | rfl | rfl | rfl | rfl | rfl | rfl | rfl | rfl | rfl | rfl | rfl | rfl | rfl | rfl
  all_goals dsimp only
  all_goals first
   | (simp;done)
   | exact Ad
   | (refine Go.Co.Calm.bind AU λ_=>?_;first | exact Ad | (refine Go.Co.Calm.bind AU λ_=>?_;exact Ad))
def QJ (fn:Func):Option (Array Value->Sem Value):=match KP.lookup fn.name with
 | some e=>some e
 | none=>if fn.name= "internal/bytealg.MakeNoZero" then some (Extern.BytealgMakeNoZero.makeNoZero fn.params fn.resultTypes) else none
theorem r6 (P:Program)(fn:Func)(e:Array Value->Sem Value)(h:QJ fn=some e)(args:Array Value):Go.Co.Calm P (e args):=by
 unfold QJ at h;split at h
 ·rename_i d b
  cases h;have:(fn.name,e)∈KP:=by
   clear args
   revert b
   generalize KP=l;induction l with
   | nil=>intro h;cases h
   | cons p l c=>
    intro h;rw[List.lookup_cons] at h;split at h
    ·rename_i a
     cases h;rw[EC] at a;rw[a];exact E4
    ·exact CQ _ (c h)
  exact rz P _ this args
 ·split at h
  ·cases h
   simp
  ·cases h
theorem Ays:(prog.funcs.toList.all λa=>!(a.name== "runtime.NumGoroutine"))=true:=AX
theorem Ayr:((prog.funcs.toList.filter λa=>a.body.isNone).all λa=>(Extern.findNext a).isNone)=true:=AX
theorem Ayt:(prog.funcs.toList.filter λa=>a.body.isNone).map Extern.find=(prog.funcs.toList.filter λa=>a.body.isNone).map QJ:=AX
theorem okP:OkP prog:=by
 have c:∀(f:Nat) (a:Func),prog.funcs[f]?=some a->a∈prog.funcs.toList:=λf a h=>by
  rw[<-Array.getElem?_toList] at h;exact G2 h
 refine⟨λf a h=>?_,λf a h b=>?_,λf a e h b d args=>?_⟩
 ·have:=List.all_eq_true.1 Ays a (c f a h)
  simpa using this
 ·have:=List.all_eq_true.1 Ayr a (List.mem_filter.2 ⟨c f a h,b⟩)
  simpa using this
 ·have:=List.map_inj_left.1 Ayt a (List.mem_filter.2 ⟨c f a h,b⟩)
  rw[this] at d;exact r6 _ a e d args
