import Derived.Lib.ItoaNum
import Derived.Test.YtmnnkedjoecehaaGreatDoorCA6
import Derived.Test.YtmnnkedjoecehaaGreatDoorChecked
import Derived.WalkSpells
import Derived.WalkLawsBesides
import Derived.BigQuiet
import Derived.Lib.QuietBelow
import Derived.Deep.Light
import Derived.Deep.RegionHeld3
set_option linter.defProp false
set_option maxHeartbeats 4000000
set_option maxRecDepth 100000
namespace Stil
variable {α β:Type}
structure CC where
 kind:Int
 n:Int
 p:Int
def I9 (k:Int):Int:=
 if k=1\/k=2\/k=5\/k=9 then 32 else if k=3 then 64 else if k=4\/k=7\/k=8\/k=10 then 16 else if k=6 then 5 else 0
def H9 (k n p:Int):Bool:=
 if k=11 then decide (-32768<=n/\n<=32767/\p=0)
 else if k=12 then decide (-999999999<=n/\n<=999999999/\1<=p/\p<=6/\(p=1\/n.tmod 10≠0))
 else if k=13 then decide (0<=n/\n<=3/\p=0)
 else decide (0<=n/\n<I9 k/\p=0)
def Ru (k n p:Int):Bool:=H9 k n p && (decide (k<=4) || k==6 || k==7 || k==8)
def Ja (k n p:Int):Bool:=H9 k n p && (k==7 || k==8 || k==9 || k==11)
def J4 (k n p:Int):Bool:=H9 k n p && (k==10 || k==12 || k==13)
def letters:List UInt8:=[88,89,77,83,69,71,84,67,68,82]
def Rt (k:Int):ByteArray:=if 1<=k/\k<=10 then⟨#[letters.getD (k.toNat - 1) 0]⟩ else⟨#[]⟩
def arity (op:Int):Int:=
 if op=1\/op=2\/op=21\/op=22\/op=23\/op=25 then 1
 else if 31<=op/\op<=35 then 3
 else if(1<=op/\op<=10)\/(21<=op/\op<=37) then 2 else 0
def CC.ok (d:CC):Bool:=H9 d.kind d.n d.p
def CC.isBit (d:CC):Bool:=Ru d.kind d.n d.p
def CC.isWhole (d:CC):Bool:=Ja d.kind d.n d.p
def CC.isReal (d:CC):Bool:=J4 d.kind d.n d.p
def Ol (k n p a b:Int):Bool:=H9 k n p && (k==a || k==b)
def CC.kindIs (d:CC)(a b:Int):Bool:=Ol d.kind d.n d.p a b
def CC.fits (d:CC):Prop:=(-9223372036854775808<=d.kind/\d.kind<=9223372036854775807)/\(-9223372036854775808<=d.n/\d.n<=9223372036854775807)/\(-9223372036854775808<=d.p/\d.p<=9223372036854775807)
def Dw (op:Int)(c:List CC):Bool:=
 if op<1\/10<op then false
 else match c with
  | [a]=>decide (op<=2) && a.isBit
  | [a,b]=>
   if op<=2 then false
   else if op<=4 then a.isBit && b.ok && b.kind==5
   else a.isWhole && b.isWhole || a.isReal && b.isReal
  | _=>false
def Ov (whole:Bool)(l:List CC):Bool:=if whole then l.all CC.isWhole else l.all CC.isReal
def FM (op:Int):List CC->Bool
 | []=>false
 | d::r=>d.kindIs 9 10 && Ov (d.kind==9) r && (d.kind==9 || op !=35)
def Gj (op:Int)(c:List CC):Bool:=
 if op<21\/37<op\/(c.length:Int)≠arity op then false
 else match c with
  | [a]=>if op=21 then a.kindIs 2 3 else if op=22 then a.kindIs 2 3 || a.kindIs 4 4 else if op=23 then a.kindIs 2 3 || a.kindIs 4 7 || a.kindIs 8 8 else a.kindIs 4 4
  | [a,b]=>
   if op=24 then a.kindIs 2 3 && b.kindIs 5 5
   else if op=26\/op=27\/op=28 then a.kindIs 7 7 && b.kindIs 11 11 && decide (0<=b.n)
   else if op=29 then a.kindIs 8 8 && b.kindIs 11 11 && decide (0<=b.n)
   else if op=36 then a.kindIs 10 10 && b.isWhole
   else if op=37 then a.kindIs 9 9 && b.isReal
   else FM op c
  | _=>FM op c
structure Elem where
 op:Int
 args:List CC
structure B8 where
 kind:Int
 one:Elem
 kids:List B8
structure B9 where
 net:B8
 coils:List Elem
 kids:List B9
theorem Fp (P:B8->Prop)(h:∀k o kids,(∀x∈kids,P x)->P ⟨k,o,kids⟩):∀n,P n
 | ⟨k,o,kids⟩=>h k o kids (λx _=>Fp P h x)
theorem Fq (P:B9->Prop)(h:∀n c kids,(∀x∈kids,P x)->P ⟨n,c,kids⟩):∀n,P n
 | ⟨k,o,kids⟩=>h k o kids (λx _=>Fq P h x)
def Ai:B8->Nat
 | ⟨_,_,kids⟩=>1+(kids.map Ai).sum
def Qi (k:Int)(o:Elem)(kids:List B8):Ai ⟨k,o,kids⟩=1+(kids.map Ai).sum:=by rw[Ai]
def Am (n:B8):Bool:=n.kind==0 && n.one.op==0 && n.one.args.length==0 && n.kids.length==0
def Ak:B9->Nat
 | ⟨n,a,kids⟩=>1+a.length+(if Am n then 0 else Ai n)+(kids.map Ak).sum
def Ug (n:B8)(a:List Elem)(kids:List B9):Ak ⟨n,a,kids⟩=1+a.length+(if Am n then 0 else Ai n)+(kids.map Ak).sum:=by rw[Ak]
def Aw (l:List B9):Nat:=(l.map Ak).sum
def i64 (n:Int):Prop:=-9223372036854775808<=n/\n<=9223372036854775807
def Elem.fits (e:Elem):Prop:=i64 e.op/\e.args.length<=1048576/\∀d∈e.args,d.fits
def all_map (f:α->Prop)(l:List α):(∀p∈l.map f,p)↔∀x∈l,f x:=by
 constructor
 ·intro h x a;exact h _ (List.mem_map.2 ⟨x,a,rfl⟩)
 ·intro h p b;obtain⟨x,a,rfl⟩:=List.mem_map.1 b;exact h x a
def Dz:B8->Prop
 | ⟨k,e,kids⟩=>i64 k/\e.fits/\kids.length<=1048576/\∀p∈kids.map Dz,p
def Lc (k:Int)(e:Elem)(kids:List B8):Dz ⟨k,e,kids⟩↔i64 k/\e.fits/\kids.length<=1048576/\∀x∈kids,Dz x:=by rw[Dz,all_map]
def Dh:B9->Prop
 | ⟨n,a,kids⟩=>Dz n/\a.length<=1048576/\(∀c∈a,c.fits)/\kids.length<=1048576/\∀p∈kids.map Dh,p
def Fz (n:B8)(a:List Elem)(kids:List B9):Dh ⟨n,a,kids⟩↔Dz n/\a.length<=1048576/\(∀c∈a,c.fits)/\kids.length<=1048576/\∀x∈kids,Dh x:=by rw[Dh,all_map]
def D5 {n:B8}(h:Dz n):i64 n.kind/\n.one.fits/\n.kids.length<=1048576/\∀x∈n.kids,Dz x:=by obtain⟨_,_,_⟩:=n;exact(Lc _ _ _).1 h
def Ih {n:B9}(h:Dh n):Dz n.net/\n.coils.length<=1048576/\(∀c∈n.coils,c.fits)/\n.kids.length<=1048576/\∀x∈n.kids,Dh x:=by obtain⟨_,_,_⟩:=n;exact(Fz _ _ _).1 h
def G9:B8->Nat
 | ⟨_,e,kids⟩=>e.args.length+(kids.length+(kids.map G9).sum)
def Fa (k:Int)(e:Elem)(kids:List B8):G9 ⟨k,e,kids⟩=e.args.length+(kids.length+(kids.map G9).sum):=by rw[G9]
def Qd (e:Elem):Nat:=e.args.length
def Gu (l:List Elem):Nat:=l.length+(l.map Qd).sum
def Gt:B9->Nat
 | ⟨n,a,kids⟩=>G9 n+(Gu a+(kids.length+(kids.map Gt).sum))
def Gm (n:B8)(a:List Elem)(kids:List B9):Gt ⟨n,a,kids⟩=G9 n+(Gu a+(kids.length+(kids.map Gt).sum)):=by rw[Gt]
theorem Eb (f:α->Nat):∀(l:List α) (x:α),x∈l->f x<=(l.map f).sum
 | y::r,x,h=>by
  rw[CQ,DO];rcases List.mem_cons.1 h with rfl | h
  ·omega
  ·have:=Eb f r x h;omega
def Elem.wf (e:Elem):Prop:=i64 e.op/\e.args.length<=9223372036854775807/\∀d∈e.args,d.fits
def IP:B8->Prop
 | ⟨k,e,kids⟩=>i64 k/\e.wf/\kids.length<=9223372036854775807/\∀p∈kids.map IP,p
def eA (k:Int)(e:Elem)(kids:List B8):IP ⟨k,e,kids⟩↔i64 k/\e.wf/\kids.length<=9223372036854775807/\∀x∈kids,IP x:=by rw[IP,all_map]
def KE:B9->Prop
 | ⟨n,a,kids⟩=>IP n/\a.length<=9223372036854775807/\(∀c∈a,c.wf)/\kids.length<=9223372036854775807/\∀p∈kids.map KE,p
def eK (n:B8)(a:List Elem)(kids:List B9):KE ⟨n,a,kids⟩↔IP n/\a.length<=9223372036854775807/\(∀c∈a,c.wf)/\kids.length<=9223372036854775807/\∀x∈kids,KE x:=by rw[KE,all_map]
def WB {e:Elem}(h:e.wf)(a:Qd e<=1048576):e.fits:=⟨h.1,a,h.2.2⟩
def wy (n:B8):IP n->G9 n<=1048576->Dz n:=by
 induction n using Fp with
 | h k e kids d=>
  intro h b;obtain⟨g,c,i,f⟩:=(eA _ _ _).1 h;rw[Fa] at b;refine(Lc _ _ _).2 ⟨g,WB c (by unfold Qd;omega),AQ,λx a=>d x a (f x a) ?_⟩;have:=Eb G9 kids x a
  omega
def Awx (n:B9):KE n->Gt n<=1048576->Dh n:=by
 induction n using Fq with
 | h n a kids i=>
  intro h f;obtain⟨j,k,e,l,g⟩:=(eK _ _ _).1 h;rw[Gm] at f;have m:Gu a=a.length+(a.map Qd).sum:=rfl;refine(Fz _ _ _).2 ⟨wy n j AQ,AQ,λc d=>WB (e c d) ?_,AQ,λx b=>i x b (g x b) ?_⟩
  ·have:=Eb Qd a c d
   omega
  ·have:=Eb Gt kids x b
   omega
def Auz (n:B8):Ai n<=1+G9 n:=by
 induction n using Fp with
 | h k e kids b=>
  rw[Qi,Fa];have:∀l:List B8,(∀x∈l,Ai x<=1+G9 x)->(l.map Ai).sum<=l.length+(l.map G9).sum:=by
   intro l;induction l with
   | nil=>intro _;simp
   | cons y r a=>
    intro h;have d:=h y AU;have c:=a (λx hx=>h x BQ);simp only[CQ,DO,CH];omega
  have:=this kids b
  omega
theorem Awv (n:B9):Ak n<=2+2*Gt n:=by
 induction n using Fq with
 | h n a kids d=>
  rw[Ug,Gm];have:∀l:List B9,(∀x∈l,Ak x<=2+2*Gt x)->(l.map Ak).sum<=2*l.length+2*(l.map Gt).sum:=by
   intro l;induction l with
   | nil=>intro _;simp
   | cons y r b=>
    intro h;have e:=h y AU;have c:=b (λx hx=>h x BQ);simp only[CQ,DO,CH];omega
  have e:=this kids d;have c:=Auz n;have f:Gu a=a.length+(a.map Qd).sum:=rfl;split<;>omega
def Az:List Int->Int
 | []=>0
 | c::r=>if 0<c then c else Az r
def Ye (k op:Int)(b a:Nat):Bool:=decide (k<2) || decide (4<k) || op !=0 || decide ((0:Int)<(b:Int)) || (a:Int)==0 || (k==4 && (a:Int) !=1)
def Aj:B8->Int
 | ⟨k,e,kids⟩=>
  if k=1 then(if 0<kids.length then 2 else if Dw e.op e.args then 0 else 3)
  else if Ye k e.op e.args.length kids.length then 2 else Az (kids.map Aj)
def Ox (k:Int)(e:Elem)(kids:List B8):Aj ⟨k,e,kids⟩=if k=1 then(if 0<kids.length then 2 else if Dw e.op e.args then 0 else 3)
  else if Ye k e.op e.args.length kids.length then 2 else Az (kids.map Aj):=by rw[Aj]
def TR (l:List Int)(h:∀x∈l,0<=x/\x<=5):0<=Az l/\Az l<=5:=by
 induction l with
 | nil=>simp[Az]
 | cons x r a=>
  unfold Az;split
  ·have:=h x AU;omega
  ·exact a (λy hy=>h y BN)
def La (n:B8):0<=Aj n/\Aj n<=5:=by
 induction n using Fp with
 | h k e kids b=>
  rw[Ox];split
  ·split
   ·omega
   ·split<;>omega
  ·split
   ·omega
   ·exact TR _ (λx c=>by obtain⟨y,a,rfl⟩:=List.mem_map.1 c;exact b y a)
def HO:B8->List B8
 | ⟨k,e,kids⟩=>⟨k,e,kids⟩::(kids.map HO).flatten
def PL (n:B8):HO n=n::(n.kids.map HO).flatten:=by obtain⟨k,e,kids⟩:=n;rw[HO]
def Ey (l:List B8):List B8:=(l.map HO).flatten
def GV:B9->List B9
 | ⟨n,c,kids⟩=>⟨n,c,kids⟩::(kids.map GV).flatten
def Ux (n:B9):GV n=n::(n.kids.map GV).flatten:=by obtain⟨k,e,kids⟩:=n;rw[GV]
def Ef (l:List B9):List B9:=(l.map GV).flatten
def Ry (a:B9):Nat:=1+a.coils.length+(if Am a.net then 0 else Ai a.net)
theorem WA (f:α->List β):∀l:List α,((l.map f).flatten).length=(l.map (λx=>(f x).length)).sum
 | []=>rfl
 | x::r=>by simp[WA f r]
def Wh {f g:α->β}{l:List α}(h:∀x∈l,f x=g x):l.map f=l.map g:=JU h
def wj (n:B8):(HO n).length=Ai n:=by
 induction n using Fp with
 | h k e kids a=>
  rw[PL,Qi,CH,WA,Wh a];omega
theorem NW (f:α->List β)(g:β->Nat):∀l:List α,(((l.map f).flatten).map g).sum=(l.map (λx=>((f x).map g).sum)).sum
 | []=>rfl
 | x::r=>by rw[CQ,D3,CU,GF,NW f g r,CQ,DO]
def Aww (n:B9):((GV n).map Ry).sum=Ak n:=by
 induction n using Fq with
 | h n c kids a=>
  rw[Ux,Ug,CQ,DO,NW,Wh a];simp only[Ry]
def vw (l:List B9):((Ef l).map Ry).sum=Aw l:=by
 unfold Ef Aw;rw[NW,Wh (λx _=>Aww x)]
def VQ (n:B8):Ey [n]=HO n:=by simp[Ey]
def Vd (l:List B8)(j:Nat)(h:j<l.length):Ey (l.take (j+1))=Ey (l.take j)++(l[j]::Ey l[j].kids):=by
 unfold Ey;rw[EB h,CU,FD];simp only[CQ,C6,D3,ND,GI];rw[PL l[j]]
def Vg (l:List B9)(j:Nat)(h:j<l.length):Ef (l.take (j+1))=Ef (l.take j)++(l[j]::Ef l[j].kids):=by
 unfold Ef;rw[EB h,CU,FD];simp only[CQ,C6,D3,ND,GI];rw[Ux l[j]]
def Nn (l:List B8)(j:Nat):Ey (l.take j)<+:Ey l:=by
 have h:Ey l=Ey (l.take j)++Ey (l.drop j):=by
  unfold Ey;rw[<-FD,<-CU,IA]
 rw[h];exact List.prefix_append _ _
def N2 (l:List B9)(j:Nat):Ef (l.take j)<+:Ef l:=by
 have h:Ef l=Ef (l.take j)++Ef (l.drop j):=by
  unfold Ef;rw[<-FD,<-CU,IA]
 rw[h];exact List.prefix_append _ _
def yh (g:α->Nat){a b:List α}(h:a<+:b):(a.map g).sum<=(b.map g).sum:=by
 obtain⟨c,rfl⟩:=h;rw[CU,GF];omega
theorem vy (n:B9):∀x∈GV n,∀y∈x.kids,y∈GV n:=by
 induction n using Fq with
 | h n c kids f=>
  intro x a y b;rw[Ux] at a ⊢;rcases List.mem_cons.1 a with rfl | a
  ·exact List.mem_cons.2 (.inr (List.mem_flatten.2 ⟨_,List.mem_map.2 ⟨y,b,rfl⟩,by rw[Ux];exact List.mem_cons.2 (.inl rfl)⟩))
  ·obtain⟨l,d,e⟩:=List.mem_flatten.1 a
   obtain⟨z,g,rfl⟩:=List.mem_map.1 d;exact List.mem_cons.2 (.inr (List.mem_flatten.2 ⟨_,d,f z g x e y b⟩))
def sr (l:List B9):∀x∈Ef l,∀y∈x.kids,y∈Ef l:=by
 intro x d y b;obtain⟨m,a,c⟩:=List.mem_flatten.1 d;obtain⟨z,e,rfl⟩:=List.mem_map.1 a;exact List.mem_flatten.2 ⟨_,a,vy z x c y b⟩
def vx (l:List B9):∀x∈l,x∈Ef l:=by
 intro x a;exact List.mem_flatten.2 ⟨_,List.mem_map.2 ⟨x,a,rfl⟩,by rw[Ux];exact List.mem_cons.2 (.inl rfl)⟩
theorem v8 (n:B9):Dh n->∀x∈GV n,Dh x:=by
 induction n using Fq with
 | h n c kids f=>
  intro b x a;rw[Ux] at a;rcases List.mem_cons.1 a with rfl | a
  ·exact b
  ·obtain⟨l,g,e⟩:=List.mem_flatten.1 a
   obtain⟨z,d,rfl⟩:=List.mem_map.1 g;exact f z d (((Ih b).2.2.2.2) z d) x e
def UX (l:List B9)(b:∀x∈l,Dh x):∀x∈Ef l,Dh x:=by
 intro x e;obtain⟨m,a,c⟩:=List.mem_flatten.1 e;obtain⟨z,d,rfl⟩:=List.mem_map.1 a;exact v8 z (b z d) x c
def xR (g:α->Nat){l:List α}{x:α}(h:x∈l):g x<=(l.map g).sum:=Eb g l x h
theorem Ur (a b:List Int):Az (a++b)=if 0<Az a then Az a else Az b:=by
 induction a with
 | nil=>simp[Az]
 | cons x r c=>
  rw[C4,Az,Az,c];by_cases h:0<x
  ·simp[h]
  ·simp[h]
def Ya (f:α->List β)(g:β->Int)(l:List α):Az (((l.map f).flatten).map g)=Az (l.map (λx=>Az ((f x).map g))):=by
 induction l with
 | nil=>rfl
 | cons x r a=>
  rw[CQ,D3,CU,Ur,a,CQ,Az]
def IZ (n:B8):Bool:=
 if n.kind=1 then decide (n.kids.length=0)
 else if n.kind=2\/n.kind=3 then(n.one.op==0 && n.one.args.length==0) && decide (0<n.kids.length)
 else if n.kind=4 then(n.one.op==0 && n.one.args.length==0) && decide (n.kids.length=1)
 else false
def F6 (n:B8):Int:=if IZ n then(if n.kind=1 then(if Dw n.one.op n.one.args then 0 else 3) else 0) else 2
theorem sg (n:B8):Az ((HO n).map F6)=Aj n:=by
 induction n using Fp with
 | h k e kids t=>
  have v:Az ((HO ⟨k,e,kids⟩).map F6)=if 0<F6 ⟨k,e,kids⟩ then F6 ⟨k,e,kids⟩ else Az (kids.map Aj):=by
   rw[PL,CQ,Az,Ya,Wh t]
  rw[v,Ox];unfold F6 IZ;simp only;by_cases f:k=1
  ·subst f
   by_cases m:0<kids.length
   ·have j:¬kids.length=0:=by omega
    simp only[if_true,j,decide_false,m];simp
   ·have j:kids.length=0:=by omega
    have l:=List.eq_nil_of_length_eq_zero j;subst l;cases Dw e.op e.args<;>simp[Az]
  ·rw[if_neg f,if_neg f,if_neg f]
   unfold Ye;obtain⟨q,r⟩:=AA (Az (kids.map Aj))
   rw[<-r];generalize kids.length=lk;generalize e.args.length=la;generalize e.op=op;have b:k<2\/(k=2\/k=3)\/k=4\/4<k:=AQ
   rcases b with b | b | rfl | b
   ·have g:¬(k=2\/k=3):=by omega
    have i:¬k=4:=AQ
    simp[b,g,i]
   ·rw[if_pos b]
    have l:(k==4)=false:=by rw[CS];omega
    have o:decide (k<2)=false:=by rw[Ft];omega
    have u:decide (4<k)=false:=by rw[Ft];omega
    rw[l,o,u];by_cases a:op=0
    ·by_cases c:la=0
     ·by_cases d:lk=0
      ·simp[a,c,d]
      ·have:0<lk:=by omega
       simp[a,c,this,d]
     ·have:0<la:=by omega
      simp[a,c,this]
    ·simp[a]
   ·by_cases a:op=0
    ·by_cases c:la=0
     ·by_cases d:lk=1
      ·simp[a,c,d]
      ·have s:¬(lk:Int)=1:=by omega
       simp[a,c,d,s]
     ·have:0<la:=by omega
      simp[a,c,this]
    ·simp[a]
   ·have g:¬(k=2\/k=3):=by omega
    have i:¬k=4:=AQ
    simp[b,g,i]
def Dy (l:List Elem):Bool:=l.any (λc=>!Gj c.op c.args)
def Dc (a:B9):Int:=
 if Am a.net=false/\0<Aj a.net then Aj a.net
 else if Dy a.coils then 3
 else if a.coils.length=0/\a.kids.length=0 then 5 else 0
def Cm:B9->Int
 | ⟨n,a,kids⟩=>if 0<Dc ⟨n,a,kids⟩ then Dc ⟨n,a,kids⟩ else Az (kids.map Cm)
def Xv (a:B9):Cm a=if 0<Dc a then Dc a else Az (a.kids.map Cm):=by obtain⟨n,c,kids⟩:=a;rw[Cm]
def UY (a:B9):Az ((GV a).map Dc)=Cm a:=by
 induction a using Fq with
 | h n c kids b=>
  rw[Ux,CQ,Az,Ya,Wh b,Xv]
def Qs (a:B9):0<=Dc a/\Dc a<=5:=by
 unfold Dc;have:=La a.net
 split
 ·omega
 ·split
  ·omega
  ·split<;>omega
def Q7 (a:B9):0<=Cm a/\Cm a<=5:=by
 rw[<-UY];exact TR _ (λx b=>by obtain⟨y,c,rfl⟩:=List.mem_map.1 b;exact Qs y)
def D9 (a:B9):Int:=if Am a.net then 4 else Cm a
def Dx:List B9->Nat->Int × Nat
 | [],_=>(0,0)
 | a::r,k=>if 0<D9 a then(D9 a,k) else Dx r (k+1)
def Ah (l:List B9):Int × Nat:=if 40<l.length\/400<Aw l then(1,0) else Dx l 0
def TQ (l:List B9)(j:Nat)(h:j<l.length):Dx (l.drop j) j=if 0<D9 l[j] then(D9 l[j],j) else Dx (l.drop (j+1)) (j+1):=by
 rw[F3 h,Dx]
def Px (a:B9):0<=D9 a/\D9 a<=5:=by
 unfold D9;split
 ·omega
 ·exact Q7 a
def Xq (l:List Elem)(j:Nat)(h:j<l.length):Dy (l.drop j)=(!Gj l[j].op l[j].args || Dy (l.drop (j+1))):=by
 rw[F3 h];rfl
theorem ZS (f g:α->Nat):∀l:List α,(∀x∈l,f x<=g x)->(l.map f).sum<=(l.map g).sum
 | [],_=>by simp
 | x::r,h=>by
  have:=ZS f g r (λy hy=>h y BN)
  have:=h x AU
  simp only[CQ,DO];omega
end Stil
namespace Go.Co
section
variable {P:Program}
@[simp] theorem Ahr (h):Calm P (Extern.Rtype.ofHandle h):=by
 unfold Extern.Rtype.ofHandle;exact BA
@[simp] theorem Ajy (t):Calm P (Extern.Rtype.handle t):=by
 unfold Extern.Rtype.handle;exact BA
@[simp] theorem Ajx (what t):Calm P (Extern.Rtype.noPack what t):=by
 unfold Extern.Rtype.noPack;exact BA
@[simp] theorem Ae3 (what t):Calm P (Extern.Rtype.noPackHeld what t):=by
 unfold Extern.Rtype.noPackHeld;exact BA
@[simp] theorem Aeu (what t):Calm P (Extern.Rtype.noPackNamed what t):=by
 unfold Extern.Rtype.noPackNamed;exact BA
@[simp] theorem Adu (what t):Calm P (Extern.Rtype.noPackMethods what t):=by
 unfold Extern.Rtype.noPackMethods;exact BA
@[simp] theorem Alt (t):Calm P (Extern.Rtype.spelt t):=by
 unfold Extern.Rtype.spelt;exact BA
@[simp] theorem Als (t):Calm P (Extern.Rtype.under t):=by
 unfold Extern.Rtype.under;exact BA
@[simp] theorem Aml (t):Calm P (Extern.Rtype.kind t):=by
 unfold Extern.Rtype.kind;exact BA
@[simp] theorem Aip (t):Calm P (Extern.Rtype.hasName t):=by
 unfold Extern.Rtype.hasName;exact BA
@[simp] theorem Alu (t):Calm P (Extern.Rtype.elem? t):=by
 unfold Extern.Rtype.elem?;exact BA
@[simp] theorem Ae4 (T V):Calm P (Extern.Rtype.implements T V):=by
 unfold Extern.Rtype.implements;exact BA
@[simp] theorem Aaq (T V):Calm P (Extern.Rtype.directlyAssignable T V):=by
 unfold Extern.Rtype.directlyAssignable;exact BA
@[simp] theorem Abn (t):Calm P (Extern.ReflectliteType.toType t):=by
 unfold Extern.ReflectliteType.toType;exact BA
@[simp] theorem Aa8 (x0):Calm P (Extern.ReflectliteType.ofRtype x0):=by
 unfold Extern.ReflectliteType.ofRtype;cases x0
 case agg a=>
  (rcases a with⟨_ | ⟨c,_ | ⟨b,_⟩⟩⟩)
  all_goals
  repeat' first
   | exact Ad
   | exact Or.inl rfl
   | assumption
   | (simp;done)
   | refine Calm.bind ?_ (λ_=>?_)
   | dsimp only
   | refine Calm.map ?_
   | split
   | intro _
 all_goals
  exact cmC
@[simp] theorem Abm (x0):Calm P (Extern.ReflectliteType.typeOf x0):=by
 unfold Extern.ReflectliteType.typeOf;rcases x0 with⟨_ | ⟨a,_ | ⟨b,_ | ⟨c,l⟩⟩⟩⟩
 case cons.nil=>cases a<;>(repeat' first
   | exact Ad
   | exact Or.inl rfl
   | assumption
   | (simp;done)
   | refine Calm.bind ?_ (λ_=>?_)
   | dsimp only
   | refine Calm.map ?_
   | split
   | intro _)
 all_goals
  exact cmC
theorem Pq {f:TypeId->Sem Value}(h1:∀t,Calm P (f t))(a:Array Value):Calm P (Extern.ReflectliteType.method f a):=by
 unfold Extern.ReflectliteType.method;rcases a with⟨_ | ⟨c,_ | ⟨b,_ | ⟨d,l⟩⟩⟩⟩
 all_goals
  repeat' first
   | exact Ad
   | exact Or.inl rfl
   | assumption
   | (simp;done)
   | exact h1 _
   | refine Calm.bind ?_ (λ_=>?_)
   | dsimp only
   | refine Calm.map ?_
   | split
   | intro _
@[simp] theorem Ac2 (t):Calm P (Extern.ReflectliteType.elem t):=by
 unfold Extern.ReflectliteType.elem;exact cmG
@[simp] theorem Ac1 (t):Calm P (Extern.ReflectliteType.name t):=by
 unfold Extern.ReflectliteType.name;exact BA
@[simp] theorem Aa7 (t):Calm P (Extern.ReflectliteType.pkgPath t):=by
 unfold Extern.ReflectliteType.pkgPath;exact BA
theorem Ot (what:String){f:TypeId->TypeId->Sem Bool}(c:∀t u,Calm P (f t u))(a:Array Value):Calm P (Extern.ReflectliteType.relation what f a):=by
 unfold Extern.ReflectliteType.relation;rcases a with⟨_ | ⟨d,_ | ⟨b,_ | ⟨e,l⟩⟩⟩⟩
 case cons.cons.nil=>cases b<;>(repeat' first
   | exact Ad
   | exact Or.inl rfl
   | assumption
   | (simp;done)
   | exact c _ _
   | refine Calm.bind ?_ (λ_=>?_)
   | dsimp only
   | refine Calm.map ?_
   | split
   | intro _)
 all_goals
  exact cmC
@[simp] theorem Zz (u t):Calm P (Extern.ReflectliteType.implements_ u t):=by
 unfold Extern.ReflectliteType.implements_;exact BA
@[simp] theorem Yj (u t):Calm P (Extern.ReflectliteType.assignableTo u t):=by
 unfold Extern.ReflectliteType.assignableTo;exact BA
theorem Ob {f:TypeId->Sem Value}(h1:∀t,Calm P (f t))(a:Array Value):Calm P (Extern.ReflectliteType.abiMethod f a):=by
 unfold Extern.ReflectliteType.abiMethod;rcases a with⟨_ | ⟨c,_ | ⟨b,_ | ⟨d,l⟩⟩⟩⟩
 all_goals
  repeat' first
   | exact Ad
   | exact Or.inl rfl
   | assumption
   | (simp;done)
   | exact h1 _
   | refine Calm.bind ?_ (λ_=>?_)
   | dsimp only
   | refine Calm.map ?_
   | split
   | intro _
@[simp] theorem Adv (t a flags):Calm P (Extern.ReflectliteValue.mk t a flags):=by
 unfold Extern.ReflectliteValue.mk;exact BA
@[simp] theorem Aa6 (x0):Calm P (Extern.ReflectliteValue.unpack x0):=by
 unfold Extern.ReflectliteValue.unpack;exact BA
@[simp] theorem Y6 {α:Type}(method:String)(k:Nat):Calm P (Extern.ReflectliteValue.valueError method k:Sem α):=by
 unfold Extern.ReflectliteValue.valueError;exact BA
@[simp] theorem Aaa (x0):Calm P (Extern.ReflectliteValue.partsAny x0):=by
 unfold Extern.ReflectliteValue.partsAny;cases x0
 case agg b=>
  rcases b with⟨_ | ⟨g,_ | ⟨c,_ | ⟨e,_ | ⟨i,l⟩⟩⟩⟩⟩
  case cons.cons.cons.nil=>
   cases e<;>first | exact Or.inl rfl | skip
   rename_i d a;cases d<;>first | exact Or.inl rfl | skip
   rcases a with(_ | a) | a
   ·exact Ad
   all_goals
    cases c<;>first | exact Or.inl rfl | skip
    rename_i f;cases f<;>first | exact Or.inl rfl | (exact Calm.bind AU λ_=>Ad)
  all_goals
  repeat' first
   | exact Ad
   | exact Or.inl rfl
   | assumption
   | (simp;done)
   | refine Calm.bind ?_ (λ_=>?_)
   | dsimp only
   | refine Calm.map ?_
   | split
   | intro _
 all_goals
  exact cmC
@[simp] theorem Abk (x):Calm P (Extern.ReflectliteValue.parts x):=by
 unfold Extern.ReflectliteValue.parts;exact BA
theorem O7 {zero:Sem Value}{f:TypeId->Addr->Nat->Nat->Sem Value}(h:Calm P zero)(c:∀t a x y,Calm P (f t a x y))(b:Array Value):Calm P (Extern.ReflectliteValue.method zero f b):=by
 unfold Extern.ReflectliteValue.method;rcases b with⟨_ | ⟨e,_ | ⟨d,_ | ⟨g,l⟩⟩⟩⟩
 all_goals
  repeat' first
   | exact Ad
   | exact Or.inl rfl
   | assumption
   | (simp;done)
   | exact c _ _ _ _
   | refine Calm.bind ?_ (λ_=>?_)
   | dsimp only
   | refine Calm.map ?_
   | split
   | intro _
theorem Nz {zero:Sem Value}{f:TypeId->Addr->Nat->Nat->Sem Value}(h:Calm P zero)(c:∀t a x y,Calm P (f t a x y))(b:Array Value):Calm P (Extern.ReflectliteValue.methodAny zero f b):=by
 unfold Extern.ReflectliteValue.methodAny;rcases b with⟨_ | ⟨e,_ | ⟨d,_ | ⟨g,l⟩⟩⟩⟩
 all_goals
  repeat' first
   | exact Ad
   | exact Or.inl rfl
   | assumption
   | (simp;done)
   | exact c _ _ _ _
   | refine Calm.bind ?_ (λ_=>?_)
   | dsimp only
   | refine Calm.map ?_
   | split
   | intro _
@[simp] theorem Abl (t a x k):Calm P (Extern.ReflectliteValue.isNil t a x k):=by
 unfold Extern.ReflectliteValue.isNil;exact cmG
@[simp] theorem Ac0 (t a x k):Calm P (Extern.ReflectliteValue.len t a x k):=by
 unfold Extern.ReflectliteValue.len;exact cmG
@[simp] theorem Acn (t a x k):Calm P (Extern.ReflectliteValue.elem t a x k):=by
 unfold Extern.ReflectliteValue.elem;exact cmG
@[simp] theorem Acz (x0):Calm P (Extern.ReflectliteValue.set x0):=by
 unfold Extern.ReflectliteValue.set;rcases x0 with⟨_ | ⟨b,_ | ⟨a,_ | ⟨c,l⟩⟩⟩⟩
 all_goals
  exact cmC
@[simp] theorem Zy (x0):Calm P (Extern.ReflectliteValue.errorText x0):=by
 unfold Extern.ReflectliteValue.errorText;rcases x0 with⟨_ | ⟨a,_ | ⟨b,_ | ⟨c,l⟩⟩⟩⟩
 case cons.nil=>
  cases a
  case pointer o=>cases o<;>(repeat' first
   | exact Ad
   | exact Or.inl rfl
   | assumption
   | (simp;done)
   | refine Calm.bind ?_ (λ_=>?_)
   | dsimp only
   | refine Calm.map ?_
   | split
   | intro _)
  all_goals
  repeat' first
   | exact Ad
   | exact Or.inl rfl
   | assumption
   | (simp;done)
   | refine Calm.bind ?_ (λ_=>?_)
   | dsimp only
   | refine Calm.map ?_
   | split
   | intro _
 all_goals
  exact cmC
@[simp] theorem Ae5 (x0):Calm P (Extern.AbiNoEscape.same x0):=by
 unfold Extern.AbiNoEscape.same;rcases x0 with⟨_ | ⟨b,_ | ⟨a,_ | ⟨c,l⟩⟩⟩⟩
 all_goals
  exact cmC
@[simp] theorem Yk (ps rs x0):Calm P (Extern.BytealgMakeNoZero.makeNoZero ps rs x0):=by
 unfold Extern.BytealgMakeNoZero.makeNoZero;rcases x0 with⟨_ | ⟨a,_ | ⟨b,_ | ⟨c,l⟩⟩⟩⟩
 case cons.nil=>
  cases a
  case int k n=>cases k<;>(repeat' first
   | exact Ad
   | exact Or.inl rfl
   | assumption
   | (simp;done)
   | refine Calm.bind ?_ (λ_=>?_)
   | dsimp only
   | refine Calm.map ?_
   | split
   | intro _)
  all_goals
  repeat' first
   | exact Ad
   | exact Or.inl rfl
   | assumption
   | (simp;done)
   | refine Calm.bind ?_ (λ_=>?_)
   | dsimp only
   | refine Calm.map ?_
   | split
   | intro _
 all_goals
  exact cmC
@[simp] theorem Aet (s):Calm P (Extern.RuntimeError.text s):=by
 unfold Extern.RuntimeError.text;exact BA
@[simp] theorem Aap (x0):Calm P (Extern.RuntimeError.boundsError x0):=by
 unfold Extern.RuntimeError.boundsError;rcases x0 with⟨_ | ⟨j,_ | ⟨n,_ | ⟨p,l⟩⟩⟩⟩
 case cons.nil=>
  cases j
  case agg c=>
   rcases c with⟨_ | ⟨d,_ | ⟨f,_ | ⟨i,_ | ⟨e,_ | ⟨r,l⟩⟩⟩⟩⟩⟩
   case cons.cons.cons.cons.nil=>
    cases d<;>first | exact Or.inl rfl | skip
    cases f<;>first | exact Or.inl rfl | skip
    cases i<;>first | exact Or.inl rfl | skip
    cases e<;>first | exact Or.inl rfl | skip
    rename_i k x q y b m code;have key:∀(o:Option String) (g:String->String),Calm P (match o with | some a=>Extern.RuntimeError.text (g a) | none=>stuck "boundsError: no such code"):=λo g=>by cases o<;>first | exact Or.inl rfl | exact Ad
    exact key ((if(b && decide (x<0))=true then Extern.RuntimeError.boundsNegErrorFmts else Extern.RuntimeError.boundsErrorFmts)[code.toNat]?) (λa=> "runtime error: " ++(a.replace "%x" (toString (if b=true then x else IntKind.u64.wrap x))).replace "%y" (toString y))
   all_goals
   repeat' first
   | exact Ad
   | exact Or.inl rfl
   | assumption
   | (simp;done)
   | refine Calm.bind ?_ (λ_=>?_)
   | dsimp only
   | refine Calm.map ?_
   | split
   | intro _
  all_goals
  repeat' first
   | exact Ad
   | exact Or.inl rfl
   | assumption
   | (simp;done)
   | refine Calm.bind ?_ (λ_=>?_)
   | dsimp only
   | refine Calm.map ?_
   | split
   | intro _
 all_goals
  exact cmC
@[simp] theorem Abj (v):Calm P (Extern.RuntimeError.described v):=by
 unfold Extern.RuntimeError.described;exact BA
@[simp] theorem Abi (i):Calm P (Extern.RuntimeError.pkgpathOf i):=by
 unfold Extern.RuntimeError.pkgpathOf;exact BA
@[simp] theorem Xu (args):Calm P (Extern.RuntimeError.typeAssertionError args):=by
 unfold Extern.RuntimeError.typeAssertionError;exact BA
@[simp] theorem Wy (x0):Calm P (Extern.RuntimeError.unhashableTypeError x0):=by
 unfold Extern.RuntimeError.unhashableTypeError;rcases x0 with⟨_ | ⟨b,_ | ⟨d,_ | ⟨e,l⟩⟩⟩⟩
 case cons.nil=>
  cases b
  case agg a=>
   (rcases a with⟨_ | ⟨f,_ | ⟨c,_⟩⟩⟩)
   all_goals
   repeat' first
   | exact Ad
   | exact Or.inl rfl
   | assumption
   | (simp;done)
   | refine Calm.bind ?_ (λ_=>?_)
   | dsimp only
   | refine Calm.map ?_
   | split
   | intro _
  all_goals
  repeat' first
   | exact Ad
   | exact Or.inl rfl
   | assumption
   | (simp;done)
   | refine Calm.bind ?_ (λ_=>?_)
   | dsimp only
   | refine Calm.map ?_
   | split
   | intro _
 all_goals
  exact cmC
@[simp] theorem Acy (x0):Calm P (Extern.RuntimeError.nothing x0):=by
 exact Ad
end
end Go.Co
namespace Go.Proofs.YtmnnkedjoecehaaGreatDoor
open Tryz Stil Go.RowKit Go.Sort Go.BigFrame
def Fj {k:IntKind}{a b:Int}(h:a=b):Ending.returned (.int k a)=.returned (.int k b):=by rw[h]
def Ae {a b:Bool}(h:a=b):Ending.returned (.bool a)=.returned (.bool b):=by rw[h]
def En {W w1:World}(a:AO W w1):(∀b o,b<W.heap.size->w1.cell? (AK b o)=W.cell? (AK b o))/\(∀b o,b<W.heap.size->w1.frozen? (AK b o)=W.frozen? (AK b o)):=
 ⟨λb o h=>a.cell (p:=(AK b o)) h,λb o h=>a.frozen (p:=(AK b o)) h⟩
def Aa (w:World)(o:Obj):AO w (w.alloc o):=(Below.refl _ _).alloc (CG _) o
def V3 {P:Program}{f:FuncId}{args:Array Value}{w:World}{v:Value}(h:Calls P f args w λe a=>e=.returned v/\a=w):Calls P f args w (AN w v):=
 h.mono λ_ _ ⟨c,b⟩=>⟨c,by rw[b];exact Below.refl _ _⟩
theorem Yo (k:Int)(w:World):
  Calls prog 117 #[.int .i64 k] w λe a=>e=.returned (.int .i64 (I9 k))/\a=w:=by
 go_enter func117,ntmps117
 go_wp2
 all_goals go_ret
 all_goals (refine⟨Fj ?_,rfl⟩;simp only[ED,CS] at*;unfold I9;simp[*])
theorem JX (k n p:Int)(w:World)(o:-9223372036854775808<=n)(r:n<=9223372036854775807):
  Calls prog 137 #[.agg #[AB k,AB n,AB p]] w (AN w (.bool (H9 k n p))):=by
 have d:(w.alloc (Obj.cells #[AB k,AB n,AB p] 111)).cell? (AL w 0)=some (AB k):=by simp[go_sem]
 have f:(w.alloc (Obj.cells #[AB k,AB n,AB p] 111)).cell? (AL w 1)=some (AB n):=by simp[go_sem]
 have g:(w.alloc (Obj.cells #[AB k,AB n,AB p] 111)).cell? (AL w 2)=some (AB p):=by simp[go_sem]
 have t:=cell_regrown d;have m:=cell_regrown f;have s:=cell_regrown g;clear d f g;go_enter func137,ntmps137
 go_wp2
 rotate_right 1
 focus
  by_cases l:0<=n
  ·by_cases i:n<I9 k
   ·refine wp_region_quiet_below AX AX ?_
    repeat (go_big_quiet_step ((exact Calls.regrown_of (V3 (Yo _ _)))))
    refine wpQuiet_nil ?_;intro _ c;obtain⟨⟨b,osq⟩,a⟩:=c;subst a
    go_wp2
    go_ret;refine⟨Ae ?_,(Aa _ _).trans ((below_regrown _ b osq).mono AU)⟩;go_light;simp only[CS] at*
    (rw[DY];simp[H9, *];try omega)
   ·have u:decide (n<I9 k)=false:=by simpa using i
    refine wp_region_quiet_below AX AX ?_;repeat (go_big_quiet_step ((exact Calls.regrown_of (V3 (Yo _ _)))))
    refine wpQuiet_nil ?_;intro _ c;obtain⟨⟨b,osq⟩,a⟩:=c;subst a
    go_wp2
    go_ret;refine⟨Ae ?_,(Aa _ _).trans ((below_regrown _ b osq).mono AU)⟩;go_light;simp only[CS] at*
    (rw[DY];simp[H9, *];try omega)
  ·have q:decide (0<=n)=false:=by simpa using l
   refine wp_region_quiet_below AX AX ?_;repeat (go_big_quiet_step ((exact Calls.regrown_of (V3 (Yo _ _)))))
   refine wpQuiet_nil ?_;intro _ c;obtain⟨⟨b,osq⟩,a⟩:=c;subst a
   go_wp2
   go_ret;refine⟨Ae ?_,(Aa _ _).trans ((below_regrown _ b osq).mono AU)⟩;go_light;simp only[CS] at*
   (rw[DY];simp[H9, *];try omega)
 all_goals go_ret
 all_goals (refine⟨Ae ?_,Aa _ _⟩)
 all_goals go_light
 all_goals simp only[ED,CS] at*
 all_goals (rw[DY];simp[H9, *];try omega)
def Uu {w w1:World}{o:Obj}(a:Below (w.alloc o).heap.size (w.alloc o) w1):AO w w1:=(Aa w o).trans (a.mono AU)
theorem Zk (k n p:Int)(w:World)(d:-9223372036854775808<=n)(c:n<=9223372036854775807):
  Calls prog 136 #[.agg #[AB k,AB n,AB p]] w (AN w (.bool (Ru k n p))):=by
 cases h:H9 k n p;all_goals
  go_enter func136,ntmps136
  go_wp2_with (go_at_call 137;refine(JX _ _ _ _ d c).mono ?_;rintro e a ⟨rfl,b⟩;obtain⟨g,f⟩:=En b)
  all_goals go_ret
  all_goals (refine⟨Ae ?_,Uu BB⟩)
  all_goals go_light
  all_goals (rw[Ru,h,DY];clear h;simp[*];try omega)
theorem U6 (k n p:Int)(w:World)(d:-9223372036854775808<=n)(c:n<=9223372036854775807):
  Calls prog 103 #[.agg #[AB k,AB n,AB p]] w (AN w (.bool (Ja k n p))):=by
 cases h:H9 k n p;all_goals
  go_enter func103,ntmps103
  go_wp2_with (go_at_call 137;refine(JX _ _ _ _ d c).mono ?_;rintro e a ⟨rfl,b⟩;obtain⟨g,f⟩:=En b)
  all_goals go_ret
  all_goals (refine⟨Ae ?_,Uu BB⟩)
  all_goals go_light
  all_goals (rw[Ja,h,DY];clear h;simp[*];try omega)
theorem Xf (k n p:Int)(w:World)(d:-9223372036854775808<=n)(c:n<=9223372036854775807):
  Calls prog 104 #[.agg #[AB k,AB n,AB p]] w (AN w (.bool (J4 k n p))):=by
 cases h:H9 k n p;all_goals
  go_enter func104,ntmps104
  go_wp2_with (go_at_call 137;refine(JX _ _ _ _ d c).mono ?_;rintro e a ⟨rfl,b⟩;obtain⟨g,f⟩:=En b)
  all_goals go_ret
  all_goals (refine⟨Ae ?_,Uu BB⟩)
  all_goals go_light
  all_goals (rw[J4,h,DY];clear h;simp[*];try omega)
def fh {k n p:Int}(h:H9 k n p=true)(h1:k≠11)(e:k≠12)(d:k≠13):1<=k/\k<=10/\0<=n/\n<64/\p=0:=by
 simp only[H9,if_neg h1,if_neg e,if_neg d,decide_eq_true_eq] at h;obtain⟨a,b,c⟩:=h;unfold I9 at b;split at b
 ·omega
 ·split at b
  ·omega
  ·split at b
   ·omega
   ·split at b<;>omega
def KT {w w1:World}{o:Obj}(a:Below (w.alloc o).heap.size (w.alloc o) w1):w.heap.size<w1.heap.size:=by have:=a.size;simp at this;omega
open Go.Co
def KW:List (String × (Array Value->Sem Value)):=Extern.ReflectliteValue.rows++(Extern.ReflectliteType.rows++(Extern.AbiNoEscape.rows++Extern.RuntimeError.rows))
theorem sT (P:Program):∀p∈KW,∀args,Go.Co.Calm P (p.2 args):=by
 intro p a args;simp only[KW,Extern.ReflectliteValue.rows,Extern.ReflectliteType.rows,Extern.AbiNoEscape.rows,Extern.RuntimeError.rows,EN,C7,EA,DR] at a;rcases a with a | a | a | a
 ·rcases a with rfl | rfl | rfl | rfl | rfl | rfl | rfl | rfl | rfl | rfl
  all_goals dsimp only
  all_goals first
   | (simp;done)
   | (refine O7 ?_ (λ_ _ _ _=>?_) _<;>first | exact Ad | (simp;done))
   | (refine Nz ?_ (λ_ _ _ _=>?_) _<;>first | exact Ad | (simp;done))
 ·rcases a with rfl | rfl | rfl | rfl | rfl | rfl | rfl | rfl | rfl | rfl | rfl | rfl
  all_goals dsimp only
  all_goals first
   | (simp;done)
   | (refine Pq (λ_=>?_) _<;>first | (simp;done) | (refine Go.Co.Calm.bind AU λ_=>?_;first | (simp;done) | (refine Go.Co.Calm.bind AU λ_=>?_;exact Ad)))
   | (refine Ot _ (λ_ _=>?_) _<;>(simp;done))
   | (refine Ob (λ_=>?_) _<;>first | (simp;done) | (refine Go.Co.Calm.bind AU λ_=>?_;first | exact Ad | (simp;done) | (refine Go.Co.Calm.bind AU λ_=>?_;exact Ad)))
   | (refine Go.Co.Calm.bind AU λ_=>?_;exact Ad)
 ·rcases a with rfl | rfl | rfl | rfl
  all_goals dsimp only
  all_goals first | (simp;done) | exact Ad
 ·rcases a with rfl | rfl | rfl | rfl | rfl | rfl | rfl | rfl | rfl | rfl | rfl | rfl | rfl | rfl | rfl
  all_goals dsimp only
  all_goals first
   | (simp;done)
   | exact Ad
   | (refine Go.Co.Calm.bind AU λ_=>?_;first | exact Ad | (refine Go.Co.Calm.bind AU λ_=>?_;exact Ad))
def QL (fn:Func):Option (Array Value->Sem Value):=match KW.lookup fn.name with
 | some e=>some e
 | none=>if fn.name= "internal/bytealg.MakeNoZero" then some (Extern.BytealgMakeNoZero.makeNoZero fn.params fn.resultTypes) else none
theorem sU (P:Program)(fn:Func)(e:Array Value->Sem Value)(h:QL fn=some e)(args:Array Value):Go.Co.Calm P (e args):=by
 unfold QL at h;split at h
 ·rename_i d c
  cases h;have:(fn.name,e)∈KW:=by
   clear args
   revert c
   generalize KW=l;induction l with
   | nil=>intro h;cases h
   | cons p l b=>
    intro h;rw[List.lookup_cons] at h;split at h
    ·rename_i a
     cases h;rw[ED] at a;rw[a];exact ET
    ·exact CN _ (b h)
  exact sT P _ this args
 ·split at h
  ·cases h
   simp
  ·cases h
def Ayz:(prog.funcs.toList.all λa=>!(a.name== "runtime.NumGoroutine"))=true:=AX
def Ayy:((prog.funcs.toList.filter λa=>a.body.isNone).all λa=>(Extern.findNext a).isNone)=true:=AX
def Ay0:(prog.funcs.toList.filter λa=>a.body.isNone).map Extern.find=(prog.funcs.toList.filter λa=>a.body.isNone).map QL:=AX
def okP:OkP prog:=by
 have b:∀(f:Nat) (a:Func),prog.funcs[f]?=some a->a∈prog.funcs.toList:=λf a h=>by
  rw[<-Array.getElem?_toList] at h;exact Hv h
 refine⟨λf a h=>?_,λf a h c=>?_,λf a e h c d args=>?_⟩
 ·have:=List.all_eq_true.1 Ayz a (b f a h)
  simpa using this
 ·have:=List.all_eq_true.1 Ayy a (List.mem_filter.2 ⟨b f a h,c⟩)
  simpa using this
 ·have:=List.map_inj_left.1 Ay0 a (List.mem_filter.2 ⟨b f a h,c⟩)
  rw[this] at d;exact sU _ a e d args
