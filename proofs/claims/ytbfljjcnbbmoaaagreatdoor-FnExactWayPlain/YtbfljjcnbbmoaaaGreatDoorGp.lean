import Derived.Test.YtbfljjcnbbmoaaaGreatDoorGM
namespace Stil
def Cb (k:Int) (l:List Net):List Net:=l.flatMap λn=>if n.kind=k then n.kids else [n]
def Ei (k:Int) (ks:List Net):Net:=if h:ks.length=1 then ks[0] else⟨k,⟨0,[]⟩,ks⟩
def Az:Net->Net
 | ⟨k,e,kids⟩=>if k=2\/k=3 then Ei k (Cb k (kids.map Az)) else⟨k,e,kids.map Az⟩
theorem Hz (k:Int) (e:Elem) (kids:List Net):Az ⟨k,e,kids⟩=if k=2\/k=3 then Ei k (Cb k (kids.map Az)) else⟨k,e,kids.map Az⟩:=by rw[Az]
theorem Jm (k:Int) (a b:List Net):Cb k (a++b)=Cb k a++Cb k b:=by simp[Cb]
theorem Le (k:Int) (n:Net):Cb k [n]=if n.kind=k then n.kids else [n]:=by simp[Cb]
def sizes (l:List Net):Nat:=(l.map Aj).sum
theorem Kv (a b:List Net):sizes (a++b)=sizes a+sizes b:=by simp[sizes]
theorem Dz (n:Net):Aj n=1+sizes n.kids:=by obtain⟨k,e,kids⟩:=n;exact La k e kids
theorem Jl (l:List Net):l.length<=sizes l:=by
 induction l with
 | nil=>simp[sizes]
 | cons x r ih=>
  have:=Dz x
  simp only[sizes,A4v,List.sum_cons,A4e] at ih ⊢;omega
theorem Ja (k:Int) (l:List Net):sizes (Cb k l)<=sizes l:=by
 induction l with
 | nil=>simp[Cb,sizes]
 | cons x r ih=>
  have e:x::r=[x]++r:=rfl;rw[e,Jm,Kv,Kv,Le];have h:sizes (if x.kind=k then x.kids else [x])<=sizes [x]:=by
   have h2:sizes [x]=Aj x:=by simp[sizes]
   split
   ·have:=Dz x;omega
   ·exact A4i _
  omega
theorem Aaz (k:Int) (ks:List Net):Aj (Ei k ks)<=1+sizes ks:=by
 unfold Ei;split
 ·rename_i h
  have h2:=Ew Aj ks ks[0] (A4k _);unfold sizes;omega
 ·rw[Dz];exact A4i _
theorem Aan (n:Net):Aj (Az n)<=Aj n:=by
 refine Fg (λn=>Aj (Az n)<=Aj n) ?_ n;intro k e kids ih;have hs:sizes (kids.map Az)<=sizes kids:=by
  clear n;induction kids with
  | nil=>simp[sizes]
  | cons x r ih2=>
   have h1:=ih x (by simp);have h2:=ih2 (λy hy=>ih y (A4h _ hy));simp only[sizes,A4v,List.sum_cons] at h2 ⊢;omega
 rw[Hz];have h0:Aj ⟨k,e,kids⟩=1+sizes kids:=Dz _;split
 ·have h1:=Aaz k (Cb k (kids.map Az))
  have h2:=Ja k (kids.map Az);omega
 ·rw[Dz]
  simp only;omega
theorem Ae0 (l:List Net):sizes (l.map Az)<=sizes l:=by
 induction l with
 | nil=>simp[sizes]
 | cons x r ih=>
  have h1:=Aan x;simp only[sizes,A4v,List.sum_cons] at ih ⊢;omega
theorem Aeo (l:List Net) (n:Nat):sizes (l.take n)<=sizes l:=by
 have h:=Kv (l.take n) (l.drop n);rw[List.take_append_drop] at h;omega
theorem Ave (k:Int) (l:List Net) (n:Nat):(Cb k ((l.take n).map Az)).length<=sizes (l.map Az):=by
 have h1:=Jl (Cb k ((l.take n).map Az));have h2:=Ja k ((l.take n).map Az);have h3:=Aeo (l.map Az) n;rw[<-List.map_take] at h3;omega
theorem Avf (k:Int) (l:List Net) (j:Nat) (h:j<l.length):Cb k ((l.take (j+1)).map Az)=Cb k ((l.take j).map Az)++(if(Az l[j]).kind=k then(Az l[j]).kids else [Az l[j]]):=by
 rw[A4w h,A4r,Jm];congr 1;exact Le k _
theorem Ue (l:List Int) (h:∀x∈l,0<=x) (h0:A8 l=0):∀x∈l,x=0:=by
 induction l with
 | nil=>intro x hx;cases hx
 | cons y r ih=>
  unfold A8 at h0;have hy:=h y (by simp);split at h0
  ·omega
  ·intro x hx
   rcases List.mem_cons.1 hx with rfl | hx
   ·omega
   ·exact ih (λz hz=>h z (by simp[hz])) h0 x hx
theorem H8 {k:Int} {e:Elem} {kids:List Net} (h:Ar ⟨k,e,kids⟩=0):
  (k=1/\kids=[])\/((k=2\/k=3)/\0<kids.length/\∀x∈kids,Ar x=0)\/(k=4/\e=⟨0,[]⟩/\∃x,kids=[x]/\Ar x=0):=by
 rw[Nj] at h;by_cases h1:k=1
 ·rw[if_pos h1] at h
  refine .inl ⟨h1,?_⟩;by_cases h2:0<kids.length
  ·rw[if_pos h2] at h;omega
  ·exact List.length_eq_zero_iff.1 (by omega)
 ·rw[if_neg h1] at h
  by_cases h2:U3 k e.op e.args.length kids.length=true
  ·rw[if_pos h2] at h;omega
  ·rw[if_neg h2] at h
   have hk:=Ue _ (λx hx=>by obtain⟨n,_,rfl⟩:=List.mem_map.1 hx;exact(I8 n).1) h;have hk2:=λx hx=>hk _ (List.mem_map.2 ⟨x,hx,rfl⟩)
   simp only[U3,Bool.or_eq_true,decide_eq_true_eq,bne_iff_ne,ne_eq,beq_iff_eq,Bool.and_eq_true,not_or,not_and,Decidable.not_not] at h2;obtain⟨⟨⟨⟨⟨a1,a2⟩,a3⟩,a4⟩,a5⟩,a6⟩:=h2;by_cases h4:k=4
   ·refine .inr (.inr ⟨h4,?_,?_⟩)
    ·obtain⟨op,args⟩:=e
     simp only at a3 a4;have:args=[]:=List.length_eq_zero_iff.1 (by omega);subst this;subst a3;rfl
    ·have hl:=a6 h4
     have hl2:kids.length=1:=by omega
     obtain⟨x,rfl⟩:=List.length_eq_one_iff.1 hl2;exact⟨x,rfl,hk2 x (by simp)⟩
   ·exact .inr (.inl ⟨by omega,by omega,hk2⟩)
theorem Ae4 {k:Int} {e:Elem} {kids:List Net} {c:Nat} (h:Aj ⟨k,e,kids⟩<=c):sizes (kids.map Az)<=c/\∀x∈kids,Aj x<=c:=by
 have h1:=Ae0 kids;rw[La] at h;refine⟨by unfold sizes at h1 ⊢;omega,λx hx=>?_⟩;have:=Ew Aj kids x hx
 omega
end Stil
namespace Stil
structure Ht where
 code:Int
 one:Elem
def Ht.fits (i:Ht):Prop:=i64 i.code/\i.one.fits
def A2l (e:Elem):Bool:=e.op==0 && e.args.length==0
def A2o (i:Ht):Bool:=if i.code<1\/11<i.code then false else if i.code<=3 then Ad i.one.op i.one.args else if i.code=10 then Am i.one.op i.one.args else A2l i.one
structure Pt where
 bits:Int
 forks:Int
 seen:Bool
 coil:Bool
def needs (c:Int):Int:=if c=1 then 0 else if c=4\/c=5 then 2 else 1
def low (c:Int):Int:=if c=5 then 2 else 1
def wrong (s:Pt) (i:Ht):Int:=
 if A2o i=false then 2
 else if s.bits<needs i.code then 3
 else if i.code=1/\s.bits=16 then 4
 else if 7<=i.code/\1<s.bits then 5
 else if s.seen=true/\s.bits=low i.code/\(i.code=3\/i.code=6\/i.code=5) then 6
 else if i.code=7/\s.forks=8 then 7
 else if(i.code=8\/i.code=9)/\s.forks=0 then 7
 else if i.code=11/\0<s.forks then 7
 else if(i.code=8\/i.code=9\/i.code=11)/\s.coil=false then 8
 else 0
def behind (s:Pt) (c:Int):Pt:=⟨if c=1 then s.bits+1 else if c=4\/c=5\/c=11 then s.bits - 1 else s.bits,if c=7 then s.forks+1 else if c=9 then s.forks - 1 else s.forks,decide (c≠11) && (s.seen || c==10 || c==7),c==10⟩
end Stil
namespace Stil
end Stil
namespace Stil
def step (s:Int × Int) (c:Int):Int × Int:=(if c=1 then s.1+1 else if c=4\/c=5\/c=11 then s.1 - 1 else s.1,if c=7 then s.2+1 else if c=9 then s.2 - 1 else s.2)
def Ahn:Int × Int->List Ht->List (Int × Int)
 | _,[]=>[]
 | s,i::r=>step s i.code::Ahn (step s i.code) r
def Am5:Int × Int->List (Int × Int)->Int × Int
 | p,[]=>p
 | p,s::r=>Am5 (if p.1<s.1 then s.1 else p.1,if p.2<s.2 then s.2 else p.2) r
def Atz (p s:Int × Int):Int × Int:=(if p.1<s.1 then s.1 else p.1,if p.2<s.2 then s.2 else p.2)
end Stil
namespace Stil
def opn (k:Int) (n:Net):List Net:=if n.kind=k then n.kids else [n]
def Am3 (k:Int) (a b:Net):Net:=⟨k,⟨0,[]⟩,opn k a++opn k b⟩
def Xv (k:Int) (a b:Net):Net:=if a.kind=0 then b else Am3 k a b
def Ol (e:Elem):Net:=⟨1,e,[]⟩
def Axp (a:Net):Net:=⟨4,⟨0,[]⟩,[a]⟩
def Z7:Net:=⟨0,⟨0,[]⟩,[]⟩
def Ayi (c:Int) (e:Elem) (st:List Net):List Net:=
 if c=1 then Ol e::st
 else if c=2 then(match st with | a::r=>Xv 2 a (Ol e)::r | []=>[])
 else if c=3 then(match st with | a::r=>Xv 3 a (Ol e)::r | []=>[])
 else if c=4 then(match st with | a::b::r=>Xv 2 b a::r | s=>s)
 else if c=5 then(match st with | a::b::r=>Xv 3 b a::r | s=>s)
 else(match st with | a::r=>Axp a::r | []=>[])
def Aua (n:Net):Prop:=Cc n/\1<=n.kind
theorem F7 (a:Net) (r:List Net):sizes (a::r)=Aj a+sizes r:=by simp[sizes]
theorem P7:sizes []=0:=rfl
theorem Yy (k:Int) (a:Net):sizes (opn k a)<=Aj a:=by
 unfold opn;split
 ·rw[Dz];omega
 ·rw[F7,P7];omega
theorem Am8 {k:Int} {a:Net} (h:Cc a):∀x∈opn k a,Cc x:=by
 unfold opn;split
 ·exact(Df h).2.2.2
 ·intro x hx
  rw[List.mem_singleton.1 hx];exact h
theorem Axe (k:Int) (a b:Net):Aj (Am3 k a b)<=1+Aj a+Aj b:=by
 rw[Dz];have h1:=Yy k a;have h2:=Yy k b;have h3:=Kv (opn k a) (opn k b);show 1+sizes (opn k a++opn k b)<=_
 omega
theorem Abt:Elem.fits ⟨0,[]⟩:=⟨⟨by simp,by simp⟩,by simp,(λd hd=>by cases hd)⟩
theorem Axf {k:Int} {a b:Net} (hk:i64 k) (ha:Cc a) (hb:Cc b) (hs:Aj a+Aj b<=1000000):Cc (Am3 k a b):=by
 unfold Am3;rw[Fa];refine⟨hk,Abt,?_,λx hx=>?_⟩
 ·have h1:=Yy k a
  have h2:=Yy k b;have h3:=Kv (opn k a) (opn k b);have h4:=Jl (opn k a++opn k b);omega
 ·rcases List.mem_append.1 hx with hx | hx
  ·exact Am8 ha x hx
  ·exact Am8 hb x hx
theorem Aoc (k:Int) (a b:Net):Aj (Xv k a b)<=1+Aj a+Aj b:=by
 unfold Xv;split
 ·omega
 ·exact Axe k a b
theorem Ai6 {e:Elem} (h:e.fits):Aua (Ol e):=by
 unfold Ol;refine⟨?_,by show(1:Int)<=1;decide⟩;rw[Fa];exact⟨⟨by decide,by decide⟩,h,by simp,(λd hd=>by cases hd)⟩
theorem Ai5 (e:Elem):Aj (Ol e)=1:=by rw[Dz];rfl
theorem Axo (a:Net):Aj (Axp a)=1+Aj a:=by
 rw[Dz];show 1+sizes [a]=_
 rw[F7,P7];omega
end Stil
namespace Stil
def Arr:List Net->List Ht->Net->List Ht->Prop
 | _,[],_,_=>False
 | st,i::r,n,l1=>if i.code<7 then 1<=i.code/\needs i.code<=(st.length:Int)/\Arr (Ayi i.code i.one st) r n l1 else st=[n]/\l1=i::r
def Aem:List Ht->List Elem->List Ht->Prop
 | [],_,_=>False
 | i::r,cs,l2=>if i.code=10 then ∃c',cs=i.one::c'/\Aem r c' l2 else cs=[]/\l2=i::r
def Xd (P:List Ht->Arm->List Ht->Prop):List Arm->List Ht->List Ht->Prop
 | a::ks,i::l,r=>if ks=[] then i.code=9/\P l a r else(i.code=7\/i.code=8)/\∃m,P l a m/\Xd P ks m r
 | _,_,_=>False
def Q7:List Ht->Int
 | []=>0
 | i::_=>i.code
def Ay3 (P:List Ht->Arm->List Ht->Prop) (ks:List Arm) (l r:List Ht):Prop:=
 ((Q7 l=8\/Q7 l=9\/Q7 l=11)/\ks=[]/\r=l)\/(1<=Q7 l/\Q7 l<7/\∃a,ks=[a]/\P l a r)\/(Q7 l=7/\Xd P ks l r)
def Ay5:Nat->List Net->List Ht->Arm->List Ht->Prop
 | 0,_,_,_,_=>False
 | n+1,st,l,a,r=>∃l1 l2,Arr st l a.net l1/\Aem l1 a.coils l2/\Ay3 (Ay5 n [Z7]) a.kids l2 r
theorem Arr.suffix:∀{l:List Ht} {st:List Net} {n:Net} {l1:List Ht},Arr st l n l1->l1<:+l/\7<=Q7 l1
 | [],_,_,_,h=>h.elim
 | i::r,st,n,l1,h=>by
  rw[Arr] at h;split at h
  ·obtain⟨h1,h2⟩:=Arr.suffix h.2.2
   exact⟨h1.trans (List.suffix_cons i r),h2⟩
  ·rename_i h7
   rw[h.2];exact⟨List.suffix_refl _,by show 7<=i.code;omega⟩
theorem Aem.suffix:∀{l:List Ht} {cs:List Elem} {l2:List Ht},Aem l cs l2->l2<:+l/\Q7 l2≠10/\cs.length+l2.length=l.length
 | [],_,_,h=>h.elim
 | i::r,cs,l2,h=>by
  rw[Aem] at h;split at h
  ·obtain⟨c',rfl,h⟩:=h
   obtain⟨h1,h2,h3⟩:=Aem.suffix h;exact⟨h1.trans (List.suffix_cons i r),h2,by simp only[A4e];omega⟩
  ·rename_i h7
   obtain⟨rfl,rfl⟩:=h;exact⟨List.suffix_refl _,h7,by simp⟩
theorem Xd.suffix {P:List Ht->Arm->List Ht->Prop} (hP:∀l a r,P l a r->r<:+l):∀{ks:List Arm} {l r:List Ht},Xd P ks l r->r<:+l/\r.length<l.length
 | [],_,_,h=>by simp[Xd] at h
 | _::_,[],_,h=>by simp[Xd] at h
 | a::ks,i::l,r,h=>by
  rw[Xd] at h;split at h
  ·have h1:=hP _ _ _ h.2
   exact⟨h1.trans (List.suffix_cons i l),by have:=h1.length_le;simp only[A4e];omega⟩
  ·obtain⟨_,m,h1,h2⟩:=h
   have h3:=Xd.suffix hP h2;have h4:=hP _ _ _ h1;exact⟨(h3.1.trans h4).trans (List.suffix_cons i l),by have:=h4.length_le;simp only[A4e];omega⟩
theorem Ay3.suffix {P:List Ht->Arm->List Ht->Prop} (hP:∀l a r,P l a r->r<:+l) {ks:List Arm} {l r:List Ht} (h:Ay3 P ks l r):r<:+l:=by
 rcases h with⟨_,_,rfl⟩ | ⟨_,_,a,_,h⟩ | ⟨_,h⟩
 ·exact List.suffix_refl _
 ·exact hP _ _ _ h
 ·exact(Xd.suffix hP h).1
theorem Ay5.suffix:∀{n:Nat} {st:List Net} {l:List Ht} {a:Arm} {r:List Ht},Ay5 n st l a r->r<:+l
 | 0,_,_,_,_,h=>h.elim
 | n+1,st,l,a,r,h=>by
  obtain⟨l1,l2,h1,h2,h3⟩:=h;exact((Ay3.suffix (λl a r h=>Ay5.suffix h) h3).trans h2.suffix.1).trans h1.suffix.1
end Stil
namespace Stil
def Ux:Net->Prop
 | ⟨k,_,kids⟩=>((k=2\/k=3)->kids.length≠1/\∀x∈kids,x.kind≠k)/\∀p∈kids.map Ux,p
theorem Wj (n:Net):Ux n↔((n.kind=2\/n.kind=3)->n.kids.length≠1/\∀x∈n.kids,x.kind≠n.kind)/\∀x∈n.kids,Ux x:=by
 obtain⟨k,e,kids⟩:=n;rw[Ux,all_map]
theorem Als (k:Int) (l:List Net) (h:∀x∈l,x.kind≠k):Cb k l=l:=by
 induction l with
 | nil=>rfl
 | cons x r ih=>
  have e:x::r=[x]++r:=rfl;rw[e,Jm,Le,if_neg (h x (by simp)),ih (λy hy=>h y (A4h _ hy))]
theorem Agh (k:Int) (hk:k=2\/k=3) (l:List Net) (h:∀x∈l,Ux x):∀x∈Cb k l,x.kind≠k/\Ux x:=by
 intro x hx;obtain⟨y,hy,hx⟩:=List.mem_flatMap.1 hx;have hn:=(Wj y).1 (h y hy);split at hx
 ·rename_i e
  refine⟨?_,hn.2 x hx⟩;have:=(hn.1 (by rw[e];exact hk)).2 x hx
  rwa [e] at this
 ·rename_i e
  rw[List.mem_singleton.1 hx];exact⟨e,h y hy⟩
theorem Ak4 (n:Net):Ux (Az n):=by
 refine Fg (λn=>Ux (Az n)) ?_ n;intro k e kids ih;have hm:∀x∈kids.map Az,Ux x:=by
  intro x hx;obtain⟨y,hy,rfl⟩:=List.mem_map.1 hx;exact ih y hy
 rw[Hz];split
 ·rename_i hk
  have hF:=Agh k hk _ hm;unfold Ei;split
  ·exact(hF _ (A4k _)).2
  ·rename_i hl
   rw[Wj];exact⟨λ_=>⟨hl,λx hx=>(hF x hx).1⟩,λx hx=>(hF x hx).2⟩
 ·rename_i hk
  rw[Wj];exact⟨λh=>absurd h hk,hm⟩
def Qi:Net->Prop
 | ⟨k,e,kids⟩=>((k=2\/k=3)->e=⟨0,[]⟩)/\∀p∈kids.map Qi,p
theorem Ul (n:Net):Qi n↔((n.kind=2\/n.kind=3)->n.one=⟨0,[]⟩)/\∀x∈n.kids,Qi x:=by
 obtain⟨k,e,kids⟩:=n;rw[Qi,all_map]
theorem Aia (n:Net):Qi (Az n):=by
 refine Fg (λn=>Qi (Az n)) ?_ n;intro k e kids ih;have hm:∀x∈kids.map Az,Qi x:=by
  intro x hx;obtain⟨y,hy,rfl⟩:=List.mem_map.1 hx;exact ih y hy
 have hF:∀x∈Cb k (kids.map Az),Qi x:=by
  intro x hx;obtain⟨y,hy,hx⟩:=List.mem_flatMap.1 hx;have hn:=(Ul y).1 (hm y hy);split at hx
  ·exact hn.2 x hx
  ·rw[List.mem_singleton.1 hx];exact hm y hy
 rw[Hz];split
 ·unfold Ei
  split
  ·exact hF _ (A4k _)
  ·rw[Ul]
   exact⟨λ_=>rfl,hF⟩
 ·rename_i hk
  rw[Ul];exact⟨λh=>absurd h hk,hm⟩
theorem At8 (n:Net):Ux n->Qi n->Az n=n:=by
 refine Fg (λn=>Ux n->Qi n->Az n=n) ?_ n;intro k e kids ih h1 h2;have a1:=(Wj _).1 h1;have a2:=(Ul _).1 h2;simp only at a1 a2;have hm:kids.map Az=kids:=by
  have:kids.map Az=kids.map id:=List.map_congr_left (λx hx=>ih x hx (a1.2 x hx) (a2.2 x hx));rw[this,List.map_id]
 rw[Hz,hm];split
 ·rename_i hk
  rw[Als k kids (a1.1 hk).2];unfold Ei;rw[dif_neg (a1.1 hk).1,a2.1 hk]
 ·rfl
theorem Am2 {k:Int} {ks:List Net} (hk:k=2\/k=3) (h0:0<ks.length) (h:∀x∈ks,Ar x=0):Ar ⟨k,⟨0,[]⟩,ks⟩=0:=by
 rw[Nj,if_neg (by omega)];have hb:U3 k 0 0 ks.length=false:=by
  unfold U3;have e1:decide (k<2)=false:=by rw[decide_eq_false_iff_not];omega
  have e2:decide (4<k)=false:=by rw[decide_eq_false_iff_not];omega
  have e3:((ks.length:Int)==0)=false:=by rw[A5f];omega
  have e4:(k==4)=false:=by rw[A5f];omega
  simp[e1,e2,e3,e4]
 rw[if_neg (by simp only[A4f,hb];exact Bool.false_ne_true)];clear h0 hb;induction ks with
 | nil=>rfl
 | cons x r ih=>
  rw[A4v,A8,if_neg (by rw[h x (by simp)];omega)];exact ih (λy hy=>h y (A4h _ hy))
theorem Aov {n:Net} (h:Ar n=0) (hk:n.kind=2\/n.kind=3):0<n.kids.length/\∀x∈n.kids,Ar x=0:=by
 obtain⟨k,e,kids⟩:=n;simp only at hk ⊢;rcases H8 h with⟨h1,_⟩ | ⟨_,h2,h3⟩ | ⟨h1,_⟩
 ·omega
 ·exact⟨h2,h3⟩
 ·omega
theorem Ap8 {k:Int} (hk:k=2\/k=3) {l:List Net} (h0:0<l.length) (h:∀x∈l,Ar x=0):0<(Cb k l).length/\∀x∈Cb k l,Ar x=0:=by
 have hone:∀x∈l,0<(Cb k [x]).length/\∀y∈Cb k [x],Ar y=0:=by
  intro x hx;rw[Le];split
  ·rename_i e
   exact Aov (h x hx) (by rw[e];exact hk)
  ·exact⟨by simp,λy hy=>by rw[List.mem_singleton.1 hy];exact h x hx⟩
 refine⟨?_,λy hy=>?_⟩
 ·obtain⟨x,r,rfl⟩:=List.exists_cons_of_ne_nil (List.ne_nil_of_length_pos h0)
  have e:x::r=[x]++r:=rfl;rw[e,Jm,A4d];have:=(hone x (by simp)).1
  omega
 ·obtain⟨x,hx,hy⟩:=List.mem_flatMap.1 hy
  refine(hone x hx).2 y ?_;rw[Le];exact hy
theorem Amd {k:Int} (hk:k=2\/k=3) {l:List Net} (h0:0<l.length) (h:∀x∈l,Ar x=0):Ar (Ei k (Cb k l))=0:=by
 obtain⟨h1,h2⟩:=Ap8 hk h0 h;unfold Ei;split
 ·exact h2 _ (A4k _)
 ·exact Am2 hk h1 h2
theorem Apb (n:Net):Ar n=0->Ar (Az n)=0:=by
 refine Fg (λn=>Ar n=0->Ar (Az n)=0) ?_ n;intro k e kids ih h;have h':=h;rw[Hz];rcases H8 h with⟨rfl,rfl⟩ | ⟨hk,h0,hks⟩ | ⟨rfl,rfl,x,rfl,hx⟩
 ·rw[if_neg (by omega)];exact h'
 ·rw[if_pos hk]
  refine Amd hk (by simpa using h0) (λx hx=>?_);obtain⟨y,hy,rfl⟩:=List.mem_map.1 hx;exact ih y hy (hks y hy)
 ·rw[if_neg (by omega)]
  have hy:=ih x (by simp) hx;rw[Nj,if_neg (by omega)];have hb:U3 4 (⟨0,[]⟩:Elem).op (⟨0,[]⟩:Elem).args.length ([x].map Az).length=false:=by rfl
  rw[if_neg (by rw[hb];exact Bool.false_ne_true)];simp only[A4v,List.map_nil,A8];rw[if_neg (by omega)]
def fine (n:Net):Prop:=Ux n/\Qi n/\Ar n=0
theorem Aci {n:Net} (h:Ar n=0):fine (Az n):=⟨Ak4 n,Aia n,Apb n h⟩
theorem Zb {n:Net} (h:fine n):Az n=n:=At8 n h.1 h.2.1
def none0:Net:=⟨0,⟨0,[]⟩,[]⟩
theorem Z5 {n:Net} (h:Aq n=true):n=none0:=by
 obtain⟨k,⟨op,args⟩,kids⟩:=n;simp only[Aq,Bool.and_eq_true,beq_iff_eq] at h;obtain⟨⟨⟨h1,h2⟩,h3⟩,h4⟩:=h;have e1:=List.length_eq_zero_iff.1 h3;have e2:=List.length_eq_zero_iff.1 h4;subst e1 e2 h1 h2;rfl
theorem Ac5 {n:Net} (h:fine n):Aq n=false:=by
 cases hn:Aq n with
 | false=>rfl
 | true=>
  have e:=Z5 hn;have h2:=h.2.2;rw[e] at h2;unfold none0 at h2;rcases H8 h2 with⟨h3,_⟩ | ⟨h3,_⟩ | ⟨h3,_⟩<;>omega
def Ji (a b:Net):Net:=if Aq a then b else if Aq b then a else Ei 2 (Cb 2 [a,b])
theorem Afp {l:List Net} (h0:0<l.length) (h:∀x∈l,fine x):fine (Ei 2 (Cb 2 l)):=by
 have hm:l.map Az=l:=by
  have:l.map Az=l.map id:=List.map_congr_left (λx hx=>Zb (h x hx));rw[this,List.map_id]
 have e:Ei 2 (Cb 2 l)=Az ⟨2,⟨0,[]⟩,l⟩:=by rw[Hz,if_pos (.inl rfl),hm]
 rw[e];exact Aci (Am2 (.inl rfl) h0 (λx hx=>(h x hx).2.2))
def Jn (n:Net):Prop:=Aq n=true\/fine n
theorem Tq {a b:Net} (ha:Jn a) (hb:Jn b):Jn (Ji a b):=by
 unfold Ji;split
 ·exact hb
 ·rename_i h1
  split
  ·exact ha
  ·rename_i h2
   refine .inr (Afp (by simp) (λx hx=>?_));rcases List.mem_cons.1 hx with rfl | hx
   ·rcases ha with h | h
    ·exact absurd h h1
    ·exact h
   ·rw[List.mem_singleton.1 hx]
    rcases hb with h | h
    ·exact absurd h h2
    ·exact h
def Hr (l:List Arm):Nat:=(l.map A7).sum
def Hw:Nat->Arm->Arm
 | 0,a=>a
 | f+1,a=>match a.kids with
  | [kid]=>if a.coils=[]\/Aq kid.net=true then Hw f ⟨Ji a.net kid.net,a.coils++kid.coils,kid.kids⟩ else a
  | _=>a
theorem Jr (a:Arm):1+Hr a.kids<=A7 a:=by
 obtain⟨n,c,kids⟩:=a;rw[Pq];unfold Hr;simp only;omega
theorem Air (f:Nat):∀a:Arm,Hr a.kids<=f->Hw f a=Hw (f+1) a:=by
 induction f with
 | zero=>
  intro a h;rw[Hw];conv=>rhs;rw[Hw]
  split
  ·rename_i kid e
   rw[e] at h;have:=Jr kid
   simp[Hr] at h;omega
  ·rfl
 | succ f ih=>
  intro a h;rw[Hw];conv=>rhs;rw[Hw]
  split
  ·rename_i kid e
   split
   ·refine ih _ ?_
    rw[e] at h;have:=Jr kid
    simp only[Hr,A4v,List.map_nil,List.sum_cons,List.sum_nil] at h this ⊢;omega
   ·rfl
  ·rfl
def joined (a:Arm):Arm:=Hw (Hr a.kids) a
theorem Apu (a:Arm):∀f,Hr a.kids<=f->Hw f a=joined a:=by
 intro f h;obtain⟨d,rfl⟩:=Nat.exists_eq_add_of_le h;clear h;induction d with
 | zero=>rfl
 | succ d ih=>rw[<-Nat.add_assoc,<-Air _ a (by omega)];exact ih
theorem Acu (n:Net) (c:List Elem) (kid:Arm) (h:c=[]\/Aq kid.net=true):joined ⟨n,c,[kid]⟩=joined ⟨Ji n kid.net,c++kid.coils,kid.kids⟩:=by
 have hs:Hr [kid]=A7 kid:=by simp[Hr]
 have hp:=Jr kid;unfold joined;simp only;rw[hs];obtain⟨f,hf⟩:∃f,A7 kid=f+1:=⟨A7 kid - 1,by omega⟩
 rw[hf,Hw];simp only;rw[if_pos h];exact Apu _ f (by simp only;omega)
theorem Qb (a:Arm) (h:∀kid,a.kids=[kid]->¬(a.coils=[]\/Aq kid.net=true)):joined a=a:=by
 unfold joined;cases hf:Hr a.kids with
 | zero=>rfl
 | succ f=>
  rw[Hw];split
  ·rename_i kid e
   rw[if_neg (h kid e)]
  ·rfl
def Dc:Arm->Arm
 | ⟨n,coils,kids⟩=>joined ⟨if Aq n then n else Az n,coils,kids.map Dc⟩
theorem Apd (n:Net) (coils:List Elem) (kids:List Arm):Dc ⟨n,coils,kids⟩=joined ⟨if Aq n then n else Az n,coils,kids.map Dc⟩:=by rw[Dc]
theorem Aqb:(⟨0,[]⟩:Elem).fits:=⟨by show i64 0;unfold i64;omega,by simp,by simp⟩
theorem Ai1 {k:Int} {l:List Net} (h:∀x∈l,Cc x):∀x∈Cb k l,Cc x:=by
 intro x hx;obtain⟨y,hy,hx⟩:=List.mem_flatMap.1 hx;split at hx
 ·exact(Df (h y hy)).2.2.2 x hx
 ·rw[List.mem_singleton.1 hx];exact h y hy
theorem Afo {k:Int} (hk:i64 k) {l:List Net} (h:∀x∈l,Cc x) (hl:l.length<=1048576):Cc (Ei k l):=by
 unfold Ei;split
 ·exact h _ (A4k _)
 ·exact(Fa _ _ _).2 ⟨hk,Aqb,hl,h⟩
theorem Akj {a b:Net} (ha:Cc a) (hb:Cc b) (hs:Aj a+Aj b<=1000000):Cc (Ji a b):=by
 unfold Ji;split
 ·exact hb
 ·split
  ·exact ha
  ·refine Afo (by unfold i64;omega) (Ai1 (λx hx=>?_)) ?_
   ·rcases List.mem_cons.1 hx with rfl | hx
    ·exact ha
    ·rw[List.mem_singleton.1 hx];exact hb
   ·have h1:=Jl (Cb 2 [a,b])
    have h2:=Ja 2 [a,b];have h3:sizes [a,b]=Aj a+Aj b:=by simp[sizes]
    omega
def nsz (n:Net):Nat:=if Aq n then 0 else Aj n
theorem Azl (n:Net):nsz n<=Aj n:=by unfold nsz;split<;>omega
theorem size_le (n:Net):Aj n<=1+nsz n:=by
 unfold nsz;split
 ·rename_i h
  rw[Z5 h];show Aj ⟨0,⟨0,[]⟩,[]⟩<=_
  rw[La];simp
 ·omega
theorem Akh (a b:Net):nsz (Ji a b)<=nsz a+nsz b+1:=by
 unfold Ji;split
 ·omega
 ·rename_i h1
  split
  ·omega
  ·rename_i h2
   refine A4p (Azl _) ?_;have h3:=Aaz 2 (Cb 2 [a,b]);have h4:=Ja 2 [a,b];have h5:sizes [a,b]=Aj a+Aj b:=by simp[sizes]
   have e1:nsz a=Aj a:=if_neg h1;have e2:nsz b=Aj b:=if_neg h2;omega
theorem Dp (n:Net) (c:List Elem) (kids:List Arm):A7 ⟨n,c,kids⟩=1+c.length+nsz n+Hr kids:=by rw[Pq];rfl
def Xa (c:Nat) (b:Arm):Prop:=C9 b/\A7 b<=c
theorem Rz (l:List Arm):l.length<=Hr l:=by
 unfold Hr;induction l with
 | nil=>simp
 | cons x r ihr=>
  have:=Jr x
  simp only[A4e,A4v,List.sum_cons];omega
theorem Acs (k:Arm):Hr [k]=A7 k:=by simp[Hr]
theorem Alf {c:Nat} {n:Net} {cs:List Elem} {kid:Arm} (h:Xa c ⟨n,cs,[kid]⟩) (hc:c<=900000):Xa c ⟨Ji n kid.net,cs++kid.coils,kid.kids⟩/\sizes [n,kid.net]<=999999/\Cc n/\Cc kid.net/\cs.length+kid.coils.length<=1000000/\Hr kid.kids<Hr [kid]:=by
 obtain⟨hf,hs⟩:=h;rw[Dp,Acs] at hs;obtain⟨kn,kc,kk⟩:=kid;rw[Dp] at hs;rw[Acs,Dp];simp only;have hp:=(Ee _ _ _).1 hf;have hk:=(Ee _ _ _).1 (hp.2.2.2.2 ⟨kn,kc,kk⟩ (by simp));have h1:=size_le n;have h2:=size_le kn;have h3:=Akh n kn;refine⟨⟨(Ee _ _ _).2 ⟨Akj hp.1 hk.1 (by omega),by rw[A4d];omega,λx hx=>?_,hk.2.2.2⟩,?_⟩,by simp[sizes];omega,hp.1,hk.1,by omega,by omega⟩
 ·rcases List.mem_append.1 hx with hx | hx
  ·exact hp.2.2.1 x hx
  ·exact hk.2.2.1 x hx
 ·rw[Dp,A4d];omega
theorem Ae5 {c:Nat} (hc:c<=900000):∀(f:Nat) (b:Arm),Xa c b->Xa c (Hw f b)
 | 0,b,h=>h
 | f+1,⟨n,cs,kids⟩,h=>by
  rw[Hw];split
  ·rename_i kid e
   simp only at e;subst e;split
   ·exact Ae5 hc f _ (Alf h hc).1
   ·exact h
  ·exact h
theorem Auu {c:Nat} (hc:c<=900000) (b:Arm) (h:Xa c b):Xa c (joined b):=Ae5 hc _ b h
theorem Apc (n:Net):Cc n->Aj n<=1000000->Cc (Az n):=by
 refine Fg (λn=>Cc n->Aj n<=1000000->Cc (Az n)) ?_ n;intro k e kids ih h hs;rw[Hz];have hp:=(Fa _ _ _).1 h;have hks:sizes kids<Aj ⟨k,e,kids⟩:=by rw[Dz];simp only;omega
 have hx:∀x∈kids.map Az,Cc x:=by
  intro x hx;obtain⟨y,hy,rfl⟩:=List.mem_map.1 hx;have:Aj y<=sizes kids:=Ew Aj kids y hy;exact ih y hy (hp.2.2.2 y hy) (by omega)
 split
 ·refine Afo hp.1 (Ai1 hx) ?_
  have h1:=Jl (Cb k (kids.map Az));have h2:=Ja k (kids.map Az);have h3:=Ae0 kids;omega
 ·exact(Fa _ _ _).2 ⟨hp.1,hp.2.1,by rw[A4t];exact hp.2.2.1,hx⟩
def Qq (n:Net):Net:=if Aq n then n else Az n
theorem Apk {n:Net} (h:Cc n) (hs:nsz n<=900000):Cc (Qq n):=by
 unfold Qq;split
 ·exact h
 ·exact Apc n h (by have:=size_le n;omega)
theorem Api (n:Net):nsz (Qq n)<=nsz n:=by
 unfold Qq;split
 ·exact A4i _
 ·rename_i h
  have e:nsz n=Aj n:=if_neg h;rw[e];exact A4p (Azl _) (Aan n)
theorem Kz (n:Net) (c:List Elem) (kids:List Arm):Dc ⟨n,c,kids⟩=joined ⟨Qq n,c,kids.map Dc⟩:=Apd n c kids
theorem Ag9 {n:Net} {c:List Elem} {kids:List Arm} (hf:C9 ⟨n,c,kids⟩) (hs:A7 ⟨n,c,kids⟩<=900000) (hk:∀x∈kids,Xa (A7 x) (Dc x)):Xa (A7 ⟨n,c,kids⟩) ⟨Qq n,c,kids.map Dc⟩:=by
 have hp:=(Ee _ _ _).1 hf;rw[Dp] at hs ⊢;have h1:=Api n;have h2:Hr (kids.map Dc)<=Hr kids:=by
  clear hf hs hp;induction kids with
  | nil=>simp
  | cons x r ih=>
   have a:=(hk x (by simp)).2;have b:=ih (λy hy=>hk y (A4h _ hy));simp only[Hr,A4v,List.sum_cons] at b ⊢;omega
 refine⟨(Ee _ _ _).2 ⟨Apk hp.1 (by omega),hp.2.1,hp.2.2.1,by rw[A4t];exact hp.2.2.2.1,λx hx=>?_⟩,by rw[Dp];omega⟩;obtain⟨y,hy,rfl⟩:=List.mem_map.1 hx;exact(hk y hy).1
theorem V9 (a:Arm):C9 a->A7 a<=900000->Xa (A7 a) (Dc a):=by
 refine Fz (λa=>C9 a->A7 a<=900000->Xa (A7 a) (Dc a)) ?_ a;intro n c kids ih hf hs;rw[Kz];have hp:=(Ee _ _ _).1 hf;refine Auu hs _ (Ag9 hf hs (λx hx=>ih x hx (hp.2.2.2.2 x hx) ?_));have:A7 x<=Hr kids:=Ew A7 kids x hx;rw[Dp] at hs;omega
def Gg:Arm->Prop
 | ⟨n,_,kids⟩=>Jn n/\∀p∈kids.map Gg,p
theorem Gt (n:Net) (c:List Elem) (kids:List Arm):Gg ⟨n,c,kids⟩↔Jn n/\∀x∈kids,Gg x:=by rw[Gg,all_map]
theorem Y6 {n:Net} {cs:List Elem} {kid:Arm} (h:Gg ⟨n,cs,[kid]⟩):Gg ⟨Ji n kid.net,cs++kid.coils,kid.kids⟩/\Jn n/\Jn kid.net:=by
 obtain⟨kn,kc,kk⟩:=kid;have h1:=(Gt _ _ _).1 h;have h2:=(Gt _ _ _).1 (h1.2 ⟨kn,kc,kk⟩ (by simp));exact⟨(Gt _ _ _).2 ⟨Tq h1.1 h2.1,h2.2⟩,h1.1,h2.1⟩
theorem Aat:∀(f:Nat) (b:Arm),Gg b->Gg (Hw f b)
 | 0,b,h=>h
 | f+1,⟨n,cs,kids⟩,h=>by
  rw[Hw];split
  ·rename_i kid e
   simp only at e;subst e;split
   ·exact Aat f _ (Y6 h).1
   ·exact h
  ·exact h
theorem Ale (b:Arm) (h:Gg b):Gg (joined b):=Aat _ b h
theorem Pm {n:Net} (h:Aq n=true\/Ar n=0):Jn (Qq n):=by
 unfold Qq;split
 ·rename_i h1;exact .inl h1
 ·rename_i h1
  rcases h with h | h
  ·exact absurd h h1
  ·exact .inr (Aci h)
def Jh:Arm->Prop
 | ⟨n,_,kids⟩=>(Aq n=true\/Ar n=0)/\∀p∈kids.map Jh,p
theorem Nr (n:Net) (c:List Elem) (kids:List Arm):Jh ⟨n,c,kids⟩↔(Aq n=true\/Ar n=0)/\∀x∈kids,Jh x:=by rw[Jh,all_map]
theorem Qx (a:Arm):Jh a->Gg (Dc a):=by
 refine Fz (λa=>Jh a->Gg (Dc a)) ?_ a;intro n c kids ih h;have hp:=(Nr _ _ _).1 h;rw[Kz];refine Ale _ ((Gt _ _ _).2 ⟨Pm hp.1,λx hx=>?_⟩);obtain⟨y,hy,rfl⟩:=List.mem_map.1 hx;exact ih y hy (hp.2 y hy)
theorem Adm (a:Arm):Cf a=0->Jh a:=by
 refine Fz (λa=>Cf a=0->Jh a) ?_ a;intro n c kids ih h;rw[Um] at h;have h0:Ci ⟨n,c,kids⟩=0:=by
  have:=Ns ⟨n,c,kids⟩
  split at h<;>omega
 rw[if_neg (by omega)] at h;refine(Nr _ _ _).2 ⟨?_,λx hx=>ih x hx ?_⟩
 ·unfold Ci at h0
  simp only at h0;cases hn:Aq n with
  | true=>exact .inl rfl
  | false=>
   refine .inr ?_;have:=I8 n
   simp only[hn] at h0;split at h0
   ·simp at*;omega
   ·simp at*;omega
 ·exact Ue _ (λy hy=>by obtain⟨z,_,rfl⟩:=List.mem_map.1 hy;exact(N8 z).1) h _ (List.mem_map.2 ⟨x,hx,rfl⟩)
def Bq (l:List Arm):List Arm:=if(Ce l).1=0 then l.map Dc else []
theorem Xm:∀(l:List Arm) (k:Nat),(D9 l k).1=0->(D9 l k).2=0/\∀x∈l,Eg x=0
 | [],_,_=>⟨rfl,λx hx=>by cases hx⟩
 | a::r,k,h=>by
  rw[D9] at h ⊢;have hb:=P8 a;by_cases h0:0<Eg a
  ·rw[if_pos h0] at h;simp only at h;omega
  ·rw[if_neg h0] at h ⊢
   obtain⟨h1,h2⟩:=Xm r (k+1) h;refine⟨h1,λx hx=>?_⟩;rcases List.mem_cons.1 hx with rfl | hx
   ·omega
   ·exact h2 x hx
theorem Ate {a:Arm} (h:Eg a=0):Aq a.net=false/\Cf a=0:=by
 unfold Eg at h;cases hn:Aq a.net with
 | true=>rw[hn] at h;simp at h
 | false=>rw[hn] at h;exact⟨rfl,by simpa using h⟩
theorem J4 {l:List Arm} (h:(Ce l).1=0):(Ce l).2=0/\l.length<=40/\Bh l<=400/\∀x∈l,Aq x.net=false/\Cf x=0:=by
 unfold Ce at h ⊢;by_cases h0:40<l.length\/400<Bh l
 ·rw[if_pos h0] at h;simp at h
 ·rw[if_neg h0] at h ⊢
  obtain⟨h1,h2⟩:=Xm l 0 h;exact⟨h1,by omega,by omega,λx hx=>Ate (h2 x hx)⟩
theorem Vo:∀(l:List Arm) (k:Nat),0<=(D9 l k).1/\(D9 l k).1<=5
 | [],_=>by rw[D9];simp
 | a::r,k=>by
  rw[D9];have hb:=P8 a;split
  ·exact hb
  ·exact Vo r (k+1)
theorem Al1 (l:List Arm):0<=(Ce l).1/\(Ce l).1<=5:=by
 unfold Ce;split
 ·simp
 ·exact Vo l 0
theorem Amg {l:List Arm} {x:Arm} (hx:x∈l):A7 x<=Bh l:=Ew A7 l x hx
theorem I7 {l:List Arm} (h:(Ce l).1=0) {x:Arm} (hx:x∈l):Jh x/\A7 x<=400:=by
 obtain⟨_,_,h2,h3⟩:=J4 h;exact⟨Adm x (h3 x hx).2,A4p (Amg hx) h2⟩
end Stil
