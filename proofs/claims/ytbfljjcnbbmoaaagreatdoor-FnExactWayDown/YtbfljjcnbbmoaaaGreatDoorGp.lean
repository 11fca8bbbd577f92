import Derived.Test.YtbfljjcnbbmoaaaGreatDoorGM
namespace Stil
def Cf (k:Int)(l:List Net):List Net:=l.flatMap λn=>if n.kind=k then n.kids else [n]
def Fb (k:Int)(ks:List Net):Net:=if h:ks.length=1 then ks[0] else⟨k,⟨0,[]⟩,ks⟩
def A7:Net->Net
 | ⟨k,e,kids⟩=>if k=2\/k=3 then Fb k (Cf k (kids.map A7)) else⟨k,e,kids.map A7⟩
theorem Ib (k:Int)(e:Elem)(kids:List Net):A7 ⟨k,e,kids⟩=if k=2\/k=3 then Fb k (Cf k (kids.map A7)) else⟨k,e,kids.map A7⟩:=by rw[A7]
theorem Ju (k:Int)(a b:List Net):Cf k (a++b)=Cf k a++Cf k b:=by simp[Cf]
theorem L9 (k:Int)(n:Net):Cf k [n]=if n.kind=k then n.kids else [n]:=by simp[Cf]
def sizes (l:List Net):Nat:=(l.map Aj).sum
theorem Rq (a b:List Net):sizes (a++b)=sizes a+sizes b:=by simp[sizes]
theorem D8 (n:Net):Aj n=1+sizes n.kids:=by obtain⟨k,e,kids⟩:=n;exact Lu k e kids
theorem Ig (l:List Net):l.length<=sizes l:=by
 induction l with
 | nil=>simp[sizes]
 | cons x r ih=>
  have:=D8 x
  simp only[sizes,A4q,List.sum_cons,A39] at ih ⊢;omega
theorem Jk (k:Int)(l:List Net):sizes (Cf k l)<=sizes l:=by
 induction l with
 | nil=>simp[Cf,sizes]
 | cons x r ih=>
  have e:x::r=[x]++r:=rfl;rw[e,Ju,Rq,Rq,L9];have h:sizes (if x.kind=k then x.kids else [x])<=sizes [x]:=by
   have h2:sizes [x]=Aj x:=by simp[sizes]
   split
   ·have:=D8 x;omega
   ·exact A4d _
  omega
theorem Abm (k:Int)(ks:List Net):Aj (Fb k ks)<=1+sizes ks:=by
 unfold Fb;split
 ·rename_i h
  have h2:=D9 Aj ks ks[0] (A4f _);unfold sizes;omega
 ·rw[D8];exact A4d _
theorem Aba (n:Net):Aj (A7 n)<=Aj n:=by
 refine Fh (λn=>Aj (A7 n)<=Aj n) ?_ n;intro k e kids ih;have hs:sizes (kids.map A7)<=sizes kids:=by
  clear n;induction kids with
  | nil=>simp[sizes]
  | cons x r ih2=>
   have h1:=ih x spz;have h2:=ih2 (λy hy=>ih y (A4c _ hy));simp only[sizes,A4q,List.sum_cons] at h2 ⊢;omega
 rw[Ib];have h0:Aj ⟨k,e,kids⟩=1+sizes kids:=D8 _;split
 ·have h1:=Abm k (Cf k (kids.map A7))
  have h2:=Jk k (kids.map A7);omega
 ·rw[D8]
  simp only;omega
theorem Afs (l:List Net):sizes (l.map A7)<=sizes l:=by
 induction l with
 | nil=>simp[sizes]
 | cons x r ih=>
  have h1:=Aba x;simp only[sizes,A4q,List.sum_cons] at ih ⊢;omega
theorem Aff (l:List Net)(n:Nat):sizes (l.take n)<=sizes l:=by
 have h:=Rq (l.take n) (l.drop n);rw[List.take_append_drop] at h;omega
theorem Av3 (k:Int)(l:List Net)(n:Nat):(Cf k ((l.take n).map A7)).length<=sizes (l.map A7):=by
 have h1:=Ig (Cf k ((l.take n).map A7));have h2:=Jk k ((l.take n).map A7);have h3:=Aff (l.map A7) n;rw[<-List.map_take] at h3;omega
theorem Av4 (k:Int)(l:List Net)(j:Nat)(h:j<l.length):Cf k ((l.take (j+1)).map A7)=Cf k ((l.take j).map A7)++(if(A7 l[j]).kind=k then(A7 l[j]).kids else [A7 l[j]]):=by
 rw[A4r h,A4m,Ju];congr 1;exact L9 k _
theorem U0 (l:List Int)(h:∀x∈l,0<=x)(h0:A8 l=0):∀x∈l,x=0:=by
 induction l with
 | nil=>intro x hx;cases hx
 | cons y r ih=>
  unfold A8 at h0;have hy:=h y spz;split at h0
  ·omega
  ·intro x hx
   rcases List.mem_cons.1 hx with rfl | hx
   ·omega
   ·exact ih (λz hz=>h z (by simp[hz])) h0 x hx
theorem Ho {k:Int}{e:Elem}{kids:List Net}(h:Au ⟨k,e,kids⟩=0):
  (k=1/\kids=[])\/((k=2\/k=3)/\0<kids.length/\∀x∈kids,Au x=0)\/(k=4/\e=⟨0,[]⟩/\∃x,kids=[x]/\Au x=0):=by
 rw[N8] at h;by_cases h1:k=1
 ·rw[if_pos h1] at h
  refine .inl ⟨h1,?_⟩;by_cases h2:0<kids.length
  ·rw[if_pos h2] at h;omega
  ·exact List.length_eq_zero_iff.1 omz
 ·rw[if_neg h1] at h
  by_cases h2:Vq k e.op e.args.length kids.length=true
  ·rw[if_pos h2] at h;omega
  ·rw[if_neg h2] at h
   have hk:=U0 _ (λx hx=>by obtain⟨n,_,rfl⟩:=List.mem_map.1 hx;exact(Ji n).1) h;have hk2:=λx hx=>hk _ (List.mem_map.2 ⟨x,hx,rfl⟩)
   simp only[Vq,Bool.or_eq_true,decide_eq_true_eq,bne_iff_ne,ne_eq,beq_iff_eq,Bool.and_eq_true,not_or,not_and,Decidable.not_not] at h2;obtain⟨⟨⟨⟨⟨a1,a2⟩,a3⟩,a4⟩,a5⟩,a6⟩:=h2;by_cases h4:k=4
   ·refine .inr (.inr ⟨h4,?_,?_⟩)
    ·obtain⟨op,args⟩:=e
     simp only at a3 a4;have:args=[]:=List.length_eq_zero_iff.1 omz;subst this;subst a3;rfl
    ·have hl:=a6 h4
     have hl2:kids.length=1:=omz
     obtain⟨x,rfl⟩:=List.length_eq_one_iff.1 hl2;exact⟨x,rfl,hk2 x spz⟩
   ·exact .inr (.inl ⟨omz,omz,hk2⟩)
theorem Afw {k:Int}{e:Elem}{kids:List Net}{c:Nat}(h:Aj ⟨k,e,kids⟩<=c):sizes (kids.map A7)<=c/\∀x∈kids,Aj x<=c:=by
 have h1:=Afs kids;rw[Lu] at h;refine⟨by unfold sizes at h1 ⊢;omega,λx hx=>?_⟩;have:=D9 Aj kids x hx
 omega
end Stil
namespace Stil
variable {c:Nat}{k:Int}
def Vj:Net->Prop
 | ⟨k,_,kids⟩=>((k=2\/k=3)->kids.length≠1/\∀x∈kids,x.kind≠k)/\∀p∈kids.map Vj,p
theorem Xl (n:Net):Vj n↔((n.kind=2\/n.kind=3)->n.kids.length≠1/\∀x∈n.kids,x.kind≠n.kind)/\∀x∈n.kids,Vj x:=by
 obtain⟨k,e,kids⟩:=n;rw[Vj,all_map]
theorem Amj (k:Int)(l:List Net)(h:∀x∈l,x.kind≠k):Cf k l=l:=by
 induction l with
 | nil=>rfl
 | cons x r ih=>
  have e:x::r=[x]++r:=rfl;rw[e,Ju,L9,if_neg (h x spz),ih (λy hy=>h y (A4c _ hy))]
theorem Ag9 (k:Int)(hk:k=2\/k=3)(l:List Net)(h:∀x∈l,Vj x):∀x∈Cf k l,x.kind≠k/\Vj x:=by
 intro x hx;obtain⟨y,hy,hx⟩:=List.mem_flatMap.1 hx;have hn:=(Xl y).1 (h y hy);split at hx
 ·rename_i e
  refine⟨?_,hn.2 x hx⟩;have:=(hn.1 (by rw[e];exact hk)).2 x hx
  rwa [e] at this
 ·rename_i e
  rw[List.mem_singleton.1 hx];exact⟨e,h y hy⟩
theorem Alt (n:Net):Vj (A7 n):=by
 refine Fh (λn=>Vj (A7 n)) ?_ n;intro k e kids ih;have hm:∀x∈kids.map A7,Vj x:=by
  intro x hx;obtain⟨y,hy,rfl⟩:=List.mem_map.1 hx;exact ih y hy
 rw[Ib];split
 ·rename_i hk
  have hF:=Ag9 k hk _ hm;unfold Fb;split
  ·exact(hF _ (A4f _)).2
  ·rename_i hl
   rw[Xl];exact⟨λ_=>⟨hl,λx hx=>(hF x hx).1⟩,λx hx=>(hF x hx).2⟩
 ·rename_i hk
  rw[Xl];exact⟨λh=>absurd h hk,hm⟩
def Qw:Net->Prop
 | ⟨k,e,kids⟩=>((k=2\/k=3)->e=⟨0,[]⟩)/\∀p∈kids.map Qw,p
theorem U7 (n:Net):Qw n↔((n.kind=2\/n.kind=3)->n.one=⟨0,[]⟩)/\∀x∈n.kids,Qw x:=by
 obtain⟨k,e,kids⟩:=n;rw[Qw,all_map]
theorem Ai4 (n:Net):Qw (A7 n):=by
 refine Fh (λn=>Qw (A7 n)) ?_ n;intro k e kids ih;have hm:∀x∈kids.map A7,Qw x:=by
  intro x hx;obtain⟨y,hy,rfl⟩:=List.mem_map.1 hx;exact ih y hy
 have hF:∀x∈Cf k (kids.map A7),Qw x:=by
  intro x hx;obtain⟨y,hy,hx⟩:=List.mem_flatMap.1 hx;have hn:=(U7 y).1 (hm y hy);split at hx
  ·exact hn.2 x hx
  ·rw[List.mem_singleton.1 hx];exact hm y hy
 rw[Ib];split
 ·unfold Fb
  split
  ·exact hF _ (A4f _)
  ·rw[U7]
   exact⟨λ_=>rfl,hF⟩
 ·rename_i hk
  rw[U7];exact⟨λh=>absurd h hk,hm⟩
theorem Aus (n:Net):Vj n->Qw n->A7 n=n:=by
 refine Fh (λn=>Vj n->Qw n->A7 n=n) ?_ n;intro k e kids ih h1 h2;have a1:=(Xl _).1 h1;have a2:=(U7 _).1 h2;simp only at a1 a2;have hm:kids.map A7=kids:=by
  have:kids.map A7=kids.map id:=List.map_congr_left (λx hx=>ih x hx (a1.2 x hx) (a2.2 x hx));rw[this,List.map_id]
 rw[Ib,hm];split
 ·rename_i hk
  rw[Amj k kids (a1.1 hk).2];unfold Fb;rw[dif_neg (a1.1 hk).1,a2.1 hk]
 ·rfl
theorem Ann {ks:List Net}(hk:k=2\/k=3)(h0:0<ks.length)(h:∀x∈ks,Au x=0):Au ⟨k,⟨0,[]⟩,ks⟩=0:=by
 rw[N8,if_neg omz];have hb:Vq k 0 0 ks.length=false:=by
  unfold Vq;have e1:decide (k<2)=false:=by rw[decide_eq_false_iff_not];omega
  have e2:decide (4<k)=false:=by rw[decide_eq_false_iff_not];omega
  have e3:((ks.length:Int)==0)=false:=by rw[A5a];omega
  have e4:(k==4)=false:=by rw[A5a];omega
  simp[e1,e2,e3,e4]
 rw[if_neg (by simp only[A4a,hb];exact Bool.false_ne_true)];clear h0 hb;induction ks with
 | nil=>rfl
 | cons x r ih=>
  rw[A4q,A8,if_neg (by rw[h x spz];omega)];exact ih (λy hy=>h y (A4c _ hy))
theorem Apf {n:Net}(h:Au n=0)(hk:n.kind=2\/n.kind=3):0<n.kids.length/\∀x∈n.kids,Au x=0:=by
 obtain⟨k,e,kids⟩:=n;simp only at hk ⊢;rcases Ho h with⟨h1,_⟩ | ⟨_,h2,h3⟩ | ⟨h1,_⟩
 ·omega
 ·exact⟨h2,h3⟩
 ·omega
theorem Aqt (hk:k=2\/k=3){l:List Net}(h0:0<l.length)(h:∀x∈l,Au x=0):0<(Cf k l).length/\∀x∈Cf k l,Au x=0:=by
 have hone:∀x∈l,0<(Cf k [x]).length/\∀y∈Cf k [x],Au y=0:=by
  intro x hx;rw[L9];split
  ·rename_i e
   exact Apf (h x hx) (by rw[e];exact hk)
  ·exact⟨spz,λy hy=>by rw[List.mem_singleton.1 hy];exact h x hx⟩
 refine⟨?_,λy hy=>?_⟩
 ·obtain⟨x,r,rfl⟩:=List.exists_cons_of_ne_nil (List.ne_nil_of_length_pos h0)
  have e:x::r=[x]++r:=rfl;rw[e,Ju,A38];have:=(hone x spz).1
  omega
 ·obtain⟨x,hx,hy⟩:=List.mem_flatMap.1 hy
  refine(hone x hx).2 y ?_;rw[L9];exact hy
theorem Am2 (hk:k=2\/k=3){l:List Net}(h0:0<l.length)(h:∀x∈l,Au x=0):Au (Fb k (Cf k l))=0:=by
 obtain⟨h1,h2⟩:=Aqt hk h0 h;unfold Fb;split
 ·exact h2 _ (A4f _)
 ·exact Ann hk h1 h2
theorem Apw (n:Net):Au n=0->Au (A7 n)=0:=by
 refine Fh (λn=>Au n=0->Au (A7 n)=0) ?_ n;intro k e kids ih h;have h':=h;rw[Ib];rcases Ho h with⟨rfl,rfl⟩ | ⟨hk,h0,hks⟩ | ⟨rfl,rfl,x,rfl,hx⟩
 ·rw[if_neg omz];exact h'
 ·rw[if_pos hk]
  refine Am2 hk (by simpa using h0) (λx hx=>?_);obtain⟨y,hy,rfl⟩:=List.mem_map.1 hx;exact ih y hy (hks y hy)
 ·rw[if_neg omz]
  have hy:=ih x spz hx;rw[N8,if_neg omz];have hb:Vq 4 (⟨0,[]⟩:Elem).op (⟨0,[]⟩:Elem).args.length ([x].map A7).length=false:=rrz
  rw[if_neg (by rw[hb];exact Bool.false_ne_true)];simp only[A4q,List.map_nil,A8];rw[if_neg omz]
def fine (n:Net):Prop:=Vj n/\Qw n/\Au n=0
theorem Adc {n:Net}(h:Au n=0):fine (A7 n):=⟨Alt n,Ai4 n,Apw n h⟩
theorem Zv {n:Net}(h:fine n):A7 n=n:=Aus n h.1 h.2.1
def none0:Net:=⟨0,⟨0,[]⟩,[]⟩
theorem Ym {n:Net}(h:Aq n=true):n=none0:=by
 obtain⟨k,⟨op,args⟩,kids⟩:=n;simp only[Aq,Bool.and_eq_true,beq_iff_eq] at h;obtain⟨⟨⟨h1,h2⟩,h3⟩,h4⟩:=h;have e1:=List.length_eq_zero_iff.1 h3;have e2:=List.length_eq_zero_iff.1 h4;subst e1 e2 h1 h2;rfl
theorem Ad1 {n:Net}(h:fine n):Aq n=false:=by
 cases hn:Aq n with
 | false=>rfl
 | true=>
  have e:=Ym hn;have h2:=h.2.2;rw[e] at h2;unfold none0 at h2;rcases Ho h2 with⟨h3,_⟩ | ⟨h3,_⟩ | ⟨h3,_⟩<;>omega
def Jq (a b:Net):Net:=if Aq a then b else if Aq b then a else Fb 2 (Cf 2 [a,b])
theorem Agh {l:List Net}(h0:0<l.length)(h:∀x∈l,fine x):fine (Fb 2 (Cf 2 l)):=by
 have hm:l.map A7=l:=by
  have:l.map A7=l.map id:=List.map_congr_left (λx hx=>Zv (h x hx));rw[this,List.map_id]
 have e:Fb 2 (Cf 2 l)=A7 ⟨2,⟨0,[]⟩,l⟩:=by rw[Ib,if_pos (.inl rfl),hm]
 rw[e];exact Adc (Ann (.inl rfl) h0 (λx hx=>(h x hx).2.2))
def Ir (n:Net):Prop:=Aq n=true\/fine n
theorem Us {a b:Net}(ha:Ir a)(hb:Ir b):Ir (Jq a b):=by
 unfold Jq;split
 ·exact hb
 ·rename_i h1
  split
  ·exact ha
  ·rename_i h2
   refine .inr (Agh spz (λx hx=>?_));rcases List.mem_cons.1 hx with rfl | hx
   ·rcases ha with h | h
    ·exact absurd h h1
    ·exact h
   ·rw[List.mem_singleton.1 hx]
    rcases hb with h | h
    ·exact absurd h h2
    ·exact h
def Hq (l:List Arm):Nat:=(l.map Ak).sum
def Ia:Nat->Arm->Arm
 | 0,a=>a
 | f+1,a=>match a.kids with
  | [kid]=>if a.coils=[]\/Aq kid.net=true then Ia f ⟨Jq a.net kid.net,a.coils++kid.coils,kid.kids⟩ else a
  | _=>a
theorem Jz (a:Arm):1+Hq a.kids<=Ak a:=by
 obtain⟨n,c,kids⟩:=a;rw[Qe];unfold Hq;simp only;omega
theorem Ajh (f:Nat):∀a:Arm,Hq a.kids<=f->Ia f a=Ia (f+1) a:=by
 induction f with
 | zero=>
  intro a h;rw[Ia];conv=>rhs;rw[Ia]
  split
  ·rename_i kid e
   rw[e] at h;have:=Jz kid
   simp[Hq] at h;omega
  ·rfl
 | succ f ih=>
  intro a h;rw[Ia];conv=>rhs;rw[Ia]
  split
  ·rename_i kid e
   split
   ·refine ih _ ?_
    rw[e] at h;have:=Jz kid
    simp only[Hq,A4q,List.map_nil,List.sum_cons,List.sum_nil] at h this ⊢;omega
   ·rfl
  ·rfl
def joined (a:Arm):Arm:=Ia (Hq a.kids) a
theorem Aqd (a:Arm):∀f,Hq a.kids<=f->Ia f a=joined a:=by
 intro f h;obtain⟨d,rfl⟩:=Nat.exists_eq_add_of_le h;clear h;induction d with
 | zero=>rfl
 | succ d ih=>rw[<-Nat.add_assoc,<-Ajh _ a omz];exact ih
theorem Adp (n:Net)(c:List Elem)(kid:Arm)(h:c=[]\/Aq kid.net=true):joined ⟨n,c,[kid]⟩=joined ⟨Jq n kid.net,c++kid.coils,kid.kids⟩:=by
 have hs:Hq [kid]=Ak kid:=by simp[Hq]
 have hp:=Jz kid;unfold joined;simp only;rw[hs];obtain⟨f,hf⟩:∃f,Ak kid=f+1:=⟨Ak kid - 1,omz⟩
 rw[hf,Ia];simp only;rw[if_pos h];exact Aqd _ f (by simp only;omega)
theorem Qn (a:Arm)(h:∀kid,a.kids=[kid]->¬(a.coils=[]\/Aq kid.net=true)):joined a=a:=by
 unfold joined;cases hf:Hq a.kids with
 | zero=>rfl
 | succ f=>
  rw[Ia];split
  ·rename_i kid e
   rw[if_neg (h kid e)]
  ·rfl
def Dh:Arm->Arm
 | ⟨n,coils,kids⟩=>joined ⟨if Aq n then n else A7 n,coils,kids.map Dh⟩
theorem Apy (n:Net)(coils:List Elem)(kids:List Arm):Dh ⟨n,coils,kids⟩=joined ⟨if Aq n then n else A7 n,coils,kids.map Dh⟩:=by rw[Dh]
theorem Aqw:(⟨0,[]⟩:Elem).fits:=⟨by show i64 0;unfold i64;omega,spz,spz⟩
theorem Ajr {l:List Net}(h:∀x∈l,Dc x):∀x∈Cf k l,Dc x:=by
 intro x hx;obtain⟨y,hy,hx⟩:=List.mem_flatMap.1 hx;split at hx
 ·exact(Dp (h y hy)).2.2.2 x hx
 ·rw[List.mem_singleton.1 hx];exact h y hy
theorem Agg (hk:i64 k){l:List Net}(h:∀x∈l,Dc x)(hl:l.length<=1048576):Dc (Fb k l):=by
 unfold Fb;split
 ·exact h _ (A4f _)
 ·exact(Hu _ _ _).2 ⟨hk,Aqw,hl,h⟩
theorem Ak8 {a b:Net}(ha:Dc a)(hb:Dc b)(hs:Aj a+Aj b<=1000000):Dc (Jq a b):=by
 unfold Jq;split
 ·exact hb
 ·split
  ·exact ha
  ·refine Agg (by unfold i64;omega) (Ajr (λx hx=>?_)) ?_
   ·rcases List.mem_cons.1 hx with rfl | hx
    ·exact ha
    ·rw[List.mem_singleton.1 hx];exact hb
   ·have h1:=Ig (Cf 2 [a,b])
    have h2:=Jk 2 [a,b];have h3:sizes [a,b]=Aj a+Aj b:=by simp[sizes]
    omega
def nsz (n:Net):Nat:=if Aq n then 0 else Aj n
theorem Azs (n:Net):nsz n<=Aj n:=by unfold nsz;split<;>omega
theorem size_le (n:Net):Aj n<=1+nsz n:=by
 unfold nsz;split
 ·rename_i h
  rw[Ym h];show Aj ⟨0,⟨0,[]⟩,[]⟩<=_
  rw[Lu];simp
 ·omega
theorem Ak6 (a b:Net):nsz (Jq a b)<=nsz a+nsz b+1:=by
 unfold Jq;split
 ·omega
 ·rename_i h1
  split
  ·omega
  ·rename_i h2
   refine A4k (Azs _) ?_;have h3:=Abm 2 (Cf 2 [a,b]);have h4:=Jk 2 [a,b];have h5:sizes [a,b]=Aj a+Aj b:=by simp[sizes]
   have e1:nsz a=Aj a:=if_neg h1;have e2:nsz b=Aj b:=if_neg h2;omega
theorem Cc (n:Net)(c:List Elem)(kids:List Arm):Ak ⟨n,c,kids⟩=1+c.length+nsz n+Hq kids:=by rw[Qe];rfl
def Xw (c:Nat)(b:Arm):Prop:=Ci b/\Ak b<=c
theorem Lc (l:List Arm):l.length<=Hq l:=by
 unfold Hq;induction l with
 | nil=>simp
 | cons x r ihr=>
  have:=Jz x
  simp only[A39,A4q,List.sum_cons];omega
theorem Ado (k:Arm):Hq [k]=Ak k:=by simp[Hq]
theorem Al7 {n:Net}{cs:List Elem}{kid:Arm}(h:Xw c ⟨n,cs,[kid]⟩)(hc:c<=900000):Xw c ⟨Jq n kid.net,cs++kid.coils,kid.kids⟩/\sizes [n,kid.net]<=999999/\Dc n/\Dc kid.net/\cs.length+kid.coils.length<=1000000/\Hq kid.kids<Hq [kid]:=by
 obtain⟨hf,hs⟩:=h;rw[Cc,Ado] at hs;obtain⟨kn,kc,kk⟩:=kid;rw[Cc] at hs;rw[Ado,Cc];simp only;have hp:=(Em _ _ _).1 hf;have hk:=(Em _ _ _).1 (hp.2.2.2.2 ⟨kn,kc,kk⟩ spz);have h1:=size_le n;have h2:=size_le kn;have h3:=Ak6 n kn;refine⟨⟨(Em _ _ _).2 ⟨Ak8 hp.1 hk.1 omz,by rw[A38];omega,λx hx=>?_,hk.2.2.2⟩,?_⟩,by simp[sizes];omega,hp.1,hk.1,omz,omz⟩
 ·rcases List.mem_append.1 hx with hx | hx
  ·exact hp.2.2.1 x hx
  ·exact hk.2.2.1 x hx
 ·rw[Cc,A38];omega
theorem Afx (hc:c<=900000):∀(f:Nat) (b:Arm),Xw c b->Xw c (Ia f b)
 | 0,b,h=>h
 | f+1,⟨n,cs,kids⟩,h=>by
  rw[Ia];split
  ·rename_i kid e
   simp only at e;subst e;split
   ·exact Afx hc f _ (Al7 h hc).1
   ·exact h
  ·exact h
theorem Avf (hc:c<=900000)(b:Arm)(h:Xw c b):Xw c (joined b):=Afx hc _ b h
theorem Apx (n:Net):Dc n->Aj n<=1000000->Dc (A7 n):=by
 refine Fh (λn=>Dc n->Aj n<=1000000->Dc (A7 n)) ?_ n;intro k e kids ih h hs;rw[Ib];have hp:=(Hu _ _ _).1 h;have hks:sizes kids<Aj ⟨k,e,kids⟩:=by rw[D8];simp only;omega
 have hx:∀x∈kids.map A7,Dc x:=by
  intro x hx;obtain⟨y,hy,rfl⟩:=List.mem_map.1 hx;have:Aj y<=sizes kids:=D9 Aj kids y hy;exact ih y hy (hp.2.2.2 y hy) omz
 split
 ·refine Agg hp.1 (Ajr hx) ?_
  have h1:=Ig (Cf k (kids.map A7));have h2:=Jk k (kids.map A7);have h3:=Afs kids;omega
 ·exact(Hu _ _ _).2 ⟨hp.1,hp.2.1,by rw[A4o];exact hp.2.2.1,hx⟩
def Rk (n:Net):Net:=if Aq n then n else A7 n
theorem Ap4 {n:Net}(h:Dc n)(hs:nsz n<=900000):Dc (Rk n):=by
 unfold Rk;split
 ·exact h
 ·exact Apx n h (by have:=size_le n;omega)
theorem Ap2 (n:Net):nsz (Rk n)<=nsz n:=by
 unfold Rk;split
 ·exact A4d _
 ·rename_i h
  have e:nsz n=Aj n:=if_neg h;rw[e];exact A4k (Azs _) (Aba n)
theorem Lt (n:Net)(c:List Elem)(kids:List Arm):Dh ⟨n,c,kids⟩=joined ⟨Rk n,c,kids.map Dh⟩:=Apy n c kids
theorem Ah2 {n:Net}{c:List Elem}{kids:List Arm}(hf:Ci ⟨n,c,kids⟩)(hs:Ak ⟨n,c,kids⟩<=900000)(hk:∀x∈kids,Xw (Ak x) (Dh x)):Xw (Ak ⟨n,c,kids⟩) ⟨Rk n,c,kids.map Dh⟩:=by
 have hp:=(Em _ _ _).1 hf;rw[Cc] at hs ⊢;have h1:=Ap2 n;have h2:Hq (kids.map Dh)<=Hq kids:=by
  clear hf hs hp;induction kids with
  | nil=>simp
  | cons x r ih=>
   have a:=(hk x spz).2;have b:=ih (λy hy=>hk y (A4c _ hy));simp only[Hq,A4q,List.sum_cons] at b ⊢;omega
 refine⟨(Em _ _ _).2 ⟨Ap4 hp.1 omz,hp.2.1,hp.2.2.1,by rw[A4o];exact hp.2.2.2.1,λx hx=>?_⟩,by rw[Cc];omega⟩;obtain⟨y,hy,rfl⟩:=List.mem_map.1 hx;exact(hk y hy).1
theorem Xh (a:Arm):Ci a->Ak a<=900000->Xw (Ak a) (Dh a):=by
 refine Fg (λa=>Ci a->Ak a<=900000->Xw (Ak a) (Dh a)) ?_ a;intro n c kids ih hf hs;rw[Lt];have hp:=(Em _ _ _).1 hf;refine Avf hs _ (Ah2 hf hs (λx hx=>ih x hx (hp.2.2.2.2 x hx) ?_));have:Ak x<=Hq kids:=D9 Ak kids x hx;rw[Cc] at hs;omega
def Fq:Arm->Prop
 | ⟨n,_,kids⟩=>Ir n/\∀p∈kids.map Fq,p
theorem Eu (n:Net)(c:List Elem)(kids:List Arm):Fq ⟨n,c,kids⟩↔Ir n/\∀x∈kids,Fq x:=by rw[Fq,all_map]
theorem Zp {n:Net}{cs:List Elem}{kid:Arm}(h:Fq ⟨n,cs,[kid]⟩):Fq ⟨Jq n kid.net,cs++kid.coils,kid.kids⟩/\Ir n/\Ir kid.net:=by
 obtain⟨kn,kc,kk⟩:=kid;have h1:=(Eu _ _ _).1 h;have h2:=(Eu _ _ _).1 (h1.2 ⟨kn,kc,kk⟩ spz);exact⟨(Eu _ _ _).2 ⟨Us h1.1 h2.1,h2.2⟩,h1.1,h2.1⟩
theorem Abg:∀(f:Nat) (b:Arm),Fq b->Fq (Ia f b)
 | 0,b,h=>h
 | f+1,⟨n,cs,kids⟩,h=>by
  rw[Ia];split
  ·rename_i kid e
   simp only at e;subst e;split
   ·exact Abg f _ (Zp h).1
   ·exact h
  ·exact h
theorem Al6 (b:Arm)(h:Fq b):Fq (joined b):=Abg _ b h
theorem Qb {n:Net}(h:Aq n=true\/Au n=0):Ir (Rk n):=by
 unfold Rk;split
 ·rename_i h1;exact .inl h1
 ·rename_i h1
  rcases h with h | h
  ·exact absurd h h1
  ·exact .inr (Adc h)
def Jp:Arm->Prop
 | ⟨n,_,kids⟩=>(Aq n=true\/Au n=0)/\∀p∈kids.map Jp,p
theorem Oc (n:Net)(c:List Elem)(kids:List Arm):Jp ⟨n,c,kids⟩↔(Aq n=true\/Au n=0)/\∀x∈kids,Jp x:=by rw[Jp,all_map]
theorem Rx (a:Arm):Jp a->Fq (Dh a):=by
 refine Fg (λa=>Jp a->Fq (Dh a)) ?_ a;intro n c kids ih h;have hp:=(Oc _ _ _).1 h;rw[Lt];refine Al6 _ ((Eu _ _ _).2 ⟨Qb hp.1,λx hx=>?_⟩);obtain⟨y,hy,rfl⟩:=List.mem_map.1 hx;exact ih y hy (hp.2 y hy)
theorem Aeg (a:Arm):Cj a=0->Jp a:=by
 refine Fg (λa=>Cj a=0->Jp a) ?_ a;intro n c kids ih h;rw[U8] at h;have h0:Cm ⟨n,c,kids⟩=0:=by
  have:=Oe ⟨n,c,kids⟩
  split at h<;>omega
 rw[if_neg omz] at h;refine(Oc _ _ _).2 ⟨?_,λx hx=>ih x hx ?_⟩
 ·unfold Cm at h0
  simp only at h0;cases hn:Aq n with
  | true=>exact .inl rfl
  | false=>
   refine .inr ?_;have:=Ji n
   simp only[hn] at h0;split at h0
   ·simp at*;omega
   ·simp at*;omega
 ·exact U0 _ (λy hy=>by obtain⟨z,_,rfl⟩:=List.mem_map.1 hy;exact(Ot z).1) h _ (List.mem_map.2 ⟨x,hx,rfl⟩)
def Bc (l:List Arm):List Arm:=if(Bo l).1=0 then l.map Dh else []
theorem X8:∀(l:List Arm) (k:Nat),(Ed l k).1=0->(Ed l k).2=0/\∀x∈l,Eo x=0
 | [],_,_=>⟨rfl,λx hx=>by cases hx⟩
 | a::r,k,h=>by
  rw[Ed] at h ⊢;have hb:=Qm a;by_cases h0:0<Eo a
  ·rw[if_pos h0] at h;simp only at h;omega
  ·rw[if_neg h0] at h ⊢
   obtain⟨h1,h2⟩:=X8 r (k+1) h;refine⟨h1,λx hx=>?_⟩;rcases List.mem_cons.1 hx with rfl | hx
   ·omega
   ·exact h2 x hx
theorem Atz {a:Arm}(h:Eo a=0):Aq a.net=false/\Cj a=0:=by
 unfold Eo at h;cases hn:Aq a.net with
 | true=>rw[hn] at h;simp at h
 | false=>rw[hn] at h;exact⟨rfl,by simpa using h⟩
theorem Kq {l:List Arm}(h:(Bo l).1=0):(Bo l).2=0/\l.length<=40/\Ce l<=400/\∀x∈l,Aq x.net=false/\Cj x=0:=by
 unfold Bo at h ⊢;by_cases h0:40<l.length\/400<Ce l
 ·rw[if_pos h0] at h;simp at h
 ·rw[if_neg h0] at h ⊢
  obtain⟨h1,h2⟩:=X8 l 0 h;exact⟨h1,omz,omz,λx hx=>Atz (h2 x hx)⟩
theorem Wi:∀(l:List Arm) (k:Nat),0<=(Ed l k).1/\(Ed l k).1<=5
 | [],_=>by rw[Ed];simp
 | a::r,k=>by
  rw[Ed];have hb:=Qm a;split
  ·exact hb
  ·exact Wi r (k+1)
theorem Yu (l:List Arm):0<=(Bo l).1/\(Bo l).1<=5:=by
 unfold Bo;split
 ·simp
 ·exact Wi l 0
theorem Qy {l:List Arm}{x:Arm}(hx:x∈l):Ak x<=Ce l:=D9 Ak l x hx
theorem Jh {l:List Arm}(h:(Bo l).1=0){x:Arm}(hx:x∈l):Jp x/\Ak x<=400:=by
 obtain⟨_,_,h2,h3⟩:=Kq h;exact⟨Aeg x (h3 x hx).2,A4k (Qy hx) h2⟩
end Stil
