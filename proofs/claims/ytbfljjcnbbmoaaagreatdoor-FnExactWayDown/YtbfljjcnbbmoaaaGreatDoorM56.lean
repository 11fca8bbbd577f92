import Derived.Test.YtbfljjcnbbmoaaaGreatDoorGp
import Derived.Test.YtbfljjcnbbmoaaaGreatDoorChecked
import Derived.Test.YtbfljjcnbbmoaaaGreatDoorGM
import Derived.WalkKit
import Derived.WalkSpells
import Derived.WalkLawsBesides
import Derived.Deep.QuietTactic
import Derived.BigQuiet
import Derived.Lib.QuietBelow
import Derived.Deep.Light
import Derived.Lib.ItoaNum
import Derived.Laws.BytesArg
import Derived.Deep.RegionHeld3
import Derived.Test.YtbfljjcnbbmoaaaGreatDoorCI2
import Derived.KernelRfl
import Derived.Test.YtbfljjcnbbmoaaaGreatDoorCE3b
namespace Stil
def Dn (b:Nat)(l:List Nat):Nat:=l.foldl max b
theorem Adk (b:Nat)(l:List Nat)(x:Nat):Dn b (l++[x])=max (Dn b l) x:=by simp[Dn]
theorem Afu:∀(l:List Nat) (b c:Nat),Dn (max b c) l=max b (Dn c l)
 | [],_,_=>rfl
 | x::r,b,c=>by
  show Dn (max (max b c) x) r=max b (Dn (max c x) r)
  rw[Nat.max_assoc,Afu r]
theorem Yp (l:List Nat)(b:Nat):Dn b l=max b (Dn 0 l):=by
 have:=Afu l b 0
 rwa [Nat.max_zero] at this
theorem Adl:∀(l:List Nat) (b c:Nat),b<=c->(∀x∈l,x<=c)->Dn b l<=c
 | [],_,_,h,_=>h
 | x::r,b,c,h,hx=>Adl r (max b x) c (Nat.max_le.2 ⟨h,hx x spz⟩) (λy hy=>hx y (A4c _ hy))
theorem Jt {b:Nat}{l:List Nat}{j:Nat}(h:j<l.length):Dn b (l.take (j+1))=max (Dn b (l.take j)) l[j]:=by
 rw[A4r h,Adk]
def Aor (n i x:Nat):Nat:=if i+1<n then x+1 else x
def bump (fs:List Nat):List Nat:=fs.mapIdx (λi x=>Aor fs.length i x)
theorem Z9 (fs:List Nat):(bump fs).length=fs.length:=by simp[bump]
theorem Ah1 (fs:List Nat)(i:Nat)(h:i<(bump fs).length):(bump fs)[i]=Aor fs.length i (fs[i]'(by rwa [Z9] at h)):=by simp[bump]
theorem Awx (fs:List Nat)(z:Nat):bump (fs++[z])=fs.map (·+1)++[z]:=by
 apply List.ext_getElem
 ·simp[bump]
 ·intro i h1 h2
  rw[Ah1];unfold Aor;have h1':i<fs.length+1:=by simpa[Z9] using h1
  by_cases hi:i<fs.length
  ·rw[if_pos (by rw[A38,A48];omega),List.getElem_append_left hi,List.getElem_append_left (by simpa using hi),List.getElem_map]
  ·obtain rfl:i=fs.length:=by omega
   rw[if_neg (by rw[A38,A48];omega)];simp
def forks:Arm->Nat
 | ⟨_,_,kids⟩=>Dn 0 (bump (kids.map forks))
theorem Ab7 (n:Net)(c:List Elem)(kids:List Arm):forks ⟨n,c,kids⟩=Dn 0 (bump (kids.map forks)):=by rw[forks]
theorem Av1 (n:Net)(c:List Elem):forks ⟨n,c,[]⟩=0:=by rw[Ab7];rfl
theorem Aqs (n:Net)(c:List Elem)(init:List Arm)(z:Arm):forks ⟨n,c,init++[z]⟩=Dn (forks z) (init.map (λk=>1+forks k)):=by
 rw[Ab7,A4m,List.map_singleton,Awx,Adk,Yp _ (forks z),Nat.max_comm];congr 2;rw[List.map_map];refine List.map_congr_left (λx _=>?_);show forks x+1=1+forks x
 omega
theorem An7 (a:Arm):forks a<=Ak a:=by
 refine Fg (λa=>forks a<=Ak a) ?_ a;intro n c kids ih;rw[Ab7];refine Adl _ _ _ (Nat.zero_le _) (λx hx=>?_);obtain⟨i,hi,rfl⟩:=List.getElem_of_mem hx;rw[Ah1];have hi':i<kids.length:=by rw[Z9,A4o] at hi;exact hi
 rw[List.getElem_map];have h1:=ih kids[i] (A4f hi');have h2:Ak kids[i]<=Hq kids:=D9 Ak kids _ (A4f hi');rw[Cc];unfold Aor;split<;>omega
def Atn (k:Int)(b:Nat):Nat:=if k=1 then 1 else 1+b
def Ah3 (k:Int)(ks:List Int)(bs:List Nat):Nat:=if k=1 then 1 else Dn (bs.headD 0) ((List.zipWith Atn ks bs).drop 1)
def Dv:Net->Nat
 | ⟨k,_,kids⟩=>Ah3 k (kids.map Net.kind) (kids.map Dv)
def Eg (n:Net):Nat:=Atn n.kind (Dv n)
theorem Wu (k:Int)(e:Elem)(kids:List Net):Dv ⟨k,e,kids⟩=Ah3 k (kids.map Net.kind) (kids.map Dv):=by rw[Dv]
theorem Aee (e:Elem)(kids:List Net):Dv ⟨1,e,kids⟩=1:=by rw[Wu];rfl
theorem Aa3 {k:Int}(e:Elem)(x:Net)(r:List Net)(h:k≠1):Dv ⟨k,e,x::r⟩=Dn (Dv x) (r.map Eg):=by
 rw[Wu];unfold Ah3;rw[if_neg h];simp only[A4q,List.headD_cons,List.zipWith_cons_cons,List.drop_succ_cons,List.drop_zero];congr 1;rw[List.zipWith_map,List.zipWith_self];rfl
theorem Ak3 {n:Net}{c:Nat}(h:Dv n<=c):Eg n<=1+c:=by
 unfold Eg Atn;split<;>omega
theorem Abn (n:Net):Dv n<=Aj n:=by
 refine Fh (λn=>Dv n<=Aj n) ?_ n;intro k e kids ih;rw[D8];simp only;by_cases hk:k=1
 ·rw[hk,Aee];omega
 ·cases kids with
  | nil=>
   rw[Wu];unfold Ah3;rw[if_neg hk];simp[Dn]
  | cons x r=>
   rw[Aa3 e x r hk];have hx:∀y∈x::r,Aj y<=sizes (x::r):=λy hy=>D9 Aj _ y hy
   refine Adl _ _ _ (A4k (ih x spz) (by have:=hx x spz;omega)) (λz hz=>?_);obtain⟨y,hy,rfl⟩:=List.mem_map.1 hz;have h1:=Ak3 (ih y (A4c _ hy));have h2:=hx y (A4c _ hy);omega
def Di (n:Net):List Net:=if Aq n then [] else if n.kind=2 then n.kids else [n]
def H9 (n:Net)(t:Nat):Nat:=Dn t ((Di n).map Eg)
def Eh:Arm->Nat
 | ⟨_,_,kids⟩=>Dn 1 (List.zipWith H9 (kids.map Arm.net) (kids.map Eh))
theorem Acr (n:Net)(c:List Elem)(kids:List Arm):Eh ⟨n,c,kids⟩=Dn 1 (kids.map (λk=>H9 k.net (Eh k))):=by
 rw[Eh,List.zipWith_map,List.zipWith_self]
theorem Aab (n:Net):∀x∈Di n,Aj x<=nsz n:=by
 intro x hx;unfold Di at hx;split at hx
 ·cases hx
 ·rename_i h
  have e:nsz n=Aj n:=if_neg h;rw[e];split at hx
  ·rw[D8 n]
   have:Aj x<=sizes n.kids:=D9 Aj _ x hx;omega
  ·rw[List.mem_singleton.1 hx];exact A4d _
def Nc (a:Arm):Nat:=max (Dv a.net) (Eh a)
def Ll (l:List Arm):Nat:=Dn 0 ((Bc l).map Nc)
def I5 (l:List Arm):Nat:=Dn 0 ((Bc l).map forks)
def Wh:Net->Prop
 | ⟨k,_,kids⟩=>(k≠1->kids≠[])/\∀p∈kids.map Wh,p
theorem Aav (k:Int)(e:Elem)(kids:List Net):Wh ⟨k,e,kids⟩↔(k≠1->kids≠[])/\∀x∈kids,Wh x:=by rw[Wh,all_map]
theorem full_of (n:Net):Au n=0->Wh n:=by
 refine Fh (λn=>Au n=0->Wh n) ?_ n;intro k e kids ih h;rw[Aav];rcases Ho h with⟨rfl,rfl⟩ | ⟨_,h0,hks⟩ | ⟨_,_,x,rfl,hx⟩
 ·exact⟨λh=>absurd rfl h,(λx hx=>by cases hx)⟩
 ·exact⟨(λ_ hn=>by rw[hn] at h0;simp at h0),λx hx=>ih x hx (hks x hx)⟩
 ·exact⟨(λ_ hn=>by cases hn),λy hy=>by rw[List.mem_singleton.1 hy];exact ih x spz hx⟩
theorem Ky {n:Net}(h:Au n=0):∀x∈n.kids,Au x=0:=by
 obtain⟨k,e,kids⟩:=n;rcases Ho h with⟨_,rfl⟩ | ⟨_,_,hks⟩ | ⟨_,_,x,rfl,hx⟩
 ·intro x hx;cases hx
 ·exact hks
 ·intro y hy;rw[List.mem_singleton.1 hy];exact hx
theorem Am3 {n:Net}(h:Ir n):∀x∈Di n,Wh x:=by
 intro x hx;unfold Di at hx;split at hx
 ·cases hx
 ·rename_i hn
  have hf:=h.resolve_left hn;split at hx
  ·exact full_of x (Ky hf.2.2 x hx)
  ·rw[List.mem_singleton.1 hx];exact full_of n hf.2.2
theorem Av6 {n:Net}(h:fine n):1<=n.kind/\n.kind<=4:=by
 obtain⟨k,e,kids⟩:=n;rcases Ho h.2.2 with⟨h1,_⟩ | ⟨h1,_⟩ | ⟨h1,_⟩<;>(simp only;omega)
theorem Ak7 {a b:Net}(h:Aq a=false)(hb:Ir b)(ha:fine a):Aq (Jq a b)=false:=by
 have hs:=Us (.inr ha) hb;unfold Jq at hs ⊢;rw[if_neg (by rw[h];exact Bool.false_ne_true)] at hs ⊢;split
 ·exact h
 ·rename_i h2
  rw[if_neg h2] at hs;refine Ad1 (Agh spz (λx hx=>?_));rcases List.mem_cons.1 hx with rfl | hx
  ·exact ha
  ·rw[List.mem_singleton.1 hx]
   exact hb.resolve_left h2
theorem Adq:∀(f:Nat) (b:Arm),Fq b->Aq b.net=false->Aq (Ia f b).net=false
 | 0,_,_,h=>h
 | f+1,⟨n,cs,kids⟩,hf,h=>by
  rw[Ia];split
  ·rename_i kid e
   simp only at e h;subst e;split
   ·have hj:=Zp hf
    refine Adq f _ hj.1 ?_;exact Ak7 h hj.2.2 (hj.2.1.resolve_left (by rw[h];exact Bool.false_ne_true))
   ·exact h
  ·exact h
theorem Ade {a:Arm}(hr:Jp a)(h:Aq a.net=false):Aq (Dh a).net=false:=by
 obtain⟨n,c,kids⟩:=a;have hp:=(Oc _ _ _).1 hr;rw[Lt];simp only at h;refine Adq _ _ ((Eu _ _ _).2 ⟨Qb hp.1,λx hx=>?_⟩) ?_
 ·obtain⟨y,hy,rfl⟩:=List.mem_map.1 hx
  exact Rx y (hp.2 y hy)
 ·show Aq (Rk n)=false
  unfold Rk;rw[if_neg (by rw[h];exact Bool.false_ne_true)];exact Ad1 (Adc (hp.1.resolve_left (by rw[h];exact Bool.false_ne_true)))
theorem Tc (l:List Arm):∀x∈Bc l,Fq x/\Aq x.net=false:=by
 intro x hx;unfold Bc at hx;by_cases h0:(Bo l).1=0
 ·rw[if_pos h0] at hx
  obtain⟨y,hy,rfl⟩:=List.mem_map.1 hx;have hr:=(Jh h0 hy).1;exact⟨Rx y hr,Ade hr ((Kq h0).2.2.2 y hy).1⟩
 ·rw[if_neg h0] at hx;cases hx
end Stil
namespace Stil
end Stil
namespace Stil
def Og:Arm->Prop
 | ⟨n,c,kids⟩=>Ir n/\(∀p∈kids.map Og,p)/\∀kid,kids=[kid]->¬(c=[]\/Aq kid.net=true)
theorem Qg (n:Net)(c:List Elem)(kids:List Arm):Og ⟨n,c,kids⟩↔Ir n/\(∀x∈kids,Og x)/\∀kid,kids=[kid]->¬(c=[]\/Aq kid.net=true):=by rw[Og,all_map]
theorem Ap3 {n:Net}(h:Ir n):Rk n=n:=by
 unfold Rk;split
 ·rfl
 ·rename_i h1
  exact Zv (h.resolve_left h1)
theorem Akq (a:Arm):Og a->Dh a=a:=by
 refine Fg (λa=>Og a->Dh a=a) ?_ a;intro n c kids ih h;obtain⟨h1,h2,h3⟩:=(Qg _ _ _).1 h;have hm:kids.map Dh=kids:=by
  have:kids.map Dh=kids.map id:=List.map_congr_left λx hx=>ih x hx (h2 x hx)
  rw[this,List.map_id]
 rw[Lt,Ap3 h1,hm];exact Qn _ h3
theorem Aqc {l:List Arm}(h:Hq l<=0):l=[]:=by
 have:=Lc l
 exact List.eq_nil_of_length_eq_zero omz
theorem Abf:∀(f:Nat) (b:Arm),Hq b.kids<=f->Ir b.net->(∀x∈b.kids,Og x)->Og (Ia f b)
 | 0,⟨n,cs,kids⟩,hs,hn,_=>by
  simp only at hs hn;obtain rfl:=Aqc hs;rw[Ia];exact(Qg _ _ _).2 ⟨hn,λx hx=>(by cases hx),λkid e=>(by cases e)⟩
 | f+1,⟨n,cs,kids⟩,hs,hn,hk=>by
  simp only at hs hn hk;rw[Ia];split
  ·rename_i kid e
   simp only at e;subst e;split
   ·obtain⟨kn,kc,kk⟩:=kid
    have h1:=(Qg _ _ _).1 (hk ⟨kn,kc,kk⟩ spz);have h2:=Jz ⟨kn,kc,kk⟩;rw[Ado] at hs;simp only at h2;exact Abf f _ (by simp only;omega) (Us hn h1.1) h1.2.1
   ·rename_i hne
    exact(Qg _ _ _).2 ⟨hn,hk,λk e=>by
     simp only[List.cons.injEq,and_true] at e;subst e
     exact hne⟩
  ·rename_i hne
   exact(Qg _ _ _).2 ⟨hn,hk,λk e=>absurd e (hne k)⟩
theorem Abb (a:Arm):Jp a->Og (Dh a):=by
 refine Fg (λa=>Jp a->Og (Dh a)) ?_ a;intro n c kids ih h;have hp:=(Oc _ _ _).1 h;rw[Lt];unfold joined;refine Abf _ _ (A4d _) (Qb hp.1) λx hx=>?_
 obtain⟨y,hy,rfl⟩:=List.mem_map.1 hx;exact ih y hy (hp.2 y hy)
theorem Agz {a:Arm}(h:Jp a):Dh (Dh a)=Dh a:=Akq _ (Abb a h)
theorem Abj {n:Net}(h:Ir n):Aq n=true\/Au n=0:=h.imp id λh=>h.2.2
theorem Q7 {a:Arm}:Cm a=0↔(Aq a.net=true\/Au a.net=0)/\Dy a.coils=false/\¬(a.coils.length=0/\a.kids.length=0):=by
 have hb:=Ji a.net;unfold Cm;constructor
 ·intro h
  have h1:¬(Aq a.net=false/\0<Au a.net):=λhc=>by rw[if_pos hc] at h;omega
  rw[if_neg h1] at h;cases hc:Dy a.coils with
  | true=>rw[hc,if_pos rfl] at h;omega
  | false=>
   rw[hc,if_neg Bool.false_ne_true] at h;refine⟨?_,rfl,λh2=>by rw[if_pos h2] at h;omega⟩;cases hn:Aq a.net with
   | true=>exact .inl rfl
   | false=>
    have h4:¬0<Au a.net:=λx=>h1 ⟨hn,x⟩
    exact .inr omz
 ·rintro⟨h1,h2,h3⟩
  have h4:¬(Aq a.net=false/\0<Au a.net):=by
   rintro⟨h5,h6⟩;rcases h1 with h | h
   ·rw[h] at h5;exact Bool.noConfusion h5
   ·omega
  rw[if_neg h4,h2,if_neg Bool.false_ne_true,if_neg h3]
theorem Np {n:Net}{c:List Elem}{kids:List Arm}:Cj ⟨n,c,kids⟩=0↔Cm ⟨n,c,kids⟩=0/\∀x∈kids,Cj x=0:=by
 have hb:=Oe ⟨n,c,kids⟩;rw[U8];constructor
 ·intro h
  have h0:Cm ⟨n,c,kids⟩=0:=by split at h<;>omega
  rw[if_neg omz] at h;exact⟨h0,λx hx=>U0 _ (λy hy=>by obtain⟨z,_,rfl⟩:=List.mem_map.1 hy;exact(Ot z).1) h _ (List.mem_map.2 ⟨x,hx,rfl⟩)⟩
 ·rintro⟨h0,h1⟩
  rw[if_neg omz];simp only;clear h0 hb;induction kids with
  | nil=>rfl
  | cons x r ih=>
   rw[A4q,A8,h1 x spz,if_neg omz];exact ih (λy hy=>h1 y (by simp[hy]))
theorem Ad9 (a b:List Elem):Dy (a++b)=(Dy a || Dy b):=by simp[Dy]
theorem Abe:∀(f:Nat) (b:Arm),Fq b->Cj b=0->Cj (Ia f b)=0
 | 0,_,_,h=>h
 | f+1,⟨n,cs,kids⟩,hf,h=>by
  rw[Ia];split
  ·rename_i kid e
   simp only at e;subst e;split
   ·have hj:=Zp hf
    refine Abe f _ hj.1 ?_;obtain⟨kn,kc,kk⟩:=kid;have h1:=Np.1 h;have h2:=Np.1 (h1.2 ⟨kn,kc,kk⟩ spz);obtain⟨_,a2,_⟩:=Q7.1 h1.1;obtain⟨_,b2,b3⟩:=Q7.1 h2.1;simp only at a2 b2 b3;refine Np.2 ⟨Q7.2 ⟨Abj (Us hj.2.1 hj.2.2),?_,?_⟩,h2.2⟩
    ·simp only
     rw[Ad9,a2,b2];rfl
    ·simp only[A38]
     omega
   ·exact h
  ·exact h
theorem Ai5 (a:Arm):Cj a=0->Cj (Dh a)=0:=by
 refine Fg (λa=>Cj a=0->Cj (Dh a)=0) ?_ a;intro n c kids ih h;have hr:=(Oc _ _ _).1 (Aeg _ h);obtain⟨h1,h2⟩:=Np.1 h;obtain⟨_,a2,a3⟩:=Q7.1 h1;simp only at a2 a3;rw[Lt];unfold joined;refine Abe _ _ ((Eu _ _ _).2 ⟨Qb hr.1,λx hx=>?_⟩) (Np.2 ⟨Q7.2 ⟨Abj (Qb hr.1),a2,by simpa using a3⟩,λx hx=>?_⟩)
 ·obtain⟨y,hy,rfl⟩:=List.mem_map.1 hx
  exact Rx y (hr.2 y hy)
 ·obtain⟨y,hy,rfl⟩:=List.mem_map.1 hx
  exact ih y hy (h2 y hy)
theorem Apa {l:List Arm}(h1:l.length<=40)(h2:Ce l<=400)(h3:∀x∈l,Eo x=0):Bo l=(0,0):=by
 unfold Bo;rw[if_neg omz];clear h1 h2
 suffices ∀k,Ed l k=(0,0) from this 0
 induction l with
 | nil=>intro k;rfl
 | cons x r ih=>
  intro k;rw[Ed,h3 x spz,if_neg omz];exact ih (λy hy=>h3 y (by simp[hy])) _
theorem Apb {a:Arm}(h1:Aq a.net=false)(h2:Cj a=0):Eo a=0:=by
 unfold Eo;rw[h1,h2];rfl
theorem Agy {l:List Arm}(hf:∀x∈l,Ci x)(h:(Bo l).1=0):Bo (Bc l)=(0,0)/\Ce (Bc l)<=Ce l/\(Bc l).length=l.length/\Bc (Bc l)=Bc l/\∀x∈Bc l,Ci x:=by
 obtain⟨_,h1,h2,h3⟩:=Kq h;have e:Bc l=l.map Dh:=by unfold Bc;rw[if_pos h]
 have hm:=λx hx=>Xh x (hf x hx) (by have:=(Jh h hx).2;omega)
 have hs:Ce (Bc l)<=Ce l:=by
  rw[e];unfold Ce;rw[List.map_map];exact Ani _ _ _ λx hx=>(hm x hx).2
 have hc:Bo (Bc l)=(0,0):=by
  refine Apa (by rw[e,A4o];exact h1) omz λx hx=>?_
  rw[e] at hx;obtain⟨y,hy,rfl⟩:=List.mem_map.1 hx;exact Apb (Ade (Jh h hy).1 (h3 y hy).1) (Ai5 y (h3 y hy).2)
 refine⟨hc,hs,by rw[e,A4o],?_,λx hx=>?_⟩
 ·obtain⟨m,hm2⟩:∃m,m=Bc l:=⟨_,rfl⟩
  have e2:Bc (Bc l)=(Bc l).map Dh:=by
   rw[<-hm2] at hc ⊢;unfold Bc;rw[if_pos (by rw[hc])]
  rw[e2,e,List.map_map];exact List.map_congr_left λx hx=>Agz (Jh h hx).1
 ·rw[e] at hx
  obtain⟨y,hy,rfl⟩:=List.mem_map.1 hx;exact(hm y hy).1
end Stil
set_option maxHeartbeats 4000000
set_option maxRecDepth 100000
namespace Go.Proofs.YtbfljjcnbbmoaaaGreatDoor
open Stil
open Go.RowKit Go.Sort Go.BigFrame
theorem C9 {k:IntKind}{a b:Int}(h:a=b):Ending.returned (.int k a)=.returned (.int k b):=by rw[h]
theorem Ar {a b:Bool}(h:a=b):Ending.returned (.bool a)=.returned (.bool b):=by rw[h]
theorem Dq {W w1:World}(hb:Below W.heap.size W w1):(∀b o,b<W.heap.size->w1.cell? ⟨b,o,none⟩=W.cell? ⟨b,o,none⟩)/\(∀b o,b<W.heap.size->w1.frozen? ⟨b,o,none⟩=W.frozen? ⟨b,o,none⟩):=
 ⟨λb o h=>hb.cell (p:=⟨b,o,none⟩) h,λb o h=>hb.frozen (p:=⟨b,o,none⟩) h⟩
theorem Aa (w:World)(o:Obj):Below w.heap.size w (w.alloc o):=(Below.refl _ _).alloc (A4d _) o
theorem Tq {P:Program}{f:FuncId}{args:Array Value}{w:World}{v:Value}(h:Calls P f args w λe w'=>e=.returned v/\w'=w):Calls P f args w λe w'=>e=.returned v/\Below w.heap.size w w':=
 h.mono λ_ _ ⟨he,hw⟩=>⟨he,by rw[hw];exact Below.refl _ _⟩
theorem Ac1 (k:Int)(w:World):
  Calls Tryz.prog 132 #[.int .i64 k] w λe w'=>e=.returned (.int .i64 (Jw k))/\w'=w:=by
 go_enter Tryz.func132,Tryz.ntmps132
 go_wp2
 all_goals go_ret
 all_goals (refine⟨C9 ?_,rfl⟩;simp only[beq_iff_eq,A5a] at*;unfold Jw;simp[*])
theorem Aan (k n p:Int)(w:World)(hn1:-9223372036854775808<=n)(hn2:n<=9223372036854775807):
  Calls Tryz.prog 123 #[.agg #[.int .i64 k, .int .i64 n, .int .i64 p]] w λe w'=>e=.returned (.bool (Gy k n p))/\Below w.heap.size w w':=by
 have c0:(w.alloc (Obj.cells #[.int .i64 k, .int .i64 n, .int .i64 p] 86)).cell? ⟨w.heap.size,0,none⟩=some (.int .i64 k):=by simp[go_sem]
 have c1:(w.alloc (Obj.cells #[.int .i64 k, .int .i64 n, .int .i64 p] 86)).cell? ⟨w.heap.size,1,none⟩=some (.int .i64 n):=by simp[go_sem]
 have c2:(w.alloc (Obj.cells #[.int .i64 k, .int .i64 n, .int .i64 p] 86)).cell? ⟨w.heap.size,2,none⟩=some (.int .i64 p):=by simp[go_sem]
 have r0:=cell_regrown c0;have r1:=cell_regrown c1;have r2:=cell_regrown c2;clear c0 c1 c2;go_enter Tryz.func123,Tryz.ntmps123
 go_wp2
 rotate_right 1
 focus
  by_cases h0:0<=n
  ·by_cases h1:n<Jw k
   ·refine wp_region_quiet_below krz krz ?_
    repeat (go_big_quiet_step ((exact Calls.regrown_of (Tq (Ac1 _ _)))))
    refine wpQuiet_nil ?_;intro _ hw';obtain⟨⟨dq,osq⟩,hw''⟩:=hw';subst hw''
    go_wp2
    go_ret;refine⟨Ar ?_,(Aa _ _).trans ((below_regrown _ dq osq).mono spz)⟩;go_light;simp only[A5a] at*
    (rw[Bool.eq_iff_iff];simp[Gy, *];try omega)
   ·have h1':decide (n<Jw k)=false:=by simpa using h1
    refine wp_region_quiet_below krz krz ?_;repeat (go_big_quiet_step ((exact Calls.regrown_of (Tq (Ac1 _ _)))))
    refine wpQuiet_nil ?_;intro _ hw';obtain⟨⟨dq,osq⟩,hw''⟩:=hw';subst hw''
    go_wp2
    go_ret;refine⟨Ar ?_,(Aa _ _).trans ((below_regrown _ dq osq).mono spz)⟩;go_light;simp only[A5a] at*
    (rw[Bool.eq_iff_iff];simp[Gy, *];try omega)
  ·have h0':decide (0<=n)=false:=by simpa using h0
   refine wp_region_quiet_below krz krz ?_;repeat (go_big_quiet_step ((exact Calls.regrown_of (Tq (Ac1 _ _)))))
   refine wpQuiet_nil ?_;intro _ hw';obtain⟨⟨dq,osq⟩,hw''⟩:=hw';subst hw''
   go_wp2
   go_ret;refine⟨Ar ?_,(Aa _ _).trans ((below_regrown _ dq osq).mono spz)⟩;go_light;simp only[A5a] at*
   (rw[Bool.eq_iff_iff];simp[Gy, *];try omega)
 all_goals go_ret
 all_goals (refine⟨Ar ?_,Aa _ _⟩)
 all_goals go_light
 all_goals simp only[beq_iff_eq,A5a] at*
 all_goals (rw[Bool.eq_iff_iff];simp[Gy, *];try omega)
theorem Iy {w w1:World}{o:Obj}(hb:Below (w.alloc o).heap.size (w.alloc o) w1):Below w.heap.size w w1:=(Aa w o).trans (hb.mono spz)
theorem Xe (k n p:Int)(w:World)(hn1:-9223372036854775808<=n)(hn2:n<=9223372036854775807):
  Calls Tryz.prog 122 #[.agg #[.int .i64 k, .int .i64 n, .int .i64 p]] w λe w'=>e=.returned (.bool (O8 k n p))/\Below w.heap.size w w':=by
 cases h:Gy k n p;all_goals
  go_enter Tryz.func122,Tryz.ntmps122
  go_wp2_with (go_at_call 123;refine(Aan _ _ _ _ hn1 hn2).mono ?_;rintro e w' ⟨rfl,hb⟩;obtain⟨hc,hf⟩:=Dq hb)
  all_goals go_ret
  all_goals (refine⟨Ar ?_,Iy aqz⟩)
  all_goals go_light
  all_goals (rw[O8,h,Bool.eq_iff_iff];clear h;simp[*];try omega)
theorem Rt (k n p:Int)(w:World)(hn1:-9223372036854775808<=n)(hn2:n<=9223372036854775807):
  Calls Tryz.prog 106 #[.agg #[.int .i64 k, .int .i64 n, .int .i64 p]] w λe w'=>e=.returned (.bool (Hy k n p))/\Below w.heap.size w w':=by
 cases h:Gy k n p;all_goals
  go_enter Tryz.func106,Tryz.ntmps106
  go_wp2_with (go_at_call 123;refine(Aan _ _ _ _ hn1 hn2).mono ?_;rintro e w' ⟨rfl,hb⟩;obtain⟨hc,hf⟩:=Dq hb)
  all_goals go_ret
  all_goals (refine⟨Ar ?_,Iy aqz⟩)
  all_goals go_light
  all_goals (rw[Hy,h,Bool.eq_iff_iff];clear h;simp[*];try omega)
theorem Ut (k n p:Int)(w:World)(hn1:-9223372036854775808<=n)(hn2:n<=9223372036854775807):
  Calls Tryz.prog 107 #[.agg #[.int .i64 k, .int .i64 n, .int .i64 p]] w λe w'=>e=.returned (.bool (Iu k n p))/\Below w.heap.size w w':=by
 cases h:Gy k n p;all_goals
  go_enter Tryz.func107,Tryz.ntmps107
  go_wp2_with (go_at_call 123;refine(Aan _ _ _ _ hn1 hn2).mono ?_;rintro e w' ⟨rfl,hb⟩;obtain⟨hc,hf⟩:=Dq hb)
  all_goals go_ret
  all_goals (refine⟨Ar ?_,Iy aqz⟩)
  all_goals go_light
  all_goals (rw[Iu,h,Bool.eq_iff_iff];clear h;simp[*];try omega)
theorem Awa {k n p:Int}(h:Gy k n p=true)(h1:k≠11)(h2:k≠12)(h3:k≠13):1<=k/\k<=10/\0<=n/\n<64/\p=0:=by
 simp only[Gy,if_neg h1,if_neg h2,if_neg h3,decide_eq_true_eq] at h;obtain⟨a,b,c⟩:=h;unfold Jw at b;split at b
 ·omega
 ·split at b
  ·omega
  ·split at b
   ·omega
   ·split at b<;>omega
theorem Aaa {w w1:World}{o:Obj}(hb:Below (w.alloc o).heap.size (w.alloc o) w1):w.heap.size<w1.heap.size:=by have:=hb.size;simp at this;omega
end Go.Proofs.YtbfljjcnbbmoaaaGreatDoor
namespace Go.Proofs.YtbfljjcnbbmoaaaGreatDoor
open Go.Co
def Ac7:List (String × (Array Value->Sem Value)):=Extern.ReflectliteValue.rows++(Extern.ReflectliteType.rows++(Extern.AbiNoEscape.rows++Extern.RuntimeError.rows))
theorem Aiy (P:Program):∀p∈Ac7,∀args,Go.Co.Calm P (p.2 args):=by
 intro p hp args;simp only[Ac7,Extern.ReflectliteValue.rows,Extern.ReflectliteType.rows,Extern.AbiNoEscape.rows,Extern.RuntimeError.rows,A4l,A4t,List.not_mem_nil,or_false] at hp;rcases hp with hp | hp | hp | hp
 ·rcases hp with rfl | rfl | rfl | rfl | rfl | rfl | rfl | rfl | rfl | rfl
  all_goals dsimp only
  all_goals first
   | (simp;done)
   | (refine Lp ?_ (λ_ _ _ _=>?_) _<;>first | exact Ae | (simp;done))
   | (refine Kr ?_ (λ_ _ _ _=>?_) _<;>first | exact Ae | (simp;done))
 ·rcases hp with rfl | rfl | rfl | rfl | rfl | rfl | rfl | rfl | rfl | rfl | rfl | rfl
  all_goals dsimp only
  all_goals first
   | (simp;done)
   | (refine Nb (λ_=>?_) _<;>first | (simp;done) | (refine Go.Co.Calm.bind spz λ_=>?_;first | (simp;done) | (refine Go.Co.Calm.bind spz λ_=>?_;exact Ae)))
   | (refine Le _ (λ_ _=>?_) _<;>(simp;done))
   | (refine Kv (λ_=>?_) _<;>first | (simp;done) | (refine Go.Co.Calm.bind spz λ_=>?_;first | exact Ae | (simp;done) | (refine Go.Co.Calm.bind spz λ_=>?_;exact Ae)))
   | (refine Go.Co.Calm.bind spz λ_=>?_;exact Ae)
 ·rcases hp with rfl | rfl | rfl | rfl
  all_goals dsimp only
  all_goals first | (simp;done) | exact Ae
 ·rcases hp with rfl | rfl | rfl | rfl | rfl | rfl | rfl | rfl | rfl | rfl | rfl | rfl | rfl | rfl | rfl
  all_goals dsimp only
  all_goals first
   | (simp;done)
   | exact Ae
   | (refine Go.Co.Calm.bind spz λ_=>?_;first | exact Ae | (refine Go.Co.Calm.bind spz λ_=>?_;exact Ae))
def Alq (fn:Func):Option (Array Value->Sem Value):=match Ac7.lookup fn.name with
 | some e=>some e
 | none=>if fn.name= "internal/bytealg.MakeNoZero" then some (Extern.BytealgMakeNoZero.makeNoZero fn.params fn.resultTypes) else none
theorem Aiz (P:Program)(fn:Func)(e:Array Value->Sem Value)(h:Alq fn=some e)(args:Array Value):Go.Co.Calm P (e args):=by
 unfold Alq at h;split at h
 ·rename_i e' he
  cases h;have:(fn.name,e)∈Ac7:=by
   clear args
   revert he
   generalize Ac7=l;induction l with
   | nil=>intro h;cases h
   | cons p l ih=>
    intro h;rw[List.lookup_cons] at h;split at h
    ·rename_i hb
     cases h;rw[beq_iff_eq] at hb;rw[hb];exact List.mem_cons_self
    ·exact A4c _ (ih h)
  exact Aiy P _ this args
 ·split at h
  ·cases h
   simp
  ·cases h
theorem Aun:(Tryz.prog.funcs.toList.all λfn=>!(fn.name== "runtime.NumGoroutine"))=true:=krz
theorem Aum:((Tryz.prog.funcs.toList.filter λfn=>fn.body.isNone).all λfn=>(Extern.findNext fn).isNone)=true:=krz
theorem Auo:(Tryz.prog.funcs.toList.filter λfn=>fn.body.isNone).map Extern.find=(Tryz.prog.funcs.toList.filter λfn=>fn.body.isNone).map Alq:=krz
theorem okP:OkP Tryz.prog:=by
 have hm:∀(f:Nat) (fn:Func),Tryz.prog.funcs[f]?=some fn->fn∈Tryz.prog.funcs.toList:=λf fn h=>by
  rw[<-Array.getElem?_toList] at h;exact List.mem_of_getElem? h
 refine⟨λf fn h=>?_,λf fn h hb=>?_,λf fn e h hb he args=>?_⟩
 ·have:=List.all_eq_true.1 Aun fn (hm f fn h)
  simpa using this
 ·have:=List.all_eq_true.1 Aum fn (List.mem_filter.2 ⟨hm f fn h,hb⟩)
  simpa using this
 ·have:=List.map_inj_left.1 Auo fn (List.mem_filter.2 ⟨hm f fn h,hb⟩)
  rw[this] at he;exact Aiz _ fn e he args
end Go.Proofs.YtbfljjcnbbmoaaaGreatDoor
namespace Stil
structure Rl where
 code:Int
 one:Elem
def Rl.fits (i:Rl):Prop:=i64 i.code/\i.one.fits
end Stil
namespace Stil
theorem Xc (a:Net)(r:List Net):sizes (a::r)=Aj a+sizes r:=by simp[sizes]
theorem Acu:sizes []=0:=rfl
end Stil
namespace Stil
def Nv (c:Int):Rl:=⟨c,⟨0,[]⟩⟩
def Ato (k:Int)(n:Net)(l:List Rl):List Rl:=if n.kind=1 then [⟨k,n.one⟩] else l++[Nv (k+2)]
def A0v (k:Int)(o:Elem)(kids:List Net)(ls:List (List Rl)):List Rl:=
 if k=1 then [⟨1,o⟩] else if k=4 then ls.headD []++[Nv 6] else ls.headD []++((List.zipWith (Ato k) kids ls).drop 1).flatten
def D7:Net->List Rl
 | ⟨k,o,kids⟩=>A0v k o kids (kids.map D7)
theorem Aar (k:Int)(o:Elem)(kids:List Net):D7 ⟨k,o,kids⟩=A0v k o kids (kids.map D7):=by rw[D7]
def Ec (k:Int)(n:Net):List Rl:=Ato k n (D7 n)
theorem Uw (o:Elem)(kids:List Net):D7 ⟨1,o,kids⟩=[⟨1,o⟩]:=by rw[Aar];rfl
theorem Ux (o:Elem)(x:Net)(r:List Net):D7 ⟨4,o,x::r⟩=D7 x++[Nv 6]:=by rw[Aar];rfl
theorem Rz {k:Int}(o:Elem)(x:Net)(r:List Net)(h1:k≠1)(h4:k≠4):D7 ⟨k,o,x::r⟩=D7 x++(r.map (Ec k)).flatten:=by
 rw[Aar];unfold A0v;rw[if_neg h1,if_neg h4,A4q,List.headD_cons,List.zipWith_cons_cons,List.drop_succ_cons,List.drop_zero,List.zipWith_map_right,List.zipWith_self];rfl
theorem V8 (k:Int)(n:Net)(h:n.kind=1):Ec k n=[⟨k,n.one⟩]:=if_pos h
theorem Td (k:Int)(n:Net)(h:n.kind≠1):Ec k n=D7 n++[Nv (k+2)]:=if_neg h
def E5 (n:Net):List Rl:=((Di n).map (Ec 2)).flatten
def Ez (n i:Nat):List Rl:=if n=1 then [] else if i=0 then [Nv 7] else if i+1=n then [Nv 9] else [Nv 8]
def Il (cs:List Elem):List Rl:=cs.map (λc=>⟨10,c⟩)
def Avd (n i:Nat)(a:Arm)(t:List Rl):List Rl:=Ez n i++(E5 a.net++t)
def Azp (cs:List Elem)(kids:List Arm)(ts:List (List Rl)):List Rl:=
 Il cs++((List.zipWith (λ(a:Arm) t=>(a,t)) kids ts).mapIdx (λi p=>Avd kids.length i p.1 p.2)).flatten
def Ey:Arm->List Rl
 | ⟨_,cs,kids⟩=>Azp cs kids (kids.map Ey)
def Ip (n i:Nat)(a:Arm):List Rl:=Avd n i a (Ey a)
theorem Ur (n:Net)(cs:List Elem)(kids:List Arm):Ey ⟨n,cs,kids⟩=Il cs++(kids.mapIdx (λi a=>Ip kids.length i a)).flatten:=by
 rw[Ey];unfold Azp;congr 2;apply List.ext_getElem
 ·simp
 ·intro i h1 h2
  simp[Ip]
def F7 (a:Arm):List Rl:=D7 a.net++(Ey a++[Nv 11])
def H6 (l:List Arm):List Rl:=((Bc l).map F7).flatten
end Stil
namespace Stil
end Stil
namespace Stil
end Stil
namespace Stil
end Stil
namespace Stil
end Stil
namespace Stil
end Stil
namespace Stil
theorem Am9 {a:Arm}(h:Og a):Ir a.net:=by
 obtain⟨n,c,k⟩:=a;exact((Qg n c k).1 h).1
def Uz (n:Nat):Nat->List Arm->List Rl
 | _,[]=>[]
 | i,k::t=>Ip n i k++Uz n (i+1) t
theorem Adz (n:Nat):∀(ks:List Arm) (i:Nat),(ks.mapIdx (λj a=>Ip n (i+j) a)).flatten=Uz n i ks
 | [],_=>rfl
 | k::t,i=>by
  rw[List.mapIdx_cons,List.flatten_cons,Uz,<-Adz n t (i+1)];congr 3;funext j a;rw[Nat.add_assoc,Nat.add_comm 1 j]
theorem Ago (n:Net)(cs:List Elem)(kids:List Arm):Ey ⟨n,cs,kids⟩=Il cs++Uz kids.length 0 kids:=by
 rw[Ur,<-Adz];congr 3;funext j a;rw[A4h]
end Stil
namespace Stil
end Stil
namespace Stil
end Stil
namespace Stil
theorem Akn {n:Net}(h:Ir n):∀x∈Di n,Au x=0:=by
 intro x hx;unfold Di at hx;split at hx
 ·cases hx
 ·rename_i hn
  have hf:=h.resolve_left hn;split at hx
  ·exact Ky hf.2.2 x hx
  ·rw[List.mem_singleton.1 hx];exact hf.2.2
end Stil
namespace Stil
end Stil
namespace Stil
end Stil
namespace Go.Proofs.YtbfljjcnbbmoaaaGreatDoor
open Stil
open Go.RowKit Go.Sort Go.BigFrame Go.Conc Go.Co
variable {Low c : Nat}
theorem He {τ:Type}{P:Program}{ok:τ->(Nat->Prop)->World->Goroutine->Prop}{f:FuncId}{F:Func}{cd:Code}{args:Array Value}{x:τ}{O:Nat->Prop}{w:World}{Post:Value->τ->(Nat->Prop)->World->Prop}
  (hf:P.funcs[f]?=some F) (hname:(F.name== "runtime.NumGoroutine")=false) (hb:F.body=some cd) (h:WpK ok f cd (Akl P F Post) {tmps:=args++Array.replicate (F.ntmps - args.size) undef,defers:=[]} x O w):J6 P ok f args x O w Post:=⟨F,cd,hf,hname,hb,h⟩
def v0 (c:Int):Value:=.agg #[.int .i64 c, .int .i64 0, .slice none 0 0]
set_option maxRecDepth 100000 in
set_option maxHeartbeats 1000000 in
theorem A24 (n i:Nat)(hi:i<n)(hn:n<=1000000)(vs:List Value)(O:Nat->Prop)(w:World):
  J6 Tryz.prog (okS Tryz.prog Low c) 93 #[.chan (some c), .int .i64 i, .int .i64 n] ((Ez n i).map (λx=>v0 x.code)++vs) O w λ_ x' O' w'=>x'=vs/\O'=O/\w'=w:=by
 have hres:=resultsC_none (P:=Tryz.prog) (fn:=Tryz.f93) rfl;by_cases h1:n=1
 ·have e1:((n:Int)==1)=true:=by simp[h1]
  have el:Ez n i=[]:=by simp[Ez,h1]
  rw[el,List.map_nil,A4z];clear el;refine He Tryz.func93 rrz rfl ?_;simp only[Tryz.ntmps93,A4b,A39,A4a,Nat.reduceAdd,Nat.reduceSub,A41,A42,A47,A44,A4z,A4y];refine kW ?_;exact⟨rfl,_,hres _,rfl,rfl,rfl⟩
 have e1:((n:Int)==1)=false:=by rw[A5a];omega
 by_cases h2:i=0
 ·have e2:((i:Int)==0)=true:=by simp[h2]
  have el:Ez n i=[Nv 7]:=by simp[Ez,h1,h2]
  rw[el,A4q,List.map_nil,A4y,A4z];clear el;simp only[v0,Nv];refine He Tryz.func93 rrz rfl ?_;simp only[Tryz.ntmps93,A4b,A39,A4a,Nat.reduceAdd,Nat.reduceSub,A41,A42,A47,A44,A4z,A4y];refine kW ?_;exact⟨rfl,_,hres _,rfl,rfl,rfl⟩
 have e2:((i:Int)==0)=false:=by rw[A5a];omega
 have hwr:IntKind.i64.wrap ((n:Int) - 1)=(n:Int) - 1:=by rw[IntKind.wrap_i64];omega
 by_cases h3:i+1=n
 ·have e3:((i:Int)==(n:Int) - 1)=true:=by rw[beq_iff_eq];omega
  have el:Ez n i=[Nv 9]:=by simp[Ez,h1,h2,h3]
  rw[el,A4q,List.map_nil,A4y,A4z];clear el;simp only[v0,Nv];refine He Tryz.func93 rrz rfl ?_;simp only[Tryz.ntmps93,A4b,A39,A4a,Nat.reduceAdd,Nat.reduceSub,A41,A42,A47,A44,A4z,A4y];refine kW ?_;exact⟨rfl,_,hres _,rfl,rfl,rfl⟩
 have e3:((i:Int)==(n:Int) - 1)=false:=by rw[A5a];omega
 have el:Ez n i=[Nv 8]:=by simp[Ez,h1,h2,h3]
 rw[el,A4q,List.map_nil,A4y,A4z];clear el;simp only[v0,Nv];refine He Tryz.func93 rrz rfl ?_;simp only[Tryz.ntmps93,A4b,A39,A4a,Nat.reduceAdd,Nat.reduceSub,A41,A42,A47,A44,A4z,A4y];refine kW ?_;exact⟨rfl,_,hres _,rfl,rfl,rfl⟩
end Go.Proofs.YtbfljjcnbbmoaaaGreatDoor
namespace Stil
theorem Ax7 {k:Int}{y:Net}(h:(D7 y).length+1<=2*Aj y):(Ec k y).length<=2*Aj y:=by
 by_cases e1:y.kind=1
 ·rw[V8 k y e1,A48,D8];omega
 ·rw[Td k y e1,A38,A48];exact h
theorem Agt {k:Int}:∀(r:List Net),(∀y∈r,(D7 y).length+1<=2*Aj y)->((r.map (Ec k)).flatten).length<=2*sizes r
 | [],_=>by simp
 | y::r,h=>by
  have h1:=Ax7 (k:=k) (h y spz);have h2:=Agt (k:=k) r (λz hz=>h z (A4c _ hz));rw[A4q,List.flatten_cons,A38,Xc];omega
theorem Adh (n:Net):Au n=0->(D7 n).length+1<=2*Aj n:=by
 refine Fh (λn=>Au n=0->(D7 n).length+1<=2*Aj n) ?_ n;intro k e kids ih hw;rw[D8];show _<=2*(1+sizes kids)
 rcases Ho hw with⟨rfl,rfl⟩ | ⟨h1,hp,hr⟩ | ⟨rfl,_,x,rfl,hx⟩
 ·rw[Uw,A48,Acu];omega
 ·obtain⟨x,r,rfl⟩:∃x r,kids=x::r:=by
   cases kids with
   | nil=>simp at hp
   | cons x r=>exact⟨x,r,rfl⟩
  have a1:=ih x spz (hr x spz);have a2:=Agt (k:=k) r (λy hy=>ih y (A4c _ hy) (hr y (A4c _ hy)));rw[Rz e x r omz omz,A38,Xc];omega
 ·have a1:=ih x spz hx
  rw[Ux,A38,A48,Xc,Acu];omega
theorem Agj {n:Net}(h:Ir n):(E5 n).length<=2*nsz n:=by
 unfold E5;have h1:=Agt (k:=2) (Di n) (λy hy=>Adh y (Akn h y hy));have h2:sizes (Di n)<=nsz n:=by
  unfold Di nsz;by_cases hn:Aq n=true
  ·rw[if_pos hn,if_pos hn];exact A4d _
  ·rw[if_neg hn,if_neg hn]
   split
   ·rw[D8];omega
   ·rw[Xc,Acu];omega
 omega
theorem Ayt (n i:Nat):(Ez n i).length<=1:=by
 unfold Ez;split
 ·simp
 ·split
  ·simp
  ·split<;>simp
theorem Abi (n:Nat):∀(ks:List Arm) (i:Nat),(∀k∈ks,Ir k.net/\(Ey k).length+2+2*nsz k.net<=2*Ak k)->(Uz n i ks).length<=2*Hq ks
 | [],_,_=>by simp[Uz]
 | k::t,i,h=>by
  obtain⟨h1,h2⟩:=h k spz;have a1:=Ayt n i;have a2:=Agj h1;have a3:=Abi n t (i+1) (λx hx=>h x (A4c _ hx));have e:Hq (k::t)=Ak k+Hq t:=by simp[Hq]
  rw[Uz,e];unfold Ip Avd;rw[A38,A38,A38];omega
theorem Ang (a:Arm):Fq a->(Ey a).length+2+2*nsz a.net<=2*Ak a:=by
 refine Fg (λa=>Fq a->(Ey a).length+2+2*nsz a.net<=2*Ak a) ?_ a;intro n cs kids ih h;have hk:=((Eu _ _ _).1 h).2;have h1:=Abi kids.length kids 0 (λk hkm=>⟨by have h3:=hk k hkm;obtain⟨kn,kc,kk⟩:=k;exact((Eu kn kc kk).1 h3).1,ih k hkm (hk k hkm)⟩);rw[Ago,A38,Cc];have h2:(Il cs).length=cs.length:=by simp[Il]
 show _+2+2*nsz n<=_
 omega
theorem Axj {a:Arm}(h:Fq a)(hn:fine a.net):(F7 a).length<=2*Ak a:=by
 have h1:=Ang a h;have h2:=Adh a.net hn.2.2;have h3:nsz a.net=Aj a.net:=by unfold nsz;rw[if_neg (by rw[Ad1 hn];decide)]
 unfold F7;rw[A38,A38,A48];omega
theorem Aix:∀(l:List Arm),(∀a∈l,Fq a/\fine a.net)->((l.map F7).flatten).length<=2*Ce l
 | [],_=>by simp
 | a::l,h=>by
  have h1:=Axj (h a spz).1 (h a spz).2;have h2:=Aix l (λx hx=>h x (A4c _ hx));have e:Ce (a::l)=Ak a+Ce l:=by simp[Ce]
  rw[A4q,List.flatten_cons,A38,e];omega
end Stil
namespace Stil
structure A28 (a:Arm):Prop where
 fineA:Fq a
 net:fine a.net
 norm:Og a
 right:Cj a=0
 size:Ak a<=400
theorem Xg {l:List Arm}(hf:∀x∈l,Ci x)(h:(Bo l).1=0):(∀a∈Bc l,A28 a)/\Ce (Bc l)<=400/\(Bo (Bc l)).1=0:=by
 obtain⟨h1,h2,_⟩:=Agy hf h;have h3:(Bo (Bc l)).1=0:=by rw[h1]
 have h4:=Kq h3;refine⟨λa ha=>?_,h4.2.2.1,h3⟩;obtain⟨b1,b2⟩:=Tc l a ha;obtain⟨c1,c2⟩:=Jh h3 ha;have e:Bc l=l.map Dh:=by unfold Bc;rw[if_pos h]
 have hn:Og a:=by
  rw[e] at ha;obtain⟨x,hx,rfl⟩:=List.mem_map.1 ha;exact Abb x (Jh h hx).1
 refine⟨b1,(Am9 hn).resolve_left (by rw[b2];decide),hn,(h4.2.2.2 a ha).2,c2⟩
theorem Auk {l:List Arm}(h:(Bo l).1≠0):H6 l=[]/\Ll l=0/\I5 l=0:=by
 have e:Bc l=[]:=by unfold Bc;rw[if_neg h]
 unfold H6 Ll I5;rw[e];exact⟨rfl,rfl,rfl⟩
theorem Yk {l:List Arm}(hf:∀x∈l,Ci x):(H6 l).length<=800:=by
 by_cases h:(Bo l).1=0
 ·obtain⟨h1,h2,_⟩:=Xg hf h
  have:=Aix (Bc l) (λa ha=>⟨(h1 a ha).fineA,(h1 a ha).net⟩)
  show((Bc l).map F7).flatten.length<=800
  omega
 ·rw[(Auk h).1];exact Nat.zero_le _
end Stil
namespace Stil
end Stil
namespace Stil
end Stil
namespace Stil
end Stil
namespace Stil
end Stil
namespace Stil
end Stil
namespace Stil
end Stil
namespace Stil
end Stil
namespace Stil
end Stil
namespace Stil
def H7 (l:List Arm):List Rl × Int:=if 0<(Bo l).1 then([],1) else if 16<Ll l\/8<I5 l then([],2) else(H6 l,0)
theorem A2d {l:List Arm}(h:(Bo l).1=0)(hb:Ll l<=16)(hk:I5 l<=8):H7 l=(H6 l,0):=by
 unfold H7;rw[if_neg omz,if_neg omz]
theorem A2e {l:List Arm}(h:(H7 l).2=0):(Bo l).1=0/\Ll l<=16/\I5 l<=8:=by
 unfold H7 at h;split at h
 ·simp at h
 ·rename_i h1
  split at h
  ·simp at h
  ·have:=(Yu l).1
   exact⟨omz,omz,omz⟩
end Stil
