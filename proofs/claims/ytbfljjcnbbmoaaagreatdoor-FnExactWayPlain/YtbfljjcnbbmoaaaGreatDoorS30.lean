import Derived.Test.YtbfljjcnbbmoaaaGreatDoorGp
import Derived.Test.YtbfljjcnbbmoaaaGreatDoorG3
import Derived.Test.YtbfljjcnbbmoaaaGreatDoorGq
import Derived.Test.YtbfljjcnbbmoaaaGreatDoorGb
import Derived.Test.YtbfljjcnbbmoaaaGreatDoorGm
namespace Stil
def Y2 (n:Net):Prop:=Cc n/\(n.kind=0->Aq n=true)
def Awt (c:Nat) (st:List Net):Prop:=(∀n∈st,Y2 n)/\sizes st<=c
theorem A03 {n:Net} (h:Aua n):Y2 n:=⟨h.1,λh0=>by have:=h.2;omega⟩
theorem Aif:Cc Z7:=by
 unfold Z7;rw[Fa];exact⟨⟨by decide,by decide⟩,Abt,by simp,(λd hd=>by cases hd)⟩
theorem Aie:Aj Z7=1:=by rw[Dz];rfl
theorem Apf:Y2 Z7:=⟨Aif,λ_=>rfl⟩
theorem Az0 {k:Int} {a b:Net} (hk:k=2\/k=3) (ha:Y2 a) (hb:Y2 b) (hs:Aj a+Aj b<=1000000):Y2 (Xv k a b):=by
 unfold Xv;split
 ·exact hb
 ·have hk2:i64 k:=by rcases hk with rfl | rfl<;>exact⟨by decide,by decide⟩
  exact⟨Axf hk2 ha.1 hb.1 hs,λh0=>by have h0:k=0:=h0;omega⟩
theorem A3y {c:Int} {e:Elem} {st:List Net} {s:Nat} (he:e.fits) (h:Awt s st) (hs:s<=900000):Awt (s+2) (Ayi c e st):=by
 obtain⟨h1,h2⟩:=h;have hc:=A03 (Ai6 he);have hcs:=Ai5 e;have hno:∀a,Y2 a->Y2 (Axp a):=λa ha=>by
  refine⟨?_,λh0=>by have h0:(4:Int)=0:=h0;omega⟩;unfold Axp;rw[Fa];exact⟨⟨by decide,by decide⟩,Abt,by simp,λx hx=>by rw[List.mem_singleton.1 hx];exact ha.1⟩
 have one:∀k a r,(k=2\/k=3)->Y2 a->(∀n∈r,Y2 n)->sizes (a::r)<=s->Awt (s+2) (Xv k a (Ol e)::r):=λk a r hk ha hr hz=>by
  rw[F7] at hz;have:=Aoc k a (Ol e)
  refine⟨λn hn=>?_,by rw[F7];omega⟩;rcases List.mem_cons.1 hn with rfl | hn
  ·exact Az0 hk ha hc (by omega)
  ·exact hr n hn
 have two:∀k a b r,(k=2\/k=3)->Y2 a->Y2 b->(∀n∈r,Y2 n)->sizes (a::b::r)<=s->Awt (s+2) (Xv k b a::r):=λk a b r hk ha hb hr hz=>by
  rw[F7,F7] at hz;have:=Aoc k b a
  refine⟨λn hn=>?_,by rw[F7];omega⟩;rcases List.mem_cons.1 hn with rfl | hn
  ·exact Az0 hk hb ha (by omega)
  ·exact hr n hn
 have nil:Awt (s+2) []:=⟨(λn hn=>by cases hn),by simp[sizes]⟩
 unfold Ayi;split
 ·exact⟨λn hn=>(List.mem_cons.1 hn).elim (λe=>by rw[e];exact hc) (h1 n),by rw[F7];omega⟩
 ·split
  ·split
   ·exact one 2 _ _ (.inl rfl) (h1 _ (by simp)) (λn hn=>h1 n (by simp[hn])) h2
   ·exact nil
  ·split
   ·split
    ·exact one 3 _ _ (.inr rfl) (h1 _ (by simp)) (λn hn=>h1 n (by simp[hn])) h2
    ·exact nil
   ·split
    ·split
     ·exact two 2 _ _ _ (.inl rfl) (h1 _ (by simp)) (h1 _ (by simp)) (λn hn=>h1 n (by simp[hn])) h2
     ·exact⟨h1,by omega⟩
    ·split
     ·split
      ·exact two 3 _ _ _ (.inr rfl) (h1 _ (by simp)) (h1 _ (by simp)) (λn hn=>h1 n (by simp[hn])) h2
      ·exact⟨h1,by omega⟩
     ·split
      ·rename_i a r
       rw[F7] at h2;have:=Axo a
       refine⟨λn hn=>?_,by rw[F7];omega⟩;rcases List.mem_cons.1 hn with rfl | hn
       ·exact hno a (h1 a (by simp))
       ·exact h1 n (by simp[hn])
      ·exact nil
theorem Ahl:Awt 1 [Z7]:=⟨λn hn=>by rw[List.mem_singleton.1 hn];exact Apf,by rw[F7,P7,Aie];omega⟩
theorem Axq:Awt 0 []:=⟨(λn hn=>by cases hn),by simp[sizes]⟩
theorem Arr.ok:∀{l:List Ht} {st:List Net} {n:Net} {l1:List Ht} {s:Nat},Arr st l n l1->Awt s st->(∀i∈l,i.fits)->s+2*l.length<=900000->Y2 n/\Aj n+2*l1.length<=s+2*l.length
 | [],_,_,_,_,h,_,_,_=>h.elim
 | i::r,st,n,l1,s,h,hst,hf,hs=>by
  rw[Arr] at h;simp only[A4e] at hs ⊢;split at h
  ·have h2:=Arr.ok h.2.2 (A3y (hf i (by simp)).2 hst (by omega)) (λx hx=>hf x (by simp[hx])) (by omega)
   exact⟨h2.1,by omega⟩
  ·obtain⟨rfl,rfl⟩:=h
   have h3:=hst.2;rw[F7,P7] at h3;exact⟨hst.1 n (by simp),by simp only[A4e];omega⟩
theorem Aem.fits:∀{l:List Ht} {cs:List Elem} {l2:List Ht},Aem l cs l2->(∀i∈l,i.fits)->∀c∈cs,c.fits
 | [],_,_,h,_=>h.elim
 | i::r,cs,l2,h,hf=>by
  rw[Aem] at h;split at h
  ·obtain⟨c',rfl,h⟩:=h
   intro c hc;rcases List.mem_cons.1 hc with rfl | hc
   ·exact(hf i (by simp)).2
   ·exact Aem.fits h (λx hx=>hf x (by simp[hx])) c hc
  ·obtain⟨rfl,rfl⟩:=h
   exact(λc hc=>by cases hc)
def Awf (l:List Ht) (a:Arm) (r:List Ht) (s:Nat):Prop:=C9 a/\A7 a+4*r.length<=s+1+4*l.length
theorem Xd.fine {P:List Ht->Arm->List Ht->Prop} {L:Nat} (hP:∀l a r,l.length<=L->(∀i∈l,i.fits)->P l a r->Awf l a r 1/\r<:+l):∀{ks:List Arm} {l r:List Ht},l.length<=L->(∀i∈l,i.fits)->Xd P ks l r->(∀x∈ks,C9 x)/\Bh ks+4*r.length<=4*l.length/\ks.length<=l.length
 | [],_,_,_,_,h=>by simp[Xd] at h
 | _::_,[],_,_,_,h=>by simp[Xd] at h
 | a::ks,i::l,r,hL,hf,h=>by
  rw[Xd] at h;simp only[A4e] at hL ⊢;have et:Bh (a::ks)=A7 a+Bh ks:=by simp[Bh]
  rw[et];split at h
  ·rename_i hk
   subst hk;have h1:=(hP l a r (by omega) (λx hx=>hf x (by simp[hx])) h.2).1;have e0:Bh []=0:=rfl;rw[e0];refine⟨λx hx=>by rw[List.mem_singleton.1 hx];exact h1.1,by have:=h1.2;omega,by simp⟩
  ·obtain⟨_,m,h1,h2⟩:=h
   obtain⟨h3,h4⟩:=hP l a m (by omega) (λx hx=>hf x (by simp[hx])) h1;have h5:=h4.length_le;obtain⟨h6,h7,h8⟩:=Xd.fine hP (by omega) (λx hx=>hf x (by simp[h4.subset hx])) h2;refine⟨λx hx=>?_,by have:=h3.2;omega,by omega⟩;rcases List.mem_cons.1 hx with rfl | hx
   ·exact h3.1
   ·exact h6 x hx
theorem Ay5.fine:∀{n:Nat} {st:List Net} {l:List Ht} {a:Arm} {r:List Ht} {s:Nat},Ay5 n st l a r->Awt s st->(∀i∈l,i.fits)->s<=1->l.length<=1000->Awf l a r s
 | 0,_,_,_,_,_,h,_,_,_,_=>h.elim
 | n+1,st,l,a,r,s,h,hst,hf,hs,hl=>by
  obtain⟨l1,l2,h1,h2,h3⟩:=h;have hs1:=h1.suffix;have hs2:=h2.suffix;have e1:=hs1.1.length_le;have e2:=hs2.2.2;have hn:=h1.ok hst hf (by omega);have hcf:=h2.fits (λi hi=>hf i (hs1.1.subset hi));have hf2:=λi hi=>hf i (hs1.1.subset (hs2.1.subset hi))
  have hk:(∀x∈a.kids,C9 x)/\Bh a.kids+4*r.length<=4*l2.length+(if a.coils=[] then 0 else 2)/\a.kids.length<=1000:=by
   rcases h3 with⟨_,e,rfl⟩ | ⟨_,hc,b,e,h⟩ | ⟨_,h⟩
   ·rw[e]
    exact⟨(λx hx=>by cases hx),by show 0+_<=_;omega,by simp⟩
   ·rw[e]
    have h4:=Ay5.fine (s:=1) h Ahl hf2 (by omega) (by omega);have hne:a.coils≠[]:=by
     intro hc0;rw[hc0] at e2;have h5:=(List.IsSuffix.eq_of_length hs2.1 (by simpa using e2)).symm;have h6:=hs1.2;rw[h5] at h6;omega
    rw[if_neg hne];have e0:Bh [b]=A7 b:=by simp[Bh]
    rw[e0];exact⟨λx hx=>by rw[List.mem_singleton.1 hx];exact h4.1,by have:=h4.2;omega,by simp⟩
   ·obtain⟨h6,h7,h8⟩:=Xd.fine (L:=1000) (λl a r hl hf h=>⟨Ay5.fine (s:=1) h Ahl hf (by omega) hl,h.suffix⟩) (by omega) hf2 h
    exact⟨h6,by omega,by omega⟩
  obtain⟨an,acs,aks⟩:=a;simp only at hn hcf hk e2;refine⟨?_,?_⟩
  ·rw[Ee]
   exact⟨hn.1.1,by omega,hcf,by omega,hk.1⟩
  ·have e3:A7 ⟨an,acs,aks⟩=1+acs.length+(if Aq an then 0 else Aj an)+Bh aks:=by rw[A7];rfl
   rw[e3];have h9:(if Aq an then 0 else Aj an)<=Aj an:=by split<;>omega
   have h10:=hn.2;have h11:=hk.2.1;have h12:(if acs=[] then 0 else 2)<=2*acs.length:=by
    split
    ·omega
    ·rename_i hne
     have:=List.length_pos_iff.2 hne
     omega
   omega
end Stil
namespace Stil
def Md (c:Int):Ht:=⟨c,⟨0,[]⟩⟩
def As5 (k:Int) (n:Net) (l:List Ht):List Ht:=if n.kind=1 then [⟨k,n.one⟩] else l++[Md (k+2)]
def A0p (k:Int) (o:Elem) (kids:List Net) (ls:List (List Ht)):List Ht:=
 if k=1 then [⟨1,o⟩] else if k=4 then ls.headD []++[Md 6] else ls.headD []++((List.zipWith (As5 k) kids ls).drop 1).flatten
def Dy:Net->List Ht
 | ⟨k,o,kids⟩=>A0p k o kids (kids.map Dy)
theorem Z8 (k:Int) (o:Elem) (kids:List Net):Dy ⟨k,o,kids⟩=A0p k o kids (kids.map Dy):=by rw[Dy]
def D8 (k:Int) (n:Net):List Ht:=As5 k n (Dy n)
theorem Tz (o:Elem) (kids:List Net):Dy ⟨1,o,kids⟩=[⟨1,o⟩]:=by rw[Z8];rfl
theorem Ua (o:Elem) (x:Net) (r:List Net):Dy ⟨4,o,x::r⟩=Dy x++[Md 6]:=by rw[Z8];rfl
theorem Qz {k:Int} (o:Elem) (x:Net) (r:List Net) (h1:k≠1) (h4:k≠4):Dy ⟨k,o,x::r⟩=Dy x++(r.map (D8 k)).flatten:=by
 rw[Z8];unfold A0p;rw[if_neg h1,if_neg h4,A4v,List.headD_cons,List.zipWith_cons_cons,List.drop_succ_cons,List.drop_zero,List.zipWith_map_right,List.zipWith_self];rfl
theorem Vk (k:Int) (n:Net) (h:n.kind=1):D8 k n=[⟨k,n.one⟩]:=if_pos h
theorem Rl (k:Int) (n:Net) (h:n.kind≠1):D8 k n=Dy n++[Md (k+2)]:=if_neg h
def En (n:Net):List Ht:=((Fv n).map (D8 2)).flatten
def Em (n i:Nat):List Ht:=if n=1 then [] else if i=0 then [Md 7] else if i+1=n then [Md 9] else [Md 8]
def Ic (cs:List Elem):List Ht:=cs.map (λc=>⟨10,c⟩)
def Aus (n i:Nat) (a:Arm) (t:List Ht):List Ht:=Em n i++(En a.net++t)
def Azh (cs:List Elem) (kids:List Arm) (ts:List (List Ht)):List Ht:=
 Ic cs++((List.zipWith (λ(a:Arm) t=>(a,t)) kids ts).mapIdx (λi p=>Aus kids.length i p.1 p.2)).flatten
def Ej:Arm->List Ht
 | ⟨_,cs,kids⟩=>Azh cs kids (kids.map Ej)
def Ig (n i:Nat) (a:Arm):List Ht:=Aus n i a (Ej a)
theorem Tn (n:Net) (cs:List Elem) (kids:List Arm):Ej ⟨n,cs,kids⟩=Ic cs++(kids.mapIdx (λi a=>Ig kids.length i a)).flatten:=by
 rw[Ej];unfold Azh;congr 2;apply List.ext_getElem
 ·simp
 ·intro i h1 h2
  simp[Ig]
def Fb (a:Arm):List Ht:=Dy a.net++(Ej a++[Md 11])
def Kq (l:List Arm):List Ht:=((Bq l).map Fb).flatten
end Stil
namespace Go.Proofs.YtbfljjcnbbmoaaaGreatDoor
open Go.RowKit Go.Sort Go.BigFrame
structure MI where
 code:Int
 e:Cm
def MI.val (m:MI):Value:=.agg #[.int .i64 m.code, .int .i64 m.e.op,m.e.av]
def MI.inst (m:MI):Stil.Ht:=⟨m.code,m.e.elem⟩
def mi0 (k:Int):MI:=⟨k,⟨0,[], .slice none 0 0⟩⟩
def MI.cells (m:MI):List Value:=[.int .i64 m.code, .int .i64 m.e.op,m.e.av]
def Ep (l:List MI):List Value:=l.flatMap MI.cells
theorem Aii (l:List MI) (m:MI):Ep (l++[m])=Ep l++m.cells:=by simp[Ep]
end Go.Proofs.YtbfljjcnbbmoaaaGreatDoor
namespace Stil
def Ay4:List Ht->List Net->List Net->Prop
 | [],st,t=>st=t
 | i::r,st,t=>1<=i.code/\i.code<7/\needs i.code<=(st.length:Int)/\Ay4 r (Ayi i.code i.one st) t
theorem Ay4.net:∀{l r:List Ht} {st t:List Net} {n:Net} {l1:List Ht},Ay4 l st t->Arr t r n l1->Arr st (l++r) n l1
 | [],_,_,_,_,_,h,k=>by cases h;exact k
 | _::_,_,_,_,_,_,h,k=>by
  rw[A43,Arr,if_pos h.2.1];exact⟨h.1,h.2.2.1,Ay4.net h.2.2.2 k⟩
end Stil
namespace Stil
theorem Amk {a:Arm} (h:Nu a):Jn a.net:=by
 obtain⟨n,c,k⟩:=a;exact((Pv n c k).1 h).1
def Ud (n:Nat):Nat->List Arm->List Ht
 | _,[]=>[]
 | i,k::t=>Ig n i k++Ud n (i+1) t
theorem Ac3 (n:Nat):∀(ks:List Arm) (i:Nat),(ks.mapIdx (λj a=>Ig n (i+j) a)).flatten=Ud n i ks
 | [],_=>rfl
 | k::t,i=>by
  rw[List.mapIdx_cons,List.flatten_cons,Ud,<-Ac3 n t (i+1)];congr 3;funext j a;rw[Nat.add_assoc,Nat.add_comm 1 j]
theorem Afw (n:Net) (cs:List Elem) (kids:List Arm):Ej ⟨n,cs,kids⟩=Ic cs++Ud kids.length 0 kids:=by
 rw[Tn,<-Ac3];congr 3;funext j a;rw[A4m]
end Stil
namespace Stil
def A20:Int × Int->List Ht->Int × Int
 | s,[]=>s
 | s,i::r=>A20 (step s i.code) r
def hts (b f:Nat):Int × Int:=((b:Int),(f:Int))
theorem Axi (p q b f:Nat):Atz (hts p q) (hts b f)=hts (max p b) (max q f):=by
 unfold Atz hts;refine Prod.ext ?_ ?_
 ·show(if(p:Int)<b then(b:Int) else p)=((max p b:Nat):Int)
  split<;>omega
 ·show(if(q:Int)<f then(f:Int) else q)=((max q f:Nat):Int)
  split<;>omega
structure Aog (l:List Ht) (b f b' f' B F:Nat):Prop where
 lo1:b<=B
 lo2:f<=F
 hi1:b'<=B
 hi2:f'<=F
 fin:A20 (hts b f) l=hts b' f'
 top:∀p q:Nat,b<=p->f<=q->Am5 (hts p q) (Ahn (hts b f) l)=hts (max p B) (max q F)
theorem Aog.nil (b f:Nat):Aog [] b f b f b f:=⟨A4i _,A4i _,A4i _,A4i _,rfl,λp q h1 h2=>by rw[Nat.max_eq_left h1,Nat.max_eq_left h2];rfl⟩
theorem Aog.one {i:Ht} {b f b' f':Nat} (h:step (hts b f) i.code=hts b' f'):Aog [i] b f b' f' (max b b') (max f f'):=by
 refine⟨by omega,by omega,by omega,by omega,h,λp q h1 h2=>?_⟩;show Atz (hts p q) (step (hts b f) i.code)=_
 rw[h,Axi];congr 1<;>omega
end Stil
namespace Stil
theorem Ajz {n:Net} (h:Jn n):∀x∈Fv n,Ar x=0:=by
 intro x hx;unfold Fv at hx;split at hx
 ·cases hx
 ·rename_i hn
  have hf:=h.resolve_left hn;split at hx
  ·exact Qa hf.2.2 x hx
  ·rw[List.mem_singleton.1 hx];exact hf.2.2
end Stil
namespace Stil
end Stil
namespace Stil
end Stil
namespace Stil
def UpR:List (List Ht)->List Arm->Prop
 | [],xs=>xs=[]
 | c::cs,xs=>∃x xs' i,xs=x::xs'/\Ay5 1001 [] c x [i]/\UpR cs xs'
theorem UpR.fine:∀{cs:List (List Ht)} {xs:List Arm},UpR cs xs->(∀c∈cs,c.length<=1000/\0<c.length/\∀i∈c,i.fits)->(∀x∈xs,C9 x)/\Bh xs<=4*cs.flatten.length
 | [],_,h,_=>by rw[h];exact⟨(λx hx=>by cases hx),by simp[Bh]⟩
 | c::cs,_,⟨x,xs,i,e,a1,a2⟩,h=>by
  subst e;obtain⟨h1,h0,h2⟩:=h c (by simp);have h3:=a1.fine Axq h2 (by omega) h1;obtain⟨h4,h5⟩:=UpR.fine a2 (λc hc=>h c (by simp[hc]));refine⟨λy hy=>?_,?_⟩
  ·rcases List.mem_cons.1 hy with rfl | hy
   ·exact h3.1
   ·exact h4 y hy
  ·have et:Bh (x::xs)=A7 x+Bh xs:=by simp[Bh]
   have h6:=h3.2;rw[et,List.flatten_cons,A4d];simp only[A5d] at h6;omega
end Stil
namespace Stil
theorem Axt {k:Int} {y:Net} (h:(Dy y).length+1<=2*Aj y):(D8 k y).length<=2*Aj y:=by
 by_cases e1:y.kind=1
 ·rw[Vk k y e1,A5d,Dz];omega
 ·rw[Rl k y e1,A4d,A5d];exact h
theorem Af1 {k:Int}:∀(r:List Net),(∀y∈r,(Dy y).length+1<=2*Aj y)->((r.map (D8 k)).flatten).length<=2*sizes r
 | [],_=>by simp
 | y::r,h=>by
  have h1:=Axt (k:=k) (h y (by simp));have h2:=Af1 (k:=k) r (λz hz=>h z (A4h _ hz));rw[A4v,List.flatten_cons,A4d,F7];omega
theorem Acm (n:Net):Ar n=0->(Dy n).length+1<=2*Aj n:=by
 refine Fg (λn=>Ar n=0->(Dy n).length+1<=2*Aj n) ?_ n;intro k e kids ih hw;rw[Dz];show _<=2*(1+sizes kids)
 rcases H8 hw with⟨rfl,rfl⟩ | ⟨h1,hp,hr⟩ | ⟨rfl,_,x,rfl,hx⟩
 ·rw[Tz,A5d,P7];omega
 ·obtain⟨x,r,rfl⟩:∃x r,kids=x::r:=by
   cases kids with
   | nil=>simp at hp
   | cons x r=>exact⟨x,r,rfl⟩
  have a1:=ih x (by simp) (hr x (by simp));have a2:=Af1 (k:=k) r (λy hy=>ih y (A4h _ hy) (hr y (A4h _ hy)));rw[Qz e x r (by omega) (by omega),A4d,F7];omega
 ·have a1:=ih x (by simp) hx
  rw[Ua,A4d,A5d,F7,P7];omega
theorem Afr {n:Net} (h:Jn n):(En n).length<=2*nsz n:=by
 unfold En;have h1:=Af1 (k:=2) (Fv n) (λy hy=>Acm y (Ajz h y hy));have h2:sizes (Fv n)<=nsz n:=by
  unfold Fv nsz;by_cases hn:Aq n=true
  ·rw[if_pos hn,if_pos hn];exact A4i _
  ·rw[if_neg hn,if_neg hn]
   split
   ·rw[Dz];omega
   ·rw[F7,P7];omega
 omega
theorem Ayb (n i:Nat):(Em n i).length<=1:=by
 unfold Em;split
 ·simp
 ·split
  ·simp
  ·split<;>simp
theorem Aav (n:Nat):∀(ks:List Arm) (i:Nat),(∀k∈ks,Jn k.net/\(Ej k).length+2+2*nsz k.net<=2*A7 k)->(Ud n i ks).length<=2*Hr ks
 | [],_,_=>by simp[Ud]
 | k::t,i,h=>by
  obtain⟨h1,h2⟩:=h k (by simp);have a1:=Ayb n i;have a2:=Afr h1;have a3:=Aav n t (i+1) (λx hx=>h x (A4h _ hx));have e:Hr (k::t)=A7 k+Hr t:=by simp[Hr]
  rw[Ud,e];unfold Ig Aus;rw[A4d,A4d,A4d];omega
theorem Amu (a:Arm):Gg a->(Ej a).length+2+2*nsz a.net<=2*A7 a:=by
 refine Fz (λa=>Gg a->(Ej a).length+2+2*nsz a.net<=2*A7 a) ?_ a;intro n cs kids ih h;have hk:=((Gt _ _ _).1 h).2;have h1:=Aav kids.length kids 0 (λk hkm=>⟨by have h3:=hk k hkm;obtain⟨kn,kc,kk⟩:=k;exact((Gt kn kc kk).1 h3).1,ih k hkm (hk k hkm)⟩);rw[Afw,A4d,Dp];have h2:(Ic cs).length=cs.length:=by simp[Ic]
 show _+2+2*nsz n<=_
 omega
theorem Awx {a:Arm} (h:Gg a) (hn:fine a.net):(Fb a).length<=2*A7 a:=by
 have h1:=Amu a h;have h2:=Acm a.net hn.2.2;have h3:nsz a.net=Aj a.net:=by unfold nsz;rw[if_neg (by rw[Ac5 hn];decide)]
 unfold Fb;rw[A4d,A4d,A5d];omega
theorem Ah3:∀(l:List Arm),(∀a∈l,Gg a/\fine a.net)->((l.map Fb).flatten).length<=2*Bh l
 | [],_=>by simp
 | a::l,h=>by
  have h1:=Awx (h a (by simp)).1 (h a (by simp)).2;have h2:=Ah3 l (λx hx=>h x (A4h _ hx));have e:Bh (a::l)=A7 a+Bh l:=by simp[Bh]
  rw[A4v,List.flatten_cons,A4d,e];omega
end Stil
namespace Stil
structure A3a (a:Arm):Prop where
 fineA:Gg a
 net:fine a.net
 norm:Nu a
 right:Cf a=0
 size:A7 a<=400
theorem V8 {l:List Arm} (hf:∀x∈l,C9 x) (h:(Ce l).1=0):(∀a∈Bq l,A3a a)/\Bh (Bq l)<=400/\(Ce (Bq l)).1=0:=by
 obtain⟨h1,h2,_⟩:=Af6 hf h;have h3:(Ce (Bq l)).1=0:=by rw[h1]
 have h4:=J4 h3;refine⟨λa ha=>?_,h4.2.2.1,h3⟩;obtain⟨b1,b2⟩:=Aea l a ha;obtain⟨c1,c2⟩:=I7 h3 ha;have e:Bq l=l.map Dc:=by unfold Bq;rw[if_pos h]
 have hn:Nu a:=by
  rw[e] at ha;obtain⟨x,hx,rfl⟩:=List.mem_map.1 ha;exact Aao x (I7 h hx).1
 refine⟨b1,(Amk hn).resolve_left (by rw[b2];decide),hn,(h4.2.2.2 a ha).2,c2⟩
theorem Atx {l:List Arm} (h:(Ce l).1≠0):Kq l=[]/\As3 l=0/\Amt l=0:=by
 have e:Bq l=[]:=by unfold Bq;rw[if_neg h]
 unfold Kq As3 Amt;rw[e];exact⟨rfl,rfl,rfl⟩
theorem X0 {l:List Arm} (hf:∀x∈l,C9 x):(Kq l).length<=800:=by
 by_cases h:(Ce l).1=0
 ·obtain⟨h1,h2,_⟩:=V8 hf h
  have:=Ah3 (Bq l) (λa ha=>⟨(h1 a ha).fineA,(h1 a ha).net⟩)
  show((Bq l).map Fb).flatten.length<=800
  omega
 ·rw[(Atx h).1];exact Nat.zero_le _
end Stil
namespace Go.Proofs.YtbfljjcnbbmoaaaGreatDoor
open Go.RowKit Go.Sort Go.BigFrame
def Lm (w:World) (base:Nat) (v:Value) (ms:List MI):Prop:=w.ownsRow base 58 3 v ms.length (Ep ms)/\∀x∈ms,EOk w base x.e/\Aside v x.e.av
theorem Aeb (a b:List MI):Ep (a++b)=Ep a++Ep b:=by simp[Ep]
theorem Ak9 (m:MI):Ep [m]=m.cells:=by simp[Ep]
theorem Ala (l:List MI):(Ep l).length=l.length*3:=by
 induction l with
 | nil=>rfl
 | cons m l ih=>
  have e:Ep (m::l)=m.cells++Ep l:=rfl;rw[e,A4d,ih];simp[MI.cells];omega
theorem Aij {w:World} {base:Nat} {ks:List MI} (hk:∀m∈ks,EOk w base m.e):∀u∈Ep ks,u.oneCell'=true:=by
 intro u hu;obtain⟨m,hm,hu⟩:=List.mem_flatMap.1 hu;obtain⟨a1,c1,e1⟩:=Af (hk m hm);simp only[MI.cells,A4y,List.mem_nil_iff,or_false] at hu;rcases hu with rfl | rfl | rfl
 ·rfl
 ·rfl
 ·rw[e1];rfl
section
variable {w w' : World} {base : Nat} {v v' : Value} {ms ks : List MI}
theorem Lm.below (h:Lm w base v ms) (hb:Below w.heap.size w w'):Lm w' base v ms:=⟨ownsRow_below h.1 hb,λx hx=>⟨ownsRow_below (h.2 x hx).1 hb,(h.2 x hx).2⟩⟩
theorem Lm.le {base':Nat} (h:Lm w base v ms) (hl:base'<=base):Lm w base' v ms:=⟨Joins.ownsRow_le h.1 hl,λx hx=>⟨Joins.ownsRow_le (h.2 x hx).1 hl,(h.2 x hx).2⟩⟩
theorem Lm.add (h:Lm w base v ms) (hk:∀x∈ks,EOk w base x.e/\Aside v x.e.av) (hown:w'.ownsRow base 58 3 v' (ms.length+ks.length) (Ep ms++Ep ks)) (hg:w.grownBy w' v.ownBlock) (hat:v'.ownBlock=v.ownBlock\/v'.ownBlock=some w.heap.size):Lm w' base v' (ms++ks):=by
 refine⟨by rw[A4d,Aeb];exact hown,λx hx=>?_⟩;have hx2:=(List.mem_append.1 hx).elim (h.2 x) (hk x);refine⟨hx2.1.kept hg hx2.2.symm,?_⟩;rcases hat with e | e
 ·unfold Aside at*
  rw[e];exact hx2.2
 ·exact(Eb (n:=w.heap.size) (λk hk=>(hx2.1.lt k hk).2) (λk hk=>by rw[e] at hk;cases hk;exact A4i _)).symm
end
theorem Ru {ops:Array Oper} {o:Oper} {a:Act} {w:World} {K:Act->World->Prop} {Q:Exit->Act->World->Prop} {E:Prop}
  (hg:o.guard=none) (s x:Operand) (hop:o.op=.call {callee:=.builtin .append,args:=#[s,x],argTypes:=#[24,24]})
  (base:Nat) (ra:Option Addr) (rc:Nat) (ms ks:List MI) (ad:Option Addr) (c:Nat) (hs:a.eval s=.slice ra ms.length rc) (hx:a.eval x=.slice ad ks.length c)
  (hrow:Lm w base (.slice ra ms.length rc) ms) (hxs:0<ks.length->∃p,ad=some p/\∀j u,(Ep ks)[j]?=some u->w.cell? (p.add j)=some u)
  (hk:∀m∈ks,EOk w base m.e/\Aside (.slice ra ms.length rc) m.e.av) (hl:ms.length+ks.length<=1000000) (hbase:base<=w.heap.size)
  (hK:∀a' c' w',Lm w' base (.slice a' (ms.length+ks.length) c') (ms++ks)->Below base w w'->K (a.put o.dst (.slice a' (ms.length+ks.length) c')) w'):
  if Region.wanted o (yielded ops a.tmps)=true then Oper.wp Tryz.prog o a w K Q else E:=by
 obtain⟨i0,hi,hz0,hz1,hz2⟩:=info_parts Y7;by_cases hd:ks.length=0
 ·have hn:=List.length_eq_zero_iff.1 hd
  subst hn;have hw:Region.wanted o (yielded ops a.tmps)=true:=by simp[Region.wanted,hg]
  rw[if_pos hw];have hcap:ms.length<=rc:=by
   rcases hrow.1.2 with⟨h0,h1⟩ | ⟨g,c',cur,h0,_,_,hnc,_⟩
   ·rw[h1];exact Nat.zero_le _
   ·simp only[Value.slice.injEq] at h0
    rw[h0.2.2];exact hnc
  have hk2:=hK ra rc w (by simpa using hrow) (Below.refl _ _);simp only[A4f,Nat.add_zero] at hk2 hx;unfold Oper.wp execOp;cases ad
  ·have e:Sem.run Tryz.prog (Builtin.append_ #[24,24] o.type #[.slice ra ms.length rc, .slice none 0 c]) w=.ok (.slice ra ms.length rc) w:=by cases ra<;>simp[Builtin.append_,go_sem,hcap]
   simp only[hop,resolve,invoke,builtin,Sem.run_bind,Sem.run_pure,Result.andThen_ok,List.map_toArray,A4v,List.map_nil,hs,hx,e];exact hk2
  ·rename_i t1
   have e:Sem.run Tryz.prog (Builtin.append_ #[24,24] o.type #[.slice ra ms.length rc, .slice (some t1) 0 c]) w=.ok (.slice ra ms.length rc) w:=by cases ra<;>simp[Builtin.append_,go_sem,hcap]
   simp only[hop,resolve,invoke,builtin,Sem.run_bind,Sem.run_pure,Result.andThen_ok,List.map_toArray,A4v,List.map_nil,hs,hx,e];exact hk2
 ·obtain⟨p,rfl,hcs⟩:=hxs (by omega)
  refine Gu hg s x _ hop base 58 i0 _ 3 40 Tryz.underlying24 hi hz0 hz1 hz2 rfl (by decide) _ _ (Ep ms) hs hrow.1 _ _ _ (Ep ks) hx (Ala ks) hcs (Aij λm hm=>(hk m hm).1) (by unfold maxLen;omega) (by omega) hbase ?_;intro v' w' h1 h2 h3;obtain⟨a6,c6,hv6⟩:=Af h1;subst hv6;exact hK a6 c6 w' (hrow.add hk h1 h2 h3) ((Below.refl _ _).grown h2 hbase (λj hj=>(hrow.1.lt j hj).1))
theorem Px {ops:Array Oper} {rest:List Oper} {o:Oper} {a:Act} {w:World} {Q:Exit->Act->World->Prop}
  (hg:o.guard=none) (s x:Operand) (hop:o.op=.call {callee:=.builtin .append,args:=#[s,x],argTypes:=#[24,24]})
  (base:Nat) (ra:Option Addr) (rc:Nat) (ms ks:List MI) (ad:Option Addr) (c:Nat) (hs:a.eval s=.slice ra ms.length rc) (hx:a.eval x=.slice ad ks.length c)
  (hrow:Lm w base (.slice ra ms.length rc) ms) (hxs:0<ks.length->∃p,ad=some p/\∀j u,(Ep ks)[j]?=some u->w.cell? (p.add j)=some u)
  (hk:∀m∈ks,EOk w base m.e/\Aside (.slice ra ms.length rc) m.e.av) (hl:ms.length+ks.length<=1000000) (hbase:base<=w.heap.size)
  (h:∀a' c' w',Lm w' base (.slice a' (ms.length+ks.length) c') (ms++ks)->Below base w w'->wpList Tryz.prog ops Q rest (a.put o.dst (.slice a' (ms.length+ks.length) c')) w'):
  wpList Tryz.prog ops Q (o::rest) a w:=by
 refine wpList_plain hg λK hK=>?_
 have hw:Region.wanted o (yielded #[] a.tmps)=true:=by simp[Region.wanted,hg]
 have:=Ru (ops:=#[]) (K:=K) (Q:=Q) (E:=True) hg s x hop base ra rc ms ks ad c hs hx hrow hxs hk hl hbase (λa' c' w' h1 h2=>hK _ _ (h a' c' w' h1 h2))
 rwa [if_pos hw] at this
theorem Lm.more {w w1:World} {base b1:Nat} {v u:Value} {ms ks:List MI} (h:Lm w base v ms) (hk:Lm w1 b1 u ks) (hb:Below w.heap.size w w1) (h1:w.heap.size<=b1) (hbase:base<=w.heap.size):
  Lm w1 base v ms/\(∀x∈ks,EOk w1 base x.e/\Aside v x.e.av):=by
 refine⟨h.below hb,λx hx=>⟨Joins.ownsRow_le (hk.2 x hx).1 (by omega),?_⟩⟩;exact Eb (n:=w.heap.size) (λk hk'=>(h.1.lt k hk').2) (λk hk'=>A4p h1 ((hk.2 x hx).1.lt k hk').1)
theorem Lm.cells {w:World} {base:Nat} {a:Option Addr} {c:Nat} {ks:List MI} (h:Lm w base (.slice a ks.length c) ks):0<ks.length->∃p,a=some p/\∀j u,(Ep ks)[j]?=some u->w.cell? (p.add j)=some u:=by
 intro h0;rcases h.1.2 with⟨hv,hn⟩ | ⟨g,cap,cur,hv,_⟩
 ·omega
 ·cases hv
  exact⟨_,rfl,λj u hu=>h.1.cells (g:=g) rfl j u hu⟩
def Awc (f:FuncId) (x:Stil.Net) (is:List Stil.Ht):Prop:=∀av nv w,Xe w av x.one.args->Yh w nv x.kids->
 Calls Tryz.prog f #[.agg #[.int .i64 x.kind, .int .i64 x.one.op,av,nv]] w λe w'=>∃(a:Option Addr) (c:Nat) (ms:List MI),e=.returned (.slice a ms.length c)/\ms.map MI.inst=is/\Lm w' w.heap.size (.slice a ms.length c) ms/\Below w.heap.size w w'
def A3c (k:Int) (x:Stil.Net) (is:List Stil.Ht):Prop:=∀av nv w,Xe w av x.one.args->Yh w nv x.kids->
 Calls Tryz.prog 39 #[.int .i64 k, .agg #[.int .i64 x.kind, .int .i64 x.one.op,av,nv]] w λe w'=>∃(a:Option Addr) (c:Nat) (ms:List MI),e=.returned (.slice a ms.length c)/\ms.map MI.inst=is/\Lm w' w.heap.size (.slice a ms.length c) ms/\Below w.heap.size w w'
theorem Lm.single {w:World} {base:Nat} {m:MI} (h:EOk w base m.e) (hb:base<=w.heap.size):Lm (w.alloc (.cells #[.int .i64 m.code, .int .i64 m.e.op,m.e.av] 58)) base (.slice (some ⟨w.heap.size,0,none⟩) 1 1) [m]:=by
 refine⟨?_,λx hx=>?_⟩
 ·exact World.ownsRow_lit w #[.int .i64 m.code, .int .i64 m.e.op,m.e.av] 1 hb (by unfold maxLen;omega) rfl
 ·rw[List.mem_singleton.1 hx]
  exact⟨ownsRow_below h (Aa _ _),(Eb (n:=w.heap.size) (λk hk=>(h.lt k hk).2) (λk hk=>by cases hk;exact A4i _)).symm⟩
theorem Acp:∀(l:List MI) (i:Nat) (h:i<l.length),(Ep l)[i*3]?=some (.int .i64 l[i].code)/\(Ep l)[i*3+1]?=some (.int .i64 l[i].e.op)/\(Ep l)[i*3+2]?=some l[i].e.av
 | [],_,h=>by cases h
 | m::r,0,_=>⟨rfl,rfl,rfl⟩
 | m::r,i+1,h=>by
  obtain⟨a1,a2,a3⟩:=Acp r i (by simpa using h);have e:Ep (m::r)=.int .i64 m.code::.int .i64 m.e.op::m.e.av::Ep r:=rfl;have e1:(i+1)*3=i*3+1+1+1:=by omega
  rw[e,e1];exact⟨a1,a2,a3⟩
theorem Lm.at {w:World} {base:Nat} {a:Option Addr} {c:Nat} {ms:List MI} (h:Lm w base (.slice a ms.length c) ms):Jf w (.slice a (ms.map MI.inst).length c) (ms.map MI.inst):=by
 refine⟨a,c,rfl,λi hi=>?_⟩;simp only[A4t] at hi;obtain⟨g,cap,hv,_,hg,_,hc⟩:=Aw h.1 (by omega);cases hv;obtain⟨a1,a2,a3⟩:=Acp ms i hi;simp only[List.getElem_map];refine⟨g,0,rfl,hg,?_⟩;rw[A4m];exact⟨hc _ _ a1,hc _ _ a2,_,hc _ _ a3,Bg.of_owns (h.2 _ (A4k hi)).1⟩
theorem E8 {ops:Array Oper} {rest:List Oper} {o:Oper} {a:Act} {w:World} {Q:Exit->Act->World->Prop}
  (hg:o.guard=none) (s x:Operand) (hop:o.op=.call {callee:=.builtin .append,args:=#[s,x],argTypes:=#[24,24]})
  (base:Nat) (ra:Option Addr) (rc:Nat) (ms:List MI) (m:MI) (hs:a.eval s=.slice ra ms.length rc) (hx:a.eval x=.slice (some ⟨w.heap.size,0,none⟩) 1 1)
  (hrow:Lm w base (.slice ra ms.length rc) ms) (hm:EOk w base m.e/\Aside (.slice ra ms.length rc) m.e.av) (hl:ms.length+1<=1000000) (hbase:base<=w.heap.size)
  (h:∀a' c' w',Lm w' base (.slice a' (ms.length+1) c') (ms++[m])->Below base w w'->wpList Tryz.prog ops Q rest (a.put o.dst (.slice a' (ms.length+1) c')) w'):
  wpList Tryz.prog ops Q (o::rest) a (w.alloc (.cells #[.int .i64 m.code, .int .i64 m.e.op,m.e.av] 58)):=by
 refine Px hg s x hop base ra rc ms [m] (some ⟨w.heap.size,0,none⟩) 1 hs hx (hrow.below (Aa _ _)) (λ_=>⟨_,rfl,λj u hu=>?_⟩) (λy hy=>?_) hl (by simp;omega) λa' c' w' h1 h2=>h a' c' w' h1 ((Bl (Below.refl _ _) _:Below w.heap.size w _).mono hbase |>.trans h2)
 ·rw[Ak9] at hu
  have e:(⟨w.heap.size,0,none⟩:Addr).add j=⟨w.heap.size,j,none⟩:=by unfold Addr.add;split<;>simp_all
  rw[e];have hc:∀j,(w.alloc (.cells #[.int .i64 m.code, .int .i64 m.e.op,m.e.av] 58)).cell? ⟨w.heap.size,j,none⟩=(#[.int .i64 m.code, .int .i64 m.e.op,m.e.av]:Array Value)[j]?:=λj=>by
   have:(w.alloc (.cells #[.int .i64 m.code, .int .i64 m.e.op,m.e.av] 58)).heap[w.heap.size]?=some (.cells #[.int .i64 m.code, .int .i64 m.e.op,m.e.av] 58):=by simp only[World.alloc];exact Array.getElem?_push_size
   simp only[World.cell?,this];rfl
  rw[hc];simpa[MI.cells] using hu
 ·rw[List.mem_singleton.1 hy]
  exact⟨ownsRow_below hm.1 (Aa _ _),hm.2⟩
theorem Xw (w:World) (base:Nat) (v:Value) (k:Int):EOk w base (mi0 k).e/\Aside v (mi0 k).e.av:=⟨World.ownsRow_nil _ _ _ _,(Lu v).symm⟩
theorem Aa3 {ops:Array Oper} {o:Oper} {a:Act} {w:World} {K:Act->World->Prop} {Q:Exit->Act->World->Prop} {E:Prop}
  (hg:o.guard=none) (s x:Operand) (hop:o.op=.call {callee:=.builtin .append,args:=#[s,x],argTypes:=#[24,24]})
  (base b1:Nat) (w0:World) (ra:Option Addr) (rc:Nat) (ms ks:List MI) (ad:Option Addr) (c:Nat) (hs:a.eval s=.slice ra ms.length rc) (hx:a.eval x=.slice ad ks.length c)
  (hrow:Lm w0 base (.slice ra ms.length rc) ms) (hk:Lm w b1 (.slice ad ks.length c) ks) (hb:Below w0.heap.size w0 w) (h1:w0.heap.size<=b1) (hl:ms.length+ks.length<=1000000) (hbase:base<=w0.heap.size)
  (hK:∀a' c' w',Lm w' base (.slice a' (ms.length+ks.length) c') (ms++ks)->Below base w w'->K (a.put o.dst (.slice a' (ms.length+ks.length) c')) w'):
  if Region.wanted o (yielded ops a.tmps)=true then Oper.wp Tryz.prog o a w K Q else E:=by
 obtain⟨m1,m2⟩:=hrow.more hk hb h1 hbase;exact Ru hg s x hop base ra rc ms ks ad c hs hx m1 hk.cells m2 hl (A4p hbase hb.size) hK
theorem Aq0 {w:World} {p:Addr}:(w.drew).cell? p=w.cell? p:=rfl
theorem D6 {ops:Array Oper} {rest:List Oper} {o:Oper} {a:Act} {w:World} {Q:Exit->Act->World->Prop}
  (hg:o.guard=none) (s x:Operand) (hop:o.op=.call {callee:=.builtin .append,args:=#[s,x],argTypes:=#[24,24]})
  (base b1:Nat) (w0:World) (ra:Option Addr) (rc:Nat) (ms ks:List MI) (ad:Option Addr) (c:Nat) (hs:a.eval s=.slice ra ms.length rc) (hx:a.eval x=.slice ad ks.length c)
  (hrow:Lm w0 base (.slice ra ms.length rc) ms) (hk:Lm w b1 (.slice ad ks.length c) ks) (hb:Below w0.heap.size w0 w) (h1:w0.heap.size<=b1) (hl:ms.length+ks.length<=1000000) (hbase:base<=w0.heap.size)
  (h:∀a' c' w',Lm w' base (.slice a' (ms.length+ks.length) c') (ms++ks)->Below base w w'->wpList Tryz.prog ops Q rest (a.put o.dst (.slice a' (ms.length+ks.length) c')) w'):
  wpList Tryz.prog ops Q (o::rest) a w:=by
 obtain⟨m1,m2⟩:=hrow.more hk hb h1 hbase;exact Px hg s x hop base ra rc ms ks ad c hs hx m1 hk.cells m2 hl (A4p hbase hb.size) h
end Go.Proofs.YtbfljjcnbbmoaaaGreatDoor
