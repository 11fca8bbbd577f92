import Derived.Test.YtobbpffcggchmaaGreatDoorLWN
import Derived.Test.YtobbpffcggchmaaGreatDoorHk
import Derived.Test.YtobbpffcggchmaaGreatDoorGr
import Derived.Test.YtobbpffcggchmaaGreatDoorG5
import Derived.Test.YtobbpffcggchmaaGreatDoorS32
import Derived.Test.YtobbpffcggchmaaGreatDoorLWS
namespace Stil
end Stil
namespace Go.Proofs.YtobbpffcggchmaaGreatDoor
open Tryz
open Go.RowKit Go.Sort Go.BigFrame
variable {base:Nat}{v:Value}
theorem Az5 {w:World}{s n:Nat}{e:TypeId}{xs:List Value}(h:w.ownsRow base e s v n xs){a:Option Addr}{cap:Nat}(c:v=.slice a n cap):Ac6 a n cap:=by
 obtain⟨f,i,b,d,-⟩:=Iy h;rw[c] at b;cases b;exact d
theorem Ahw {w:World}{c:List Stil.Dev}(h:w.ownsRow base 34 3 v c.length (Am c)):Ej (λb=>base<=b) w v c:=by
 obtain⟨a,cap,d,e⟩:=I5.of_owns h;exact⟨a,cap,d,Az5 h d,e⟩
theorem MOk.in {w:World}(m:Ah)(h:MOk w base m):Ej (λb=>base<=b) w m.av m.net.one.args/\Mc (λb=>base<=b) w m.kv m.net.kids:=by
 revert h
 refine Xy (λm=>MOk w base m->Ej (λb=>base<=b) w m.av m.net.one.args/\Mc (λb=>base<=b) w m.kv m.net.kids) ?_ m;intro k op C B E kids A h;rw[Ee] at h;rw[Ah.net_eq];refine⟨Ahw h.1,?_⟩;simp only at h ⊢;by_cases D:kids.length=0
 ·obtain⟨a,cap,rfl⟩:=Ac h.2.1
  exact⟨a,cap,spz,by simpa using Az5 h.2.1 rfl,λi hi=>absurd hi yAb⟩
 ·obtain⟨g,cap,f,y,l,_,c⟩:=Cf h.2.1 omz
  have u:=Az5 h.2.1 f;subst f;refine⟨_,cap,spz,by simpa using u,λi hi=>⟨g,0,rfl,y,l,?_⟩⟩;have d:i<kids.length:=by simpa using hi
  obtain⟨j,t,r,o⟩:=Gx kids i d;obtain⟨z,s⟩:=A _ (A9a d) (h.2.2 _ (A9a d));rw[Bat,Afo,A9c];have e:=Ah.net_eq kids[i];have q:kids[i].net.kind=kids[i].kind:=by rw[e]
  have x:kids[i].net.one.op=kids[i].op:=by rw[e]
  rw[q,x];exact⟨c _ _ j,c _ _ t,⟨_,c _ _ r,z⟩,⟨_,c _ _ o,s⟩⟩
end Go.Proofs.YtobbpffcggchmaaGreatDoor
namespace Stil
structure A7t (a:Arm):Prop where
 fineA:Ht a
 net:fine a.net
 norm:Oy a
 right:Fv a=0
 size:Ed a<=400
theorem Abc {l:List Arm}(i:∀x∈l,D7 x)(h:(Dc l).1=0):(∀a∈Bh l,A7t a)/\Ce (Bh l)<=400/\(Dc (Bh l)).1=0:=by
 obtain⟨o,r,_⟩:=Z7 i h;have c:(Dc (Bh l)).1=0:=by rw[o]
 have d:=Og c;refine⟨λa b=>?_,d.2.2.1,c⟩;obtain⟨j,p⟩:=Agb l a b;obtain⟨s,q⟩:=Ls c b;have e:Bh l=l.map D5:=by unfold Bh;rw[if_pos h]
 have f:Oy a:=by
  rw[e] at b;obtain⟨x,m,rfl⟩:=List.mem_map.1 b;exact Ab2 x (Ls h m).1
 refine⟨j,(Apz f).resolve_left (by rw[p];decide),f,(d.2.2.2 a b).2,q⟩
theorem Axw {l:List Arm}(h:(Dc l).1≠0):Nr l=[]/\Awi l=0/\Ap8 l=0:=by
 have e:Bh l=[]:=by unfold Bh;rw[if_neg h]
 unfold Nr Awi Ap8;rw[e];exact⟨rfl,rfl,rfl⟩
theorem Aeb {l:List Arm}(d:∀x∈l,D7 x):(Nr l).length<=800:=by
 by_cases h:(Dc l).1=0
 ·obtain⟨c,e,_⟩:=Abc d h
  have:=Ak6 (Bh l) (λa b=>⟨(c a b).fineA,(c a b).net⟩)
  show((Bh l).map J9).flatten.length<=800
  omega
 ·rw[(Axw h).1];exact Ban _
end Stil
namespace Go.Proofs.YtobbpffcggchmaaGreatDoor
open Tryz
open Go.RowKit Go.Sort Go.BigFrame
end Go.Proofs.YtobbpffcggchmaaGreatDoor
namespace Stil
end Stil
namespace Go.Proofs.YtobbpffcggchmaaGreatDoor
open Tryz
open Go.RowKit Go.Sort Go.BigFrame
end Go.Proofs.YtobbpffcggchmaaGreatDoor
namespace Stil
variable {k:Int}
theorem Z4 (d:k=2\/k=3){a:Net}(h:fine a):∃x r,opn k a=x::r/\(∀y∈x::r,fine y/\y.kind≠k)/\Az a=Az x++(r.map (Dq k)).flatten/\Du a=H8 (Du x) (r.map E5):=by
 by_cases e:a.kind=k
 ·obtain⟨c,o,kids⟩:=a
  obtain rfl:c=k:=e;rcases F8 h.2.2 with⟨f,_⟩ | ⟨_,i,_⟩ | ⟨f,_⟩
  ·omega
  ·obtain⟨x,r,rfl⟩:∃x r,kids=x::r:=by
    cases kids with
    | nil=>simp at i
    | cons x r=>exact⟨x,r,rfl⟩
   refine⟨x,r,by unfold opn;rw[if_pos rfl],λy b=>⟨Al7 h y b,(((J5 _).1 h.1).1 d).2 y b⟩,H7 o x r omz omz,Uy o x r omz⟩
  ·omega
 ·exact⟨a,[],by unfold opn;rw[if_neg e],λy b=>by rw[List.mem_singleton.1 b];exact⟨h,e⟩,spz,rfl⟩
theorem Am4 {n:Net}(h:fine n):1<=Du n:=by
 have:=(Asx n (full_of n h.2.2) h.2.2 0 0).hi1
 omega
theorem A4t (n:Net):E5 n<=1+Du n:=by
 by_cases h:n.kind=1
 ·rw[Aii h];omega
 ·rw[Xv h];omega
theorem Ayc (k:Int)(n:Net):(Dq k n).length<=(Az n).length+1:=by
 by_cases h:n.kind=1
 ·rw[Iz k n h];simp
 ·rw[Hg k n h];simp
theorem A17 (f:k=2\/k=3){b:Net}(h:fine b):(((opn k b).map (Dq k)).flatten).length<=(Dq k b).length/\H8 1 ((opn k b).map E5)<=E5 b:=by
 by_cases e:b.kind=k
 ·obtain⟨x,r,c,a,l,j⟩:=Z4 f h
  have d:b.kind≠1:=omz
  have i:=Am4 (a x spz).1;have q:H8 (Du x) (r.map E5)=max (Du x) (H8 1 (r.map E5)):=by
   rw[<-Rh,Nat.max_eq_left i]
  rw[c,Hg k b d,Xv d,l,j,A9l,Bag,A9l,Aep];have m:=Ayc k x;have o:=A4t x;refine⟨?_,omz⟩;simp only[A83,A93];omega
 ·have c:opn k b=[b]:=by unfold opn;rw[if_neg e]
  rw[c];refine⟨spz,?_⟩;show max 1 (E5 b)<=E5 b
  have:1<=E5 b:=by
   by_cases a:b.kind=1
   ·rw[Aii a];omega
   ·rw[Xv a];omega
  omega
theorem Aqp (e:k=2\/k=3){a b:Net}(i:fine a)(j:fine b):fine (Jd k a b):=by
 obtain⟨x,r,o,l,_⟩:=Z4 e i;obtain⟨y,t,m,f,_⟩:=Z4 e j;unfold Jd;rw[o,m];have d:∀z∈x::r++y::t,fine z/\z.kind≠k:=λz c=>(List.mem_append.1 c).elim (l z) (f z)
 refine⟨(J5 _).2 ⟨λ_=>⟨spz,λz c=>(d z c).2⟩,λz c=>(d z c).1.1⟩,(Gn _).2 ⟨λ_=>rfl,λz c=>(d z c).1.2.1⟩,Aiq e spz (λz c=>(d z c).1.2.2)⟩
theorem Aqq (c:k=2\/k=3){a b:Net}(e:fine a)(f:fine b):(Az (Jd k a b)).length<=(Az a).length+(Dq k b).length/\Du (Jd k a b)<=max (Du a) (E5 b):=by
 obtain⟨x,r,o,i,m,l⟩:=Z4 c e;obtain⟨q,t⟩:=A17 c f;unfold Jd;rw[o,A9t,H7 _ x _ omz omz,Uy _ x _ omz,m,l];rw[A9h,Bbg,A9h,Ai0];refine⟨?_,?_⟩
 ·simp only[A83]
  omega
 ·have j:=Am4 (i x spz).1
  have u:H8 (Du x) (r.map E5)=max (Du x) (H8 1 (r.map E5)):=by
   rw[<-Rh,Nat.max_eq_left j]
  have d:1<=H8 (Du x) (r.map E5):=omz
  have s:H8 (H8 (Du x) (r.map E5)) ((opn k b).map E5)=max (H8 (Du x) (r.map E5)) (H8 1 ((opn k b).map E5)):=by
   rw[<-Rh,Nat.max_eq_left d]
  omega
theorem Xh {e:Elem}(h:Af e.op e.args=true):fine (D6 e):=by
 unfold D6;refine⟨(J5 _).2 ⟨λh=>?_,(λx a=>by cases a)⟩,(Gn _).2 ⟨λh=>?_,(λx a=>by cases a)⟩,?_⟩
 ·have b:(1:Int)=2\/(1:Int)=3:=h;omega
 ·have b:(1:Int)=2\/(1:Int)=3:=h;omega
 ·rw[Jo,if_pos rfl,if_neg spz,if_pos h]
theorem A2f {a:Net}(h:fine a):fine (Abb a):=by
 unfold Abb;refine⟨(J5 _).2 ⟨λh=>?_,λx b=>by rw[List.mem_singleton.1 b];exact h.1⟩,(Gn _).2 ⟨λ_=>rfl,λx b=>by rw[List.mem_singleton.1 b];exact h.2.1⟩,?_⟩
 ·have d:(4:Int)=2\/(4:Int)=3:=h;omega
 ·rw[Jo,if_neg dcz]
  have c:Xn 4 (⟨0,[]⟩:Elem).op (⟨0,[]⟩:Elem).args.length [a].length=false:=rrz
  rw[if_neg (by rw[c];exact Bai)];simp only[A9l,A97,Bv];rw[if_neg (by have:=h.2.2;omega)]
theorem A2g (a:Net):(Az (Abb a)).length=(Az a).length+1/\Du (Abb a)=Du a:=by
 unfold Abb;rw[Jq,Uy _ a [] dcz];exact⟨spz,rfl⟩
theorem A0l {a b:Net}(h:fine a):Ff k a b=Jd k a b:=by
 unfold Ff;rw[if_neg (Abl h)]
theorem Alj (k:Int)(e:Elem):(Dq k (D6 e)).length=1:=by rw[Iz k _ rfl];rfl
theorem A14 {n:Net}{cs:List Elem}{kids:List Arm}(h1:Kz n)(d:Fb cs=false)(c:kids=[]->cs≠[]):Cm ⟨n,cs,kids⟩=0:=by
 unfold Cm;simp only;rw[if_neg,if_neg (by rw[d];decide),if_neg]
 ·intro h
  exact c (List.length_eq_zero_iff.1 h.2) (List.length_eq_zero_iff.1 h.1)
 ·rintro⟨a,b⟩
  rcases h1 with h | h
  ·rw[h] at a;cases a
  ·have:=h.2.2;omega
theorem Aoc {xs:List Arm}(a:(Dc xs).1=0)(h:∀x∈xs,Oy x):Bh xs=xs:=by
 unfold Bh;rw[if_pos a];have:xs.map D5=xs.map id:=Bbo (λx b=>Acn x (h x b));rw[this,List.map_id]
def StF:List Net->Nat->Prop
 | [],c=>c=0
 | n::r,c=>fine n/\∃a,StF r a/\c=a+(Az n).length
theorem StF.step {c:Nat}{st:List Net}{i:F7}(h:StF st c)(l:Hu i=true)(z:i.code<7)(j:needs i.code<=(st.length:Int)):∃d,d<=c+1/\StF (Ib i.code i.one st) d:=by
 have y:=Aiv l;obtain⟨code,e⟩:=i;simp only at z j y ⊢;have C:code=1\/code=2\/code=3\/code=4\/code=5\/code=6:=omz
 have q:code<=3->Af e.op e.args=true:=by
  intro o;unfold Hu at l;simp only at l;rw[if_neg omz,if_pos o] at l;exact l
 have and:∀k:Int,(k=2\/k=3)->Af e.op e.args=true->∀a r,StF (a::r) c->∃d,d<=c+1/\StF (Ff k a (D6 e)::r) d:=by
  intro k m w a r h;obtain⟨f,d,o,t⟩:=h;obtain⟨x,_⟩:=Aqq m f (Xh w);have D:=Alj k e;rw[A0l f];exact⟨_,omz,Aqp m f (Xh w),d,o,rfl⟩
 have u:∀k:Int,(k=2\/k=3)->∀a b r,StF (a::b::r) c->∃d,d<=c+1/\StF (Ff k b a::r) d:=by
  intro k m a b r h;obtain⟨f,G,⟨s,A,B,E⟩,t⟩:=h;obtain⟨x,_⟩:=Aqq m s f;have D:=Ayc k a;rw[A0l s];exact⟨_,omz,Aqp m s f,A,B,rfl⟩
 have one:needs code=1->∃a r,st=a::r:=by
  intro f;cases st with
  | nil=>simp only[A85] at j;omega
  | cons a r=>exact⟨a,r,rfl⟩
 have two:needs code=2->∃a b r,st=a::b::r:=by
  intro f
  match st,j with
  | [],j=>simp only[A85] at j;omega
  | [a],j=>simp only[A84,A85] at j;omega
  | a::b::r,_=>exact⟨a,b,r,rfl⟩
 rcases C with rfl | rfl | rfl | rfl | rfl | rfl
 ·have F:(Az (D6 e)).length=1:=by
   have:Az (D6 e)=[⟨1,e⟩]:=Jp e [];rw[this];rfl
  exact⟨c+(Az (D6 e)).length,omz,Xh (q dcz),c,h,rfl⟩
 ·obtain⟨a,r,rfl⟩:=one rfl
  exact and 2 (.inl rfl) (q dcz) a r h
 ·obtain⟨a,r,rfl⟩:=one rfl
  exact and 3 (.inr rfl) (q dcz) a r h
 ·obtain⟨a,b,r,rfl⟩:=two rfl
  exact u 2 (.inl rfl) a b r h
 ·obtain⟨a,b,r,rfl⟩:=two rfl
  exact u 3 (.inr rfl) a b r h
 ·obtain⟨a,r,rfl⟩:=one rfl
  obtain⟨f,d,o,t⟩:=h;obtain⟨H,_⟩:=A2g a;exact⟨d+(Az (Abb a)).length,omz,A2f f,d,o,rfl⟩
theorem StF.from:∀{l:List F7} {a t:List Net} {c:Nat},StF a c->En a l=some t->∃b,b<=c+l.length/\StF t b
 | [],a,t,c,h,e=>by injection e with e;subst e;exact⟨c,A88 _,h⟩
 | i::r,a,t,c,h,e=>by
  rw[En] at e;split at e
  ·cases e
  ·rename_i o
   have j:Hu i=true:=by
    cases d:Hu i with
    | true=>rfl
    | false=>exact absurd (.inl d) o
   obtain⟨u,w,q⟩:=h.step j omz omz;obtain⟨f,s,m⟩:=StF.from q e;exact⟨f,by rw[A84];omega,m⟩
theorem Xo {l:List F7}{n:Net}(h:Bg l=(n,true)):fine n/\(Az n).length<=l.length/\Aj n<=400:=by
 unfold Bg at h;split at h
 ·injection h with _ h;cases h
 ·unfold Xd at h
  split at h
  ·rename_i m e
   split at h
   ·injection h with _ h;cases h
   ·rename_i f
    injection h with h _
    subst h;obtain⟨c,i,a,b,j,d⟩:=StF.from (c:=0) (show StF [] 0 from rfl) e;exact⟨a,omz,omz⟩
  ·injection h with _ h;cases h
theorem Zh.back:∀{l:List F7} {a t:List Net},Zh l a t->(∀i∈l,Hu i=true)->En a l=some t
 | [],_,_,h,_=>by cases h;rfl
 | i::r,a,t,h,b=>by
  have c:=b i spz;have f:=h.2.1;have e:=h.2.2.1;rw[En,if_neg]
  ·exact Zh.back h.2.2.2 (λx d=>b x (A87 _ d))
  ·rintro(h | h | h)
   ·rw[c] at h;cases h
   ·omega
   ·omega
theorem A5d (n:Net):Bc n=0->∀i∈Az n,Hu i=true:=by
 refine Et (λn=>Bc n=0->∀i∈Az n,Hu i=true) ?_ n;intro k e kids d j;have s:∀y∈kids,∀a:Int,(a=2\/a=3)->Bc y=0->∀i∈Dq a y,Hu i=true:=by
  intro y b a z l i hi;by_cases c:y.kind=1
  ·rw[Iz a y c] at hi
   rw[List.mem_singleton.1 hi];obtain⟨q,e,A⟩:=y;obtain rfl:q=1:=c;exact Ahe omz (Abr l)
  ·rw[Hg a y c] at hi
   rcases List.mem_append.1 hi with hi | hi
   ·exact d y b l i hi
   ·rw[List.mem_singleton.1 hi]
    exact Ax4 omz omz omz
 rcases F8 j with⟨rfl,rfl⟩ | ⟨u,t,f⟩ | ⟨rfl,_,x,rfl,o⟩
 ·intro i hi
  rw[Jp] at hi;rw[List.mem_singleton.1 hi];exact Ahe (.inl rfl) (Abr j)
 ·obtain⟨x,r,rfl⟩:∃x r,kids=x::r:=by
   cases kids with
   | nil=>simp at t
   | cons x r=>exact⟨x,r,rfl⟩
  intro i hi;rw[H7 e x r omz omz] at hi;rcases List.mem_append.1 hi with hi | hi
  ·exact d x spz (f x spz) i hi
  ·obtain⟨m,w,hi⟩:=List.mem_flatten.1 hi
   obtain⟨y,b,rfl⟩:=List.mem_map.1 w;exact s y (A87 _ b) k u (f y (A87 _ b)) i hi
 ·intro i hi
  rw[Jq] at hi;rcases List.mem_append.1 hi with hi | hi
  ·exact d x spz o i hi
  ·rw[List.mem_singleton.1 hi]
   exact Ax4 dcz dcz dcz
theorem A2k {n:Net}(h:fine n)(a:Aj n<=400):Bg (Az n)=(n,true):=by
 have b:=Aoh n h.2.2;unfold Bg;rw[if_neg omz,(Aya n h []).back (A5d n h.2.2)];show(if 400<Aj n then(Je,false) else(n,true))=_
 rw[if_neg omz]
theorem Apc {op:Int}{d:List Dev}(h:Af op d=true):d.length<=2:=by
 rcases d with _ | ⟨a,_ | ⟨b,_ | ⟨c,r⟩⟩⟩
 ·simp
 ·simp
 ·simp
 ·simp[Af] at h
theorem A2j (d:Dev)(n:Net):Bc n=0->J7 n->Hm d n<=2*Aj n:=by
 refine Et (λn=>Bc n=0->J7 n->Hm d n<=2*Aj n) ?_ n;intro k e kids c b i;have q:(kids.map (Hm d)).sum<=2*sizes kids:=by
  have a:=λx f=>c x f (Qc b x f) (((Gn _).1 i).2 x f)
  clear c b i;induction kids with
  | nil=>simp
  | cons x r c=>
   have s:=a x spz;have m:=c λy j=>a y (A87 _ j)
   rw[A9l,Bac,Dv];omega
 have o:e.args.length<=2:=by
  rcases F8 b with⟨rfl,rfl⟩ | ⟨l,_⟩ | ⟨_,rfl,_⟩
  ·exact Apc (Abr b)
  ·have a:e=⟨0,[]⟩:=((Gn _).1 i).1 l
   rw[a];simp
  ·simp
 have hu:=Ae5 d e.args;rw[N9,D9];simp only[Qa];omega
theorem Aw0 (d:Dev){n:Net}(h:fine n\/n=Je)(a:Aj n<=401):U4 d [Fj n]<=4194304:=by
 have b:Hm d n<=802:=by
  rcases h with h | rfl
  ·have:=A2j d n h.2.2 h.2.1;omega
  ·rw[N9];simp[Je,Qa,Vo]
 have e:=Ae5 d A16.args;simp only[U4,A9l,A97,Bac,Bbe,Fj,Rj,Aan,Qa];have c:A16.args.length=1:=rfl;omega
theorem Aia {l:List F7}(h:(Bg l).2=false):(Bg l).1=Je:=by
 unfold Bg at h ⊢;split
 ·rfl
 ·rename_i a
  rw[if_neg a] at h
  revert h
  unfold Xd;split
  ·split
   ·intro;rfl
   ·intro h;cases h
  ·intro;rfl
theorem A6k (l:List F7):fine (Bg l).1\/(Bg l).1=Je:=by
 cases h:(Bg l).2 with
 | false=>exact .inr (Aia h)
 | true=>exact .inl (Xo (l:=l) (n:=(Bg l).1) (by rw[<-h])).1
theorem A5e {l:List F7}{n:Net}(h:Bg l=(n,true))(e:Ce [Fj n]<=400):
  ((Dc [Fj n]).1=0/\[Fj n]=Bh [Fj n])/\Nr [Fj n]=Az n++[⟨10,A16⟩,O6 11]/\(Az n).length<=l.length/\Bg (Az n)=(n,true):=by
 obtain⟨a,m,i⟩:=Xo h;have j:=Aaj a;have f:Fv (Fj n)=0:=L9.2 ⟨A14 (.inr a) dcz (λ_=>by simp),λ_ h=>by cases h⟩;have d:=Ag3 (l:=[Fj n]) spz e (λx b=>by rw[List.mem_singleton.1 b];exact Ag4 j f);have c:Bh [Fj n]=[Fj n]:=Aoc (by rw[d]) λx b=>by
  rw[List.mem_singleton.1 b];exact(Po _ _ _).2 ⟨.inr a,λ_ h=>yBb,λ_ h=>by cases h⟩
 refine⟨⟨by rw[d],c.symm⟩,?_,m,A2k a i⟩;unfold Nr;rw[c];simp[J9,Fj,U6,Vr]
end Stil
namespace Go.Proofs.YtobbpffcggchmaaGreatDoor
open Tryz
open Stil
open Go.RowKit Go.Sort Go.BigFrame
variable {P g n:Nat}{W:World}{v:Value}
theorem Ab3:∀(l:List MI) (i:Nat) (h:i<l.length),((Eu l).drop (i*3)).take 3=l[i].cells
 | m::r,0,_=>by simp[Eu,MI.cells]
 | m::r,i+1,h=>by
  have e:(Eu (m::r)).drop ((i+1)*3)=(Eu r).drop (i*3):=by
   rw[show(i+1)*3=3+i*3 by omega,<-List.drop_drop];simp[Eu,MI.cells]
  rw[e];exact Ab3 r i yBc
theorem Su.st {w:World}{base:Nat}{d:List MI}(h:Su W base v d)(u:w.heap.size<=base)(hg:g<w.heap.size)(r:∀i∈d.map MI.inst,Pv i/\i.one.args.length<=3)(B:d.length<=n)(hr:Kq W g P)(s:w.grownBy W (some g)):Cc 3 w W g P v n:=by
 refine⟨d.map MI.inst,Eu d,by rw[A9j];exact Joins.ownsRow_le h.1 u,⟨by rw[A9j];exact Aeq d,λi hi=>?_⟩,r,by rw[A9j];exact B,hr,s⟩;have l:i<d.length:=by simpa using hi
 rw[Ab3 d i l,Bat];obtain⟨y,f⟩:=h.2 d[i] (A9a l);obtain⟨a,c,m,C,t⟩:=Ahw y;refine⟨_,rfl,a,c,m,C,λj x=>?_⟩;obtain⟨b,o,q,D,A⟩:=t j x;refine⟨b,o,q,⟨omz,λe=>?_⟩,A⟩;have z:(d[i].e.av).ownBlock=some b:=by rw[m,q];rfl
 rcases f with f | f
 ·rw[e] at f;cases f
 ·exact f (e.trans z.symm)
theorem Cc.slice {q:Nat}{w:World}(h:Cc q w W g P v n):∃(a:Option Addr) (c m:Nat),v=.slice a m c:=by
 obtain⟨l,e,d,-⟩:=h;obtain⟨a,c,b,-⟩:=Iy d;exact⟨a,c,_,b⟩
theorem Ayl (n:Stil.Net):TSF n->∀i∈Az n,Pv i/\i.one.args.length<=3:=by
 refine Et (λn=>TSF n->∀i∈Az n,Pv i/\i.one.args.length<=3) ?_ n;intro k e kids d ⟨o,l,t⟩;obtain⟨_,u,w⟩:=(Aau _ _ _).1 o;obtain⟨q,s⟩:=(Ara _ _ _ _).1 t;have b:∀x∈kids,TSF x:=λx c=>⟨w x c,Awq l x c,s x c⟩
 have C:∀y∈kids,(k=2\/k=3)->∀i∈Dq k y,Pv i/\i.one.args.length<=3:=by
  intro y a E i hi;by_cases j:y.kind=1
  ·rw[Iz k y j] at hi
   rw[List.mem_singleton.1 hi];obtain⟨f,_,A⟩:=b y a;obtain⟨D,G,F⟩:=y;exact⟨⟨by simp only;omega,((Aau _ _ _).1 f).2.1⟩,((Ara _ _ _ _).1 A).1⟩
  ·rw[Hg k y j] at hi
   rcases List.mem_append.1 hi with hi | hi
   ·exact d y a (b y a) i hi
   ·rw[List.mem_singleton.1 hi]
    exact Akk omz
 rcases Ady l with⟨rfl,rfl⟩ | ⟨f,z,_⟩ | ⟨rfl,_,x,rfl,_⟩
 ·intro i hi
  rw[Jp] at hi;rw[List.mem_singleton.1 hi];exact⟨⟨spz,u⟩,q⟩
 ·obtain⟨x,r,rfl⟩:=Bca (List.ne_nil_of_length_pos z)
  intro i hi;rw[H7 e x r omz omz] at hi;rcases List.mem_append.1 hi with hi | hi
  ·exact d x spz (b x spz) i hi
  ·obtain⟨m,B,hi⟩:=List.mem_flatten.1 hi
   obtain⟨y,a,rfl⟩:=List.mem_map.1 B;exact C y (A87 _ a) f i hi
 ·intro i hi
  rw[Jq] at hi;rcases List.mem_append.1 hi with hi | hi
  ·exact d x spz (b x spz) i hi
  ·rw[List.mem_singleton.1 hi]
   exact Akk dcz
theorem Ar8 (g P:Nat)(w:World)(_:Kq w g P)(B:P<=1000)(n:Stil.Net)(i j:Value)(W:World)(t:Ej (λb=>w.heap.size<=b) W i n.one.args)(x:Mc (λb=>w.heap.size<=b) W j n.kids)(d:TSF n)(E:Xb n<=400)(z:Kq W g (P+2000))(l:w.grownBy W (some g))(w1:World)(A:w1.heap.size<=w.heap.size)(y:g<w1.heap.size)(u:w1.grownBy w (some g)):
  Calls prog 15 #[.agg #[.int .i64 n.kind, .int .i64 n.one.op,i,j]] W λe q=>∃(a:Option Addr) (c m:Nat),e=.returned (.slice a m c)/\Cc 3 w1 q g 3000 (.slice a m c) 1000:=by
 have D:=Asz n;have C:=Ail n d.2.1;refine(A71 n d.2.1 (As5 n (Ac5.wf n d.1 omz) omz) omz i j W (t.mono λ_ _ _=>trivial) (x.mono λ_ _ _=>trivial)).mono ?_;rintro e q ⟨a,c,s,rfl,r,hi,o⟩;refine⟨a,c,s.length,rfl,hi.st (by have:=l.size;omega) y (by rw[r];exact Ayl n d) ?_ (U9 (P5 z (grown_below o none) spz) omz) (Abj (Abj u l) (grown_below o _))⟩;rw[<-A9j (f:=MI.inst),r];omega
set_option maxHeartbeats 4000000 in
set_option maxRecDepth 100000 in
theorem Aio (v:Value)(w:World)(hv:BytesAt w v):
  Calls prog 4 #[v] w λe X=>A0q e w X:=by
 have HV:Hid (BytesAt w v):=hv;obtain⟨av,lv,cv,rfl,-⟩:=hv;go_enter func4,ntmps4;go_upto_if 13 with(first | (go_at_call 12;refine(A1a _ _ HV.out).mono ?_;rintro e d ⟨rfl,rG,au⟩;have ab:Hid (Below w.heap.size w d):=au;have ak:Hid (Kq d w.heap.size 0):=rG;have f:=Sr rG;clear rG au) | (go_at_call 13;refine(Gm w.heap.size _ _ _ (E8 ak _) omz omz omz).mono ?_;rintro e w2 ⟨x,rfl,az,al,vP,wK⟩;have r:Hid (Cc 3 d w2 w.heap.size 1 (.slice (some ⟨d.heap.size,0,none⟩) 0 0) 0):=(A2s d ak.out).grown wK f vP;clear vP wK))
 clear HV ak;by_cases D:x=0
 ·subst D
  clear az al
  go_wp2_with (go_at_call 13;refine(Gm w.heap.size _ _ _ r.rd omz omz omz).mono ?_;rintro e w3 ⟨y,rfl,aB,aA,F,bP⟩;have dS:Hid (Cc 3 d w3 w.heap.size 2 (.slice (some ⟨d.heap.size,0,none⟩) 0 0) 0):=r.grown bP f F;obtain⟨N,rfl⟩:∃N:Nat,y=N:=⟨y.toNat,omz⟩;clear F bP)
  go_loopw [4,5] (λo i wr=>∃j:Nat,j<=N+1/\i=.int .i64 (j:Int)/\Cc 3 d wr w.heap.size (2+108*(N+1 - j)) o (N+1 - j)) (λ_ i _=>(intOf i).toNat)
  case atStart=>exact⟨N+1,A88 _,by first | rfl | (congr 1;omega) | (simp;omega),dS.later omz omz⟩
  case round=>
   clear dS r;obtain⟨j,hj,rfl,s⟩:=hrel;have l:Hid (Cc 3 d wr w.heap.size (2+108*(N+1 - j)) _ (N+1 - j)):=s;clear s;by_cases aI:0<j
   ·have rE:IntKind.i64.wrap ((j:Int) - 1)=((j - 1:Nat):Int):=by rw[IntKind.wrap_i64];omega
    go_upto_region 8 with(go_at_call 14;refine(Ac8 w.heap.size _ _ l.rd omz).mono ?_;rintro e q ⟨i,av,rfl,t,hti,nI,S,B⟩;have zV:Hid (Cc 3 d q w.heap.size (2+108*(N+1 - j)+100) u4 (N+1 - j)):=l.grown B f S;have dN:Hid (Ej (Off w.heap.size u4) q av i.one.args):=t.mono (λb _ hb=>(by have:=B.size;exact⟨by have:=Sr l.rd;omega,λe=>by have:=(l.own b e).2;omega⟩));obtain⟨U,Z,rfl,-⟩:=id t;clear S B)
    have G:Hid (Sj (q.alloc (.cells #[.int .i64 i.code, .int .i64 i.one.op, .slice U i.one.args.length Z] 48)) w.heap.size u4 q.heap.size i):=Sj.new dN (Sr zV.rd) λb e=>(zV.own b e).2
    have O:Hid (Cc 3 d (q.alloc (.cells #[.int .i64 i.code, .int .i64 i.one.op, .slice U i.one.args.length Z] 48)) w.heap.size (2+108*(N+1 - j)+100) u4 (N+1 - j)):=zV.below (Aa _ _) f;obtain⟨W6,zJ⟩:∃W,W=q.alloc (.cells #[.int .i64 i.code, .int .i64 i.one.op, .slice U i.one.args.length Z] 48):=⟨_,rfl⟩
    obtain⟨b6,ac⟩:∃b,b=q.heap.size:=⟨_,rfl⟩
    rw[<-zJ,<-ac] at G;rw[<-zJ] at O;rw[<-zJ,<-ac];clear zJ ac zV dN l t;by_cases hc:i.code<7
    ·have aL:=Bba hc
     obtain⟨af,A,z,q0,q1,q2,hd⟩:=G.cells;have HD:Hid (Ej (Off w.heap.size u4) W6 (.slice A i.one.args.length z) i.one.args):=hd;clear hd hc G
     go_wp2_with (at_builtin;refine Lp rfl _ _ rfl d _ w.heap.size _ _ u4 rfl (O.below (Aa _ _) f) f [i] _ _ _ [.int .i64 i.code, .int .i64 i.one.op, .slice A i.one.args.length z] rfl rfl (RowOf.one rfl ⟨_,rfl,HD.keep (Bf.of_below (Aa _ _))⟩) yBg yAj yEh yAb ?_;intro v6 w6 gJ jE)
     go_roundw
     case rel=>exact⟨j - 1,omz,by first | rfl | simp | (congr 1;omega),gJ.later omz yAb⟩
     case measure=>simp[intOf];omega
    ·have aL:=Ba1 hc
     obtain⟨af,A,z,q0,q1,q2,-⟩:=G.cells;clear hc;go_upto_if 30 with(go_at_call 13;refine(Gm w.heap.size _ _ _ O.rd omz omz omz).mono ?_;rintro e E ⟨y,rfl,aR,aT,Q,C⟩;have zU:Hid (Cc 3 d E w.heap.size (2+108*(N+1 - j)+101) u4 (N+1 - j)):=O.grown C f Q;have yK:Hid (Sj E w.heap.size u4 b6 i):=G.grown C;clear Q C)
     clear af A z q0 q1 q2 O G;by_cases K:y=0
     ·subst K
      obtain⟨af,A,z,q0,q1,q2,hd⟩:=yK.cells;have HD:Hid (Ej (Off w.heap.size u4) E (.slice A i.one.args.length z) i.one.args):=hd;clear hd yK
      go_wp2_with (at_builtin;refine Lp rfl _ _ rfl d _ w.heap.size _ _ u4 rfl (zU.below (Aa _ _) f) f [i] _ _ _ [.int .i64 i.code, .int .i64 i.one.op, .slice A i.one.args.length z] rfl rfl (RowOf.one rfl ⟨_,rfl,HD.keep (Bf.of_below (Aa _ _))⟩) yBg yAj yEh yAb ?_;intro v6 w6 gJ jE)
      go_roundw
      case rel=>exact⟨j - 1,omz,by first | rfl | simp | (congr 1;omega),gJ.later omz yAb⟩
      case measure=>simp[intOf];omega
     ·have aJ:(y==0)=false:=by rw[A95];exact K
      go_wp2
      go_roundw
      case rel=>exact⟨j - 1,omz,by first | rfl | simp | (congr 1;omega),zU.later omz omz⟩
      case measure=>simp[intOf];omega
   ·obtain rfl:j=0:=by omega
    go_wp2
    go_ret;exact(l.list f).half ab omz omz
 ·have aU:(x==0)=false:=by rw[A95];exact D
  clear D az al;have ax:As6 3=2000:=rfl;have ar:A0v 3=400:=rfl;have ag:Hid (d.heap.size<=w2.heap.size/\d.grownBy w2 (some w.heap.size)):=⟨r.gr.size,r.gr⟩
  go_upto_if 41 with(first | (go_at_call 16;refine(Aqf 3 _ w.heap.size 1 _ omz rfl r.rd omz).mono ?_;rintro e w3 ⟨n,nv,kv,rfl,aa,ae,aw,ah,F,bP⟩;rw[ax] at F;rw[ar] at ah;have dM:Hid (∀W,W=w3->Calls prog 15 #[.agg #[.int .i64 n.kind, .int .i64 n.one.op,nv,kv]] W λe X=>∃(a:Option Addr) (c m:Nat),e=.returned (.slice a m c)/\Cc 3 d X w.heap.size 3000 (.slice a m c) 1000):=(λW h=>h ▸ Ar8 w.heap.size 1 w2 r.rd omz n nv kv w3 aa ae aw ah F bP d ag.1 f ag.2);obtain⟨na,nc,rfl,-⟩:=id aa;obtain⟨ka,kc,rfl,-⟩:=id ae;clear aa ae aw ah F bP) | (go_at_call 15;refine(dM _ rfl).mono ?_;rintro e w4 ⟨T,L,R,rfl,vM⟩;have gQ:Hid (Cc 3 d w4 w.heap.size 3000 (.slice T R L) 1000):=vM;clear vM dM) | (go_at_call 13;refine(Gm w.heap.size _ _ _ gQ.rd omz omz omz).mono ?_;rintro e q ⟨y,rfl,aB,aA,S,B⟩;have H:Hid (Cc 3 d q w.heap.size 3001 (.slice T R L) 1000):=gQ.grown B f S;clear S B))
  clear r gQ ag ax ar;go_cut [4] (λs4 wc=>∃(a:Option Addr) (c m:Nat),s4=.slice a m c/\Cc 3 d wc w.heap.size 20000 (.slice a m c) 2000)
  case first=>
   by_cases K:y=0
   ·subst K
    go_wp2_with (go_at_call 17;refine(Aa7 w.heap.size _ _ _ [199,200,398,399,400] _ (H.below (Aa _ _) f).rd omz (Di (by simp[F6,go_sem])) spz (by have:=Sr H.rd;omega) spz spz).mono ?_;rintro e w6 ⟨x,rfl,D,cZ,aH⟩;have bQ:Hid (Cc 3 d w6 w.heap.size 3002 (.slice T R L) 1000):=(H.below (Aa _ _) f).grown aH f cZ;simp only[A9o,A99,Bax] at D;obtain⟨N,rfl⟩:∃N:Nat,x=N:=⟨x.toNat,omz⟩;have hN:N<=400:=omz;clear D cZ aH)
    clear H;go_loopw [4,7] (λo i wr=>∃(j:Nat) (a:Option Addr) (c m:Nat),o=.slice a m c/\j<=N/\i=.int .i64 (j:Int)/\Cc 3 d wr w.heap.size (3002+20*(N - j)) (.slice a m c) (1000+(N - j))) (λ_ i _=>(intOf i).toNat)
    case atStart=>exact⟨N,T,L,R,rfl,A88 _,rfl,bQ.later omz omz⟩
    case round=>
     clear bQ;obtain⟨j,J,M,V,rfl,hj,rfl,s⟩:=hrel;have l:Hid (Cc 3 d wr w.heap.size (3002+20*(N - j)) (.slice J V M) (1000+(N - j))):=s;clear s;by_cases aI:0<j
     ·have rE:IntKind.i64.wrap ((j:Int) - 1)=((j - 1:Nat):Int):=by rw[IntKind.wrap_i64];omega
      go_wp2_with (first | (go_at_call 18;refine(Ro w.heap.size _ _ l.rd omz).mono ?_;rintro e E ⟨op,aE,ds,rfl,aK,t,aG,aO,Q,C⟩;have zU:Hid (Cc 3 d E w.heap.size (3002+20*(N - j)+20) (.slice J V M) (1000+(N - j))):=l.grown C f Q;have dN:Hid (Ej (Off w.heap.size (.slice J V M)) E aE ds):=(Pg t).mono (λb _ hb=>(by have h1:=Sr l.rd;exact⟨omz,λe=>by have:=(l.own b e).2;omega⟩));obtain⟨U,Z,rfl,-⟩:=id t;clear Q C t) | (at_builtin;refine Lp rfl _ _ rfl d _ w.heap.size _ _ (.slice J V M) rfl (zU.below (Aa _ _) f) f [⟨2+(j:Int) % 2,⟨op,ds⟩⟩] _ _ _ [.int .i64 (2+(j:Int) % 2), .int .i64 op, .slice U ds.length Z] rfl rfl (RowOf.one rfl ⟨_,rfl,dN.keep (Bf.of_below (Aa _ _))⟩) yBg yAj (by intro k hk;rw[List.mem_singleton.1 hk];exact⟨⟨by simp only;omega,aK,aG,by simp only;omega⟩,aO⟩) yAb ?_;intro v8 w8 nT jw;obtain⟨a8,Y,m8,rfl⟩:=nT.slice))
      go_roundw
      case rel=>exact⟨j - 1,a8,Y,m8,rfl,omz,by first | rfl | simp | (congr 1;omega),nT.later omz yAb⟩
      case measure=>simp[intOf];omega
     ·obtain rfl:j=0:=by omega
      go_wp2
      go_meet;exact⟨J,M,V,rfl,l.later omz omz⟩
   ·have aJ:(y==0)=false:=by rw[A95];exact K
    go_wp2
    go_meet;exact⟨T,L,R,rfl,H.later omz omz⟩
  case rest=>
   clear H aB aA;obtain⟨a8,Y,m8,rfl,s⟩:=hcut;have jL:Hid (Cc 3 d wc w.heap.size 20000 (.slice a8 m8 Y) 2000):=s;clear s;go_upto_if 60 with(go_at_call 13;refine(Gm w.heap.size _ _ _ jL.rd omz omz omz).mono ?_;rintro e I ⟨ay,rfl,aP,aQ,vO,wJ⟩;have kJ:Hid (Cc 3 d I w.heap.size 20001 (.slice a8 m8 Y) 2000):=jL.grown wJ f vO;clear vO wJ)
   clear jL;by_cases hz:ay=0
   ·subst hz
    obtain⟨l9,v9,aN,ao,zu,aD,zy,lX⟩:=kJ.list f;cases aN;have aC:Hid (∀W,W=I->Calls prog 19 #[.pointer (some ⟨w.heap.size,0,none⟩), .slice a8 m8 Y] W λe X=>Abv 4 e I X w.heap.size (20001+4000) 80000):=λW h=>h ▸ Awv w.heap.size _ I l9 _ zy ao zu omz omz
    have yU:Hid (Below w.heap.size w I):=ab.trans lX;clear ao zu aD zy lX kJ
    go_wp2_with (go_at_call 19;refine(aC _ rfl).mono ?_;rintro e aF ⟨aM,an,rfl,ap⟩;have HO:Hid (Abv 4 (.returned an) I aF w.heap.size (20001+4000) 80000):=⟨aM,an,rfl,ap⟩;clear ap)
    go_ret;exact HO.half yU omz omz
   ·have aV:(ay==0)=false:=by rw[A95];exact hz
    go_wp2
    go_ret;exact(kJ.list f).half ab omz omz
end Go.Proofs.YtobbpffcggchmaaGreatDoor
