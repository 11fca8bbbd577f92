import Derived.Test.YtobbpffcggchmaaGreatDoorGt
import Derived.Deep.RegionHeld3
import Derived.Test.YtobbpffcggchmaaGreatDoorGr
import Derived.Test.YtobbpffcggchmaaGreatDoorZ9
import Derived.Deep.LoopGhost
import Derived.Test.YtobbpffcggchmaaGreatDoorGY
import Derived.Test.YtobbpffcggchmaaGreatDoorGp
import Derived.Test.YtobbpffcggchmaaGreatDoorHk
import Derived.Shelf.Abstract
import Derived.Test.YtobbpffcggchmaaGreatDoorFRe
import Derived.Test.YtobbpffcggchmaaGreatDoorGV
import Derived.Test.YtobbpffcggchmaaGreatDoorGN
namespace Go.Proofs.YtobbpffcggchmaaGreatDoor
open Tryz
open Go.RowKit Go.Sort Go.BigFrame
end Go.Proofs.YtobbpffcggchmaaGreatDoor
set_option maxHeartbeats 4000000
set_option maxRecDepth 100000
namespace Go.Proofs.YtobbpffcggchmaaGreatDoor
open Tryz
open Stil
open Go.RowKit Go.Sort Go.BigFrame
theorem Aht (l:List Stil.Arm)(b:Value)(w:World)(hr:Ei w)(hg:Em w)(g:Eb w b l)(hl:l.length<=1048576)(k:Ce l<=1000000000)(f:∀x∈l,D7 x):
  Calls prog 30 #[b] w λe w'=>e=.returned (.bool (decide ((Dc l).1=0)))/\Below w.heap.size w w':=by
 have d:=hid (λW h=>Aos l b W (hr.below h) (hg.below h) (g.below h) hl k f);have j:Hid ((Dc l).1=0->(Dc l).2=0):=λh=>(Og h).1
 obtain⟨o,y,rfl,m⟩:=g;obtain⟨c,a⟩:∃c,c=(Dc l).1:=⟨_,rfl⟩
 obtain⟨r,i⟩:∃r,r=(Dc l).2:=⟨_,rfl⟩
 rw[<-a,<-i] at d j;rw[<-a];clear m a i hr hg f;go_enter func30,ntmps30
 go_wp2_with (go_at_call 66;refine(d _ blA).mono ?_;rintro e t ⟨rfl,p⟩)
 all_goals go_ret
 all_goals refine⟨Ad ?_,blA⟩
 all_goals (have q:=j.out;by_cases s:c=0<;>simp_all)
def A0t (w:World)(base:Nat)(l:List Stil.Arm)(e:Ending):Prop:=∃(a:Option Addr) (c:Nat) (b:List Dw),e=.returned (.slice a b.length c)/\b.map Dw.arm=l/\Ue w base (.slice a b.length c) b
theorem Ahu (l:List Stil.Arm)(g:Value)(w:World)(hr:Ei w)(hg:Em w)(k:Eb w g l)(hl:l.length<=1048576)(A:Ce l<=1000000000)(j:∀x∈l,D7 x):
  Calls prog 29 #[g] w λe w'=>A0t w' w.heap.size (Bh l) e/\Below w.heap.size w w':=by
 have i:=hid (λW h=>Aht l g W (hr.below h) (hg.below h) (k.below h) hl A j);have m:Hid ((Dc l).1=0->∀W,Below w.heap.size w W->Calls prog 64 #[g, .func (.func 65) #[] #[]] W λe w'=>∃(a:Option Addr) (c:Nat) (d:List Dw),e=.returned (.slice a d.length c)/\d.map Dw.arm=l.map D5/\Ue w' W.heap.size (.slice a d.length c) d/\Below W.heap.size W w'):=by
  intro b W h;exact Aev l (λx p=>Ay4 x (j x p) (by have:=(Ls b p).2;omega)) g W (k.below h) (by have:=(Og b).2.1;omega)
 obtain⟨F,I,rfl,t⟩:=k;by_cases b:(Dc l).1=0
 ·have f:Hid (Bh l=l.map D5):=if_pos b
  rw[f.out];have s:=m b;have E:=hid s;rw[Bba b] at i;clear t hr hg j f m s b;go_enter func29,ntmps29
  go_wp2_with (first | (go_at_call 30;refine(i _ blA).mono ?_;rintro e B ⟨rfl,o⟩) | (go_at_call 64;refine(E _ blA).mono ?_;rintro e G ⟨D,z,d,rfl,q,r,H⟩;have C:=hid q;have y:=hid r;clear q r))
  go_ret;exact⟨⟨D,z,d,rfl,C.out,y.le o.size⟩,blA⟩
 ·have f:Hid (Bh l=[]):=if_neg b
  rw[f.out];rw[Ba1 b] at i;clear t hr hg j f m b;go_enter func29,ntmps29
  go_wp2_with (go_at_call 30;refine(i _ blA).mono ?_;rintro e B ⟨rfl,o⟩)
  go_ret;exact⟨⟨none,0,[],rfl,rfl,Ue.nil _ _⟩,blA⟩
end Go.Proofs.YtobbpffcggchmaaGreatDoor
namespace Stil
theorem Z8 {l:List Arm}(h:∀x∈l,D7 x):(∀x∈Bh l,D7 x)/\Ce (Bh l)<=400/\(Bh l).length<=40:=by
 unfold Bh;by_cases d:(Dc l).1=0
 ·rw[if_pos d]
  have c:=λx c=>Abd x (h x c) (by have:=(Ls d c).2;omega)
  refine⟨λx f=>?_,?_,?_⟩
  ·obtain⟨y,e,rfl⟩:=List.mem_map.1 f
   exact(c y e).1
  ·refine A9f ?_ (Og d).2.2.1
   clear h d;unfold Ce;induction l with
   | nil=>simp
   | cons x r g=>
    have a:=(c x spz).2;have b:=g (λy e=>c y (A87 _ e));simp only[A9l,Bac] at b ⊢;omega
  ·rw[A9j];exact(Og d).2.1
 ·rw[if_neg d]
  exact⟨(λx c=>by cases c),by simp[Ce],spz⟩
end Stil
namespace Go.Proofs.YtobbpffcggchmaaGreatDoor
open Tryz
open Stil
open Go.RowKit Go.Sort Go.BigFrame
def Aw6 (v:Value)(a:List Dw):Dw:=⟨Rq, .slice none 0 0,[],v,a⟩
theorem Asa {w:World}{base:Nat}{v:Value}{b:List Dw}(h:Ue w base v b):Qz w base (Aw6 v b):=by
 have c:(Aw6 v b).vals=Rq.vals++(([.slice none 0 0])++(v::Il b)):=Dw.vals_eq _;refine⟨(Lj _ _ _).2 ⟨Alg _ _,⟨World.ownsRow_nil _ _ _ _,λx a=>by cases a⟩,h.1,h.2.1⟩,?_⟩;rw[c];refine List.pairwise_append.2 ⟨?_,List.pairwise_append.2 ⟨Baw _ _,h.2.2,λx a y _=>?_⟩,λx a y _=>.inl (Aof a)⟩
 ·rw[Yy]
  exact List.pairwise_cons.2 ⟨λy _=>Le y,Baw _ _⟩
 ·rw[List.mem_singleton.1 a];exact Le y
end Go.Proofs.YtobbpffcggchmaaGreatDoor
namespace Stil
def H8 (b:Nat)(l:List Nat):Nat:=l.foldl max b
theorem Ai0 (b:Nat)(l r:List Nat):H8 b (l++r)=H8 (H8 b l) r:=by simp[H8]
theorem Rh:∀(l:List Nat) (b c:Nat),H8 (max b c) l=max b (H8 c l)
 | [],_,_=>rfl
 | x::r,b,c=>by
  show H8 (max (max b c) x) r=max b (H8 (max c x) r)
  rw[Nat.max_assoc,Rh r]
def A7s (n i x:Nat):Nat:=if i+1<n then x+1 else x
def bump (a:List Nat):List Nat:=a.mapIdx (λi x=>A7s a.length i x)
def forks:Arm->Nat
 | ⟨_,_,kids⟩=>H8 0 (bump (kids.map forks))
def Aqb (k:Int)(b:Nat):Nat:=if k=1 then 1 else 1+b
def Apt (k:Int)(b:List Int)(a:List Nat):Nat:=if k=1 then 1 else H8 (a.headD 0) ((List.zipWith Aqb b a).drop 1)
def Du:Net->Nat
 | ⟨k,_,kids⟩=>Apt k (kids.map Net.kind) (kids.map Du)
def E5 (n:Net):Nat:=Aqb n.kind (Du n)
theorem Aci (k:Int)(e:Elem)(kids:List Net):Du ⟨k,e,kids⟩=Apt k (kids.map Net.kind) (kids.map Du):=by rw[Du]
theorem A0k (e:Elem)(kids:List Net):Du ⟨1,e,kids⟩=1:=by rw[Aci];rfl
theorem Uy {k:Int}(e:Elem)(x:Net)(r:List Net)(h:k≠1):Du ⟨k,e,x::r⟩=H8 (Du x) (r.map E5):=by
 rw[Aci];unfold Apt;rw[if_neg h];simp only[A9l,List.headD_cons,Bcj,List.drop_succ_cons,Bce];congr 1;rw[List.zipWith_map,List.zipWith_self];rfl
def Ij (n:Net):List Net:=if Bl n then [] else if n.kind=2 then n.kids else [n]
def A5h (n:Net)(t:Nat):Nat:=H8 t ((Ij n).map E5)
def Aqc:Arm->Nat
 | ⟨_,_,kids⟩=>H8 1 (List.zipWith A5h (kids.map Arm.net) (kids.map Aqc))
theorem A0j (n:Net):∀x∈Ij n,Aj x<=nsz n:=by
 intro x a;unfold Ij at a;split at a
 ·cases a
 ·rename_i h
  have e:nsz n=Aj n:=if_neg h;rw[e];split at a
  ·rw[D9 n]
   have:Aj x<=sizes n.kids:=Hr Aj _ x a;omega
  ·rw[List.mem_singleton.1 a];exact A88 _
def A1g (a:Arm):Nat:=max (Du a.net) (Aqc a)
def Awi (l:List Arm):Nat:=H8 0 ((Bh l).map A1g)
def Ap8 (l:List Arm):Nat:=H8 0 ((Bh l).map forks)
def Xe:Net->Prop
 | ⟨k,_,kids⟩=>(k≠1->kids≠[])/\∀p∈kids.map Xe,p
theorem Abk (k:Int)(e:Elem)(kids:List Net):Xe ⟨k,e,kids⟩↔(k≠1->kids≠[])/\∀x∈kids,Xe x:=by rw[Xe,all_map]
theorem full_of (n:Net):Bc n=0->Xe n:=by
 refine Et (λn=>Bc n=0->Xe n) ?_ n;intro k e kids c h;rw[Abk];rcases F8 h with⟨rfl,rfl⟩ | ⟨_,d,f⟩ | ⟨_,_,x,rfl,a⟩
 ·exact⟨λh=>absurd rfl h,(λx a=>by cases a)⟩
 ·exact⟨(λ_ b=>by rw[b] at d;simp at d),λx a=>c x a (f x a)⟩
 ·exact⟨(λ_ b=>by cases b),λy g=>by rw[List.mem_singleton.1 g];exact c x spz a⟩
theorem Qc {n:Net}(h:Bc n=0):∀x∈n.kids,Bc x=0:=by
 obtain⟨k,e,kids⟩:=n;rcases F8 h with⟨_,rfl⟩ | ⟨_,_,b⟩ | ⟨_,_,x,rfl,a⟩
 ·intro x a;cases a
 ·exact b
 ·intro y c;rw[List.mem_singleton.1 c];exact a
theorem Ant {a b:Net}(h:Bl a=false)(f:Kz b)(e:fine a):Bl (Ny a b)=false:=by
 have c:=U7 (.inr e) f;unfold Ny at c ⊢;rw[if_neg yDi] at c ⊢;split
 ·exact h
 ·rename_i g
  rw[if_neg g] at c;refine Aaj (Ah8 spz (λx d=>?_));rcases List.mem_cons.1 d with rfl | d
  ·exact e
  ·rw[List.mem_singleton.1 d]
   exact f.resolve_left g
theorem Aet:∀(f:Nat) (b:Arm),Ht b->Bl b.net=false->Bl (Hy f b).net=false
 | 0,_,_,h=>h
 | f+1,⟨n,d,kids⟩,c,h=>by
  rw[Hy];split
  ·rename_i g e
   simp only at e h;subst e;split
   ·have a:=Aaf c
    refine Aet f _ a.1 ?_;exact Ant h a.2.2 (a.2.1.resolve_left yDi)
   ·exact h
  ·exact h
theorem Aem {a:Arm}(hr:Ju a)(h:Bl a.net=false):Bl (D5 a).net=false:=by
 obtain⟨n,c,kids⟩:=a;have b:=(Pm _ _ _).1 hr;rw[N8];simp only at h;refine Aet _ _ ((Ic _ _ _).2 ⟨Rf b.1,λx e=>?_⟩) ?_
 ·obtain⟨y,d,rfl⟩:=List.mem_map.1 e
  exact Tf y (b.2 y d)
 ·show Bl (Wh n)=false
  unfold Wh;rw[if_neg yDi];exact Aaj (Ael (b.1.resolve_left yDi))
theorem Agb (l:List Arm):∀x∈Bh l,Ht x/\Bl x.net=false:=by
 intro x a;unfold Bh at a;by_cases b:(Dc l).1=0
 ·rw[if_pos b] at a
  obtain⟨y,d,rfl⟩:=List.mem_map.1 a;have c:=(Ls b d).1;exact⟨Tf y c,Aem c ((Og b).2.2.2 y d).1⟩
 ·rw[if_neg b] at a;cases a
end Stil
namespace Go.Proofs.YtobbpffcggchmaaGreatDoor
open Tryz
open Go.RowKit Go.Sort Go.BigFrame
variable {v:Value}{w':World}
def Agt (w:World)(v:Value)(a:List Stil.Dev):Prop:=Ej (λ_=>True) w v a
def Aka (w:World)(v:Value)(ns:List Stil.Net):Prop:=Mc (λ_=>True) w v ns
def A8q (w:World)(b o:Nat)(n:Stil.Net):Prop:=Wj (λ_=>True) w b o n
theorem Agt.below {w:World}{a:List Stil.Dev}(h:Agt w v a)(b:Below w.heap.size w w'):Agt w' v a:=Ej.keep h (Bf.of_below b)
theorem Aka.below {w:World}{a:List Stil.Net}(h:Aka w v a)(b:Below w.heap.size w w'):Aka w' v a:=Mc.keep h (Bf.of_below b)
theorem Agt.at {w:World}{a:List Stil.Dev}(h:Agt w v a):A7 w v a:=Ej.at h
theorem Agt.shape {w:World}{b:List Stil.Dev}(h:Agt w v b):∃a cap,v=.slice a b.length cap/\b.length<=cap:=by
 obtain⟨a,cap,c,d,_⟩:=h;exact⟨a,cap,c,d.1⟩
theorem Aka.shape {w:World}{ns:List Stil.Net}(h:Aka w v ns):∃a cap,v=.slice a ns.length cap/\Ac6 a ns.length cap/\∀i (h:i<ns.length),∃b o,a=some ⟨b,o,none⟩/\b<w.heap.size/\A8q w b (o+i*4) ns[i]:=by
 obtain⟨a,cap,d,j,f⟩:=h;exact⟨a,cap,d,j,λi hi=>by obtain⟨b,o,e,_,c,g⟩:=f i hi;exact⟨b,o,e,c,g⟩⟩
theorem A8q.open {w:World}{b o:Nat}{n:Stil.Net}(h:A8q w b o n):w.cell? ⟨b,o,none⟩=some (.int .i64 n.kind)/\w.cell? ⟨b,o+1,none⟩=some (.int .i64 n.one.op)/\
   ∃a c,w.cell? ⟨b,o+2,none⟩=some a/\w.cell? ⟨b,o+3,none⟩=some c/\Agt w a n.one.args/\Aka w c n.kids:=by
 obtain⟨g,j,⟨a,i,d⟩,⟨c,f,e⟩⟩:=(Afo _ _ _ _ _).1 h;exact⟨g,j,a,c,i,f,d,e⟩
end Go.Proofs.YtobbpffcggchmaaGreatDoor
namespace Stil
def A16:Elem:=⟨21,[⟨2,0,0⟩]⟩
def Fj (n:Net):Arm:=⟨n,[A16],[]⟩
theorem Aw1 (n:Net):Ce [Fj n]=2+nsz n:=by
 have e:Ce [Fj n]=Ed (Fj n):=by simp[Ce]
 rw[e,Fj,Ey];simp[Jv]
end Stil
namespace Go.Proofs.YtobbpffcggchmaaGreatDoor
open Tryz
open Stil
open Go.RowKit Go.Sort Go.BigFrame
theorem An1 {W:World}{b c d:Nat}{n:Stil.Net}{a f:Value}(w:b<W.heap.size)(q:c<W.heap.size)(hd:d<W.heap.size)
  (r:W.cell? ⟨b,0,none⟩=some (.int .i64 n.kind)) (b1:W.cell? ⟨b,1,none⟩=some (.int .i64 n.one.op)) (b2:W.cell? ⟨b,2,none⟩=some a) (b3:W.cell? ⟨b,3,none⟩=some f)
  (b4:W.cell? ⟨b,4,none⟩=some (.slice (some ⟨c,0,none⟩) 1 1)) (t:W.cell? ⟨b,5,none⟩=some (.slice none 0 0))
  (z:W.cell? ⟨c,0,none⟩=some (.int .i64 21)) (s:W.cell? ⟨c,1,none⟩=some (.slice (some ⟨d,0,none⟩) 1 1))
  (g:W.cell? ⟨d,0,none⟩=some (.int .i64 2)) (x:W.cell? ⟨d,1,none⟩=some (.int .i64 0)) (o:W.cell? ⟨d,2,none⟩=some (.int .i64 0))
  (y:A7 W a n.one.args) (l:D8 W f n.kids):Eb W (.slice (some ⟨b,0,none⟩) 1 1) [Fj n]:=by
 have j:A7 W (.slice (some ⟨d,0,none⟩) 1 1) [⟨2,0,0⟩]:=⟨_,_,rfl,λi hi=>by
  obtain rfl:i=0:=by simpa using hi
  exact⟨d,0,rfl,hd,g,x,o⟩⟩
 have m:Fh W (.slice (some ⟨c,0,none⟩) 1 1) [A16]:=⟨_,_,rfl,λi hi=>by
  obtain rfl:i=0:=by simpa using hi
  exact⟨c,0,rfl,q,z,_,s,j⟩⟩
 refine⟨_,_,rfl,λi hi=>?_⟩;obtain rfl:i=0:=by simpa using hi
 refine⟨b,0,rfl,w,?_⟩;show Sl W b (0+0*6) (Fj n)
 unfold Fj;rw[Adl];obtain⟨k,e,kids⟩:=n;exact⟨(Ana _ _ _ _ _ _).2 ⟨r,b1,⟨_,b2,y⟩,_,b3,l⟩,⟨_,b4,m⟩,none,0,t,λi hi=>absurd hi spz⟩
theorem Aw2 {n:Stil.Net}(h:Cj n):∀x∈[Fj n],D7 x:=by
 intro x b;rw[List.mem_singleton.1 b];refine(Gh _ _ _).2 ⟨h,spz,λc a=>?_,spz,λ_ h=>yBb⟩;rw[List.mem_singleton.1 a]
 exact⟨⟨by simp[A16],by simp[A16]⟩,by simp[A16],λd hd=>by
  simp only[A16,A9i] at hd;subst hd
  refine⟨⟨spz,spz⟩,⟨spz,spz⟩,spz,spz⟩⟩
theorem B4.fresh (W:World)(v0 v1 v2 v3:Value)(t:TypeId):B4 (W.alloc (.cells #[v0,v1,v2,v3] t)) W.heap.size v0 v1 v2 v3:=by
 refine⟨spz,⟨by simp[go_sem],by simp[go_sem],by simp[go_sem],by simp[go_sem]⟩,by simp[go_sem],by simp[go_sem],by simp[go_sem],by simp[go_sem]⟩
end Go.Proofs.YtobbpffcggchmaaGreatDoor
namespace Stil
theorem A6j (n:Net):Bc n=0->J7 n:=by
 refine Et (λn=>Bc n=0->J7 n) ?_ n;intro k e kids d h;refine(Gn _).2 ⟨λc=>?_,λx b=>d x b (Qc h x b)⟩;rw[Jo] at h;simp only at c;rw[if_neg omz] at h;cases a:Xn k e.op e.args.length kids.length with
 | true=>rw[a] at h;simp at h
 | false=>
  obtain⟨op,args⟩:=e;simp only[Xn,Bool.or_eq_false_iff,Baq,bne_eq_false_iff_eq] at a;obtain⟨⟨⟨⟨_,f⟩,i⟩,_⟩,_⟩:=a;have g:args=[]:=List.eq_nil_of_length_eq_zero omz;rw[f,g]
theorem Al4 (d:Dev)(k:Int)(c:k=2\/k=3)(l:List Net)(h:∀x∈l,J7 x):((Dh k l).map (Hm d)).sum=(l.map (Hm d)).sum:=by
 induction l with
 | nil=>rfl
 | cons x r b=>
  have e:Dh k (x::r)=Dh k [x]++Dh k r:=Ky k [x] r;rw[e,A9h,Bbb,b (λy hy=>h y yCg),Oe,A9l,Bac];congr 1;split
  ·rename_i f
   have a:=((Gn x).1 (h x spz)).1 omz;rw[N9 d x,a];simp[Qa,Vo]
  ·simp
theorem Ah6 (d:Dev)(k:Int)(a:List Net):Hm d (Gj k a)=(a.map (Hm d)).sum:=by
 unfold Gj;split
 ·rename_i h
  obtain⟨x,rfl⟩:=List.length_eq_one_iff.1 h;simp
 ·rw[N9]
  simp[Qa,Vo]
theorem Ax8 (d:Dev)(n:Net):J7 n->Hm d (Ci n)=Hm d n:=by
 refine Et (λn=>J7 n->Hm d (Ci n)=Hm d n) ?_ n;intro k e kids g h;have b:=(Gn _).1 h;simp only at b;have f:((kids.map Ci).map (Hm d)).sum=(kids.map (Hm d)).sum:=by
  rw[Bbf];congr 1;exact Bbo λx a=>g x a (b.2 x a)
 rw[J4];split
 ·rename_i c
  rw[Ah6,Al4 d k c _ (λx a=>by obtain⟨y,_,rfl⟩:=List.mem_map.1 a;exact Ab0 y),f,N9,b.1 c];simp[Qa,Vo]
 ·rw[N9,N9]
  simp only;rw[f]
theorem Alf {d:Dev}{n:Net}(h:Bl n=true):Hm d n=0:=by
 rw[Abe h,N9];simp[none0,Qa,Vo]
theorem Anq (d:Dev){a b:Net}(e:Kz a)(f:Kz b):Hm d (Ny a b)=Hm d a+Hm d b:=by
 unfold Ny;split
 ·rename_i h;rw[Alf h];omega
 ·rename_i g
  split
  ·rename_i h;rw[Alf h];omega
  ·rename_i i
   rw[Ah6,Al4 d 2 (.inl rfl)]
   ·simp
   ·intro x c
    rcases List.mem_cons.1 c with rfl | c
    ·exact(e.resolve_left g).2.1
    ·rw[List.mem_singleton.1 c];exact(f.resolve_left i).2.1
theorem Ab7 (d:Dev):∀(f:Nat) (b:Arm),Ht b->Pi d (Hy f b)=Pi d b
 | 0,_,_=>rfl
 | f+1,⟨n,i,kids⟩,h=>by
  rw[Hy];split
  ·rename_i c e
   simp only at e;subst e;split
   ·have a:=Aaf h
    rw[Ab7 d f _ a.1,Rj,Rj];simp only;rw[Anq d a.2.1 a.2.2];have g:=Rj d c;simp only[Aan,A9h,Bbb,A9l,A97,Bac,Bbe] at g ⊢;omega
   ·rfl
  ·rfl
theorem Ale (d:Dev)(a:Arm):Ju a->Pi d (D5 a)=Pi d a:=by
 refine I9 (λa=>Ju a->Pi d (D5 a)=Pi d a) ?_ a;intro n c kids g h;have b:=(Pm _ _ _).1 h;rw[N8];unfold joined;rw[Ab7 d _ _ ((Ic _ _ _).2 ⟨Rf b.1,λx e=>by obtain⟨y,k,rfl⟩:=List.mem_map.1 e;exact Tf y (b.2 y k)⟩),Rj,Rj];simp only;have f:((kids.map D5).map (Pi d)).sum=(kids.map (Pi d)).sum:=by
  rw[Bbf];congr 1;exact Bbo λx e=>g x e (b.2 x e)
 have i:Hm d (Wh n)=Hm d n:=by
  unfold Wh;split
  ·rfl
  ·rename_i j
   exact Ax8 d n (A6j n (b.1.resolve_left j))
 rw[f,i]
theorem Aiy (d:Dev){l:List Arm}(h:(Dc l).1=0):U4 d (Bh l)=U4 d l:=by
 unfold Bh U4;rw[if_pos h,Bbf];congr 1;exact Bbo λx a=>Ale d x (Ls h a).1
def Oy:Arm->Prop
 | ⟨n,c,kids⟩=>Kz n/\(∀p∈kids.map Oy,p)/\∀a,kids=[a]->¬(c=[]\/Bl a.net=true)
theorem Po (n:Net)(c:List Elem)(kids:List Arm):Oy ⟨n,c,kids⟩↔Kz n/\(∀x∈kids,Oy x)/\∀a,kids=[a]->¬(c=[]\/Bl a.net=true):=by rw[Oy,all_map]
theorem As3 {n:Net}(h:Kz n):Wh n=n:=by
 unfold Wh;split
 ·rfl
 ·rename_i a
  exact Al6 (h.resolve_left a)
theorem Acn (a:Arm):Oy a->D5 a=a:=by
 refine I9 (λa=>Oy a->D5 a=a) ?_ a;intro n c kids d h;obtain⟨e,i,f⟩:=(Po _ _ _).1 h;have g:kids.map D5=kids:=by
  have:kids.map D5=kids.map id:=Bbo λx b=>d x b (i x b)
  rw[this,List.map_id]
 rw[N8,As3 e,g];exact Y1 _ f
theorem Atc {l:List Arm}(h:Jv l<=0):l=[]:=by
 have:=Aer l
 exact List.eq_nil_of_length_eq_zero omz
theorem Ab8:∀(f:Nat) (b:Arm),Jv b.kids<=f->Kz b.net->(∀x∈b.kids,Oy x)->Oy (Hy f b)
 | 0,⟨n,s,kids⟩,c,a,_=>by
  simp only at c a;obtain rfl:=Atc c;rw[Hy];exact(Po _ _ _).2 ⟨a,λx q=>(by cases q),λj e=>(by cases e)⟩
 | f+1,⟨n,s,kids⟩,c,a,d=>by
  simp only at c a d;rw[Hy];split
  ·rename_i j e
   simp only at e;subst e;split
   ·obtain⟨l,o,i⟩:=j
    have m:=(Po _ _ _).1 (d ⟨l,o,i⟩ spz);have r:=Pj ⟨l,o,i⟩;rw[Aes] at c;simp only at r;exact Ab8 f _ (by simp only;omega) (U7 a m.1) m.2.1
   ·rename_i g
    exact(Po _ _ _).2 ⟨a,d,λk e=>by
     simp only[List.cons.injEq,Bbx] at e;subst e
     exact g⟩
  ·rename_i g
   exact(Po _ _ _).2 ⟨a,d,λk e=>absurd e (g k)⟩
theorem Ab2 (a:Arm):Ju a->Oy (D5 a):=by
 refine I9 (λa=>Ju a->Oy (D5 a)) ?_ a;intro n c kids e h;have b:=(Pm _ _ _).1 h;rw[N8];unfold joined;refine Ab8 _ _ (A88 _) (Rf b.1) λx f=>?_
 obtain⟨y,d,rfl⟩:=List.mem_map.1 f;exact e y d (b.2 y d)
theorem Aiz {a:Arm}(h:Ju a):D5 (D5 a)=D5 a:=Acn _ (Ab2 a h)
theorem Acd {n:Net}(h:Kz n):Bl n=true\/Bc n=0:=h.imp id λh=>h.2.2
theorem Si {a:Arm}:Cm a=0↔(Bl a.net=true\/Bc a.net=0)/\Fb a.coils=false/\¬(a.coils.length=0/\a.kids.length=0):=by
 have k:=Nh a.net;unfold Cm;constructor
 ·intro h
  have b:¬(Bl a.net=false/\0<Bc a.net):=λc=>by rw[if_pos c] at h;omega
  rw[if_neg b] at h;cases c:Fb a.coils with
  | true=>rw[c,if_pos rfl] at h;omega
  | false=>
   rw[c,if_neg Bai] at h;refine⟨?_,rfl,λd=>by rw[if_pos d] at h;omega⟩;cases i:Bl a.net with
   | true=>exact .inl rfl
   | false=>
    have e:¬0<Bc a.net:=λx=>b ⟨i,x⟩
    exact .inr omz
 ·rintro⟨b,d,g⟩
  have e:¬(Bl a.net=false/\0<Bc a.net):=by
   rintro⟨f,j⟩;rcases b with h | h
   ·rw[h] at f;exact Bool.noConfusion f
   ·omega
  rw[if_neg e,d,if_neg Bai,if_neg g]
theorem L9 {n:Net}{c:List Elem}{kids:List Arm}:Fv ⟨n,c,kids⟩=0↔Cm ⟨n,c,kids⟩=0/\∀x∈kids,Fv x=0:=by
 have d:=Pn ⟨n,c,kids⟩;rw[Zc];constructor
 ·intro h
  have a:Cm ⟨n,c,kids⟩=0:=by split at h<;>omega
  rw[if_neg omz] at h;exact⟨a,λx f=>Vl _ (λy hy=>by obtain⟨z,_,rfl⟩:=List.mem_map.1 hy;exact(Uc z).1) h _ (List.mem_map.2 ⟨x,f,rfl⟩)⟩
 ·rintro⟨a,b⟩
  rw[if_neg omz];simp only;clear a d;induction kids with
  | nil=>rfl
  | cons x r e=>
   rw[A9l,Bv,b x spz,if_neg omz];exact e (λy hy=>b y yCg)
theorem Afb (a b:List Elem):Fb (a++b)=(Fb a || Fb b):=by simp[Fb]
theorem Ab6:∀(f:Nat) (b:Arm),Ht b->Fv b=0->Fv (Hy f b)=0
 | 0,_,_,h=>h
 | f+1,⟨n,r,kids⟩,l,h=>by
  rw[Hy];split
  ·rename_i k e
   simp only at e;subst e;split
   ·have a:=Aaf l
    refine Ab6 f _ a.1 ?_;obtain⟨m,o,j⟩:=k;have i:=L9.1 h;have g:=L9.1 (i.2 ⟨m,o,j⟩ spz);obtain⟨_,d,_⟩:=Si.1 i.1;obtain⟨_,c,q⟩:=Si.1 g.1;simp only at d c q;refine L9.2 ⟨Si.2 ⟨Acd (U7 a.2.1 a.2.2),?_,?_⟩,g.2⟩
    ·simp only
     rw[Afb,d,c];rfl
    ·simp only[A83]
     omega
   ·exact h
  ·exact h
theorem Ald (a:Arm):Fv a=0->Fv (D5 a)=0:=by
 refine I9 (λa=>Fv a=0->Fv (D5 a)=0) ?_ a;intro n c kids i h;have d:=(Pm _ _ _).1 (Afi _ h);obtain⟨j,k⟩:=L9.1 h;obtain⟨_,g,f⟩:=Si.1 j;simp only at g f;rw[N8];unfold joined;refine Ab6 _ _ ((Ic _ _ _).2 ⟨Rf d.1,λx e=>?_⟩) (L9.2 ⟨Si.2 ⟨Acd (Rf d.1),g,by simpa using f⟩,λx e=>?_⟩)
 ·obtain⟨y,b,rfl⟩:=List.mem_map.1 e
  exact Tf y (d.2 y b)
 ·obtain⟨y,b,rfl⟩:=List.mem_map.1 e
  exact i y b (k y b)
theorem Ag3 {l:List Arm}(h1:l.length<=40)(b:Ce l<=400)(a:∀x∈l,F9 x=0):Dc l=(0,0):=by
 unfold Dc;rw[if_neg omz];clear h1 b
 suffices ∀k,Gf l k=(0,0) from this 0
 induction l with
 | nil=>intro k;rfl
 | cons x r c=>
  intro k;rw[Gf,a x spz,if_neg omz];exact c (λy hy=>a y yCg) _
theorem Ag4 {a:Arm}(h1:Bl a.net=false)(b:Fv a=0):F9 a=0:=by
 unfold F9;rw[h1,b];rfl
theorem Z7 {l:List Arm}(g:∀x∈l,D7 x)(h:(Dc l).1=0):Dc (Bh l)=(0,0)/\Ce (Bh l)<=Ce l/\(Bh l).length=l.length/\Bh (Bh l)=Bh l/\∀x∈Bh l,D7 x:=by
 obtain⟨_,n,o,d⟩:=Og h;have e:Bh l=l.map D5:=by unfold Bh;rw[if_pos h]
 have f:=λx a=>Abd x (g x a) (by have:=(Ls h a).2;omega)
 have k:Ce (Bh l)<=Ce l:=by
  rw[e];unfold Ce;rw[Bbf];exact Aqe _ _ _ λx a=>(f x a).2
 have c:Dc (Bh l)=(0,0):=by
  refine Ag3 (by rw[e,A9j];exact n) omz λx a=>?_
  rw[e] at a;obtain⟨y,b,rfl⟩:=List.mem_map.1 a;exact Ag4 (Aem (Ls h b).1 (d y b).1) (Ald y (d y b).2)
 refine⟨c,k,by rw[e,A9j],?_,λx a=>?_⟩
 ·obtain⟨m,i⟩:∃m,m=Bh l:=⟨_,rfl⟩
  have j:Bh (Bh l)=(Bh l).map D5:=by
   rw[<-i] at c ⊢;unfold Bh;rw[if_pos (by rw[c])]
  rw[j,e,Bbf];exact Bbo λx a=>Aiz (Ls h a).1
 ·rw[e] at a
  obtain⟨y,b,rfl⟩:=List.mem_map.1 a;exact(f y b).1
end Stil
namespace Go.Proofs.YtobbpffcggchmaaGreatDoor
open Tryz
open Stil
open Go.RowKit Go.Sort Go.BigFrame
variable {W:World}{u v:Value}
def Lad (w:World)(v:Value)(l:List Stil.Arm):Prop:=Eb w v l/\(∀x∈l,D7 x)/\l.length<=1048576/\Ce l<=1000000000/\(∀d,U4 d l<=4194304)
theorem Lad.below {w:World}{l:List Stil.Arm}(h:Lad w v l)(a:Below w.heap.size w W):Lad W v l:=⟨h.1.below a,h.2⟩
theorem A37 {l m:List Stil.Arm}(h1:Lad W v l)(a:Lad W u m):Calls prog 11 #[v,u] W λe w'=>∃b:Bool,e=.returned (.bool b)/\(b=true↔l=m)/\Below W.heap.size W w':=by
 classical
 refine(Atg l m v u W h1.1 a.1 h1.2.1 a.2.1 h1.2.2.1 a.2.2.1).mono ?_;rintro e w' ⟨d,c⟩;exact⟨_,d,spz,c⟩
theorem A62 {l m:List Stil.Arm}(h1:Lad W v l)(a:Lad W u m):Calls prog 7 #[v,u] W λe w'=>∃b:Bool,e=.returned (.bool b)/\(b=true↔l=m)/\Below W.heap.size W w':=by
 classical
 refine(Ar7 l m v u W h1.1 a.1 h1.2.1 a.2.1 h1.2.2.1 a.2.2.1).mono ?_;rintro e w' ⟨d,c⟩;exact⟨_,d,spz,c⟩
theorem A36 {l:List Stil.Arm}(h:Lad W v l):Calls prog 8 #[v] W λe w'=>e=.returned (.int .i64 (Ce l))/\Below W.heap.size W w':=
 Atf l v W h.1 h.2.2.2.1 h.2.1 h.2.2.1
def Avy (w:World)(v:Value)(l:List Stil.Arm):Prop:=∀W,Below w.heap.size w W->Lad W v l
theorem A8y {w:World}{l:List Stil.Arm}(h:Lad w v l):Avy w v l:=λ_ a=>h.below a
theorem Avy.later {w:World}{l:List Stil.Arm}(h:Avy w v l)(a:Below w.heap.size w W):Avy W v l:=λ_ b=>h _ (a.trans (b.mono a.size))
theorem A5i {w:World}{l m:List Stil.Arm}(h1:Avy w v l)(c:Avy w u m)(a:Below w.heap.size w W):Calls prog 11 #[v,u] W λe w'=>∃b:Bool,e=.returned (.bool b)/\(b=true↔l=m)/\Below W.heap.size W w':=A37 (h1 W a) (c W a)
theorem A1r {w:World}{base:Nat}{L:List Stil.Arm}{e:Ending}(h:A0t w base L e):∃(a:Option Addr) (c:Nat),e=.returned (.slice a L.length c)/\Eb w (.slice a L.length c) L:=by
 obtain⟨a,c,b,j,g,i⟩:=h;have d:b.length=L.length:=by rw[<-g,A9j]
 refine⟨a,c,by rw[j,d],?_⟩;have f:=(AOk.from _ (Asa i).1).2.2.2;have k:(Aw6 (.slice a b.length c) b).arm.kids=L:=by rw[Dw.arm_eq];exact g
 rw[k] at f;rw[<-d];exact f.at
theorem A2t {w:World}{l:List Stil.Arm}(h:Lad w v l)(hu:Eb W u (Bh l)):Lad W u (Bh l):=by
 by_cases a:(Dc l).1=0
 ·obtain⟨_,i,g,_,c⟩:=Z7 h.2.1 a
  have b:=h.2.2;exact⟨hu,c,omz,omz,λd=>by rw[Aiy d a];exact b.2.2 d⟩
 ·have e:Bh l=[]:=if_neg a
  rw[e] at hu ⊢;exact⟨hu,λ_ f=>(by cases f),spz,by simp[Ce],λd=>by simp[U4]⟩
def A7x (w:World)(l:List Stil.Arm)(e:Ending)(w':World):Prop:=∃(a:Option Addr) (c:Nat),e=.returned (.slice a (Bh l).length c)/\Avy w' (.slice a (Bh l).length c) (Bh l)/\Below w.heap.size w w'
theorem A5l {w:World}{l:List Stil.Arm}(hr:∀W,Below w.heap.size w W->Ei W/\Em W)(h1:Avy w v l)(b:Below w.heap.size w W):Calls prog 29 #[v] W (A7x W l):=by
 have h:=h1 W b;refine(Ahu l v W (hr W b).1 (hr W b).2 h.1 h.2.2.1 h.2.2.2.1 h.2.1).mono ?_;rintro e w' ⟨g,i⟩;obtain⟨a,c,f,d⟩:=A1r g;exact⟨a,c,f,A8y (A2t h d),i⟩
theorem A4a {w:World}{l:List Stil.Arm}(hr:∀W,Below w.heap.size w W->Ei W/\Em W)(h1:Avy w v l)(a:Below w.heap.size w W):Calls prog 30 #[v] W λe w'=>e=.returned (.bool (decide ((Dc l).1=0)))/\Below W.heap.size W w':=
 have h:=h1 W a
 Aht l v W (hr W a).1 (hr W a).2 h.1 h.2.2.1 h.2.2.2.1 h.2.1
set_option maxHeartbeats 2000000 in
set_option maxRecDepth 100000 in
theorem A8i {w:World}{l:List Stil.Arm}(hr:∀W,Below w.heap.size w W->Ei W/\Em W)(h1:Avy w v l)(c:Below w.heap.size w W):Calls prog 10 #[v] W λe w'=>∃b:Bool,e=.returned (.bool b)/\(b=true↔(Dc l).1=0/\l=Bh l)/\Below W.heap.size W w':=by
 have f:=hid (λX (h:Below W.heap.size W X)=>hr X (c.trans (h.mono c.size)));have d:=hid (h1.later c);obtain⟨o,r,rfl,-⟩:=(h1 W c).1;clear hr h1 c;by_cases a:(Dc l).1=0
 ·have hd:=Bba a
  have g:=hid a;clear a;go_enter func10,ntmps10
  go_wp2_with (first | (go_at_call 30;refine(A4a (w:=W) f d blA).mono ?_;rintro e s ⟨rfl,q⟩) | (go_at_call 29;refine(A5l (w:=W) f d blA).mono ?_;rintro e k ⟨z,y,rfl,i,A⟩;have x:=hid i;have t:Hid (Avy k (.slice o l.length r) l):=d.later blA;clear i) | (go_at_call 11;refine(A5i (w:=k) t x blA).mono ?_;rintro e w3 ⟨b,rfl,j,B⟩;have m:=hid j;clear j))
  go_ret;exact⟨b,Ad spz,⟨λh=>⟨g.out,m.1 h⟩,λh=>m.2 h.2⟩,blA⟩
 ·have hd:=Ba1 a
  have g:=hid a;clear a;go_enter func10,ntmps10
  go_wp2_with (first | (go_at_call 30;refine(A4a (w:=W) f d blA).mono ?_;rintro e s ⟨rfl,q⟩))
  go_ret;exact⟨false,rfl,⟨λh=>yBb,λh=>absurd h.1 g.out⟩,blA⟩
end Go.Proofs.YtobbpffcggchmaaGreatDoor
