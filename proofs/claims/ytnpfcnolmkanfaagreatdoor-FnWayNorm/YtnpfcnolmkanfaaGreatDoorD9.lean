import Derived.Test.YtnpfcnolmkanfaaGreatDoorGD
import Derived.Deep.DeepCutAuto
namespace Go.Proofs.YtnpfcnolmkanfaaGreatDoor
open Tryz
open Go.RowKit Go.Sort Go.BigFrame
variable {W X w':World}{base cap g k lo n o:Nat}{op:Int}{r:Option Nat}{v:Value}
def J6 (w:World)(g:Nat)(v:Value)(c:List Stil.Dev):Prop:=∃a cap,v=.slice a c.length cap/\(c.length<=cap/\(a=none->cap=0))/\∀i (h:i<c.length),∃b o,a=some ⟨b,o,none⟩/\g<b/\b<w.heap.size/\Jc w b (o+i*3) c[i]
theorem J6.grown {w:World}{d:List Stil.Dev}(h:J6 w lo v d)(hg:w.grownBy w' (some g))(t:g<=lo):J6 w' lo v d:=by
 obtain⟨a,cap,rfl,m,e⟩:=h;refine⟨a,cap,rfl,m,λi hi=>?_⟩;obtain⟨b,o,f,s,c,q,j,l⟩:=e i hi;refine⟨b,o,f,s,A51 c hg.size,?_,?_,?_⟩
 ·rw[Df hg c omz];exact q
 ·rw[Df hg c omz];exact j
 ·rw[Df hg c omz];exact l
theorem J6.mono {w:World}{hi:Nat}{c:List Stil.Dev}(h:J6 w hi v c)(hl:lo<=hi):J6 w lo v c:=by
 obtain⟨a,cap,rfl,j,d⟩:=h;refine⟨a,cap,rfl,j,λi hi=>?_⟩;obtain⟨b,o,e,l,f⟩:=d i hi;exact⟨b,o,e,omz,f⟩
def A37 (e:Ending)(w w':World)(g Q k:Nat):Prop:=∃(op:Int) (v:Value) (a:List Stil.Dev),e=.returned (.agg #[.int .i64 op,v])/\(-1000000<=op/\op<=1000000)/\J6 w' (w.heap.size - 1) v a/\(∀d∈a,Small d)/\a.length<=k/\H5 w' g Q/\w.grownBy w' (some g)
theorem all1 {a:Stil.Dev}(b:Small a):∀d∈[a],Small d:=by intro d hd;simp at hd;subst hd;exact b
theorem all2 {a b:Stil.Dev}(c:Small a)(e:Small b):∀d∈[a,b],Small d:=by intro d hd;simp at hd;rcases hd with rfl | rfl;exact c;exact e
theorem A5s {a b c:Stil.Dev}(f:Small a)(e:Small b)(h:Small c):∀d∈[a,b,c],Small d:=by intro d hd;simp at hd;rcases hd with rfl | rfl | rfl;exact f;exact e;exact h
theorem Kw {b:Nat}(c:List Stil.Dev)(cs:Array Value)(q:b=X.heap.size)(u:g<b)(f:cs.toList=Be c)(hl:c.length<=100):J6 (X.alloc (.cells cs 92)) g (.slice (some ⟨b,0,none⟩) c.length c.length) c:=by
 subst q;have m:cs.size=c.length*3:=by
  have:=congrArg List.length f
  rw[Jr] at this;simpa using this
 have h:=World.ownsRow_lit (base:=X.heap.size) (e:=92) (size:=3) X cs c.length (A57 _) yAe m;rw[f] at h;obtain⟨a,cap,j,l⟩:=Dh.of_owns h;simp only[Value.slice.injEq] at j;obtain⟨rfl,_,rfl⟩:=j;refine⟨_,_,rfl,⟨A57 _,λh=>by cases h⟩,λi hi=>?_⟩;obtain⟨b,o,d,t,s⟩:=l i hi;have w:b=X.heap.size:=by simp only[A65,Addr.mk.injEq] at d;exact d.1.symm
 exact⟨b,o,d,omz,t,s⟩
def Acp (w:World)(b:Nat)(d:Stil.Dev):Prop:=b<w.heap.size/\w.cell? ⟨b,0,none⟩=some (.int .i64 d.kind)/\w.cell? ⟨b,1,none⟩=some (.int .i64 d.n)/\w.cell? ⟨b,2,none⟩=some (.int .i64 d.p)/\w.frozen? ⟨b,0,none⟩=false/\w.frozen? ⟨b,1,none⟩=false/\w.frozen? ⟨b,2,none⟩=false
theorem dbA {b:Nat}{d:Stil.Dev}(h:Acp W b d:=by refine⟨ltA,?_,?_,?_,?_,?_,?_⟩<;>first | (exact cfA;done) | (repeat (first | with_reducible assumption | with_reducible refine O0.trans ?_ | with_reducible refine Ll.trans ?_ | with_reducible refine(Iw ltA).trans ?_ | (simp[go_sem];done)))):Acp W b d:=h
def Wj (w:World)(b:Nat)(op:Int)(v:Value):Prop:=b<w.heap.size/\w.cell? ⟨b,0,none⟩=some (.int .i64 op)/\w.cell? ⟨b,1,none⟩=some v/\w.frozen? ⟨b,0,none⟩=false/\w.frozen? ⟨b,1,none⟩=false
theorem ebA {b:Nat}(h:Wj W b op v:=by refine⟨ltA,?_,?_,?_,?_⟩<;>first | (exact cfA;done) | (repeat (first | with_reducible assumption | with_reducible refine O0.trans ?_ | with_reducible refine Ll.trans ?_ | with_reducible refine(Iw ltA).trans ?_ | (simp[go_sem];done)))):Wj W b op v:=h
theorem Wj.grown {w:World}{b:Nat}(h:Wj w b op v)(hg:w.grownBy w' (some g))(c:b≠g):Wj w' b op v:=by
 obtain⟨a,d,i,f,e⟩:=h;refine⟨A51 a hg.size,?_,?_,?_,?_⟩
 ·rw[Df hg a c];exact d
 ·rw[Df hg a c];exact i
 ·rw[Gw hg a c];exact f
 ·rw[Gw hg a c];exact e
theorem J6.setAt {w:World}{r d l:Nat}{u:Value}{m:List Stil.Dev}(f:r≠d)(h:J6 w g (.slice (some ⟨d,l,none⟩) n cap) m):J6 (w.setCell ⟨r,o,none⟩ u) g (.slice (some ⟨d,l,none⟩) n cap) m:=by
 obtain⟨a,c,j,x,p⟩:=h;simp only[Value.slice.injEq] at j;obtain⟨rfl,rfl,rfl⟩:=j;refine⟨_,_,rfl,x,λi hi=>?_⟩;obtain⟨b,q,e,B,A,z,s,t⟩:=p i hi;have y:b=d:=by simp only[A65,Addr.mk.injEq] at e;exact e.1.symm
 subst y;refine⟨b,q,e,B,by simpa using A,?_,?_,?_⟩
 ·rw[Fv (Ne.symm f)];exact z
 ·rw[Fv (Ne.symm f)];exact s
 ·rw[Fv (Ne.symm f)];exact t
theorem A3e {c:World}{b:Nat}(a:List Stil.Dev)(cs:Array Value)(f:(X.alloc (.cells cs 92)).grownBy c (some g))(i:g<=lo)(e:b=X.heap.size)(h:lo<b)(d:cs.toList=Be a)(hl:a.length<=100):J6 c lo (.slice (some ⟨b,0,none⟩) a.length a.length) a:=
 (Kw a cs e h d hl).grown f i
theorem A3c {w:World}{a:Option Addr}{d:List Stil.Dev}(k:Nat)(h:J6 w g (.slice a n cap) d)(y:k<=d.length):J6 w g (.slice a k cap) (d.take k):=by
 obtain⟨x,c,e,l,f⟩:=h;simp only[Value.slice.injEq] at e;obtain⟨rfl,rfl,rfl⟩:=e;have m:(d.take k).length=k:=by simp;omega
 refine⟨_,_,by rw[m],⟨omz,l.2⟩,λi hi=>?_⟩;obtain⟨b,q,j,u,t,s⟩:=f i omz;refine⟨b,q,j,u,t,?_⟩;rw[List.getElem_take];exact s
theorem zv {p:Prop}(h:p:=by
 refine bodyPost_ret (by simp[results,results45,go_sem,q0,q1,hz0];rfl) rfl ?_
 exact⟨_,_,[d],rfl,omz,Kw [d] _ spz omz rfl spz,all1 hd,spz,rlA,glA⟩):p:=h
set_option maxHeartbeats 2000000 in
set_option maxRecDepth 100000 in
theorem Ie (g P:Nat)(w:World)(hr:H5 w g P)(hP:P<=1000000000):
  Calls prog 45 #[.pointer (some ⟨g,0,none⟩)] w λe w'=>A37 e w w' g (P+20) 3:=by
 have hg:=Ug hr;go_enter func45,ntmps45;go_upto_if 39 with(first | (go_at_call_of 23 (Value.int IntKind.i64 8);refine(Ew g _ _ _ raA omz omz omz).mono ?_;rintro e S ⟨x,rfl,Z,Y,y,c⟩;have hz0:w.heap.size<S.heap.size:=A51 ltA c.size;obtain⟨q0,u,q1,z⟩:S.cell? ⟨w.heap.size,0,none⟩=some (.int .i64 0)/\S.frozen? ⟨w.heap.size,0,none⟩=false/\S.cell? ⟨w.heap.size,1,none⟩=some (.slice none 0 0)/\S.frozen? ⟨w.heap.size,1,none⟩=false:=⟨gcA c,gfA c,gcA c,gfA c⟩) | (go_at_call 76;refine(A2m g _ _ raA omz).mono ?_;rintro e U ⟨d,rfl,hd,y,c⟩;have hz0:w.heap.size<U.heap.size:=A51 ltA c.size;obtain⟨q0,u,q1,z⟩:U.cell? ⟨w.heap.size,0,none⟩=some (.int .i64 0)/\U.frozen? ⟨w.heap.size,0,none⟩=false/\U.cell? ⟨w.heap.size,1,none⟩=some (.slice none 0 0)/\U.frozen? ⟨w.heap.size,1,none⟩=false:=⟨gcA c,gfA c,gcA c,gfA c⟩) | (go_at_call 72;refine(Ob g _ _ _ raA omz omz omz).mono ?_;rintro e R ⟨f,rfl,hf,y,c⟩;have hz0:w.heap.size<R.heap.size:=A51 ltA c.size;obtain⟨q0,u,q1,z⟩:R.cell? ⟨w.heap.size,0,none⟩=some (.int .i64 0)/\R.frozen? ⟨w.heap.size,0,none⟩=false/\R.cell? ⟨w.heap.size,1,none⟩=some (.slice none 0 0)/\R.frozen? ⟨w.heap.size,1,none⟩=false:=⟨gcA c,gfA c,gcA c,gfA c⟩) | (have _:=ab;(go_at_call 73;refine(Ue g _ _ raA omz).mono ?_;rintro e i ⟨f,rfl,ac,y,c⟩;have hz0:w.heap.size<i.heap.size:=A51 ltA c.size;have O:j.heap.size<i.heap.size:=A51 ltA c.size;obtain⟨q0,u,q1,z,B,D,E,F,H,G⟩:i.cell? ⟨w.heap.size,0,none⟩=some (.int .i64 0)/\i.frozen? ⟨w.heap.size,0,none⟩=false/\i.cell? ⟨w.heap.size,1,none⟩=some (.slice none 0 0)/\i.frozen? ⟨w.heap.size,1,none⟩=false/\i.cell? ⟨j.heap.size,0,none⟩=some (.int .i64 d.kind)/\i.frozen? ⟨j.heap.size,0,none⟩=false/\i.cell? ⟨j.heap.size,1,none⟩=some (.int .i64 d.n)/\i.frozen? ⟨j.heap.size,1,none⟩=false/\i.cell? ⟨j.heap.size,2,none⟩=some (.int .i64 d.p)/\i.frozen? ⟨j.heap.size,2,none⟩=false:=⟨gcA c,gfA c,gcA c,gfA c,gcA c,gfA c,gcA c,gfA c,gcA c,gfA c⟩)) | (go_at_call 73;refine(Ue g _ _ raA omz).mono ?_;rintro e j ⟨d,rfl,ab,y,c⟩;have hz0:w.heap.size<j.heap.size:=A51 ltA c.size;obtain⟨q0,u,q1,z⟩:j.cell? ⟨w.heap.size,0,none⟩=some (.int .i64 0)/\j.frozen? ⟨w.heap.size,0,none⟩=false/\j.cell? ⟨w.heap.size,1,none⟩=some (.slice none 0 0)/\j.frozen? ⟨w.heap.size,1,none⟩=false:=⟨gcA c,gfA c,gcA c,gfA c⟩) | (have _:=ac;(go_at_call_of 23 (Value.int IntKind.i64 2);refine(Ew g _ _ _ raA omz omz omz).mono ?_;rintro e t ⟨x,rfl,Z,Y,y,c⟩;have hz0:w.heap.size<t.heap.size:=A51 ltA c.size;have O:j.heap.size<t.heap.size:=A51 ltA c.size;have Q:i.heap.size<t.heap.size:=A51 ltA c.size;obtain⟨q0,u,q1,z,B,D,E,F,H,G,K,I,L,N,M,J⟩:t.cell? ⟨w.heap.size,0,none⟩=some (.int .i64 0)/\t.frozen? ⟨w.heap.size,0,none⟩=false/\t.cell? ⟨w.heap.size,1,none⟩=some (.slice none 0 0)/\t.frozen? ⟨w.heap.size,1,none⟩=false/\t.cell? ⟨j.heap.size,0,none⟩=some (.int .i64 d.kind)/\t.frozen? ⟨j.heap.size,0,none⟩=false/\t.cell? ⟨j.heap.size,1,none⟩=some (.int .i64 d.n)/\t.frozen? ⟨j.heap.size,1,none⟩=false/\t.cell? ⟨j.heap.size,2,none⟩=some (.int .i64 d.p)/\t.frozen? ⟨j.heap.size,2,none⟩=false/\t.cell? ⟨i.heap.size,0,none⟩=some (.int .i64 f.kind)/\t.frozen? ⟨i.heap.size,0,none⟩=false/\t.cell? ⟨i.heap.size,1,none⟩=some (.int .i64 f.n)/\t.frozen? ⟨i.heap.size,1,none⟩=false/\t.cell? ⟨i.heap.size,2,none⟩=some (.int .i64 f.p)/\t.frozen? ⟨i.heap.size,2,none⟩=false:=⟨gcA c,gfA c,gcA c,gfA c,gcA c,gfA c,gcA c,gfA c,gcA c,gfA c,gcA c,gfA c,gcA c,gfA c,gcA c,gfA c⟩)) | (go_at_call_of 23 (Value.int IntKind.i64 2);refine(Ew g _ _ _ raA omz omz omz).mono ?_;rintro e w3 ⟨x,rfl,Z,Y,y,c⟩;have hz0:w.heap.size<w3.heap.size:=A51 ltA c.size;obtain⟨q0,u,q1,z⟩:w3.cell? ⟨w.heap.size,0,none⟩=some (.int .i64 0)/\w3.frozen? ⟨w.heap.size,0,none⟩=false/\w3.cell? ⟨w.heap.size,1,none⟩=some (.slice none 0 0)/\w3.frozen? ⟨w.heap.size,1,none⟩=false:=⟨gcA c,gfA c,gcA c,gfA c⟩))
 rotate_right 1
 ·go_cut [] (λwc=>∃q C:Stil.Dev,Small q/\Small C/\H5 wc g (P+18)/\w.grownBy wc (some g)/\Wj wc w.heap.size 0 (.slice none 0 0)/\Acp wc j.heap.size q/\Acp wc i.heap.size C)
  case first=>
   go_wp2_with (first | (have _:=T;(go_at_call 74;refine(Xy g _ _ raA omz).mono ?_;rintro e m ⟨C,rfl,aa,y,c⟩;have hz0:w.heap.size<m.heap.size:=A51 ltA c.size;have O:j.heap.size<m.heap.size:=A51 ltA c.size;have Q:i.heap.size<m.heap.size:=A51 ltA c.size;obtain⟨q0,u,q1,z,B,D,E,F,H,G,K,I,L,N,M,J⟩:m.cell? ⟨w.heap.size,0,none⟩=some (.int .i64 0)/\m.frozen? ⟨w.heap.size,0,none⟩=false/\m.cell? ⟨w.heap.size,1,none⟩=some (.slice none 0 0)/\m.frozen? ⟨w.heap.size,1,none⟩=false/\m.cell? ⟨j.heap.size,0,none⟩=some (.int .i64 q.kind)/\m.frozen? ⟨j.heap.size,0,none⟩=false/\m.cell? ⟨j.heap.size,1,none⟩=some (.int .i64 q.n)/\m.frozen? ⟨j.heap.size,1,none⟩=false/\m.cell? ⟨j.heap.size,2,none⟩=some (.int .i64 q.p)/\m.frozen? ⟨j.heap.size,2,none⟩=false/\m.cell? ⟨i.heap.size,0,none⟩=some (.int .i64 f.kind)/\m.frozen? ⟨i.heap.size,0,none⟩=false/\m.cell? ⟨i.heap.size,1,none⟩=some (.int .i64 f.n)/\m.frozen? ⟨i.heap.size,1,none⟩=false/\m.cell? ⟨i.heap.size,2,none⟩=some (.int .i64 f.p)/\m.frozen? ⟨i.heap.size,2,none⟩=false:=⟨gcA c,gfA c,gcA c,gfA c,gcA c,gfA c,gcA c,gfA c,gcA c,gfA c,gcA c,gfA c,gcA c,gfA c,gcA c,gfA c⟩)) | (go_at_call 74;refine(Xy g _ _ raA omz).mono ?_;rintro e wr ⟨q,rfl,T,y,c⟩;have hz0:w.heap.size<wr.heap.size:=A51 ltA c.size;have O:j.heap.size<wr.heap.size:=A51 ltA c.size;have Q:i.heap.size<wr.heap.size:=A51 ltA c.size;obtain⟨q0,u,q1,z,B,D,E,F,H,G,K,I,L,N,M,J⟩:wr.cell? ⟨w.heap.size,0,none⟩=some (.int .i64 0)/\wr.frozen? ⟨w.heap.size,0,none⟩=false/\wr.cell? ⟨w.heap.size,1,none⟩=some (.slice none 0 0)/\wr.frozen? ⟨w.heap.size,1,none⟩=false/\wr.cell? ⟨j.heap.size,0,none⟩=some (.int .i64 d.kind)/\wr.frozen? ⟨j.heap.size,0,none⟩=false/\wr.cell? ⟨j.heap.size,1,none⟩=some (.int .i64 d.n)/\wr.frozen? ⟨j.heap.size,1,none⟩=false/\wr.cell? ⟨j.heap.size,2,none⟩=some (.int .i64 d.p)/\wr.frozen? ⟨j.heap.size,2,none⟩=false/\wr.cell? ⟨i.heap.size,0,none⟩=some (.int .i64 f.kind)/\wr.frozen? ⟨i.heap.size,0,none⟩=false/\wr.cell? ⟨i.heap.size,1,none⟩=some (.int .i64 f.n)/\wr.frozen? ⟨i.heap.size,1,none⟩=false/\wr.cell? ⟨i.heap.size,2,none⟩=some (.int .i64 f.p)/\wr.frozen? ⟨i.heap.size,2,none⟩=false:=⟨gcA c,gfA c,gcA c,gfA c,gcA c,gfA c,gcA c,gfA c,gcA c,gfA c,gcA c,gfA c,gcA c,gfA c,gcA c,gfA c⟩))
   ·go_meet
    exact⟨q,C,T,aa,rlA,glA,ebA,dbA,dbA⟩
   ·go_meet
    exact⟨d,f,ab,ac,rlA,glA,ebA,dbA,dbA⟩
  case rest=>
   clear q0 q1 B E H K L M u z D F G I N J y;obtain⟨q,C,T,aa,y,af,⟨hz0,q0,q1,u,z⟩,⟨O,B,E,H,D,F,G⟩,⟨Q,K,L,M,I,N,J⟩⟩:=hcut;go_upto_if 46 with(go_at_call_of 23 (Value.int IntKind.i64 4);refine(Ew g _ _ _ raA omz omz omz).mono ?_;rintro e l ⟨x,rfl,Z,Y,y,c⟩;have hz0:w.heap.size<l.heap.size:=A51 ltA c.size;have O:j.heap.size<l.heap.size:=A51 ltA c.size;have Q:i.heap.size<l.heap.size:=A51 ltA c.size;obtain⟨q0,u,q1,z,B,D,E,F,H,G,K,I,L,N,M,J⟩:l.cell? ⟨w.heap.size,0,none⟩=some (.int .i64 0)/\l.frozen? ⟨w.heap.size,0,none⟩=false/\l.cell? ⟨w.heap.size,1,none⟩=some (.slice none 0 0)/\l.frozen? ⟨w.heap.size,1,none⟩=false/\l.cell? ⟨j.heap.size,0,none⟩=some (.int .i64 q.kind)/\l.frozen? ⟨j.heap.size,0,none⟩=false/\l.cell? ⟨j.heap.size,1,none⟩=some (.int .i64 q.n)/\l.frozen? ⟨j.heap.size,1,none⟩=false/\l.cell? ⟨j.heap.size,2,none⟩=some (.int .i64 q.p)/\l.frozen? ⟨j.heap.size,2,none⟩=false/\l.cell? ⟨i.heap.size,0,none⟩=some (.int .i64 C.kind)/\l.frozen? ⟨i.heap.size,0,none⟩=false/\l.cell? ⟨i.heap.size,1,none⟩=some (.int .i64 C.n)/\l.frozen? ⟨i.heap.size,1,none⟩=false/\l.cell? ⟨i.heap.size,2,none⟩=some (.int .i64 C.p)/\l.frozen? ⟨i.heap.size,2,none⟩=false:=⟨gcA c,gfA c,gcA c,gfA c,gcA c,gfA c,gcA c,gfA c,gcA c,gfA c,gcA c,gfA c,gcA c,gfA c,gcA c,gfA c⟩)
   go_cut [] (λV=>∃A:Stil.Dev,Small A/\H5 V g (P+19)/\w.grownBy V (some g)/\Wj V w.heap.size 0 (.slice none 0 0)/\Acp V j.heap.size q/\Acp V i.heap.size A)
   case first=>
    go_wp2
    ·go_meet
     exact⟨q,T,rlA,glA,ebA,dbA,dbA⟩
    ·go_meet
     exact⟨C,aa,rlA,glA,ebA,dbA,dbA⟩
   case rest=>
    clear q0 q1 B E H K L M u z D F G I N J y;obtain⟨A,ae,y,ag,⟨hz0,q0,q1,u,z⟩,⟨O,B,E,H,D,F,G⟩,⟨Q,K,L,M,I,N,J⟩⟩:=hcut
    go_wp2
    go_region_with (go_at_call_of 23 (Value.int IntKind.i64 6);refine(Ew g _ _ _ raA omz omz omz).mono ?_;rintro e s ⟨x,rfl,Z,Y,y,c⟩;have hz0:w.heap.size<s.heap.size:=A51 ltA c.size;have O:j.heap.size<s.heap.size:=A51 ltA c.size;have Q:i.heap.size<s.heap.size:=A51 ltA c.size;obtain⟨q0,u,q1,z,B,D,E,F,H,G,K,I,L,N,M,J⟩:s.cell? ⟨w.heap.size,0,none⟩=some (.int .i64 0)/\s.frozen? ⟨w.heap.size,0,none⟩=false/\s.cell? ⟨w.heap.size,1,none⟩=some (.slice none 0 0)/\s.frozen? ⟨w.heap.size,1,none⟩=false/\s.cell? ⟨j.heap.size,0,none⟩=some (.int .i64 q.kind)/\s.frozen? ⟨j.heap.size,0,none⟩=false/\s.cell? ⟨j.heap.size,1,none⟩=some (.int .i64 q.n)/\s.frozen? ⟨j.heap.size,1,none⟩=false/\s.cell? ⟨j.heap.size,2,none⟩=some (.int .i64 q.p)/\s.frozen? ⟨j.heap.size,2,none⟩=false/\s.cell? ⟨i.heap.size,0,none⟩=some (.int .i64 A.kind)/\s.frozen? ⟨i.heap.size,0,none⟩=false/\s.cell? ⟨i.heap.size,1,none⟩=some (.int .i64 A.n)/\s.frozen? ⟨i.heap.size,1,none⟩=false/\s.cell? ⟨i.heap.size,2,none⟩=some (.int .i64 A.p)/\s.frozen? ⟨i.heap.size,2,none⟩=false:=⟨gcA c,gfA c,gcA c,gfA c,gcA c,gfA c,gcA c,gfA c,gcA c,gfA c,gcA c,gfA c,gcA c,gfA c,gcA c,gfA c⟩)
    all_goals go_wp2
    all_goals
     refine bodyPost_ret (by simp[results,results45,go_sem,q0,q1,hz0];rfl) rfl ?_;refine⟨_,_,[q,A],rfl,by rw[IntKind.wrap_i64];omega,?_,all2 T ae,spz,rlA,glA⟩;first | exact Kw [q,A] _ spz omz rfl spz | exact J6.setAt omz (J6.setAt omz (A3e (X:=wc) [q,A] _ ⟨c.os,c.tape,c.output,c.size,c.block⟩ omz spz omz rfl spz))
 ·exact zv
 ·exact zv
 ·exact zv
 ·exact zv
 ·exact zv
 ·refine bodyPost_ret (by simp[results,results45,go_sem,q0,q1,hz0];rfl) rfl ?_
  exact⟨_,_,[d,f],rfl,omz,Kw [d,f] _ spz omz rfl spz,all2 hd hf,spz,rlA,glA⟩
theorem Et {w:World}{P:Nat}(h:H5 w g P)(hg:w.grownBy w' r)(hr:∀k,r=some k->g<k):H5 w' g P:=by
 have C:=Ug h;obtain⟨a,len,cap,p,s,y,f,u,B,j⟩:=h;have c:∀b,b<=g->w'.heap[b]?=w.heap[b]?:=λb c=>hg.block b omz (λe=>by have:=hr b e.symm;omega)
 have d:∀b o,b<=g->w'.cell? ⟨b,o,none⟩=w.cell? ⟨b,o,none⟩:=λb o h=>by unfold World.cell?;rw[c b h]
 refine⟨a,len,cap,p,by rw[d _ _ (A57 _)];exact s,by rw[d _ _ (A57 _)];exact y,by unfold World.frozen? at f ⊢;rw[c g (A57 _)];exact f,u,B,λi hi=>?_⟩;obtain⟨b,q,z,m,x,t,l,A⟩:=j i hi;exact⟨b,q,z,m,x,by rw[d _ _ omz];exact t,l,A⟩
theorem Jk {w a b:World}{s:Option Nat}(h:w.grownBy a r)(k:a.grownBy b s)(d:∀j,s=some j->w.heap.size<=j):w.grownBy b r:=
 ⟨k.os.trans h.os,k.tape.trans h.tape,k.output.trans h.output,A6e h.size k.size,λj c f=>(k.block j (A51 c h.size) (λe=>by have:=d j e.symm;omega)).trans (h.block j c f)⟩
theorem Axz {w:World}{f:List Stil.Dev}(h:w.ownsRow base 92 3 v f.length (Be f))(hg:g<base):J6 w g v f:=by
 have hd:=Dh.of_owns h;rcases h.2 with⟨m,B⟩ | ⟨b,cap,cur,d,A,z,u,_⟩
 ·obtain⟨a,c,d,l⟩:=hd
  rw[m] at d;simp only[Value.slice.injEq] at d;obtain⟨rfl,x,rfl⟩:=d;exact⟨none,0,by rw[m,x],⟨omz,λ_=>rfl⟩,λi hi=>absurd hi omz⟩
 ·obtain⟨a,c,y,l⟩:=hd
  have e:=d.symm.trans y;simp only[Value.slice.injEq] at e;obtain⟨rfl,_,rfl⟩:=e;refine⟨_,cap,d,⟨u,λh=>by cases h⟩,λi hi=>?_⟩;obtain⟨q,o,j,s,t⟩:=l i hi;have:q=b:=by simp only[A65,Addr.mk.injEq] at j;exact j.1.symm
  exact⟨q,o,j,omz,s,t⟩
theorem Apz {w:World}{a:List Stil.Dev}(b:a.length=n)(h:w.ownsRow base 92 3 v n (Be a))(hg:g<base):J6 w g v a:=by
 subst b;exact Axz h hg
theorem A3d {w:World}{b:Nat}{f:List Stil.Dev}(h:J6 w g (.slice (some ⟨b,o,none⟩) n cap) f):∀j u,(Be f)[j]?=some u->w.cell? ((⟨b,o,none⟩:Addr).add j)=some u:=by
 intro j u i;obtain⟨a,c,m,_,s⟩:=h;simp only[Value.slice.injEq] at m;obtain⟨rfl,rfl,rfl⟩:=m;have C:j<f.length*3:=by rw[<-Jr];exact(List.getElem?_eq_some_iff.1 i).1
 obtain⟨D,E,q,_,_,x,z,y⟩:=s (j / 3) omz;simp only[A65,Addr.mk.injEq,A8u] at q;obtain⟨rfl,rfl⟩:=q;obtain⟨B,A,t⟩:=Lm f (j / 3) omz;rw[Addr.add_lit];have l:j % 3=0\/j % 3=1\/j % 3=2:=omz
 rcases l with l | l | l
 ·have e:j=j / 3*3:=by omega
  have d:o+j=o+j / 3*3:=omz
  rw[d,x,<-B,<-e];exact i
 ·have e:j=j / 3*3+1:=by omega
  have d:o+j=o+j / 3*3+1:=omz
  rw[d,z,<-A,<-e];exact i
 ·have e:j=j / 3*3+2:=by omega
  have d:o+j=o+j / 3*3+2:=omz
  rw[d,y,<-t,<-e];exact i
theorem Bl {w:World}{e:TypeId}{size:Nat}{xs:List Value}(h:w.ownsRow base e size v n xs)(hg:w.grownBy w' (some g))(f:g<base):w'.ownsRow base e size v n xs:=by
 refine⟨h.1,?_⟩;rcases h.2 with d | ⟨k,cap,cur,hv,b,a,c⟩
 ·exact Or.inl d
 ·have:=(h.lt k yEc).2
  exact Or.inr ⟨k,cap,cur,hv,b,by rw[hg.block k this (by intro e;cases e;omega)];exact a,c⟩
theorem Aaz:∀(a:List Stil.Dev) (k:Nat) (d:Stil.Dev),k<a.length->(((Be a).set (k*3) (.int .i64 d.kind)).set (k*3+1) (.int .i64 d.n)).set (k*3+2) (.int .i64 d.p)=Be (a.set k d)
 | [],k,d,h=>by simp at h
 | c::r,0,d,_=>rfl
 | c::r,k+1,d,h=>by
  have e:Be (c::r)=.int .i64 c.kind::.int .i64 c.n::.int .i64 c.p::Be r:=rfl;have b:Be ((c::r).set (k+1) d)=.int .i64 c.kind::.int .i64 c.n::.int .i64 c.p::Be (r.set k d):=rfl;have f:(k+1)*3=k*3+1+1+1:=omz
  rw[e,b,f,<-Aaz r k d yBi];rfl
theorem Ahd {w:World}{b:Nat}{a:List Stil.Dev}(h:w.ownsRow base 92 3 (.slice (some ⟨b,0,none⟩) n cap) n (Be a))(d:Stil.Dev)(c:k<a.length):
  (((w.setCell ⟨b,k*3,none⟩ (.int .i64 d.kind)).setCell ⟨b,k*3+1,none⟩ (.int .i64 d.n)).setCell ⟨b,k*3+2,none⟩ (.int .i64 d.p)).ownsRow base 92 3 (.slice (some ⟨b,0,none⟩) n cap) n (Be (a.set k d)):=by
 rw[<-Aaz a k d c];exact(((h.stored (k*3) _).1.stored (k*3+1) _).1.stored (k*3+2) _).1
theorem Aiw {w:World}{b:Nat}{a:List Stil.Dev}(h:w.ownsRow base 92 3 (.slice (some ⟨b,0,none⟩) a.length cap) a.length (Be a))(j:k<a.length):
  w.cell? ⟨b,k*3,none⟩=some (.int .i64 a[k].kind)/\w.cell? ⟨b,k*3+1,none⟩=some (.int .i64 a[k].n)/\w.cell? ⟨b,k*3+2,none⟩=some (.int .i64 a[k].p)/\w.frozen? ⟨b,k*3,none⟩=false/\w.frozen? ⟨b,k*3+1,none⟩=false/\w.frozen? ⟨b,k*3+2,none⟩=false:=by
 obtain⟨g,c,e,_,_,_,d⟩:=Bo h omz;simp only[Value.slice.injEq,A65,Addr.mk.injEq] at e;obtain⟨⟨rfl,_⟩,_⟩:=e;obtain⟨l,f,i⟩:=Lm a k j;exact⟨d _ _ l,d _ _ f,d _ _ i,h.frozenAt _,h.frozenAt _,h.frozenAt _⟩
theorem A43 (w:World)(g:Nat):J6 w g (.slice none 0 0) []:=⟨none,0,rfl,⟨A57 _,λ_=>rfl⟩,λi hi=>by simp at hi⟩
theorem Adp {a:List Stil.Dev}(h:∀d∈a,Small d)(k:Nat)(d:Stil.Dev)(hd:Small d):∀x∈a.set k d,Small x:=λx b=>by
 rcases A8g b with c | rfl
 ·exact h x c
 ·exact hd
set_option maxHeartbeats 2000000 in
set_option maxRecDepth 100000 in
theorem Aj2 (g P:Nat)(op:Int)(v:Value)(c:List Stil.Dev)(w:World)(hr:H5 w g P)(hP:P<=1000000000)(aa:-1000000<=op/\op<=1000000)(hv:J6 w g v c)(hs:∀d∈c,Small d)(hl:c.length<=50000):
  Calls prog 77 #[.pointer (some ⟨g,0,none⟩), .agg #[.int .i64 op,v]] w λe w'=>A37 e w w' g (P+20) (c.length+1):=by
 obtain⟨i0,hi,K,L,an⟩:=info_parts Aif;have hg:=Ug hr;have HV:Hid (∀W,w.grownBy W (some g)->J6 W g v c):=λW h=>hv.grown h (A57 _)
 have U:Hid (∀d∈c,Small d):=hs;obtain⟨a,cap,rfl,⟨aE,av⟩,hx⟩:=hv;have HX:Hid (∀i (h:i<c.length),∃b o,a=some ⟨b,o,none⟩/\g<b/\b<w.heap.size/\Jc w b (o+i*3) c[i]):=hx;clear hx hs;go_enter func77,ntmps77;go_upto_region 1 with fail
 go_cut [5] (λs5 wc=>∃b G,s5=.slice (some ⟨b,0,none⟩) c.length G/\wc.ownsRow (w.heap.size+2) 92 3 (.slice (some ⟨b,0,none⟩) c.length G) c.length (Be c)/\H5 wc g P/\w.grownBy wc (some g)/\Wj wc w.heap.size op (.slice a c.length cap)/\Wj wc (w.heap.size+1) 0 (.slice none 0 0))
 case first=>
  cases a with
  | none=>
   obtain rfl:c=[]:=by
    cases c with
    | nil=>rfl
    | cons d r=>obtain⟨b,o,h,_⟩:=HX 0 spz;cases h
   obtain rfl:=av rfl
   go_wp2
   go_meet;have A:=World.ownsRow_lit (base:=w.heap.size+2) (e:=92) (size:=3) ((w.alloc (.cells #[.int .i64 op, .slice none 0 0] 40)).alloc (.cells #[.int .i64 0, .slice none 0 0] 40)) #[] 0 spz yAe rfl;exact⟨w.heap.size+1+1,0,rfl,by simpa[Be] using A,rlA,glA,ebA,ebA⟩
  | some ad=>
   have HN:Hid (∀W,w.grownBy W (some g)->∀j u,(Be c)[j]?=some u->W.cell? (ad.add j)=some u):=by
    intro W hW j u T;by_cases hd:c=[]
    ·subst hd;simp[Be] at T
    ·obtain⟨b,o,h,_⟩:=HX 0 (by cases c with | nil=>exact absurd rfl hd | cons d r=>simp)
     cases h;exact A3d (HV W hW) j u T
   have A:=World.ownsRow_lit (base:=w.heap.size+2) (e:=92) (size:=3) ((w.alloc (.cells #[.int .i64 op, .slice (some ad) c.length cap] 40)).alloc (.cells #[.int .i64 0, .slice none 0 0] 40)) #[] 0 spz yAe rfl;have ax:((((w.alloc (.cells #[.int .i64 op, .slice (some ad) c.length cap] 40)).alloc (.cells #[.int .i64 0, .slice none 0 0] 40)).alloc (.cells #[] 92))).ownsRow (w.heap.size+2) 92 3 (.slice (some ⟨w.heap.size+1+1,0,none⟩) 0 0) 0 []:=by simpa using A
   clear A
   go_wp2_with (at_builtin;refine wpList_append_own _ rfl _ _ 38 rfl (w.heap.size+2) 92 i0 (.agg #[.int .i64 0, .int .i64 0, .int .i64 0]) 3 24 underlying38 hi K L an rfl dcz _ _ _ rfl ax ad c.length cap (Be c) rfl (Jr _) (HN _ glA) (Vf _) yAe omz spz ?_)
   intro v' w3 ag ac af;have Y:((((w.alloc (.cells #[.int .i64 op, .slice (some ad) c.length cap] 40)).alloc (.cells #[.int .i64 0, .slice none 0 0] 40)).alloc (.cells #[] 92))).grownBy w3 (some (w.heap.size+1+1)):=ac;obtain⟨b,G,rfl⟩:∃b G,v'=.slice (some ⟨b,0,none⟩) c.length G:=by
    rcases ag.2 with⟨h0,h1⟩ | ⟨b,G,cur,h0,_⟩
    ·exact absurd h0 af
    ·exact⟨b,G,h0⟩
   clear ac af
   go_wp2
   go_meet;refine⟨b,G,rfl,ag,Et (Cb (Cb (Cb hr _) _) _) Y yDh,Jk (D5 (D5 (D5 (Ny _ _) _) _) _) Y yDh,Wj.grown ?_ Y omz,Wj.grown ?_ Y omz⟩
   ·exact ebA
   ·exact ebA
 case rest=>
  obtain⟨b,G,rfl,Z,R,aj,⟨ai,N,q1,F,O⟩,⟨ar,s,t,M,Q⟩⟩:=hcut;clear HV HX;have az:w.heap.size+2<=b/\b<wc.heap.size:=Z.lt b rfl;obtain⟨aG,aB⟩:=az;go_upto_if 37 with(first | (go_at_call_of 23 (Value.int IntKind.i64 6);refine(Ew g _ _ _ raA omz omz omz).mono ?_;rintro e w3 ⟨x,rfl,ap,au,R,y⟩;have K:w.heap.size<w3.heap.size:=A51 ltA y.size;have L:(w.heap.size+1)<w3.heap.size:=A51 ltA y.size;obtain⟨N,F,q1,O,s,M,t,Q⟩:w3.cell? ⟨w.heap.size,0,none⟩=some (.int .i64 op)/\w3.frozen? ⟨w.heap.size,0,none⟩=false/\w3.cell? ⟨w.heap.size,1,none⟩=some (.slice a c.length cap)/\w3.frozen? ⟨w.heap.size,1,none⟩=false/\w3.cell? ⟨(w.heap.size+1),0,none⟩=some (.int .i64 0)/\w3.frozen? ⟨(w.heap.size+1),0,none⟩=false/\w3.cell? ⟨(w.heap.size+1),1,none⟩=some (.slice none 0 0)/\w3.frozen? ⟨(w.heap.size+1),1,none⟩=false:=⟨gcA y,gfA y,gcA y,gfA y,gcA y,gfA y,gcA y,gfA y⟩) | (go_at_call_of 41 (10:Nat);refine(Aad g _ _ _ [-1,0,1,5,11,20,21,26,37,38] _ raA omz (C9 (by simp[Fj,go_sem])) spz yAh spz spz).mono ?_;rintro e I ⟨ab,rfl,S,R,D⟩;simp only[A6n,A68,A7u] at S;have K:w.heap.size<I.heap.size:=A51 ltA D.size;have L:(w.heap.size+1)<I.heap.size:=A51 ltA D.size;obtain⟨N,F,q1,O,s,M,t,Q⟩:I.cell? ⟨w.heap.size,0,none⟩=some (.int .i64 op)/\I.frozen? ⟨w.heap.size,0,none⟩=false/\I.cell? ⟨w.heap.size,1,none⟩=some (.slice a c.length cap)/\I.frozen? ⟨w.heap.size,1,none⟩=false/\I.cell? ⟨(w.heap.size+1),0,none⟩=some (.int .i64 0)/\I.frozen? ⟨(w.heap.size+1),0,none⟩=false/\I.cell? ⟨(w.heap.size+1),1,none⟩=some (.slice none 0 0)/\I.frozen? ⟨(w.heap.size+1),1,none⟩=false:=⟨gcA D,gfA D,gcA D,gfA D,gcA D,gfA D,gcA D,gfA D⟩))
  ·have A:=Bl ((Bl Z y omz).alloc _) D omz
   refine bodyPost_ret (by simp[results,results77,go_sem,s,t];rfl) rfl ?_;exact⟨_,_,c,rfl,omz,Axz (ownsRow_setCell_below (ownsRow_setCell_below A (A69 _) _) (A69 _) _) omz,U.out,omz,rlA,glA⟩
  ·have A:=Bl Z y omz
   go_region_law (first | (refine Ado rfl _ _ 38 rfl (w.heap.size+2) 92 i0 (.agg #[.int .i64 0, .int .i64 0, .int .i64 0]) 3 24 underlying38 hi aqz aqz an rfl dcz _ _ _ rfl ((Bl A ⟨l.os,l.tape,l.output,l.size,l.block⟩ omz).alloc _) _ _ _ (Vg d) rfl rfl (H7 _ (Vg d) _ _ spz) (by intro u hu;simp[Vg] at hu;rcases hu with rfl | rfl | rfl<;>rfl) yAe omz yBf ?_;intro v' m ak z;obtain⟨b6,ay,rfl,aD,aL,_,_⟩:=Bo ak omz;have B:(q.alloc (.cells #[.int .i64 d.kind, .int .i64 d.n, .int .i64 d.p] 92)).grownBy m (some b):=z;have K:w.heap.size<m.heap.size:=A51 ltA B.size;have L:(w.heap.size+1)<m.heap.size:=A51 ltA B.size;obtain⟨N,F,q1,O,s,M,t,Q⟩:m.cell? ⟨w.heap.size,0,none⟩=some (.int .i64 op)/\m.frozen? ⟨w.heap.size,0,none⟩=false/\m.cell? ⟨w.heap.size,1,none⟩=some (.slice a c.length cap)/\m.frozen? ⟨w.heap.size,1,none⟩=false/\m.cell? ⟨(w.heap.size+1),0,none⟩=some (.int .i64 0)/\m.frozen? ⟨(w.heap.size+1),0,none⟩=false/\m.cell? ⟨(w.heap.size+1),1,none⟩=some (.slice none 0 0)/\m.frozen? ⟨(w.heap.size+1),1,none⟩=false:=⟨gcA B,gfA B,gcA B,gfA B,gcA B,gfA B,gcA B,gfA B⟩) | (go_simp;go_at_call 100;refine(Avm g _ _ raA omz).mono ?_;rintro e q ⟨d,rfl,hd,R,l⟩;have aF:w3.heap.size<=q.heap.size:=l.size;have K:w.heap.size<q.heap.size:=A51 ltA l.size;have L:(w.heap.size+1)<q.heap.size:=A51 ltA l.size;obtain⟨N,F,q1,O,s,M,t,Q⟩:q.cell? ⟨w.heap.size,0,none⟩=some (.int .i64 op)/\q.frozen? ⟨w.heap.size,0,none⟩=false/\q.cell? ⟨w.heap.size,1,none⟩=some (.slice a c.length cap)/\q.frozen? ⟨w.heap.size,1,none⟩=false/\q.cell? ⟨(w.heap.size+1),0,none⟩=some (.int .i64 0)/\q.frozen? ⟨(w.heap.size+1),0,none⟩=false/\q.cell? ⟨(w.heap.size+1),1,none⟩=some (.slice none 0 0)/\q.frozen? ⟨(w.heap.size+1),1,none⟩=false:=⟨gcA l,gfA l,gcA l,gfA l,gcA l,gfA l,gcA l,gfA l⟩))
   all_goals go_wp2
   all_goals
    have qw:=Et (Cb R _) B yDh;have aA:w.grownBy m (some g):=Jk (D5 (Dx (Dx aj y) ⟨l.os,l.tape,l.output,l.size,l.block⟩) _) B yDh;have dR:m.ownsRow (w.heap.size+2) 92 3 (.slice (some ⟨b6,0,none⟩) (c.length+1) ay) (c.length+1) (Be (c++[d])):=by rw[Af7];exact ak
    refine bodyPost_ret (by simp[results,results77,go_sem,s,t];rfl) rfl ?_;refine⟨_,_,c++[d],rfl,aa,Apz (n:=c.length+1) spz (ownsRow_setCell_below (ownsRow_setCell_below dR (A69 _) _) (A69 _) _) omz,?_,spz,rlA,glA⟩;intro ab S;rcases List.mem_append.1 S with S | S
    ·exact U ab S
    ·simp at S;subst S;exact hd
  ·refine bodyPost_ret (by simp[results,results77,go_sem,s,t];rfl) rfl ?_
   exact⟨_,_,[],rfl,aa,A43 _ _,spz,spz,rlA,glA⟩
  ·have A:=Bl Z y omz
   have e0:(x==0)=false:=aqz
   have e1:(x==1)=false:=aqz
   have e2:(x==2)=false:=aqz
   rw[e0,e1,e2];go_cut [6] (λ_ wc=>∃V:List Stil.Dev,V.length=c.length/\(∀d∈V,Small d)/\wc.ownsRow (w.heap.size+2) 92 3 (.slice (some ⟨b,0,none⟩) c.length G) c.length (Be V)/\H5 wc g (P+19)/\w.grownBy wc (some g)/\Wj wc w.heap.size op (.slice a c.length cap)/\Wj wc (w.heap.size+1) 0 (.slice none 0 0))
   case first=>
    by_cases aK:c.length=0
    ·go_wp2
     go_meet;exact⟨c,rfl,U.out,A,rlA,glA,ebA,ebA⟩
    ·go_upto_if 53 with(first | (go_at_call_of 23 (c.length:Nat);refine(Ew g _ _ _ raA omz omz omz).mono ?_;rintro e q ⟨ab,rfl,ai,ar,R,l⟩;have K:w.heap.size<q.heap.size:=A51 ltA l.size;have L:(w.heap.size+1)<q.heap.size:=A51 ltA l.size;obtain⟨N,F,q1,O,s,M,t,Q⟩:q.cell? ⟨w.heap.size,0,none⟩=some (.int .i64 op)/\q.frozen? ⟨w.heap.size,0,none⟩=false/\q.cell? ⟨w.heap.size,1,none⟩=some (.slice a c.length cap)/\q.frozen? ⟨w.heap.size,1,none⟩=false/\q.cell? ⟨(w.heap.size+1),0,none⟩=some (.int .i64 0)/\q.frozen? ⟨(w.heap.size+1),0,none⟩=false/\q.cell? ⟨(w.heap.size+1),1,none⟩=some (.slice none 0 0)/\q.frozen? ⟨(w.heap.size+1),1,none⟩=false:=⟨gcA l,gfA l,gcA l,gfA l,gcA l,gfA l,gcA l,gfA l⟩;obtain⟨j,rfl⟩:=A7i ai;have T:j<c.length:=omz;have ae:=Bl A l omz;obtain⟨r0,r1,r2,s0,s1,s2⟩:=Aiw ae T) | (go_at_call 101;refine(Agm g _ c[j] _ raA omz (U _ (A59 T))).mono ?_;rintro e m ⟨d,rfl,hd,R,z⟩;have al:=Bl ae z omz;obtain⟨r0,r1,r2,s0,s1,s2⟩:=Aiw al T;have K:w.heap.size<m.heap.size:=A51 ltA z.size;have L:(w.heap.size+1)<m.heap.size:=A51 ltA z.size;obtain⟨N,F,q1,O,s,M,t,Q⟩:m.cell? ⟨w.heap.size,0,none⟩=some (.int .i64 op)/\m.frozen? ⟨w.heap.size,0,none⟩=false/\m.cell? ⟨w.heap.size,1,none⟩=some (.slice a c.length cap)/\m.frozen? ⟨w.heap.size,1,none⟩=false/\m.cell? ⟨(w.heap.size+1),0,none⟩=some (.int .i64 0)/\m.frozen? ⟨(w.heap.size+1),0,none⟩=false/\m.cell? ⟨(w.heap.size+1),1,none⟩=some (.slice none 0 0)/\m.frozen? ⟨(w.heap.size+1),1,none⟩=false:=⟨gcA z,gfA z,gcA z,gfA z,gcA z,gfA z,gcA z,gfA z⟩) | (go_at_call_of 23 (Value.int IntKind.i64 2);refine(Ew g _ _ _ raA omz omz omz).mono ?_;rintro e H ⟨x,rfl,ap,au,R,C⟩;have ru:=Bl (Ahd al d T) C omz;have uh:j<(c.set j d).length:=(by simpa using T);obtain⟨r0,r1,r2,s0,s1,s2⟩:=Aiw (by simpa using ru) uh;have K:w.heap.size<H.heap.size:=A51 ltA C.size;have L:(w.heap.size+1)<H.heap.size:=A51 ltA C.size;obtain⟨N,F,q1,O,s,M,t,Q⟩:H.cell? ⟨w.heap.size,0,none⟩=some (.int .i64 op)/\H.frozen? ⟨w.heap.size,0,none⟩=false/\H.cell? ⟨w.heap.size,1,none⟩=some (.slice a c.length cap)/\H.frozen? ⟨w.heap.size,1,none⟩=false/\H.cell? ⟨(w.heap.size+1),0,none⟩=some (.int .i64 0)/\H.frozen? ⟨(w.heap.size+1),0,none⟩=false/\H.cell? ⟨(w.heap.size+1),1,none⟩=some (.slice none 0 0)/\H.frozen? ⟨(w.heap.size+1),1,none⟩=false:=⟨gcA C,gfA C,gcA C,gfA C,gcA C,gfA C,gcA C,gfA C⟩))
     go_wp2_with ((go_at_call 100;refine(Avm g _ _ raA omz).mono ?_;rintro e J ⟨f,rfl,hf,R,E⟩;have ah:=Bl ru E omz;obtain⟨r0,r1,r2,s0,s1,s2⟩:=Aiw (by simpa using ah) uh;have K:w.heap.size<J.heap.size:=A51 ltA E.size;have L:(w.heap.size+1)<J.heap.size:=A51 ltA E.size;obtain⟨N,F,q1,O,s,M,t,Q⟩:J.cell? ⟨w.heap.size,0,none⟩=some (.int .i64 op)/\J.frozen? ⟨w.heap.size,0,none⟩=false/\J.cell? ⟨w.heap.size,1,none⟩=some (.slice a c.length cap)/\J.frozen? ⟨w.heap.size,1,none⟩=false/\J.cell? ⟨(w.heap.size+1),0,none⟩=some (.int .i64 0)/\J.frozen? ⟨(w.heap.size+1),0,none⟩=false/\J.cell? ⟨(w.heap.size+1),1,none⟩=some (.slice none 0 0)/\J.frozen? ⟨(w.heap.size+1),1,none⟩=false:=⟨gcA E,gfA E,gcA E,gfA E,gcA E,gfA E,gcA E,gfA E⟩))
     ·go_meet
      exact⟨(c.set j d).set j f,spz,Adp (Adp U _ _ hd) _ _ hf,Ahd ah f uh,rlA,glA,ebA,ebA⟩
     ·go_meet
      exact⟨c.set j d,spz,Adp U _ _ hd,ru,rlA,glA,ebA,ebA⟩
   case rest=>
    clear R N q1 s t F O M Q;obtain⟨V,ao,aw,A,R,aj,⟨K,N,q1,F,O⟩,⟨L,s,t,M,Q⟩⟩:=hcut
    go_wp2
    refine bodyPost_ret (by simp[results,results77,go_sem,s,t];rfl) rfl ?_;exact⟨_,_,V,rfl,aa,Apz ao (ownsRow_setCell_below (ownsRow_setCell_below A (A69 _) _) (A69 _) _) omz,aw,omz,rlA,glA⟩
end Go.Proofs.YtnpfcnolmkanfaaGreatDoor
