import Derived.Test.YtobbpffcggchmaaGreatDoorD8
import Derived.Test.YtobbpffcggchmaaGreatDoorGT
import Derived.ProofKit
import Derived.OpenShut
import Derived.OpenVars
import Derived.LaidMore
import Derived.Lay
import Derived.Deep.DeepHandedRow
import Derived.Lib.SmallJoins
import Derived.Test.YtobbpffcggchmaaGreatDoorGJ
import Derived.Test.YtobbpffcggchmaaGreatDoorGY
import Derived.LaidHandle
namespace Go.Proofs.YtobbpffcggchmaaGreatDoor
open Tryz
open Go.RowKit Go.Sort Go.BigFrame
variable {base cap g k n:Nat}{r:Option Nat}{v:Value}{w':World}
theorem P5 {w:World}{P:Nat}(h:Kq w g P)(hg:w.grownBy w' r)(hr:∀k,r=some k->g<k):Kq w' g P:=by
 have C:=Sr h;obtain⟨a,len,cap,p,x,t,f,y,s,m⟩:=h;have d:∀b,b<=g->w'.heap[b]?=w.heap[b]?:=λb d=>hg.block b omz (λe=>by have:=hr b e.symm;omega)
 have c:∀b o,b<=g->w'.cell? ⟨b,o,none⟩=w.cell? ⟨b,o,none⟩:=λb o h=>by unfold World.cell?;rw[d b h]
 refine⟨a,len,cap,p,by rw[c _ _ (A88 _)];exact x,by rw[c _ _ (A88 _)];exact t,by unfold World.frozen? at f ⊢;rw[d g (A88 _)];exact f,y,s,λi hi=>?_⟩;obtain⟨b,q,z,j,u,B,A,l⟩:=m i hi;exact⟨b,q,z,j,u,by rw[c _ _ omz];exact B,A,l⟩
theorem Tn {w a b:World}{s:Option Nat}(h:w.grownBy a r)(k:a.grownBy b s)(d:∀j,s=some j->w.heap.size<=j):w.grownBy b r:=
 ⟨k.os.trans h.os,k.tape.trans h.tape,k.output.trans h.output,A9f h.size k.size,λj c f=>(k.block j (A82 c h.size) (λe=>by have:=d j e.symm;omega)).trans (h.block j c f)⟩
theorem Azr {w:World}{j:List Stil.Dev}(h:w.ownsRow base 34 3 v j.length (Am j))(hg:g<base):Gw w g v j:=by
 have hd:=A7.of_owns h;rcases h.2 with⟨l,B⟩ | ⟨b,cap,cur,d,z,A,t,_⟩
 ·obtain⟨a,c,d,m⟩:=hd
  rw[l] at d;simp only[Value.slice.injEq] at d;obtain⟨rfl,y,rfl⟩:=d;exact⟨none,0,by rw[l,y],⟨omz,λ_=>rfl⟩,λi hi=>absurd hi omz⟩
 ·obtain⟨a,c,s,m⟩:=hd
  have e:=d.symm.trans s;simp only[Value.slice.injEq] at e;obtain⟨rfl,_,rfl⟩:=e;refine⟨_,cap,d,⟨t,λh=>by cases h⟩,λi hi=>?_⟩;obtain⟨q,o,f,u,x⟩:=m i hi;have:q=b:=by simp only[A96,Addr.mk.injEq] at f;exact f.1.symm
  exact⟨q,o,f,omz,u,x⟩
theorem Arb {w:World}{a:List Stil.Dev}(b:a.length=n)(h:w.ownsRow base 34 3 v n (Am a))(hg:g<base):Gw w g v a:=by
 subst b;exact Azr h hg
theorem A5v {w:World}{b o:Nat}{i:List Stil.Dev}(h:Gw w g (.slice (some ⟨b,o,none⟩) n cap) i):∀j u,(Am i)[j]?=some u->w.cell? ((⟨b,o,none⟩:Addr).add j)=some u:=by
 intro j u f;obtain⟨a,c,q,_,t⟩:=h;simp only[Value.slice.injEq] at q;obtain⟨rfl,rfl,rfl⟩:=q;have D:j<i.length*3:=by rw[<-Jy];exact(List.getElem?_eq_some_iff.1 f).1
 obtain⟨E,C,m,_,_,z,B,A⟩:=t (j / 3) omz;simp only[A96,Addr.mk.injEq,Bbx] at m;obtain⟨rfl,rfl⟩:=m;obtain⟨s,y,x⟩:=L6 i (j / 3) omz;rw[Addr.add_lit];have l:j % 3=0\/j % 3=1\/j % 3=2:=omz
 rcases l with l | l | l
 ·have e:j=j / 3*3:=by omega
  have d:o+j=o+j / 3*3:=omz
  rw[d,z,<-s,<-e];exact f
 ·have e:j=j / 3*3+1:=by omega
  have d:o+j=o+j / 3*3+1:=omz
  rw[d,B,<-y,<-e];exact f
 ·have e:j=j / 3*3+2:=by omega
  have d:o+j=o+j / 3*3+2:=omz
  rw[d,A,<-x,<-e];exact f
theorem Ku {w:World}{e:TypeId}{size:Nat}{xs:List Value}(h:w.ownsRow base e size v n xs)(hg:w.grownBy w' (some g))(f:g<base):w'.ownsRow base e size v n xs:=by
 refine⟨h.1,?_⟩;rcases h.2 with d | ⟨k,cap,cur,hv,b,c,a⟩
 ·exact Or.inl d
 ·have:=(h.lt k yDg).2
  exact Or.inr ⟨k,cap,cur,hv,b,by rw[hg.block k this (by intro e;cases e;omega)];exact c,a⟩
theorem Aam:∀(a:List Stil.Dev) (k:Nat) (d:Stil.Dev),k<a.length->(((Am a).set (k*3) (.int .i64 d.kind)).set (k*3+1) (.int .i64 d.n)).set (k*3+2) (.int .i64 d.p)=Am (a.set k d)
 | [],k,d,h=>by simp at h
 | c::r,0,d,_=>rfl
 | c::r,k+1,d,h=>by
  have e:Am (c::r)=.int .i64 c.kind::.int .i64 c.n::.int .i64 c.p::Am r:=rfl;have f:Am ((c::r).set (k+1) d)=.int .i64 c.kind::.int .i64 c.n::.int .i64 c.p::Am (r.set k d):=rfl;have b:(k+1)*3=k*3+1+1+1:=omz
  rw[e,f,b,<-Aam r k d yBc];rfl
theorem Ahx {w:World}{b:Nat}{a:List Stil.Dev}(h:w.ownsRow base 34 3 (.slice (some ⟨b,0,none⟩) n cap) n (Am a))(d:Stil.Dev)(c:k<a.length):
  (((w.setCell ⟨b,k*3,none⟩ (.int .i64 d.kind)).setCell ⟨b,k*3+1,none⟩ (.int .i64 d.n)).setCell ⟨b,k*3+2,none⟩ (.int .i64 d.p)).ownsRow base 34 3 (.slice (some ⟨b,0,none⟩) n cap) n (Am (a.set k d)):=by
 rw[<-Aam a k d c];exact(((h.stored (k*3) _).1.stored (k*3+1) _).1.stored (k*3+2) _).1
theorem Aji {w:World}{b:Nat}{a:List Stil.Dev}(h:w.ownsRow base 34 3 (.slice (some ⟨b,0,none⟩) a.length cap) a.length (Am a))(f:k<a.length):
  w.cell? ⟨b,k*3,none⟩=some (.int .i64 a[k].kind)/\w.cell? ⟨b,k*3+1,none⟩=some (.int .i64 a[k].n)/\w.cell? ⟨b,k*3+2,none⟩=some (.int .i64 a[k].p)/\w.frozen? ⟨b,k*3,none⟩=false/\w.frozen? ⟨b,k*3+1,none⟩=false/\w.frozen? ⟨b,k*3+2,none⟩=false:=by
 obtain⟨g,c,e,_,_,_,d⟩:=Cf h omz;simp only[Value.slice.injEq,A96,Addr.mk.injEq] at e;obtain⟨⟨rfl,_⟩,_⟩:=e;obtain⟨j,l,i⟩:=L6 a k f;exact⟨d _ _ j,d _ _ l,d _ _ i,h.frozenAt _,h.frozenAt _,h.frozenAt _⟩
theorem A7l (w:World)(g:Nat):Gw w g (.slice none 0 0) []:=⟨none,0,rfl,⟨A88 _,λ_=>rfl⟩,λi hi=>by simp at hi⟩
theorem Adx {a:List Stil.Dev}(h:∀d∈a,Small d)(k:Nat)(d:Stil.Dev)(hd:Small d):∀x∈a.set k d,Small x:=λx c=>by
 rcases Bbj c with b | rfl
 ·exact h x b
 ·exact hd
set_option maxHeartbeats 2000000 in
set_option maxRecDepth 100000 in
theorem Akp (g P:Nat)(op:Int)(v:Value)(c:List Stil.Dev)(w:World)(hr:Kq w g P)(hP:P<=1000000000)(Z:-1000000<=op/\op<=1000000)(hv:Gw w g v c)(hs:∀d∈c,Small d)(hl:c.length<=50000):
  Calls prog 44 #[.pointer (some ⟨g,0,none⟩), .agg #[.int .i64 op,v]] w λe w'=>A3s e w w' g (P+20) (c.length+1):=by
 obtain⟨i0,hi,G,I,ah⟩:=info_parts Ai2;have hg:=Sr hr;have HV:Hid (∀W,w.grownBy W (some g)->Gw W g v c):=λW h=>hv.grown h (A88 _)
 have U:Hid (∀d∈c,Small d):=hs;obtain⟨a,cap,rfl,⟨ay,aw⟩,hx⟩:=hv;have HX:Hid (∀i (h:i<c.length),∃b o,a=some ⟨b,o,none⟩/\g<b/\b<w.heap.size/\Io w b (o+i*3) c[i]):=hx;clear hx hs;go_enter func44,ntmps44;go_upto_region 1 with fail
 go_cut [5] (λs5 wc=>∃b K,s5=.slice (some ⟨b,0,none⟩) c.length K/\wc.ownsRow (w.heap.size+2) 34 3 (.slice (some ⟨b,0,none⟩) c.length K) c.length (Am c)/\Kq wc g P/\w.grownBy wc (some g)/\Ye wc w.heap.size op (.slice a c.length cap)/\Ye wc (w.heap.size+1) 0 (.slice none 0 0))
 case first=>
  cases a with
  | none=>
   obtain rfl:c=[]:=by
    cases c with
    | nil=>rfl
    | cons d r=>obtain⟨b,o,h,_⟩:=HX 0 spz;cases h
   obtain rfl:=aw rfl
   go_wp2
   go_meet;have z:=World.ownsRow_lit (base:=w.heap.size+2) (e:=34) (size:=3) ((w.alloc (.cells #[.int .i64 op, .slice none 0 0] 27)).alloc (.cells #[.int .i64 0, .slice none 0 0] 27)) #[] 0 spz yAe rfl;exact⟨w.heap.size+1+1,0,rfl,by simpa[Am] using z,rlA,glA,ebA,ebA⟩
  | some ad=>
   have HN:Hid (∀W,w.grownBy W (some g)->∀j u,(Am c)[j]?=some u->W.cell? (ad.add j)=some u):=by
    intro W hW j u T;by_cases hd:c=[]
    ·subst hd;simp[Am] at T
    ·obtain⟨b,o,h,_⟩:=HX 0 (by cases c with | nil=>exact absurd rfl hd | cons d r=>simp)
     cases h;exact A5v (HV W hW) j u T
   have z:=World.ownsRow_lit (base:=w.heap.size+2) (e:=34) (size:=3) ((w.alloc (.cells #[.int .i64 op, .slice (some ad) c.length cap] 27)).alloc (.cells #[.int .i64 0, .slice none 0 0] 27)) #[] 0 spz yAe rfl;have ar:((((w.alloc (.cells #[.int .i64 op, .slice (some ad) c.length cap] 27)).alloc (.cells #[.int .i64 0, .slice none 0 0] 27)).alloc (.cells #[] 34))).ownsRow (w.heap.size+2) 34 3 (.slice (some ⟨w.heap.size+1+1,0,none⟩) 0 0) 0 []:=by simpa using z
   clear z
   go_wp2_with (at_builtin;refine wpList_append_own _ rfl _ _ 25 rfl (w.heap.size+2) 34 i0 (.agg #[.int .i64 0, .int .i64 0, .int .i64 0]) 3 24 underlying25 hi G I ah rfl dcz _ _ _ rfl ar ad c.length cap (Am c) rfl (Jy _) (HN _ glA) (Vp _) yAe omz spz ?_)
   intro v' w3 ak ai ab;have Y:((((w.alloc (.cells #[.int .i64 op, .slice (some ad) c.length cap] 27)).alloc (.cells #[.int .i64 0, .slice none 0 0] 27)).alloc (.cells #[] 34))).grownBy w3 (some (w.heap.size+1+1)):=ai;obtain⟨b,K,rfl⟩:∃b K,v'=.slice (some ⟨b,0,none⟩) c.length K:=by
    rcases ak.2 with⟨h0,h1⟩ | ⟨b,K,cur,h0,_⟩
    ·exact absurd h0 ab
    ·exact⟨b,K,h0⟩
   clear ai ab
   go_wp2
   go_meet;refine⟨b,K,rfl,ak,P5 (E8 (E8 (E8 hr _) _) _) Y yDb,Tn (X5 (X5 (X5 (Abi _ _) _) _) _) Y yDb,Ye.grown ?_ Y omz,Ye.grown ?_ Y omz⟩
   ·exact ebA
   ·exact ebA
 case rest=>
  obtain⟨b,K,rfl,X,R,ae,⟨aj,Q,q1,L,F⟩,⟨av,s,t,J,N⟩⟩:=hcut;clear HV HX;have ap:w.heap.size+2<=b/\b<wc.heap.size:=X.lt b rfl;obtain⟨aA,aE⟩:=ap;go_upto_if 37 with(first | (go_at_call_of 13 (Value.int IntKind.i64 6);refine(Gm g _ _ _ raA omz omz omz).mono ?_;rintro e w3 ⟨x,rfl,ao,al,R,y⟩;have G:w.heap.size<w3.heap.size:=A82 ltA y.size;have I:(w.heap.size+1)<w3.heap.size:=A82 ltA y.size;obtain⟨Q,L,q1,F,s,J,t,N⟩:w3.cell? ⟨w.heap.size,0,none⟩=some (.int .i64 op)/\w3.frozen? ⟨w.heap.size,0,none⟩=false/\w3.cell? ⟨w.heap.size,1,none⟩=some (.slice a c.length cap)/\w3.frozen? ⟨w.heap.size,1,none⟩=false/\w3.cell? ⟨(w.heap.size+1),0,none⟩=some (.int .i64 0)/\w3.frozen? ⟨(w.heap.size+1),0,none⟩=false/\w3.cell? ⟨(w.heap.size+1),1,none⟩=some (.slice none 0 0)/\w3.frozen? ⟨(w.heap.size+1),1,none⟩=false:=⟨gcA y,gfA y,gcA y,gfA y,gcA y,gfA y,gcA y,gfA y⟩) | (go_at_call_of 17 (10:Nat);refine(Aa7 g _ _ _ [-1,0,1,5,11,20,21,26,37,38] _ raA omz (Di (by simp[F6,go_sem])) spz yAh spz spz).mono ?_;rintro e O ⟨aa,rfl,S,R,D⟩;simp only[A9o,A99,Bax] at S;have G:w.heap.size<O.heap.size:=A82 ltA D.size;have I:(w.heap.size+1)<O.heap.size:=A82 ltA D.size;obtain⟨Q,L,q1,F,s,J,t,N⟩:O.cell? ⟨w.heap.size,0,none⟩=some (.int .i64 op)/\O.frozen? ⟨w.heap.size,0,none⟩=false/\O.cell? ⟨w.heap.size,1,none⟩=some (.slice a c.length cap)/\O.frozen? ⟨w.heap.size,1,none⟩=false/\O.cell? ⟨(w.heap.size+1),0,none⟩=some (.int .i64 0)/\O.frozen? ⟨(w.heap.size+1),0,none⟩=false/\O.cell? ⟨(w.heap.size+1),1,none⟩=some (.slice none 0 0)/\O.frozen? ⟨(w.heap.size+1),1,none⟩=false:=⟨gcA D,gfA D,gcA D,gfA D,gcA D,gfA D,gcA D,gfA D⟩))
  ·have z:=Ku ((Ku X y omz).alloc _) D omz
   refine bodyPost_ret (by simp[results,results44,go_sem,s,t];rfl) rfl ?_;exact⟨_,_,c,rfl,omz,Azr (ownsRow_setCell_below (ownsRow_setCell_below z (Baa _) _) (Baa _) _) omz,U.out,omz,rlA,glA⟩
  ·have z:=Ku X y omz
   go_region_law (first | (refine Adw rfl _ _ 25 rfl (w.heap.size+2) 34 i0 (.agg #[.int .i64 0, .int .i64 0, .int .i64 0]) 3 24 underlying25 hi aqz aqz ah rfl dcz _ _ _ rfl ((Ku z ⟨l.os,l.tape,l.output,l.size,l.block⟩ omz).alloc _) _ _ _ (Vq d) rfl rfl (Qo _ (Vq d) _ _ spz) (by intro u hu;simp[Vq] at hu;rcases hu with rfl | rfl | rfl<;>rfl) yAe omz (by rw[World.size_alloc];omega) ?_;intro v' m af A;obtain⟨b6,au,rfl,aB,aC,_,_⟩:=Cf af omz;have B:(q.alloc (.cells #[.int .i64 d.kind, .int .i64 d.n, .int .i64 d.p] 34)).grownBy m (some b):=A;have G:w.heap.size<m.heap.size:=A82 ltA B.size;have I:(w.heap.size+1)<m.heap.size:=A82 ltA B.size;obtain⟨Q,L,q1,F,s,J,t,N⟩:m.cell? ⟨w.heap.size,0,none⟩=some (.int .i64 op)/\m.frozen? ⟨w.heap.size,0,none⟩=false/\m.cell? ⟨w.heap.size,1,none⟩=some (.slice a c.length cap)/\m.frozen? ⟨w.heap.size,1,none⟩=false/\m.cell? ⟨(w.heap.size+1),0,none⟩=some (.int .i64 0)/\m.frozen? ⟨(w.heap.size+1),0,none⟩=false/\m.cell? ⟨(w.heap.size+1),1,none⟩=some (.slice none 0 0)/\m.frozen? ⟨(w.heap.size+1),1,none⟩=false:=⟨gcA B,gfA B,gcA B,gfA B,gcA B,gfA B,gcA B,gfA B⟩) | (go_simp;go_at_call 70;refine(Aww g _ _ raA omz).mono ?_;rintro e q ⟨d,rfl,hd,R,l⟩;have aF:w3.heap.size<=q.heap.size:=l.size;have G:w.heap.size<q.heap.size:=A82 ltA l.size;have I:(w.heap.size+1)<q.heap.size:=A82 ltA l.size;obtain⟨Q,L,q1,F,s,J,t,N⟩:q.cell? ⟨w.heap.size,0,none⟩=some (.int .i64 op)/\q.frozen? ⟨w.heap.size,0,none⟩=false/\q.cell? ⟨w.heap.size,1,none⟩=some (.slice a c.length cap)/\q.frozen? ⟨w.heap.size,1,none⟩=false/\q.cell? ⟨(w.heap.size+1),0,none⟩=some (.int .i64 0)/\q.frozen? ⟨(w.heap.size+1),0,none⟩=false/\q.cell? ⟨(w.heap.size+1),1,none⟩=some (.slice none 0 0)/\q.frozen? ⟨(w.heap.size+1),1,none⟩=false:=⟨gcA l,gfA l,gcA l,gfA l,gcA l,gfA l,gcA l,gfA l⟩))
   all_goals go_wp2
   all_goals
    have cZ:=P5 (E8 R _) B yDb;have aD:w.grownBy m (some g):=Tn (X5 (Abj (Abj ae y) ⟨l.os,l.tape,l.output,l.size,l.block⟩) _) B yDb;have vS:m.ownsRow (w.heap.size+2) 34 3 (.slice (some ⟨b6,0,none⟩) (c.length+1) au) (c.length+1) (Am (c++[d])):=by rw[Agm];exact af
    refine bodyPost_ret (by simp[results,results44,go_sem,s,t];rfl) rfl ?_;refine⟨_,_,c++[d],rfl,Z,Arb (n:=c.length+1) spz (ownsRow_setCell_below (ownsRow_setCell_below vS (Baa _) _) (Baa _) _) omz,?_,spz,rlA,glA⟩;intro aa S;rcases List.mem_append.1 S with S | S
    ·exact U aa S
    ·simp at S;subst S;exact hd
  ·refine bodyPost_ret (by simp[results,results44,go_sem,s,t];rfl) rfl ?_
   exact⟨_,_,[],rfl,Z,A7l _ _,spz,spz,rlA,glA⟩
  ·have z:=Ku X y omz
   have e0:(x==0)=false:=aqz
   have e1:(x==1)=false:=aqz
   have e2:(x==2)=false:=aqz
   rw[e0,e1,e2];go_cut [6] (λ_ wc=>∃V:List Stil.Dev,V.length=c.length/\(∀d∈V,Small d)/\wc.ownsRow (w.heap.size+2) 34 3 (.slice (some ⟨b,0,none⟩) c.length K) c.length (Am V)/\Kq wc g (P+19)/\w.grownBy wc (some g)/\Ye wc w.heap.size op (.slice a c.length cap)/\Ye wc (w.heap.size+1) 0 (.slice none 0 0))
   case first=>
    by_cases az:c.length=0
    ·go_wp2
     go_meet;exact⟨c,rfl,U.out,z,rlA,glA,ebA,ebA⟩
    ·go_upto_if 53 with(first | (go_at_call_of 13 (c.length:Nat);refine(Gm g _ _ _ raA omz omz omz).mono ?_;rintro e q ⟨aa,rfl,aj,av,R,l⟩;have G:w.heap.size<q.heap.size:=A82 ltA l.size;have I:(w.heap.size+1)<q.heap.size:=A82 ltA l.size;obtain⟨Q,L,q1,F,s,J,t,N⟩:q.cell? ⟨w.heap.size,0,none⟩=some (.int .i64 op)/\q.frozen? ⟨w.heap.size,0,none⟩=false/\q.cell? ⟨w.heap.size,1,none⟩=some (.slice a c.length cap)/\q.frozen? ⟨w.heap.size,1,none⟩=false/\q.cell? ⟨(w.heap.size+1),0,none⟩=some (.int .i64 0)/\q.frozen? ⟨(w.heap.size+1),0,none⟩=false/\q.cell? ⟨(w.heap.size+1),1,none⟩=some (.slice none 0 0)/\q.frozen? ⟨(w.heap.size+1),1,none⟩=false:=⟨gcA l,gfA l,gcA l,gfA l,gcA l,gfA l,gcA l,gfA l⟩;obtain⟨j,rfl⟩:=Baj aj;have T:j<c.length:=omz;have ac:=Ku z l omz;obtain⟨r0,r1,r2,s0,s1,s2⟩:=Aji ac T) | (go_at_call 71;refine(Ag1 g _ c[j] _ raA omz (U _ (A9a T))).mono ?_;rintro e m ⟨d,rfl,hd,R,A⟩;have vW:=Ku ac A omz;obtain⟨r0,r1,r2,s0,s1,s2⟩:=Aji vW T;have G:w.heap.size<m.heap.size:=A82 ltA A.size;have I:(w.heap.size+1)<m.heap.size:=A82 ltA A.size;obtain⟨Q,L,q1,F,s,J,t,N⟩:m.cell? ⟨w.heap.size,0,none⟩=some (.int .i64 op)/\m.frozen? ⟨w.heap.size,0,none⟩=false/\m.cell? ⟨w.heap.size,1,none⟩=some (.slice a c.length cap)/\m.frozen? ⟨w.heap.size,1,none⟩=false/\m.cell? ⟨(w.heap.size+1),0,none⟩=some (.int .i64 0)/\m.frozen? ⟨(w.heap.size+1),0,none⟩=false/\m.cell? ⟨(w.heap.size+1),1,none⟩=some (.slice none 0 0)/\m.frozen? ⟨(w.heap.size+1),1,none⟩=false:=⟨gcA A,gfA A,gcA A,gfA A,gcA A,gfA A,gcA A,gfA A⟩) | (go_at_call_of 13 (Value.int IntKind.i64 2);refine(Gm g _ _ _ raA omz omz omz).mono ?_;rintro e M ⟨x,rfl,ao,al,R,C⟩;have je:=Ku (Ahx vW d T) C omz;have jr:j<(c.set j d).length:=(by simpa using T);obtain⟨r0,r1,r2,s0,s1,s2⟩:=Aji (by simpa using je) jr;have G:w.heap.size<M.heap.size:=A82 ltA C.size;have I:(w.heap.size+1)<M.heap.size:=A82 ltA C.size;obtain⟨Q,L,q1,F,s,J,t,N⟩:M.cell? ⟨w.heap.size,0,none⟩=some (.int .i64 op)/\M.frozen? ⟨w.heap.size,0,none⟩=false/\M.cell? ⟨w.heap.size,1,none⟩=some (.slice a c.length cap)/\M.frozen? ⟨w.heap.size,1,none⟩=false/\M.cell? ⟨(w.heap.size+1),0,none⟩=some (.int .i64 0)/\M.frozen? ⟨(w.heap.size+1),0,none⟩=false/\M.cell? ⟨(w.heap.size+1),1,none⟩=some (.slice none 0 0)/\M.frozen? ⟨(w.heap.size+1),1,none⟩=false:=⟨gcA C,gfA C,gcA C,gfA C,gcA C,gfA C,gcA C,gfA C⟩))
     go_wp2_with ((go_at_call 70;refine(Aww g _ _ raA omz).mono ?_;rintro e H ⟨f,rfl,hf,R,E⟩;have ag:=Ku je E omz;obtain⟨r0,r1,r2,s0,s1,s2⟩:=Aji (by simpa using ag) jr;have G:w.heap.size<H.heap.size:=A82 ltA E.size;have I:(w.heap.size+1)<H.heap.size:=A82 ltA E.size;obtain⟨Q,L,q1,F,s,J,t,N⟩:H.cell? ⟨w.heap.size,0,none⟩=some (.int .i64 op)/\H.frozen? ⟨w.heap.size,0,none⟩=false/\H.cell? ⟨w.heap.size,1,none⟩=some (.slice a c.length cap)/\H.frozen? ⟨w.heap.size,1,none⟩=false/\H.cell? ⟨(w.heap.size+1),0,none⟩=some (.int .i64 0)/\H.frozen? ⟨(w.heap.size+1),0,none⟩=false/\H.cell? ⟨(w.heap.size+1),1,none⟩=some (.slice none 0 0)/\H.frozen? ⟨(w.heap.size+1),1,none⟩=false:=⟨gcA E,gfA E,gcA E,gfA E,gcA E,gfA E,gcA E,gfA E⟩))
     ·go_meet
      exact⟨(c.set j d).set j f,spz,Adx (Adx U _ _ hd) _ _ hf,Ahx ag f jr,rlA,glA,ebA,ebA⟩
     ·go_meet
      exact⟨c.set j d,spz,Adx U _ _ hd,je,rlA,glA,ebA,ebA⟩
   case rest=>
    clear R Q q1 s t L F J N;obtain⟨V,ax,an,z,R,ae,⟨G,Q,q1,L,F⟩,⟨I,s,t,J,N⟩⟩:=hcut
    go_wp2
    refine bodyPost_ret (by simp[results,results44,go_sem,s,t];rfl) rfl ?_;exact⟨_,_,V,rfl,Z,Arb ax (ownsRow_setCell_below (ownsRow_setCell_below z (Baa _) _) (Baa _) _) omz,an,omz,rlA,glA⟩
end Go.Proofs.YtobbpffcggchmaaGreatDoor
set_option maxHeartbeats 4000000
set_option maxRecDepth 100000
namespace Go.Proofs.YtobbpffcggchmaaGreatDoor
open Tryz
open Go.RowKit Go.Sort Go.BigFrame
variable {W:World}{fuel:Nat}{v:Value}
def BytesAt (w:World)(v:Value):Prop:=∃(a:Option Addr) (len cap:Nat),v=.slice a len cap/\len<=cap/\cap<=9223372036854775807/\∀i,i<len->∃b o z,a=some ⟨b,o,none⟩/\b<w.heap.size/\w.cell? ⟨b,o+i,none⟩=some (.int .u8 z)/\0<=z/\z<256
theorem A1a (v:Value)(w:World)(s:BytesAt w v):
  Calls prog 12 #[v] w λe w'=>e=.returned (.pointer (some ⟨w.heap.size,0,none⟩))/\Kq w' w.heap.size 0/\Below w.heap.size w w':=by
 obtain⟨a,len,cap,rfl,A,x,f⟩:=s;have d:Hid (∀i,i<len->∃b o z,a=some ⟨b,o,none⟩/\b<w.heap.size/\w.cell? ⟨b,o+i,none⟩=some (.int .u8 z)/\0<=z/\z<256):=f;clear f;have done:∀n c:Nat,n<=len->n<=2000->Kq (w.alloc (.cells #[.slice a n c, .int .i64 0] 78)) w.heap.size 0:=by
  intro n c B q;refine⟨a,n,c,0,by simp[go_sem],by simp[go_sem],by simp[go_sem],A88 _,q,λi hi=>?_⟩;obtain⟨b,o,z,u,j,t,l,m⟩:=d i omz;exact⟨b,o,z,u,j,by rw[(Aa w _).cell (p:=⟨b,o+i,none⟩) j];exact t,l,m⟩
 by_cases y:2000<len
 ·cases a with
  | none=>obtain⟨b,o,z,h,_⟩:=d 0 omz;cases h
  | some ad=>
   go_enter func12,ntmps12
   go_wp2
   go_ret;exact⟨rfl,done _ _ omz omz,Aa _ _⟩
 ·go_enter func12,ntmps12
  go_wp2
  go_ret;exact⟨rfl,done _ _ omz omz,Aa _ _⟩
theorem A4x (g P:Nat)(w:World)(hr:Kq w g P)(hP:P<=100000000):
  Calls prog 45 #[.pointer (some ⟨g,0,none⟩)] w λe w'=>A3s e w w' g (P+100) 4:=by
 have hg:=Sr hr;go_enter func45,ntmps45;go_upto_if 8 with(first | (go_at_call_of 13 (Value.int IntKind.i64 2);refine(Gm g _ _ _ raA omz omz omz).mono ?_;rintro e m ⟨x,rfl,ac,Z,C,i⟩;have E:w.heap.size<m.heap.size:=A82 ltA i.size;have Q:c.heap.size<m.heap.size:=A82 ltA i.size;obtain⟨u,y,q1,z,I,M,K,J⟩:m.cell? ⟨w.heap.size,0,none⟩=some (.int .i64 0)/\m.frozen? ⟨w.heap.size,0,none⟩=false/\m.cell? ⟨w.heap.size,1,none⟩=some (.slice none 0 0)/\m.frozen? ⟨w.heap.size,1,none⟩=false/\m.cell? ⟨c.heap.size,0,none⟩=some (.int .i64 op)/\m.frozen? ⟨c.heap.size,0,none⟩=false/\m.cell? ⟨c.heap.size,1,none⟩=some (.slice aa R.length S)/\m.frozen? ⟨c.heap.size,1,none⟩=false:=⟨gcA i,gfA i,gcA i,gfA i,gcA i,gfA i,gcA i,gfA i⟩) | (go_at_call 37;refine(Aqg g _ _ raA omz).mono ?_;rintro e c ⟨op,v,R,rfl,ae,X,hs,hl,C,H⟩;have D:=X;obtain⟨aa,S,rfl,_,_⟩:=D;have E:w.heap.size<c.heap.size:=A82 ltA H.size;obtain⟨u,y,q1,z⟩:c.cell? ⟨w.heap.size,0,none⟩=some (.int .i64 0)/\c.frozen? ⟨w.heap.size,0,none⟩=false/\c.cell? ⟨w.heap.size,1,none⟩=some (.slice none 0 0)/\c.frozen? ⟨w.heap.size,1,none⟩=false:=⟨gcA H,gfA H,gcA H,gfA H⟩))
 go_cut [] (λwc=>∃(t:Int) (B:Option Addr) (A:Nat) (j:List Stil.Dev),(-1000000<=t/\t<=1000000)/\Gw wc w.heap.size (.slice B j.length A) j/\(∀d∈j,Small d)/\j.length<=3/\Kq wc g (P+62)/\w.grownBy wc (some g)/\Ye wc w.heap.size 0 (.slice none 0 0)/\Ye wc c.heap.size t (.slice B j.length A))
 case first=>
  go_wp2_with ((go_at_call 18;refine(Ro g _ _ raA omz).mono ?_;rintro e q ⟨t,v2,j,rfl,O,L,N,U,C,l⟩;have D:=L;obtain⟨B,A,rfl,_,_⟩:=D;have E:w.heap.size<q.heap.size:=A82 ltA l.size;have Q:c.heap.size<q.heap.size:=A82 ltA l.size;obtain⟨u,y,q1,z,I,M,K,J⟩:q.cell? ⟨w.heap.size,0,none⟩=some (.int .i64 0)/\q.frozen? ⟨w.heap.size,0,none⟩=false/\q.cell? ⟨w.heap.size,1,none⟩=some (.slice none 0 0)/\q.frozen? ⟨w.heap.size,1,none⟩=false/\q.cell? ⟨c.heap.size,0,none⟩=some (.int .i64 op)/\q.frozen? ⟨c.heap.size,0,none⟩=false/\q.cell? ⟨c.heap.size,1,none⟩=some (.slice aa R.length S)/\q.frozen? ⟨c.heap.size,1,none⟩=false:=⟨gcA l,gfA l,gcA l,gfA l,gcA l,gfA l,gcA l,gfA l⟩))
  ·go_meet
   exact⟨t,B,A,j,O,(Gw.set omz (Gw.set omz L)).mono omz,N,U,rlA,glA,ebA,ebA⟩
  ·go_meet
   exact⟨op,aa,S,R,ae,((X.mono spz).alloc _).grown i omz,hs,hl,rlA,glA,ebA,ebA⟩
 case rest=>
  clear u q1 y z I K M J C;obtain⟨t,B,A,j,O,L,N,U,C,ag,⟨E,u,q1,y,z⟩,⟨Q,I,K,M,J⟩⟩:=hcut
  go_wp2_with (first | (go_at_call_of 13 (Value.int IntKind.i64 16);refine(Gm g _ _ _ raA omz omz omz).mono ?_;rintro e s ⟨x,rfl,ac,Z,C,f⟩;have T:=L.grown f omz;have E:w.heap.size<s.heap.size:=A82 ltA f.size;have Q:c.heap.size<s.heap.size:=A82 ltA f.size;obtain⟨u,y,q1,z,I,M,K,J⟩:s.cell? ⟨w.heap.size,0,none⟩=some (.int .i64 0)/\s.frozen? ⟨w.heap.size,0,none⟩=false/\s.cell? ⟨w.heap.size,1,none⟩=some (.slice none 0 0)/\s.frozen? ⟨w.heap.size,1,none⟩=false/\s.cell? ⟨c.heap.size,0,none⟩=some (.int .i64 t)/\s.frozen? ⟨c.heap.size,0,none⟩=false/\s.cell? ⟨c.heap.size,1,none⟩=some (.slice B j.length A)/\s.frozen? ⟨c.heap.size,1,none⟩=false:=⟨gcA f,gfA f,gcA f,gfA f,gcA f,gfA f,gcA f,gfA f⟩) | (go_at_call 44;refine(Akp g _ t _ j _ raA omz O (T.mono omz) N omz).mono ?_;rintro e G ⟨af,v3,ab,rfl,jb,V,Y,ah,C,F⟩;have D:=V;obtain⟨a3,c3,rfl,_,_⟩:=D;have E:w.heap.size<G.heap.size:=A82 ltA F.size;obtain⟨u,y,q1,z⟩:G.cell? ⟨w.heap.size,0,none⟩=some (.int .i64 0)/\G.frozen? ⟨w.heap.size,0,none⟩=false/\G.cell? ⟨w.heap.size,1,none⟩=some (.slice none 0 0)/\G.frozen? ⟨w.heap.size,1,none⟩=false:=⟨gcA F,gfA F,gcA F,gfA F⟩))
  ·refine bodyPost_ret (by simp[results,results45,go_sem,u,q1];rfl) rfl ?_
   exact⟨_,_,ab,rfl,jb,(Gw.set omz (Gw.set omz V)).mono omz,Y,omz,rlA,glA⟩
  ·refine bodyPost_ret (by simp[results,results45,go_sem,u,q1];rfl) rfl ?_
   exact⟨_,_,j,rfl,O,(Gw.set omz (Gw.set omz T)).mono omz,N,omz,rlA,glA⟩
open Go.ChangeShapes Go.WideShapes Go.ChangeAt
theorem A81:prog.cellsOf 3=1:=krz
theorem lt_of_cell {b o:Nat}(h:W.cell? ⟨b,o,none⟩=some v):b<W.heap.size:=by
 unfold World.cell? at h;cases a:W.heap[b]? with
 | none=>simp[a] at h
 | some x=>exact(Array.getElem?_eq_some_iff.1 a).1
open Stil
theorem Aon {P:Program}:∀{l:List (String × DataW Unit)} {c:List MemPlace},DataW.LaidVars P W l c->∀{n:String} {d:DataW Unit},(n,d)∈l->
  ∃g t a fuel p,P.globalNamed n=some g/\(P.globals[g]?).map (·.type)=some t/\W.var? P n=some a/\DataW.trod (λ_=>()) P W 0 (λ_=>true) false fuel t a.toList=some (d,p)
 | [],_,_,_,_,b=>absurd b spz
 | (u,w)::r,c,⟨g,t,a,fuel,p,q,o,j,s,f,m,_⟩,n,d,b=>by
  rcases List.mem_cons.1 b with e | i
  ·obtain⟨rfl,rfl⟩:=Bbs e
   exact⟨g,t,a,fuel,p,o,j,s,f⟩
  ·exact Aon m i
def Aqh (k:Nat):DataW Unit:=.agg [.lit (.string (Ql k).data.toList), .lit (.int .i64 (Ie k)), .lit (.bool (Yh k)), .lit (.bool (Py k)), .lit (.bool (Tv k))]
theorem A7i:prog.globalNamed "loop.example/stilway/impl.devRows" =some 2:=krz
theorem Azl:(prog.globals[2]?).map (·.type)=some 192:=krz
theorem A80:prog.cellsOf 186=5:=krz
theorem A6i:prog.cellsOf 4=1:=krz
theorem A0h:prog.cellsOf 9=1:=krz
theorem Arv {s:ByteArray}{b:ByteArray}(h:s.data.toList=b.data.toList):s=b:=by
 cases s;cases b;simp at h;rw[h]
theorem An2 {cs:Array Value}{p:List MemPlace}(hv:W.var? prog "loop.example/stilway/impl.devRows" =some cs)
  (hd:DataW.trod (λ_=>()) prog W 0 (λ_=>true) false fuel 192 cs.toList=some (.agg ((List.range 14).map Aqh),p)):Ei W:=by
 have aa:=λj=>World.var?_cell A7i hv j
 obtain⟨s,m,_,H,ab,hl,K⟩:=DataW.trod_array underlying192 hd;have N:=DataW.agg.inj (Bbs H).1;have x:∀k:Nat,k<14->W.cell? ⟨2,k*5,none⟩=some (.string (Ql k))/\W.cell? ⟨2,k*5+1,none⟩=some (.int .i64 (Ie k))/\W.cell? ⟨2,k*5+2,none⟩=some (.bool (Yh k))/\W.cell? ⟨2,k*5+3,none⟩=some (.bool (Py k))/\W.cell? ⟨2,k*5+4,none⟩=some (.bool (Tv k)):=by
  intro k B;have w:k<s.length:=omz
  have A:=K k B;rw[A80,A9k w] at A;have Z:s[k].1=Aqh k:=by
   have:=congrArg (λl=>l[k]?) N
   simp only[Bbm,A9k w,Bbt] at this;rw[A9k (by simpa using B)] at this;simpa using(A98 this).symm
  obtain⟨o,n,_,ey,ac,I,d⟩:=DataW.trod_struct underlying186 A;have D:o.map (·.1)=[.lit (.string (Ql k).data.toList), .lit (.int .i64 (Ie k)), .lit (.bool (Yh k)), .lit (.bool (Py k)), .lit (.bool (Tv k))]:=by
   have C:=congrArg Prod.fst ey;rw[Z,Aqh] at C;exact(DataW.agg.inj C).symm
  obtain⟨a,c,b,e,f,rfl⟩:∃a c b e f,o=[a,c,b,e,f]:=by
   match o,I with
   | [a,c,b,e,f],_=>exact⟨_,_,_,_,_,rfl⟩
  simp only[A9l,A97,List.cons.injEq,Bbx] at D;obtain⟨u,y,z,q,t⟩:=D;have M:DataW.trod (λ_=>()) prog W 0 (λ_=>true) false n 9 (List.take 1 (List.drop 0 (List.take 5 (List.drop (k*5) cs.toList))))=some a:=by
   have h:DataW.trod (λ_=>()) prog W 0 (λ_=>true) false n 9 (List.take (prog.cellsOf 9) (List.drop 0 (List.take 5 (List.drop (k*5) cs.toList))))=some a:=d 0 _ rfl;rw[A0h] at h;exact h
  have L:DataW.trod (λ_=>()) prog W 0 (λ_=>true) false n 3 (List.take 1 (List.drop 1 (List.take 5 (List.drop (k*5) cs.toList))))=some c:=by
   have h:DataW.trod (λ_=>()) prog W 0 (λ_=>true) false n 3 (List.take (prog.cellsOf 3) (List.drop 1 (List.take 5 (List.drop (k*5) cs.toList))))=some c:=d 1 _ rfl;rw[A81] at h;exact h
  have S:DataW.trod (λ_=>()) prog W 0 (λ_=>true) false n 4 (List.take 1 (List.drop 2 (List.take 5 (List.drop (k*5) cs.toList))))=some b:=by
   have h:DataW.trod (λ_=>()) prog W 0 (λ_=>true) false n 4 (List.take (prog.cellsOf 4) (List.drop 2 (List.take 5 (List.drop (k*5) cs.toList))))=some b:=d 2 _ rfl;rw[A6i] at h;exact h
  have X:DataW.trod (λ_=>()) prog W 0 (λ_=>true) false n 4 (List.take 1 (List.drop 3 (List.take 5 (List.drop (k*5) cs.toList))))=some e:=by
   have h:DataW.trod (λ_=>()) prog W 0 (λ_=>true) false n 4 (List.take (prog.cellsOf 4) (List.drop 3 (List.take 5 (List.drop (k*5) cs.toList))))=some e:=d 3 _ rfl;rw[A6i] at h;exact h
  have G:DataW.trod (λ_=>()) prog W 0 (λ_=>true) false n 4 (List.take 1 (List.drop 4 (List.take 5 (List.drop (k*5) cs.toList))))=some f:=by
   have h:DataW.trod (λ_=>()) prog W 0 (λ_=>true) false n 4 (List.take (prog.cellsOf 4) (List.drop 4 (List.take 5 (List.drop (k*5) cs.toList))))=some f:=d 4 _ rfl;rw[A6i] at h;exact h
  obtain⟨s0,P,b0,_⟩:=DataW.trod_string underlying9 M;obtain⟨s1,J,F,_⟩:=DataW.trod_int underlying3 L;obtain⟨s2,T,R⟩:=DataW.trod_bool underlying4 S;obtain⟨s3,Q,E⟩:=DataW.trod_bool underlying4 X;obtain⟨s4,O,Y⟩:=DataW.trod_bool underlying4 G;subst b0 F R E Y;simp only[DataW.lit.injEq,Lit.string.injEq,Lit.int.injEq,Lit.bool.injEq,true_and] at u y z q t;have V:=Arv u;subst V y z q t;have i:∀(j:Nat) (v:Value),j<5->List.take 1 (List.drop j (List.take 5 (List.drop (k*5) cs.toList)))=[v]->W.cell? ⟨2,k*5+j,none⟩=some v:=by
   intro j v U h;rw[aa];have:=congrArg (λl=>l[0]?) h
   simpa[Ba4,Ba5,U] using this
  exact⟨i 0 _ omz P,i 1 _ omz J,i 2 _ omz T,i 3 _ omz Q,i 4 _ omz O⟩
 refine⟨?_,x⟩;have:=(x 0 omz).1
 exact lt_of_cell this
theorem Aks {l:List (String × DataW Unit)}(h:laidMet prog l W)(d:("loop.example/stilway/impl.devRows",DataW.agg ((List.range 14).map Aqh))∈l):Ei W:=by
 obtain⟨i,b,_,_⟩:=h;obtain⟨g,t,j,fuel,p,c,f,e,a⟩:=Aon b d;obtain rfl:=A98 (A7i.symm.trans c);obtain rfl:=A98 (Azl.symm.trans f);exact An2 e a
theorem cU8:prog.cellsOf 5=1:=krz
theorem wf_u8 {n:Int}(h:(Lit.int .u8 n).wf=true):0<=n/\n<256:=by
 have:=h
 simp[Lit.wf,IntKind.min,IntKind.max,IntKind.signed,IntKind.bits] at this;omega
theorem Aj4 {H:Type}{enc:TypeId × Value->H}{x:DataW H × List MemPlace}(h:DataW.trod enc prog W 0 (λ_=>true) true fuel 22 [v]=some x):BytesAt W v:=by
 rcases Deep.open_slice underlying22 h with⟨f,_⟩ | ⟨a,len,cap,m,n,D,Pl,f,_,t,j,B,_,s⟩
 ·obtain rfl:v=.slice none 0 0:=by simpa using f
  exact⟨none,0,0,rfl,A88 _,omz,λi h=>absurd h spz⟩
 ·obtain rfl:v=.slice (some a) len cap:=by simpa using f
  have C:len<=m:=by rw[B];split<;>omega
  have each:∀i,i<len->∃z:Int,W.cell? (a.add (i*1))=some (.int .u8 z)/\0<=z/\z<256:=by
   intro i hi;obtain⟨F,d,u⟩:=s i omz;rw[cU8] at d;obtain⟨_,E,A⟩:=World.cells?_some d;obtain⟨z,c,_,w⟩:=DataW.trod_int underlying5 u;have e:=A 0 omz;rw[Addr.add_add] at e;rw[c] at e;refine⟨z,by simpa using e,wf_u8 w⟩
  obtain⟨b,o,sp⟩:=a;refine⟨_,len,cap,rfl,t,A9f j dcz,λi hi=>?_⟩;obtain⟨z,c,d⟩:=each i hi;have l:sp=none:=by
   obtain⟨y,q,_⟩:=each 0 omz;simpa[Addr.add] using World.cell?_spot q
  subst l;rw[Addr.add_lit,Nat.mul_one] at c;exact⟨b,o,z,rfl,lt_of_cell c,c,d⟩
theorem etG:prog.globalNamed "errors.errorType" =some 0:=krz
theorem A8z:(prog.cutTypes.find? (·.1== "internal/reflectlite.rtype")).map (·.2)=some 124:=krz
theorem A8n:((List.range prog.types.size).filter λt=>prog.rowNamed t [101,114,114,111,114])=[57]:=krz
theorem Ao7 (h:handlesMet prog [("errors.errorType",DataW.iface "internal/reflectlite.rtype" (.agg [.ptr (.lit (.string [101,114,114,111,114]))]))] W):Em W:=by
 obtain⟨name,u,f,m,j,i,c,a⟩:=h _ (List.mem_singleton.2 rfl);have d:=(A98 m).symm;subst d;obtain rfl:=A98 (A8z.symm.trans j);have b:f∈(List.range prog.types.size).filter λt=>prog.rowNamed t [101,114,114,111,114]:=List.mem_filter.2 ⟨List.mem_range.2 i,c⟩
 rw[A8n] at b;obtain rfl:=List.mem_singleton.1 b;have e:typeHandle prog 57=.pointer (some ⟨4,57,none⟩):=krz
 rw[e] at a;have l:=World.var?_cell etG a 0;unfold Em;simpa using l
end Go.Proofs.YtobbpffcggchmaaGreatDoor
