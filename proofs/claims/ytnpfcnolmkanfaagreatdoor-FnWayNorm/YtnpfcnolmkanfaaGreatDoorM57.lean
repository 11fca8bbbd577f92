import Derived.Test.YtnpfcnolmkanfaaGreatDoorGY
import Derived.Test.YtnpfcnolmkanfaaGreatDoorGv
import Derived.Test.YtnpfcnolmkanfaaGreatDoorGy
import Derived.Deep.RegionHeld3
import Derived.Test.YtnpfcnolmkanfaaGreatDoorGx
import Derived.Test.YtnpfcnolmkanfaaGreatDoorGl
import Derived.Test.YtnpfcnolmkanfaaGreatDoorG4
import Derived.Test.YtnpfcnolmkanfaaGreatDoorGm
set_option maxHeartbeats 4000000
set_option maxRecDepth 100000
namespace Go.Proofs.YtnpfcnolmkanfaaGreatDoor
open Tryz
open Stil
open Go.RowKit Go.Sort Go.BigFrame
theorem Abu (l:List Stil.Arm)(a:Value)(w:World)(hr:Em w)(hg:En w)(g:Ea w a l)(hl:l.length<=1048576)(k:Bv l<=1000000000)(i:∀x∈l,Cm x):
  Calls prog 13 #[a] w λe w'=>e=.returned (.bool (decide ((Bf l).1=0)))/\Below w.heap.size w w':=by
 have f:=hid (λW h=>An2 l a W (hr.below h) (hg.below h) (g.below h) hl k i);have j:Hid ((Bf l).1=0->(Bf l).2=0):=λh=>(Lp h).1
 obtain⟨o,u,rfl,m⟩:=g;obtain⟨c,b⟩:∃c,c=(Bf l).1:=⟨_,rfl⟩
 obtain⟨r,d⟩:∃r,r=(Bf l).2:=⟨_,rfl⟩
 rw[<-b,<-d] at f j;rw[<-b];clear m b d hr hg i;go_enter func13,ntmps13
 go_wp2_with (go_at_call 29;refine(f _ blA).mono ?_;rintro e t ⟨rfl,s⟩)
 all_goals go_ret
 all_goals refine⟨Ap ?_,blA⟩
 all_goals (have p:=j.out;by_cases q:c=0<;>simp_all)
def Ao2 (w:World)(base:Nat)(l:List Stil.Arm)(e:Ending):Prop:=∃(a:Option Addr) (c:Nat) (ms:List Bj),e=.returned (.slice a ms.length c)/\ms.map Bj.arm=l/\Qw w base (.slice a ms.length c) ms
theorem Abv (l:List Stil.Arm)(b:Value)(w:World)(hr:Em w)(hg:En w)(j:Ea w b l)(hl:l.length<=1048576)(s:Bv l<=1000000000)(g:∀x∈l,Cm x):
  Calls prog 21 #[b] w λe w'=>Ao2 w' w.heap.size (A7 l) e/\Below w.heap.size w w':=by
 have f:=hid (λW h=>Abu l b W (hr.below h) (hg.below h) (j.below h) hl s g);have i:Hid ((Bf l).1=0->∀W,Below w.heap.size w W->Calls prog 38 #[b, .func (.func 39) #[] #[]] W λe w'=>∃(a:Option Addr) (c:Nat) (ms:List Bj),e=.returned (.slice a ms.length c)/\ms.map Bj.arm=l.map Dc/\Qw w' W.heap.size (.slice a ms.length c) ms/\Below W.heap.size W w'):=by
  intro h0 W h;exact Aem l (λx hx=>Axa x (g x hx) yFh) b W (j.below h) (by have:=(Lp h0).2.1;omega)
 obtain⟨D,F,rfl,q⟩:=j;by_cases h0:(Bf l).1=0
 ·have d:Hid (A7 l=l.map Dc):=if_pos h0
  rw[d.out];have o:=i h0;have z:=hid o;rw[A77 h0] at f;clear q hr hg g d i o h0;go_enter func21,ntmps21
  go_wp2_with (first | (go_at_call 13;refine(f _ blA).mono ?_;rintro e A ⟨rfl,r⟩) | (go_at_call 38;refine(z _ blA).mono ?_;rintro e C ⟨t,y,ms,rfl,k,m,E⟩;have u:=hid k;have B:=hid m;clear k m))
  go_ret;exact⟨⟨t,y,ms,rfl,u.out,B.le r.size⟩,blA⟩
 ·have d:Hid (A7 l=[]):=if_neg h0
  rw[d.out];rw[A7y h0] at f;clear q hr hg g d i h0;go_enter func21,ntmps21
  go_wp2_with (go_at_call 13;refine(f _ blA).mono ?_;rintro e A ⟨rfl,r⟩)
  go_ret;exact⟨⟨none,0,[],rfl,rfl,Qw.nil _ _⟩,blA⟩
end Go.Proofs.YtnpfcnolmkanfaaGreatDoor
namespace Stil
theorem Oe {l:List Arm}(h:∀x∈l,Cm x):(∀x∈A7 l,Cm x)/\Bv (A7 l)<=400/\(A7 l).length<=40:=by
 unfold A7;by_cases h0:(Bf l).1=0
 ·rw[if_pos h0]
  have hx:=λx hx=>X5 x (h x hx) yFh
  refine⟨λx d=>?_,?_,?_⟩
  ·obtain⟨y,c,rfl⟩:=List.mem_map.1 d
   exact(hx y c).1
  ·refine A6e ?_ (Lp h0).2.2.1
   clear h h0;unfold Bv;induction l with
   | nil=>simp
   | cons x r e=>
    have a:=(hx x spz).2;have b:=e (λy c=>hx y (A56 _ c));simp only[A6k,A7b] at b ⊢;omega
  ·rw[A6i];exact(Lp h0).2.1
 ·rw[if_neg h0]
  exact⟨(λx hx=>by cases hx),by simp[Bv],spz⟩
end Stil
namespace Go.Proofs.YtnpfcnolmkanfaaGreatDoor
open Tryz
open Stil
open Go.RowKit Go.Sort Go.BigFrame
def Avs (v:Value)(a:List Bj):Bj:=⟨Pz, .slice none 0 0,[],v,a⟩
theorem Abk {w:World}{base:Nat}{v:Value}{b:List Bj}(h:Qw w base v b):J8 w base (Avs v b):=by
 have c:(Avs v b).vals=Pz.vals++(([.slice none 0 0])++(v::Hy b)):=Bj.vals_eq _;refine⟨(Il _ _ _).2 ⟨Akp _ _,⟨World.ownsRow_nil _ _ _ _,λx a=>by cases a⟩,h.1,h.2.1⟩,?_⟩;rw[c];refine List.pairwise_append.2 ⟨?_,List.pairwise_append.2 ⟨A7t _ _,h.2.2,λx a y _=>?_⟩,λx a y _=>.inl (Anp a)⟩
 ·rw[Za]
  exact List.pairwise_cons.2 ⟨λy _=>Qe y,A7t _ _⟩
 ·rw[List.mem_singleton.1 a];exact Qe y
def A4t:Bj:=⟨Pz, .slice none 0 0,[], .slice none 0 0,[]⟩
theorem Yc (c r:Value)(w:World):Sem.run prog (Instr.field 30 (.agg #[c,r]) 0) w=.ok c w:=krz
theorem Aqw (l:List Stil.Arm)(T:Value)(w:World)(f:Ea w T l)(hl:l.length<=1048576)(aa:Bv l<=1000000000)(D:∀x∈l,Cm x):
  Calls prog 5 #[T] w λe w'=>Ao2 w' w.heap.size (A7 l) e/\Below w.heap.size w w':=by
 have A:=hid (λW h=>Adu l T W (f.below h) hl aa D);have gu:=hid (λW (h:Below w.heap.size w W)=>f.below h);have X:=Vk l;obtain⟨p0,r0,rfl,hz⟩:=f;by_cases h0:(Bf l).1=0
 ·have u:Hid (A7 l=l.map Dc):=if_pos h0
  have HI:=hid (λx hx=>A2k x (D x hx) yFh (Ju h0 hx).1);have ay:=(Lp h0).2.1;rw[u.out];rw[h0] at A;obtain⟨rr,y⟩:∃r,r=(Bf l).2:=⟨_,rfl⟩
  rw[<-y] at A;clear hz D u h0 X y aa;have ap:=Yc;go_enter func5,ntmps5
  go_wp2_with (go_at_call 7;refine(A _ blA).mono ?_;rintro e w1 ⟨rfl,Q⟩)
  go_loopw [3,4] (λd i wr=>∃(j:Nat) (ms:List Bj) (z:Option Addr) (C:Nat),j<=l.length/\i=.int .i64 j/\d=.slice z ms.length C/\ms.map Bj.arm=(l.take j).map Dc/\Qw wr w.heap.size (.slice z ms.length C) ms/\Below w.heap.size w wr) (λ_ i _=>l.length - (intOf i).toNat)
  case atStart=>
   refine⟨0,[],some ⟨w1.heap.size,0,none⟩,0,omz,rfl,rfl,rfl,⟨?_,(λm B=>by cases B),A7t _ _⟩,blA⟩;have:=World.ownsRow_lit (base:=w.heap.size) (e:=46) (size:=6) w1 #[] 0 Q.size yAe rfl
   simpa[Ip] using this
  case round=>
   clear Q;obtain⟨j,ms,z,C,hj,rfl,rfl,a,ab,hb⟩:=hrel;have J:=hid a;have E:=hid ab;clear a ab;by_cases I:j<l.length
   ·have ar:ms.length=j:=by
     have h1:=congrArg List.length J.out;simp only[A6i,A74] at h1;omega
    have ao:=gu wr hb;obtain⟨pa,pc,ae,ag⟩:=ao;simp only[Value.slice.injEq,true_and] at ae;obtain⟨rfl,rfl⟩:=ae;obtain⟨b,o,rfl,av,hn⟩:=ag j I;obtain⟨ai,al,pz,x4,x5,H,f⟩:=hn.open;obtain⟨x0,x1,mQ,mO,x2,x3,F,L⟩:=ai.open;have ah:=hid (λW h=>HI l[j] (A59 I) mQ mO al pz W (F.below h) (L.below h) (H.below h) (f.below h));have dN:Hid ((l.take (j+1)).map Dc=(l.take j).map Dc++[Dc l[j]]):=by show _=_;rw[A6l I,A6g];rfl
    obtain⟨x,hx⟩:∃x,x=l[j]:=⟨_,rfl⟩
    rw[<-hx] at ah dN x0 x1 F L H f;obtain⟨q0,s0,rfl,_⟩:=F;obtain⟨q1,aB,rfl,_⟩:=L;obtain⟨q2,aw,rfl,_⟩:=H;obtain⟨q3,az,rfl,_⟩:=f;have jP:=hid (λk hk=>(E.1.lt k hk).1);have aj:ms.length+[A4t].length<=1000000:=by simp only[A62];omega
    have au:(0:Int)<=(j:Int):=omz
    have aA:(j:Int)<(l.length:Int):=omz
    clear hx hn ai ag ar
    go_wp2_with (first | (go_at_call 12;refine(ah _ blA).mono ?_;rintro e w5 ⟨⟨G,Y,t,O,N,q,Z,U,g,M,V,s,R,P,rfl,ac,a⟩,hb5⟩;have S:=hid ac;have zo:=hid a;clear ac a) | (at_builtin;refine Vx rfl _ _ rfl w.heap.size w.heap.size z C ms [(Bj.mk ⟨G,Y,t, .slice O t.length N, .slice Z q.length U,q⟩ (.slice M g.length V) g (.slice R s.length P) s)] _ 1 rfl rfl ((E.below hb5).below (Aa _ _)) (λ_=>⟨_,rfl,by exact Aya⟩) (λm B=>by rw[List.mem_singleton.1 B];exact((S.1.le hb.size).below (Aa _ _))) (E.apart (w1:=w5) (b1:=wr.heap.size) (λm B=>by rw[List.mem_singleton.1 B];exact S.1) (A57 _) (by rw[Qh];exact S.2)) aj yEh yEh jP.out ?_;intro a6 c6 w6 aY af ak;have gX:Hid (Qw w6 w.heap.size (.slice a6 (ms.length+1) c6) (ms++[(Bj.mk ⟨G,Y,t, .slice O t.length N, .slice Z q.length U,q⟩ (.slice M g.length V) g (.slice R s.length P) s)])):=aY;have an:=hid ((Cc (Du hb hb5) _).trans af);clear aY af ak))
    refine⟨⟨j+1,ms++[(Bj.mk ⟨G,Y,t, .slice O t.length N, .slice Z q.length U,q⟩ (.slice M g.length V) g (.slice R s.length P) s)],a6,c6,omz,by go_num,spz,?_,by rw[A52];exact gX.out,an.out⟩,by simp[intOf];omega⟩;rw[dN.out,A6g,J.out,A7x,zo.out]
   ·obtain rfl:j=l.length:=by omega
    have a:=J.out;rw[A73] at a;have dD:=hid a;clear a
    go_wp2
    go_ret;exact⟨⟨z,C,ms,rfl,dD.out,E.out⟩,hb⟩
 ·have u:Hid (A7 l=[]):=if_neg h0
  rw[u.out];obtain⟨c,K⟩:∃c,c=(Bf l).1:=⟨_,rfl⟩
  obtain⟨rr,y⟩:∃r,r=(Bf l).2:=⟨_,rfl⟩
  rw[<-K,<-y] at A;rw[<-K] at X h0;have ax:(0:Int)<c:=omz
  clear hz D u h0 gu K y X;have ap:=Yc;go_enter func5,ntmps5
  go_wp2_with (go_at_call 7;refine(A _ blA).mono ?_;rintro e w1 ⟨rfl,Q⟩)
  go_ret;exact⟨⟨none,0,[],rfl,rfl,Qw.nil _ _⟩,blA⟩
end Go.Proofs.YtnpfcnolmkanfaaGreatDoor
set_option maxHeartbeats 4000000
set_option maxRecDepth 100000
namespace Go.Proofs.YtnpfcnolmkanfaaGreatDoor
open Tryz
open Stil
open Go.RowKit Go.Sort Go.BigFrame
theorem A0g (x:Stil.Arm)(C:Aw x<=1000000)(g:Agd 32 x (Stil.forks x)):Agd 54 x (1+Stil.forks x):=by
 intro m j k b w c l a f;have i:Hid (∀W,Below w.heap.size w W->Calls prog 32 #[.agg #[.int .i64 x.net.kind, .int .i64 x.net.one.op,m,j,k,b]] W λe w'=>e=.returned (.int .i64 (Stil.forks x))/\Below W.heap.size W w'):=λW h=>g m j k b W (c.below h) (l.below h) (a.below h) (f.below h)
 have t:=A0o x;obtain⟨o,d⟩:∃o,o=Stil.forks x:=⟨_,rfl⟩
 rw[<-d] at i t ⊢;obtain⟨u,G,rfl,r⟩:=c.shape;obtain⟨H,z,rfl,q,_⟩:=l.shape;obtain⟨A,D,rfl,s⟩:=a.shape;obtain⟨B,y,rfl,p,_⟩:=f.shape;clear g r q s p d;go_enter func54,ntmps54
 go_wp2_with (go_at_call 32;refine(i _ blA).mono ?_;rintro e F ⟨rfl,E⟩)
 go_ret;exact⟨Gz (by go_num),blA⟩
theorem Asd (a:Stil.Arm):Aw a<=1000000->Agd 32 a (Stil.forks a):=by
 induction a using Fz with
 | h n cs kids r=>
  intro hs av nv cv kv w i q l f;simp only at i q l f;rw[Dp] at hs;have j:∀x∈kids,Aw x<=1000000:=λx hx=>by have:Aw x<=Ig kids:=Ed Aw kids x hx;omega
  have A:kids.length<=999999:=by have:=Rt kids;omega
  obtain⟨p0,r0,rfl,E⟩:=i.shape;obtain⟨p1,r1,rfl,G,_⟩:=q.shape;obtain⟨p2,r2,rfl,J⟩:=l.shape;clear E G J hs;rcases List.eq_nil_or_concat kids with rfl | ⟨init,z,hk⟩
  ·rw[Axp]
   obtain⟨p3,d,rfl,F,_⟩:=f.shape;clear F r j A;go_enter func32,ntmps32
   go_wp2
   go_ret;exact⟨rfl,blA⟩
  ·rw[List.concat_eq_append] at hk
   subst hk;have X:∀args w,(callFunc 54 args).run prog w=.ok (.enter 54 args) w:=enters_of func54 krz rfl;have T:=f;obtain⟨p3,d,rfl,Y,ab⟩:=f.shape;have aa:=T;have O:(init++[z]).take init.length=init:=spz
   have ae:init.length<=999999:=by simp only[A52,A62] at A;omega
   have t:Hid (∀W,Below w.heap.size w W->Calls prog 30 #[.slice p3 init.length d, .int .i64 (Stil.forks z), .func (.func 54) #[] #[]] W λe w'=>e=.returned (.int .i64 (Ff (Stil.forks z) (init.map (λk=>1+Stil.forks k))))/\Below W.heap.size W w'):=by
    intro W h;refine Aij init (λk=>1+Stil.forks k) 54 X (λx hx=>?_) _ _ W ?_ ae
    ·exact A0g x (j x yCb) (r x yCb (j x yCb))
    ·have:=(aa.below h).take (n:=init.length) spz
     rwa [O] at this
   obtain⟨b,o,rfl,g,D⟩:=ab init.length spz;have V:(init++[z])[init.length]'spz=z:=spz
   rw[V] at D;obtain⟨U,Z,Q,C,L,l,f⟩:=D.open;obtain⟨y,I,S,mO,H,u,i,q⟩:=U.open;have P:Hid (∀W,Below w.heap.size w W->Calls prog 32 #[.agg #[.int .i64 z.net.kind, .int .i64 z.net.one.op,S,mO,Z,Q]] W λe w'=>e=.returned (.int .i64 (Stil.forks z))/\Below W.heap.size W w'):=λW h=>r z spz (j z spz) S mO Z Q W (i.below h) (q.below h) (l.below h) (f.below h)
   rw[Ase];obtain⟨B,ac⟩:∃B,B=Stil.forks z:=⟨_,rfl⟩
   rw[<-ac] at t P ⊢;obtain⟨R,hR⟩:∃R,R=Ff B (init.map (λk=>1+Stil.forks k)):=⟨_,rfl⟩
   rw[<-hR] at t ⊢;have M:(init++[z]).length=init.length+1:=spz
   obtain⟨m,K⟩:∃m,m=init.length:=⟨_,rfl⟩
   rw[M];rw[<-K] at t y I H u C L ae ⊢;obtain⟨q0,s0,rfl,E⟩:=i.shape;obtain⟨q1,s1,rfl,G,_⟩:=q.shape;obtain⟨q2,s2,rfl,J⟩:=l.shape;obtain⟨q3,s3,rfl,F,_⟩:=f.shape;have ah:(0:Int)<=(m:Int):=omz
   have al:(m:Int)<=(m:Int)+1:=omz
   have ai:(m:Int)<(m:Int)+1:=omz
   have ao:IntKind.i64.wrap ((m:Int)+1 - 1)=(m:Int):=by rw[IntKind.wrap_i64];omega
   have ak:m+1<=d:=by have:=Y.1;rw[M,<-K] at this;exact this
   have aj:(m:Int)<=(d:Int):=omz
   have an:m<=d:=omz
   clear E G J F aa T O ab D U X ac hR V r j A M K Y;go_enter func32,ntmps32
   go_wp2
   obtain⟨W,s⟩:∃W,W=w.alloc (.cells #[.int .i64 n.kind, .int .i64 n.one.op, .slice p0 n.one.args.length r0, .slice p1 n.kids.length r1, .slice p2 cs.length r2, .slice (some ⟨b,o,none⟩) (m+1) d] 46):=⟨_,rfl⟩
   rw[<-s];have c:Below w.heap.size w W:=by rw[s];exact Aa _ _
   have N:W.cell? ⟨w.heap.size,5,none⟩=some (.slice (some ⟨b,o,none⟩) (m+1) d):=by rw[s];simp[go_sem]
   have k0:=cell_regrown ((c.cell (p:=⟨b,o+m*6,none⟩) g).trans y);have k1:=cell_regrown ((c.cell (p:=⟨b,o+m*6+1,none⟩) g).trans I);have k2:=cell_regrown ((c.cell (p:=⟨b,o+m*6+2,none⟩) g).trans H);have k3:=cell_regrown ((c.cell (p:=⟨b,o+m*6+3,none⟩) g).trans u);have k4:=cell_regrown ((c.cell (p:=⟨b,o+m*6+4,none⟩) g).trans C);have k5:=cell_regrown ((c.cell (p:=⟨b,o+m*6+5,none⟩) g).trans L);have k6:=cell_regrown N;clear s N y I H u C L;refine wp_region_quiet_below krz krz ?_;repeat (go_big_quiet_step ((first | exact Calls.regrown_of (P _ (Hw c _ _)) | exact Calls.regrown_of (t _ (Hw c _ _)))))
   refine wpQuiet_nil ?_;intro _ af;obtain⟨⟨dq,osq⟩,ag⟩:=af;subst ag
   go_wp2
   go_ret;exact⟨rfl,Hw c _ _⟩
theorem Ahb (l:List Stil.Arm)(d:Value)(w:World)(hr:Em w)(hg:En w)(s:Ea w d l)(hl:l.length<=1048576)(y:Bv l<=1000000000)(f:∀x∈l,Cm x):
  Calls prog 15 #[d] w λe w'=>e=.returned (.int .i64 (Jl l))/\Below w.heap.size w w':=by
 have m:=hid (λW h=>Abv l d W (hr.below h) (hg.below h) (s.below h) hl y f);obtain⟨j,q,r⟩:=Oe f;have b:Hid (Jl l=Ff 0 ((A7 l).map Stil.forks)):=rfl;obtain⟨L,g⟩:∃L,L=A7 l:=⟨_,rfl⟩
 rw[<-g] at m j q r b;have t:∀args w,(callFunc 32 args).run prog w=.ok (.enter 32 args) w:=enters_of func32 krz rfl;have k:Hid (∀W v,Vs W v L->Calls prog 30 #[v, .int .i64 0, .func (.func 32) #[] #[]] W λe w'=>e=.returned (.int .i64 (Ff 0 (L.map Stil.forks)))/\Below W.heap.size W w'):=λW v h=>Aij L Stil.forks 32 t (λx u=>Asd x (by have:=Zp u;omega)) 0 v W h omz
 rw[b.out];obtain⟨R,o⟩:∃R,R=Ff 0 (L.map Stil.forks):=⟨_,rfl⟩
 rw[<-o] at k ⊢;obtain⟨D,G,rfl,A⟩:=s;clear A hr hg f j q r b g t o;go_enter func15,ntmps15
 go_wp2_with (first | (go_at_call 21;refine(m _ blA).mono ?_;rintro e B ⟨⟨a,c,ms,rfl,hm,hrw⟩,E⟩;have i:Vs B (.slice a ms.length c) L:=yEb;have z:=hid i;clear i hrw hm) | (go_at_call 30;refine(k _ _ z.out).mono ?_;rintro e C ⟨rfl,F⟩))
 go_ret;exact⟨rfl,blA⟩
end Go.Proofs.YtnpfcnolmkanfaaGreatDoor
namespace Stil
def Pg:Arm->Prop
 | ⟨n,c,kids⟩=>Jq n/\(∀p∈kids.map Pg,p)/\∀a,kids=[a]->¬(c=[]\/Ar a.net=true)
theorem Rk (n:Net)(c:List Elem)(kids:List Arm):Pg ⟨n,c,kids⟩↔Jq n/\(∀x∈kids,Pg x)/\∀a,kids=[a]->¬(c=[]\/Ar a.net=true):=by rw[Pg,all_map]
theorem Aro {n:Net}(h:Jq n):Sm n=n:=by
 unfold Sm;split
 ·rfl
 ·rename_i a
  exact Aat (h.resolve_left a)
theorem Amd (a:Arm):Pg a->Dc a=a:=by
 refine Fz (λa=>Pg a->Dc a=a) ?_ a;intro n c kids f h;obtain⟨d,e,g⟩:=(Rk _ _ _).1 h;have i:kids.map Dc=kids:=by
  have:kids.map Dc=kids.map id:=A8l λx b=>f x b (e x b)
  rw[this,List.map_id]
 rw[Nu,Aro d,i];exact Ru _ g
theorem Arv {l:List Arm}(h:Ig l<=0):l=[]:=by
 have:=Rt l
 exact List.eq_nil_of_length_eq_zero omz
theorem Acb:∀(f:Nat) (b:Arm),Ig b.kids<=f->Jq b.net->(∀x∈b.kids,Pg x)->Pg (Ir f b)
 | 0,⟨n,r,kids⟩,c,a,_=>by
  simp only at c a;obtain rfl:=Arv c;rw[Ir];exact(Rk _ _ _).2 ⟨a,λx q=>(by cases q),λm e=>(by cases e)⟩
 | f+1,⟨n,r,kids⟩,c,a,d=>by
  simp only at c a d;rw[Ir];split
  ·rename_i m e
   simp only at e;subst e;split
   ·obtain⟨o,j,i⟩:=m
    have l:=(Rk _ _ _).1 (d ⟨o,j,i⟩ spz);have s:=La ⟨o,j,i⟩;rw[Aei] at c;simp only at s;exact Acb f _ (by simp only;omega) (U5 a l.1) l.2.1
   ·rename_i g
    exact(Rk _ _ _).2 ⟨a,d,λk e=>by
     simp only[List.cons.injEq,A8u] at e;subst e
     exact g⟩
  ·rename_i g
   exact(Rk _ _ _).2 ⟨a,d,λk e=>absurd e (g k)⟩
theorem Ab6 (a:Arm):J5 a->Pg (Dc a):=by
 refine Fz (λa=>J5 a->Pg (Dc a)) ?_ a;intro n c kids f h;have b:=(O9 _ _ _).1 h;rw[Nu];unfold joined;refine Acb _ _ (A57 _) (Rh b.1) λx e=>?_
 obtain⟨y,d,rfl⟩:=List.mem_map.1 e;exact f y d (b.2 y d)
theorem Aia {a:Arm}(h:J5 a):Dc (Dc a)=Dc a:=Amd _ (Ab6 a h)
theorem Acg {n:Net}(h:Jq n):Ar n=true\/Az n=0:=h.imp id λh=>h.2.2
theorem Si {a:Arm}:Ci a=0↔(Ar a.net=true\/Az a.net=0)/\Dw a.coils=false/\¬(a.coils.length=0/\a.kids.length=0):=by
 have j:=Jv a.net;unfold Ci;constructor
 ·intro h
  have b:¬(Ar a.net=false/\0<Az a.net):=λc=>by rw[if_pos c] at h;omega
  rw[if_neg b] at h;cases c:Dw a.coils with
  | true=>rw[c,if_pos rfl] at h;omega
  | false=>
   rw[c,if_neg A7h] at h;refine⟨?_,rfl,λd=>by rw[if_pos d] at h;omega⟩;cases i:Ar a.net with
   | true=>exact .inl rfl
   | false=>
    have e:¬0<Az a.net:=λx=>b ⟨i,x⟩
    exact .inr omz
 ·rintro⟨b,d,g⟩
  have e:¬(Ar a.net=false/\0<Az a.net):=by
   rintro⟨f,k⟩;rcases b with h | h
   ·rw[h] at f;exact Bool.noConfusion f
   ·omega
  rw[if_neg e,d,if_neg A7h,if_neg g]
theorem Om {n:Net}{c:List Elem}{kids:List Arm}:Cf ⟨n,c,kids⟩=0↔Ci ⟨n,c,kids⟩=0/\∀x∈kids,Cf x=0:=by
 have e:=Pe ⟨n,c,kids⟩;rw[Vo];constructor
 ·intro h
  have a:Ci ⟨n,c,kids⟩=0:=by split at h<;>omega
  rw[if_neg omz] at h;exact⟨a,λx d=>Vd _ (λy hy=>by obtain⟨z,_,rfl⟩:=List.mem_map.1 hy;exact(Po z).1) h _ (List.mem_map.2 ⟨x,d,rfl⟩)⟩
 ·rintro⟨a,b⟩
  rw[if_neg omz];simp only;clear a e;induction kids with
  | nil=>rfl
  | cons x r f=>
   rw[A6k,A8,b x spz,if_neg omz];exact f (λy hy=>b y yDb)
theorem Ae5 (a b:List Elem):Dw (a++b)=(Dw a || Dw b):=by simp[Dw]
theorem Aca:∀(f:Nat) (b:Arm),Gm b->Cf b=0->Cf (Ir f b)=0
 | 0,_,_,h=>h
 | f+1,⟨n,r,kids⟩,o,h=>by
  rw[Ir];split
  ·rename_i m e
   simp only at e;subst e;split
   ·have a:=Aan o
    refine Aca f _ a.1 ?_;obtain⟨q,k,j⟩:=m;have c:=Om.1 h;have i:=Om.1 (c.2 ⟨q,k,j⟩ spz);obtain⟨_,g,_⟩:=Si.1 c.1;obtain⟨_,d,l⟩:=Si.1 i.1;simp only at g d l;refine Om.2 ⟨Si.2 ⟨Acg (U5 a.2.1 a.2.2),?_,?_⟩,i.2⟩
    ·simp only
     rw[Ae5,g,d];rfl
    ·simp only[A52]
     omega
   ·exact h
  ·exact h
theorem Ako (a:Arm):Cf a=0->Cf (Dc a)=0:=by
 refine Fz (λa=>Cf a=0->Cf (Dc a)=0) ?_ a;intro n c kids k h;have e:=(O9 _ _ _).1 (Afe _ h);obtain⟨i,j⟩:=Om.1 h;obtain⟨_,f,g⟩:=Si.1 i;simp only at f g;rw[Nu];unfold joined;refine Aca _ _ ((Gu _ _ _).2 ⟨Rh e.1,λx d=>?_⟩) (Om.2 ⟨Si.2 ⟨Acg (Rh e.1),f,by simpa using g⟩,λx d=>?_⟩)
 ·obtain⟨y,b,rfl⟩:=List.mem_map.1 d
  exact Td y (e.2 y b)
 ·obtain⟨y,b,rfl⟩:=List.mem_map.1 d
  exact k y b (j y b)
theorem Aqx {l:List Arm}(h1:l.length<=40)(c:Bv l<=400)(a:∀x∈l,Ej x=0):Bf l=(0,0):=by
 unfold Bf;rw[if_neg omz];clear h1 c
 suffices ∀k,D9 l k=(0,0) from this 0
 induction l with
 | nil=>intro k;rfl
 | cons x r b=>
  intro k;rw[D9,a x spz,if_neg omz];exact b (λy hy=>a y yDb) _
theorem Aqy {a:Arm}(h1:Ar a.net=false)(b:Cf a=0):Ej a=0:=by
 unfold Ej;rw[h1,b];rfl
theorem Aai {l:List Arm}(k:∀x∈l,Cm x)(h:(Bf l).1=0):Bf (A7 l)=(0,0)/\Bv (A7 l)<=Bv l/\(A7 l).length=l.length/\A7 (A7 l)=A7 l/\∀x∈A7 l,Cm x:=by
 obtain⟨_,g,o,d⟩:=Lp h;have e:A7 l=l.map Dc:=by unfold A7;rw[if_pos h]
 have f:=λx a=>X5 x (k x a) (by have:=(Ju h a).2;omega)
 have n:Bv (A7 l)<=Bv l:=by
  rw[e];unfold Bv;rw[A8c];exact Aaa _ _ _ λx a=>(f x a).2
 have c:Bf (A7 l)=(0,0):=by
  refine Aqx (by rw[e,A6i];exact g) omz λx a=>?_
  rw[e] at a;obtain⟨y,b,rfl⟩:=List.mem_map.1 a;exact Aqy (Ad9 (Ju h b).1 (d y b).1) (Ako y (d y b).2)
 refine⟨c,n,by rw[e,A6i],?_,λx a=>?_⟩
 ·obtain⟨m,i⟩:∃m,m=A7 l:=⟨_,rfl⟩
  have j:A7 (A7 l)=(A7 l).map Dc:=by
   rw[<-i] at c ⊢;unfold A7;rw[if_pos (by rw[c])]
  rw[j,e,A8c];exact A8l λx a=>Aia (Ju h a).1
 ·rw[e] at a
  obtain⟨y,b,rfl⟩:=List.mem_map.1 a;exact(f y b).1
def Tz (c:Int):Tq:=⟨c,⟨0,[]⟩⟩
def Ava (k:Int)(n:Net)(l:List Tq):List Tq:=if n.kind=1 then [⟨k,n.one⟩] else l++[Tz (k+2)]
def A20 (k:Int)(o:Elem)(kids:List Net)(a:List (List Tq)):List Tq:=
 if k=1 then [⟨1,o⟩] else if k=4 then a.headD []++[Tz 6] else a.headD []++((List.zipWith (Ava k) kids a).drop 1).flatten
def Fh:Net->List Tq
 | ⟨k,o,kids⟩=>A20 k o kids (kids.map Fh)
theorem Abr (k:Int)(o:Elem)(kids:List Net):Fh ⟨k,o,kids⟩=A20 k o kids (kids.map Fh):=by rw[Fh]
def Oh (k:Int)(n:Net):List Tq:=Ava k n (Fh n)
theorem Zd (o:Elem)(kids:List Net):Fh ⟨1,o,kids⟩=[⟨1,o⟩]:=by rw[Abr];rfl
theorem Ze (o:Elem)(x:Net)(r:List Net):Fh ⟨4,o,x::r⟩=Fh x++[Tz 6]:=by rw[Abr];rfl
theorem Xc {k:Int}(o:Elem)(x:Net)(r:List Net)(h1:k≠1)(a:k≠4):Fh ⟨k,o,x::r⟩=Fh x++(r.map (Oh k)).flatten:=by
 rw[Abr];unfold A20;rw[if_neg h1,if_neg a,A6k,List.headD_cons,A9g,List.drop_succ_cons,A9b,List.zipWith_map_right,List.zipWith_self];rfl
theorem Ab7 (k:Int)(n:Net)(h:n.kind=1):Oh k n=[⟨k,n.one⟩]:=if_pos h
theorem Yv (k:Int)(n:Net)(h:n.kind≠1):Oh k n=Fh n++[Tz (k+2)]:=if_neg h
def Iy (n:Net):List Tq:=((Eh n).map (Oh 2)).flatten
def Ia (n i:Nat):List Tq:=if n=1 then [] else if i=0 then [Tz 7] else if i+1=n then [Tz 9] else [Tz 8]
def Yf (cs:List Elem):List Tq:=cs.map (λc=>⟨10,c⟩)
def A0c (n i:Nat)(a:Arm)(t:List Tq):List Tq:=Ia n i++(Iy a.net++t)
def A1s (cs:List Elem)(kids:List Arm)(b:List (List Tq)):List Tq:=
 Yf cs++((List.zipWith (λ(a:Arm) t=>(a,t)) kids b).mapIdx (λi p=>A0c kids.length i p.1 p.2)).flatten
def Iz:Arm->List Tq
 | ⟨_,a,kids⟩=>A1s a kids (kids.map Iz)
def Tv (n i:Nat)(a:Arm):List Tq:=A0c n i a (Iz a)
theorem Y8 (n:Net)(cs:List Elem)(kids:List Arm):Iz ⟨n,cs,kids⟩=Yf cs++(kids.mapIdx (λi a=>Tv kids.length i a)).flatten:=by
 rw[Iz];unfold A1s;congr 2;apply List.ext_getElem
 ·simp
 ·intro i b c
  simp[Tv]
def J3 (a:Arm):List Tq:=Fh a.net++(Iz a++[Tz 11])
def F6 (l:List Arm):List Tq:=((A7 l).map J3).flatten
theorem Aoy {a:Arm}(h:Pg a):Jq a.net:=by
 obtain⟨n,c,k⟩:=a;exact((Rk n c k).1 h).1
def Vb (n:Nat):Nat->List Arm->List Tq
 | _,[]=>[]
 | i,k::t=>Tv n i k++Vb n (i+1) t
theorem Aeu (n:Nat):∀(ks:List Arm) (i:Nat),(ks.mapIdx (λj a=>Tv n (i+j) a)).flatten=Vb n i ks
 | [],_=>rfl
 | k::t,i=>by
  rw[List.mapIdx_cons,A7f,Vb,<-Aeu n t (i+1)];congr 3;funext j a;rw[Nat.add_assoc,Nat.add_comm 1 j]
theorem Ahy (n:Net)(cs:List Elem)(kids:List Arm):Iz ⟨n,cs,kids⟩=Yf cs++Vb kids.length 0 kids:=by
 rw[Y8,<-Aeu];congr 3;funext j a;rw[A6b]
theorem Al6 {n:Net}(h:Jq n):∀x∈Eh n,Az x=0:=by
 intro x a;unfold Eh at a;split at a
 ·cases a
 ·rename_i c
  have b:=h.resolve_left c;split at a
  ·exact Uf b.2.2 x a
  ·rw[List.mem_singleton.1 a];exact b.2.2
end Stil
namespace Go.Proofs.YtnpfcnolmkanfaaGreatDoor
open Tryz
open Go.RowKit Go.Sort Go.BigFrame
structure MI where
 code:Int
 e:D8
def MI.val (m:MI):Value:=.agg #[.int .i64 m.code, .int .i64 m.e.op,m.e.av]
def MI.inst (m:MI):Stil.Tq:=⟨m.code,m.e.elem⟩
def mi0 (k:Int):MI:=⟨k,⟨0,[], .slice none 0 0⟩⟩
def MI.cells (m:MI):List Value:=[.int .i64 m.code, .int .i64 m.e.op,m.e.av]
def Qp (l:List MI):List Value:=l.flatMap MI.cells
theorem Aku (l:List MI)(m:MI):Qp (l++[m])=Qp l++m.cells:=by simp[Qp]
theorem Ael:(prog.info? 53).map (λi=>(i.zero,i.size,i.bytes))=some (some (.agg #[.int .i64 0, .int .i64 0, .slice none 0 0]),3,40):=krz
section
variable {w w' : World}{base : Nat}{v v' : Value}{ms ks : List MI}
end
end Go.Proofs.YtnpfcnolmkanfaaGreatDoor
namespace Stil
theorem Az9 {k:Int}{y:Net}(h:(Fh y).length+1<=2*Am y):(Oh k y).length<=2*Am y:=by
 by_cases a:y.kind=1
 ·rw[Ab7 k y a,A62,Ep];omega
 ·rw[Yv k y a,A52,A62];exact h
theorem Ah5 {k:Int}:∀(r:List Net),(∀y∈r,(Fh y).length+1<=2*Am y)->((r.map (Oh k)).flatten).length<=2*sizes r
 | [],_=>by simp
 | y::r,h=>by
  have b:=Az9 (k:=k) (h y spz);have c:=Ah5 (k:=k) r (λz a=>h z (A56 _ a));rw[A6k,A7f,A52,Xw];omega
theorem Awl (n:Net):Az n=0->(Fh n).length+1<=2*Am n:=by
 refine Gf (λn=>Az n=0->(Fh n).length+1<=2*Am n) ?_ n;intro k e kids a f;rw[Ep];show _<=2*(1+sizes kids)
 rcases Jo f with⟨rfl,rfl⟩ | ⟨j,g,c⟩ | ⟨rfl,_,x,rfl,d⟩
 ·rw[Zd,A62,Adq];omega
 ·obtain⟨x,r,rfl⟩:∃x r,kids=x::r:=by
   cases kids with
   | nil=>simp at g
   | cons x r=>exact⟨x,r,rfl⟩
  have i:=a x spz (c x spz);have l:=Ah5 (k:=k) r (λy b=>a y (A56 _ b) (c y (A56 _ b)));rw[Xc e x r omz omz,A52,Xw];omega
 ·have i:=a x spz d
  rw[Ze,A52,A62,Xw,Adq];omega
theorem Atp {n:Net}(h:Jq n):(Iy n).length<=2*nsz n:=by
 unfold Iy;have c:=Ah5 (k:=2) (Eh n) (λy b=>Awl y (Al6 h y b));have d:sizes (Eh n)<=nsz n:=by
  unfold Eh nsz;by_cases a:Ar n=true
  ·rw[if_pos a,if_pos a];exact A57 _
  ·rw[if_neg a,if_neg a]
   split
   ·rw[Ep];omega
   ·rw[Xw,Adq];omega
 omega
theorem A0p (n i:Nat):(Ia n i).length<=1:=by
 unfold Ia;split
 ·simp
 ·split
  ·simp
  ·split<;>simp
theorem Acf (n:Nat):∀(ks:List Arm) (i:Nat),(∀k∈ks,Jq k.net/\(Iz k).length+2+2*nsz k.net<=2*Aw k)->(Vb n i ks).length<=2*Ig ks
 | [],_,_=>by simp[Vb]
 | k::t,i,h=>by
  obtain⟨b,f⟩:=h k spz;have d:=A0p n i;have c:=Atp b;have g:=Acf n t (i+1) (λx a=>h x (A56 _ a));have e:Ig (k::t)=Aw k+Ig t:=by simp[Ig]
  rw[Vb,e];unfold Tv A0c;rw[A52,A52,A52];omega
theorem Azc (a:Arm):Gm a->(Iz a).length+2+2*nsz a.net<=2*Aw a:=by
 refine Fz (λa=>Gm a->(Iz a).length+2+2*nsz a.net<=2*Aw a) ?_ a;intro n d kids g h;have c:=((Gu _ _ _).1 h).2;have l:=Acf kids.length kids 0 (λk b=>⟨by have i:=c k b;obtain⟨j,f,e⟩:=k;exact((Gu j f e).1 i).1,g k b (c k b)⟩);rw[Ahy,A52,Dp];have m:(Yf d).length=d.length:=by simp[Yf]
 show _+2+2*nsz n<=_
 omega
theorem Azi {a:Arm}(h:Gm a)(b:fine a.net):(J3 a).length<=2*Aw a:=by
 have d:=Azc a h;have e:=Awl a.net b.2.2;have c:nsz a.net=Am a.net:=by unfold nsz;rw[if_neg (by rw[Aew b];decide)]
 unfold J3;rw[A52,A52,A62];omega
theorem Akg:∀(l:List Arm),(∀a∈l,Gm a/\fine a.net)->((l.map J3).flatten).length<=2*Bv l
 | [],_=>by simp
 | a::l,h=>by
  have c:=Azi (h a spz).1 (h a spz).2;have d:=Akg l (λx b=>h x (A56 _ b));have e:Bv (a::l)=Aw a+Bv l:=by simp[Bv]
  rw[A6k,A7f,A52,e];omega
structure A49 (a:Arm):Prop where
 fineA:Gm a
 net:fine a.net
 norm:Pg a
 right:Cf a=0
 size:Aw a<=400
theorem Abp {l:List Arm}(n:∀x∈l,Cm x)(h:(Bf l).1=0):(∀a∈A7 l,A49 a)/\Bv (A7 l)<=400/\(Bf (A7 l)).1=0:=by
 obtain⟨j,p,_⟩:=Aai n h;have c:(Bf (A7 l)).1=0:=by rw[j]
 have f:=Lp c;refine⟨λa b=>?_,f.2.2.1,c⟩;obtain⟨i,k⟩:=Yu l a b;obtain⟨o,m⟩:=Ju c b;have e:A7 l=l.map Dc:=by unfold A7;rw[if_pos h]
 have d:Pg a:=by
  rw[e] at b;obtain⟨x,g,rfl⟩:=List.mem_map.1 b;exact Ab6 x (Ju h g).1
 refine⟨i,(Aoy d).resolve_left (by rw[k];decide),d,(f.2.2.2 a b).2,m⟩
theorem Av9 {l:List Arm}(h:(Bf l).1≠0):F6 l=[]/\Nj l=0/\Jl l=0:=by
 have e:A7 l=[]:=by unfold A7;rw[if_neg h]
 unfold F6 Nj Jl;rw[e];exact⟨rfl,rfl,rfl⟩
theorem U8 {l:List Arm}(d:∀x∈l,Cm x):(F6 l).length<=800:=by
 by_cases h:(Bf l).1=0
 ·obtain⟨b,e,_⟩:=Abp d h
  have:=Akg (A7 l) (λa c=>⟨(b a c).fineA,(b a c).net⟩)
  show((A7 l).map J3).flatten.length<=800
  omega
 ·rw[(Av9 h).1];exact A7l _
end Stil
namespace Go.Proofs.YtnpfcnolmkanfaaGreatDoor
open Tryz
open Go.RowKit Go.Sort Go.BigFrame
end Go.Proofs.YtnpfcnolmkanfaaGreatDoor
namespace Stil
end Stil
namespace Go.Proofs.YtnpfcnolmkanfaaGreatDoor
open Tryz
open Go.RowKit Go.Sort Go.BigFrame
end Go.Proofs.YtnpfcnolmkanfaaGreatDoor
namespace Stil
end Stil
namespace Go.Proofs.YtnpfcnolmkanfaaGreatDoor
open Tryz
open Go.RowKit Go.Sort Go.BigFrame
end Go.Proofs.YtnpfcnolmkanfaaGreatDoor
namespace Stil
def Gl (l:List Arm):List Tq × Int:=if 0<(Bf l).1 then([],1) else if 16<Nj l\/8<Jl l then([],2) else(F6 l,0)
theorem Au6 {l:List Arm}(h:(Bf l).1=0)(a:Nj l<=16)(b:Jl l<=8):Gl l=(F6 l,0):=by
 unfold Gl;rw[if_neg omz,if_neg omz]
theorem A1p {l:List Arm}(h:(Gl l).2=0):(Bf l).1=0/\Nj l<=16/\Jl l<=8:=by
 unfold Gl at h;split at h
 ·simp at h
 ·rename_i a
  split at h
  ·simp at h
  ·have:=(Vk l).1
   exact⟨omz,omz,omz⟩
theorem Aza {l:List Arm}(c:∀x∈l,Cm x)(h:(Bf l).1=0):Gl (A7 l)=Gl l:=by
 obtain⟨f,_,_,a,_⟩:=Aai c h;have d:Nj (A7 l)=Nj l:=by unfold Nj;rw[a]
 have b:Jl (A7 l)=Jl l:=by unfold Jl;rw[a]
 have e:F6 (A7 l)=F6 l:=by unfold F6;rw[a]
 unfold Gl;rw[f,h,d,b,e]
theorem Ax0 {l:List Arm}(h:(Bf l).1=0)(c:(Gl l).2≠0):A7 l≠[]/\F6 l≠[]:=by
 have b:A7 l≠[]:=by
  intro e;refine c ?_;rw[Au6 h (by unfold Nj;rw[e];exact A7l _) (by unfold Jl;rw[e];exact A7l _)]
 refine⟨b,?_⟩;unfold F6;cases d:A7 l with
 | nil=>exact absurd d b
 | cons a t=>
  rw[A6k,A7f];intro e;have:=(List.append_eq_nil_iff.1 e).1
  unfold J3 at this;simp at this
end Stil
