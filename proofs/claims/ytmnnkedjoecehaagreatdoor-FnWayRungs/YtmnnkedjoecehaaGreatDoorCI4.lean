import Derived.Test.YtmnnkedjoecehaaGreatDoorGv
import Derived.Test.YtmnnkedjoecehaaGreatDoorCH3
import Derived.Test.YtmnnkedjoecehaaGreatDoorM59
set_option maxHeartbeats 4000000
set_option maxRecDepth 100000
namespace Go.Proofs.YtmnnkedjoecehaaGreatDoor
open Tryz Stil Go.RowKit Go.Sort Go.BigFrame
theorem OH (l:List Stil.B9)(a:Value)(w:World)(hr:Ep w)(hg:Ff w)(f:E8 w a l)(hl:l.length<=1048576)(k:Aw l<=1000000000)(i:∀x∈l,Dh x):
  Calls prog 11 #[a] w (AN w (.bool (decide ((Ah l).1=0)))):=by
 have j:=AV (λW h=>va l a W (hr.below h) (hg.below h) (f.below h) hl k i);have g:Hid ((Ah l).1=0->(Ah l).2=0):=λh=>(Ny h).1
 obtain⟨o,t,rfl,m⟩:=f;have⟨c,b⟩:=AA ((Ah l).1)
 have⟨r,d⟩:=AA ((Ah l).2)
 rw[<-b,<-d] at j g;rw[<-b];clear m b d hr hg i;go_enter func11,ntmps11
 go_wp2_with (go_at_call 26;refine(j _ AW).mono ?_;rintro e p ⟨rfl,q⟩)
 all_goals go_ret
 all_goals refine⟨Ae ?_,AW⟩
 all_goals (have s:=g.out;by_cases u:c=0<;>simp_all)
def Q6 (w:World)(base:Nat)(l:List Stil.B9)(e:Ending):Prop:=∃(a:Option Addr) (c:Nat) (b:List Bz),e=.returned (AE a b.length c)/\b.map Bz.arm=l/\Tj w base (AE a b.length c) b
theorem OI (l:List Stil.B9)(d:Value)(w:World)(hr:Ep w)(hg:Ff w)(j:E8 w d l)(hl:l.length<=1048576)(u:Aw l<=1000000000)(g:∀x∈l,Dh x):
  Calls prog 28 #[d] w λe w'=>Q6 w' w.heap.size (Aq l) e/\AO w w':=by
 have i:=AV (λW h=>OH l d W (hr.below h) (hg.below h) (j.below h) hl u g);have k:Hid ((Ah l).1=0->∀W,AO w W->Calls prog 56 #[d, .func (.func 57) #[] #[]] W λe w'=>∃(a:Option Addr) (c:Nat) (b:List Bz),e=.returned (AE a b.length c)/\b.map Bz.arm=l.map Bo/\Tj w' W.heap.size (AE a b.length c) b/\AO W w'):=by
  intro h0 W h;exact VY l (λx hx=>Az0 x (g x hx) yGg) d W (j.below h) (by have:=(Ny h0).2.1;omega)
 obtain⟨D,F,rfl,s⟩:=j;by_cases h0:(Ah l).1=0
 ·have f:Hid (Aq l=l.map Bo):=if_pos h0
  rw[f.out];have m:=k h0;have t:=AV m;rw[JP h0] at i;clear s hr hg g f k m h0;go_enter func28,ntmps28
  go_wp2_with (first | (go_at_call 11;refine(i _ AW).mono ?_;rintro e y ⟨rfl,q⟩) | (go_at_call 56;refine(t _ AW).mono ?_;rintro e G ⟨A,z,b,rfl,r,o,E⟩;have C:=AV r;have v:=AV o;clear r o))
  go_ret;exact⟨⟨A,z,b,rfl,C.out,v.le q.size⟩,AW⟩
 ·have f:Hid (Aq l=[]):=if_neg h0
  rw[f.out];rw[Fo h0] at i;clear s hr hg g f k h0;go_enter func28,ntmps28
  go_wp2_with (go_at_call 11;refine(i _ AW).mono ?_;rintro e y ⟨rfl,q⟩)
  go_ret;exact⟨⟨none,0,[],rfl,rfl,Tj.nil _ _⟩,AW⟩
end Go.Proofs.YtmnnkedjoecehaaGreatDoor
namespace Stil
theorem Kq {l:List B9}(h:∀x∈l,Dh x):(∀x∈Aq l,Dh x)/\Aw (Aq l)<=400/\(Aq l).length<=40:=by
 unfold Aq;by_cases h0:(Ah l).1=0
 ·rw[if_pos h0]
  have hx:=λx hx=>Zo x (h x hx) yGg
  refine⟨λx d=>?_,?_,?_⟩
  ·obtain⟨y,c,rfl⟩:=List.mem_map.1 d
   exact(hx y c).1
  ·refine CM ?_ (Ny h0).2.2.1
   clear h h0;unfold Aw;induction l with
   | nil=>simp
   | cons x r e=>
    have a:=(hx x AU).2;have b:=e (λy c=>hx y (CN _ c));simp only[CQ,DO] at b ⊢;omega
  ·rw[CW];exact(Ny h0).2.1
 ·rw[if_neg h0]
  exact⟨(λx hx=>by cases hx),by simp[Aw],AU⟩
end Stil
namespace Go.Proofs.YtmnnkedjoecehaaGreatDoor
open Tryz Stil Go.RowKit Go.Sort Go.BigFrame
def RJ (v:Value)(a:List Bz):Bz:=⟨Rj,AG,[],v,a⟩
theorem V7 {w:World}{base:Nat}{v:Value}{b:List Bz}(h:Tj w base v b):Lu w base (RJ v b):=by
 have c:(RJ v b).vals=Rj.vals++(([AG])++(v::Iq b)):=Bz.vals_eq _;refine⟨(Ji _ _ _).2 ⟨YT _ _,⟨World.ownsRow_nil _ _ _ _,λx a=>by cases a⟩,h.1,h.2.1⟩,?_⟩;rw[c];refine List.pairwise_append.2 ⟨?_,List.pairwise_append.2 ⟨G2 _ _,h.2.2,λx a y _=>?_⟩,λx a y _=>.inl (QX a)⟩
 ·rw[Ni]
  exact List.pairwise_cons.2 ⟨λy _=>P9 y,G2 _ _⟩
 ·rw[List.mem_singleton.1 a];exact P9 y
def nE:Bz:=⟨Rj,AG,[],AG,[]⟩
theorem OM (c r:Value)(w:World):Sem.run prog (Instr.field 39 (.agg #[c,r]) 0) w=.ok c w:=AX
theorem N5 (l:List Stil.B9)(G:Value)(w:World)(g:E8 w G l)(hl:l.length<=1048576)(ab:Aw l<=1000000000)(F:∀x∈l,Dh x):
  Calls prog 34 #[G] w λe w'=>Q6 w' w.heap.size (Aq l) e/\AO w w':=by
 have z:=AV (λW h=>VE l G W (g.below h) hl ab F);have jD:=AV (λW (h:AO w W)=>g.below h);have Q:=NY l;obtain⟨p0,r0,rfl,hz⟩:=g;by_cases h0:(Ah l).1=0
 ·have A:Hid (Aq l=l.map Bo):=if_pos h0
  have HI:=AV (λx hx=>j6 x (F x hx) yGg (Kz h0 hx).1);have az:=(Ny h0).2.1;rw[A.out];rw[h0] at z;obtain⟨rr,y⟩:∃r,r=(Ah l).2:=⟨_,rfl⟩
  rw[<-y] at z;clear hz F A h0 Q y ab;have au:=OM;go_enter func34,ntmps34
  go_wp2_with (go_at_call 15;refine(z _ AW).mono ?_;rintro e w1 ⟨rfl,T⟩)
  go_loopw [3,4] (λd i wr=>∃(j:Nat) (a:List Bz) (D:Option Addr) (C:Nat),j<=l.length/\i=AB j/\d=AE D a.length C/\a.map Bz.arm=(l.take j).map Bo/\Tj wr w.heap.size (AE D a.length C) a/\AO w wr) (λ_ i _=>l.length - (intOf i).toNat)
  case atStart=>
   refine⟨0,[],some (AL w1 0),0,AQ,rfl,rfl,rfl,⟨?_,(λm v=>by cases v),G2 _ _⟩,AW⟩;have:=World.ownsRow_lit (base:=w.heap.size) (e:=62) (size:=6) w1 #[] 0 T.size A6 rfl
   simpa[Jg] using this
  case round=>
   clear T;obtain⟨j,a,D,C,hj,rfl,rfl,f,ai,hb⟩:=hrel;have M:=AV f;have E:=AV ai;clear f ai;by_cases I:j<l.length
   ·have al:a.length=j:=by
     have h1:=congrArg List.length M.out;simp only[CW,FP] at h1;omega
    have an:=jD wr hb;obtain⟨pa,pc,ae,ac⟩:=an;simp only[Value.slice.injEq,true_and] at ae;obtain⟨rfl,rfl⟩:=ae;obtain⟨b,o,rfl,aA,hn⟩:=ac j I;have⟨ag,aj,ar,x4,x5,U,g⟩:=hn.open;have⟨x0,x1,kC,jX,x2,x3,S,O⟩:=ag.open;have ah:=AV (λW h=>HI l[j] (CJ I) kC jX aj ar W (S.below h) (O.below h) (U.below h) (g.below h));have aX:Hid ((l.take (j+1)).map Bo=(l.take j).map Bo++[Bo l[j]]):=by show _=_;rw[EB I,CU];rfl
    have⟨x,hx⟩:=AA (l[j])
    rw[<-hx] at ah aX x0 x1 S O U g;obtain⟨q0,s0,rfl,_⟩:=S;obtain⟨q1,ay,rfl,_⟩:=O;obtain⟨q2,ax,rfl,_⟩:=U;obtain⟨q3,av,rfl,_⟩:=g;have kS:=AV (λk hk=>(E.1.lt k hk).1);have ao:a.length+[nE].length<=1000000:=by simp only[EF];omega
    have aw:(0:Int)<=(j:Int):=AQ
    have aC:(j:Int)<(l.length:Int):=AQ
    clear hx hn ag ac al
    go_wp2_with (first | (go_at_call 66;refine(ah _ AW).mono ?_;rintro e w5 ⟨⟨X,N,q,Z,V,s,Y,J,t,L,yc,u,K,H,rfl,aa,f⟩,hb5⟩;have R:=AV aa;have ak:=AV f;clear aa f) | (at_builtin;refine X6 rfl _ _ rfl w.heap.size w.heap.size D C a [(Bz.mk ⟨X,N,q,AE Z q.length V,AE Y s.length J,s⟩ (AE L t.length yc) t (AE K u.length H) u)] _ 1 rfl rfl ((E.below hb5).below (Aa _ _)) (λ_=>⟨_,rfl,by exact Rb⟩) (λm v=>by rw[List.mem_singleton.1 v];exact((R.1.le hb.size).below (Aa _ _))) (E.apart (w1:=w5) (b1:=wr.heap.size) (λm v=>by rw[List.mem_singleton.1 v];exact R.1) (CG _) (by rw[Rz];exact R.2)) ao yFd yFd kS.out ?_;intro a6 c6 w6 aZ af ap;have iU:Hid (Tj w6 w.heap.size (AE a6 (a.length+1) c6) (a++[(Bz.mk ⟨X,N,q,AE Z q.length V,AE Y s.length J,s⟩ (AE L t.length yc) t (AE K u.length H) u)])):=aZ;have wC:=AV ((Bi (Bh hb hb5) _).trans af);clear aZ af ap))
    refine⟨⟨j+1,a++[(Bz.mk ⟨X,N,q,AE Z q.length V,AE Y s.length J,s⟩ (AE L t.length yc) t (AE K u.length H) u)],a6,c6,AQ,by go_num,AU,?_,by rw[CO];exact iU.out,wC.out⟩,by simp[intOf];omega⟩;rw[aX.out,CU,M.out,G3,ak.out]
   ·obtain rfl:j=l.length:=by omega
    have f:=M.out;rw[IV] at f;have dI:=AV f;clear f
    go_wp2
    go_ret;exact⟨⟨D,C,a,rfl,dI.out,E.out⟩,hb⟩
 ·have A:Hid (Aq l=[]):=if_neg h0
  rw[A.out];have⟨c,hc⟩:=AA ((Ah l).1)
  obtain⟨rr,y⟩:∃r,r=(Ah l).2:=⟨_,rfl⟩
  rw[<-hc,<-y] at z;rw[<-hc] at Q h0;have aB:(0:Int)<c:=AQ
  clear hz F A h0 jD hc y Q;have au:=OM;go_enter func34,ntmps34
  go_wp2_with (go_at_call 15;refine(z _ AW).mono ?_;rintro e w1 ⟨rfl,T⟩)
  go_ret;exact⟨⟨none,0,[],rfl,rfl,Tj.nil _ _⟩,AW⟩
end Go.Proofs.YtmnnkedjoecehaaGreatDoor
namespace Go.Co
open Stil Go.Conc
section
variable {P:Program}{Stop:Goroutine -> World -> Prop}{w:World}
theorem je {g:Goroutine}(h:OkG g->Comes P g w Stop):Comes P g w Stop:=λb sl t hF a=>h a b sl t hF a
end
end Go.Co
namespace Go.Proofs.YtmnnkedjoecehaaGreatDoor
open Tryz Stil Go.RowKit Go.Sort Go.BigFrame Go.Conc Go.Co
variable {B:Nat}{w':World}
structure CZ (B:Nat)(w w':World):Prop where
 os:w'.os=w.os
 out:w'.output=w.output
 size:w.heap.size<=w'.heap.size
 block:∀k,k<B->w'.heap[k]?=w.heap[k]?
theorem CZ.trans {a b c:World}(h:CZ B a b)(k:CZ B b c):CZ B a c:=⟨k.os.trans h.os,k.out.trans h.out,CM h.size k.size,λi hi=>(k.block i hi).trans (h.block i hi)⟩
theorem CZ.of {w:World}(h:Below B w w'):CZ B w w':=⟨h.os,h.output,h.size,h.block⟩
theorem CZ.le {a:Nat}{w:World}(h:CZ B w w')(b:a<=B):CZ a w w':=⟨h.os,h.out,h.size,λk c=>h.block k (CB c b)⟩
theorem CZ.tape {w:World}(h:CZ B w w')(d:Nat):Below B w {w' with tape:=w.tape,drawn:=d}:=⟨h.os,rfl,h.out,h.size,h.block⟩
def Tp (w w':World):Prop:=∃a d,w'={w with tape:=a,drawn:=d}
theorem Tp.refl (w:World):Tp w w:=⟨w.tape,w.drawn,rfl⟩
theorem Tp.al {w w1 f:World}(h:Tp w w1)(k:Al (λx=>x=w1) f):Tp w f:=by
 obtain⟨m,d,rfl⟩:=h;obtain⟨n,l,h⟩:=k;refine⟨f.tape,f.drawn,?_⟩;have i:=congrArg World.heap h;have g:=congrArg World.os h;have j:=congrArg World.output h;obtain⟨a,b,c,d,e⟩:=f;simp only at i g j;subst i g j;rfl
theorem NE (n:Stil.B8):Aj n=0->FY n:=by
 refine Fp (λn=>Aj n=0->FY n) ?_ n;intro k e kids c h;rw[ZL];have d:=(Zu _ _ _).1 (Stil.full_of _ h);refine⟨?_,d.1,λx b=>c x b (Oe h x b)⟩;rcases F5 h with⟨a,_⟩ | ⟨a,_⟩ | ⟨a,_⟩<;>omega
theorem nL {n:Stil.B8}(h:Ht n)(f:Dz n)(d:Stil.BK n<=400):K4 n:=by
 refine⟨(D5 f).2.1.2.1,?_,λx a=>⟨?_,?_⟩⟩
 ·rcases h with h | h
  ·rw[Yw h];exact DZ _
  ·by_cases b:Am n=true
   ·rw[Yw b];exact DZ _
   ·have e:Stil.BK n=Ai n:=if_neg b
    rw[e,Ej n] at d;have:=Jl n.kids
    omega
 ·unfold Cj at a
  split at a
  ·cases a
  ·rename_i b
   have c:=h.resolve_left b;split at a
   ·exact NE x (Oe c.2.2 x a)
   ·rw[List.mem_singleton.1 a];exact NE n c.2.2
 ·have:=Ln n x a
  omega
theorem nS (a:Stil.B9):E5 a->Dh a->Ak a<=400->GZ a:=by
 refine Fq (λa=>E5 a->Dh a->Ak a<=400->GZ a) ?_ a;intro n q kids k i f j;have⟨_,d⟩:=(Eg _ _ _).1 i;have⟨_,_,_,_,e⟩:=(Fz _ _ _).1 f;rw[Cf] at j;have t:=Oj kids;have c:∀x∈kids,Ak x<=400:=λx b=>by
  have:Ak x<=Iu kids:=Eb Ak kids x b;omega
 rw[ZM];refine⟨AQ,AQ,λx b=>?_,λx b=>k x b (d x b) (e x b) (c x b)⟩;have m:=c x b;have l:=d x b;have g:=e x b;obtain⟨o,r,s⟩:=x;rw[Cf] at m;exact nL (n:=o) ((Eg _ _ _).1 l).1 ((Fz _ _ _).1 g).1 AQ
def EY (w:World)(base:Nat)(v:Value)(a:List MI):Prop:=∃B,base<=B/\w.ownsRow B 48 3 v a.length (Gy a)/\(∀x∈a,EOk w base x.e)/\(bl (a.map (·.e.av))).Nodup/\∀k∈bl (a.map (·.e.av)),base<=k/\k<B
theorem Z3:∀{a:List Value},a.Pairwise Aside->(bl a).Nodup
 | [],_=>M9
 | v::a,h=>by
  have⟨f,d⟩:=List.pairwise_cons.1 h;have b:=Z3 d;unfold bl at*;rw[List.filterMap_cons];split
  ·exact b
  ·rename_i k e
   refine List.nodup_cons.2 ⟨λc=>?_,b⟩;have⟨u,hu,g⟩:=List.mem_filterMap.1 c;exact(f u hu).no e g
theorem zD {w:World}{base e s n:Nat}{v:Value}{xs:List Value}(h:w.ownsRow 0 e s v n xs)(b:∀k,v.ownBlock=some k->base<=k):w.ownsRow base e s v n xs:=by
 refine⟨h.1,?_⟩;rcases h.2 with a | ⟨g,cap,cur,hv,_,rest⟩
 ·exact .inl a
 ·exact .inr ⟨g,cap,cur,hv,b g yEh,rest⟩
theorem SZ {w₀:World}{f:Bz->Nat->List MI}:∀(b:List Nat) (a:List Bz),b.length=a.length->(∀m∈a,∀c,MIs w₀ m.vals (f m c) (Ea m.arm))->MIs w₀ (Iq a) (Za f b a).flatten ((a.map Bz.arm).map Ea).flatten
 | [],[],_,_=>MIs.nil
 | [],_::_,h,_=>by cases h
 | _::_,[],h,_=>by cases h
 | c::b,m::a,h,d=>by
  have g:=SZ b a BV λx hx=>d x BQ
  have e:Za f (c::b) (m::a)=f m c::Za f b a:=rfl;have i:Iq (m::a)=m.vals++Iq a:=rfl;rw[e,i,D3,CQ,CQ,D3];exact(d m AU c).append g
theorem Avv (l:List Stil.B9)(t:Value)(w:World)(hr:Ep w)(hg:Ff w)(aB:E8 w t l)(hl:l.length<=1048576)(aH:Aw l<=1000000000)(U:∀x∈l,Dh x):
  GX prog 14 #[t] w λv w'=>∃j:List MI,j.map MI.inst=Ho l/\EY w' w.heap.size v j/\CZ w.heap.size w w':=by
 intro K y Stop hn;have I:∃M Q blk tl id an,Tryz.f14.body=some (.seq M (.seq Q (.seq (.seq (.region id an false) blk) (.seq tl .ret)))):=⟨_,_,_,_,_,_,rfl⟩
 obtain⟨M,Q,blk,tl,id,an,I⟩:=I;refine je λap=>?_
 have aM:∀c∈K::y,DI c:=ap.2;clear ap;rw[Go.Co.enter_at #[t] func14 I];simp only[ntmps14,Cd,CH,CP,Nat.reduceAdd,Nat.reduceSub,DK,DL,DJ,DN,C5,C4];have ar:∀(v:Value) (w':World) (q:Tape) (d:Nat),(∃(a:Option Addr) (c:Nat) (j:List Bz),v=AE a j.length c/\j.map Bz.arm=Aq l/\Tj {w' with tape:=q,drawn:=d} w.heap.size (AE a j.length c) j/\CZ w.heap.size w {w' with tape:=q,drawn:=d})->
   ∃(a:Option Addr) (c:Nat) (j:List Bz),v=AE a j.length c/\j.map Bz.arm=Aq l/\Tj w' w.heap.size (AE a j.length c) j/\CZ w.heap.size w w':=by
  rintro v w' q d ⟨a,c,j,s,J,h3,z⟩;have e:Tj {w' with tape:=q,drawn:=d} w.heap.size (AE a j.length c) j=Tj w' w.heap.size (AE a j.length c) j:=AX
  exact⟨a,c,j,s,J,e ▸ h3,z.os,z.out,z.size,z.block⟩
 have zQ:∀az,Tp w az->GX prog 28 #[t] az λv w'=>∃(a:Option Addr) (c:Nat) (j:List Bz),v=AE a j.length c/\j.map Bz.arm=Aq l/\Tj w' w.heap.size (AE a j.length c) j/\CZ w.heap.size w w':=by
  rintro _ ⟨aR,d0,rfl⟩;refine(WE okP (Post:=λv w'=>∃(a:Option Addr) (c:Nat) (j:List Bz),v=AE a j.length c/\j.map Bz.arm=Aq l/\Tj w' w.heap.size (AE a j.length c) j/\CZ w.heap.size w w') fun q d=>?_).mono λv w' ⟨q,d,h⟩=>ar v w' q d h
  have e1:Ep {w with tape:=q,drawn:=d}=Ep w:=AX
  have e2:Ff {w with tape:=q,drawn:=d}=Ff w:=AX
  have e3:E8 {w with tape:=q,drawn:=d} t l=E8 w t l:=AX
  refine(OI l t {w with tape:=q,drawn:=d} (e1 ▸ hr) (e2 ▸ hg) (e3 ▸ aB) hl aH U).mono λe w' h=>?_
  obtain⟨⟨a,c,j,rfl,s,J⟩,A⟩:=h;exact⟨_,rfl,a,c,j,rfl,s,J,A.os,A.output,A.size,A.block⟩
 have aA:=λ(Low:Nat) (w₀:World) (j:List Bz) (f:Bz->Nat->List MI) (aa:Option Addr) (cap:Nat) (Stop:Goroutine->World->Prop) s J h3 z h5 h6 wo h7 xg aE=>mE (Low:=Low) (Stop:=Stop) w₀ j f aa cap s J h3 z h5 h6 (λ_=>False) wo h7 t xg I aE
 have mJ:=I;unfold Tryz.f14 at mJ;dsimp only at mJ;cases mJ;refine P7 okP λw1 h=>?_
 have t1:=(Tp.refl w).al h;refine Pn okP λw2 h=>?_
 have t2:=t1.al h;simp only[Cd,CH,CP,CV,List.range,List.range.loop];refine Qo okP rfl Ab B5 (v:=AG) (λ_=>by go_simp) (λ_=>by simp[go_sem]) λw3 h=>?_
 have t3:=t2.al h;refine LZ okP λw4 h=>?_
 have t4:=t3.al h;refine P7 okP λw5 h=>?_
 have t5:=t4.al h;refine Pn okP λw6 h=>?_
 have t6:=t5.al h;simp only[Cd,CH,CP,CV,List.range,List.range.loop];refine Qo okP rfl Ab B5 (v:=AG) (λ_=>by go_simp) (λ_=>by simp[go_sem]) λw7 h=>?_
 have t7:=t6.al h;refine LZ okP λw8 h=>?_
 have t8:=t7.al h;refine P7 okP λw9 h=>?_
 have t9:=t8.al h;refine P7 okP λaP h=>?_
 have ai:=t9.al h;refine Pn okP λaU h=>?_
 have aw:=ai.al h;simp only[Cd,CH,CP,Nat.reduceAdd,CV,List.range,List.range.loop];refine Qo okP rfl Ab B5 (v:=t) (λ_=>by go_simp) (λ_=>by simp[go_sem]) λaS h=>?_
 have ay:=aw.al h;clear t1 t2 t3 t4 t5 t6 t7 t8 t9 ai aw h;refine OS okP rfl Ab B5 rfl func28 rfl (vals:=#[t]) (by simp[Act.eval,Act.put]) (λw' h=>zQ w' (ay.al h)) λv n hp=>?_
 clear zQ ar ay;obtain⟨aa,cap,j,rfl,ab,C,D⟩:=hp;have aK:=Joins.ownsRow_le C.1 (DZ _);have jq:∀m∈j,VOk n.heap.size n m:=λm o=>⟨(C.2.1 m o).le (DZ _),λx F k r=>((C.2.1 m o).lt m x F k r).2⟩
 have ax:=Kq U;have lW:∀m∈j,GZ m.arm/\FY m.net.net/\Ai m.net.net<=1000000:=λm o=>by
  have W:m.arm∈Aq l:=by rw[<-ab];exact FC o
  by_cases h0:(Ah l).1=0
  ·have⟨hR,_,_⟩:=Uc U h0
   have V:=hR _ W;have nV:m.arm.net=m.net.net:=by rw[Bz.arm_eq]
   have s:=V.net;rw[nV] at s;refine⟨nS _ V.fineA (ax.1 _ W) V.size,NE _ s.2.2,?_⟩;have hs:=V.size;have e:m.arm=⟨m.arm.net,m.arm.coils,m.arm.kids⟩:=by generalize m.arm=x;cases x;rfl
   rw[e,Cf,nV] at hs;have:=Stil.size_le m.net.net
   omega
  ·rw[show Aq l=[] by unfold Aq;rw[if_neg h0]] at W
   cases W
 obtain⟨f,hf⟩:∃f:Bz->Nat->List MI,∀m∈j,∀c,MIs n m.vals (f m c) (Ea m.arm)/\∀w O,Held n.heap.size n O w->okS prog n.heap.size c ((f m c).map MI.val) O w (born prog (dcall 61 #[.chan (some c), .agg #[AB m.net.kind,AB m.net.op,m.net.av,m.net.kv,m.cv,m.kv]])):=by
  classical
  refine⟨λm c=>if h:∃vs,MIs n m.vals vs (Ea m.arm)/\∀w O,Held n.heap.size n O w->okS prog n.heap.size c (vs.map MI.val) O w (born prog (dcall 61 #[.chan (some c), .agg #[AB m.net.kind,AB m.net.op,m.net.av,m.net.kv,m.cv,m.kv]])) then h.choose else [],λm o c=>?_⟩;have h:=me (c:=c) n m (lW m o).1 (lW m o).2.1 (lW m o).2.2 (jq m o);simp only[h,dite_true];exact h.choose_spec
 have aj:Ho l=((j.map Bz.arm).map Ea).flatten:=by unfold Ho;rw[ab]
 have xC:=λ(y:List Nat) (h:y.length=j.length)=>SZ (w₀:=n) (f:=f) y j h λm o c=>(hf m o c).1
 have aO:j.length<=40:=by have:=ax.2.2;rw[<-ab,CW] at this;exact this
 refine Comes.then (S:=λY w'=>(∃(u:Act) (v:Value),Y=G {(base 14).at u [.code .ret] with mode:=.returning} (K::y)/\u.defers=[]/\ResultsC prog Tryz.f14 u.tmps v/\∃j:List MI,j.map MI.inst=Ho l/\EY w' w.heap.size v j/\CZ w.heap.size w w')/\OkG Y) ?_ ?_
 ·refine tB (Low:=n.heap.size) (O:=λ_=>False) (λ_ h=>h.elim) (CG _) (λg w h=>h.2) ?_
  refine aA n.heap.size n j f aa cap _ (λi hi=>?_) jq (λm o c w O hF=>(hf m o c).2 w O hF) AQ (λcs' af=>?_) (λm o c x F=>(hf m o c).1.2.1 x F) n ⟨λ_ _=>rfl,CG _,λ_ h=>h.elim,rfl,rfl⟩ (K::y) ?_
  ·have⟨u,aQ,e,_,E⟩:=Ua aK
   cases e;have⟨g0,g1,g2,g3,g4,g5⟩:=Wx j i hi;have⟨b,ha,A,M⟩:=E _ _ g0;have⟨b1,ao,_,Q⟩:=E _ _ g1;have⟨b2,au,_,c2⟩:=E _ _ g2;have⟨b3,vI,_,c3⟩:=E _ _ g3;have⟨b4,jk,_,c4⟩:=E _ _ g4;have⟨b5,ji,_,c5⟩:=E _ _ g5;rw[ha] at ao au vI jk ji;cases ao;cases au;cases vI;cases jk;cases ji;refine⟨b,0,ha,(C.1.lt b A).2,?_⟩;unfold Gk Yi;rw[CV];exact⟨⟨M,Q,c2,c3⟩,c4,c5⟩
  ·have s:=congrArg List.length (xC cs' af).1
   rw[CW,<-aj] at s;rw[s];have:=Xi U
   omega
  ·intro u w' v cs' hd T af Z hF
   have H:=xC cs' af;have aN:=hF.still;have N:∀k∈bl (((Za f cs' j).flatten).map (·.e.av)),w.heap.size<=k/\k<n.heap.size:=λk r=>by
    have aC:=H.2.2.subset r;have⟨aI,hu,df⟩:=List.mem_filterMap.1 aC;have⟨m,o,aG⟩:=Oi.1 hu;exact(C.2.1 m o).lt m aI aG k df
   have ae:=H.1.trans aj.symm;have ag:=(Z3 (List.pairwise_cons.1 C.2.2).2).sublist H.2.2;have ac:=H.2.1;clear H
   revert Z N ae ag ac
   generalize (Za f cs' j).flatten=L;intro Z N ae ag ac;have aD:EY w' w.heap.size v L:=by
    refine⟨n.heap.size,D.size,Z,λx F=>?_,ag,N⟩;have ah:=λk r=>N k (List.mem_filterMap.2 ⟨x.e.av,FC (f:=λaL:MI=>aL.e.av) F,r⟩)
    exact zD (U9 (ac x F) λk r=>aN k (ah k r).2) λk r=>(ah k r).1
   have aJ:CZ w.heap.size w w':=⟨hF.os.trans D.os,hF.out.trans D.out,CM D.size hF.low,λk r=>(hF.still k (CB r D.size)).trans (D.block k r)⟩
   have aF:OkG (G {(base 14).at u [.code .ret] with mode:=.returning} (K::y)):=by
    refine⟨λi hi=>?_,aM⟩;have :=List.mem_singleton.1 hi;rw[this];trivial
   exact⟨⟨u,v,rfl,hd,T,L,ae,aD,aJ⟩,aF⟩
 ·rintro Y w' _ ⟨⟨u,v,rfl,hd,T,X,hi,hO,R⟩,_⟩
  refine Jn okP (fr':=K.finish v) (cs':=y) (λak=>?_) λaT h=>?_
  ·exact stepG_leave (b:=base 14) rfl hd func14 (T ak).1 (T ak).2
  ·obtain⟨q,d,rfl⟩:=(Tp.refl w').al h
   have e:EY {w' with tape:=q,drawn:=d} w.heap.size v X=EY w' w.heap.size v X:=AX
   exact hn v _ ⟨X,hi,e ▸ hO,R.os,R.out,R.size,R.block⟩
