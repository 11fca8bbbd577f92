import Derived.Test.YtnpfcnolmkanfaaGreatDoorI3
import Derived.LoopN
import Derived.Shelf.Abstract
set_option maxHeartbeats 4000000
set_option maxRecDepth 100000
namespace Go.Proofs.YtnpfcnolmkanfaaGreatDoor
open Tryz
open Stil
open Go.RowKit Go.Sort Go.BigFrame
variable {a:Nat}{op:Int}
theorem Azj:Jn.length=304:=krz
theorem A42:∀(l:List (List UInt8 × Nat × List Nat × List Nat)) (m j:Nat),j<8->(l.flatMap Pj)[m*8+j]?=(l[m]?).bind (λr=>(Pj r)[j]?)
 | [],m,j,_=>by simp
 | r::l,m,j,b=>by
  rw[List.flatMap_cons];cases m with
  | zero=>rw[A9c (by simp[Pj];omega)];simp
  | succ k=>
   rw[A86 (by simp[Pj];omega)];have:=A42 l k j b
   rw[show(k+1)*8+j - (Pj r).length=k*8+j from by simp[Pj];omega];simpa using this
def rowOf (op:Int):List UInt8 × Nat × List Nat × List Nat:=if 0<=op/\op<38 then Ais.getD op.toNat ([],0,[],[]) else([],0,[],[])
theorem Avq (W:World)(t:TypeId)(m j:Nat)(e:m<38)(c:j<8):(W.alloc (.cells Jn.toArray t)).cell? ⟨W.heap.size,m*8+j,none⟩=(Pj (rowOf m))[j]?:=by
 have b:(W.alloc (.cells Jn.toArray t)).cell? ⟨W.heap.size,m*8+j,none⟩=Jn[m*8+j]?:=by
  rw[cell_of_row _ _ _ _ _ _ (heap_alloc_last W _)];simp
 have d:Ais.length=38:=krz
 rw[b,Jn,A42 _ _ _ c,rowOf,if_pos omz];simp[A6j (show m<Ais.length by omega)]
theorem Oc (n:Nat)(P:Program)(w:World)(a:Addr)(m:Mode):(store a (fnv n) m).run P w=stored P w a (fnv n) m:=run_store P w a _ m (by unfold fnv;split<;>rfl)
def Agp (r:List UInt8 × Nat × List Nat × List Nat):Value:=.agg #[.string ⟨r.1.toArray⟩,fnv r.2.1,fnv (r.2.2.1.getD 0 0),fnv (r.2.2.1.getD 1 0),fnv (r.2.2.1.getD 2 0),fnv (r.2.2.2.getD 0 0),fnv (r.2.2.2.getD 1 0),fnv (r.2.2.2.getD 2 0)]
theorem A23 (op:Int)(w:World):
  Calls prog 129 #[.int .i64 op] w λe O=>e=.returned (Agp (rowOf op))/\Below w.heap.size w O:=by
 have X:=Azj;by_cases h:0<=op/\op<38
 ·obtain⟨m,rfl⟩:=A7i h.1
  have U:m<38:=omz
  have V:=Oc;obtain⟨r,H⟩:∃r,r=rowOf (m:Int):=⟨_,rfl⟩
  obtain⟨s,i⟩:∃s,s=r.1:=⟨_,rfl⟩
  obtain⟨u,g⟩:∃n,n=r.2.1:=⟨_,rfl⟩
  obtain⟨l,h1⟩:∃n,n=r.2.2.1.getD 0 0:=⟨_,rfl⟩
  obtain⟨k,E⟩:∃n,n=r.2.2.1.getD 1 0:=⟨_,rfl⟩
  obtain⟨z,D⟩:∃n,n=r.2.2.1.getD 2 0:=⟨_,rfl⟩
  obtain⟨f,C⟩:∃n,n=r.2.2.2.getD 0 0:=⟨_,rfl⟩
  obtain⟨d,x⟩:∃n,n=r.2.2.2.getD 1 0:=⟨_,rfl⟩
  obtain⟨A,y⟩:∃n,n=r.2.2.2.getD 2 0:=⟨_,rfl⟩
  have G:Agp r=.agg #[.string ⟨s.toArray⟩,fnv u,fnv l,fnv k,fnv z,fnv f,fnv d,fnv A]:=by rw[Agp,i,g,h1,E,D,C,x,y]
  have F:Pj r=[.string ⟨s.toArray⟩,fnv u,fnv l,fnv k,fnv z,fnv f,fnv d,fnv A]:=by rw[Pj,i,g,h1,E,D,C,x,y]
  have b:=λW t j (S:j<8)=>Avq W t m j U S
  rw[<-H] at b ⊢;rw[F] at b;rw[G];have M:=λW t=>b W t 0 omz
  have R:=λW t=>b W t 1 omz
  have J:=λW t=>b W t 2 omz
  have L:=λW t=>b W t 3 omz
  have K:=λW t=>b W t 4 omz
  have T:=λW t=>b W t 5 omz
  have I:=λW t=>b W t 6 omz
  have P:=λW t=>b W t 7 omz
  simp only[A8x,A8y,A75] at M R J L K T I P;clear b;clear F G i g h1 E D C x y H h;go_enter func129,ntmps129
  go_wp2_with (go_at_call 131;refine(A1w _).mono ?_;rintro e B ⟨rfl,c⟩;obtain⟨b,Q⟩:=D7 c;have q:=Aa4 c)
  rw[Abg (tgt:=Jn) (cur:=Tryz.zeroCells175) (t:=175)]
  case hvs=>rfl
  case hl=>kernel_rfl
  case h1=>kernel_rfl
  case hg=>exact heap_alloc_last _ _
  rw[World.setRow_alloc_new,Oper.upon_skip]
  go_wp2
  have o:Below w.heap.size w B:=blB;refine bodyPost_ret (v:=.agg #[.string ⟨s.toArray⟩,fnv u,fnv l,fnv k,fnv z,fnv f,fnv d,fnv A]) (by simp[results,results129,go_sem,b,q]) rfl ⟨rfl,?_⟩;refine Cc ?_ _;iterate 8 refine Di (A57 _) ?_ _
  exact o
 ·have N:rowOf op=([],0,[],[]):=by unfold rowOf;rw[if_neg h]
  rw[N];go_enter func129,ntmps129
  go_wp2_with (go_at_call 131;refine(A1w _).mono ?_;rintro e B ⟨rfl,c⟩;obtain⟨b,Q⟩:=D7 c;have q:=Aa4 c)
  rw[Abg (tgt:=Jn) (cur:=Tryz.zeroCells175) (t:=175)]
  case hvs=>rfl
  case hl=>kernel_rfl
  case h1=>kernel_rfl
  case hg=>exact heap_alloc_last _ _
  rw[World.setRow_alloc_new,Oper.upon_skip];have o:Below w.heap.size w B:=blB
  go_wp2
  all_goals refine bodyPost_ret (v:=.agg #[.string ⟨#[]⟩, .nilFunc, .nilFunc, .nilFunc, .nilFunc, .nilFunc, .nilFunc, .nilFunc]) (by simp[results,results129,go_sem,b,q]) rfl ⟨rfl,?_⟩
  all_goals
   refine Cc ?_ _;iterate 8 refine Di (A57 _) ?_ _
   exact o
def Su (l:List Nat):Value:=.agg #[fnv (l.getD 0 0),fnv (l.getD 1 0),fnv (l.getD 2 0)]
theorem Apo (w:World):Sem.run prog (binOp BinOp.neq 167 .nilFunc .nilFunc) w=.ok (.bool false) w:=krz
theorem Az8 (a:Nat)(w:World):Sem.run prog (binOp BinOp.neq 167 (.func (.func a) #[] #[]) .nilFunc) w=.ok (.bool true) w:=krz
theorem Zg {n:Nat}(h:n≠0):fnv n=.func (.func n) #[] #[]:=by unfold fnv;rw[if_neg h]
theorem Apy:fnv 0=.nilFunc:=rfl
theorem Aw8 (w:World):
  Calls prog 132 #[.agg #[.nilFunc, .nilFunc, .nilFunc]] w λe b=>e=.returned (.int .i64 0)/\Below w.heap.size w b:=by
 have c:=Apo;have d:=Az8;go_enter func132,ntmps132
 go_wp2
 refine wp_loop_rounds 1 ?_;rw[rounds_succ]
 go_wp2
 go_ret;exact⟨rfl,blB⟩
theorem Aw7 (a:Nat)(w:World):
  Calls prog 132 #[.agg #[.func (.func a) #[] #[], .nilFunc, .nilFunc]] w λe b=>e=.returned (.int .i64 1)/\Below w.heap.size w b:=by
 have c:=Apo;have d:=Az8;go_enter func132,ntmps132
 go_wp2
 refine wp_loop_rounds 2 ?_;rw[rounds_succ]
 go_wp2
 rw[rounds_succ]
 go_wp2
 go_ret;exact⟨rfl,blB⟩
theorem Aw6 (a b:Nat)(w:World):
  Calls prog 132 #[.agg #[.func (.func a) #[] #[], .func (.func b) #[] #[], .nilFunc]] w λe c=>e=.returned (.int .i64 2)/\Below w.heap.size w c:=by
 have d:=Apo;have f:=Az8;go_enter func132,ntmps132
 go_wp2
 refine wp_loop_rounds 3 ?_;rw[rounds_succ]
 go_wp2
 rw[rounds_succ]
 go_wp2
 rw[rounds_succ]
 go_wp2
 go_ret;exact⟨rfl,blB⟩
theorem Aw5 (a b c:Nat)(w:World):
  Calls prog 132 #[.agg #[.func (.func a) #[] #[], .func (.func b) #[] #[], .func (.func c) #[] #[]]] w λe d=>e=.returned (.int .i64 3)/\Below w.heap.size w d:=by
 have f:=Apo;have g:=Az8;go_enter func132,ntmps132
 go_wp2
 refine wp_loop_rounds 4 ?_;rw[rounds_succ]
 go_wp2
 rw[rounds_succ]
 go_wp2
 rw[rounds_succ]
 go_wp2
 rw[rounds_succ]
 go_wp2
 go_ret;exact⟨rfl,blB⟩
theorem Apt (l:List Nat)(w:World)(hl:l.length<=3)(d:∀x∈l,x≠0):
  Calls prog 132 #[Su l] w λe f=>e=.returned (.int .i64 l.length)/\Below w.heap.size w f:=by
 match l,hl,d with
 | [],_,_=>exact Aw8 w
 | [a],_,d=>simp only[Su,List.getD,A8x,A8y,List.getElem?_nil,Option.getD,Zg (d a spz),Apy];exact Aw7 a w
 | [a,b],_,d=>simp only[Su,List.getD,A8x,A8y,List.getElem?_nil,Option.getD,Zg (d a spz),Zg (d b spz),Apy];exact Aw6 a b w
 | [a,b,c],_,d=>simp only[Su,List.getD,A8x,A8y,Option.getD,Zg (d a spz),Zg (d b spz),Zg (d c spz)];exact Aw5 a b c w
 | _::_::_::_::_,hl,_=>simp at hl
def Ik (n:Nat)(p:Stil.Dev->Bool):Prop:=(∀args w,(callFunc n args).run prog w=.ok (.enter n args) w)/\∀(d:Stil.Dev) (w:World),Em w->d.fits->Calls prog n #[.agg #[.int .i64 d.kind, .int .i64 d.n, .int .i64 d.p]] w λe b=>e=.returned (.bool (p d))/\Below w.heap.size w b
def Ah:List (Stil.Dev->Bool)->List Stil.Dev->Bool
 | [],[]=>true
 | p::b,d::c=>p d && Ah b c
 | _,_=>false
def Ad (c:List (Stil.Dev->Bool))(b:List Stil.Dev):Bool:=!b.isEmpty && Ah c b
theorem Agu:∀(b:List (Stil.Dev->Bool)) (c:List Stil.Dev),c.length≠b.length->Ah b c=false
 | [],[],h=>absurd rfl h
 | [],_::_,_=>rfl
 | _::_,[],_=>rfl
 | p::b,d::c,h=>by
  have:=Agu b c yBi
  simp[Ah,this]
theorem Ad1:∀(b:List (Stil.Dev->Bool)) (c:List Stil.Dev) (k:Nat) (e:k<b.length) (f:k<c.length),Ah (b.drop k) (c.drop k)=(b[k] c[k] && Ah (b.drop (k+1)) (c.drop (k+1)))
 | p::b,d::c,0,_,_=>rfl
 | p::b,d::c,k+1,e,f=>by
  have:=Ad1 b c k (by simpa using e) (by simpa using f)
  simpa using this
theorem Ary (l:List Nat)(d:List (Stil.Dev->Bool))(a:Option Addr)(cap:Nat)(c:List Stil.Dev)(w:World)(hr:Em w)(hl:l.length=d.length)(hd:c.length=d.length)(M:l.length<=3)(u:∀i (h1:i<l.length) (h2:i<d.length),l[i]≠0/\Ik l[i] d[i])(h0:0<c.length)
  (U:∀i (h:i<c.length),∃b o,a=some ⟨b,o,none⟩/\b<w.heap.size/\Jc w b (o+i*3) c[i]) (O:∀x∈c,x.fits):
  Calls prog 130 #[Su l, .slice a c.length cap] w λe E=>e=.returned (.bool (Ah d c))/\Below w.heap.size w E:=by
 have ao:=Oc;obtain⟨z,J⟩:∃f,f=l.getD 0 0:=⟨_,rfl⟩
 obtain⟨v,A⟩:∃f,f=l.getD 1 0:=⟨_,rfl⟩
 obtain⟨s,K⟩:∃f,f=l.getD 2 0:=⟨_,rfl⟩
 have B:Hid (Su l=.agg #[fnv z,fnv v,fnv s]):=by show _=_;rw[Su,J,A,K]
 have HP:Hid (∀W,Calls prog 132 #[.agg #[fnv z,fnv v,fnv s]] W λe E=>e=.returned (.int .i64 c.length)/\Below W.heap.size W E):=by
  intro W
  have:=Apt l W M (λx m=>by
   obtain⟨i,hi,rfl⟩:=List.getElem_of_mem m
   exact(u i hi omz).1)
  rw[B.out] at this;rw[hd,<-hl];exact this
 have HC:Hid (∀k (h:k<c.length),(w.alloc (.cells #[fnv z,fnv v,fnv s] 169)).cell? ⟨w.heap.size,k,none⟩=some (.func (.func (l.getD k 0)) #[] #[])):=by
  intro k hk;have ah:l.getD k 0≠0:=by
   have j:k<l.length:=omz
   have:=(u k j omz).1
   simpa[List.getD,A6j j] using this
  rw[<-Zg ah];have af:k=0\/k=1\/k=2:=omz
  rcases af with rfl | rfl | rfl<;>simp[go_sem,J,A,K]
 have HF:Hid (∀k (h:k<c.length) (h2:k<d.length),Ik (l.getD k 0) d[k]):=by
  intro k hk ak;have j:k<l.length:=omz
  have:=(u k j omz).2
  simpa[List.getD,A6j j] using this
 have HA:=hid U;have S:=hid (λW (h:Below w.heap.size w W)=>hr.below h);have ae:=hid O;have al:c.length<=3:=omz
 have T:=hid hd;have aj:¬c=[]:=by intro h;rw[h] at h0;simp at h0
 rw[B.out];clear J A K hl hd M u U hr B O;go_enter func130,ntmps130
 go_wp2_with (go_at_call 132;refine(HP _).mono ?_;rintro e w1 ⟨rfl,g⟩;obtain⟨hc,ag⟩:=D7 g;have hz:=Aa4 g)
 go_loopw [19] (λi wr=>∃k:Nat,k<=c.length/\i=.int .i64 k/\Ah d c=Ah (d.drop k) (c.drop k)/\Below (w.heap.size+1) (w.alloc (.cells #[fnv z,fnv v,fnv s] 169)) wr) (λi _=>c.length - (intOf i).toNat)
 case atStart=>exact⟨0,omz,rfl,rfl,by simpa using g⟩
 case round=>
  clear g hc ag hz;obtain⟨k,hk,rfl,Q,g⟩:=hrel;have t:=hid Q;clear Q;have ab:=(Aa _ _).trans (g.mono omz);have qg:w.heap.size<wr.heap.size:=by have:=g.size;simp at this;omega
  by_cases q:k<c.length
  ·obtain⟨b,o,rfl,P,ac⟩:=HA k q
   have R:k<d.length:=by have:=T.out;omega
   have r:=HF k q R;have C:=ae c[k] (A59 q);have y:=hid (Ad1 d c k R q);obtain⟨x0,x1,x2⟩:=ac.below ab P;have an:=A51 P ab.size;have F:wr.cell? ⟨w.heap.size,k,none⟩=some (.func (.func (l.getD k 0)) #[] #[]):=by
    rw[g.cell (p:=⟨w.heap.size,k,none⟩) spz];exact HC k q
   obtain⟨p,D⟩:∃p,p=d[k]:=⟨_,rfl⟩
   obtain⟨x,m⟩:∃x,x=c[k]:=⟨_,rfl⟩
   obtain⟨n,I⟩:∃n,n=l.getD k 0:=⟨_,rfl⟩
   rw[<-m] at x0 x1 x2 C;rw[<-D,<-m] at y;rw[<-I] at F;rw[<-I,<-D] at r;obtain⟨ap,r⟩:=r;have Z:=hid r;have L:=hid C;clear I m D ac r C;have Y:(wr.alloc (.cells #[.int .i64 x.kind, .int .i64 x.n, .int .i64 x.p] 92)).cell? ⟨w.heap.size,k,none⟩=some (.func (.func n) #[] #[]):=by rw[World.cell?_alloc_some _ _ _ (by rw[F];rfl)];exact F
   have q1:(wr.alloc (.cells #[.int .i64 x.kind, .int .i64 x.n, .int .i64 x.p] 92)).cell? ⟨wr.heap.size,0,none⟩=some (.int .i64 x.kind):=by simp[go_sem]
   have V:(wr.alloc (.cells #[.int .i64 x.kind, .int .i64 x.n, .int .i64 x.p] 92)).cell? ⟨wr.heap.size,1,none⟩=some (.int .i64 x.n):=by simp[go_sem]
   have X:(wr.alloc (.cells #[.int .i64 x.kind, .int .i64 x.n, .int .i64 x.p] 92)).cell? ⟨wr.heap.size,2,none⟩=some (.int .i64 x.p):=by simp[go_sem]
   have r0:=cell_regrown Y;have r1:=cell_regrown q1;have r2:=cell_regrown V;have r3:=cell_regrown X;clear Y q1 V X;cases aa:p x
   ·go_wp2
    refine wp_region_quiet_below krz krz ?_;repeat (go_big_quiet_step ((exact Calls.regrown_of (Z _ _ (S _ blB) L.out))))
    refine wpQuiet_nil ?_;intro _ G;obtain⟨⟨N,osq⟩,H⟩:=G;subst H
    go_wp2
    go_ret;exact⟨Ap (by rw[t.out,y.out,aa];rfl),blB⟩
   ·have ai:Hid (Ah d c=Ah (d.drop (k+1)) (c.drop (k+1))):=by show _=_;rw[t.out,y.out,aa];rfl
    clear y t
    go_wp2
    refine wp_region_quiet_below krz krz ?_;repeat (go_big_quiet_step ((exact Calls.regrown_of (Z _ _ (S _ blB) L.out))))
    refine wpQuiet_nil ?_;intro _ G;obtain⟨⟨N,osq⟩,H⟩:=G;subst H
    go_wp2
    refine⟨⟨k+1,omz,by go_num,ai.out,?_⟩,by simp[intOf];omega⟩;exact(g.alloc omz _).trans ((below_regrown _ N osq).mono yAd)
  ·have HE:Hid (Ah d c=true):=by
    show _=_
    have:=T.out
    rw[t.out,A7s omz,A7s omz];rfl
   go_wp2
   go_ret;exact⟨Ap HE.symm,blB⟩
theorem Aw3 (l:List Nat)(c:List (Stil.Dev->Bool))(v:Value)(b:List Stil.Dev)(w:World)(hr:Em w)(hl:l.length=c.length)(q:l.length<=3)(g:∀i (A:i<l.length) (F:i<c.length),l[i]≠0/\Ik l[i] c[i])
  (d:Dh w v b) (k:∀x∈b,x.fits) (D:b.length<=9223372036854775807):
  Calls prog 130 #[Su l,v] w λe u=>e=.returned (.bool (Ad c b))/\Below w.heap.size w u:=by
 obtain⟨a,cap,rfl,d⟩:=d;by_cases j:b=[]
 ·subst j
  have t:=Oc;have f:Hid (Ad c []=false):=rfl;unfold Su;clear g d k hr;go_enter func130,ntmps130
  go_wp2
  go_ret;exact⟨Ap f.symm,blB⟩
 ·have s:=List.length_pos_iff.2 j
  by_cases hd:b.length=c.length
  ·have f:Ad c b=Ah c b:=by
    have:b.isEmpty=false:=by simpa using j
    rw[Ad,this];rfl
   rw[f];exact Ary l c a cap b w hr hl hd q g s d k
  ·have f:Hid (Ad c b=false):=by show _=_;rw[Ad,Agu c b hd,Bool.and_false]
   have t:=Oc
   have o:=hid (λW=>Apt l W q (λx r=>by
    obtain⟨i,hi,rfl⟩:=List.getElem_of_mem r
    exact(g i hi omz).1))
   have y:((b.length:Int) !=(l.length:Int))=true:=by rw[bne_iff_ne];omega
   clear g d k hr hd hl;unfold Su at o ⊢;go_enter func130,ntmps130
   go_wp2_with (go_at_call 132;refine(o _).mono ?_;rintro e C ⟨rfl,m⟩;obtain⟨B,E⟩:=D7 m;have z:=Aa4 m)
   go_ret;exact⟨Ap f.symm,blB⟩
theorem Azk (j i g e c d b f:Value)(w:World):(Instr.field 172 (.agg #[j,i,g,e,c,d,b,f]) 2).run prog w=.ok (.agg #[g,e,c,d,b,f]) w:=krz
theorem A2g (d b c e f g:Value)(w:World):(Instr.index 170 (.agg #[d,b,c,e,f,g]) (.int .i64 0)).run prog w=.ok (.agg #[d,b,c]) w:=krz
theorem A2f (g e f b c d:Value)(w:World):(Instr.index 170 (.agg #[g,e,f,b,c,d]) (.int .i64 1)).run prog w=.ok (.agg #[b,c,d]) w:=krz
def F9 (l:List Nat)(b:List (Stil.Dev->Bool)):Prop:=l.length=b.length/\l.length<=3/\∀i (c:i<l.length) (d:i<b.length),l[i]≠0/\Ik l[i] b[i]
theorem A1x (op:Int)(l u:List (Stil.Dev->Bool))(v:Value)(c:List Stil.Dev)(w:World)(hr:Em w)(g:F9 (rowOf op).2.2.1 l)(h1:F9 (rowOf op).2.2.2 u)
  (N:Dh w v c) (U:∀x∈c,x.fits) (L:c.length<=9223372036854775807):
  Calls prog 125 #[.agg #[.int .i64 op,v]] w λe B=>e=.returned (.bool (Ad l c || Ad u c))/\Below w.heap.size w B:=by
 obtain⟨r,m⟩:∃r,r=rowOf op:=⟨_,rfl⟩
 rw[<-m] at g h1;have M:Hid (∀W,Calls prog 129 #[.int .i64 op] W λe B=>e=.returned (Agp r)/\Below W.heap.size W B):=by intro W;rw[m];exact A23 op W
 have k:=hid (λW (h:Below w.heap.size w W)=>N.below h);have I:=hid (λW (h:Below w.heap.size w W)=>hr.below h);have i:=hid (λW h=>Aw3 _ _ v c W (I W h) g.1 g.2.1 g.2.2 (k W h) U L);have j:=hid (λW h=>Aw3 _ _ v c W (I W h) h1.1 h1.2.1 h1.2.2 (k W h) U L);obtain⟨a,cap,rfl,_⟩:=N;obtain⟨s,O⟩:∃s,s=r.1:=⟨_,rfl⟩
 obtain⟨n0,V⟩:∃n,n=r.2.1:=⟨_,rfl⟩
 obtain⟨R,C⟩:∃n,n=r.2.2.1.getD 0 0:=⟨_,rfl⟩
 obtain⟨Q,o⟩:∃n,n=r.2.2.1.getD 1 0:=⟨_,rfl⟩
 obtain⟨T,A⟩:∃n,n=r.2.2.1.getD 2 0:=⟨_,rfl⟩
 obtain⟨H,q⟩:∃n,n=r.2.2.2.getD 0 0:=⟨_,rfl⟩
 obtain⟨G,D⟩:∃n,n=r.2.2.2.getD 1 0:=⟨_,rfl⟩
 obtain⟨Z,y⟩:∃n,n=r.2.2.2.getD 2 0:=⟨_,rfl⟩
 have K:Su r.2.2.1=.agg #[fnv R,fnv Q,fnv T]:=by rw[Su,C,o,A]
 have aa:Su r.2.2.2=.agg #[fnv H,fnv G,fnv Z]:=by rw[Su,q,D,y]
 have Y:Agp r=.agg #[.string ⟨s.toArray⟩,fnv n0,fnv R,fnv Q,fnv T,fnv H,fnv G,fnv Z]:=by rw[Agp,O,V,C,o,A,q,D,y]
 rw[K] at i;rw[aa] at j;rw[Y] at M;clear g h1 hr m O V C o A q D y K aa Y k;have ac:=Oc;have ab:=Azk;have af:=A2g;have ae:=A2f;generalize Ad l c=t0 at i ⊢;generalize Ad u c=t1 at j ⊢;go_enter func125,ntmps125
 go_wp2_with (go_at_call 129;refine(M _).mono ?_;rintro e w1 ⟨rfl,t⟩;obtain⟨hc,ag⟩:=D7 t;have z:=Aa4 t;have f:=Ry t)
 cases t0
 ·cases t1
  ·refine wp_loop_rounds 3 ?_
   rw[rounds_succ]
   go_wp2_with (go_at_call 130;refine(i _ (Cc f _)).mono ?_;rintro e J ⟨rfl,b⟩;obtain⟨S,P⟩:=D7 b;have X:=A51 z (A6e spz b.size);have d:=Du (Cc f _) b)
   rw[rounds_succ]
   go_wp2_with (go_at_call 130;refine(j _ (Cc d _)).mono ?_;rintro e w3 ⟨rfl,F⟩;have E:=Du (Cc d _) F)
   rw[rounds_succ]
   go_wp2
   go_ret;exact⟨rfl,E⟩
  ·refine wp_loop_rounds 2 ?_
   rw[rounds_succ]
   go_wp2_with (go_at_call 130;refine(i _ (Cc f _)).mono ?_;rintro e J ⟨rfl,b⟩;obtain⟨S,P⟩:=D7 b;have X:=A51 z (A6e spz b.size);have d:=Du (Cc f _) b)
   rw[rounds_succ]
   go_wp2_with (go_at_call 130;refine(j _ (Cc d _)).mono ?_;rintro e w3 ⟨rfl,F⟩;have E:=Du (Cc d _) F)
   go_ret;exact⟨rfl,E⟩
 ·refine wp_loop_rounds 1 ?_
  rw[rounds_succ]
  go_wp2_with (go_at_call 130;refine(i _ (Cc f _)).mono ?_;rintro e J ⟨rfl,b⟩;obtain⟨S,P⟩:=D7 b;have X:=A51 z (A6e spz b.size);have d:=Du (Cc f _) b)
  go_ret;exact⟨rfl,d⟩
def pl (l:List Int)(d:Stil.Dev):Bool:=d.ok && decide (d.kind∈l)
def I4 (d:Stil.Dev):Bool:=d.ok && decide (d.kind∈([11]:List Int)) && decide (0<=d.n)
theorem A5i:Ik 141 (pl [5]):=⟨enters_of func141 krz rfl,λd w c b=>A5m d w c b.2.1.1 b.2.1.2⟩
theorem A5w:Ik 147 (pl [4]):=⟨enters_of func147 krz rfl,λd w c b=>A5k d w c b.2.1.1 b.2.1.2⟩
theorem A5h:Ik 135 (pl [7]):=⟨enters_of func135 krz rfl,λd w c b=>A5j d w c b.2.1.1 b.2.1.2⟩
theorem A5x:Ik 148 (pl [8]):=⟨enters_of func148 krz rfl,λd w c b=>A5o d w c b.2.1.1 b.2.1.2⟩
theorem A2w:Ik 137 (pl [9]):=⟨enters_of func137 krz rfl,λd w c b=>A5n d w c b.2.1.1 b.2.1.2⟩
theorem A4d:Ik 138 (pl [10]):=⟨enters_of func138 krz rfl,λd w c b=>A5l d w c b.2.1.1 b.2.1.2⟩
theorem A4s:Ik 144 (pl [2,3]):=⟨enters_of func144 krz rfl,λd w c b=>A4x d w c b.2.1.1 b.2.1.2⟩
theorem A4r:Ik 145 (pl [2,3,4]):=⟨enters_of func145 krz rfl,λd w c b=>A25 d w c b.2.1.1 b.2.1.2⟩
theorem Az0:Ik 146 (pl [2,3,4,7,8]):=⟨enters_of func146 krz rfl,λd w c b=>Axe d w c b.2.1.1 b.2.1.2⟩
theorem Aag:Ik 136 I4:=⟨enters_of func136 krz rfl,λd w c b=>Ar5 d w c b.2.1.1 b.2.1.2⟩
theorem Apg:Ik 140 Stil.Dev.isBit:=⟨enters_of func140 krz rfl,λd w c b=>Asa d.kind d.n d.p w c b.2.1.1 b.2.1.2⟩
theorem Gj:Ik 133 Stil.Dev.isWhole:=⟨enters_of func133 krz rfl,λd w c b=>Ak6 d.kind d.n d.p w c b.2.1.1 b.2.1.2⟩
theorem Iq:Ik 134 Stil.Dev.isReal:=⟨enters_of func134 krz rfl,λd w c b=>An9 d.kind d.n d.p w c b.2.1.1 b.2.1.2⟩
theorem Ami:F9 [] []:=⟨rfl,spz,λi h=>absurd h spz⟩
theorem A4c {p:Stil.Dev->Bool}(b:a≠0)(h:Ik a p):F9 [a] [p]:=⟨rfl,spz,λi c d=>by
 have:i=0:=by simp at c;omega
 subst this;exact⟨b,h⟩⟩
theorem Adj {b:Nat}{p q:Stil.Dev->Bool}(e:a≠0)(h:Ik a p)(c:b≠0)(k:Ik b q):F9 [a,b] [p,q]:=⟨rfl,spz,λi d f=>by
 have:i=0\/i=1:=by simp at d;omega
 rcases this with rfl | rfl
 ·exact⟨e,h⟩
 ·exact⟨c,k⟩⟩
theorem Azb {b c:Nat}{p q r:Stil.Dev->Bool}(f:a≠0)(h:Ik a p)(d:b≠0)(k:Ik b q)(g:c≠0)(m:Ik c r):F9 [a,b,c] [p,q,r]:=⟨rfl,spz,λi e j=>by
 have:i=0\/i=1\/i=2:=by simp at e;omega
 rcases this with rfl | rfl | rfl
 ·exact⟨f,h⟩
 ·exact⟨d,k⟩
 ·exact⟨g,m⟩⟩
def Ai (op:Int):List (Stil.Dev->Bool) × List (Stil.Dev->Bool):=
 if op=1 then([Stil.Dev.isBit],[]) else
 if op=2 then([Stil.Dev.isBit],[]) else
 if op=3 then([Stil.Dev.isBit,pl [5]],[]) else
 if op=4 then([Stil.Dev.isBit,pl [5]],[]) else
 if op=5 then([Stil.Dev.isWhole,Stil.Dev.isWhole],[Stil.Dev.isReal,Stil.Dev.isReal]) else
 if op=6 then([Stil.Dev.isWhole,Stil.Dev.isWhole],[Stil.Dev.isReal,Stil.Dev.isReal]) else
 if op=7 then([Stil.Dev.isWhole,Stil.Dev.isWhole],[Stil.Dev.isReal,Stil.Dev.isReal]) else
 if op=8 then([Stil.Dev.isWhole,Stil.Dev.isWhole],[Stil.Dev.isReal,Stil.Dev.isReal]) else
 if op=9 then([Stil.Dev.isWhole,Stil.Dev.isWhole],[Stil.Dev.isReal,Stil.Dev.isReal]) else
 if op=10 then([Stil.Dev.isWhole,Stil.Dev.isWhole],[Stil.Dev.isReal,Stil.Dev.isReal]) else
 if op=21 then([pl [2,3]],[]) else
 if op=22 then([pl [2,3,4]],[]) else
 if op=23 then([pl [2,3,4,7,8]],[]) else
 if op=24 then([pl [2,3],pl [5]],[]) else
 if op=25 then([pl [4]],[]) else
 if op=26 then([pl [7],I4],[]) else
 if op=27 then([pl [7],I4],[]) else
 if op=28 then([pl [7],I4],[]) else
 if op=29 then([pl [8],I4],[]) else
 if op=30 then([pl [9],Stil.Dev.isWhole],[pl [10],Stil.Dev.isReal]) else
 if op=31 then([pl [9],Stil.Dev.isWhole,Stil.Dev.isWhole],[pl [10],Stil.Dev.isReal,Stil.Dev.isReal]) else
 if op=32 then([pl [9],Stil.Dev.isWhole,Stil.Dev.isWhole],[pl [10],Stil.Dev.isReal,Stil.Dev.isReal]) else
 if op=33 then([pl [9],Stil.Dev.isWhole,Stil.Dev.isWhole],[pl [10],Stil.Dev.isReal,Stil.Dev.isReal]) else
 if op=34 then([pl [9],Stil.Dev.isWhole,Stil.Dev.isWhole],[pl [10],Stil.Dev.isReal,Stil.Dev.isReal]) else
 if op=35 then([pl [9],Stil.Dev.isWhole,Stil.Dev.isWhole],[]) else
 if op=36 then([pl [10],Stil.Dev.isWhole],[]) else
 if op=37 then([pl [9],Stil.Dev.isReal],[]) else
 ([],[])
theorem A1o:F9 (rowOf 1).2.2.1 (Ai 1).1/\F9 (rowOf 1).2.2.2 (Ai 1).2:=⟨A4c dcz Apg,Ami⟩
theorem A1n:F9 (rowOf 2).2.2.1 (Ai 2).1/\F9 (rowOf 2).2.2.2 (Ai 2).2:=⟨A4c dcz Apg,Ami⟩
theorem A1m:F9 (rowOf 3).2.2.1 (Ai 3).1/\F9 (rowOf 3).2.2.2 (Ai 3).2:=⟨Adj dcz Apg dcz A5i,Ami⟩
theorem A1l:F9 (rowOf 4).2.2.1 (Ai 4).1/\F9 (rowOf 4).2.2.2 (Ai 4).2:=⟨Adj dcz Apg dcz A5i,Ami⟩
theorem A1k:F9 (rowOf 5).2.2.1 (Ai 5).1/\F9 (rowOf 5).2.2.2 (Ai 5).2:=⟨Adj dcz Gj dcz Gj,Adj dcz Iq dcz Iq⟩
theorem A1j:F9 (rowOf 6).2.2.1 (Ai 6).1/\F9 (rowOf 6).2.2.2 (Ai 6).2:=⟨Adj dcz Gj dcz Gj,Adj dcz Iq dcz Iq⟩
theorem A1i:F9 (rowOf 7).2.2.1 (Ai 7).1/\F9 (rowOf 7).2.2.2 (Ai 7).2:=⟨Adj dcz Gj dcz Gj,Adj dcz Iq dcz Iq⟩
theorem A1h:F9 (rowOf 8).2.2.1 (Ai 8).1/\F9 (rowOf 8).2.2.2 (Ai 8).2:=⟨Adj dcz Gj dcz Gj,Adj dcz Iq dcz Iq⟩
theorem A1g:F9 (rowOf 9).2.2.1 (Ai 9).1/\F9 (rowOf 9).2.2.2 (Ai 9).2:=⟨Adj dcz Gj dcz Gj,Adj dcz Iq dcz Iq⟩
theorem Au5:F9 (rowOf 10).2.2.1 (Ai 10).1/\F9 (rowOf 10).2.2.2 (Ai 10).2:=⟨Adj dcz Gj dcz Gj,Adj dcz Iq dcz Iq⟩
theorem Au4:F9 (rowOf 21).2.2.1 (Ai 21).1/\F9 (rowOf 21).2.2.2 (Ai 21).2:=⟨A4c dcz A4s,Ami⟩
theorem Au3:F9 (rowOf 22).2.2.1 (Ai 22).1/\F9 (rowOf 22).2.2.2 (Ai 22).2:=⟨A4c dcz A4r,Ami⟩
theorem Au2:F9 (rowOf 23).2.2.1 (Ai 23).1/\F9 (rowOf 23).2.2.2 (Ai 23).2:=⟨A4c dcz Az0,Ami⟩
theorem Au1:F9 (rowOf 24).2.2.1 (Ai 24).1/\F9 (rowOf 24).2.2.2 (Ai 24).2:=⟨Adj dcz A4s dcz A5i,Ami⟩
theorem Au0:F9 (rowOf 25).2.2.1 (Ai 25).1/\F9 (rowOf 25).2.2.2 (Ai 25).2:=⟨A4c dcz A5w,Ami⟩
theorem Auz:F9 (rowOf 26).2.2.1 (Ai 26).1/\F9 (rowOf 26).2.2.2 (Ai 26).2:=⟨Adj dcz A5h dcz Aag,Ami⟩
theorem Auy:F9 (rowOf 27).2.2.1 (Ai 27).1/\F9 (rowOf 27).2.2.2 (Ai 27).2:=⟨Adj dcz A5h dcz Aag,Ami⟩
theorem Aux:F9 (rowOf 28).2.2.1 (Ai 28).1/\F9 (rowOf 28).2.2.2 (Ai 28).2:=⟨Adj dcz A5h dcz Aag,Ami⟩
theorem Auw:F9 (rowOf 29).2.2.1 (Ai 29).1/\F9 (rowOf 29).2.2.2 (Ai 29).2:=⟨Adj dcz A5x dcz Aag,Ami⟩
theorem Auv:F9 (rowOf 30).2.2.1 (Ai 30).1/\F9 (rowOf 30).2.2.2 (Ai 30).2:=⟨Adj dcz A2w dcz Gj,Adj dcz A4d dcz Iq⟩
theorem Auu:F9 (rowOf 31).2.2.1 (Ai 31).1/\F9 (rowOf 31).2.2.2 (Ai 31).2:=⟨Azb dcz A2w dcz Gj dcz Gj,Azb dcz A4d dcz Iq dcz Iq⟩
theorem Aut:F9 (rowOf 32).2.2.1 (Ai 32).1/\F9 (rowOf 32).2.2.2 (Ai 32).2:=⟨Azb dcz A2w dcz Gj dcz Gj,Azb dcz A4d dcz Iq dcz Iq⟩
theorem Aus:F9 (rowOf 33).2.2.1 (Ai 33).1/\F9 (rowOf 33).2.2.2 (Ai 33).2:=⟨Azb dcz A2w dcz Gj dcz Gj,Azb dcz A4d dcz Iq dcz Iq⟩
theorem Aur:F9 (rowOf 34).2.2.1 (Ai 34).1/\F9 (rowOf 34).2.2.2 (Ai 34).2:=⟨Azb dcz A2w dcz Gj dcz Gj,Azb dcz A4d dcz Iq dcz Iq⟩
theorem Auq:F9 (rowOf 35).2.2.1 (Ai 35).1/\F9 (rowOf 35).2.2.2 (Ai 35).2:=⟨Azb dcz A2w dcz Gj dcz Gj,Ami⟩
theorem Aup:F9 (rowOf 36).2.2.1 (Ai 36).1/\F9 (rowOf 36).2.2.2 (Ai 36).2:=⟨Adj dcz A4d dcz Gj,Ami⟩
theorem Auo:F9 (rowOf 37).2.2.1 (Ai 37).1/\F9 (rowOf 37).2.2.2 (Ai 37).2:=⟨Adj dcz A2w dcz Iq,Ami⟩
theorem Alj (e:List Stil.Dev):(Ad (Ai 1).1 e || Ad (Ai 1).2 e)=Ae 1 e:=by
 rw[show Ai 1=([Stil.Dev.isBit],[]) from rfl]
 match e with
 | []=>simp[Ad,Ae]
 | [a]=>(simp[Ad,Ah,Ae,Stil.Dev.isBit];try grind)
 | [a,b]=>(simp[Ad,Ah,Ae,Stil.Dev.isBit];try grind)
 | [a,b,c]=>(simp[Ad,Ah,Ae,Stil.Dev.isBit];try grind)
 | a::b::c::d::r=>simp[Ad,Ah,Ae];try omega
theorem Ali (e:List Stil.Dev):(Ad (Ai 2).1 e || Ad (Ai 2).2 e)=Ae 2 e:=by
 rw[show Ai 2=([Stil.Dev.isBit],[]) from rfl]
 match e with
 | []=>simp[Ad,Ae]
 | [a]=>(simp[Ad,Ah,Ae,Stil.Dev.isBit];try grind)
 | [a,b]=>(simp[Ad,Ah,Ae,Stil.Dev.isBit];try grind)
 | [a,b,c]=>(simp[Ad,Ah,Ae,Stil.Dev.isBit];try grind)
 | a::b::c::d::r=>simp[Ad,Ah,Ae];try omega
theorem Alh (e:List Stil.Dev):(Ad (Ai 3).1 e || Ad (Ai 3).2 e)=Ae 3 e:=by
 rw[show Ai 3=([Stil.Dev.isBit,pl [5]],[]) from rfl]
 match e with
 | []=>simp[Ad,Ae]
 | [a]=>(simp[Ad,Ah,Ae,Stil.Dev.isBit];try grind)
 | [a,b]=>(simp[Ad,Ah,Ae,pl,Stil.Dev.ok,Stil.Dev.isBit];try grind)
 | [a,b,c]=>(simp[Ad,Ah,Ae,pl,Stil.Dev.ok,Stil.Dev.isBit];try grind)
 | a::b::c::d::r=>simp[Ad,Ah,Ae];try omega
theorem Alg (e:List Stil.Dev):(Ad (Ai 4).1 e || Ad (Ai 4).2 e)=Ae 4 e:=by
 rw[show Ai 4=([Stil.Dev.isBit,pl [5]],[]) from rfl]
 match e with
 | []=>simp[Ad,Ae]
 | [a]=>(simp[Ad,Ah,Ae,Stil.Dev.isBit];try grind)
 | [a,b]=>(simp[Ad,Ah,Ae,pl,Stil.Dev.ok,Stil.Dev.isBit];try grind)
 | [a,b,c]=>(simp[Ad,Ah,Ae,pl,Stil.Dev.ok,Stil.Dev.isBit];try grind)
 | a::b::c::d::r=>simp[Ad,Ah,Ae];try omega
theorem Alf (e:List Stil.Dev):(Ad (Ai 5).1 e || Ad (Ai 5).2 e)=Ae 5 e:=by
 rw[show Ai 5=([Stil.Dev.isWhole,Stil.Dev.isWhole],[Stil.Dev.isReal,Stil.Dev.isReal]) from rfl]
 match e with
 | []=>simp[Ad,Ae]
 | [a]=>(simp[Ad,Ah,Ae,Stil.Dev.isBit,Stil.Dev.isWhole,Stil.Dev.isReal];try grind)
 | [a,b]=>(simp[Ad,Ah,Ae,Stil.Dev.isWhole,Stil.Dev.isReal];try grind)
 | [a,b,c]=>(simp[Ad,Ah,Ae,Stil.Dev.isWhole,Stil.Dev.isReal];try grind)
 | a::b::c::d::r=>simp[Ad,Ah,Ae];try omega
theorem Ale (e:List Stil.Dev):(Ad (Ai 6).1 e || Ad (Ai 6).2 e)=Ae 6 e:=by
 rw[show Ai 6=([Stil.Dev.isWhole,Stil.Dev.isWhole],[Stil.Dev.isReal,Stil.Dev.isReal]) from rfl]
 match e with
 | []=>simp[Ad,Ae]
 | [a]=>(simp[Ad,Ah,Ae,Stil.Dev.isBit,Stil.Dev.isWhole,Stil.Dev.isReal];try grind)
 | [a,b]=>(simp[Ad,Ah,Ae,Stil.Dev.isWhole,Stil.Dev.isReal];try grind)
 | [a,b,c]=>(simp[Ad,Ah,Ae,Stil.Dev.isWhole,Stil.Dev.isReal];try grind)
 | a::b::c::d::r=>simp[Ad,Ah,Ae];try omega
theorem Ald (e:List Stil.Dev):(Ad (Ai 7).1 e || Ad (Ai 7).2 e)=Ae 7 e:=by
 rw[show Ai 7=([Stil.Dev.isWhole,Stil.Dev.isWhole],[Stil.Dev.isReal,Stil.Dev.isReal]) from rfl]
 match e with
 | []=>simp[Ad,Ae]
 | [a]=>(simp[Ad,Ah,Ae,Stil.Dev.isBit,Stil.Dev.isWhole,Stil.Dev.isReal];try grind)
 | [a,b]=>(simp[Ad,Ah,Ae,Stil.Dev.isWhole,Stil.Dev.isReal];try grind)
 | [a,b,c]=>(simp[Ad,Ah,Ae,Stil.Dev.isWhole,Stil.Dev.isReal];try grind)
 | a::b::c::d::r=>simp[Ad,Ah,Ae];try omega
theorem Alc (e:List Stil.Dev):(Ad (Ai 8).1 e || Ad (Ai 8).2 e)=Ae 8 e:=by
 rw[show Ai 8=([Stil.Dev.isWhole,Stil.Dev.isWhole],[Stil.Dev.isReal,Stil.Dev.isReal]) from rfl]
 match e with
 | []=>simp[Ad,Ae]
 | [a]=>(simp[Ad,Ah,Ae,Stil.Dev.isBit,Stil.Dev.isWhole,Stil.Dev.isReal];try grind)
 | [a,b]=>(simp[Ad,Ah,Ae,Stil.Dev.isWhole,Stil.Dev.isReal];try grind)
 | [a,b,c]=>(simp[Ad,Ah,Ae,Stil.Dev.isWhole,Stil.Dev.isReal];try grind)
 | a::b::c::d::r=>simp[Ad,Ah,Ae];try omega
theorem Alb (e:List Stil.Dev):(Ad (Ai 9).1 e || Ad (Ai 9).2 e)=Ae 9 e:=by
 rw[show Ai 9=([Stil.Dev.isWhole,Stil.Dev.isWhole],[Stil.Dev.isReal,Stil.Dev.isReal]) from rfl]
 match e with
 | []=>simp[Ad,Ae]
 | [a]=>(simp[Ad,Ah,Ae,Stil.Dev.isBit,Stil.Dev.isWhole,Stil.Dev.isReal];try grind)
 | [a,b]=>(simp[Ad,Ah,Ae,Stil.Dev.isWhole,Stil.Dev.isReal];try grind)
 | [a,b,c]=>(simp[Ad,Ah,Ae,Stil.Dev.isWhole,Stil.Dev.isReal];try grind)
 | a::b::c::d::r=>simp[Ad,Ah,Ae];try omega
theorem Aiy (e:List Stil.Dev):(Ad (Ai 10).1 e || Ad (Ai 10).2 e)=Ae 10 e:=by
 rw[show Ai 10=([Stil.Dev.isWhole,Stil.Dev.isWhole],[Stil.Dev.isReal,Stil.Dev.isReal]) from rfl]
 match e with
 | []=>simp[Ad,Ae]
 | [a]=>(simp[Ad,Ah,Ae,Stil.Dev.isBit,Stil.Dev.isWhole,Stil.Dev.isReal];try grind)
 | [a,b]=>(simp[Ad,Ah,Ae,Stil.Dev.isWhole,Stil.Dev.isReal];try grind)
 | [a,b,c]=>(simp[Ad,Ah,Ae,Stil.Dev.isWhole,Stil.Dev.isReal];try grind)
 | a::b::c::d::r=>simp[Ad,Ah,Ae];try omega
theorem As9 (e:List Stil.Dev):(Ad (Ai 21).1 e || Ad (Ai 21).2 e)=Ak 21 e:=by
 rw[show Ai 21=([pl [2,3]],[]) from rfl]
 match e with
 | []=>simp[Ad,Ak,Stil.arity]
 | [a]=>(simp[Ad,Ah,Ak,Stil.arity,pl,Stil.Dev.kindIs,Ic,Stil.Dev.ok];try grind)
 | [a,b]=>(simp[Ad,Ah,Ak,Stil.arity,pl,Stil.Dev.ok];try grind)
 | [a,b,c]=>(simp[Ad,Ah,Ak,Stil.arity,pl,Stil.Dev.ok];try grind)
 | a::b::c::d::r=>simp[Ad,Ah,Ak,Stil.arity];try omega
theorem As8 (e:List Stil.Dev):(Ad (Ai 22).1 e || Ad (Ai 22).2 e)=Ak 22 e:=by
 rw[show Ai 22=([pl [2,3,4]],[]) from rfl]
 match e with
 | []=>simp[Ad,Ak,Stil.arity]
 | [a]=>(simp[Ad,Ah,Ak,Stil.arity,pl,Stil.Dev.kindIs,Ic,Stil.Dev.ok];try grind)
 | [a,b]=>(simp[Ad,Ah,Ak,Stil.arity,pl,Stil.Dev.ok];try grind)
 | [a,b,c]=>(simp[Ad,Ah,Ak,Stil.arity,pl,Stil.Dev.ok];try grind)
 | a::b::c::d::r=>simp[Ad,Ah,Ak,Stil.arity];try omega
theorem As7 (e:List Stil.Dev):(Ad (Ai 23).1 e || Ad (Ai 23).2 e)=Ak 23 e:=by
 rw[show Ai 23=([pl [2,3,4,7,8]],[]) from rfl]
 match e with
 | []=>simp[Ad,Ak,Stil.arity]
 | [a]=>(simp[Ad,Ah,Ak,Stil.arity,pl,Stil.Dev.kindIs,Ic,Stil.Dev.ok];try grind)
 | [a,b]=>(simp[Ad,Ah,Ak,Stil.arity,pl,Stil.Dev.ok];try grind)
 | [a,b,c]=>(simp[Ad,Ah,Ak,Stil.arity,pl,Stil.Dev.ok];try grind)
 | a::b::c::d::r=>simp[Ad,Ah,Ak,Stil.arity];try omega
theorem As6 (e:List Stil.Dev):(Ad (Ai 24).1 e || Ad (Ai 24).2 e)=Ak 24 e:=by
 rw[show Ai 24=([pl [2,3],pl [5]],[]) from rfl]
 match e with
 | []=>simp[Ad,Ak,Stil.arity]
 | [a]=>(simp[Ad,Ah,Ak,Stil.arity,pl,Stil.Dev.ok];try grind)
 | [a,b]=>(simp[Ad,Ah,Ak,Stil.arity,pl,Stil.Dev.kindIs,Ic,Stil.Dev.ok];try grind)
 | [a,b,c]=>(simp[Ad,Ah,Ak,Stil.arity,pl,Stil.Dev.ok];try grind)
 | a::b::c::d::r=>simp[Ad,Ah,Ak,Stil.arity];try omega
theorem As5 (e:List Stil.Dev):(Ad (Ai 25).1 e || Ad (Ai 25).2 e)=Ak 25 e:=by
 rw[show Ai 25=([pl [4]],[]) from rfl]
 match e with
 | []=>simp[Ad,Ak,Stil.arity]
 | [a]=>(simp[Ad,Ah,Ak,Stil.arity,pl,Stil.Dev.kindIs,Ic,Stil.Dev.ok];try grind)
 | [a,b]=>(simp[Ad,Ah,Ak,Stil.arity,pl,Stil.Dev.ok];try grind)
 | [a,b,c]=>(simp[Ad,Ah,Ak,Stil.arity,pl,Stil.Dev.ok];try grind)
 | a::b::c::d::r=>simp[Ad,Ah,Ak,Stil.arity];try omega
theorem As4 (e:List Stil.Dev):(Ad (Ai 26).1 e || Ad (Ai 26).2 e)=Ak 26 e:=by
 rw[show Ai 26=([pl [7],I4],[]) from rfl]
 match e with
 | []=>simp[Ad,Ak,Stil.arity]
 | [a]=>(simp[Ad,Ah,Ak,Stil.arity,pl,Stil.Dev.ok];try grind)
 | [a,b]=>(simp[Ad,Ah,Ak,Stil.arity,pl,I4,Stil.Dev.kindIs,Ic,Stil.Dev.ok];try grind)
 | [a,b,c]=>(simp[Ad,Ah,Ak,Stil.arity,pl,I4,Stil.Dev.ok];try grind)
 | a::b::c::d::r=>simp[Ad,Ah,Ak,Stil.arity];try omega
theorem As3 (e:List Stil.Dev):(Ad (Ai 27).1 e || Ad (Ai 27).2 e)=Ak 27 e:=by
 rw[show Ai 27=([pl [7],I4],[]) from rfl]
 match e with
 | []=>simp[Ad,Ak,Stil.arity]
 | [a]=>(simp[Ad,Ah,Ak,Stil.arity,pl,Stil.Dev.ok];try grind)
 | [a,b]=>(simp[Ad,Ah,Ak,Stil.arity,pl,I4,Stil.Dev.kindIs,Ic,Stil.Dev.ok];try grind)
 | [a,b,c]=>(simp[Ad,Ah,Ak,Stil.arity,pl,I4,Stil.Dev.ok];try grind)
 | a::b::c::d::r=>simp[Ad,Ah,Ak,Stil.arity];try omega
theorem As2 (e:List Stil.Dev):(Ad (Ai 28).1 e || Ad (Ai 28).2 e)=Ak 28 e:=by
 rw[show Ai 28=([pl [7],I4],[]) from rfl]
 match e with
 | []=>simp[Ad,Ak,Stil.arity]
 | [a]=>(simp[Ad,Ah,Ak,Stil.arity,pl,Stil.Dev.ok];try grind)
 | [a,b]=>(simp[Ad,Ah,Ak,Stil.arity,pl,I4,Stil.Dev.kindIs,Ic,Stil.Dev.ok];try grind)
 | [a,b,c]=>(simp[Ad,Ah,Ak,Stil.arity,pl,I4,Stil.Dev.ok];try grind)
 | a::b::c::d::r=>simp[Ad,Ah,Ak,Stil.arity];try omega
theorem As1 (e:List Stil.Dev):(Ad (Ai 29).1 e || Ad (Ai 29).2 e)=Ak 29 e:=by
 rw[show Ai 29=([pl [8],I4],[]) from rfl]
 match e with
 | []=>simp[Ad,Ak,Stil.arity]
 | [a]=>(simp[Ad,Ah,Ak,Stil.arity,pl,Stil.Dev.ok];try grind)
 | [a,b]=>(simp[Ad,Ah,Ak,Stil.arity,pl,I4,Stil.Dev.kindIs,Ic,Stil.Dev.ok];try grind)
 | [a,b,c]=>(simp[Ad,Ah,Ak,Stil.arity,pl,I4,Stil.Dev.ok];try grind)
 | a::b::c::d::r=>simp[Ad,Ah,Ak,Stil.arity];try omega
theorem As0 (e:List Stil.Dev):(Ad (Ai 30).1 e || Ad (Ai 30).2 e)=Ak 30 e:=by
 rw[show Ai 30=([pl [9],Stil.Dev.isWhole],[pl [10],Stil.Dev.isReal]) from rfl]
 match e with
 | []=>simp[Ad,Ak,Stil.arity]
 | [a]=>(simp[Ad,Ah,Ak,Stil.arity,pl,Stil.Dev.ok];try grind)
 | [a,b]=>(simp[Ad,Ah,Ak,Stil.arity,Wi,I7,pl,Stil.Dev.kindIs,Ic,Stil.Dev.ok,Stil.Dev.isWhole,Stil.Dev.isReal];try grind)
 | [a,b,c]=>(simp[Ad,Ah,Ak,Stil.arity,pl,Stil.Dev.ok,Stil.Dev.isWhole,Stil.Dev.isReal];try grind)
 | a::b::c::d::r=>simp[Ad,Ah,Ak,Stil.arity];try omega
theorem z7 {p:Prop}(h:p:=by
 (simp[Ad,Ah,Ak,Stil.arity,Wi,I7,pl,Stil.Dev.kindIs,Ic,Stil.Dev.ok,Stil.Dev.isWhole,Stil.Dev.isReal];try grind)):p:=h
theorem Asz (e:List Stil.Dev):(Ad (Ai 31).1 e || Ad (Ai 31).2 e)=Ak 31 e:=by
 rw[show Ai 31=([pl [9],Stil.Dev.isWhole,Stil.Dev.isWhole],[pl [10],Stil.Dev.isReal,Stil.Dev.isReal]) from rfl]
 match e with
 | []=>simp[Ad,Ak,Stil.arity]
 | [a]=>(simp[Ad,Ah,Ak,Stil.arity,pl,Stil.Dev.ok];try grind)
 | [a,b]=>(simp[Ad,Ah,Ak,Stil.arity,pl,Stil.Dev.ok,Stil.Dev.isWhole,Stil.Dev.isReal];try grind)
 | [a,b,c]=>exact z7
 | a::b::c::d::r=>simp[Ad,Ah,Ak,Stil.arity];try omega
theorem Asy (e:List Stil.Dev):(Ad (Ai 32).1 e || Ad (Ai 32).2 e)=Ak 32 e:=by
 rw[show Ai 32=([pl [9],Stil.Dev.isWhole,Stil.Dev.isWhole],[pl [10],Stil.Dev.isReal,Stil.Dev.isReal]) from rfl]
 match e with
 | []=>simp[Ad,Ak,Stil.arity]
 | [a]=>(simp[Ad,Ah,Ak,Stil.arity,pl,Stil.Dev.ok];try grind)
 | [a,b]=>(simp[Ad,Ah,Ak,Stil.arity,pl,Stil.Dev.ok,Stil.Dev.isWhole,Stil.Dev.isReal];try grind)
 | [a,b,c]=>exact z7
 | a::b::c::d::r=>simp[Ad,Ah,Ak,Stil.arity];try omega
theorem Asx (e:List Stil.Dev):(Ad (Ai 33).1 e || Ad (Ai 33).2 e)=Ak 33 e:=by
 rw[show Ai 33=([pl [9],Stil.Dev.isWhole,Stil.Dev.isWhole],[pl [10],Stil.Dev.isReal,Stil.Dev.isReal]) from rfl]
 match e with
 | []=>simp[Ad,Ak,Stil.arity]
 | [a]=>(simp[Ad,Ah,Ak,Stil.arity,pl,Stil.Dev.ok];try grind)
 | [a,b]=>(simp[Ad,Ah,Ak,Stil.arity,pl,Stil.Dev.ok,Stil.Dev.isWhole,Stil.Dev.isReal];try grind)
 | [a,b,c]=>exact z7
 | a::b::c::d::r=>simp[Ad,Ah,Ak,Stil.arity];try omega
theorem Asw (e:List Stil.Dev):(Ad (Ai 34).1 e || Ad (Ai 34).2 e)=Ak 34 e:=by
 rw[show Ai 34=([pl [9],Stil.Dev.isWhole,Stil.Dev.isWhole],[pl [10],Stil.Dev.isReal,Stil.Dev.isReal]) from rfl]
 match e with
 | []=>simp[Ad,Ak,Stil.arity]
 | [a]=>(simp[Ad,Ah,Ak,Stil.arity,pl,Stil.Dev.ok];try grind)
 | [a,b]=>(simp[Ad,Ah,Ak,Stil.arity,pl,Stil.Dev.ok,Stil.Dev.isWhole,Stil.Dev.isReal];try grind)
 | [a,b,c]=>exact z7
 | a::b::c::d::r=>simp[Ad,Ah,Ak,Stil.arity];try omega
theorem Asv (e:List Stil.Dev):(Ad (Ai 35).1 e || Ad (Ai 35).2 e)=Ak 35 e:=by
 rw[show Ai 35=([pl [9],Stil.Dev.isWhole,Stil.Dev.isWhole],[]) from rfl]
 match e with
 | []=>simp[Ad,Ak,Stil.arity]
 | [a]=>(simp[Ad,Ah,Ak,Stil.arity,pl,Stil.Dev.ok];try grind)
 | [a,b]=>(simp[Ad,Ah,Ak,Stil.arity,pl,Stil.Dev.ok,Stil.Dev.isWhole];try grind)
 | [a,b,c]=>exact z7
 | a::b::c::d::r=>simp[Ad,Ah,Ak,Stil.arity];try omega
theorem Asu (e:List Stil.Dev):(Ad (Ai 36).1 e || Ad (Ai 36).2 e)=Ak 36 e:=by
 rw[show Ai 36=([pl [10],Stil.Dev.isWhole],[]) from rfl]
 match e with
 | []=>simp[Ad,Ak,Stil.arity]
 | [a]=>(simp[Ad,Ah,Ak,Stil.arity,pl,Stil.Dev.ok];try grind)
 | [a,b]=>(simp[Ad,Ah,Ak,Stil.arity,pl,Stil.Dev.kindIs,Ic,Stil.Dev.ok,Stil.Dev.isWhole];try grind)
 | [a,b,c]=>(simp[Ad,Ah,Ak,Stil.arity,pl,Stil.Dev.ok,Stil.Dev.isWhole];try grind)
 | a::b::c::d::r=>simp[Ad,Ah,Ak,Stil.arity];try omega
theorem Ass (e:List Stil.Dev):(Ad (Ai 37).1 e || Ad (Ai 37).2 e)=Ak 37 e:=by
 rw[show Ai 37=([pl [9],Stil.Dev.isReal],[]) from rfl]
 match e with
 | []=>simp[Ad,Ak,Stil.arity]
 | [a]=>(simp[Ad,Ah,Ak,Stil.arity,pl,Stil.Dev.ok];try grind)
 | [a,b]=>(simp[Ad,Ah,Ak,Stil.arity,pl,Stil.Dev.kindIs,Ic,Stil.Dev.ok,Stil.Dev.isReal];try grind)
 | [a,b,c]=>(simp[Ad,Ah,Ak,Stil.arity,pl,Stil.Dev.ok,Stil.Dev.isReal];try grind)
 | a::b::c::d::r=>simp[Ad,Ah,Ak,Stil.arity];try omega
theorem Ala (op:Int)(h1:1<=op)(c:op<=10):F9 (rowOf op).2.2.1 (Ai op).1/\F9 (rowOf op).2.2.2 (Ai op).2/\∀b,(Ad (Ai op).1 b || Ad (Ai op).2 b)=Ae op b:=by
 have h:op=1\/op=2\/op=3\/op=4\/op=5\/op=6\/op=7\/op=8\/op=9\/op=10:=omz
 rcases h with rfl | rfl | rfl | rfl | rfl | rfl | rfl | rfl | rfl | rfl
 ·exact⟨A1o.1,A1o.2,Alj⟩
 ·exact⟨A1n.1,A1n.2,Ali⟩
 ·exact⟨A1m.1,A1m.2,Alh⟩
 ·exact⟨A1l.1,A1l.2,Alg⟩
 ·exact⟨A1k.1,A1k.2,Alf⟩
 ·exact⟨A1j.1,A1j.2,Ale⟩
 ·exact⟨A1i.1,A1i.2,Ald⟩
 ·exact⟨A1h.1,A1h.2,Alc⟩
 ·exact⟨A1g.1,A1g.2,Alb⟩
 ·exact⟨Au5.1,Au5.2,Aiy⟩
theorem Ax7 (op:Int)(h1:21<=op)(c:op<=37):F9 (rowOf op).2.2.1 (Ai op).1/\F9 (rowOf op).2.2.2 (Ai op).2/\∀b,(Ad (Ai op).1 b || Ad (Ai op).2 b)=Ak op b:=by
 have h:op=21\/op=22\/op=23\/op=24\/op=25\/op=26\/op=27\/op=28\/op=29\/op=30\/op=31\/op=32\/op=33\/op=34\/op=35\/op=36\/op=37:=omz
 rcases h with rfl | rfl | rfl | rfl | rfl | rfl | rfl | rfl | rfl | rfl | rfl | rfl | rfl | rfl | rfl | rfl | rfl
 ·exact⟨Au4.1,Au4.2,As9⟩
 ·exact⟨Au3.1,Au3.2,As8⟩
 ·exact⟨Au2.1,Au2.2,As7⟩
 ·exact⟨Au1.1,Au1.2,As6⟩
 ·exact⟨Au0.1,Au0.2,As5⟩
 ·exact⟨Auz.1,Auz.2,As4⟩
 ·exact⟨Auy.1,Auy.2,As3⟩
 ·exact⟨Aux.1,Aux.2,As2⟩
 ·exact⟨Auw.1,Auw.2,As1⟩
 ·exact⟨Auv.1,Auv.2,As0⟩
 ·exact⟨Auu.1,Auu.2,Asz⟩
 ·exact⟨Aut.1,Aut.2,Asy⟩
 ·exact⟨Aus.1,Aus.2,Asx⟩
 ·exact⟨Aur.1,Aur.2,Asw⟩
 ·exact⟨Auq.1,Auq.2,Asv⟩
 ·exact⟨Aup.1,Aup.2,Asu⟩
 ·exact⟨Auo.1,Auo.2,Ass⟩
theorem Aaq (op:Int)(w:World):
  Calls prog 128 #[.int .i64 op] w λe f=>e=.returned (.bool (decide (1<=op/\op<=10)))/\f=w:=by
 by_cases d:1<=op
 ·by_cases b:op<=10
  ·have c:decide (op<=10)=true:=by simpa using b
   go_enter func128,ntmps128
   go_wp2
   all_goals go_ret
   all_goals exact⟨Ap yBa,rfl⟩
  ·have c:decide (op<=10)=false:=by simpa using b
   go_enter func128,ntmps128
   go_wp2
   all_goals go_ret
   all_goals exact⟨Ap yBa,rfl⟩
 ·have g:decide (1<=op)=false:=by simpa using d
  go_enter func128,ntmps128
  go_wp2
  all_goals go_ret
  all_goals exact⟨Ap yBa,rfl⟩
theorem Arh {b:List Stil.Dev}(h:¬(1<=op/\op<=10)):Ae op b=false:=by unfold Ae;rw[if_pos omz]
theorem An7 (op:Int)(v:Value)(b:List Stil.Dev)(w:World)(hr:Em w)(c:Dh w v b)(m:∀d∈b,d.fits)(hl:b.length<=9223372036854775807):
  Calls prog 123 #[.agg #[.int .i64 op,v]] w λe f=>e=.returned (.bool (Ae op b))/\Below w.heap.size w f:=by
 by_cases h:1<=op/\op<=10
 ·obtain⟨i,q1,g⟩:=Ala op h.1 h.2
  have l:Hid (∀W,Below w.heap.size w W->Calls prog 125 #[.agg #[.int .i64 op,v]] W λe f=>e=.returned (.bool (Ae op b))/\Below W.heap.size W f):=by
   intro W j;rw[<-g];exact A1x op _ _ v b W (hr.below j) i q1 (c.below j) m hl
  obtain⟨a,cap,rfl,_⟩:=c;have hd:decide (1<=op/\op<=10)=true:=by simpa using h
  clear i q1 g hr h;go_enter func123,ntmps123
  go_wp2_with (first | (go_at_call 128;refine(Aaq _ _).mono ?_;rw[hd];rintro e o ⟨rfl,rfl⟩) | (go_at_call 125;refine(l _ (Aa _ _)).mono ?_;rintro e p ⟨rfl,k⟩))
  go_ret;exact⟨rfl,Ry k⟩
 ·have n:Hid (Ae op b=false):=Arh h
  obtain⟨a,cap,rfl,_⟩:=c;have hd:decide (1<=op/\op<=10)=false:=by simpa using h
  clear hr h;go_enter func123,ntmps123
  go_wp2_with (go_at_call 128;refine(Aaq _ _).mono ?_;rw[hd];rintro e o ⟨rfl,rfl⟩)
  go_ret;exact⟨Ap n.symm,Aa _ _⟩
theorem Ag8 (op:Int)(w:World):
  Calls prog 124 #[.int .i64 op] w λe f=>e=.returned (.bool (decide (21<=op/\op<=37)))/\f=w:=by
 by_cases d:21<=op
 ·by_cases b:op<=37
  ·have c:decide (op<=37)=true:=by simpa using b
   go_enter func124,ntmps124
   go_wp2
   all_goals go_ret
   all_goals exact⟨Ap yBa,rfl⟩
  ·have c:decide (op<=37)=false:=by simpa using b
   go_enter func124,ntmps124
   go_wp2
   all_goals go_ret
   all_goals exact⟨Ap yBa,rfl⟩
 ·have g:decide (21<=op)=false:=by simpa using d
  go_enter func124,ntmps124
  go_wp2
  all_goals go_ret
  all_goals exact⟨Ap yBa,rfl⟩
theorem A2z {b:List Stil.Dev}(h:¬(21<=op/\op<=37)):Ak op b=false:=by unfold Ak;rw[if_pos omz]
theorem Apu (op:Int)(v:Value)(b:List Stil.Dev)(w:World)(hr:Em w)(c:Dh w v b)(m:∀d∈b,d.fits)(hl:b.length<=9223372036854775807):
  Calls prog 117 #[.agg #[.int .i64 op,v]] w λe f=>e=.returned (.bool (Ak op b))/\Below w.heap.size w f:=by
 by_cases h:21<=op/\op<=37
 ·obtain⟨i,q1,g⟩:=Ax7 op h.1 h.2
  have l:Hid (∀W,Below w.heap.size w W->Calls prog 125 #[.agg #[.int .i64 op,v]] W λe f=>e=.returned (.bool (Ak op b))/\Below W.heap.size W f):=by
   intro W j;rw[<-g];exact A1x op _ _ v b W (hr.below j) i q1 (c.below j) m hl
  obtain⟨a,cap,rfl,_⟩:=c;have hd:decide (21<=op/\op<=37)=true:=by simpa using h
  clear i q1 g hr h;go_enter func117,ntmps117
  go_wp2_with (first | (go_at_call 124;refine(Ag8 _ _).mono ?_;rw[hd];rintro e o ⟨rfl,rfl⟩) | (go_at_call 125;refine(l _ (Aa _ _)).mono ?_;rintro e p ⟨rfl,k⟩))
  go_ret;exact⟨rfl,Ry k⟩
 ·have n:Hid (Ak op b=false):=A2z h
  obtain⟨a,cap,rfl,_⟩:=c;have hd:decide (21<=op/\op<=37)=false:=by simpa using h
  clear hr h;go_enter func117,ntmps117
  go_wp2_with (go_at_call 124;refine(Ag8 _ _).mono ?_;rw[hd];rintro e o ⟨rfl,rfl⟩)
  go_ret;exact⟨Ap n.symm,Aa _ _⟩
end Go.Proofs.YtnpfcnolmkanfaaGreatDoor
