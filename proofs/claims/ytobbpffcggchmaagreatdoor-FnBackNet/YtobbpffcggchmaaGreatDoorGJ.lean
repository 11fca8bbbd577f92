import Derived.Test.YtobbpffcggchmaaGreatDoorI3
import Derived.LoopN
import Derived.Shelf.Abstract
set_option maxHeartbeats 4000000
set_option maxRecDepth 100000
namespace Go.Proofs.YtobbpffcggchmaaGreatDoor
open Tryz
open Stil
open Go.RowKit Go.Sort Go.BigFrame
variable {a:Nat}{op:Int}
theorem A1h:Jn.length=304:=krz
theorem A7k:∀(l:List (List UInt8 × Nat × List Nat × List Nat)) (m j:Nat),j<8->(l.flatMap Pz)[m*8+j]?=(l[m]?).bind (λr=>(Pz r)[j]?)
 | [],m,j,_=>by simp
 | r::l,m,j,b=>by
  rw[List.flatMap_cons];cases m with
  | zero=>rw[Bcf (by simp[Pz];omega)];simp
  | succ k=>
   rw[Bb9 (by simp[Pz];omega)];have:=A7k l k j b
   rw[show(k+1)*8+j - (Pz r).length=k*8+j from by simp[Pz];omega];simpa using this
def rowOf (op:Int):List UInt8 × Nat × List Nat × List Nat:=if 0<=op/\op<38 then Aje.getD op.toNat ([],0,[],[]) else([],0,[],[])
theorem Aw4 (W:World)(t:TypeId)(m j:Nat)(e:m<38)(c:j<8):(W.alloc (.cells Jn.toArray t)).cell? ⟨W.heap.size,m*8+j,none⟩=(Pz (rowOf m))[j]?:=by
 have b:(W.alloc (.cells Jn.toArray t)).cell? ⟨W.heap.size,m*8+j,none⟩=Jn[m*8+j]?:=by
  rw[cell_of_row _ _ _ _ _ _ (heap_alloc_last W _)];simp
 have d:Aje.length=38:=krz
 rw[b,Jn,A7k _ _ _ c,rowOf,if_pos omz];simp[A9k (show m<Aje.length by omega)]
theorem Oq (n:Nat)(P:Program)(w:World)(a:Addr)(m:Mode):(store a (fnv n) m).run P w=stored P w a (fnv n) m:=run_store P w a _ m (by unfold fnv;split<;>rfl)
def Ag7 (r:List UInt8 × Nat × List Nat × List Nat):Value:=.agg #[.string ⟨r.1.toArray⟩,fnv r.2.1,fnv (r.2.2.1.getD 0 0),fnv (r.2.2.1.getD 1 0),fnv (r.2.2.1.getD 2 0),fnv (r.2.2.2.getD 0 0),fnv (r.2.2.2.getD 1 0),fnv (r.2.2.2.getD 2 0)]
theorem A5j (op:Int)(w:World):
  Calls prog 116 #[.int .i64 op] w λe S=>e=.returned (Ag7 (rowOf op))/\Below w.heap.size w S:=by
 have V:=A1h;by_cases h:0<=op/\op<38
 ·obtain⟨m,rfl⟩:=Baj h.1
  have U:m<38:=omz
  have X:=Oq;obtain⟨r,F⟩:∃r,r=rowOf (m:Int):=⟨_,rfl⟩
  obtain⟨s,C⟩:∃s,s=r.1:=⟨_,rfl⟩
  obtain⟨z,i⟩:∃n,n=r.2.1:=⟨_,rfl⟩
  obtain⟨o,h1⟩:∃n,n=r.2.2.1.getD 0 0:=⟨_,rfl⟩
  obtain⟨g,A⟩:∃n,n=r.2.2.1.getD 1 0:=⟨_,rfl⟩
  obtain⟨d,E⟩:∃n,n=r.2.2.1.getD 2 0:=⟨_,rfl⟩
  obtain⟨u,k⟩:∃n,n=r.2.2.2.getD 0 0:=⟨_,rfl⟩
  obtain⟨x,D⟩:∃n,n=r.2.2.2.getD 1 0:=⟨_,rfl⟩
  obtain⟨y,l⟩:∃n,n=r.2.2.2.getD 2 0:=⟨_,rfl⟩
  have H:Ag7 r=.agg #[.string ⟨s.toArray⟩,fnv z,fnv o,fnv g,fnv d,fnv u,fnv x,fnv y]:=by rw[Ag7,C,i,h1,A,E,k,D,l]
  have G:Pz r=[.string ⟨s.toArray⟩,fnv z,fnv o,fnv g,fnv d,fnv u,fnv x,fnv y]:=by rw[Pz,C,i,h1,A,E,k,D,l]
  have b:=λW t j (O:j<8)=>Aw4 W t m j U O
  rw[<-F] at b ⊢;rw[G] at b;rw[H];have M:=λW t=>b W t 0 omz
  have K:=λW t=>b W t 1 omz
  have N:=λW t=>b W t 2 omz
  have T:=λW t=>b W t 3 omz
  have Q:=λW t=>b W t 4 omz
  have P:=λW t=>b W t 5 omz
  have L:=λW t=>b W t 6 omz
  have I:=λW t=>b W t 7 omz
  simp only[Bb0,Bb1,Ba8] at M K N T Q P L I;clear b;clear G H C i h1 A E k D l F h;go_enter func116,ntmps116
  go_wp2_with (go_at_call 124;refine(A38 _).mono ?_;rintro e q ⟨rfl,c⟩;obtain⟨b,R⟩:=Eh c;have B:=Aas c)
  rw[Aa5 (tgt:=Jn) (cur:=Tryz.zeroCells181) (t:=181)]
  case hvs=>rfl
  case hl=>kernel_rfl
  case h1=>kernel_rfl
  case hg=>exact heap_alloc_last _ _
  rw[World.setRow_alloc_new,Oper.upon_skip]
  go_wp2
  have f:Below w.heap.size w q:=blB;refine bodyPost_ret (v:=.agg #[.string ⟨s.toArray⟩,fnv z,fnv o,fnv g,fnv d,fnv u,fnv x,fnv y]) (by simp[results,results116,go_sem,b,B]) rfl ⟨rfl,?_⟩;refine Be ?_ _;iterate 8 refine Ep (A88 _) ?_ _
  exact f
 ·have J:rowOf op=([],0,[],[]):=by unfold rowOf;rw[if_neg h]
  rw[J];go_enter func116,ntmps116
  go_wp2_with (go_at_call 124;refine(A38 _).mono ?_;rintro e q ⟨rfl,c⟩;obtain⟨b,R⟩:=Eh c;have B:=Aas c)
  rw[Aa5 (tgt:=Jn) (cur:=Tryz.zeroCells181) (t:=181)]
  case hvs=>rfl
  case hl=>kernel_rfl
  case h1=>kernel_rfl
  case hg=>exact heap_alloc_last _ _
  rw[World.setRow_alloc_new,Oper.upon_skip];have f:Below w.heap.size w q:=blB
  go_wp2
  all_goals refine bodyPost_ret (v:=.agg #[.string ⟨#[]⟩, .nilFunc, .nilFunc, .nilFunc, .nilFunc, .nilFunc, .nilFunc, .nilFunc]) (by simp[results,results116,go_sem,b,B]) rfl ⟨rfl,?_⟩
  all_goals
   refine Be ?_ _;iterate 8 refine Ep (A88 _) ?_ _
   exact f
def Sv (l:List Nat):Value:=.agg #[fnv (l.getD 0 0),fnv (l.getD 1 0),fnv (l.getD 2 0)]
theorem Aq2 (w:World):Sem.run prog (binOp BinOp.neq 170 .nilFunc .nilFunc) w=.ok (.bool false) w:=krz
theorem A2n (a:Nat)(w:World):Sem.run prog (binOp BinOp.neq 170 (.func (.func a) #[] #[]) .nilFunc) w=.ok (.bool true) w:=krz
theorem Y4 {n:Nat}(h:n≠0):fnv n=.func (.func n) #[] #[]:=by unfold fnv;rw[if_neg h]
theorem Aq9:fnv 0=.nilFunc:=rfl
theorem Ay2 (w:World):
  Calls prog 125 #[.agg #[.nilFunc, .nilFunc, .nilFunc]] w λe b=>e=.returned (.int .i64 0)/\Below w.heap.size w b:=by
 have c:=Aq2;have d:=A2n;go_enter func125,ntmps125
 go_wp2
 refine wp_loop_rounds 1 ?_;rw[rounds_succ]
 go_wp2
 go_ret;exact⟨rfl,blB⟩
theorem Ay1 (a:Nat)(w:World):
  Calls prog 125 #[.agg #[.func (.func a) #[] #[], .nilFunc, .nilFunc]] w λe b=>e=.returned (.int .i64 1)/\Below w.heap.size w b:=by
 have c:=Aq2;have d:=A2n;go_enter func125,ntmps125
 go_wp2
 refine wp_loop_rounds 2 ?_;rw[rounds_succ]
 go_wp2
 rw[rounds_succ]
 go_wp2
 go_ret;exact⟨rfl,blB⟩
theorem Ay0 (a b:Nat)(w:World):
  Calls prog 125 #[.agg #[.func (.func a) #[] #[], .func (.func b) #[] #[], .nilFunc]] w λe c=>e=.returned (.int .i64 2)/\Below w.heap.size w c:=by
 have d:=Aq2;have f:=A2n;go_enter func125,ntmps125
 go_wp2
 refine wp_loop_rounds 3 ?_;rw[rounds_succ]
 go_wp2
 rw[rounds_succ]
 go_wp2
 rw[rounds_succ]
 go_wp2
 go_ret;exact⟨rfl,blB⟩
theorem Ayz (a b c:Nat)(w:World):
  Calls prog 125 #[.agg #[.func (.func a) #[] #[], .func (.func b) #[] #[], .func (.func c) #[] #[]]] w λe d=>e=.returned (.int .i64 3)/\Below w.heap.size w d:=by
 have f:=Aq2;have g:=A2n;go_enter func125,ntmps125
 go_wp2
 refine wp_loop_rounds 4 ?_;rw[rounds_succ]
 go_wp2
 rw[rounds_succ]
 go_wp2
 rw[rounds_succ]
 go_wp2
 rw[rounds_succ]
 go_wp2
 go_ret;exact⟨rfl,blB⟩
theorem Aq6 (l:List Nat)(w:World)(hl:l.length<=3)(d:∀x∈l,x≠0):
  Calls prog 125 #[Sv l] w λe f=>e=.returned (.int .i64 l.length)/\Below w.heap.size w f:=by
 match l,hl,d with
 | [],_,_=>exact Ay2 w
 | [a],_,d=>simp only[Sv,List.getD,Bb0,Bb1,List.getElem?_nil,Option.getD,Y4 (d a spz),Aq9];exact Ay1 a w
 | [a,b],_,d=>simp only[Sv,List.getD,Bb0,Bb1,List.getElem?_nil,Option.getD,Y4 (d a spz),Y4 (d b spz),Aq9];exact Ay0 a b w
 | [a,b,c],_,d=>simp only[Sv,List.getD,Bb0,Bb1,Option.getD,Y4 (d a spz),Y4 (d b spz),Y4 (d c spz)];exact Ayz a b c w
 | _::_::_::_::_,hl,_=>simp at hl
def Ih (n:Nat)(p:Stil.Dev->Bool):Prop:=(∀args w,(callFunc n args).run prog w=.ok (.enter n args) w)/\∀(d:Stil.Dev) (w:World),Ei w->d.fits->Calls prog n #[.agg #[.int .i64 d.kind, .int .i64 d.n, .int .i64 d.p]] w λe b=>e=.returned (.bool (p d))/\Below w.heap.size w b
def Ap:List (Stil.Dev->Bool)->List Stil.Dev->Bool
 | [],[]=>true
 | p::c,d::b=>p d && Ap c b
 | _,_=>false
def Ai (c:List (Stil.Dev->Bool))(b:List Stil.Dev):Bool:=!b.isEmpty && Ap c b
theorem Ahd:∀(c:List (Stil.Dev->Bool)) (b:List Stil.Dev),b.length≠c.length->Ap c b=false
 | [],[],h=>absurd rfl h
 | [],_::_,_=>rfl
 | _::_,[],_=>rfl
 | p::c,d::b,h=>by
  have:=Ahd c b yBc
  simp[Ap,this]
theorem Aec:∀(c:List (Stil.Dev->Bool)) (b:List Stil.Dev) (k:Nat) (e:k<c.length) (f:k<b.length),Ap (c.drop k) (b.drop k)=(c[k] b[k] && Ap (c.drop (k+1)) (b.drop (k+1)))
 | p::c,d::b,0,_,_=>rfl
 | p::c,d::b,k+1,e,f=>by
  have:=Aec c b k (by simpa using e) (by simpa using f)
  simpa using this
theorem Ati (l:List Nat)(d:List (Stil.Dev->Bool))(a:Option Addr)(cap:Nat)(c:List Stil.Dev)(w:World)(hr:Ei w)(hl:l.length=d.length)(hd:c.length=d.length)(Q:l.length<=3)(y:∀i (h1:i<l.length) (h2:i<d.length),l[i]≠0/\Ih l[i] d[i])(V:0<c.length)
  (X:∀i (h:i<c.length),∃b o,a=some ⟨b,o,none⟩/\b<w.heap.size/\Io w b (o+i*3) c[i]) (O:∀x∈c,x.fits):
  Calls prog 117 #[Sv l, .slice a c.length cap] w λe I=>e=.returned (.bool (Ap d c))/\Below w.heap.size w I:=by
 have ak:=Oq;obtain⟨z,E⟩:∃f,f=l.getD 0 0:=⟨_,rfl⟩
 obtain⟨v,J⟩:∃f,f=l.getD 1 0:=⟨_,rfl⟩
 obtain⟨u,D⟩:∃f,f=l.getD 2 0:=⟨_,rfl⟩
 have F:Hid (Sv l=.agg #[fnv z,fnv v,fnv u]):=by show _=_;rw[Sv,E,J,D]
 have HP:Hid (∀W,Calls prog 125 #[.agg #[fnv z,fnv v,fnv u]] W λe I=>e=.returned (.int .i64 c.length)/\Below W.heap.size W I):=by
  intro W
  have:=Aq6 l W Q (λx m=>by
   obtain⟨i,hi,rfl⟩:=List.getElem_of_mem m
   exact(y i hi omz).1)
  rw[F.out] at this;rw[hd,<-hl];exact this
 have HC:Hid (∀k (h:k<c.length),(w.alloc (.cells #[fnv z,fnv v,fnv u] 172)).cell? ⟨w.heap.size,k,none⟩=some (.func (.func (l.getD k 0)) #[] #[])):=by
  intro k hk;have aa:l.getD k 0≠0:=by
   have q:k<l.length:=omz
   have:=(y k q omz).1
   simpa[List.getD,A9k q] using this
  rw[<-Y4 aa];have ae:k=0\/k=1\/k=2:=omz
  rcases ae with rfl | rfl | rfl<;>simp[go_sem,E,J,D]
 have HF:Hid (∀k (h:k<c.length) (h2:k<d.length),Ih (l.getD k 0) d[k]):=by
  intro k hk aj;have q:k<l.length:=omz
  have:=(y k q omz).2
  simpa[List.getD,A9k q] using this
 have HA:=hid X;have M:=hid (λW (h:Below w.heap.size w W)=>hr.below h);have vg:=hid O;have ah:c.length<=3:=omz
 have Y:=hid hd;have ag:¬c=[]:=by intro h;rw[h] at V;simp at V
 rw[F.out];clear E J D hl hd Q y X hr F O;go_enter func117,ntmps117
 go_wp2_with (go_at_call 125;refine(HP _).mono ?_;rintro e w1 ⟨rfl,g⟩;obtain⟨hc,ab⟩:=Eh g;have hz:=Aas g)
 go_loopw [19] (λi wr=>∃k:Nat,k<=c.length/\i=.int .i64 k/\Ap d c=Ap (d.drop k) (c.drop k)/\Below (w.heap.size+1) (w.alloc (.cells #[fnv z,fnv v,fnv u] 172)) wr) (λi _=>c.length - (intOf i).toNat)
 case atStart=>exact⟨0,omz,rfl,rfl,by simpa using g⟩
 case round=>
  clear g hc ab hz;obtain⟨k,hk,rfl,L,g⟩:=hrel;have s:=hid L;clear L;have U:=(Aa _ _).trans (g.mono omz);have eu:w.heap.size<wr.heap.size:=by have:=g.size;simp at this;omega
  by_cases j:k<c.length
  ·obtain⟨b,o,rfl,S,Z⟩:=HA k j
   have R:k<d.length:=by have:=Y.out;omega
   have r:=HF k j R;have K:=vg c[k] (A9a j);have t:=hid (Aec d c k R j);obtain⟨x0,x1,x2⟩:=Z.below U S;have af:=A82 S U.size;have H:wr.cell? ⟨w.heap.size,k,none⟩=some (.func (.func (l.getD k 0)) #[] #[]):=by
    rw[g.cell (p:=⟨w.heap.size,k,none⟩) spz];exact HC k j
   obtain⟨p,A⟩:∃p,p=d[k]:=⟨_,rfl⟩
   obtain⟨x,m⟩:∃x,x=c[k]:=⟨_,rfl⟩
   obtain⟨n,G⟩:∃n,n=l.getD k 0:=⟨_,rfl⟩
   rw[<-m] at x0 x1 x2 K;rw[<-A,<-m] at t;rw[<-G] at H;rw[<-G,<-A] at r;obtain⟨ai,r⟩:=r;have HQ:=hid r;have P:=hid K;clear G m A Z r K;have q0:(wr.alloc (.cells #[.int .i64 x.kind, .int .i64 x.n, .int .i64 x.p] 34)).cell? ⟨w.heap.size,k,none⟩=some (.func (.func n) #[] #[]):=by rw[World.cell?_alloc_some _ _ _ (by rw[H];rfl)];exact H
   have q1:(wr.alloc (.cells #[.int .i64 x.kind, .int .i64 x.n, .int .i64 x.p] 34)).cell? ⟨wr.heap.size,0,none⟩=some (.int .i64 x.kind):=by simp[go_sem]
   have T:(wr.alloc (.cells #[.int .i64 x.kind, .int .i64 x.n, .int .i64 x.p] 34)).cell? ⟨wr.heap.size,1,none⟩=some (.int .i64 x.n):=by simp[go_sem]
   have q3:(wr.alloc (.cells #[.int .i64 x.kind, .int .i64 x.n, .int .i64 x.p] 34)).cell? ⟨wr.heap.size,2,none⟩=some (.int .i64 x.p):=by simp[go_sem]
   have r0:=cell_regrown q0;have r1:=cell_regrown q1;have r2:=cell_regrown T;have r3:=cell_regrown q3;clear q0 q1 T q3;cases N:p x
   ·go_wp2
    refine wp_region_quiet_below krz krz ?_;repeat (go_big_quiet_step ((exact Calls.regrown_of (HQ _ _ (M _ blB) P.out))))
    refine wpQuiet_nil ?_;intro _ C;obtain⟨⟨dq,osq⟩,B⟩:=C;subst B
    go_wp2
    go_ret;exact⟨Ad (by rw[s.out,t.out,N];rfl),blB⟩
   ·have ac:Hid (Ap d c=Ap (d.drop (k+1)) (c.drop (k+1))):=by show _=_;rw[s.out,t.out,N];rfl
    clear t s
    go_wp2
    refine wp_region_quiet_below krz krz ?_;repeat (go_big_quiet_step ((exact Calls.regrown_of (HQ _ _ (M _ blB) P.out))))
    refine wpQuiet_nil ?_;intro _ C;obtain⟨⟨dq,osq⟩,B⟩:=C;subst B
    go_wp2
    refine⟨⟨k+1,omz,by go_num,ac.out,?_⟩,by simp[intOf];omega⟩;exact(g.alloc omz _).trans ((below_regrown _ dq osq).mono yAb)
  ·have HE:Hid (Ap d c=true):=by
    show _=_
    have:=Y.out
    rw[s.out,Bav omz,Bav omz];rfl
   go_wp2
   go_ret;exact⟨Ad HE.symm,blB⟩
theorem Ayv (l:List Nat)(c:List (Stil.Dev->Bool))(v:Value)(b:List Stil.Dev)(w:World)(hr:Ei w)(hl:l.length=c.length)(q:l.length<=3)(g:∀i (F:i<l.length) (D:i<c.length),l[i]≠0/\Ih l[i] c[i])
  (f:A7 w v b) (j:∀x∈b,x.fits) (B:b.length<=9223372036854775807):
  Calls prog 117 #[Sv l,v] w λe u=>e=.returned (.bool (Ai c b))/\Below w.heap.size w u:=by
 obtain⟨a,cap,rfl,f⟩:=f;by_cases k:b=[]
 ·subst k
  have t:=Oq;have d:Hid (Ai c []=false):=rfl;unfold Sv;clear g f j hr;go_enter func117,ntmps117
  go_wp2
  go_ret;exact⟨Ad d.symm,blB⟩
 ·have s:=List.length_pos_iff.2 k
  by_cases hd:b.length=c.length
  ·have d:Ai c b=Ap c b:=by
    have:b.isEmpty=false:=by simpa using k
    rw[Ai,this];rfl
   rw[d];exact Ati l c a cap b w hr hl hd q g s f j
  ·have d:Hid (Ai c b=false):=by show _=_;rw[Ai,Ahd c b hd,Bool.and_false]
   have t:=Oq
   have o:=hid (λW=>Aq6 l W q (λx r=>by
    obtain⟨i,hi,rfl⟩:=List.getElem_of_mem r
    exact(g i hi omz).1))
   have z:((b.length:Int) !=(l.length:Int))=true:=by rw[bne_iff_ne];omega
   clear g f j hr hd hl;unfold Sv at o ⊢;go_enter func117,ntmps117
   go_wp2_with (go_at_call 125;refine(o _).mono ?_;rintro e C ⟨rfl,m⟩;obtain⟨A,y⟩:=Eh m;have E:=Aas m)
   go_ret;exact⟨Ad d.symm,blB⟩
theorem A1i (j i g e b d f c:Value)(w:World):(Instr.field 175 (.agg #[j,i,g,e,b,d,f,c]) 2).run prog w=.ok (.agg #[g,e,b,d,f,c]) w:=krz
theorem A4s (d b c g f e:Value)(w:World):(Instr.index 173 (.agg #[d,b,c,g,f,e]) (.int .i64 0)).run prog w=.ok (.agg #[d,b,c]) w:=krz
theorem A4r (g e f d c b:Value)(w:World):(Instr.index 173 (.agg #[g,e,f,d,c,b]) (.int .i64 1)).run prog w=.ok (.agg #[d,c,b]) w:=krz
def F5 (l:List Nat)(b:List (Stil.Dev->Bool)):Prop:=l.length=b.length/\l.length<=3/\∀i (c:i<l.length) (d:i<b.length),l[i]≠0/\Ih l[i] b[i]
theorem A39 (op:Int)(m u:List (Stil.Dev->Bool))(v:Value)(c:List Stil.Dev)(w:World)(hr:Ei w)(g:F5 (rowOf op).2.2.1 m)(h1:F5 (rowOf op).2.2.2 u)
  (Q:A7 w v c) (R:∀x∈c,x.fits) (N:c.length<=9223372036854775807):
  Calls prog 100 #[.agg #[.int .i64 op,v]] w λe D=>e=.returned (.bool (Ai m c || Ai u c))/\Below w.heap.size w D:=by
 obtain⟨r,o⟩:∃r,r=rowOf op:=⟨_,rfl⟩
 rw[<-o] at g h1;have xU:Hid (∀W,Calls prog 116 #[.int .i64 op] W λe D=>e=.returned (Ag7 r)/\Below W.heap.size W D):=by intro W;rw[o];exact A5j op W
 have q:=hid (λW (h:Below w.heap.size w W)=>Q.below h);have P:=hid (λW (h:Below w.heap.size w W)=>hr.below h);have i:=hid (λW h=>Ayv _ _ v c W (P W h) g.1 g.2.1 g.2.2 (q W h) R N);have j:=hid (λW h=>Ayv _ _ v c W (P W h) h1.1 h1.2.1 h1.2.2 (q W h) R N);obtain⟨a,cap,rfl,_⟩:=Q;obtain⟨s,Z⟩:∃s,s=r.1:=⟨_,rfl⟩
 obtain⟨n0,Y⟩:∃n,n=r.2.1:=⟨_,rfl⟩
 obtain⟨L,t⟩:∃n,n=r.2.2.1.getD 0 0:=⟨_,rfl⟩
 obtain⟨H,B⟩:∃n,n=r.2.2.1.getD 1 0:=⟨_,rfl⟩
 obtain⟨G,F⟩:∃n,n=r.2.2.1.getD 2 0:=⟨_,rfl⟩
 obtain⟨T,E⟩:∃n,n=r.2.2.2.getD 0 0:=⟨_,rfl⟩
 obtain⟨V,z⟩:∃n,n=r.2.2.2.getD 1 0:=⟨_,rfl⟩
 obtain⟨X,k⟩:∃n,n=r.2.2.2.getD 2 0:=⟨_,rfl⟩
 have O:Sv r.2.2.1=.agg #[fnv L,fnv H,fnv G]:=by rw[Sv,t,B,F]
 have I:Sv r.2.2.2=.agg #[fnv T,fnv V,fnv X]:=by rw[Sv,E,z,k]
 have J:Ag7 r=.agg #[.string ⟨s.toArray⟩,fnv n0,fnv L,fnv H,fnv G,fnv T,fnv V,fnv X]:=by rw[Ag7,Z,Y,t,B,F,E,z,k]
 rw[O] at i;rw[I] at j;rw[J] at xU;clear g h1 hr o Z Y t B F E z k O I J q;have ac:=Oq;have ab:=A1i;have ae:=A4s;have af:=A4r;generalize Ai m c=t0 at i ⊢;generalize Ai u c=t1 at j ⊢;go_enter func100,ntmps100
 go_wp2_with (go_at_call 116;refine(xU _).mono ?_;rintro e w1 ⟨rfl,y⟩;obtain⟨hc,aa⟩:=Eh y;have C:=Aas y;have f:=Ry y)
 cases t0
 ·cases t1
  ·refine wp_loop_rounds 3 ?_
   rw[rounds_succ]
   go_wp2_with (go_at_call 117;refine(i _ (Be f _)).mono ?_;rintro e M ⟨rfl,b⟩;obtain⟨K,U⟩:=Eh b;have S:=A82 C (A9f spz b.size);have d:=Dj (Be f _) b)
   rw[rounds_succ]
   go_wp2_with (go_at_call 117;refine(j _ (Be d _)).mono ?_;rintro e w3 ⟨rfl,A⟩;have l:=Dj (Be d _) A)
   rw[rounds_succ]
   go_wp2
   go_ret;exact⟨rfl,l⟩
  ·refine wp_loop_rounds 2 ?_
   rw[rounds_succ]
   go_wp2_with (go_at_call 117;refine(i _ (Be f _)).mono ?_;rintro e M ⟨rfl,b⟩;obtain⟨K,U⟩:=Eh b;have S:=A82 C (A9f spz b.size);have d:=Dj (Be f _) b)
   rw[rounds_succ]
   go_wp2_with (go_at_call 117;refine(j _ (Be d _)).mono ?_;rintro e w3 ⟨rfl,A⟩;have l:=Dj (Be d _) A)
   go_ret;exact⟨rfl,l⟩
 ·refine wp_loop_rounds 1 ?_
  rw[rounds_succ]
  go_wp2_with (go_at_call 117;refine(i _ (Be f _)).mono ?_;rintro e M ⟨rfl,b⟩;obtain⟨K,U⟩:=Eh b;have S:=A82 C (A9f spz b.size);have d:=Dj (Be f _) b)
  go_ret;exact⟨rfl,d⟩
def pl (l:List Int)(d:Stil.Dev):Bool:=d.ok && decide (d.kind∈l)
def Iw (d:Stil.Dev):Bool:=d.ok && decide (d.kind∈([11]:List Int)) && decide (0<=d.n)
theorem A8e:Ih 135 (pl [5]):=⟨enters_of func135 krz rfl,λd w c b=>A8j d w c b.2.1.1 b.2.1.2⟩
theorem A8w:Ih 141 (pl [4]):=⟨enters_of func141 krz rfl,λd w c b=>A8g d w c b.2.1.1 b.2.1.2⟩
theorem A8d:Ih 129 (pl [7]):=⟨enters_of func129 krz rfl,λd w c b=>A8f d w c b.2.1.1 b.2.1.2⟩
theorem A8x:Ih 142 (pl [8]):=⟨enters_of func142 krz rfl,λd w c b=>A8l d w c b.2.1.1 b.2.1.2⟩
theorem A49:Ih 131 (pl [9]):=⟨enters_of func131 krz rfl,λd w c b=>A8k d w c b.2.1.1 b.2.1.2⟩
theorem A6t:Ih 132 (pl [10]):=⟨enters_of func132 krz rfl,λd w c b=>A8h d w c b.2.1.1 b.2.1.2⟩
theorem A7a:Ih 138 (pl [2,3]):=⟨enters_of func138 krz rfl,λd w c b=>A7f d w c b.2.1.1 b.2.1.2⟩
theorem A69:Ih 139 (pl [2,3,4]):=⟨enters_of func139 krz rfl,λd w c b=>A5m d w c b.2.1.1 b.2.1.2⟩
theorem A11:Ih 140 (pl [2,3,4,7,8]):=⟨enters_of func140 krz rfl,λd w c b=>Ay7 d w c b.2.1.1 b.2.1.2⟩
theorem Zz:Ih 130 Iw:=⟨enters_of func130 krz rfl,λd w c b=>Atn d w c b.2.1.1 b.2.1.2⟩
theorem Aqr:Ih 134 Stil.Dev.isBit:=⟨enters_of func134 krz rfl,λd w c b=>Atq d.kind d.n d.p w c b.2.1.1 b.2.1.2⟩
theorem Gi:Ih 127 Stil.Dev.isWhole:=⟨enters_of func127 krz rfl,λd w c b=>Al1 d.kind d.n d.p w c b.2.1.1 b.2.1.2⟩
theorem Ik:Ih 128 Stil.Dev.isReal:=⟨enters_of func128 krz rfl,λd w c b=>Ao1 d.kind d.n d.p w c b.2.1.1 b.2.1.2⟩
theorem Anf:F5 [] []:=⟨rfl,spz,λi h=>absurd h spz⟩
theorem A6r {p:Stil.Dev->Bool}(c:a≠0)(h:Ih a p):F5 [a] [p]:=⟨rfl,spz,λi b d=>by
 have:i=0:=by simp at b;omega
 subst this;exact⟨c,h⟩⟩
theorem Adq {b:Nat}{p q:Stil.Dev->Bool}(c:a≠0)(h:Ih a p)(d:b≠0)(k:Ih b q):F5 [a,b] [p,q]:=⟨rfl,spz,λi e f=>by
 have:i=0\/i=1:=by simp at e;omega
 rcases this with rfl | rfl
 ·exact⟨c,h⟩
 ·exact⟨d,k⟩⟩
theorem A05 {b c:Nat}{p q r:Stil.Dev->Bool}(d:a≠0)(h:Ih a p)(e:b≠0)(k:Ih b q)(g:c≠0)(m:Ih c r):F5 [a,b,c] [p,q,r]:=⟨rfl,spz,λi f j=>by
 have:i=0\/i=1\/i=2:=by simp at f;omega
 rcases this with rfl | rfl | rfl
 ·exact⟨d,h⟩
 ·exact⟨e,k⟩
 ·exact⟨g,m⟩⟩
def Au (op:Int):List (Stil.Dev->Bool) × List (Stil.Dev->Bool):=
 if op=1 then([Stil.Dev.isBit],[]) else
 if op=2 then([Stil.Dev.isBit],[]) else
 if op=3 then([Stil.Dev.isBit,pl [5]],[]) else
 if op=4 then([Stil.Dev.isBit,pl [5]],[]) else
 if op=5 then([Stil.Dev.isWhole,Stil.Dev.isWhole],[Stil.Dev.isReal,Stil.Dev.isReal]) else
 if op=6 then([Stil.Dev.isWhole,Stil.Dev.isWhole],[Stil.Dev.isReal,Stil.Dev.isReal]) else
 if op=7 then([Stil.Dev.isWhole,Stil.Dev.isWhole],[Stil.Dev.isReal,Stil.Dev.isReal]) else
 if op=8 then([Stil.Dev.isWhole,Stil.Dev.isWhole],[Stil.Dev.isReal,Stil.Dev.isReal]) else
 if op=9 then([Stil.Dev.isWhole,Stil.Dev.isWhole],[Stil.Dev.isReal,Stil.Dev.isReal]) else
 if op=10 then([Stil.Dev.isWhole,Stil.Dev.isWhole],[Stil.Dev.isReal,Stil.Dev.isReal]) else
 if op=21 then([pl [2,3]],[]) else
 if op=22 then([pl [2,3,4]],[]) else
 if op=23 then([pl [2,3,4,7,8]],[]) else
 if op=24 then([pl [2,3],pl [5]],[]) else
 if op=25 then([pl [4]],[]) else
 if op=26 then([pl [7],Iw],[]) else
 if op=27 then([pl [7],Iw],[]) else
 if op=28 then([pl [7],Iw],[]) else
 if op=29 then([pl [8],Iw],[]) else
 if op=30 then([pl [9],Stil.Dev.isWhole],[pl [10],Stil.Dev.isReal]) else
 if op=31 then([pl [9],Stil.Dev.isWhole,Stil.Dev.isWhole],[pl [10],Stil.Dev.isReal,Stil.Dev.isReal]) else
 if op=32 then([pl [9],Stil.Dev.isWhole,Stil.Dev.isWhole],[pl [10],Stil.Dev.isReal,Stil.Dev.isReal]) else
 if op=33 then([pl [9],Stil.Dev.isWhole,Stil.Dev.isWhole],[pl [10],Stil.Dev.isReal,Stil.Dev.isReal]) else
 if op=34 then([pl [9],Stil.Dev.isWhole,Stil.Dev.isWhole],[pl [10],Stil.Dev.isReal,Stil.Dev.isReal]) else
 if op=35 then([pl [9],Stil.Dev.isWhole,Stil.Dev.isWhole],[]) else
 if op=36 then([pl [10],Stil.Dev.isWhole],[]) else
 if op=37 then([pl [9],Stil.Dev.isReal],[]) else
 ([],[])
theorem A31:F5 (rowOf 1).2.2.1 (Au 1).1/\F5 (rowOf 1).2.2.2 (Au 1).2:=⟨A6r dcz Aqr,Anf⟩
theorem A30:F5 (rowOf 2).2.2.1 (Au 2).1/\F5 (rowOf 2).2.2.2 (Au 2).2:=⟨A6r dcz Aqr,Anf⟩
theorem A3z:F5 (rowOf 3).2.2.1 (Au 3).1/\F5 (rowOf 3).2.2.2 (Au 3).2:=⟨Adq dcz Aqr dcz A8e,Anf⟩
theorem A3y:F5 (rowOf 4).2.2.1 (Au 4).1/\F5 (rowOf 4).2.2.2 (Au 4).2:=⟨Adq dcz Aqr dcz A8e,Anf⟩
theorem A3x:F5 (rowOf 5).2.2.1 (Au 5).1/\F5 (rowOf 5).2.2.2 (Au 5).2:=⟨Adq dcz Gi dcz Gi,Adq dcz Ik dcz Ik⟩
theorem A3w:F5 (rowOf 6).2.2.1 (Au 6).1/\F5 (rowOf 6).2.2.2 (Au 6).2:=⟨Adq dcz Gi dcz Gi,Adq dcz Ik dcz Ik⟩
theorem A3v:F5 (rowOf 7).2.2.1 (Au 7).1/\F5 (rowOf 7).2.2.2 (Au 7).2:=⟨Adq dcz Gi dcz Gi,Adq dcz Ik dcz Ik⟩
theorem A3u:F5 (rowOf 8).2.2.1 (Au 8).1/\F5 (rowOf 8).2.2.2 (Au 8).2:=⟨Adq dcz Gi dcz Gi,Adq dcz Ik dcz Ik⟩
theorem A3t:F5 (rowOf 9).2.2.1 (Au 9).1/\F5 (rowOf 9).2.2.2 (Au 9).2:=⟨Adq dcz Gi dcz Gi,Adq dcz Ik dcz Ik⟩
theorem Awh:F5 (rowOf 10).2.2.1 (Au 10).1/\F5 (rowOf 10).2.2.2 (Au 10).2:=⟨Adq dcz Gi dcz Gi,Adq dcz Ik dcz Ik⟩
theorem Awg:F5 (rowOf 21).2.2.1 (Au 21).1/\F5 (rowOf 21).2.2.2 (Au 21).2:=⟨A6r dcz A7a,Anf⟩
theorem Awf:F5 (rowOf 22).2.2.1 (Au 22).1/\F5 (rowOf 22).2.2.2 (Au 22).2:=⟨A6r dcz A69,Anf⟩
theorem Awe:F5 (rowOf 23).2.2.1 (Au 23).1/\F5 (rowOf 23).2.2.2 (Au 23).2:=⟨A6r dcz A11,Anf⟩
theorem Awd:F5 (rowOf 24).2.2.1 (Au 24).1/\F5 (rowOf 24).2.2.2 (Au 24).2:=⟨Adq dcz A7a dcz A8e,Anf⟩
theorem Awc:F5 (rowOf 25).2.2.1 (Au 25).1/\F5 (rowOf 25).2.2.2 (Au 25).2:=⟨A6r dcz A8w,Anf⟩
theorem Awb:F5 (rowOf 26).2.2.1 (Au 26).1/\F5 (rowOf 26).2.2.2 (Au 26).2:=⟨Adq dcz A8d dcz Zz,Anf⟩
theorem Awa:F5 (rowOf 27).2.2.1 (Au 27).1/\F5 (rowOf 27).2.2.2 (Au 27).2:=⟨Adq dcz A8d dcz Zz,Anf⟩
theorem Av9:F5 (rowOf 28).2.2.1 (Au 28).1/\F5 (rowOf 28).2.2.2 (Au 28).2:=⟨Adq dcz A8d dcz Zz,Anf⟩
theorem Av8:F5 (rowOf 29).2.2.1 (Au 29).1/\F5 (rowOf 29).2.2.2 (Au 29).2:=⟨Adq dcz A8x dcz Zz,Anf⟩
theorem Av7:F5 (rowOf 30).2.2.1 (Au 30).1/\F5 (rowOf 30).2.2.2 (Au 30).2:=⟨Adq dcz A49 dcz Gi,Adq dcz A6t dcz Ik⟩
theorem Av6:F5 (rowOf 31).2.2.1 (Au 31).1/\F5 (rowOf 31).2.2.2 (Au 31).2:=⟨A05 dcz A49 dcz Gi dcz Gi,A05 dcz A6t dcz Ik dcz Ik⟩
theorem Av5:F5 (rowOf 32).2.2.1 (Au 32).1/\F5 (rowOf 32).2.2.2 (Au 32).2:=⟨A05 dcz A49 dcz Gi dcz Gi,A05 dcz A6t dcz Ik dcz Ik⟩
theorem Av4:F5 (rowOf 33).2.2.1 (Au 33).1/\F5 (rowOf 33).2.2.2 (Au 33).2:=⟨A05 dcz A49 dcz Gi dcz Gi,A05 dcz A6t dcz Ik dcz Ik⟩
theorem Av3:F5 (rowOf 34).2.2.1 (Au 34).1/\F5 (rowOf 34).2.2.2 (Au 34).2:=⟨A05 dcz A49 dcz Gi dcz Gi,A05 dcz A6t dcz Ik dcz Ik⟩
theorem Av2:F5 (rowOf 35).2.2.1 (Au 35).1/\F5 (rowOf 35).2.2.2 (Au 35).2:=⟨A05 dcz A49 dcz Gi dcz Gi,Anf⟩
theorem Av1:F5 (rowOf 36).2.2.1 (Au 36).1/\F5 (rowOf 36).2.2.2 (Au 36).2:=⟨Adq dcz A6t dcz Gi,Anf⟩
theorem Av0:F5 (rowOf 37).2.2.1 (Au 37).1/\F5 (rowOf 37).2.2.2 (Au 37).2:=⟨Adq dcz A49 dcz Ik,Anf⟩
theorem Ami (e:List Stil.Dev):(Ai (Au 1).1 e || Ai (Au 1).2 e)=Af 1 e:=by
 rw[show Au 1=([Stil.Dev.isBit],[]) from rfl]
 match e with
 | []=>simp[Ai,Af]
 | [a]=>(simp[Ai,Ap,Af,Stil.Dev.isBit];try grind)
 | [a,b]=>(simp[Ai,Ap,Af,Stil.Dev.isBit];try grind)
 | [a,b,c]=>(simp[Ai,Ap,Af,Stil.Dev.isBit];try grind)
 | a::b::c::d::r=>simp[Ai,Ap,Af];try omega
theorem Amh (e:List Stil.Dev):(Ai (Au 2).1 e || Ai (Au 2).2 e)=Af 2 e:=by
 rw[show Au 2=([Stil.Dev.isBit],[]) from rfl]
 match e with
 | []=>simp[Ai,Af]
 | [a]=>(simp[Ai,Ap,Af,Stil.Dev.isBit];try grind)
 | [a,b]=>(simp[Ai,Ap,Af,Stil.Dev.isBit];try grind)
 | [a,b,c]=>(simp[Ai,Ap,Af,Stil.Dev.isBit];try grind)
 | a::b::c::d::r=>simp[Ai,Ap,Af];try omega
theorem Amg (e:List Stil.Dev):(Ai (Au 3).1 e || Ai (Au 3).2 e)=Af 3 e:=by
 rw[show Au 3=([Stil.Dev.isBit,pl [5]],[]) from rfl]
 match e with
 | []=>simp[Ai,Af]
 | [a]=>(simp[Ai,Ap,Af,Stil.Dev.isBit];try grind)
 | [a,b]=>(simp[Ai,Ap,Af,pl,Stil.Dev.ok,Stil.Dev.isBit];try grind)
 | [a,b,c]=>(simp[Ai,Ap,Af,pl,Stil.Dev.ok,Stil.Dev.isBit];try grind)
 | a::b::c::d::r=>simp[Ai,Ap,Af];try omega
theorem Amf (e:List Stil.Dev):(Ai (Au 4).1 e || Ai (Au 4).2 e)=Af 4 e:=by
 rw[show Au 4=([Stil.Dev.isBit,pl [5]],[]) from rfl]
 match e with
 | []=>simp[Ai,Af]
 | [a]=>(simp[Ai,Ap,Af,Stil.Dev.isBit];try grind)
 | [a,b]=>(simp[Ai,Ap,Af,pl,Stil.Dev.ok,Stil.Dev.isBit];try grind)
 | [a,b,c]=>(simp[Ai,Ap,Af,pl,Stil.Dev.ok,Stil.Dev.isBit];try grind)
 | a::b::c::d::r=>simp[Ai,Ap,Af];try omega
theorem Ame (e:List Stil.Dev):(Ai (Au 5).1 e || Ai (Au 5).2 e)=Af 5 e:=by
 rw[show Au 5=([Stil.Dev.isWhole,Stil.Dev.isWhole],[Stil.Dev.isReal,Stil.Dev.isReal]) from rfl]
 match e with
 | []=>simp[Ai,Af]
 | [a]=>(simp[Ai,Ap,Af,Stil.Dev.isBit,Stil.Dev.isWhole,Stil.Dev.isReal];try grind)
 | [a,b]=>(simp[Ai,Ap,Af,Stil.Dev.isWhole,Stil.Dev.isReal];try grind)
 | [a,b,c]=>(simp[Ai,Ap,Af,Stil.Dev.isWhole,Stil.Dev.isReal];try grind)
 | a::b::c::d::r=>simp[Ai,Ap,Af];try omega
theorem Amd (e:List Stil.Dev):(Ai (Au 6).1 e || Ai (Au 6).2 e)=Af 6 e:=by
 rw[show Au 6=([Stil.Dev.isWhole,Stil.Dev.isWhole],[Stil.Dev.isReal,Stil.Dev.isReal]) from rfl]
 match e with
 | []=>simp[Ai,Af]
 | [a]=>(simp[Ai,Ap,Af,Stil.Dev.isBit,Stil.Dev.isWhole,Stil.Dev.isReal];try grind)
 | [a,b]=>(simp[Ai,Ap,Af,Stil.Dev.isWhole,Stil.Dev.isReal];try grind)
 | [a,b,c]=>(simp[Ai,Ap,Af,Stil.Dev.isWhole,Stil.Dev.isReal];try grind)
 | a::b::c::d::r=>simp[Ai,Ap,Af];try omega
theorem Amc (e:List Stil.Dev):(Ai (Au 7).1 e || Ai (Au 7).2 e)=Af 7 e:=by
 rw[show Au 7=([Stil.Dev.isWhole,Stil.Dev.isWhole],[Stil.Dev.isReal,Stil.Dev.isReal]) from rfl]
 match e with
 | []=>simp[Ai,Af]
 | [a]=>(simp[Ai,Ap,Af,Stil.Dev.isBit,Stil.Dev.isWhole,Stil.Dev.isReal];try grind)
 | [a,b]=>(simp[Ai,Ap,Af,Stil.Dev.isWhole,Stil.Dev.isReal];try grind)
 | [a,b,c]=>(simp[Ai,Ap,Af,Stil.Dev.isWhole,Stil.Dev.isReal];try grind)
 | a::b::c::d::r=>simp[Ai,Ap,Af];try omega
theorem Amb (e:List Stil.Dev):(Ai (Au 8).1 e || Ai (Au 8).2 e)=Af 8 e:=by
 rw[show Au 8=([Stil.Dev.isWhole,Stil.Dev.isWhole],[Stil.Dev.isReal,Stil.Dev.isReal]) from rfl]
 match e with
 | []=>simp[Ai,Af]
 | [a]=>(simp[Ai,Ap,Af,Stil.Dev.isBit,Stil.Dev.isWhole,Stil.Dev.isReal];try grind)
 | [a,b]=>(simp[Ai,Ap,Af,Stil.Dev.isWhole,Stil.Dev.isReal];try grind)
 | [a,b,c]=>(simp[Ai,Ap,Af,Stil.Dev.isWhole,Stil.Dev.isReal];try grind)
 | a::b::c::d::r=>simp[Ai,Ap,Af];try omega
theorem Ama (e:List Stil.Dev):(Ai (Au 9).1 e || Ai (Au 9).2 e)=Af 9 e:=by
 rw[show Au 9=([Stil.Dev.isWhole,Stil.Dev.isWhole],[Stil.Dev.isReal,Stil.Dev.isReal]) from rfl]
 match e with
 | []=>simp[Ai,Af]
 | [a]=>(simp[Ai,Ap,Af,Stil.Dev.isBit,Stil.Dev.isWhole,Stil.Dev.isReal];try grind)
 | [a,b]=>(simp[Ai,Ap,Af,Stil.Dev.isWhole,Stil.Dev.isReal];try grind)
 | [a,b,c]=>(simp[Ai,Ap,Af,Stil.Dev.isWhole,Stil.Dev.isReal];try grind)
 | a::b::c::d::r=>simp[Ai,Ap,Af];try omega
theorem Ajk (e:List Stil.Dev):(Ai (Au 10).1 e || Ai (Au 10).2 e)=Af 10 e:=by
 rw[show Au 10=([Stil.Dev.isWhole,Stil.Dev.isWhole],[Stil.Dev.isReal,Stil.Dev.isReal]) from rfl]
 match e with
 | []=>simp[Ai,Af]
 | [a]=>(simp[Ai,Ap,Af,Stil.Dev.isBit,Stil.Dev.isWhole,Stil.Dev.isReal];try grind)
 | [a,b]=>(simp[Ai,Ap,Af,Stil.Dev.isWhole,Stil.Dev.isReal];try grind)
 | [a,b,c]=>(simp[Ai,Ap,Af,Stil.Dev.isWhole,Stil.Dev.isReal];try grind)
 | a::b::c::d::r=>simp[Ai,Ap,Af];try omega
theorem Aum (e:List Stil.Dev):(Ai (Au 21).1 e || Ai (Au 21).2 e)=Ar 21 e:=by
 rw[show Au 21=([pl [2,3]],[]) from rfl]
 match e with
 | []=>simp[Ai,Ar,Stil.arity]
 | [a]=>(simp[Ai,Ap,Ar,Stil.arity,pl,Stil.Dev.kindIs,Ia,Stil.Dev.ok];try grind)
 | [a,b]=>(simp[Ai,Ap,Ar,Stil.arity,pl,Stil.Dev.ok];try grind)
 | [a,b,c]=>(simp[Ai,Ap,Ar,Stil.arity,pl,Stil.Dev.ok];try grind)
 | a::b::c::d::r=>simp[Ai,Ap,Ar,Stil.arity];try omega
theorem Aul (e:List Stil.Dev):(Ai (Au 22).1 e || Ai (Au 22).2 e)=Ar 22 e:=by
 rw[show Au 22=([pl [2,3,4]],[]) from rfl]
 match e with
 | []=>simp[Ai,Ar,Stil.arity]
 | [a]=>(simp[Ai,Ap,Ar,Stil.arity,pl,Stil.Dev.kindIs,Ia,Stil.Dev.ok];try grind)
 | [a,b]=>(simp[Ai,Ap,Ar,Stil.arity,pl,Stil.Dev.ok];try grind)
 | [a,b,c]=>(simp[Ai,Ap,Ar,Stil.arity,pl,Stil.Dev.ok];try grind)
 | a::b::c::d::r=>simp[Ai,Ap,Ar,Stil.arity];try omega
theorem Auk (e:List Stil.Dev):(Ai (Au 23).1 e || Ai (Au 23).2 e)=Ar 23 e:=by
 rw[show Au 23=([pl [2,3,4,7,8]],[]) from rfl]
 match e with
 | []=>simp[Ai,Ar,Stil.arity]
 | [a]=>(simp[Ai,Ap,Ar,Stil.arity,pl,Stil.Dev.kindIs,Ia,Stil.Dev.ok];try grind)
 | [a,b]=>(simp[Ai,Ap,Ar,Stil.arity,pl,Stil.Dev.ok];try grind)
 | [a,b,c]=>(simp[Ai,Ap,Ar,Stil.arity,pl,Stil.Dev.ok];try grind)
 | a::b::c::d::r=>simp[Ai,Ap,Ar,Stil.arity];try omega
theorem Auj (e:List Stil.Dev):(Ai (Au 24).1 e || Ai (Au 24).2 e)=Ar 24 e:=by
 rw[show Au 24=([pl [2,3],pl [5]],[]) from rfl]
 match e with
 | []=>simp[Ai,Ar,Stil.arity]
 | [a]=>(simp[Ai,Ap,Ar,Stil.arity,pl,Stil.Dev.ok];try grind)
 | [a,b]=>(simp[Ai,Ap,Ar,Stil.arity,pl,Stil.Dev.kindIs,Ia,Stil.Dev.ok];try grind)
 | [a,b,c]=>(simp[Ai,Ap,Ar,Stil.arity,pl,Stil.Dev.ok];try grind)
 | a::b::c::d::r=>simp[Ai,Ap,Ar,Stil.arity];try omega
theorem Aui (e:List Stil.Dev):(Ai (Au 25).1 e || Ai (Au 25).2 e)=Ar 25 e:=by
 rw[show Au 25=([pl [4]],[]) from rfl]
 match e with
 | []=>simp[Ai,Ar,Stil.arity]
 | [a]=>(simp[Ai,Ap,Ar,Stil.arity,pl,Stil.Dev.kindIs,Ia,Stil.Dev.ok];try grind)
 | [a,b]=>(simp[Ai,Ap,Ar,Stil.arity,pl,Stil.Dev.ok];try grind)
 | [a,b,c]=>(simp[Ai,Ap,Ar,Stil.arity,pl,Stil.Dev.ok];try grind)
 | a::b::c::d::r=>simp[Ai,Ap,Ar,Stil.arity];try omega
theorem Auh (e:List Stil.Dev):(Ai (Au 26).1 e || Ai (Au 26).2 e)=Ar 26 e:=by
 rw[show Au 26=([pl [7],Iw],[]) from rfl]
 match e with
 | []=>simp[Ai,Ar,Stil.arity]
 | [a]=>(simp[Ai,Ap,Ar,Stil.arity,pl,Stil.Dev.ok];try grind)
 | [a,b]=>(simp[Ai,Ap,Ar,Stil.arity,pl,Iw,Stil.Dev.kindIs,Ia,Stil.Dev.ok];try grind)
 | [a,b,c]=>(simp[Ai,Ap,Ar,Stil.arity,pl,Iw,Stil.Dev.ok];try grind)
 | a::b::c::d::r=>simp[Ai,Ap,Ar,Stil.arity];try omega
theorem Aug (e:List Stil.Dev):(Ai (Au 27).1 e || Ai (Au 27).2 e)=Ar 27 e:=by
 rw[show Au 27=([pl [7],Iw],[]) from rfl]
 match e with
 | []=>simp[Ai,Ar,Stil.arity]
 | [a]=>(simp[Ai,Ap,Ar,Stil.arity,pl,Stil.Dev.ok];try grind)
 | [a,b]=>(simp[Ai,Ap,Ar,Stil.arity,pl,Iw,Stil.Dev.kindIs,Ia,Stil.Dev.ok];try grind)
 | [a,b,c]=>(simp[Ai,Ap,Ar,Stil.arity,pl,Iw,Stil.Dev.ok];try grind)
 | a::b::c::d::r=>simp[Ai,Ap,Ar,Stil.arity];try omega
theorem Auf (e:List Stil.Dev):(Ai (Au 28).1 e || Ai (Au 28).2 e)=Ar 28 e:=by
 rw[show Au 28=([pl [7],Iw],[]) from rfl]
 match e with
 | []=>simp[Ai,Ar,Stil.arity]
 | [a]=>(simp[Ai,Ap,Ar,Stil.arity,pl,Stil.Dev.ok];try grind)
 | [a,b]=>(simp[Ai,Ap,Ar,Stil.arity,pl,Iw,Stil.Dev.kindIs,Ia,Stil.Dev.ok];try grind)
 | [a,b,c]=>(simp[Ai,Ap,Ar,Stil.arity,pl,Iw,Stil.Dev.ok];try grind)
 | a::b::c::d::r=>simp[Ai,Ap,Ar,Stil.arity];try omega
theorem Aue (e:List Stil.Dev):(Ai (Au 29).1 e || Ai (Au 29).2 e)=Ar 29 e:=by
 rw[show Au 29=([pl [8],Iw],[]) from rfl]
 match e with
 | []=>simp[Ai,Ar,Stil.arity]
 | [a]=>(simp[Ai,Ap,Ar,Stil.arity,pl,Stil.Dev.ok];try grind)
 | [a,b]=>(simp[Ai,Ap,Ar,Stil.arity,pl,Iw,Stil.Dev.kindIs,Ia,Stil.Dev.ok];try grind)
 | [a,b,c]=>(simp[Ai,Ap,Ar,Stil.arity,pl,Iw,Stil.Dev.ok];try grind)
 | a::b::c::d::r=>simp[Ai,Ap,Ar,Stil.arity];try omega
theorem Aud (e:List Stil.Dev):(Ai (Au 30).1 e || Ai (Au 30).2 e)=Ar 30 e:=by
 rw[show Au 30=([pl [9],Stil.Dev.isWhole],[pl [10],Stil.Dev.isReal]) from rfl]
 match e with
 | []=>simp[Ai,Ar,Stil.arity]
 | [a]=>(simp[Ai,Ap,Ar,Stil.arity,pl,Stil.Dev.ok];try grind)
 | [a,b]=>(simp[Ai,Ap,Ar,Stil.arity,Wi,I4,pl,Stil.Dev.kindIs,Ia,Stil.Dev.ok,Stil.Dev.isWhole,Stil.Dev.isReal];try grind)
 | [a,b,c]=>(simp[Ai,Ap,Ar,Stil.arity,pl,Stil.Dev.ok,Stil.Dev.isWhole,Stil.Dev.isReal];try grind)
 | a::b::c::d::r=>simp[Ai,Ap,Ar,Stil.arity];try omega
theorem z8 {p:Prop}(h:p:=by
 (simp[Ai,Ap,Ar,Stil.arity,Wi,I4,pl,Stil.Dev.kindIs,Ia,Stil.Dev.ok,Stil.Dev.isWhole,Stil.Dev.isReal];try grind)):p:=h
theorem Auc (e:List Stil.Dev):(Ai (Au 31).1 e || Ai (Au 31).2 e)=Ar 31 e:=by
 rw[show Au 31=([pl [9],Stil.Dev.isWhole,Stil.Dev.isWhole],[pl [10],Stil.Dev.isReal,Stil.Dev.isReal]) from rfl]
 match e with
 | []=>simp[Ai,Ar,Stil.arity]
 | [a]=>(simp[Ai,Ap,Ar,Stil.arity,pl,Stil.Dev.ok];try grind)
 | [a,b]=>(simp[Ai,Ap,Ar,Stil.arity,pl,Stil.Dev.ok,Stil.Dev.isWhole,Stil.Dev.isReal];try grind)
 | [a,b,c]=>exact z8
 | a::b::c::d::r=>simp[Ai,Ap,Ar,Stil.arity];try omega
theorem Aub (e:List Stil.Dev):(Ai (Au 32).1 e || Ai (Au 32).2 e)=Ar 32 e:=by
 rw[show Au 32=([pl [9],Stil.Dev.isWhole,Stil.Dev.isWhole],[pl [10],Stil.Dev.isReal,Stil.Dev.isReal]) from rfl]
 match e with
 | []=>simp[Ai,Ar,Stil.arity]
 | [a]=>(simp[Ai,Ap,Ar,Stil.arity,pl,Stil.Dev.ok];try grind)
 | [a,b]=>(simp[Ai,Ap,Ar,Stil.arity,pl,Stil.Dev.ok,Stil.Dev.isWhole,Stil.Dev.isReal];try grind)
 | [a,b,c]=>exact z8
 | a::b::c::d::r=>simp[Ai,Ap,Ar,Stil.arity];try omega
theorem Aua (e:List Stil.Dev):(Ai (Au 33).1 e || Ai (Au 33).2 e)=Ar 33 e:=by
 rw[show Au 33=([pl [9],Stil.Dev.isWhole,Stil.Dev.isWhole],[pl [10],Stil.Dev.isReal,Stil.Dev.isReal]) from rfl]
 match e with
 | []=>simp[Ai,Ar,Stil.arity]
 | [a]=>(simp[Ai,Ap,Ar,Stil.arity,pl,Stil.Dev.ok];try grind)
 | [a,b]=>(simp[Ai,Ap,Ar,Stil.arity,pl,Stil.Dev.ok,Stil.Dev.isWhole,Stil.Dev.isReal];try grind)
 | [a,b,c]=>exact z8
 | a::b::c::d::r=>simp[Ai,Ap,Ar,Stil.arity];try omega
theorem At9 (e:List Stil.Dev):(Ai (Au 34).1 e || Ai (Au 34).2 e)=Ar 34 e:=by
 rw[show Au 34=([pl [9],Stil.Dev.isWhole,Stil.Dev.isWhole],[pl [10],Stil.Dev.isReal,Stil.Dev.isReal]) from rfl]
 match e with
 | []=>simp[Ai,Ar,Stil.arity]
 | [a]=>(simp[Ai,Ap,Ar,Stil.arity,pl,Stil.Dev.ok];try grind)
 | [a,b]=>(simp[Ai,Ap,Ar,Stil.arity,pl,Stil.Dev.ok,Stil.Dev.isWhole,Stil.Dev.isReal];try grind)
 | [a,b,c]=>exact z8
 | a::b::c::d::r=>simp[Ai,Ap,Ar,Stil.arity];try omega
theorem At8 (e:List Stil.Dev):(Ai (Au 35).1 e || Ai (Au 35).2 e)=Ar 35 e:=by
 rw[show Au 35=([pl [9],Stil.Dev.isWhole,Stil.Dev.isWhole],[]) from rfl]
 match e with
 | []=>simp[Ai,Ar,Stil.arity]
 | [a]=>(simp[Ai,Ap,Ar,Stil.arity,pl,Stil.Dev.ok];try grind)
 | [a,b]=>(simp[Ai,Ap,Ar,Stil.arity,pl,Stil.Dev.ok,Stil.Dev.isWhole];try grind)
 | [a,b,c]=>exact z8
 | a::b::c::d::r=>simp[Ai,Ap,Ar,Stil.arity];try omega
theorem At7 (e:List Stil.Dev):(Ai (Au 36).1 e || Ai (Au 36).2 e)=Ar 36 e:=by
 rw[show Au 36=([pl [10],Stil.Dev.isWhole],[]) from rfl]
 match e with
 | []=>simp[Ai,Ar,Stil.arity]
 | [a]=>(simp[Ai,Ap,Ar,Stil.arity,pl,Stil.Dev.ok];try grind)
 | [a,b]=>(simp[Ai,Ap,Ar,Stil.arity,pl,Stil.Dev.kindIs,Ia,Stil.Dev.ok,Stil.Dev.isWhole];try grind)
 | [a,b,c]=>(simp[Ai,Ap,Ar,Stil.arity,pl,Stil.Dev.ok,Stil.Dev.isWhole];try grind)
 | a::b::c::d::r=>simp[Ai,Ap,Ar,Stil.arity];try omega
theorem At6 (e:List Stil.Dev):(Ai (Au 37).1 e || Ai (Au 37).2 e)=Ar 37 e:=by
 rw[show Au 37=([pl [9],Stil.Dev.isReal],[]) from rfl]
 match e with
 | []=>simp[Ai,Ar,Stil.arity]
 | [a]=>(simp[Ai,Ap,Ar,Stil.arity,pl,Stil.Dev.ok];try grind)
 | [a,b]=>(simp[Ai,Ap,Ar,Stil.arity,pl,Stil.Dev.kindIs,Ia,Stil.Dev.ok,Stil.Dev.isReal];try grind)
 | [a,b,c]=>(simp[Ai,Ap,Ar,Stil.arity,pl,Stil.Dev.ok,Stil.Dev.isReal];try grind)
 | a::b::c::d::r=>simp[Ai,Ap,Ar,Stil.arity];try omega
theorem Al8 (op:Int)(h1:1<=op)(c:op<=10):F5 (rowOf op).2.2.1 (Au op).1/\F5 (rowOf op).2.2.2 (Au op).2/\∀b,(Ai (Au op).1 b || Ai (Au op).2 b)=Af op b:=by
 have h:op=1\/op=2\/op=3\/op=4\/op=5\/op=6\/op=7\/op=8\/op=9\/op=10:=omz
 rcases h with rfl | rfl | rfl | rfl | rfl | rfl | rfl | rfl | rfl | rfl
 ·exact⟨A31.1,A31.2,Ami⟩
 ·exact⟨A30.1,A30.2,Amh⟩
 ·exact⟨A3z.1,A3z.2,Amg⟩
 ·exact⟨A3y.1,A3y.2,Amf⟩
 ·exact⟨A3x.1,A3x.2,Ame⟩
 ·exact⟨A3w.1,A3w.2,Amd⟩
 ·exact⟨A3v.1,A3v.2,Amc⟩
 ·exact⟨A3u.1,A3u.2,Amb⟩
 ·exact⟨A3t.1,A3t.2,Ama⟩
 ·exact⟨Awh.1,Awh.2,Ajk⟩
theorem Az1 (op:Int)(h1:21<=op)(c:op<=37):F5 (rowOf op).2.2.1 (Au op).1/\F5 (rowOf op).2.2.2 (Au op).2/\∀b,(Ai (Au op).1 b || Ai (Au op).2 b)=Ar op b:=by
 have h:op=21\/op=22\/op=23\/op=24\/op=25\/op=26\/op=27\/op=28\/op=29\/op=30\/op=31\/op=32\/op=33\/op=34\/op=35\/op=36\/op=37:=omz
 rcases h with rfl | rfl | rfl | rfl | rfl | rfl | rfl | rfl | rfl | rfl | rfl | rfl | rfl | rfl | rfl | rfl | rfl
 ·exact⟨Awg.1,Awg.2,Aum⟩
 ·exact⟨Awf.1,Awf.2,Aul⟩
 ·exact⟨Awe.1,Awe.2,Auk⟩
 ·exact⟨Awd.1,Awd.2,Auj⟩
 ·exact⟨Awc.1,Awc.2,Aui⟩
 ·exact⟨Awb.1,Awb.2,Auh⟩
 ·exact⟨Awa.1,Awa.2,Aug⟩
 ·exact⟨Av9.1,Av9.2,Auf⟩
 ·exact⟨Av8.1,Av8.2,Aue⟩
 ·exact⟨Av7.1,Av7.2,Aud⟩
 ·exact⟨Av6.1,Av6.2,Auc⟩
 ·exact⟨Av5.1,Av5.2,Aub⟩
 ·exact⟨Av4.1,Av4.2,Aua⟩
 ·exact⟨Av3.1,Av3.2,At9⟩
 ·exact⟨Av2.1,Av2.2,At8⟩
 ·exact⟨Av1.1,Av1.2,At7⟩
 ·exact⟨Av0.1,Av0.2,At6⟩
theorem Aag (op:Int)(w:World):
  Calls prog 99 #[.int .i64 op] w λe d=>e=.returned (.bool (decide (1<=op/\op<=10)))/\d=w:=by
 by_cases f:1<=op
 ·by_cases b:op<=10
  ·have c:decide (op<=10)=true:=by simpa using b
   go_enter func99,ntmps99
   go_wp2
   all_goals go_ret
   all_goals exact⟨Ad yAg,rfl⟩
  ·have c:decide (op<=10)=false:=by simpa using b
   go_enter func99,ntmps99
   go_wp2
   all_goals go_ret
   all_goals exact⟨Ad yAg,rfl⟩
 ·have g:decide (1<=op)=false:=by simpa using f
  go_enter func99,ntmps99
  go_wp2
  all_goals go_ret
  all_goals exact⟨Ad yAg,rfl⟩
theorem Asw {b:List Stil.Dev}(h:¬(1<=op/\op<=10)):Af op b=false:=by unfold Af;rw[if_pos omz]
theorem Aew (op:Int)(v:Value)(b:List Stil.Dev)(w:World)(hr:Ei w)(c:A7 w v b)(k:∀d∈b,d.fits)(hl:b.length<=9223372036854775807):
  Calls prog 72 #[.agg #[.int .i64 op,v]] w λe f=>e=.returned (.bool (Af op b))/\Below w.heap.size w f:=by
 by_cases h:1<=op/\op<=10
 ·obtain⟨i,q1,g⟩:=Al8 op h.1 h.2
  have n:Hid (∀W,Below w.heap.size w W->Calls prog 100 #[.agg #[.int .i64 op,v]] W λe f=>e=.returned (.bool (Af op b))/\Below W.heap.size W f):=by
   intro W j;rw[<-g];exact A39 op _ _ v b W (hr.below j) i q1 (c.below j) k hl
  obtain⟨a,cap,rfl,_⟩:=c;have hd:decide (1<=op/\op<=10)=true:=by simpa using h
  clear i q1 g hr h;go_enter func72,ntmps72
  go_wp2_with (first | (go_at_call 99;refine(Aag _ _).mono ?_;rw[hd];rintro e o ⟨rfl,rfl⟩) | (go_at_call 100;refine(n _ (Aa _ _)).mono ?_;rintro e p ⟨rfl,l⟩))
  go_ret;exact⟨rfl,Ry l⟩
 ·have m:Hid (Af op b=false):=Asw h
  obtain⟨a,cap,rfl,_⟩:=c;have hd:decide (1<=op/\op<=10)=false:=by simpa using h
  clear hr h;go_enter func72,ntmps72
  go_wp2_with (go_at_call 99;refine(Aag _ _).mono ?_;rw[hd];rintro e o ⟨rfl,rfl⟩)
  go_ret;exact⟨Ad m.symm,Aa _ _⟩
theorem Ahp (op:Int)(w:World):
  Calls prog 101 #[.int .i64 op] w λe d=>e=.returned (.bool (decide (21<=op/\op<=37)))/\d=w:=by
 by_cases f:21<=op
 ·by_cases b:op<=37
  ·have c:decide (op<=37)=true:=by simpa using b
   go_enter func101,ntmps101
   go_wp2
   all_goals go_ret
   all_goals exact⟨Ad yAg,rfl⟩
  ·have c:decide (op<=37)=false:=by simpa using b
   go_enter func101,ntmps101
   go_wp2
   all_goals go_ret
   all_goals exact⟨Ad yAg,rfl⟩
 ·have g:decide (21<=op)=false:=by simpa using f
  go_enter func101,ntmps101
  go_wp2
  all_goals go_ret
  all_goals exact⟨Ad yAg,rfl⟩
theorem A5c {b:List Stil.Dev}(h:¬(21<=op/\op<=37)):Ar op b=false:=by unfold Ar;rw[if_pos omz]
theorem Ai7 (op:Int)(v:Value)(b:List Stil.Dev)(w:World)(hr:Ei w)(c:A7 w v b)(k:∀d∈b,d.fits)(hl:b.length<=9223372036854775807):
  Calls prog 73 #[.agg #[.int .i64 op,v]] w λe f=>e=.returned (.bool (Ar op b))/\Below w.heap.size w f:=by
 by_cases h:21<=op/\op<=37
 ·obtain⟨i,q1,g⟩:=Az1 op h.1 h.2
  have n:Hid (∀W,Below w.heap.size w W->Calls prog 100 #[.agg #[.int .i64 op,v]] W λe f=>e=.returned (.bool (Ar op b))/\Below W.heap.size W f):=by
   intro W j;rw[<-g];exact A39 op _ _ v b W (hr.below j) i q1 (c.below j) k hl
  obtain⟨a,cap,rfl,_⟩:=c;have hd:decide (21<=op/\op<=37)=true:=by simpa using h
  clear i q1 g hr h;go_enter func73,ntmps73
  go_wp2_with (first | (go_at_call 101;refine(Ahp _ _).mono ?_;rw[hd];rintro e o ⟨rfl,rfl⟩) | (go_at_call 100;refine(n _ (Aa _ _)).mono ?_;rintro e p ⟨rfl,l⟩))
  go_ret;exact⟨rfl,Ry l⟩
 ·have m:Hid (Ar op b=false):=A5c h
  obtain⟨a,cap,rfl,_⟩:=c;have hd:decide (21<=op/\op<=37)=false:=by simpa using h
  clear hr h;go_enter func73,ntmps73
  go_wp2_with (go_at_call 101;refine(Ahp _ _).mono ?_;rw[hd];rintro e o ⟨rfl,rfl⟩)
  go_ret;exact⟨Ad m.symm,Aa _ _⟩
end Go.Proofs.YtobbpffcggchmaaGreatDoor
