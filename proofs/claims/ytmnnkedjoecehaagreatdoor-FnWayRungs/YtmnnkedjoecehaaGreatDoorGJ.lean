import Derived.Test.YtmnnkedjoecehaaGreatDoorI3
import Derived.Shelf.Abstract
set_option linter.defProp false
set_option maxHeartbeats 4000000
set_option maxRecDepth 100000
namespace Go.Proofs.YtmnnkedjoecehaaGreatDoor
open Tryz Stil Go.RowKit Go.Sort Go.BigFrame
variable {a:Nat}{op:Int}
def g7:Ko.length=304:=AX
theorem TB:∀(l:List (List UInt8 × Nat × List Nat × List Nat)) (m j:Nat),j<8->(l.flatMap Qx)[m*8+j]?=(l[m]?).bind (λr=>(Qx r)[j]?)
 | [],m,j,_=>by simp
 | r::l,m,j,b=>by
  rw[List.flatMap_cons];cases m with
  | zero=>rw[er (by simp[Qx];omega)];simp
  | succ k=>
   rw[ep (by simp[Qx];omega)];have:=TB l k j b
   rw[show(k+1)*8+j - (Qx r).length=k*8+j from by simp[Qx];omega];simpa using this
def rowOf (op:Int):List UInt8 × Nat × List Nat × List Nat:=if 0<=op/\op<38 then MK.getD op.toNat ([],0,[],[]) else([],0,[],[])
theorem Ayg (W:World)(t:TypeId)(m j:Nat)(d:m<38)(b:j<8):(W.alloc (.cells Ko.toArray t)).cell? (AL W (m*8+j))=(Qx (rowOf m))[j]?:=by
 have c:(W.alloc (.cells Ko.toArray t)).cell? (AL W (m*8+j))=Ko[m*8+j]?:=by
  rw[cell_of_row _ _ _ _ _ _ (heap_alloc_last W _)];simp
 have e:MK.length=38:=AX
 rw[c,Ko,TB _ _ _ b,rowOf,if_pos AQ];simp[DW (show m<MK.length by omega)]
def Py (n:Nat)(P:Program)(w:World)(a:Addr)(m:Mode):(store a (fnv n) m).run P w=stored P w a (fnv n) m:=run_store P w a _ m (by unfold fnv;split<;>rfl)
def J1 (r:List UInt8 × Nat × List Nat × List Nat):Value:=.agg #[.string ⟨r.1.toArray⟩,fnv r.2.1,fnv (r.2.2.1.getD 0 0),fnv (r.2.2.1.getD 1 0),fnv (r.2.2.1.getD 2 0),fnv (r.2.2.2.getD 0 0),fnv (r.2.2.2.getD 1 0),fnv (r.2.2.2.getD 2 0)]
theorem lP (op:Int)(w:World):
  Calls prog 161 #[AB op] w (AN w (J1 (rowOf op))):=by
 have V:=g7;by_cases h:0<=op/\op<38
 ·obtain⟨m,rfl⟩:=FW h.1
  have L:m<38:=AQ
  have X:=Py;obtain⟨r,F⟩:=AA (rowOf (m:Int))
  obtain⟨s,C⟩:=AA r.1
  obtain⟨g,B⟩:∃n,n=r.2.1:=⟨_,rfl⟩
  obtain⟨q,h1⟩:∃n,n=r.2.2.1.getD 0 0:=⟨_,rfl⟩
  obtain⟨f,i⟩:∃n,n=r.2.2.1.getD 1 0:=⟨_,rfl⟩
  obtain⟨E,u⟩:∃n,n=r.2.2.1.getD 2 0:=⟨_,rfl⟩
  obtain⟨o,A⟩:∃n,n=r.2.2.2.getD 0 0:=⟨_,rfl⟩
  obtain⟨z,k⟩:∃n,n=r.2.2.2.getD 1 0:=⟨_,rfl⟩
  obtain⟨D,l⟩:∃n,n=r.2.2.2.getD 2 0:=⟨_,rfl⟩
  have H:J1 r=.agg #[.string ⟨s.toArray⟩,fnv g,fnv q,fnv f,fnv E,fnv o,fnv z,fnv D]:=by rw[J1,C,B,h1,i,u,A,k,l]
  have G:Qx r=[.string ⟨s.toArray⟩,fnv g,fnv q,fnv f,fnv E,fnv o,fnv z,fnv D]:=by rw[Qx,C,B,h1,i,u,A,k,l]
  have b:=λW t j (I:j<8)=>Ayg W t m j L I
  rw[<-F] at b ⊢;rw[G] at b;rw[H];have J:=λW t=>b W t 0 AQ
  have S:=λW t=>b W t 1 AQ
  have T:=λW t=>b W t 2 AQ
  have O:=λW t=>b W t 3 AQ
  have P:=λW t=>b W t 4 AQ
  have K:=λW t=>b W t 5 AQ
  have Q:=λW t=>b W t 6 AQ
  have N:=λW t=>b W t 7 AQ
  simp only[RX,RQ,ER] at J S T O P K Q N;clear b;clear G H C B h1 i u A k l F h;go_enter func161,ntmps161
  go_wp2_with (go_at_call 163;refine(SR _).mono ?_;rintro e y ⟨rfl,c⟩;obtain⟨b,U⟩:=En c;have d:=KT c)
  rw[N3 (tgt:=Ko) (cur:=Tryz.zeroCells200) (t:=200)]
  case hvs=>rfl
  case hl=>kernel_rfl
  case h1=>kernel_rfl
  case hg=>exact heap_alloc_last _ _
  rw[World.setRow_alloc_new,Oper.upon_skip]
  go_wp2
  have x:AO w y:=Ao;refine bodyPost_ret (v:=.agg #[.string ⟨s.toArray⟩,fnv g,fnv q,fnv f,fnv E,fnv o,fnv z,fnv D]) (by simp[results,results161,go_sem,b,d]) rfl ⟨rfl,?_⟩;refine Bi ?_ _;iterate 8 refine Dq (CG _) ?_ _
  exact x
 ·have R:rowOf op=([],0,[],[]):=by unfold rowOf;rw[if_neg h]
  rw[R];go_enter func161,ntmps161
  go_wp2_with (go_at_call 163;refine(SR _).mono ?_;rintro e y ⟨rfl,c⟩;obtain⟨b,U⟩:=En c;have d:=KT c)
  rw[N3 (tgt:=Ko) (cur:=Tryz.zeroCells200) (t:=200)]
  case hvs=>rfl
  case hl=>kernel_rfl
  case h1=>kernel_rfl
  case hg=>exact heap_alloc_last _ _
  rw[World.setRow_alloc_new,Oper.upon_skip];have x:AO w y:=Ao
  go_wp2
  all_goals refine bodyPost_ret (v:=.agg #[.string ⟨#[]⟩, .nilFunc, .nilFunc, .nilFunc, .nilFunc, .nilFunc, .nilFunc, .nilFunc]) (by simp[results,results161,go_sem,b,d]) rfl ⟨rfl,?_⟩
  all_goals
   refine Bi ?_ _;iterate 8 refine Dq (CG _) ?_ _
   exact x
def U4 (l:List Nat):Value:=.agg #[fnv (l.getD 0 0),fnv (l.getD 1 0),fnv (l.getD 2 0)]
def MZ (w:World):Sem.run prog (binOp BinOp.neq 192 .nilFunc .nilFunc) w=.ok (.bool false) w:=AX
def LF (a:Nat)(w:World):Sem.run prog (binOp BinOp.neq 192 (.func (.func a) #[] #[]) .nilFunc) w=.ok (.bool true) w:=AX
def Im {n:Nat}(h:n≠0):fnv n=.func (.func n) #[] #[]:=by unfold fnv;rw[if_neg h]
def ZO:fnv 0=.nilFunc:=rfl
theorem Azy (w:World):
  Calls prog 164 #[.agg #[.nilFunc, .nilFunc, .nilFunc]] w (AN w (AB 0)):=by
 have c:=MZ;have d:=LF;go_enter func164,ntmps164
 go_wp2
 refine wp_loop_rounds 1 ?_;rw[rounds_succ]
 go_wp2
 go_ret;exact⟨rfl,Ao⟩
theorem Azx (a:Nat)(w:World):
  Calls prog 164 #[.agg #[.func (.func a) #[] #[], .nilFunc, .nilFunc]] w (AN w (AB 1)):=by
 have c:=MZ;have d:=LF;go_enter func164,ntmps164
 go_wp2
 refine wp_loop_rounds 2 ?_;rw[rounds_succ]
 go_wp2
 rw[rounds_succ]
 go_wp2
 go_ret;exact⟨rfl,Ao⟩
theorem Azw (a b:Nat)(w:World):
  Calls prog 164 #[.agg #[.func (.func a) #[] #[], .func (.func b) #[] #[], .nilFunc]] w (AN w (AB 2)):=by
 have d:=MZ;have f:=LF;go_enter func164,ntmps164
 go_wp2
 refine wp_loop_rounds 3 ?_;rw[rounds_succ]
 go_wp2
 rw[rounds_succ]
 go_wp2
 rw[rounds_succ]
 go_wp2
 go_ret;exact⟨rfl,Ao⟩
theorem Azv (a b c:Nat)(w:World):
  Calls prog 164 #[.agg #[.func (.func a) #[] #[], .func (.func b) #[] #[], .func (.func c) #[] #[]]] w (AN w (AB 3)):=by
 have g:=MZ;have f:=LF;go_enter func164,ntmps164
 go_wp2
 refine wp_loop_rounds 4 ?_;rw[rounds_succ]
 go_wp2
 rw[rounds_succ]
 go_wp2
 rw[rounds_succ]
 go_wp2
 rw[rounds_succ]
 go_wp2
 go_ret;exact⟨rfl,Ao⟩
theorem ZK (l:List Nat)(w:World)(hl:l.length<=3)(d:∀x∈l,x≠0):
  Calls prog 164 #[U4 l] w (AN w (AB l.length)):=by
 match l,hl,d with
 | [],_,_=>exact Azy w
 | [a],_,d=>simp only[U4,List.getD,RX,RQ,List.getElem?_nil,Option.getD,Im (d a AU),ZO];exact Azx a w
 | [a,b],_,d=>simp only[U4,List.getD,RX,RQ,List.getElem?_nil,Option.getD,Im (d a AU),Im (d b AU),ZO];exact Azw a b w
 | [a,b,c],_,d=>simp only[U4,List.getD,RX,RQ,Option.getD,Im (d a AU),Im (d b AU),Im (d c AU)];exact Azv a b c w
 | _::_::_::_::_,hl,_=>simp at hl
def Jb (n:Nat)(p:Stil.CC->Bool):Prop:=(∀args w,(callFunc n args).run prog w=.ok (.enter n args) w)/\∀(d:Stil.CC) (w:World),Ep w->d.fits->Calls prog n #[.agg #[AB d.kind,AB d.n,AB d.p]] w (AN w (.bool (p d)))
def Pz:List (Stil.CC->Bool)->List Stil.CC->Bool
 | [],[]=>true
 | p::c,d::b=>p d && Pz c b
 | _,_=>false
def Un (c:List (Stil.CC->Bool))(b:List Stil.CC):Bool:=!b.isEmpty && Pz c b
theorem WX:∀(c:List (Stil.CC->Bool)) (b:List Stil.CC),b.length≠c.length->Pz c b=false
 | [],[],h=>absurd rfl h
 | [],_::_,_=>rfl
 | _::_,[],_=>rfl
 | p::c,d::b,h=>by
  have:=WX c b BV
  simp[Pz,this]
theorem VH:∀(c:List (Stil.CC->Bool)) (b:List Stil.CC) (k:Nat) (f:k<c.length) (e:k<b.length),Pz (c.drop k) (b.drop k)=(c[k] b[k] && Pz (c.drop (k+1)) (b.drop (k+1)))
 | p::c,d::b,0,_,_=>rfl
 | p::c,d::b,k+1,f,e=>by
  have:=VH c b k (by simpa using f) (by simpa using e)
  simpa using this
theorem Avd (l:List Nat)(d:List (Stil.CC->Bool))(a:Option Addr)(cap:Nat)(c:List Stil.CC)(w:World)(hr:Ep w)(hl:l.length=d.length)(hd:c.length=d.length)(S:l.length<=3)(z:∀i (h1:i<l.length) (h2:i<d.length),l[i]≠0/\Jb l[i] d[i])(M:0<c.length)
  (T:∀i (h:i<c.length),∃b o,a=some (AK b o)/\b<w.heap.size/\Ju w b (o+i*3) c[i]) (hf:∀x∈c,x.fits):
  Calls prog 162 #[U4 l,AE a c.length cap] w (AN w (.bool (Pz d c))):=by
 have ai:=Py;obtain⟨s,K⟩:∃f,f=l.getD 0 0:=⟨_,rfl⟩
 obtain⟨y,C⟩:∃f,f=l.getD 1 0:=⟨_,rfl⟩
 obtain⟨t,D⟩:∃f,f=l.getD 2 0:=⟨_,rfl⟩
 have A:Hid (U4 l=.agg #[fnv s,fnv y,fnv t]):=by show _=_;rw[U4,K,C,D]
 have HP:Hid (∀W,Calls prog 164 #[.agg #[fnv s,fnv y,fnv t]] W (AN W (AB c.length))):=by
  intro W
  have:=ZK l W S (λx r=>by
   obtain⟨i,hi,rfl⟩:=List.getElem_of_mem r
   exact(z i hi AQ).1)
  rw[A.out] at this;rw[hd,<-hl];exact this
 have HC:Hid (∀k (h:k<c.length),(w.alloc (.cells #[fnv s,fnv y,fnv t] 194)).cell? (AL w k)=some (.func (.func (l.getD k 0)) #[] #[])):=by
  intro k V;have af:l.getD k 0≠0:=by
   have m:k<l.length:=AQ
   have:=(z k m AQ).1
   simpa[List.getD,DW m] using this
  rw[<-Im af];have aa:k=0\/k=1\/k=2:=AQ
  rcases aa with rfl | rfl | rfl<;>simp[go_sem,K,C,D]
 have HF:Hid (∀k (h:k<c.length) (h2:k<d.length),Jb (l.getD k 0) d[k]):=by
  intro k V ah;have m:k<l.length:=AQ
  have:=(z k m AQ).2
  simpa[List.getD,DW m] using this
 have HA:=AV T;have Y:=AV (λW (h:AO w W)=>hr.below h);have ac:=AV hf;have al:c.length<=3:=AQ
 have HL:=AV hd;have aj:¬c=[]:=by intro h;rw[h] at M;simp at M
 rw[A.out];clear K C D hl hd S z T hr A hf;go_enter func162,ntmps162
 go_wp2_with (go_at_call 164;refine(HP _).mono ?_;rintro e w1 ⟨rfl,g⟩;obtain⟨hc,ae⟩:=En g;have hz:=KT g)
 go_loopw [19] (λi wr=>∃k:Nat,k<=c.length/\i=AB k/\Pz d c=Pz (d.drop k) (c.drop k)/\Below (w.heap.size+1) (w.alloc (.cells #[fnv s,fnv y,fnv t] 194)) wr) (λi _=>c.length - (intOf i).toNat)
 case atStart=>exact⟨0,AQ,rfl,rfl,by simpa using g⟩
 case round=>
  clear g hc ae hz;obtain⟨k,V,rfl,N,g⟩:=hrel;have v:=AV N;clear N;have U:=(Aa _ _).trans (g.mono AQ);have jE:w.heap.size<wr.heap.size:=by have:=g.size;simp at this;omega
  by_cases j:k<c.length
  ·obtain⟨b,o,rfl,X,Z⟩:=HA k j
   have R:k<d.length:=by have:=HL.out;omega
   have q:=HF k j R;have J:=ac c[k] (CJ j);have u:=AV (VH d c k R j);obtain⟨x0,x1,x2⟩:=Z.below U X;have ak:=CB X U.size;have E:wr.cell? (AL w k)=some (.func (.func (l.getD k 0)) #[] #[]):=by
    rw[g.cell (p:=(AL w k)) AU];exact HC k j
   obtain⟨p,G⟩:=AA (d[k])
   obtain⟨x,r⟩:=AA (c[k])
   obtain⟨n,B⟩:=AA (l.getD k 0)
   rw[<-r] at x0 x1 x2 J;rw[<-G,<-r] at u;rw[<-B] at E;rw[<-B,<-G] at q;obtain⟨ag,q⟩:=q;have HQ:=AV q;have P:=AV J;clear B r G Z q J;have Q:(wr.alloc (.cells #[AB x.kind,AB x.n,AB x.p] 111)).cell? (AL w k)=some (.func (.func n) #[] #[]):=by rw[World.cell?_alloc_some _ _ _ (by rw[E];rfl)];exact E
   have q1:(wr.alloc (.cells #[AB x.kind,AB x.n,AB x.p] 111)).cell? (AL wr 0)=some (AB x.kind):=by simp[go_sem]
   have O:(wr.alloc (.cells #[AB x.kind,AB x.n,AB x.p] 111)).cell? (AL wr 1)=some (AB x.n):=by simp[go_sem]
   have q3:(wr.alloc (.cells #[AB x.kind,AB x.n,AB x.p] 111)).cell? (AL wr 2)=some (AB x.p):=by simp[go_sem]
   have r0:=cell_regrown Q;have r1:=cell_regrown q1;have r2:=cell_regrown O;have r3:=cell_regrown q3;clear Q q1 O q3;cases L:p x
   ·go_wp2
    refine wp_region_quiet_below AX AX ?_;repeat (go_big_quiet_step ((exact Calls.regrown_of (HQ _ _ (Y _ Ao) P.out))))
    refine wpQuiet_nil ?_;intro _ H;obtain⟨⟨dq,osq⟩,I⟩:=H;subst I
    go_wp2
    go_ret;exact⟨Ae (by rw[v.out,u.out,L];rfl),Ao⟩
   ·have ab:Hid (Pz d c=Pz (d.drop (k+1)) (c.drop (k+1))):=by show _=_;rw[v.out,u.out,L];rfl
    clear u v
    go_wp2
    refine wp_region_quiet_below AX AX ?_;repeat (go_big_quiet_step ((exact Calls.regrown_of (HQ _ _ (Y _ Ao) P.out))))
    refine wpQuiet_nil ?_;intro _ H;obtain⟨⟨dq,osq⟩,I⟩:=H;subst I
    go_wp2
    refine⟨⟨k+1,AQ,by go_num,ab.out,?_⟩,by simp[intOf];omega⟩;exact(g.alloc AQ _).trans ((below_regrown _ dq osq).mono Ax)
  ·have HE:Hid (Pz d c=true):=by
    show _=_
    have:=HL.out
    rw[v.out,F4 AQ,F4 AQ];rfl
   go_wp2
   go_ret;exact⟨Ae HE.symm,Ao⟩
theorem ek (l:List Nat)(c:List (Stil.CC->Bool))(v:Value)(b:List Stil.CC)(w:World)(hr:Ep w)(hl:l.length=c.length)(o:l.length<=3)(g:∀i (A:i<l.length) (y:i<c.length),l[i]≠0/\Jb l[i] c[i])
  (d:Dj w v b) (k:∀x∈b,x.fits) (C:b.length<=9223372036854775807):
  Calls prog 162 #[U4 l,v] w (AN w (.bool (Un c b))):=by
 obtain⟨a,cap,rfl,d⟩:=d;by_cases j:b=[]
 ·subst j
  have t:=Py;have f:Hid (Un c []=false):=rfl;unfold U4;clear g d k hr;go_enter func162,ntmps162
  go_wp2
  go_ret;exact⟨Ae f.symm,Ao⟩
 ·have s:=List.length_pos_iff.2 j
  by_cases hd:b.length=c.length
  ·have f:Un c b=Pz c b:=by
    have:b.isEmpty=false:=by simpa using j
    rw[Un,this];rfl
   rw[f];exact Avd l c a cap b w hr hl hd o g s d k
  ·have f:Hid (Un c b=false):=by show _=_;rw[Un,WX c b hd,Bool.and_false]
   have t:=Py
   have q:=AV (λW=>ZK l W o (λx u=>by
    obtain⟨i,hi,rfl⟩:=List.getElem_of_mem u
    exact(g i hi AQ).1))
   have B:((b.length:Int) !=(l.length:Int))=true:=by rw[bne_iff_ne];omega
   clear g d k hr hd hl;unfold U4 at q ⊢;go_enter func162,ntmps162
   go_wp2_with (go_at_call 164;refine(q _).mono ?_;rintro e D ⟨rfl,m⟩;obtain⟨E,z⟩:=En m;have F:=KT m)
   go_ret;exact⟨Ae f.symm,Ao⟩
def g8 (j i b f d g e c:Value)(w:World):(Instr.field 197 (.agg #[j,i,b,f,d,g,e,c]) 2).run prog w=.ok (.agg #[b,f,d,g,e,c]) w:=AX
def jz (c b d g f e:Value)(w:World):(Instr.index 195 (.agg #[c,b,d,g,f,e]) (AB 0)).run prog w=.ok (.agg #[c,b,d]) w:=AX
def ju (f e g d c b:Value)(w:World):(Instr.index 195 (.agg #[f,e,g,d,c,b]) (AB 1)).run prog w=.ok (.agg #[d,c,b]) w:=AX
def Ge (l:List Nat)(b:List (Stil.CC->Bool)):Prop:=l.length=b.length/\l.length<=3/\∀i (c:i<l.length) (d:i<b.length),l[i]≠0/\Jb l[i] b[i]
theorem SS (op:Int)(o y:List (Stil.CC->Bool))(v:Value)(c:List Stil.CC)(w:World)(hr:Ep w)(g:Ge (rowOf op).2.2.1 o)(h1:Ge (rowOf op).2.2.2 y)
  (M:Dj w v c) (Y:∀x∈c,x.fits) (N:c.length<=9223372036854775807):
  Calls prog 157 #[.agg #[AB op,v]] w (AN w (.bool (Un o c || Un y c))):=by
 obtain⟨r,m⟩:=AA (rowOf op)
 rw[<-m] at g h1;have U:Hid (∀W,Calls prog 161 #[AB op] W (AN W (J1 r))):=by intro W;rw[m];exact lP op W
 have A:=AV (λW (h:AO w W)=>M.below h);have K:=AV (λW (h:AO w W)=>hr.below h);have i:=AV (λW h=>ek _ _ v c W (K W h) g.1 g.2.1 g.2.2 (A W h) Y N);have j:=AV (λW h=>ek _ _ v c W (K W h) h1.1 h1.2.1 h1.2.2 (A W h) Y N);obtain⟨a,cap,rfl,_⟩:=M;obtain⟨s,S⟩:=AA r.1
 obtain⟨n0,R⟩:∃n,n=r.2.1:=⟨_,rfl⟩
 obtain⟨J,E⟩:∃n,n=r.2.2.1.getD 0 0:=⟨_,rfl⟩
 obtain⟨G,F⟩:∃n,n=r.2.2.1.getD 1 0:=⟨_,rfl⟩
 obtain⟨Z,D⟩:∃n,n=r.2.2.1.getD 2 0:=⟨_,rfl⟩
 obtain⟨I,u⟩:∃n,n=r.2.2.2.getD 0 0:=⟨_,rfl⟩
 obtain⟨P,B⟩:∃n,n=r.2.2.2.getD 1 0:=⟨_,rfl⟩
 obtain⟨V,t⟩:∃n,n=r.2.2.2.getD 2 0:=⟨_,rfl⟩
 have L:U4 r.2.2.1=.agg #[fnv J,fnv G,fnv Z]:=by rw[U4,E,F,D]
 have X:U4 r.2.2.2=.agg #[fnv I,fnv P,fnv V]:=by rw[U4,u,B,t]
 have H:J1 r=.agg #[.string ⟨s.toArray⟩,fnv n0,fnv J,fnv G,fnv Z,fnv I,fnv P,fnv V]:=by rw[J1,S,R,E,F,D,u,B,t]
 rw[L] at i;rw[X] at j;rw[H] at U;clear g h1 hr m S R E F D u B t L X H A;have ae:=Py;have ac:=g8;have ab:=jz;have af:=ju;generalize Un o c=t0 at i ⊢;generalize Un y c=t1 at j ⊢;go_enter func157,ntmps157
 go_wp2_with (go_at_call 161;refine(U _).mono ?_;rintro e w1 ⟨rfl,l⟩;obtain⟨hc,aa⟩:=En l;have k:=KT l;have f:=Uu l)
 cases t0
 ·cases t1
  ·refine wp_loop_rounds 3 ?_
   rw[rounds_succ]
   go_wp2_with (go_at_call 162;refine(i _ (Bi f _)).mono ?_;rintro e w2 ⟨rfl,b⟩;obtain⟨Q,O⟩:=En b;have T:=CB k (CM AU b.size);have d:=Bh (Bi f _) b)
   rw[rounds_succ]
   go_wp2_with (go_at_call 162;refine(j _ (Bi d _)).mono ?_;rintro e w3 ⟨rfl,z⟩;have C:=Bh (Bi d _) z)
   rw[rounds_succ]
   go_wp2
   go_ret;exact⟨rfl,C⟩
  ·refine wp_loop_rounds 2 ?_
   rw[rounds_succ]
   go_wp2_with (go_at_call 162;refine(i _ (Bi f _)).mono ?_;rintro e w2 ⟨rfl,b⟩;obtain⟨Q,O⟩:=En b;have T:=CB k (CM AU b.size);have d:=Bh (Bi f _) b)
   rw[rounds_succ]
   go_wp2_with (go_at_call 162;refine(j _ (Bi d _)).mono ?_;rintro e w3 ⟨rfl,z⟩;have C:=Bh (Bi d _) z)
   go_ret;exact⟨rfl,C⟩
 ·refine wp_loop_rounds 1 ?_
  rw[rounds_succ]
  go_wp2_with (go_at_call 162;refine(i _ (Bi f _)).mono ?_;rintro e w2 ⟨rfl,b⟩;obtain⟨Q,O⟩:=En b;have T:=CB k (CM AU b.size);have d:=Bh (Bi f _) b)
  go_ret;exact⟨rfl,d⟩
def pl (l:List Int)(d:Stil.CC):Bool:=d.ok && decide (d.kind∈l)
def ZY (d:Stil.CC):Bool:=d.ok && decide (d.kind∈([11]:List Int)) && decide (0<=d.n)
def TG:Jb 173 (pl [5]):=⟨enters_of func173 AX rfl,λd w c b=>nm d w c b.2.1.1 b.2.1.2⟩
def oQ:Jb 179 (pl [4]):=⟨enters_of func179 AX rfl,λd w c b=>nh d w c b.2.1.1 b.2.1.2⟩
def oO:Jb 167 (pl [7]):=⟨enters_of func167 AX rfl,λd w c b=>ng d w c b.2.1.1 b.2.1.2⟩
def oR:Jb 180 (pl [8]):=⟨enters_of func180 AX rfl,λd w c b=>nt d w c b.2.1.1 b.2.1.2⟩
def LK:Jb 169 (pl [9]):=⟨enters_of func169 AX rfl,λd w c b=>nr d w c b.2.1.1 b.2.1.2⟩
def NS:Jb 170 (pl [10]):=⟨enters_of func170 AX rfl,λd w c b=>nj d w c b.2.1.1 b.2.1.2⟩
def S7:Jb 176 (pl [2,3]):=⟨enters_of func176 AX rfl,λd w c b=>nM d w c b.2.1.1 b.2.1.2⟩
def nB:Jb 177 (pl [2,3,4]):=⟨enters_of func177 AX rfl,λd w c b=>lj d w c b.2.1.1 b.2.1.2⟩
def iO:Jb 178 (pl [2,3,4,7,8]):=⟨enters_of func178 AX rfl,λd w c b=>Az4 d w c b.2.1.1 b.2.1.2⟩
def YQ:Jb 168 ZY:=⟨enters_of func168 AX rfl,λd w c b=>Avn d w c b.2.1.1 b.2.1.2⟩
def SN:Jb 172 Stil.CC.isBit:=⟨enters_of func172 AX rfl,λd w c b=>Avs d.kind d.n d.p w c b.2.1.1 b.2.1.2⟩
def U8:Jb 165 Stil.CC.isWhole:=⟨enters_of func165 AX rfl,λd w c b=>sR d.kind d.n d.p w c b.2.1.1 b.2.1.2⟩
def JY:Jb 166 Stil.CC.isReal:=⟨enters_of func166 AX rfl,λd w c b=>uW d.kind d.n d.p w c b.2.1.1 b.2.1.2⟩
def FU:Ge [] []:=⟨rfl,AU,λi h=>absurd h AU⟩
theorem KN {p:Stil.CC->Bool}(c:a≠0)(h:Jb a p):Ge [a] [p]:=⟨rfl,AU,λi b d=>by
 have:i=0:=by simp at b;omega
 subst this;exact⟨c,h⟩⟩
theorem GO {b:Nat}{p q:Stil.CC->Bool}(d:a≠0)(h:Jb a p)(c:b≠0)(k:Jb b q):Ge [a,b] [p,q]:=⟨rfl,AU,λi e f=>by
 have:i=0\/i=1:=by simp at e;omega
 rcases this with rfl | rfl
 ·exact⟨d,h⟩
 ·exact⟨c,k⟩⟩
theorem NR {b c:Nat}{p q r:Stil.CC->Bool}(e:a≠0)(h:Jb a p)(d:b≠0)(k:Jb b q)(g:c≠0)(m:Jb c r):Ge [a,b,c] [p,q,r]:=⟨rfl,AU,λi f j=>by
 have:i=0\/i=1\/i=2:=by simp at f;omega
 rcases this with rfl | rfl | rfl
 ·exact⟨e,h⟩
 ·exact⟨d,k⟩
 ·exact⟨g,m⟩⟩
def BP {p:Prop}(h:p:=by(rcases ds with _ | ⟨a,_ | ⟨b,_ | ⟨c,_ | ⟨d,r⟩⟩⟩⟩<;>simp[Un,Pz,Dw,Gj,Stil.arity,FM,Ov,pl,ZY,Stil.CC.kindIs,Ol,Stil.CC.ok,Stil.CC.isBit,Stil.CC.isWhole,Stil.CC.isReal]<;>try first | omega | grind)):p:=h
theorem sx (op:Int)(h1:1<=op)(e:op<=10):∃p q,Ge (rowOf op).2.2.1 p/\Ge (rowOf op).2.2.2 q/\∀ds,(Un p ds || Un q ds)=Dw op ds:=by
 have h:op=1\/op=2\/op=3\/op=4\/op=5\/op=6\/op=7\/op=8\/op=9\/op=10:=AQ
 rcases h with rfl | rfl | rfl | rfl | rfl | rfl | rfl | rfl | rfl | rfl
 all_goals first
  | exact⟨_,_,KN AY SN,FU,λds=>BP⟩
  | exact⟨_,_,GO AY SN AY TG,FU,λds=>BP⟩
  | exact⟨_,_,GO AY U8 AY U8,GO AY JY AY JY,λds=>BP⟩
theorem fm (op:Int)(h1:21<=op)(e:op<=37):∃p q,Ge (rowOf op).2.2.1 p/\Ge (rowOf op).2.2.2 q/\∀ds,(Un p ds || Un q ds)=Gj op ds:=by
 have h:op=21\/op=22\/op=23\/op=24\/op=25\/op=26\/op=27\/op=28\/op=29\/op=30\/op=31\/op=32\/op=33\/op=34\/op=35\/op=36\/op=37:=AQ
 rcases h with rfl | rfl | rfl | rfl | rfl | rfl | rfl | rfl | rfl | rfl | rfl | rfl | rfl | rfl | rfl | rfl | rfl
 all_goals first
  | exact⟨_,_,KN AY S7,FU,λds=>BP⟩
  | exact⟨_,_,KN AY nB,FU,λds=>BP⟩
  | exact⟨_,_,KN AY iO,FU,λds=>BP⟩
  | exact⟨_,_,GO AY S7 AY TG,FU,λds=>BP⟩
  | exact⟨_,_,KN AY oQ,FU,λds=>BP⟩
  | exact⟨_,_,GO AY oO AY YQ,FU,λds=>BP⟩
  | exact⟨_,_,GO AY oR AY YQ,FU,λds=>BP⟩
  | exact⟨_,_,GO AY LK AY U8,GO AY NS AY JY,λds=>BP⟩
  | exact⟨_,_,NR AY LK AY U8 AY U8,NR AY NS AY JY AY JY,λds=>BP⟩
  | exact⟨_,_,NR AY LK AY U8 AY U8,FU,λds=>BP⟩
  | exact⟨_,_,GO AY NS AY U8,FU,λds=>BP⟩
  | exact⟨_,_,GO AY LK AY JY,FU,λds=>BP⟩
theorem TY (op:Int)(w:World):
  Calls prog 158 #[AB op] w λe d=>e=.returned (.bool (decide (1<=op/\op<=10)))/\d=w:=by
 by_cases f:1<=op
 ·by_cases b:op<=10
  ·have c:decide (op<=10)=true:=by simpa using b
   go_enter func158,ntmps158
   go_wp2
   all_goals go_ret
   all_goals exact⟨Ae BZ,rfl⟩
  ·have c:decide (op<=10)=false:=by simpa using b
   go_enter func158,ntmps158
   go_wp2
   all_goals go_ret
   all_goals exact⟨Ae BZ,rfl⟩
 ·have g:decide (1<=op)=false:=by simpa using f
  go_enter func158,ntmps158
  go_wp2
  all_goals go_ret
  all_goals exact⟨Ae BZ,rfl⟩
def Auy {b:List Stil.CC}(h:¬(1<=op/\op<=10)):Dw op b=false:=by unfold Dw;rw[if_pos AQ]
theorem VZ (op:Int)(v:Value)(b:List Stil.CC)(w:World)(hr:Ep w)(c:Dj w v b)(n:∀d∈b,d.fits)(hl:b.length<=9223372036854775807):
  Calls prog 149 #[.agg #[AB op,v]] w (AN w (.bool (Dw op b))):=by
 by_cases h:1<=op/\op<=10
 ·obtain⟨_,_,g,q1,j⟩:=sx op h.1 h.2
  have m:Hid (∀W,AO w W->Calls prog 157 #[.agg #[AB op,v]] W (AN W (.bool (Dw op b)))):=by
   intro W i;rw[<-j];exact SS op _ _ v b W (hr.below i) g q1 (c.below i) n hl
  obtain⟨a,cap,rfl,_⟩:=c;have hd:decide (1<=op/\op<=10)=true:=by simpa using h
  clear g q1 j hr h;go_enter func149,ntmps149
  go_wp2_with (first | (go_at_call 158;refine(TY _ _).mono ?_;rw[hd];rintro e l ⟨rfl,rfl⟩) | (go_at_call 157;refine(m _ (Aa _ _)).mono ?_;rintro e p ⟨rfl,k⟩))
  go_ret;exact⟨rfl,Uu k⟩
 ·have o:Hid (Dw op b=false):=Auy h
  obtain⟨a,cap,rfl,_⟩:=c;have hd:decide (1<=op/\op<=10)=false:=by simpa using h
  clear hr h;go_enter func149,ntmps149
  go_wp2_with (go_at_call 158;refine(TY _ _).mono ?_;rw[hd];rintro e l ⟨rfl,rfl⟩)
  go_ret;exact⟨Ae o.symm,Aa _ _⟩
theorem XR (op:Int)(w:World):
  Calls prog 156 #[AB op] w λe d=>e=.returned (.bool (decide (21<=op/\op<=37)))/\d=w:=by
 by_cases f:21<=op
 ·by_cases b:op<=37
  ·have c:decide (op<=37)=true:=by simpa using b
   go_enter func156,ntmps156
   go_wp2
   all_goals go_ret
   all_goals exact⟨Ae BZ,rfl⟩
  ·have c:decide (op<=37)=false:=by simpa using b
   go_enter func156,ntmps156
   go_wp2
   all_goals go_ret
   all_goals exact⟨Ae BZ,rfl⟩
 ·have g:decide (21<=op)=false:=by simpa using f
  go_enter func156,ntmps156
  go_wp2
  all_goals go_ret
  all_goals exact⟨Ae BZ,rfl⟩
def kx {b:List Stil.CC}(h:¬(21<=op/\op<=37)):Gj op b=false:=by unfold Gj;rw[if_pos AQ]
theorem Xs (op:Int)(v:Value)(b:List Stil.CC)(w:World)(hr:Ep w)(c:Dj w v b)(n:∀d∈b,d.fits)(hl:b.length<=9223372036854775807):
  Calls prog 145 #[.agg #[AB op,v]] w (AN w (.bool (Gj op b))):=by
 by_cases h:21<=op/\op<=37
 ·obtain⟨_,_,g,q1,j⟩:=fm op h.1 h.2
  have m:Hid (∀W,AO w W->Calls prog 157 #[.agg #[AB op,v]] W (AN W (.bool (Gj op b)))):=by
   intro W i;rw[<-j];exact SS op _ _ v b W (hr.below i) g q1 (c.below i) n hl
  obtain⟨a,cap,rfl,_⟩:=c;have hd:decide (21<=op/\op<=37)=true:=by simpa using h
  clear g q1 j hr h;go_enter func145,ntmps145
  go_wp2_with (first | (go_at_call 156;refine(XR _ _).mono ?_;rw[hd];rintro e l ⟨rfl,rfl⟩) | (go_at_call 157;refine(m _ (Aa _ _)).mono ?_;rintro e p ⟨rfl,k⟩))
  go_ret;exact⟨rfl,Uu k⟩
 ·have o:Hid (Gj op b=false):=kx h
  obtain⟨a,cap,rfl,_⟩:=c;have hd:decide (21<=op/\op<=37)=false:=by simpa using h
  clear hr h;go_enter func145,ntmps145
  go_wp2_with (go_at_call 156;refine(XR _ _).mono ?_;rw[hd];rintro e l ⟨rfl,rfl⟩)
  go_ret;exact⟨Ae o.symm,Aa _ _⟩
