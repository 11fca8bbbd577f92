import Derived.Test.YtifcnfeppdbjdaaGreatDoorI3
import Derived.Shelf.Abstract
set_option maxHeartbeats 4000000
set_option maxRecDepth 100000
namespace Go.Proofs.YtifcnfeppdbjdaaGreatDoor
open Tryz Stil Go.RowKit Go.Sort Go.BigFrame
variable {a:Nat}{op:Int}
theorem fX:Kr.length=304:=AX
theorem S4:∀(l:List (List UInt8 × Nat × List Nat × List Nat)) (m j:Nat),j<8->(l.flatMap Qo)[m*8+j]?=(l[m]?).bind (λr=>(Qo r)[j]?)
 | [],m,j,_=>by simp
 | r::l,m,j,b=>by
  rw[List.flatMap_cons];cases m with
  | zero=>rw[eR (by simp[Qo];omega)];simp
  | succ k=>
   rw[MV (by simp[Qo];omega)];have:=S4 l k j b
   rw[show(k+1)*8+j - (Qo r).length=k*8+j from by simp[Qo];omega];simpa using this
def rowOf (op:Int):List UInt8 × Nat × List Nat × List Nat:=if 0<=op/\op<38 then L1.getD op.toNat ([],0,[],[]) else([],0,[],[])
theorem Ax1 (W:World)(t:TypeId)(m j:Nat)(e:m<38)(c:j<8):(W.alloc (.cells Kr.toArray t)).cell? (AL W (m*8+j))=(Qo (rowOf m))[j]?:=by
 have b:(W.alloc (.cells Kr.toArray t)).cell? (AL W (m*8+j))=Kr[m*8+j]?:=by
  rw[cell_of_row _ _ _ _ _ _ (heap_alloc_last W _)];simp
 have d:L1.length=38:=AX
 rw[b,Kr,S4 _ _ _ c,rowOf,if_pos AQ];simp[DX (show m<L1.length by omega)]
theorem Pi (n:Nat)(P:Program)(w:World)(a:Addr)(m:Mode):(store a (fnv n) m).run P w=stored P w a (fnv n) m:=run_store P w a _ m (by unfold fnv;split<;>rfl)
def JU (r:List UInt8 × Nat × List Nat × List Nat):Value:=.agg #[.string ⟨r.1.toArray⟩,fnv r.2.1,fnv (r.2.2.1.getD 0 0),fnv (r.2.2.1.getD 1 0),fnv (r.2.2.1.getD 2 0),fnv (r.2.2.2.getD 0 0),fnv (r.2.2.2.getD 1 0),fnv (r.2.2.2.getD 2 0)]
theorem lR (op:Int)(w:World):
  Calls prog 162 #[AB op] w (AN w (JU (rowOf op))):=by
 have V:=fX;by_cases h:0<=op/\op<38
 ·obtain⟨m,rfl⟩:=FP h.1
  have M:m<38:=AQ
  have X:=Pi;obtain⟨r,F⟩:=AA (rowOf (m:Int))
  obtain⟨s,o⟩:=AA r.1
  obtain⟨d,i⟩:∃n,n=r.2.1:=⟨_,rfl⟩
  obtain⟨q,h1⟩:∃n,n=r.2.2.1.getD 0 0:=⟨_,rfl⟩
  obtain⟨g,E⟩:∃n,n=r.2.2.1.getD 1 0:=⟨_,rfl⟩
  obtain⟨y,z⟩:∃n,n=r.2.2.1.getD 2 0:=⟨_,rfl⟩
  obtain⟨A,k⟩:∃n,n=r.2.2.2.getD 0 0:=⟨_,rfl⟩
  obtain⟨B,C⟩:∃n,n=r.2.2.2.getD 1 0:=⟨_,rfl⟩
  obtain⟨x,l⟩:∃n,n=r.2.2.2.getD 2 0:=⟨_,rfl⟩
  have G:JU r=.agg #[.string ⟨s.toArray⟩,fnv d,fnv q,fnv g,fnv y,fnv A,fnv B,fnv x]:=by rw[JU,o,i,h1,E,z,k,C,l]
  have H:Qo r=[.string ⟨s.toArray⟩,fnv d,fnv q,fnv g,fnv y,fnv A,fnv B,fnv x]:=by rw[Qo,o,i,h1,E,z,k,C,l]
  have b:=λW t j (R:j<8)=>Ax1 W t m j M R
  rw[<-F] at b ⊢;rw[H] at b;rw[G];have Q:=λW t=>b W t 0 AQ
  have J:=λW t=>b W t 1 AQ
  have O:=λW t=>b W t 2 AQ
  have L:=λW t=>b W t 3 AQ
  have N:=λW t=>b W t 4 AQ
  have S:=λW t=>b W t 5 AQ
  have K:=λW t=>b W t 6 AQ
  have P:=λW t=>b W t 7 AQ
  simp only[RP,RH,EO] at Q J O L N S K P;clear b;clear H G o i h1 E z k C l F h;go_enter func162,ntmps162
  go_wp2_with (go_at_call 166;refine(SJ _).mono ?_;rintro e u ⟨rfl,c⟩;obtain⟨b,I⟩:=Ef c;have D:=KF c)
  rw[OB (tgt:=Kr) (cur:=Tryz.zeroCells201) (t:=201)]
  case hvs=>rfl
  case hl=>kernel_rfl
  case h1=>kernel_rfl
  case hg=>exact heap_alloc_last _ _
  rw[World.setRow_alloc_new,Oper.upon_skip]
  go_wp2
  have f:AO w u:=Av;refine bodyPost_ret (v:=.agg #[.string ⟨s.toArray⟩,fnv d,fnv q,fnv g,fnv y,fnv A,fnv B,fnv x]) (by simp[results,results162,go_sem,b,D]) rfl ⟨rfl,?_⟩;refine Bd ?_ _;iterate 8 refine Dj (CG _) ?_ _
  exact f
 ·have T:rowOf op=([],0,[],[]):=by unfold rowOf;rw[if_neg h]
  rw[T];go_enter func162,ntmps162
  go_wp2_with (go_at_call 166;refine(SJ _).mono ?_;rintro e u ⟨rfl,c⟩;obtain⟨b,I⟩:=Ef c;have D:=KF c)
  rw[OB (tgt:=Kr) (cur:=Tryz.zeroCells201) (t:=201)]
  case hvs=>rfl
  case hl=>kernel_rfl
  case h1=>kernel_rfl
  case hg=>exact heap_alloc_last _ _
  rw[World.setRow_alloc_new,Oper.upon_skip];have f:AO w u:=Av
  go_wp2
  all_goals refine bodyPost_ret (v:=.agg #[.string ⟨#[]⟩, .nilFunc, .nilFunc, .nilFunc, .nilFunc, .nilFunc, .nilFunc, .nilFunc]) (by simp[results,results162,go_sem,b,D]) rfl ⟨rfl,?_⟩
  all_goals
   refine Bd ?_ _;iterate 8 refine Dj (CG _) ?_ _
   exact f
def Uu (l:List Nat):Value:=.agg #[fnv (l.getD 0 0),fnv (l.getD 1 0),fnv (l.getD 2 0)]
theorem MR (w:World):Sem.run prog (binOp BinOp.neq 192 .nilFunc .nilFunc) w=.ok (.bool false) w:=AX
theorem K7 (a:Nat)(w:World):Sem.run prog (binOp BinOp.neq 192 (.func (.func a) #[] #[]) .nilFunc) w=.ok (.bool true) w:=AX
theorem Ix {n:Nat}(h:n≠0):fnv n=.func (.func n) #[] #[]:=by unfold fnv;rw[if_neg h]
theorem ZW:fnv 0=.nilFunc:=rfl
theorem Azq (w:World):
  Calls prog 167 #[.agg #[.nilFunc, .nilFunc, .nilFunc]] w (AN w (AB 0)):=by
 have d:=MR;have c:=K7;go_enter func167,ntmps167
 go_wp2
 refine wp_loop_rounds 1 ?_;rw[rounds_succ]
 go_wp2
 go_ret;exact⟨rfl,Av⟩
theorem Azp (a:Nat)(w:World):
  Calls prog 167 #[.agg #[.func (.func a) #[] #[], .nilFunc, .nilFunc]] w (AN w (AB 1)):=by
 have d:=MR;have c:=K7;go_enter func167,ntmps167
 go_wp2
 refine wp_loop_rounds 2 ?_;rw[rounds_succ]
 go_wp2
 rw[rounds_succ]
 go_wp2
 go_ret;exact⟨rfl,Av⟩
theorem Azo (a b:Nat)(w:World):
  Calls prog 167 #[.agg #[.func (.func a) #[] #[], .func (.func b) #[] #[], .nilFunc]] w (AN w (AB 2)):=by
 have f:=MR;have d:=K7;go_enter func167,ntmps167
 go_wp2
 refine wp_loop_rounds 3 ?_;rw[rounds_succ]
 go_wp2
 rw[rounds_succ]
 go_wp2
 rw[rounds_succ]
 go_wp2
 go_ret;exact⟨rfl,Av⟩
theorem Azn (a b c:Nat)(w:World):
  Calls prog 167 #[.agg #[.func (.func a) #[] #[], .func (.func b) #[] #[], .func (.func c) #[] #[]]] w (AN w (AB 3)):=by
 have f:=MR;have g:=K7;go_enter func167,ntmps167
 go_wp2
 refine wp_loop_rounds 4 ?_;rw[rounds_succ]
 go_wp2
 rw[rounds_succ]
 go_wp2
 rw[rounds_succ]
 go_wp2
 rw[rounds_succ]
 go_wp2
 go_ret;exact⟨rfl,Av⟩
theorem ZS (l:List Nat)(w:World)(hl:l.length<=3)(d:∀x∈l,x≠0):
  Calls prog 167 #[Uu l] w (AN w (AB l.length)):=by
 match l,hl,d with
 | [],_,_=>exact Azq w
 | [a],_,d=>simp only[Uu,List.getD,RP,RH,List.getElem?_nil,Option.getD,Ix (d a AU),ZW];exact Azp a w
 | [a,b],_,d=>simp only[Uu,List.getD,RP,RH,List.getElem?_nil,Option.getD,Ix (d a AU),Ix (d b AU),ZW];exact Azo a b w
 | [a,b,c],_,d=>simp only[Uu,List.getD,RP,RH,Option.getD,Ix (d a AU),Ix (d b AU),Ix (d c AU)];exact Azn a b c w
 | _::_::_::_::_,hl,_=>simp at hl
def Jf (n:Nat)(p:Stil.CC->Bool):Prop:=(∀args w,(callFunc n args).run prog w=.ok (.enter n args) w)/\∀(d:Stil.CC) (w:World),Et w->d.fits->Calls prog n #[.agg #[AB d.kind,AB d.n,AB d.p]] w (AN w (.bool (p d)))
def Pm:List (Stil.CC->Bool)->List Stil.CC->Bool
 | [],[]=>true
 | p::b,d::c=>p d && Pm b c
 | _,_=>false
def Uc (c:List (Stil.CC->Bool))(b:List Stil.CC):Bool:=!b.isEmpty && Pm c b
theorem Wa:∀(b:List (Stil.CC->Bool)) (c:List Stil.CC),c.length≠b.length->Pm b c=false
 | [],[],h=>absurd rfl h
 | [],_::_,_=>rfl
 | _::_,[],_=>rfl
 | p::b,d::c,h=>by
  have:=Wa b c BR
  simp[Pm,this]
theorem UW:∀(b:List (Stil.CC->Bool)) (c:List Stil.CC) (k:Nat) (e:k<b.length) (f:k<c.length),Pm (b.drop k) (c.drop k)=(b[k] c[k] && Pm (b.drop (k+1)) (c.drop (k+1)))
 | p::b,d::c,0,_,_=>rfl
 | p::b,d::c,k+1,e,f=>by
  have:=UW b c k (by simpa using e) (by simpa using f)
  simpa using this
theorem yR (l:List Nat)(d:List (Stil.CC->Bool))(a:Option Addr)(cap:Nat)(c:List Stil.CC)(w:World)(hr:Et w)(hl:l.length=d.length)(hd:c.length=d.length)(Z:l.length<=3)(v:∀i (h1:i<l.length) (h2:i<d.length),l[i]≠0/\Jf l[i] d[i])(U:0<c.length)
  (R:∀i (h:i<c.length),∃b o,a=some (AK b o)/\b<w.heap.size/\Jg w b (o+i*3) c[i]) (N:∀x∈c,x.fits):
  Calls prog 163 #[Uu l,AE a c.length cap] w (AN w (.bool (Pm d c))):=by
 have al:=Pi;obtain⟨t,G⟩:∃f,f=l.getD 0 0:=⟨_,rfl⟩
 obtain⟨u,I⟩:∃f,f=l.getD 1 0:=⟨_,rfl⟩
 obtain⟨z,B⟩:∃f,f=l.getD 2 0:=⟨_,rfl⟩
 have D:Hid (Uu l=.agg #[fnv t,fnv u,fnv z]):=by show _=_;rw[Uu,G,I,B]
 have HP:Hid (∀W,Calls prog 167 #[.agg #[fnv t,fnv u,fnv z]] W (AN W (AB c.length))):=by
  intro W
  have:=ZS l W Z (λx m=>by
   obtain⟨i,hi,rfl⟩:=List.getElem_of_mem m
   exact(v i hi AQ).1)
  rw[D.out] at this;rw[hd,<-hl];exact this
 have HC:Hid (∀k (h:k<c.length),(w.alloc (.cells #[fnv t,fnv u,fnv z] 194)).cell? (AL w k)=some (.func (.func (l.getD k 0)) #[] #[])):=by
  intro k hk;have ah:l.getD k 0≠0:=by
   have j:k<l.length:=AQ
   have:=(v k j AQ).1
   simpa[List.getD,DX j] using this
  rw[<-Ix ah];have af:k=0\/k=1\/k=2:=AQ
  rcases af with rfl | rfl | rfl<;>simp[go_sem,G,I,B]
 have HF:Hid (∀k (h:k<c.length) (h2:k<d.length),Jf (l.getD k 0) d[k]):=by
  intro k hk an;have j:k<l.length:=AQ
  have:=(v k j AQ).2
  simpa[List.getD,DX j] using this
 have HA:=AV R;have Y:=AV (λW (h:AO w W)=>hr.below h);have ag:=AV N;have ao:c.length<=3:=AQ
 have V:=AV hd;have aj:¬c=[]:=by intro h;rw[h] at U;simp at U
 rw[D.out];clear G I B hl hd Z v R hr D N;go_enter func163,ntmps163
 go_wp2_with (go_at_call 167;refine(HP _).mono ?_;rintro e w1 ⟨rfl,g⟩;obtain⟨hc,ai⟩:=Ef g;have hz:=KF g)
 go_loopw [19] (λi wr=>∃k:Nat,k<=c.length/\i=AB k/\Pm d c=Pm (d.drop k) (c.drop k)/\Below (w.heap.size+1) (w.alloc (.cells #[fnv t,fnv u,fnv z] 194)) wr) (λi _=>c.length - (intOf i).toNat)
 case atStart=>exact⟨0,AQ,rfl,rfl,by simpa using g⟩
 case round=>
  clear g hc ai hz;obtain⟨k,hk,rfl,X,g⟩:=hrel;have s:=AV X;clear X;have aa:=(Aa _ _).trans (g.mono AQ);have jB:w.heap.size<wr.heap.size:=by have:=g.size;simp at this;omega
  by_cases q:k<c.length
  ·obtain⟨b,o,rfl,ac,O⟩:=HA k q
   have ab:k<d.length:=by have:=V.out;omega
   have r:=HF k q ab;have K:=ag c[k] (CN q);have y:=AV (UW d c k ab q);obtain⟨x0,x1,x2⟩:=O.below aa ac;have ak:=CB ac aa.size;have J:wr.cell? (AL w k)=some (.func (.func (l.getD k 0)) #[] #[]):=by
    rw[g.cell (p:=(AL w k)) AU];exact HC k q
   obtain⟨p,H⟩:=AA (d[k])
   obtain⟨x,m⟩:=AA (c[k])
   obtain⟨n,C⟩:=AA (l.getD k 0)
   rw[<-m] at x0 x1 x2 K;rw[<-H,<-m] at y;rw[<-C] at J;rw[<-C,<-H] at r;obtain⟨ap,r⟩:=r;have S:=AV r;have T:=AV K;clear C m H O r K;have P:(wr.alloc (.cells #[AB x.kind,AB x.n,AB x.p] 55)).cell? (AL w k)=some (.func (.func n) #[] #[]):=by rw[World.cell?_alloc_some _ _ _ (by rw[J];rfl)];exact J
   have q1:(wr.alloc (.cells #[AB x.kind,AB x.n,AB x.p] 55)).cell? (AL wr 0)=some (AB x.kind):=by simp[go_sem]
   have M:(wr.alloc (.cells #[AB x.kind,AB x.n,AB x.p] 55)).cell? (AL wr 1)=some (AB x.n):=by simp[go_sem]
   have q3:(wr.alloc (.cells #[AB x.kind,AB x.n,AB x.p] 55)).cell? (AL wr 2)=some (AB x.p):=by simp[go_sem]
   have r0:=cell_regrown P;have r1:=cell_regrown q1;have r2:=cell_regrown M;have r3:=cell_regrown q3;clear P q1 M q3;cases Q:p x
   ·go_wp2
    refine wp_region_quiet_below AX AX ?_;repeat (go_big_quiet_step ((exact Calls.regrown_of (S _ _ (Y _ Av) T.out))))
    refine wpQuiet_nil ?_;intro _ A;obtain⟨⟨L,osq⟩,E⟩:=A;subst E
    go_wp2
    go_ret;exact⟨Ae (by rw[s.out,y.out,Q];rfl),Av⟩
   ·have ae:Hid (Pm d c=Pm (d.drop (k+1)) (c.drop (k+1))):=by show _=_;rw[s.out,y.out,Q];rfl
    clear y s
    go_wp2
    refine wp_region_quiet_below AX AX ?_;repeat (go_big_quiet_step ((exact Calls.regrown_of (S _ _ (Y _ Av) T.out))))
    refine wpQuiet_nil ?_;intro _ A;obtain⟨⟨L,osq⟩,E⟩:=A;subst E
    go_wp2
    refine⟨⟨k+1,AQ,by go_num,ae.out,?_⟩,by simp[intOf];omega⟩;exact(g.alloc AQ _).trans ((below_regrown _ L osq).mono Ax)
  ·have HE:Hid (Pm d c=true):=by
    show _=_
    have:=V.out
    rw[s.out,GR AQ,GR AQ];rfl
   go_wp2
   go_ret;exact⟨Ae HE.symm,Av⟩
theorem eM (l:List Nat)(c:List (Stil.CC->Bool))(v:Value)(b:List Stil.CC)(w:World)(hr:Et w)(hl:l.length=c.length)(m:l.length<=3)(g:∀i (B:i<l.length) (E:i<c.length),l[i]≠0/\Jf l[i] c[i])
  (d:Dk w v b) (j:∀x∈b,x.fits) (y:b.length<=9223372036854775807):
  Calls prog 163 #[Uu l,v] w (AN w (.bool (Uc c b))):=by
 obtain⟨a,cap,rfl,d⟩:=d;by_cases k:b=[]
 ·subst k
  have u:=Pi;have f:Hid (Uc c []=false):=rfl;unfold Uu;clear g d j hr;go_enter func163,ntmps163
  go_wp2
  go_ret;exact⟨Ae f.symm,Av⟩
 ·have r:=List.length_pos_iff.2 k
  by_cases hd:b.length=c.length
  ·have f:Uc c b=Pm c b:=by
    have:b.isEmpty=false:=by simpa using k
    rw[Uc,this];rfl
   rw[f];exact yR l c a cap b w hr hl hd m g r d j
  ·have f:Hid (Uc c b=false):=by show _=_;rw[Uc,Wa c b hd,Bool.and_false]
   have u:=Pi
   have q:=AV (λW=>ZS l W m (λx t=>by
    obtain⟨i,hi,rfl⟩:=List.getElem_of_mem t
    exact(g i hi AQ).1))
   have F:((b.length:Int) !=(l.length:Int))=true:=by rw[bne_iff_ne];omega
   clear g d j hr hd hl;unfold Uu at q ⊢;go_enter func163,ntmps163
   go_wp2_with (go_at_call 167;refine(q _).mono ?_;rintro e z ⟨rfl,o⟩;obtain⟨C,A⟩:=Ef o;have D:=KF o)
   go_ret;exact⟨Ae f.symm,Av⟩
theorem fY (j i e d b g f c:Value)(w:World):(Instr.field 197 (.agg #[j,i,e,d,b,g,f,c]) 2).run prog w=.ok (.agg #[e,d,b,g,f,c]) w:=AX
theorem jz (d c b g e f:Value)(w:World):(Instr.index 195 (.agg #[d,c,b,g,e,f]) (AB 0)).run prog w=.ok (.agg #[d,c,b]) w:=AX
theorem ju (g f e d b c:Value)(w:World):(Instr.index 195 (.agg #[g,f,e,d,b,c]) (AB 1)).run prog w=.ok (.agg #[d,b,c]) w:=AX
def GI (l:List Nat)(b:List (Stil.CC->Bool)):Prop:=l.length=b.length/\l.length<=3/\∀i (d:i<l.length) (c:i<b.length),l[i]≠0/\Jf l[i] b[i]
theorem SK (op:Int)(q m:List (Stil.CC->Bool))(v:Value)(c:List Stil.CC)(w:World)(hr:Et w)(g:GI (rowOf op).2.2.1 q)(h1:GI (rowOf op).2.2.2 m)
  (Y:Dk w v c) (G:∀x∈c,x.fits) (L:c.length<=9223372036854775807):
  Calls prog 155 #[.agg #[AB op,v]] w (AN w (.bool (Uc q c || Uc m c))):=by
 obtain⟨r,B⟩:=AA (rowOf op)
 rw[<-B] at g h1;have P:Hid (∀W,Calls prog 162 #[AB op] W (AN W (JU r))):=by intro W;rw[B];exact lR op W
 have o:=AV (λW (h:AO w W)=>Y.below h);have S:=AV (λW (h:AO w W)=>hr.below h);have i:=AV (λW h=>eM _ _ v c W (S W h) g.1 g.2.1 g.2.2 (o W h) G L);have j:=AV (λW h=>eM _ _ v c W (S W h) h1.1 h1.2.1 h1.2.2 (o W h) G L);obtain⟨a,cap,rfl,_⟩:=Y;obtain⟨s,Q⟩:=AA r.1
 obtain⟨n0,O⟩:∃n,n=r.2.1:=⟨_,rfl⟩
 obtain⟨R,u⟩:∃n,n=r.2.2.1.getD 0 0:=⟨_,rfl⟩
 obtain⟨K,F⟩:∃n,n=r.2.2.1.getD 1 0:=⟨_,rfl⟩
 obtain⟨V,y⟩:∃n,n=r.2.2.1.getD 2 0:=⟨_,rfl⟩
 obtain⟨Z,C⟩:∃n,n=r.2.2.2.getD 0 0:=⟨_,rfl⟩
 obtain⟨n5,k⟩:∃n,n=r.2.2.2.getD 1 0:=⟨_,rfl⟩
 obtain⟨U,A⟩:∃n,n=r.2.2.2.getD 2 0:=⟨_,rfl⟩
 have J:Uu r.2.2.1=.agg #[fnv R,fnv K,fnv V]:=by rw[Uu,u,F,y]
 have H:Uu r.2.2.2=.agg #[fnv Z,fnv n5,fnv U]:=by rw[Uu,C,k,A]
 have I:JU r=.agg #[.string ⟨s.toArray⟩,fnv n0,fnv R,fnv K,fnv V,fnv Z,fnv n5,fnv U]:=by rw[JU,Q,O,u,F,y,C,k,A]
 rw[J] at i;rw[H] at j;rw[I] at P;clear g h1 hr B Q O u F y C k A J H I o;have af:=Pi;have aa:=fY;have ac:=jz;have ab:=ju;generalize Uc q c=t0 at i ⊢;generalize Uc m c=t1 at j ⊢;go_enter func155,ntmps155
 go_wp2_with (go_at_call 162;refine(P _).mono ?_;rintro e w1 ⟨rfl,D⟩;obtain⟨hc,ae⟩:=Ef D;have E:=KF D;have f:=Uj D)
 cases t0
 ·cases t1
  ·refine wp_loop_rounds 3 ?_
   rw[rounds_succ]
   go_wp2_with (go_at_call 163;refine(i _ (Bd f _)).mono ?_;rintro e N ⟨rfl,b⟩;obtain⟨X,T⟩:=Ef b;have M:=CB E (CJ AU b.size);have d:=Bc (Bd f _) b)
   rw[rounds_succ]
   go_wp2_with (go_at_call 163;refine(j _ (Bd d _)).mono ?_;rintro e w3 ⟨rfl,l⟩;have t:=Bc (Bd d _) l)
   rw[rounds_succ]
   go_wp2
   go_ret;exact⟨rfl,t⟩
  ·refine wp_loop_rounds 2 ?_
   rw[rounds_succ]
   go_wp2_with (go_at_call 163;refine(i _ (Bd f _)).mono ?_;rintro e N ⟨rfl,b⟩;obtain⟨X,T⟩:=Ef b;have M:=CB E (CJ AU b.size);have d:=Bc (Bd f _) b)
   rw[rounds_succ]
   go_wp2_with (go_at_call 163;refine(j _ (Bd d _)).mono ?_;rintro e w3 ⟨rfl,l⟩;have t:=Bc (Bd d _) l)
   go_ret;exact⟨rfl,t⟩
 ·refine wp_loop_rounds 1 ?_
  rw[rounds_succ]
  go_wp2_with (go_at_call 163;refine(i _ (Bd f _)).mono ?_;rintro e N ⟨rfl,b⟩;obtain⟨X,T⟩:=Ef b;have M:=CB E (CJ AU b.size);have d:=Bc (Bd f _) b)
  go_ret;exact⟨rfl,d⟩
def pl (l:List Int)(d:Stil.CC):Bool:=d.ok && decide (d.kind∈l)
def ZH (d:Stil.CC):Bool:=d.ok && decide (d.kind∈([11]:List Int)) && decide (0<=d.n)
theorem S5:Jf 176 (pl [5]):=⟨enters_of func176 AX rfl,λd w c b=>ni d w c b.2.1.1 b.2.1.2⟩
theorem oK:Jf 182 (pl [4]):=⟨enters_of func182 AX rfl,λd w c b=>nf d w c b.2.1.1 b.2.1.2⟩
theorem ny:Jf 170 (pl [7]):=⟨enters_of func170 AX rfl,λd w c b=>nZ d w c b.2.1.1 b.2.1.2⟩
theorem oO:Jf 183 (pl [8]):=⟨enters_of func183 AX rfl,λd w c b=>nm d w c b.2.1.1 b.2.1.2⟩
theorem LC:Jf 172 (pl [9]):=⟨enters_of func172 AX rfl,λd w c b=>nj d w c b.2.1.1 b.2.1.2⟩
theorem NK:Jf 173 (pl [10]):=⟨enters_of func173 AX rfl,λd w c b=>nh d w c b.2.1.1 b.2.1.2⟩
theorem S0:Jf 179 (pl [2,3]):=⟨enters_of func179 AX rfl,λd w c b=>nB d w c b.2.1.1 b.2.1.2⟩
theorem m6:Jf 180 (pl [2,3,4]):=⟨enters_of func180 AX rfl,λd w c b=>lj d w c b.2.1.1 b.2.1.2⟩
theorem gw:Jf 181 (pl [2,3,4,7,8]):=⟨enters_of func181 AX rfl,λd w c b=>Azw d w c b.2.1.1 b.2.1.2⟩
theorem XO:Jf 171 ZH:=⟨enters_of func171 AX rfl,λd w c b=>Avf d w c b.2.1.1 b.2.1.2⟩
theorem SH:Jf 175 Stil.CC.isBit:=⟨enters_of func175 AX rfl,λd w c b=>Avk d.kind d.n d.p w c b.2.1.1 b.2.1.2⟩
theorem Uz:Jf 168 Stil.CC.isWhole:=⟨enters_of func168 AX rfl,λd w c b=>tA d.kind d.n d.p w c b.2.1.1 b.2.1.2⟩
theorem JQ:Jf 169 Stil.CC.isReal:=⟨enters_of func169 AX rfl,λd w c b=>vo d.kind d.n d.p w c b.2.1.1 b.2.1.2⟩
theorem FN:GI [] []:=⟨rfl,AU,λi h=>absurd h AU⟩
theorem KD {p:Stil.CC->Bool}(b:a≠0)(h:Jf a p):GI [a] [p]:=⟨rfl,AU,λi c d=>by
 have:i=0:=by simp at c;omega
 subst this;exact⟨b,h⟩⟩
theorem Ft {b:Nat}{p q:Stil.CC->Bool}(c:a≠0)(h:Jf a p)(d:b≠0)(k:Jf b q):GI [a,b] [p,q]:=⟨rfl,AU,λi e f=>by
 have:i=0\/i=1:=by simp at e;omega
 rcases this with rfl | rfl
 ·exact⟨c,h⟩
 ·exact⟨d,k⟩⟩
theorem NJ {b c:Nat}{p q r:Stil.CC->Bool}(d:a≠0)(h:Jf a p)(e:b≠0)(k:Jf b q)(g:c≠0)(m:Jf c r):GI [a,b,c] [p,q,r]:=⟨rfl,AU,λi f j=>by
 have:i=0\/i=1\/i=2:=by simp at f;omega
 rcases this with rfl | rfl | rfl
 ·exact⟨d,h⟩
 ·exact⟨e,k⟩
 ·exact⟨g,m⟩⟩
theorem BQ {p:Prop}(h:p:=by(rcases ds with _ | ⟨a,_ | ⟨b,_ | ⟨c,_ | ⟨d,r⟩⟩⟩⟩<;>simp[Uc,Pm,Du,Gt,Stil.arity,FB,Om,pl,ZH,Stil.CC.kindIs,Oh,Stil.CC.ok,Stil.CC.isBit,Stil.CC.isWhole,Stil.CC.isReal]<;>try first | omega | grind)):p:=h
theorem sM (op:Int)(h1:1<=op)(e:op<=10):∃p q,GI (rowOf op).2.2.1 p/\GI (rowOf op).2.2.2 q/\∀ds,(Uc p ds || Uc q ds)=Du op ds:=by
 have h:op=1\/op=2\/op=3\/op=4\/op=5\/op=6\/op=7\/op=8\/op=9\/op=10:=AQ
 rcases h with rfl | rfl | rfl | rfl | rfl | rfl | rfl | rfl | rfl | rfl
 all_goals first
  | exact⟨_,_,KD AY SH,FN,λds=>BQ⟩
  | exact⟨_,_,Ft AY SH AY S5,FN,λds=>BQ⟩
  | exact⟨_,_,Ft AY Uz AY Uz,Ft AY JQ AY JQ,λds=>BQ⟩
theorem fA (op:Int)(h1:21<=op)(e:op<=37):∃p q,GI (rowOf op).2.2.1 p/\GI (rowOf op).2.2.2 q/\∀ds,(Uc p ds || Uc q ds)=Gt op ds:=by
 have h:op=21\/op=22\/op=23\/op=24\/op=25\/op=26\/op=27\/op=28\/op=29\/op=30\/op=31\/op=32\/op=33\/op=34\/op=35\/op=36\/op=37:=AQ
 rcases h with rfl | rfl | rfl | rfl | rfl | rfl | rfl | rfl | rfl | rfl | rfl | rfl | rfl | rfl | rfl | rfl | rfl
 all_goals first
  | exact⟨_,_,KD AY S0,FN,λds=>BQ⟩
  | exact⟨_,_,KD AY m6,FN,λds=>BQ⟩
  | exact⟨_,_,KD AY gw,FN,λds=>BQ⟩
  | exact⟨_,_,Ft AY S0 AY S5,FN,λds=>BQ⟩
  | exact⟨_,_,KD AY oK,FN,λds=>BQ⟩
  | exact⟨_,_,Ft AY ny AY XO,FN,λds=>BQ⟩
  | exact⟨_,_,Ft AY oO AY XO,FN,λds=>BQ⟩
  | exact⟨_,_,Ft AY LC AY Uz,Ft AY NK AY JQ,λds=>BQ⟩
  | exact⟨_,_,NJ AY LC AY Uz AY Uz,NJ AY NK AY JQ AY JQ,λds=>BQ⟩
  | exact⟨_,_,NJ AY LC AY Uz AY Uz,FN,λds=>BQ⟩
  | exact⟨_,_,Ft AY NK AY Uz,FN,λds=>BQ⟩
  | exact⟨_,_,Ft AY LC AY JQ,FN,λds=>BQ⟩
theorem TK (op:Int)(w:World):
  Calls prog 154 #[AB op] w λe f=>e=.returned (.bool (decide (1<=op/\op<=10)))/\f=w:=by
 by_cases c:1<=op
 ·by_cases b:op<=10
  ·have d:decide (op<=10)=true:=by simpa using b
   go_enter func154,ntmps154
   go_wp2
   all_goals go_ret
   all_goals exact⟨Ae BX,rfl⟩
  ·have d:decide (op<=10)=false:=by simpa using b
   go_enter func154,ntmps154
   go_wp2
   all_goals go_ret
   all_goals exact⟨Ae BX,rfl⟩
 ·have g:decide (1<=op)=false:=by simpa using c
  go_enter func154,ntmps154
  go_wp2
  all_goals go_ret
  all_goals exact⟨Ae BX,rfl⟩
theorem Auq {b:List Stil.CC}(h:¬(1<=op/\op<=10)):Du op b=false:=by unfold Du;rw[if_pos AQ]
theorem UQ (op:Int)(v:Value)(b:List Stil.CC)(w:World)(hr:Et w)(c:Dk w v b)(k:∀d∈b,d.fits)(hl:b.length<=9223372036854775807):
  Calls prog 145 #[.agg #[AB op,v]] w (AN w (.bool (Du op b))):=by
 by_cases h:1<=op/\op<=10
 ·obtain⟨_,_,i,q1,j⟩:=sM op h.1 h.2
  have l:Hid (∀W,AO w W->Calls prog 155 #[.agg #[AB op,v]] W (AN W (.bool (Du op b)))):=by
   intro W g;rw[<-j];exact SK op _ _ v b W (hr.below g) i q1 (c.below g) k hl
  obtain⟨a,cap,rfl,_⟩:=c;have hd:decide (1<=op/\op<=10)=true:=by simpa using h
  clear i q1 j hr h;go_enter func145,ntmps145
  go_wp2_with (first | (go_at_call 154;refine(TK _ _).mono ?_;rw[hd];rintro e m ⟨rfl,rfl⟩) | (go_at_call 155;refine(l _ (Aa _ _)).mono ?_;rintro e p ⟨rfl,o⟩))
  go_ret;exact⟨rfl,Uj o⟩
 ·have n:Hid (Du op b=false):=Auq h
  obtain⟨a,cap,rfl,_⟩:=c;have hd:decide (1<=op/\op<=10)=false:=by simpa using h
  clear hr h;go_enter func145,ntmps145
  go_wp2_with (go_at_call 154;refine(TK _ _).mono ?_;rw[hd];rintro e m ⟨rfl,rfl⟩)
  go_ret;exact⟨Ae n.symm,Aa _ _⟩
theorem Wt (op:Int)(w:World):
  Calls prog 156 #[AB op] w λe f=>e=.returned (.bool (decide (21<=op/\op<=37)))/\f=w:=by
 by_cases c:21<=op
 ·by_cases b:op<=37
  ·have d:decide (op<=37)=true:=by simpa using b
   go_enter func156,ntmps156
   go_wp2
   all_goals go_ret
   all_goals exact⟨Ae BX,rfl⟩
  ·have d:decide (op<=37)=false:=by simpa using b
   go_enter func156,ntmps156
   go_wp2
   all_goals go_ret
   all_goals exact⟨Ae BX,rfl⟩
 ·have g:decide (21<=op)=false:=by simpa using c
  go_enter func156,ntmps156
  go_wp2
  all_goals go_ret
  all_goals exact⟨Ae BX,rfl⟩
theorem kz {b:List Stil.CC}(h:¬(21<=op/\op<=37)):Gt op b=false:=by unfold Gt;rw[if_pos AQ]
theorem XJ (op:Int)(v:Value)(b:List Stil.CC)(w:World)(hr:Et w)(c:Dk w v b)(k:∀d∈b,d.fits)(hl:b.length<=9223372036854775807):
  Calls prog 146 #[.agg #[AB op,v]] w (AN w (.bool (Gt op b))):=by
 by_cases h:21<=op/\op<=37
 ·obtain⟨_,_,i,q1,j⟩:=fA op h.1 h.2
  have l:Hid (∀W,AO w W->Calls prog 155 #[.agg #[AB op,v]] W (AN W (.bool (Gt op b)))):=by
   intro W g;rw[<-j];exact SK op _ _ v b W (hr.below g) i q1 (c.below g) k hl
  obtain⟨a,cap,rfl,_⟩:=c;have hd:decide (21<=op/\op<=37)=true:=by simpa using h
  clear i q1 j hr h;go_enter func146,ntmps146
  go_wp2_with (first | (go_at_call 156;refine(Wt _ _).mono ?_;rw[hd];rintro e m ⟨rfl,rfl⟩) | (go_at_call 155;refine(l _ (Aa _ _)).mono ?_;rintro e p ⟨rfl,o⟩))
  go_ret;exact⟨rfl,Uj o⟩
 ·have n:Hid (Gt op b=false):=kz h
  obtain⟨a,cap,rfl,_⟩:=c;have hd:decide (21<=op/\op<=37)=false:=by simpa using h
  clear hr h;go_enter func146,ntmps146
  go_wp2_with (go_at_call 156;refine(Wt _ _).mono ?_;rw[hd];rintro e m ⟨rfl,rfl⟩)
  go_ret;exact⟨Ae n.symm,Aa _ _⟩
