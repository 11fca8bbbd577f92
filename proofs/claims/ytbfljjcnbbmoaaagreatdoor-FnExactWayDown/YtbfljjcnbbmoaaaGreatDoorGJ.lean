import Derived.Test.YtbfljjcnbbmoaaaGreatDoorI3
import Derived.LoopN
import Derived.Shelf.Abstract
set_option maxHeartbeats 4000000
set_option maxRecDepth 100000
namespace Go.Proofs.YtbfljjcnbbmoaaaGreatDoor
open Stil
open Go.RowKit Go.Sort Go.BigFrame
variable {a:Nat}{op:Int}
theorem Axk:I8.length=304:=krz
theorem A2z:∀(l:List (List UInt8 × Nat × List Nat × List Nat)) (m j:Nat),j<8->(l.flatMap Ol)[m*8+j]?=(l[m]?).bind (λr=>(Ol r)[j]?)
 | [],m,j,_=>by simp
 | r::l,m,j,hj=>by
  rw[List.flatMap_cons];cases m with
  | zero=>rw[List.getElem?_append_left (by simp[Ol];omega)];simp
  | succ k=>
   rw[List.getElem?_append_right (by simp[Ol];omega)];have:=A2z l k j hj
   rw[show(k+1)*8+j - (Ol r).length=k*8+j from by simp[Ol];omega];simpa using this
def rowOf (op:Int):List UInt8 × Nat × List Nat × List Nat:=if 0<=op/\op<38 then Ahe.getD op.toNat ([],0,[],[]) else([],0,[],[])
theorem At3 (W:World)(t:TypeId)(m j:Nat)(hm:m<38)(hj:j<8):(W.alloc (.cells I8.toArray t)).cell? ⟨W.heap.size,m*8+j,none⟩=(Ol (rowOf m))[j]?:=by
 have h1:(W.alloc (.cells I8.toArray t)).cell? ⟨W.heap.size,m*8+j,none⟩=I8[m*8+j]?:=by
  rw[cell_of_row _ _ _ _ _ _ (heap_alloc_last W _)];simp
 have hl:Ahe.length=38:=krz
 rw[h1,I8,A2z _ _ _ hj,rowOf,if_pos omz];simp[A4p (show m<Ahe.length by omega)]
theorem Nh (n:Nat)(P:Program)(w:World)(a:Addr)(m:Mode):(store a (fnv n) m).run P w=stored P w a (fnv n) m:=run_store P w a _ m (by unfold fnv;split<;>rfl)
def Afl (r:List UInt8 × Nat × List Nat × List Nat):Value:=.agg #[.string ⟨r.1.toArray⟩,fnv r.2.1,fnv (r.2.2.1.getD 0 0),fnv (r.2.2.1.getD 1 0),fnv (r.2.2.1.getD 2 0),fnv (r.2.2.2.getD 0 0),fnv (r.2.2.2.getD 1 0),fnv (r.2.2.2.getD 2 0)]
theorem A03 (op:Int)(w:World):
  Calls Tryz.prog 149 #[.int .i64 op] w λe w'=>e=.returned (Afl (rowOf op))/\Below w.heap.size w w':=by
 have hlen:=Axk;by_cases h:0<=op/\op<38
 ·obtain⟨m,rfl⟩:=Int.eq_ofNat_of_zero_le h.1
  have hm:m<38:=omz
  have hst:=Nh;obtain⟨r,hr⟩:∃r,r=rowOf (m:Int):=⟨_,rfl⟩
  obtain⟨s,hs⟩:∃s,s=r.1:=⟨_,rfl⟩
  obtain⟨n0,h0⟩:∃n,n=r.2.1:=⟨_,rfl⟩
  obtain⟨n1,h1⟩:∃n,n=r.2.2.1.getD 0 0:=⟨_,rfl⟩
  obtain⟨n2,h2⟩:∃n,n=r.2.2.1.getD 1 0:=⟨_,rfl⟩
  obtain⟨n3,h3⟩:∃n,n=r.2.2.1.getD 2 0:=⟨_,rfl⟩
  obtain⟨n4,h4⟩:∃n,n=r.2.2.2.getD 0 0:=⟨_,rfl⟩
  obtain⟨n5,h5⟩:∃n,n=r.2.2.2.getD 1 0:=⟨_,rfl⟩
  obtain⟨n6,h6⟩:∃n,n=r.2.2.2.getD 2 0:=⟨_,rfl⟩
  have hv:Afl r=.agg #[.string ⟨s.toArray⟩,fnv n0,fnv n1,fnv n2,fnv n3,fnv n4,fnv n5,fnv n6]:=by rw[Afl,hs,h0,h1,h2,h3,h4,h5,h6]
  have hcells:Ol r=[.string ⟨s.toArray⟩,fnv n0,fnv n1,fnv n2,fnv n3,fnv n4,fnv n5,fnv n6]:=by rw[Ol,hs,h0,h1,h2,h3,h4,h5,h6]
  have hc:=λW t j (hj:j<8)=>At3 W t m j hm hj
  rw[<-hr] at hc ⊢;rw[hcells] at hc;rw[hv];have c0:=λW t=>hc W t 0 omz
  have c1:=λW t=>hc W t 1 omz
  have c2:=λW t=>hc W t 2 omz
  have c3:=λW t=>hc W t 3 omz
  have c4:=λW t=>hc W t 4 omz
  have c5:=λW t=>hc W t 5 omz
  have c6:=λW t=>hc W t 6 omz
  have c7:=λW t=>hc W t 7 omz
  simp only[List.getElem?_cons_zero,List.getElem?_cons_succ,Nat.add_zero] at c0 c1 c2 c3 c4 c5 c6 c7;clear hc;clear hcells hv hs h0 h1 h2 h3 h4 h5 h6 hr h;go_enter Tryz.func149,Tryz.ntmps149
  go_wp2_with (go_at_call 151;refine(Azt _).mono ?_;rintro e w1 ⟨rfl,hb⟩;obtain⟨hc,hf⟩:=Dq hb;have hz:=Aaa hb)
  rw[Aam (tgt:=I8) (cur:=Tryz.zeroCells194) (t:=194)]
  case hvs=>rfl
  case hl=>kernel_rfl
  case h1=>kernel_rfl
  case hg=>exact heap_alloc_last _ _
  rw[World.setRow_alloc_new,Oper.upon_skip]
  go_wp2
  have hbw:Below w.heap.size w w1:=blB;refine bodyPost_ret (v:=.agg #[.string ⟨s.toArray⟩,fnv n0,fnv n1,fnv n2,fnv n3,fnv n4,fnv n5,fnv n6]) (by simp[results,Tryz.results149,go_sem,hc,hz]) rfl ⟨rfl,?_⟩;refine Bq ?_ _;iterate 8 refine Bz (A4d _) ?_ _
  exact hbw
 ·have hzz:rowOf op=([],0,[],[]):=by unfold rowOf;rw[if_neg h]
  rw[hzz];go_enter Tryz.func149,Tryz.ntmps149
  go_wp2_with (go_at_call 151;refine(Azt _).mono ?_;rintro e w1 ⟨rfl,hb⟩;obtain⟨hc,hf⟩:=Dq hb;have hz:=Aaa hb)
  rw[Aam (tgt:=I8) (cur:=Tryz.zeroCells194) (t:=194)]
  case hvs=>rfl
  case hl=>kernel_rfl
  case h1=>kernel_rfl
  case hg=>exact heap_alloc_last _ _
  rw[World.setRow_alloc_new,Oper.upon_skip];have hbw:Below w.heap.size w w1:=blB
  go_wp2
  all_goals refine bodyPost_ret (v:=.agg #[.string ⟨#[]⟩, .nilFunc, .nilFunc, .nilFunc, .nilFunc, .nilFunc, .nilFunc, .nilFunc]) (by simp[results,Tryz.results149,go_sem,hc,hz]) rfl ⟨rfl,?_⟩
  all_goals
   refine Bq ?_ _;iterate 8 refine Bz (A4d _) ?_ _
   exact hbw
def Ro (l:List Nat):Value:=.agg #[fnv (l.getD 0 0),fnv (l.getD 1 0),fnv (l.getD 2 0)]
theorem Anu (w:World):Sem.run Tryz.prog (binOp BinOp.neq 186 .nilFunc .nilFunc) w=.ok (.bool false) w:=krz
theorem Ax6 (a:Nat)(w:World):Sem.run Tryz.prog (binOp BinOp.neq 186 (.func (.func a) #[] #[]) .nilFunc) w=.ok (.bool true) w:=krz
theorem Yr {n:Nat}(h:n≠0):fnv n=.func (.func n) #[] #[]:=by unfold fnv;rw[if_neg h]
theorem An8:fnv 0=.nilFunc:=rfl
theorem Avo (w:World):
  Calls Tryz.prog 152 #[.agg #[.nilFunc, .nilFunc, .nilFunc]] w λe w'=>e=.returned (.int .i64 0)/\Below w.heap.size w w':=by
 have h1:=Anu;have h2:=Ax6;go_enter Tryz.func152,Tryz.ntmps152
 go_wp2
 refine wp_loop_rounds 1 ?_;rw[rounds_succ]
 go_wp2
 go_ret;exact⟨rfl,blB⟩
theorem Avn (a:Nat)(w:World):
  Calls Tryz.prog 152 #[.agg #[.func (.func a) #[] #[], .nilFunc, .nilFunc]] w λe w'=>e=.returned (.int .i64 1)/\Below w.heap.size w w':=by
 have h1:=Anu;have h2:=Ax6;go_enter Tryz.func152,Tryz.ntmps152
 go_wp2
 refine wp_loop_rounds 2 ?_;rw[rounds_succ]
 go_wp2
 rw[rounds_succ]
 go_wp2
 go_ret;exact⟨rfl,blB⟩
theorem Avm (a b:Nat)(w:World):
  Calls Tryz.prog 152 #[.agg #[.func (.func a) #[] #[], .func (.func b) #[] #[], .nilFunc]] w λe w'=>e=.returned (.int .i64 2)/\Below w.heap.size w w':=by
 have h1:=Anu;have h2:=Ax6;go_enter Tryz.func152,Tryz.ntmps152
 go_wp2
 refine wp_loop_rounds 3 ?_;rw[rounds_succ]
 go_wp2
 rw[rounds_succ]
 go_wp2
 rw[rounds_succ]
 go_wp2
 go_ret;exact⟨rfl,blB⟩
theorem Avl (a b c:Nat)(w:World):
  Calls Tryz.prog 152 #[.agg #[.func (.func a) #[] #[], .func (.func b) #[] #[], .func (.func c) #[] #[]]] w λe w'=>e=.returned (.int .i64 3)/\Below w.heap.size w w':=by
 have h1:=Anu;have h2:=Ax6;go_enter Tryz.func152,Tryz.ntmps152
 go_wp2
 refine wp_loop_rounds 4 ?_;rw[rounds_succ]
 go_wp2
 rw[rounds_succ]
 go_wp2
 rw[rounds_succ]
 go_wp2
 rw[rounds_succ]
 go_wp2
 go_ret;exact⟨rfl,blB⟩
theorem An3 (l:List Nat)(w:World)(hl:l.length<=3)(hn:∀x∈l,x≠0):
  Calls Tryz.prog 152 #[Ro l] w λe w'=>e=.returned (.int .i64 l.length)/\Below w.heap.size w w':=by
 match l,hl,hn with
 | [],_,_=>exact Avo w
 | [a],_,hn=>simp only[Ro,List.getD,List.getElem?_cons_zero,List.getElem?_cons_succ,List.getElem?_nil,Option.getD,Yr (hn a spz),An8];exact Avn a w
 | [a,b],_,hn=>simp only[Ro,List.getD,List.getElem?_cons_zero,List.getElem?_cons_succ,List.getElem?_nil,Option.getD,Yr (hn a spz),Yr (hn b spz),An8];exact Avm a b w
 | [a,b,c],_,hn=>simp only[Ro,List.getD,List.getElem?_cons_zero,List.getElem?_cons_succ,Option.getD,Yr (hn a spz),Yr (hn b spz),Yr (hn c spz)];exact Avl a b c w
 | _::_::_::_::_,hl,_=>simp at hl
def Hz (n:Nat)(p:Stil.Dev->Bool):Prop:=(∀args w,(callFunc n args).run Tryz.prog w=.ok (.enter n args) w)/\∀(d:Stil.Dev) (w:World),Es w->d.fits->Calls Tryz.prog n #[.agg #[.int .i64 d.kind, .int .i64 d.n, .int .i64 d.p]] w λe w'=>e=.returned (.bool (p d))/\Below w.heap.size w w'
def Ai:List (Stil.Dev->Bool)->List Stil.Dev->Bool
 | [],[]=>true
 | p::ps,d::ds=>p d && Ai ps ds
 | _,_=>false
def Ac (ps:List (Stil.Dev->Bool))(ds:List Stil.Dev):Bool:=!ds.isEmpty && Ai ps ds
theorem Afq:∀(ps:List (Stil.Dev->Bool)) (ds:List Stil.Dev),ds.length≠ps.length->Ai ps ds=false
 | [],[],h=>absurd rfl h
 | [],_::_,_=>rfl
 | _::_,[],_=>rfl
 | p::ps,d::ds,h=>by
  have:=Afq ps ds (by simpa using h)
  simp[Ai,this]
theorem Ac5:∀(ps:List (Stil.Dev->Bool)) (ds:List Stil.Dev) (k:Nat) (h1:k<ps.length) (h2:k<ds.length),Ai (ps.drop k) (ds.drop k)=(ps[k] ds[k] && Ai (ps.drop (k+1)) (ds.drop (k+1)))
 | p::ps,d::ds,0,_,_=>rfl
 | p::ps,d::ds,k+1,h1,h2=>by
  have:=Ac5 ps ds k (by simpa using h1) (by simpa using h2)
  simpa using this
theorem Aqg (l:List Nat)(ps:List (Stil.Dev->Bool))(a:Option Addr)(cap:Nat)(ds:List Stil.Dev)(w:World)(hr:Es w)(hl:l.length=ps.length)(hd:ds.length=ps.length)(h3:l.length<=3)(hp:∀i (h1:i<l.length) (h2:i<ps.length),l[i]≠0/\Hz l[i] ps[i])(h0:0<ds.length)
  (hat:∀i (h:i<ds.length),∃b o,a=some ⟨b,o,none⟩/\b<w.heap.size/\Ij w b (o+i*3) ds[i]) (hf:∀x∈ds,x.fits):
  Calls Tryz.prog 150 #[Ro l, .slice a ds.length cap] w λe w'=>e=.returned (.bool (Ai ps ds))/\Below w.heap.size w w':=by
 have hst:=Nh;obtain⟨f0,hf0⟩:∃f,f=l.getD 0 0:=⟨_,rfl⟩
 obtain⟨f1,hf1⟩:∃f,f=l.getD 1 0:=⟨_,rfl⟩
 obtain⟨f2,hf2⟩:∃f,f=l.getD 2 0:=⟨_,rfl⟩
 have HW:Hid (Ro l=.agg #[fnv f0,fnv f1,fnv f2]):=by show _=_;rw[Ro,hf0,hf1,hf2]
 have HP:Hid (∀W,Calls Tryz.prog 152 #[.agg #[fnv f0,fnv f1,fnv f2]] W λe w'=>e=.returned (.int .i64 ds.length)/\Below W.heap.size W w'):=by
  intro W
  have:=An3 l W h3 (λx hx=>by
   obtain⟨i,hi,rfl⟩:=List.getElem_of_mem hx
   exact(hp i hi omz).1)
  rw[HW.out] at this;rw[hd,<-hl];exact this
 have HC:Hid (∀k (h:k<ds.length),(w.alloc (.cells #[fnv f0,fnv f1,fnv f2] 188)).cell? ⟨w.heap.size,k,none⟩=some (.func (.func (l.getD k 0)) #[] #[])):=by
  intro k hk;have hnz:l.getD k 0≠0:=by
   have hk':k<l.length:=omz
   have:=(hp k hk' omz).1
   simpa[List.getD,A4p hk'] using this
  rw[<-Yr hnz];have hkk:k=0\/k=1\/k=2:=omz
  rcases hkk with rfl | rfl | rfl<;>simp[go_sem,hf0,hf1,hf2]
 have HF:Hid (∀k (h:k<ds.length) (h2:k<ps.length),Hz (l.getD k 0) ps[k]):=by
  intro k hk hk2;have hk':k<l.length:=omz
  have:=(hp k hk' omz).2
  simpa[List.getD,A4p hk'] using this
 have HA:=hid hat;have HR:=hid (λW (h:Below w.heap.size w W)=>hr.below h);have HFit:=hid hf;have hn3:ds.length<=3:=omz
 have HL:=hid hd;have hnil:¬ds=[]:=by intro h;rw[h] at h0;simp at h0
 rw[HW.out];clear hf0 hf1 hf2 hl hd h3 hp hat hr HW hf;go_enter Tryz.func150,Tryz.ntmps150
 go_wp2_with (go_at_call 152;refine(HP _).mono ?_;rintro e w1 ⟨rfl,hb⟩;obtain⟨hc,hfz⟩:=Dq hb;have hz:=Aaa hb)
 go_loopw [19] (λi wr=>∃k:Nat,k<=ds.length/\i=.int .i64 k/\Ai ps ds=Ai (ps.drop k) (ds.drop k)/\Below (w.heap.size+1) (w.alloc (.cells #[fnv f0,fnv f1,fnv f2] 188)) wr) (λi _=>ds.length - (intOf i).toNat)
 case atStart=>exact⟨0,omz,rfl,rfl,by simpa using hb⟩
 case round=>
  clear hb hc hfz hz;obtain⟨k,hk,rfl,hg,hb⟩:=hrel;have HG:=hid hg;clear hg;have hbw:=(Aa _ _).trans (hb.mono omz);have jR:w.heap.size<wr.heap.size:=by have:=hb.size;simp at this;omega
  by_cases hlt:k<ds.length
  ·obtain⟨b,o,rfl,hbl,hdv⟩:=HA k hlt
   have hkp:k<ps.length:=by have:=HL.out;omega
   have jk:=HF k hlt hkp;have hfit:=HFit ds[k] (A4f hlt);have HS:=hid (Ac5 ps ds k hkp hlt);obtain⟨x0,x1,x2⟩:=hdv.below hbw hbl;have hbl':=A37 hbl hbw.size;have hwc:wr.cell? ⟨w.heap.size,k,none⟩=some (.func (.func (l.getD k 0)) #[] #[]):=by
    rw[hb.cell (p:=⟨w.heap.size,k,none⟩) spz];exact HC k hlt
   obtain⟨p,hpe⟩:∃p,p=ps[k]:=⟨_,rfl⟩
   obtain⟨x,hx⟩:∃x,x=ds[k]:=⟨_,rfl⟩
   obtain⟨n,hne⟩:∃n,n=l.getD k 0:=⟨_,rfl⟩
   rw[<-hx] at x0 x1 x2 hfit;rw[<-hpe,<-hx] at HS;rw[<-hne] at hwc;rw[<-hne,<-hpe] at jk;obtain⟨hent,jk⟩:=jk;have HQ:=hid jk;have qw:=hid hfit;clear hne hx hpe hdv jk hfit;have q0:(wr.alloc (.cells #[.int .i64 x.kind, .int .i64 x.n, .int .i64 x.p] 86)).cell? ⟨w.heap.size,k,none⟩=some (.func (.func n) #[] #[]):=by rw[World.cell?_alloc_some _ _ _ (by rw[hwc];rfl)];exact hwc
   have q1:(wr.alloc (.cells #[.int .i64 x.kind, .int .i64 x.n, .int .i64 x.p] 86)).cell? ⟨wr.heap.size,0,none⟩=some (.int .i64 x.kind):=by simp[go_sem]
   have q2:(wr.alloc (.cells #[.int .i64 x.kind, .int .i64 x.n, .int .i64 x.p] 86)).cell? ⟨wr.heap.size,1,none⟩=some (.int .i64 x.n):=by simp[go_sem]
   have q3:(wr.alloc (.cells #[.int .i64 x.kind, .int .i64 x.n, .int .i64 x.p] 86)).cell? ⟨wr.heap.size,2,none⟩=some (.int .i64 x.p):=by simp[go_sem]
   have r0:=cell_regrown q0;have r1:=cell_regrown q1;have r2:=cell_regrown q2;have r3:=cell_regrown q3;clear q0 q1 q2 q3;cases hpx:p x
   ·go_wp2
    refine wp_region_quiet_below krz krz ?_;repeat (go_big_quiet_step ((exact Calls.regrown_of (HQ _ _ (HR _ blB) qw.out))))
    refine wpQuiet_nil ?_;intro _ hw';obtain⟨⟨dq,osq⟩,hw''⟩:=hw';subst hw''
    go_wp2
    go_ret;exact⟨Ar (by rw[HG.out,HS.out,hpx];rfl),blB⟩
   ·have HS':Hid (Ai ps ds=Ai (ps.drop (k+1)) (ds.drop (k+1))):=by show _=_;rw[HG.out,HS.out,hpx];rfl
    clear HS HG
    go_wp2
    refine wp_region_quiet_below krz krz ?_;repeat (go_big_quiet_step ((exact Calls.regrown_of (HQ _ _ (HR _ blB) qw.out))))
    refine wpQuiet_nil ?_;intro _ hw';obtain⟨⟨dq,osq⟩,hw''⟩:=hw';subst hw''
    go_wp2
    refine⟨⟨k+1,omz,by go_num,HS'.out,?_⟩,by simp[intOf];omega⟩;exact(hb.alloc omz _).trans ((below_regrown _ dq osq).mono (by simp;omega))
  ·have HE:Hid (Ai ps ds=true):=by
    show _=_
    have:=HL.out
    rw[HG.out,List.drop_of_length_le omz,List.drop_of_length_le omz];rfl
   go_wp2
   go_ret;exact⟨Ar HE.symm,blB⟩
theorem Avj (l:List Nat)(ps:List (Stil.Dev->Bool))(v:Value)(ds:List Stil.Dev)(w:World)(hr:Es w)(hl:l.length=ps.length)(h3:l.length<=3)(hp:∀i (h1:i<l.length) (h2:i<ps.length),l[i]≠0/\Hz l[i] ps[i])
  (hat:Bi w v ds) (hf:∀x∈ds,x.fits) (hlen:ds.length<=9223372036854775807):
  Calls Tryz.prog 150 #[Ro l,v] w λe w'=>e=.returned (.bool (Ac ps ds))/\Below w.heap.size w w':=by
 obtain⟨a,cap,rfl,hat⟩:=hat;by_cases hnil:ds=[]
 ·subst hnil
  have hst:=Nh;have HT:Hid (Ac ps []=false):=rfl;unfold Ro;clear hp hat hf hr;go_enter Tryz.func150,Tryz.ntmps150
  go_wp2
  go_ret;exact⟨Ar HT.symm,blB⟩
 ·have h0:=List.length_pos_iff.2 hnil
  by_cases hd:ds.length=ps.length
  ·have HT:Ac ps ds=Ai ps ds:=by
    have:ds.isEmpty=false:=by simpa using hnil
    rw[Ac,this];rfl
   rw[HT];exact Aqg l ps a cap ds w hr hl hd h3 hp h0 hat hf
  ·have HT:Hid (Ac ps ds=false):=by show _=_;rw[Ac,Afq ps ds hd,Bool.and_false]
   have hst:=Nh
   have HP:=hid (λW=>An3 l W h3 (λx hx=>by
    obtain⟨i,hi,rfl⟩:=List.getElem_of_mem hx
    exact(hp i hi omz).1))
   have hne:((ds.length:Int) !=(l.length:Int))=true:=by rw[bne_iff_ne];omega
   clear hp hat hf hr hd hl;unfold Ro at HP ⊢;go_enter Tryz.func150,Tryz.ntmps150
   go_wp2_with (go_at_call 152;refine(HP _).mono ?_;rintro e w1 ⟨rfl,hb⟩;obtain⟨hc,hfz⟩:=Dq hb;have hz:=Aaa hb)
   go_ret;exact⟨Ar HT.symm,blB⟩
theorem Axl (x0 x1 x2 x3 x4 x5 x6 x7:Value)(w:World):(Instr.field 191 (.agg #[x0,x1,x2,x3,x4,x5,x6,x7]) 2).run Tryz.prog w=.ok (.agg #[x2,x3,x4,x5,x6,x7]) w:=krz
theorem A0e (x2 x3 x4 x5 x6 x7:Value)(w:World):(Instr.index 189 (.agg #[x2,x3,x4,x5,x6,x7]) (.int .i64 0)).run Tryz.prog w=.ok (.agg #[x2,x3,x4]) w:=krz
theorem A0d (x2 x3 x4 x5 x6 x7:Value)(w:World):(Instr.index 189 (.agg #[x2,x3,x4,x5,x6,x7]) (.int .i64 1)).run Tryz.prog w=.ok (.agg #[x5,x6,x7]) w:=krz
def F5 (l:List Nat)(ps:List (Stil.Dev->Bool)):Prop:=l.length=ps.length/\l.length<=3/\∀i (h1:i<l.length) (h2:i<ps.length),l[i]≠0/\Hz l[i] ps[i]
theorem Azu (op:Int)(p0 p1:List (Stil.Dev->Bool))(v:Value)(ds:List Stil.Dev)(w:World)(hr:Es w)(h0:F5 (rowOf op).2.2.1 p0)(h1:F5 (rowOf op).2.2.2 p1)
  (hat:Bi w v ds) (hf:∀x∈ds,x.fits) (hlen:ds.length<=9223372036854775807):
  Calls Tryz.prog 145 #[.agg #[.int .i64 op,v]] w λe w'=>e=.returned (.bool (Ac p0 ds || Ac p1 ds))/\Below w.heap.size w w':=by
 obtain⟨r,hr'⟩:∃r,r=rowOf op:=⟨_,rfl⟩
 rw[<-hr'] at h0 h1;have dw:Hid (∀W,Calls Tryz.prog 149 #[.int .i64 op] W λe w'=>e=.returned (Afl r)/\Below W.heap.size W w'):=by intro W;rw[hr'];exact A03 op W
 have HA:=hid (λW (h:Below w.heap.size w W)=>hat.below h);have HR:=hid (λW (h:Below w.heap.size w W)=>hr.below h);have H0:=hid (λW h=>Avj _ _ v ds W (HR W h) h0.1 h0.2.1 h0.2.2 (HA W h) hf hlen);have H1:=hid (λW h=>Avj _ _ v ds W (HR W h) h1.1 h1.2.1 h1.2.2 (HA W h) hf hlen);obtain⟨a,cap,rfl,_⟩:=hat;obtain⟨s,hs⟩:∃s,s=r.1:=⟨_,rfl⟩
 obtain⟨n0,e0⟩:∃n,n=r.2.1:=⟨_,rfl⟩
 obtain⟨n1,e1⟩:∃n,n=r.2.2.1.getD 0 0:=⟨_,rfl⟩
 obtain⟨n2,e2⟩:∃n,n=r.2.2.1.getD 1 0:=⟨_,rfl⟩
 obtain⟨n3,e3⟩:∃n,n=r.2.2.1.getD 2 0:=⟨_,rfl⟩
 obtain⟨n4,e4⟩:∃n,n=r.2.2.2.getD 0 0:=⟨_,rfl⟩
 obtain⟨n5,e5⟩:∃n,n=r.2.2.2.getD 1 0:=⟨_,rfl⟩
 obtain⟨n6,e6⟩:∃n,n=r.2.2.2.getD 2 0:=⟨_,rfl⟩
 have hw0:Ro r.2.2.1=.agg #[fnv n1,fnv n2,fnv n3]:=by rw[Ro,e1,e2,e3]
 have hw1:Ro r.2.2.2=.agg #[fnv n4,fnv n5,fnv n6]:=by rw[Ro,e4,e5,e6]
 have xB:Afl r=.agg #[.string ⟨s.toArray⟩,fnv n0,fnv n1,fnv n2,fnv n3,fnv n4,fnv n5,fnv n6]:=by rw[Afl,hs,e0,e1,e2,e3,e4,e5,e6]
 rw[hw0] at H0;rw[hw1] at H1;rw[xB] at dw;clear h0 h1 hr hr' hs e0 e1 e2 e3 e4 e5 e6 hw0 hw1 xB HA;have hst:=Nh;have hfd:=Axl;have hix0:=A0e;have hix1:=A0d;generalize Ac p0 ds=t0 at H0 ⊢;generalize Ac p1 ds=t1 at H1 ⊢;go_enter Tryz.func145,Tryz.ntmps145
 go_wp2_with (go_at_call 149;refine(dw _).mono ?_;rintro e w1 ⟨rfl,hb⟩;obtain⟨hc,hfz⟩:=Dq hb;have hz:=Aaa hb;have aS:=Iy hb)
 cases t0
 ·cases t1
  ·refine wp_loop_rounds 3 ?_
   rw[rounds_succ]
   go_wp2_with (go_at_call 150;refine(H0 _ (Bq aS _)).mono ?_;rintro e w2 ⟨rfl,hb2⟩;obtain⟨hc2,zJ⟩:=Dq hb2;have hz2:=A37 hz (A4k spz hb2.size);have hbw2:=Bd (Bq aS _) hb2)
   rw[rounds_succ]
   go_wp2_with (go_at_call 150;refine(H1 _ (Bq hbw2 _)).mono ?_;rintro e w3 ⟨rfl,hb3⟩;have hbw3:=Bd (Bq hbw2 _) hb3)
   rw[rounds_succ]
   go_wp2
   go_ret;exact⟨rfl,hbw3⟩
  ·refine wp_loop_rounds 2 ?_
   rw[rounds_succ]
   go_wp2_with (go_at_call 150;refine(H0 _ (Bq aS _)).mono ?_;rintro e w2 ⟨rfl,hb2⟩;obtain⟨hc2,zJ⟩:=Dq hb2;have hz2:=A37 hz (A4k spz hb2.size);have hbw2:=Bd (Bq aS _) hb2)
   rw[rounds_succ]
   go_wp2_with (go_at_call 150;refine(H1 _ (Bq hbw2 _)).mono ?_;rintro e w3 ⟨rfl,hb3⟩;have hbw3:=Bd (Bq hbw2 _) hb3)
   go_ret;exact⟨rfl,hbw3⟩
 ·refine wp_loop_rounds 1 ?_
  rw[rounds_succ]
  go_wp2_with (go_at_call 150;refine(H0 _ (Bq aS _)).mono ?_;rintro e w2 ⟨rfl,hb2⟩;obtain⟨hc2,zJ⟩:=Dq hb2;have hz2:=A37 hz (A4k spz hb2.size);have hbw2:=Bd (Bq aS _) hb2)
  go_ret;exact⟨rfl,hbw2⟩
def pl (l:List Int)(d:Stil.Dev):Bool:=d.ok && decide (d.kind∈l)
def Ie (d:Stil.Dev):Bool:=d.ok && decide (d.kind∈([11]:List Int)) && decide (0<=d.n)
theorem A3l:Hz 161 (pl [5]):=⟨enters_of Tryz.func161 krz rfl,λd w hr hf=>A3p d w hr hf.2.1.1 hf.2.1.2⟩
theorem A31:Hz 167 (pl [4]):=⟨enters_of Tryz.func167 krz rfl,λd w hr hf=>A3n d w hr hf.2.1.1 hf.2.1.2⟩
theorem A3k:Hz 155 (pl [7]):=⟨enters_of Tryz.func155 krz rfl,λd w hr hf=>A3m d w hr hf.2.1.1 hf.2.1.2⟩
theorem A32:Hz 168 (pl [8]):=⟨enters_of Tryz.func168 krz rfl,λd w hr hf=>A3r d w hr hf.2.1.1 hf.2.1.2⟩
theorem A0r:Hz 157 (pl [9]):=⟨enters_of Tryz.func157 krz rfl,λd w hr hf=>A3q d w hr hf.2.1.1 hf.2.1.2⟩
theorem A16:Hz 158 (pl [10]):=⟨enters_of Tryz.func158 krz rfl,λd w hr hf=>A3o d w hr hf.2.1.1 hf.2.1.2⟩
theorem A2n:Hz 164 (pl [2,3]):=⟨enters_of Tryz.func164 krz rfl,λd w hr hf=>A2s d w hr hf.2.1.1 hf.2.1.2⟩
theorem A2m:Hz 165 (pl [2,3,4]):=⟨enters_of Tryz.func165 krz rfl,λd w hr hf=>A05 d w hr hf.2.1.1 hf.2.1.2⟩
theorem Ax0:Hz 166 (pl [2,3,4,7,8]):=⟨enters_of Tryz.func166 krz rfl,λd w hr hf=>Avu d w hr hf.2.1.1 hf.2.1.2⟩
theorem Zi:Hz 156 Ie:=⟨enters_of Tryz.func156 krz rfl,λd w hr hf=>Aqm d w hr hf.2.1.1 hf.2.1.2⟩
theorem Ano:Hz 160 Stil.Dev.isBit:=⟨enters_of Tryz.func160 krz rfl,λd w hr hf=>Aqo d.kind d.n d.p w hr hf.2.1.1 hf.2.1.2⟩
theorem F8:Hz 153 Stil.Dev.isWhole:=⟨enters_of Tryz.func153 krz rfl,λd w hr hf=>Ajo d.kind d.n d.p w hr hf.2.1.1 hf.2.1.2⟩
theorem H8:Hz 154 Stil.Dev.isReal:=⟨enters_of Tryz.func154 krz rfl,λd w hr hf=>Amh d.kind d.n d.p w hr hf.2.1.1 hf.2.1.2⟩
theorem Aku:F5 [] []:=⟨rfl,spz,λi h=>absurd h spz⟩
theorem A15 {p:Stil.Dev->Bool}(ha:a≠0)(h:Hz a p):F5 [a] [p]:=⟨rfl,spz,λi h1 h2=>by
 have:i=0:=by simp at h1;omega
 subst this;exact⟨ha,h⟩⟩
theorem Acn {b:Nat}{p q:Stil.Dev->Bool}(ha:a≠0)(h:Hz a p)(hb:b≠0)(k:Hz b q):F5 [a,b] [p,q]:=⟨rfl,spz,λi h1 h2=>by
 have:i=0\/i=1:=by simp at h1;omega
 rcases this with rfl | rfl
 ·exact⟨ha,h⟩
 ·exact⟨hb,k⟩⟩
theorem Axd {b c:Nat}{p q r:Stil.Dev->Bool}(ha:a≠0)(h:Hz a p)(hb:b≠0)(k:Hz b q)(hc:c≠0)(m:Hz c r):F5 [a,b,c] [p,q,r]:=⟨rfl,spz,λi h1 h2=>by
 have:i=0\/i=1\/i=2:=by simp at h1;omega
 rcases this with rfl | rfl | rfl
 ·exact⟨ha,h⟩
 ·exact⟨hb,k⟩
 ·exact⟨hc,m⟩⟩
def Am (op:Int):List (Stil.Dev->Bool) × List (Stil.Dev->Bool):=
 if op=1 then([Stil.Dev.isBit],[]) else
 if op=2 then([Stil.Dev.isBit],[]) else
 if op=3 then([Stil.Dev.isBit,pl [5]],[]) else
 if op=4 then([Stil.Dev.isBit,pl [5]],[]) else
 if op=5 then([Stil.Dev.isWhole,Stil.Dev.isWhole],[Stil.Dev.isReal,Stil.Dev.isReal]) else
 if op=6 then([Stil.Dev.isWhole,Stil.Dev.isWhole],[Stil.Dev.isReal,Stil.Dev.isReal]) else
 if op=7 then([Stil.Dev.isWhole,Stil.Dev.isWhole],[Stil.Dev.isReal,Stil.Dev.isReal]) else
 if op=8 then([Stil.Dev.isWhole,Stil.Dev.isWhole],[Stil.Dev.isReal,Stil.Dev.isReal]) else
 if op=9 then([Stil.Dev.isWhole,Stil.Dev.isWhole],[Stil.Dev.isReal,Stil.Dev.isReal]) else
 if op=10 then([Stil.Dev.isWhole,Stil.Dev.isWhole],[Stil.Dev.isReal,Stil.Dev.isReal]) else
 if op=21 then([pl [2,3]],[]) else
 if op=22 then([pl [2,3,4]],[]) else
 if op=23 then([pl [2,3,4,7,8]],[]) else
 if op=24 then([pl [2,3],pl [5]],[]) else
 if op=25 then([pl [4]],[]) else
 if op=26 then([pl [7],Ie],[]) else
 if op=27 then([pl [7],Ie],[]) else
 if op=28 then([pl [7],Ie],[]) else
 if op=29 then([pl [8],Ie],[]) else
 if op=30 then([pl [9],Stil.Dev.isWhole],[pl [10],Stil.Dev.isReal]) else
 if op=31 then([pl [9],Stil.Dev.isWhole,Stil.Dev.isWhole],[pl [10],Stil.Dev.isReal,Stil.Dev.isReal]) else
 if op=32 then([pl [9],Stil.Dev.isWhole,Stil.Dev.isWhole],[pl [10],Stil.Dev.isReal,Stil.Dev.isReal]) else
 if op=33 then([pl [9],Stil.Dev.isWhole,Stil.Dev.isWhole],[pl [10],Stil.Dev.isReal,Stil.Dev.isReal]) else
 if op=34 then([pl [9],Stil.Dev.isWhole,Stil.Dev.isWhole],[pl [10],Stil.Dev.isReal,Stil.Dev.isReal]) else
 if op=35 then([pl [9],Stil.Dev.isWhole,Stil.Dev.isWhole],[]) else
 if op=36 then([pl [10],Stil.Dev.isWhole],[]) else
 if op=37 then([pl [9],Stil.Dev.isReal],[]) else
 ([],[])
theorem Azn:F5 (rowOf 1).2.2.1 (Am 1).1/\F5 (rowOf 1).2.2.2 (Am 1).2:=⟨A15 dcz Ano,Aku⟩
theorem Azm:F5 (rowOf 2).2.2.1 (Am 2).1/\F5 (rowOf 2).2.2.2 (Am 2).2:=⟨A15 dcz Ano,Aku⟩
theorem Azl:F5 (rowOf 3).2.2.1 (Am 3).1/\F5 (rowOf 3).2.2.2 (Am 3).2:=⟨Acn dcz Ano dcz A3l,Aku⟩
theorem Azk:F5 (rowOf 4).2.2.1 (Am 4).1/\F5 (rowOf 4).2.2.2 (Am 4).2:=⟨Acn dcz Ano dcz A3l,Aku⟩
theorem Azj:F5 (rowOf 5).2.2.1 (Am 5).1/\F5 (rowOf 5).2.2.2 (Am 5).2:=⟨Acn dcz F8 dcz F8,Acn dcz H8 dcz H8⟩
theorem Azi:F5 (rowOf 6).2.2.1 (Am 6).1/\F5 (rowOf 6).2.2.2 (Am 6).2:=⟨Acn dcz F8 dcz F8,Acn dcz H8 dcz H8⟩
theorem Azh:F5 (rowOf 7).2.2.1 (Am 7).1/\F5 (rowOf 7).2.2.2 (Am 7).2:=⟨Acn dcz F8 dcz F8,Acn dcz H8 dcz H8⟩
theorem Azg:F5 (rowOf 8).2.2.1 (Am 8).1/\F5 (rowOf 8).2.2.2 (Am 8).2:=⟨Acn dcz F8 dcz F8,Acn dcz H8 dcz H8⟩
theorem Azf:F5 (rowOf 9).2.2.1 (Am 9).1/\F5 (rowOf 9).2.2.2 (Am 9).2:=⟨Acn dcz F8 dcz F8,Acn dcz H8 dcz H8⟩
theorem Atl:F5 (rowOf 10).2.2.1 (Am 10).1/\F5 (rowOf 10).2.2.2 (Am 10).2:=⟨Acn dcz F8 dcz F8,Acn dcz H8 dcz H8⟩
theorem Atk:F5 (rowOf 21).2.2.1 (Am 21).1/\F5 (rowOf 21).2.2.2 (Am 21).2:=⟨A15 dcz A2n,Aku⟩
theorem Atj:F5 (rowOf 22).2.2.1 (Am 22).1/\F5 (rowOf 22).2.2.2 (Am 22).2:=⟨A15 dcz A2m,Aku⟩
theorem Ati:F5 (rowOf 23).2.2.1 (Am 23).1/\F5 (rowOf 23).2.2.2 (Am 23).2:=⟨A15 dcz Ax0,Aku⟩
theorem Ath:F5 (rowOf 24).2.2.1 (Am 24).1/\F5 (rowOf 24).2.2.2 (Am 24).2:=⟨Acn dcz A2n dcz A3l,Aku⟩
theorem Atg:F5 (rowOf 25).2.2.1 (Am 25).1/\F5 (rowOf 25).2.2.2 (Am 25).2:=⟨A15 dcz A31,Aku⟩
theorem Atf:F5 (rowOf 26).2.2.1 (Am 26).1/\F5 (rowOf 26).2.2.2 (Am 26).2:=⟨Acn dcz A3k dcz Zi,Aku⟩
theorem Ate:F5 (rowOf 27).2.2.1 (Am 27).1/\F5 (rowOf 27).2.2.2 (Am 27).2:=⟨Acn dcz A3k dcz Zi,Aku⟩
theorem Atd:F5 (rowOf 28).2.2.1 (Am 28).1/\F5 (rowOf 28).2.2.2 (Am 28).2:=⟨Acn dcz A3k dcz Zi,Aku⟩
theorem Atc:F5 (rowOf 29).2.2.1 (Am 29).1/\F5 (rowOf 29).2.2.2 (Am 29).2:=⟨Acn dcz A32 dcz Zi,Aku⟩
theorem Atb:F5 (rowOf 30).2.2.1 (Am 30).1/\F5 (rowOf 30).2.2.2 (Am 30).2:=⟨Acn dcz A0r dcz F8,Acn dcz A16 dcz H8⟩
theorem Ata:F5 (rowOf 31).2.2.1 (Am 31).1/\F5 (rowOf 31).2.2.2 (Am 31).2:=⟨Axd dcz A0r dcz F8 dcz F8,Axd dcz A16 dcz H8 dcz H8⟩
theorem As9:F5 (rowOf 32).2.2.1 (Am 32).1/\F5 (rowOf 32).2.2.2 (Am 32).2:=⟨Axd dcz A0r dcz F8 dcz F8,Axd dcz A16 dcz H8 dcz H8⟩
theorem As8:F5 (rowOf 33).2.2.1 (Am 33).1/\F5 (rowOf 33).2.2.2 (Am 33).2:=⟨Axd dcz A0r dcz F8 dcz F8,Axd dcz A16 dcz H8 dcz H8⟩
theorem As7:F5 (rowOf 34).2.2.1 (Am 34).1/\F5 (rowOf 34).2.2.2 (Am 34).2:=⟨Axd dcz A0r dcz F8 dcz F8,Axd dcz A16 dcz H8 dcz H8⟩
theorem As6:F5 (rowOf 35).2.2.1 (Am 35).1/\F5 (rowOf 35).2.2.2 (Am 35).2:=⟨Axd dcz A0r dcz F8 dcz F8,Aku⟩
theorem As5:F5 (rowOf 36).2.2.1 (Am 36).1/\F5 (rowOf 36).2.2.2 (Am 36).2:=⟨Acn dcz A16 dcz F8,Aku⟩
theorem As4:F5 (rowOf 37).2.2.1 (Am 37).1/\F5 (rowOf 37).2.2.2 (Am 37).2:=⟨Acn dcz A0r dcz H8,Aku⟩
theorem Aj3 (ds:List Stil.Dev):(Ac (Am 1).1 ds || Ac (Am 1).2 ds)=Ad 1 ds:=by
 rw[show Am 1=([Stil.Dev.isBit],[]) from rfl]
 match ds with
 | []=>simp[Ac,Ad]
 | [a]=>(simp[Ac,Ai,Ad,Stil.Dev.isBit];try grind)
 | [a,b]=>(simp[Ac,Ai,Ad,Stil.Dev.isBit];try grind)
 | [a,b,c]=>(simp[Ac,Ai,Ad,Stil.Dev.isBit];try grind)
 | a::b::c::d::r=>simp[Ac,Ai,Ad];try omega
theorem Aj2 (ds:List Stil.Dev):(Ac (Am 2).1 ds || Ac (Am 2).2 ds)=Ad 2 ds:=by
 rw[show Am 2=([Stil.Dev.isBit],[]) from rfl]
 match ds with
 | []=>simp[Ac,Ad]
 | [a]=>(simp[Ac,Ai,Ad,Stil.Dev.isBit];try grind)
 | [a,b]=>(simp[Ac,Ai,Ad,Stil.Dev.isBit];try grind)
 | [a,b,c]=>(simp[Ac,Ai,Ad,Stil.Dev.isBit];try grind)
 | a::b::c::d::r=>simp[Ac,Ai,Ad];try omega
theorem Aj1 (ds:List Stil.Dev):(Ac (Am 3).1 ds || Ac (Am 3).2 ds)=Ad 3 ds:=by
 rw[show Am 3=([Stil.Dev.isBit,pl [5]],[]) from rfl]
 match ds with
 | []=>simp[Ac,Ad]
 | [a]=>(simp[Ac,Ai,Ad,Stil.Dev.isBit];try grind)
 | [a,b]=>(simp[Ac,Ai,Ad,pl,Stil.Dev.ok,Stil.Dev.isBit];try grind)
 | [a,b,c]=>(simp[Ac,Ai,Ad,pl,Stil.Dev.ok,Stil.Dev.isBit];try grind)
 | a::b::c::d::r=>simp[Ac,Ai,Ad];try omega
theorem Aj0 (ds:List Stil.Dev):(Ac (Am 4).1 ds || Ac (Am 4).2 ds)=Ad 4 ds:=by
 rw[show Am 4=([Stil.Dev.isBit,pl [5]],[]) from rfl]
 match ds with
 | []=>simp[Ac,Ad]
 | [a]=>(simp[Ac,Ai,Ad,Stil.Dev.isBit];try grind)
 | [a,b]=>(simp[Ac,Ai,Ad,pl,Stil.Dev.ok,Stil.Dev.isBit];try grind)
 | [a,b,c]=>(simp[Ac,Ai,Ad,pl,Stil.Dev.ok,Stil.Dev.isBit];try grind)
 | a::b::c::d::r=>simp[Ac,Ai,Ad];try omega
theorem Ajz (ds:List Stil.Dev):(Ac (Am 5).1 ds || Ac (Am 5).2 ds)=Ad 5 ds:=by
 rw[show Am 5=([Stil.Dev.isWhole,Stil.Dev.isWhole],[Stil.Dev.isReal,Stil.Dev.isReal]) from rfl]
 match ds with
 | []=>simp[Ac,Ad]
 | [a]=>(simp[Ac,Ai,Ad,Stil.Dev.isBit,Stil.Dev.isWhole,Stil.Dev.isReal];try grind)
 | [a,b]=>(simp[Ac,Ai,Ad,Stil.Dev.isWhole,Stil.Dev.isReal];try grind)
 | [a,b,c]=>(simp[Ac,Ai,Ad,Stil.Dev.isWhole,Stil.Dev.isReal];try grind)
 | a::b::c::d::r=>simp[Ac,Ai,Ad];try omega
theorem Ajy (ds:List Stil.Dev):(Ac (Am 6).1 ds || Ac (Am 6).2 ds)=Ad 6 ds:=by
 rw[show Am 6=([Stil.Dev.isWhole,Stil.Dev.isWhole],[Stil.Dev.isReal,Stil.Dev.isReal]) from rfl]
 match ds with
 | []=>simp[Ac,Ad]
 | [a]=>(simp[Ac,Ai,Ad,Stil.Dev.isBit,Stil.Dev.isWhole,Stil.Dev.isReal];try grind)
 | [a,b]=>(simp[Ac,Ai,Ad,Stil.Dev.isWhole,Stil.Dev.isReal];try grind)
 | [a,b,c]=>(simp[Ac,Ai,Ad,Stil.Dev.isWhole,Stil.Dev.isReal];try grind)
 | a::b::c::d::r=>simp[Ac,Ai,Ad];try omega
theorem Ajx (ds:List Stil.Dev):(Ac (Am 7).1 ds || Ac (Am 7).2 ds)=Ad 7 ds:=by
 rw[show Am 7=([Stil.Dev.isWhole,Stil.Dev.isWhole],[Stil.Dev.isReal,Stil.Dev.isReal]) from rfl]
 match ds with
 | []=>simp[Ac,Ad]
 | [a]=>(simp[Ac,Ai,Ad,Stil.Dev.isBit,Stil.Dev.isWhole,Stil.Dev.isReal];try grind)
 | [a,b]=>(simp[Ac,Ai,Ad,Stil.Dev.isWhole,Stil.Dev.isReal];try grind)
 | [a,b,c]=>(simp[Ac,Ai,Ad,Stil.Dev.isWhole,Stil.Dev.isReal];try grind)
 | a::b::c::d::r=>simp[Ac,Ai,Ad];try omega
theorem Ajw (ds:List Stil.Dev):(Ac (Am 8).1 ds || Ac (Am 8).2 ds)=Ad 8 ds:=by
 rw[show Am 8=([Stil.Dev.isWhole,Stil.Dev.isWhole],[Stil.Dev.isReal,Stil.Dev.isReal]) from rfl]
 match ds with
 | []=>simp[Ac,Ad]
 | [a]=>(simp[Ac,Ai,Ad,Stil.Dev.isBit,Stil.Dev.isWhole,Stil.Dev.isReal];try grind)
 | [a,b]=>(simp[Ac,Ai,Ad,Stil.Dev.isWhole,Stil.Dev.isReal];try grind)
 | [a,b,c]=>(simp[Ac,Ai,Ad,Stil.Dev.isWhole,Stil.Dev.isReal];try grind)
 | a::b::c::d::r=>simp[Ac,Ai,Ad];try omega
theorem Ajv (ds:List Stil.Dev):(Ac (Am 9).1 ds || Ac (Am 9).2 ds)=Ad 9 ds:=by
 rw[show Am 9=([Stil.Dev.isWhole,Stil.Dev.isWhole],[Stil.Dev.isReal,Stil.Dev.isReal]) from rfl]
 match ds with
 | []=>simp[Ac,Ad]
 | [a]=>(simp[Ac,Ai,Ad,Stil.Dev.isBit,Stil.Dev.isWhole,Stil.Dev.isReal];try grind)
 | [a,b]=>(simp[Ac,Ai,Ad,Stil.Dev.isWhole,Stil.Dev.isReal];try grind)
 | [a,b,c]=>(simp[Ac,Ai,Ad,Stil.Dev.isWhole,Stil.Dev.isReal];try grind)
 | a::b::c::d::r=>simp[Ac,Ai,Ad];try omega
theorem Ahh (ds:List Stil.Dev):(Ac (Am 10).1 ds || Ac (Am 10).2 ds)=Ad 10 ds:=by
 rw[show Am 10=([Stil.Dev.isWhole,Stil.Dev.isWhole],[Stil.Dev.isReal,Stil.Dev.isReal]) from rfl]
 match ds with
 | []=>simp[Ac,Ad]
 | [a]=>(simp[Ac,Ai,Ad,Stil.Dev.isBit,Stil.Dev.isWhole,Stil.Dev.isReal];try grind)
 | [a,b]=>(simp[Ac,Ai,Ad,Stil.Dev.isWhole,Stil.Dev.isReal];try grind)
 | [a,b,c]=>(simp[Ac,Ai,Ad,Stil.Dev.isWhole,Stil.Dev.isReal];try grind)
 | a::b::c::d::r=>simp[Ac,Ai,Ad];try omega
theorem Arn (ds:List Stil.Dev):(Ac (Am 21).1 ds || Ac (Am 21).2 ds)=Ap 21 ds:=by
 rw[show Am 21=([pl [2,3]],[]) from rfl]
 match ds with
 | []=>simp[Ac,Ap,Stil.arity]
 | [a]=>(simp[Ac,Ai,Ap,Stil.arity,pl,Stil.Dev.kindIs,Hw,Stil.Dev.ok];try grind)
 | [a,b]=>(simp[Ac,Ai,Ap,Stil.arity,pl,Stil.Dev.ok];try grind)
 | [a,b,c]=>(simp[Ac,Ai,Ap,Stil.arity,pl,Stil.Dev.ok];try grind)
 | a::b::c::d::r=>simp[Ac,Ai,Ap,Stil.arity];try omega
theorem Arl (ds:List Stil.Dev):(Ac (Am 22).1 ds || Ac (Am 22).2 ds)=Ap 22 ds:=by
 rw[show Am 22=([pl [2,3,4]],[]) from rfl]
 match ds with
 | []=>simp[Ac,Ap,Stil.arity]
 | [a]=>(simp[Ac,Ai,Ap,Stil.arity,pl,Stil.Dev.kindIs,Hw,Stil.Dev.ok];try grind)
 | [a,b]=>(simp[Ac,Ai,Ap,Stil.arity,pl,Stil.Dev.ok];try grind)
 | [a,b,c]=>(simp[Ac,Ai,Ap,Stil.arity,pl,Stil.Dev.ok];try grind)
 | a::b::c::d::r=>simp[Ac,Ai,Ap,Stil.arity];try omega
theorem Ark (ds:List Stil.Dev):(Ac (Am 23).1 ds || Ac (Am 23).2 ds)=Ap 23 ds:=by
 rw[show Am 23=([pl [2,3,4,7,8]],[]) from rfl]
 match ds with
 | []=>simp[Ac,Ap,Stil.arity]
 | [a]=>(simp[Ac,Ai,Ap,Stil.arity,pl,Stil.Dev.kindIs,Hw,Stil.Dev.ok];try grind)
 | [a,b]=>(simp[Ac,Ai,Ap,Stil.arity,pl,Stil.Dev.ok];try grind)
 | [a,b,c]=>(simp[Ac,Ai,Ap,Stil.arity,pl,Stil.Dev.ok];try grind)
 | a::b::c::d::r=>simp[Ac,Ai,Ap,Stil.arity];try omega
theorem Arj (ds:List Stil.Dev):(Ac (Am 24).1 ds || Ac (Am 24).2 ds)=Ap 24 ds:=by
 rw[show Am 24=([pl [2,3],pl [5]],[]) from rfl]
 match ds with
 | []=>simp[Ac,Ap,Stil.arity]
 | [a]=>(simp[Ac,Ai,Ap,Stil.arity,pl,Stil.Dev.ok];try grind)
 | [a,b]=>(simp[Ac,Ai,Ap,Stil.arity,pl,Stil.Dev.kindIs,Hw,Stil.Dev.ok];try grind)
 | [a,b,c]=>(simp[Ac,Ai,Ap,Stil.arity,pl,Stil.Dev.ok];try grind)
 | a::b::c::d::r=>simp[Ac,Ai,Ap,Stil.arity];try omega
theorem Ari (ds:List Stil.Dev):(Ac (Am 25).1 ds || Ac (Am 25).2 ds)=Ap 25 ds:=by
 rw[show Am 25=([pl [4]],[]) from rfl]
 match ds with
 | []=>simp[Ac,Ap,Stil.arity]
 | [a]=>(simp[Ac,Ai,Ap,Stil.arity,pl,Stil.Dev.kindIs,Hw,Stil.Dev.ok];try grind)
 | [a,b]=>(simp[Ac,Ai,Ap,Stil.arity,pl,Stil.Dev.ok];try grind)
 | [a,b,c]=>(simp[Ac,Ai,Ap,Stil.arity,pl,Stil.Dev.ok];try grind)
 | a::b::c::d::r=>simp[Ac,Ai,Ap,Stil.arity];try omega
theorem Arh (ds:List Stil.Dev):(Ac (Am 26).1 ds || Ac (Am 26).2 ds)=Ap 26 ds:=by
 rw[show Am 26=([pl [7],Ie],[]) from rfl]
 match ds with
 | []=>simp[Ac,Ap,Stil.arity]
 | [a]=>(simp[Ac,Ai,Ap,Stil.arity,pl,Stil.Dev.ok];try grind)
 | [a,b]=>(simp[Ac,Ai,Ap,Stil.arity,pl,Ie,Stil.Dev.kindIs,Hw,Stil.Dev.ok];try grind)
 | [a,b,c]=>(simp[Ac,Ai,Ap,Stil.arity,pl,Ie,Stil.Dev.ok];try grind)
 | a::b::c::d::r=>simp[Ac,Ai,Ap,Stil.arity];try omega
theorem Arf (ds:List Stil.Dev):(Ac (Am 27).1 ds || Ac (Am 27).2 ds)=Ap 27 ds:=by
 rw[show Am 27=([pl [7],Ie],[]) from rfl]
 match ds with
 | []=>simp[Ac,Ap,Stil.arity]
 | [a]=>(simp[Ac,Ai,Ap,Stil.arity,pl,Stil.Dev.ok];try grind)
 | [a,b]=>(simp[Ac,Ai,Ap,Stil.arity,pl,Ie,Stil.Dev.kindIs,Hw,Stil.Dev.ok];try grind)
 | [a,b,c]=>(simp[Ac,Ai,Ap,Stil.arity,pl,Ie,Stil.Dev.ok];try grind)
 | a::b::c::d::r=>simp[Ac,Ai,Ap,Stil.arity];try omega
theorem Ard (ds:List Stil.Dev):(Ac (Am 28).1 ds || Ac (Am 28).2 ds)=Ap 28 ds:=by
 rw[show Am 28=([pl [7],Ie],[]) from rfl]
 match ds with
 | []=>simp[Ac,Ap,Stil.arity]
 | [a]=>(simp[Ac,Ai,Ap,Stil.arity,pl,Stil.Dev.ok];try grind)
 | [a,b]=>(simp[Ac,Ai,Ap,Stil.arity,pl,Ie,Stil.Dev.kindIs,Hw,Stil.Dev.ok];try grind)
 | [a,b,c]=>(simp[Ac,Ai,Ap,Stil.arity,pl,Ie,Stil.Dev.ok];try grind)
 | a::b::c::d::r=>simp[Ac,Ai,Ap,Stil.arity];try omega
theorem Arc (ds:List Stil.Dev):(Ac (Am 29).1 ds || Ac (Am 29).2 ds)=Ap 29 ds:=by
 rw[show Am 29=([pl [8],Ie],[]) from rfl]
 match ds with
 | []=>simp[Ac,Ap,Stil.arity]
 | [a]=>(simp[Ac,Ai,Ap,Stil.arity,pl,Stil.Dev.ok];try grind)
 | [a,b]=>(simp[Ac,Ai,Ap,Stil.arity,pl,Ie,Stil.Dev.kindIs,Hw,Stil.Dev.ok];try grind)
 | [a,b,c]=>(simp[Ac,Ai,Ap,Stil.arity,pl,Ie,Stil.Dev.ok];try grind)
 | a::b::c::d::r=>simp[Ac,Ai,Ap,Stil.arity];try omega
theorem Arb (ds:List Stil.Dev):(Ac (Am 30).1 ds || Ac (Am 30).2 ds)=Ap 30 ds:=by
 rw[show Am 30=([pl [9],Stil.Dev.isWhole],[pl [10],Stil.Dev.isReal]) from rfl]
 match ds with
 | []=>simp[Ac,Ap,Stil.arity]
 | [a]=>(simp[Ac,Ai,Ap,Stil.arity,pl,Stil.Dev.ok];try grind)
 | [a,b]=>(simp[Ac,Ai,Ap,Stil.arity,Vt,Ih,pl,Stil.Dev.kindIs,Hw,Stil.Dev.ok,Stil.Dev.isWhole,Stil.Dev.isReal];try grind)
 | [a,b,c]=>(simp[Ac,Ai,Ap,Stil.arity,pl,Stil.Dev.ok,Stil.Dev.isWhole,Stil.Dev.isReal];try grind)
 | a::b::c::d::r=>simp[Ac,Ai,Ap,Stil.arity];try omega
theorem zz {p:Prop}(h:p:=by
 (simp[Ac,Ai,Ap,Stil.arity,Vt,Ih,pl,Stil.Dev.kindIs,Hw,Stil.Dev.ok,Stil.Dev.isWhole,Stil.Dev.isReal];try grind)):p:=h
theorem Ara (ds:List Stil.Dev):(Ac (Am 31).1 ds || Ac (Am 31).2 ds)=Ap 31 ds:=by
 rw[show Am 31=([pl [9],Stil.Dev.isWhole,Stil.Dev.isWhole],[pl [10],Stil.Dev.isReal,Stil.Dev.isReal]) from rfl]
 match ds with
 | []=>simp[Ac,Ap,Stil.arity]
 | [a]=>(simp[Ac,Ai,Ap,Stil.arity,pl,Stil.Dev.ok];try grind)
 | [a,b]=>(simp[Ac,Ai,Ap,Stil.arity,pl,Stil.Dev.ok,Stil.Dev.isWhole,Stil.Dev.isReal];try grind)
 | [a,b,c]=>exact zz
 | a::b::c::d::r=>simp[Ac,Ai,Ap,Stil.arity];try omega
theorem Aq9 (ds:List Stil.Dev):(Ac (Am 32).1 ds || Ac (Am 32).2 ds)=Ap 32 ds:=by
 rw[show Am 32=([pl [9],Stil.Dev.isWhole,Stil.Dev.isWhole],[pl [10],Stil.Dev.isReal,Stil.Dev.isReal]) from rfl]
 match ds with
 | []=>simp[Ac,Ap,Stil.arity]
 | [a]=>(simp[Ac,Ai,Ap,Stil.arity,pl,Stil.Dev.ok];try grind)
 | [a,b]=>(simp[Ac,Ai,Ap,Stil.arity,pl,Stil.Dev.ok,Stil.Dev.isWhole,Stil.Dev.isReal];try grind)
 | [a,b,c]=>exact zz
 | a::b::c::d::r=>simp[Ac,Ai,Ap,Stil.arity];try omega
theorem Aq8 (ds:List Stil.Dev):(Ac (Am 33).1 ds || Ac (Am 33).2 ds)=Ap 33 ds:=by
 rw[show Am 33=([pl [9],Stil.Dev.isWhole,Stil.Dev.isWhole],[pl [10],Stil.Dev.isReal,Stil.Dev.isReal]) from rfl]
 match ds with
 | []=>simp[Ac,Ap,Stil.arity]
 | [a]=>(simp[Ac,Ai,Ap,Stil.arity,pl,Stil.Dev.ok];try grind)
 | [a,b]=>(simp[Ac,Ai,Ap,Stil.arity,pl,Stil.Dev.ok,Stil.Dev.isWhole,Stil.Dev.isReal];try grind)
 | [a,b,c]=>exact zz
 | a::b::c::d::r=>simp[Ac,Ai,Ap,Stil.arity];try omega
theorem Aq7 (ds:List Stil.Dev):(Ac (Am 34).1 ds || Ac (Am 34).2 ds)=Ap 34 ds:=by
 rw[show Am 34=([pl [9],Stil.Dev.isWhole,Stil.Dev.isWhole],[pl [10],Stil.Dev.isReal,Stil.Dev.isReal]) from rfl]
 match ds with
 | []=>simp[Ac,Ap,Stil.arity]
 | [a]=>(simp[Ac,Ai,Ap,Stil.arity,pl,Stil.Dev.ok];try grind)
 | [a,b]=>(simp[Ac,Ai,Ap,Stil.arity,pl,Stil.Dev.ok,Stil.Dev.isWhole,Stil.Dev.isReal];try grind)
 | [a,b,c]=>exact zz
 | a::b::c::d::r=>simp[Ac,Ai,Ap,Stil.arity];try omega
theorem Aq6 (ds:List Stil.Dev):(Ac (Am 35).1 ds || Ac (Am 35).2 ds)=Ap 35 ds:=by
 rw[show Am 35=([pl [9],Stil.Dev.isWhole,Stil.Dev.isWhole],[]) from rfl]
 match ds with
 | []=>simp[Ac,Ap,Stil.arity]
 | [a]=>(simp[Ac,Ai,Ap,Stil.arity,pl,Stil.Dev.ok];try grind)
 | [a,b]=>(simp[Ac,Ai,Ap,Stil.arity,pl,Stil.Dev.ok,Stil.Dev.isWhole];try grind)
 | [a,b,c]=>exact zz
 | a::b::c::d::r=>simp[Ac,Ai,Ap,Stil.arity];try omega
theorem Aq5 (ds:List Stil.Dev):(Ac (Am 36).1 ds || Ac (Am 36).2 ds)=Ap 36 ds:=by
 rw[show Am 36=([pl [10],Stil.Dev.isWhole],[]) from rfl]
 match ds with
 | []=>simp[Ac,Ap,Stil.arity]
 | [a]=>(simp[Ac,Ai,Ap,Stil.arity,pl,Stil.Dev.ok];try grind)
 | [a,b]=>(simp[Ac,Ai,Ap,Stil.arity,pl,Stil.Dev.kindIs,Hw,Stil.Dev.ok,Stil.Dev.isWhole];try grind)
 | [a,b,c]=>(simp[Ac,Ai,Ap,Stil.arity,pl,Stil.Dev.ok,Stil.Dev.isWhole];try grind)
 | a::b::c::d::r=>simp[Ac,Ai,Ap,Stil.arity];try omega
theorem Aq4 (ds:List Stil.Dev):(Ac (Am 37).1 ds || Ac (Am 37).2 ds)=Ap 37 ds:=by
 rw[show Am 37=([pl [9],Stil.Dev.isReal],[]) from rfl]
 match ds with
 | []=>simp[Ac,Ap,Stil.arity]
 | [a]=>(simp[Ac,Ai,Ap,Stil.arity,pl,Stil.Dev.ok];try grind)
 | [a,b]=>(simp[Ac,Ai,Ap,Stil.arity,pl,Stil.Dev.kindIs,Hw,Stil.Dev.ok,Stil.Dev.isReal];try grind)
 | [a,b,c]=>(simp[Ac,Ai,Ap,Stil.arity,pl,Stil.Dev.ok,Stil.Dev.isReal];try grind)
 | a::b::c::d::r=>simp[Ac,Ai,Ap,Stil.arity];try omega
theorem Aju (op:Int)(h1:1<=op)(h2:op<=10):F5 (rowOf op).2.2.1 (Am op).1/\F5 (rowOf op).2.2.2 (Am op).2/\∀ds,(Ac (Am op).1 ds || Ac (Am op).2 ds)=Ad op ds:=by
 have h:op=1\/op=2\/op=3\/op=4\/op=5\/op=6\/op=7\/op=8\/op=9\/op=10:=omz
 rcases h with rfl | rfl | rfl | rfl | rfl | rfl | rfl | rfl | rfl | rfl
 ·exact⟨Azn.1,Azn.2,Aj3⟩
 ·exact⟨Azm.1,Azm.2,Aj2⟩
 ·exact⟨Azl.1,Azl.2,Aj1⟩
 ·exact⟨Azk.1,Azk.2,Aj0⟩
 ·exact⟨Azj.1,Azj.2,Ajz⟩
 ·exact⟨Azi.1,Azi.2,Ajy⟩
 ·exact⟨Azh.1,Azh.2,Ajx⟩
 ·exact⟨Azg.1,Azg.2,Ajw⟩
 ·exact⟨Azf.1,Azf.2,Ajv⟩
 ·exact⟨Atl.1,Atl.2,Ahh⟩
theorem Awg (op:Int)(h1:21<=op)(h2:op<=37):F5 (rowOf op).2.2.1 (Am op).1/\F5 (rowOf op).2.2.2 (Am op).2/\∀ds,(Ac (Am op).1 ds || Ac (Am op).2 ds)=Ap op ds:=by
 have h:op=21\/op=22\/op=23\/op=24\/op=25\/op=26\/op=27\/op=28\/op=29\/op=30\/op=31\/op=32\/op=33\/op=34\/op=35\/op=36\/op=37:=omz
 rcases h with rfl | rfl | rfl | rfl | rfl | rfl | rfl | rfl | rfl | rfl | rfl | rfl | rfl | rfl | rfl | rfl | rfl
 ·exact⟨Atk.1,Atk.2,Arn⟩
 ·exact⟨Atj.1,Atj.2,Arl⟩
 ·exact⟨Ati.1,Ati.2,Ark⟩
 ·exact⟨Ath.1,Ath.2,Arj⟩
 ·exact⟨Atg.1,Atg.2,Ari⟩
 ·exact⟨Atf.1,Atf.2,Arh⟩
 ·exact⟨Ate.1,Ate.2,Arf⟩
 ·exact⟨Atd.1,Atd.2,Ard⟩
 ·exact⟨Atc.1,Atc.2,Arc⟩
 ·exact⟨Atb.1,Atb.2,Arb⟩
 ·exact⟨Ata.1,Ata.2,Ara⟩
 ·exact⟨As9.1,As9.2,Aq9⟩
 ·exact⟨As8.1,As8.2,Aq8⟩
 ·exact⟨As7.1,As7.2,Aq7⟩
 ·exact⟨As6.1,As6.2,Aq6⟩
 ·exact⟨As5.1,As5.2,Aq5⟩
 ·exact⟨As4.1,As4.2,Aq4⟩
theorem Zr (op:Int)(w:World):
  Calls Tryz.prog 148 #[.int .i64 op] w λe w'=>e=.returned (.bool (decide (1<=op/\op<=10)))/\w'=w:=by
 by_cases h1:1<=op
 ·by_cases h2:op<=10
  ·have h2':decide (op<=10)=true:=by simpa using h2
   go_enter Tryz.func148,Tryz.ntmps148
   go_wp2
   all_goals go_ret
   all_goals exact⟨Ar (by first | (simp;done) | (simp;omega)),rfl⟩
  ·have h2':decide (op<=10)=false:=by simpa using h2
   go_enter Tryz.func148,Tryz.ntmps148
   go_wp2
   all_goals go_ret
   all_goals exact⟨Ar (by first | (simp;done) | (simp;omega)),rfl⟩
 ·have h1':decide (1<=op)=false:=by simpa using h1
  go_enter Tryz.func148,Tryz.ntmps148
  go_wp2
  all_goals go_ret
  all_goals exact⟨Ar (by first | (simp;done) | (simp;omega)),rfl⟩
theorem Apz {ds:List Stil.Dev}(h:¬(1<=op/\op<=10)):Ad op ds=false:=by unfold Ad;rw[if_pos omz]
theorem Amg (op:Int)(v:Value)(ds:List Stil.Dev)(w:World)(hr:Es w)(hat:Bi w v ds)(hfit:∀d∈ds,d.fits)(hl:ds.length<=9223372036854775807):
  Calls Tryz.prog 143 #[.agg #[.int .i64 op,v]] w λe w'=>e=.returned (.bool (Ad op ds))/\Below w.heap.size w w':=by
 by_cases h:1<=op/\op<=10
 ·obtain⟨q0,q1,q2⟩:=Aju op h.1 h.2
  have HF:Hid (∀W,Below w.heap.size w W->Calls Tryz.prog 145 #[.agg #[.int .i64 op,v]] W λe w'=>e=.returned (.bool (Ad op ds))/\Below W.heap.size W w'):=by
   intro W hW;rw[<-q2];exact Azu op _ _ v ds W (hr.below hW) q0 q1 (hat.below hW) hfit hl
  obtain⟨a,cap,rfl,_⟩:=hat;have hd:decide (1<=op/\op<=10)=true:=by simpa using h
  clear q0 q1 q2 hr h;go_enter Tryz.func143,Tryz.ntmps143
  go_wp2_with (first | (go_at_call 148;refine(Zr _ _).mono ?_;rw[hd];rintro e w1 ⟨rfl,rfl⟩) | (go_at_call 145;refine(HF _ (Aa _ _)).mono ?_;rintro e w2 ⟨rfl,hb⟩))
  go_ret;exact⟨rfl,Iy hb⟩
 ·have HN:Hid (Ad op ds=false):=Apz h
  obtain⟨a,cap,rfl,_⟩:=hat;have hd:decide (1<=op/\op<=10)=false:=by simpa using h
  clear hr h;go_enter Tryz.func143,Tryz.ntmps143
  go_wp2_with (go_at_call 148;refine(Zr _ _).mono ?_;rw[hd];rintro e w1 ⟨rfl,rfl⟩)
  go_ret;exact⟨Ar HN.symm,Aa _ _⟩
theorem Af4 (op:Int)(w:World):
  Calls Tryz.prog 144 #[.int .i64 op] w λe w'=>e=.returned (.bool (decide (21<=op/\op<=37)))/\w'=w:=by
 by_cases h1:21<=op
 ·by_cases h2:op<=37
  ·have h2':decide (op<=37)=true:=by simpa using h2
   go_enter Tryz.func144,Tryz.ntmps144
   go_wp2
   all_goals go_ret
   all_goals exact⟨Ar (by first | (simp;done) | (simp;omega)),rfl⟩
  ·have h2':decide (op<=37)=false:=by simpa using h2
   go_enter Tryz.func144,Tryz.ntmps144
   go_wp2
   all_goals go_ret
   all_goals exact⟨Ar (by first | (simp;done) | (simp;omega)),rfl⟩
 ·have h1':decide (21<=op)=false:=by simpa using h1
  go_enter Tryz.func144,Tryz.ntmps144
  go_wp2
  all_goals go_ret
  all_goals exact⟨Ar (by first | (simp;done) | (simp;omega)),rfl⟩
theorem A0u {ds:List Stil.Dev}(h:¬(21<=op/\op<=37)):Ap op ds=false:=by unfold Ap;rw[if_pos omz]
theorem An4 (op:Int)(v:Value)(ds:List Stil.Dev)(w:World)(hr:Es w)(hat:Bi w v ds)(hfit:∀d∈ds,d.fits)(hl:ds.length<=9223372036854775807):
  Calls Tryz.prog 137 #[.agg #[.int .i64 op,v]] w λe w'=>e=.returned (.bool (Ap op ds))/\Below w.heap.size w w':=by
 by_cases h:21<=op/\op<=37
 ·obtain⟨q0,q1,q2⟩:=Awg op h.1 h.2
  have HF:Hid (∀W,Below w.heap.size w W->Calls Tryz.prog 145 #[.agg #[.int .i64 op,v]] W λe w'=>e=.returned (.bool (Ap op ds))/\Below W.heap.size W w'):=by
   intro W hW;rw[<-q2];exact Azu op _ _ v ds W (hr.below hW) q0 q1 (hat.below hW) hfit hl
  obtain⟨a,cap,rfl,_⟩:=hat;have hd:decide (21<=op/\op<=37)=true:=by simpa using h
  clear q0 q1 q2 hr h;go_enter Tryz.func137,Tryz.ntmps137
  go_wp2_with (first | (go_at_call 144;refine(Af4 _ _).mono ?_;rw[hd];rintro e w1 ⟨rfl,rfl⟩) | (go_at_call 145;refine(HF _ (Aa _ _)).mono ?_;rintro e w2 ⟨rfl,hb⟩))
  go_ret;exact⟨rfl,Iy hb⟩
 ·have HN:Hid (Ap op ds=false):=A0u h
  obtain⟨a,cap,rfl,_⟩:=hat;have hd:decide (21<=op/\op<=37)=false:=by simpa using h
  clear hr h;go_enter Tryz.func137,Tryz.ntmps137
  go_wp2_with (go_at_call 144;refine(Af4 _ _).mono ?_;rw[hd];rintro e w1 ⟨rfl,rfl⟩)
  go_ret;exact⟨Ar HN.symm,Aa _ _⟩
end Go.Proofs.YtbfljjcnbbmoaaaGreatDoor
