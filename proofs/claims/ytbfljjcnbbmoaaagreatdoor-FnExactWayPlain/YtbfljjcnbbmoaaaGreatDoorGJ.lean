import Derived.Test.YtbfljjcnbbmoaaaGreatDoorI3
import Derived.LoopN
import Derived.Shelf.Abstract
set_option maxHeartbeats 4000000
set_option maxRecDepth 100000
namespace Go.Proofs.YtbfljjcnbbmoaaaGreatDoor
open Stil
open Go.RowKit Go.Sort Go.BigFrame
theorem Awz:Iq.length=304:=by kernel_rfl
theorem A2z:∀(l:List (List UInt8 × Nat × List Nat × List Nat)) (m j:Nat),j<8->(l.flatMap Ny)[m*8+j]?=(l[m]?).bind (λr=>(Ny r)[j]?)
 | [],m,j,_=>by simp
 | r::l,m,j,hj=>by
  rw[List.flatMap_cons];cases m with
  | zero=>rw[List.getElem?_append_left (by simp[Ny];omega)];simp
  | succ k=>
   rw[List.getElem?_append_right (by simp[Ny];omega)];have:=A2z l k j hj
   rw[show(k+1)*8+j - (Ny r).length=k*8+j from by simp[Ny];omega];simpa using this
def rowOf (op:Int):List UInt8 × Nat × List Nat × List Nat:=if 0<=op/\op<38 then Agm.getD op.toNat ([],0,[],[]) else([],0,[],[])
theorem Atg (W:World) (t:TypeId) (m j:Nat) (hm:m<38) (hj:j<8):(W.alloc (.cells Iq.toArray t)).cell? ⟨W.heap.size,m*8+j,none⟩=(Ny (rowOf m))[j]?:=by
 have h1:(W.alloc (.cells Iq.toArray t)).cell? ⟨W.heap.size,m*8+j,none⟩=Iq[m*8+j]?:=by
  rw[cell_of_row _ _ _ _ _ _ (heap_alloc_last W _)];simp
 have hl:Agm.length=38:=by kernel_rfl
 rw[h1,Iq,A2z _ _ _ hj,rowOf,if_pos (by omega)];simp[A4u (show m<Agm.length by omega)]
theorem Lr (n:Nat) (P:Program) (w:World) (a:Addr) (m:Mode):(store a (fnv n) m).run P w=stored P w a (fnv n) m:=run_store P w a _ m (by unfold fnv;split<;>rfl)
def Aes (r:List UInt8 × Nat × List Nat × List Nat):Value:=.agg #[.string ⟨r.1.toArray⟩,fnv r.2.1,fnv (r.2.2.1.getD 0 0),fnv (r.2.2.1.getD 1 0),fnv (r.2.2.1.getD 2 0),fnv (r.2.2.2.getD 0 0),fnv (r.2.2.2.getD 1 0),fnv (r.2.2.2.getD 2 0)]
theorem A0x (op:Int) (w:World):
  Calls Tryz.prog 149 #[.int .i64 op] w λe w'=>e=.returned (Aes (rowOf op))/\Below w.heap.size w w':=by
 have hlen:=Awz;by_cases h:0<=op/\op<38
 ·obtain⟨m,rfl⟩:=Int.eq_ofNat_of_zero_le h.1
  have hm:m<38:=by omega
  have hst:=Lr;obtain⟨r,hr⟩:∃r,r=rowOf (m:Int):=⟨_,rfl⟩
  obtain⟨s,hs⟩:∃s,s=r.1:=⟨_,rfl⟩
  obtain⟨n0,h0⟩:∃n,n=r.2.1:=⟨_,rfl⟩
  obtain⟨n1,h1⟩:∃n,n=r.2.2.1.getD 0 0:=⟨_,rfl⟩
  obtain⟨n2,h2⟩:∃n,n=r.2.2.1.getD 1 0:=⟨_,rfl⟩
  obtain⟨n3,h3⟩:∃n,n=r.2.2.1.getD 2 0:=⟨_,rfl⟩
  obtain⟨n4,h4⟩:∃n,n=r.2.2.2.getD 0 0:=⟨_,rfl⟩
  obtain⟨n5,h5⟩:∃n,n=r.2.2.2.getD 1 0:=⟨_,rfl⟩
  obtain⟨n6,h6⟩:∃n,n=r.2.2.2.getD 2 0:=⟨_,rfl⟩
  have hv:Aes r=.agg #[.string ⟨s.toArray⟩,fnv n0,fnv n1,fnv n2,fnv n3,fnv n4,fnv n5,fnv n6]:=by rw[Aes,hs,h0,h1,h2,h3,h4,h5,h6]
  have hcells:Ny r=[.string ⟨s.toArray⟩,fnv n0,fnv n1,fnv n2,fnv n3,fnv n4,fnv n5,fnv n6]:=by rw[Ny,hs,h0,h1,h2,h3,h4,h5,h6]
  have hc:=λW t j (hj:j<8)=>Atg W t m j hm hj
  rw[<-hr] at hc ⊢;rw[hcells] at hc;rw[hv];have c0:=λW t=>hc W t 0 (by omega)
  have c1:=λW t=>hc W t 1 (by omega)
  have c2:=λW t=>hc W t 2 (by omega)
  have c3:=λW t=>hc W t 3 (by omega)
  have c4:=λW t=>hc W t 4 (by omega)
  have c5:=λW t=>hc W t 5 (by omega)
  have c6:=λW t=>hc W t 6 (by omega)
  have c7:=λW t=>hc W t 7 (by omega)
  simp only[List.getElem?_cons_zero,List.getElem?_cons_succ,Nat.add_zero] at c0 c1 c2 c3 c4 c5 c6 c7;clear hc;clear hcells hv hs h0 h1 h2 h3 h4 h5 h6 hr h;go_enter Tryz.func149,Tryz.ntmps149
  go_wp2_with (go_at_call 151;refine(Azm _).mono ?_;rintro e w1 ⟨rfl,hb⟩;obtain⟨hc,hf⟩:=Dl hb;have hz:=Zl hb)
  rw[Zw (tgt:=Iq) (cur:=Tryz.zeroCells194) (t:=194)]
  case hvs=>rfl
  case hl=>kernel_rfl
  case h1=>kernel_rfl
  case hg=>exact heap_alloc_last _ _
  rw[World.setRow_alloc_new,Oper.upon_skip]
  go_wp2
  have hbw:Below w.heap.size w w1:=blB;refine bodyPost_ret (v:=.agg #[.string ⟨s.toArray⟩,fnv n0,fnv n1,fnv n2,fnv n3,fnv n4,fnv n5,fnv n6]) (by simp[results,Tryz.results149,go_sem,hc,hz]) rfl ⟨rfl,?_⟩;refine Bl ?_ _;iterate 8 refine Bv (A4i _) ?_ _
  exact hbw
 ·have hzz:rowOf op=([],0,[],[]):=by unfold rowOf;rw[if_neg h]
  rw[hzz];go_enter Tryz.func149,Tryz.ntmps149
  go_wp2_with (go_at_call 151;refine(Azm _).mono ?_;rintro e w1 ⟨rfl,hb⟩;obtain⟨hc,hf⟩:=Dl hb;have hz:=Zl hb)
  rw[Zw (tgt:=Iq) (cur:=Tryz.zeroCells194) (t:=194)]
  case hvs=>rfl
  case hl=>kernel_rfl
  case h1=>kernel_rfl
  case hg=>exact heap_alloc_last _ _
  rw[World.setRow_alloc_new,Oper.upon_skip];have hbw:Below w.heap.size w w1:=blB
  go_wp2
  all_goals refine bodyPost_ret (v:=.agg #[.string ⟨#[]⟩, .nilFunc, .nilFunc, .nilFunc, .nilFunc, .nilFunc, .nilFunc, .nilFunc]) (by simp[results,Tryz.results149,go_sem,hc,hz]) rfl ⟨rfl,?_⟩
  all_goals
   refine Bl ?_ _;iterate 8 refine Bv (A4i _) ?_ _
   exact hbw
def Qs (l:List Nat):Value:=.agg #[fnv (l.getD 0 0),fnv (l.getD 1 0),fnv (l.getD 2 0)]
theorem Anb (w:World):Sem.run Tryz.prog (binOp BinOp.neq 186 .nilFunc .nilFunc) w=.ok (.bool false) w:=by kernel_rfl
theorem Axs (a:Nat) (w:World):Sem.run Tryz.prog (binOp BinOp.neq 186 (.func (.func a) #[] #[]) .nilFunc) w=.ok (.bool true) w:=by kernel_rfl
theorem X7 {n:Nat} (h:n≠0):fnv n=.func (.func n) #[] #[]:=by unfold fnv;rw[if_neg h]
theorem Ano:fnv 0=.nilFunc:=rfl
theorem Au3 (w:World):
  Calls Tryz.prog 152 #[.agg #[.nilFunc, .nilFunc, .nilFunc]] w λe w'=>e=.returned (.int .i64 0)/\Below w.heap.size w w':=by
 have h1:=Anb;have h2:=Axs;go_enter Tryz.func152,Tryz.ntmps152
 go_wp2
 refine wp_loop_rounds 1 ?_;rw[rounds_succ]
 go_wp2
 go_ret;exact⟨rfl,blB⟩
theorem Au2 (a:Nat) (w:World):
  Calls Tryz.prog 152 #[.agg #[.func (.func a) #[] #[], .nilFunc, .nilFunc]] w λe w'=>e=.returned (.int .i64 1)/\Below w.heap.size w w':=by
 have h1:=Anb;have h2:=Axs;go_enter Tryz.func152,Tryz.ntmps152
 go_wp2
 refine wp_loop_rounds 2 ?_;rw[rounds_succ]
 go_wp2
 rw[rounds_succ]
 go_wp2
 go_ret;exact⟨rfl,blB⟩
theorem Au1 (a b:Nat) (w:World):
  Calls Tryz.prog 152 #[.agg #[.func (.func a) #[] #[], .func (.func b) #[] #[], .nilFunc]] w λe w'=>e=.returned (.int .i64 2)/\Below w.heap.size w w':=by
 have h1:=Anb;have h2:=Axs;go_enter Tryz.func152,Tryz.ntmps152
 go_wp2
 refine wp_loop_rounds 3 ?_;rw[rounds_succ]
 go_wp2
 rw[rounds_succ]
 go_wp2
 rw[rounds_succ]
 go_wp2
 go_ret;exact⟨rfl,blB⟩
theorem Au0 (a b c:Nat) (w:World):
  Calls Tryz.prog 152 #[.agg #[.func (.func a) #[] #[], .func (.func b) #[] #[], .func (.func c) #[] #[]]] w λe w'=>e=.returned (.int .i64 3)/\Below w.heap.size w w':=by
 have h1:=Anb;have h2:=Axs;go_enter Tryz.func152,Tryz.ntmps152
 go_wp2
 refine wp_loop_rounds 4 ?_;rw[rounds_succ]
 go_wp2
 rw[rounds_succ]
 go_wp2
 rw[rounds_succ]
 go_wp2
 rw[rounds_succ]
 go_wp2
 go_ret;exact⟨rfl,blB⟩
theorem Ank (l:List Nat) (w:World) (hl:l.length<=3) (hn:∀x∈l,x≠0):
  Calls Tryz.prog 152 #[Qs l] w λe w'=>e=.returned (.int .i64 l.length)/\Below w.heap.size w w':=by
 match l,hl,hn with
 | [],_,_=>exact Au3 w
 | [a],_,hn=>simp only[Qs,List.getD,List.getElem?_cons_zero,List.getElem?_cons_succ,List.getElem?_nil,Option.getD,X7 (hn a (by simp)),Ano];exact Au2 a w
 | [a,b],_,hn=>simp only[Qs,List.getD,List.getElem?_cons_zero,List.getElem?_cons_succ,List.getElem?_nil,Option.getD,X7 (hn a (by simp)),X7 (hn b (by simp)),Ano];exact Au1 a b w
 | [a,b,c],_,hn=>simp only[Qs,List.getD,List.getElem?_cons_zero,List.getElem?_cons_succ,Option.getD,X7 (hn a (by simp)),X7 (hn b (by simp)),X7 (hn c (by simp))];exact Au0 a b c w
 | _::_::_::_::_,hl,_=>simp at hl
def Ho (n:Nat) (p:Stil.Dev->Bool):Prop:=(∀args w,(callFunc n args).run Tryz.prog w=.ok (.enter n args) w)/\∀(d:Stil.Dev) (w:World),Eu w->d.fits->Calls Tryz.prog n #[.agg #[.int .i64 d.kind, .int .i64 d.n, .int .i64 d.p]] w λe w'=>e=.returned (.bool (p d))/\Below w.heap.size w w'
def Ai:List (Stil.Dev->Bool)->List Stil.Dev->Bool
 | [],[]=>true
 | p::ps,d::ds=>p d && Ai ps ds
 | _,_=>false
def Ac (ps:List (Stil.Dev->Bool)) (ds:List Stil.Dev):Bool:=!ds.isEmpty && Ai ps ds
theorem Aey:∀(ps:List (Stil.Dev->Bool)) (ds:List Stil.Dev),ds.length≠ps.length->Ai ps ds=false
 | [],[],h=>absurd rfl h
 | [],_::_,_=>rfl
 | _::_,[],_=>rfl
 | p::ps,d::ds,h=>by
  have:=Aey ps ds (by simpa using h)
  simp[Ai,this]
theorem Ab9:∀(ps:List (Stil.Dev->Bool)) (ds:List Stil.Dev) (k:Nat) (h1:k<ps.length) (h2:k<ds.length),Ai (ps.drop k) (ds.drop k)=(ps[k] ds[k] && Ai (ps.drop (k+1)) (ds.drop (k+1)))
 | p::ps,d::ds,0,_,_=>rfl
 | p::ps,d::ds,k+1,h1,h2=>by
  have:=Ab9 ps ds k (by simpa using h1) (by simpa using h2)
  simpa using this
theorem Apx (l:List Nat) (ps:List (Stil.Dev->Bool)) (a:Option Addr) (cap:Nat) (ds:List Stil.Dev) (w:World) (hr:Eu w) (hl:l.length=ps.length) (hd:ds.length=ps.length) (h3:l.length<=3) (hp:∀i (h1:i<l.length) (h2:i<ps.length),l[i]≠0/\Ho l[i] ps[i]) (h0:0<ds.length)
  (hat:∀i (h:i<ds.length),∃b o,a=some ⟨b,o,none⟩/\b<w.heap.size/\Ia w b (o+i*3) ds[i]) (hf:∀x∈ds,x.fits):
  Calls Tryz.prog 150 #[Qs l, .slice a ds.length cap] w λe w'=>e=.returned (.bool (Ai ps ds))/\Below w.heap.size w w':=by
 have hst:=Lr;obtain⟨f0,hf0⟩:∃f,f=l.getD 0 0:=⟨_,rfl⟩
 obtain⟨f1,hf1⟩:∃f,f=l.getD 1 0:=⟨_,rfl⟩
 obtain⟨f2,hf2⟩:∃f,f=l.getD 2 0:=⟨_,rfl⟩
 have HW:Hid (Qs l=.agg #[fnv f0,fnv f1,fnv f2]):=by show _=_;rw[Qs,hf0,hf1,hf2]
 have HP:Hid (∀W,Calls Tryz.prog 152 #[.agg #[fnv f0,fnv f1,fnv f2]] W λe w'=>e=.returned (.int .i64 ds.length)/\Below W.heap.size W w'):=by
  intro W
  have:=Ank l W h3 (λx hx=>by
   obtain⟨i,hi,rfl⟩:=List.getElem_of_mem hx
   exact(hp i hi (by omega)).1)
  rw[HW.out] at this;rw[hd,<-hl];exact this
 have HC:Hid (∀k (h:k<ds.length),(w.alloc (.cells #[fnv f0,fnv f1,fnv f2] 188)).cell? ⟨w.heap.size,k,none⟩=some (.func (.func (l.getD k 0)) #[] #[])):=by
  intro k hk;have hnz:l.getD k 0≠0:=by
   have hk':k<l.length:=by omega
   have:=(hp k hk' (by omega)).1
   simpa[List.getD,A4u hk'] using this
  rw[<-X7 hnz];have hkk:k=0\/k=1\/k=2:=by omega
  rcases hkk with rfl | rfl | rfl<;>simp[go_sem,hf0,hf1,hf2]
 have HF:Hid (∀k (h:k<ds.length) (h2:k<ps.length),Ho (l.getD k 0) ps[k]):=by
  intro k hk hk2;have hk':k<l.length:=by omega
  have:=(hp k hk' (by omega)).2
  simpa[List.getD,A4u hk'] using this
 have HA:=hid hat;have HR:=hid (λW (h:Below w.heap.size w W)=>hr.below h);have HFit:=hid hf;have hn3:ds.length<=3:=by omega
 have HL:=hid hd;have hnil:¬ds=[]:=by intro h;rw[h] at h0;simp at h0
 rw[HW.out];clear hf0 hf1 hf2 hl hd h3 hp hat hr HW hf;go_enter Tryz.func150,Tryz.ntmps150
 go_wp2_with (go_at_call 152;refine(HP.out _).mono ?_;rintro e w1 ⟨rfl,hb⟩;obtain⟨hc,hfz⟩:=Dl hb;have hz:=Zl hb)
 go_loopw [19] (λi wr=>∃k:Nat,k<=ds.length/\i=.int .i64 k/\Ai ps ds=Ai (ps.drop k) (ds.drop k)/\Below (w.heap.size+1) (w.alloc (.cells #[fnv f0,fnv f1,fnv f2] 188)) wr) (λi _=>ds.length - (intOf i).toNat)
 case atStart=>exact⟨0,by omega,rfl,rfl,by simpa using hb⟩
 case round=>
  clear hb hc hfz hz;obtain⟨k,hk,rfl,hg,hb⟩:=hrel;have HG:=hid hg;clear hg;have hbw:=(Aa _ _).trans (hb.mono (by omega));have hzr:w.heap.size<wr.heap.size:=by have:=hb.size;simp at this;omega
  by_cases hlt:k<ds.length
  ·obtain⟨b,o,rfl,hbl,hdv⟩:=HA.out k hlt
   have hkp:k<ps.length:=by have:=HL.out;omega
   have HF':=HF.out k hlt hkp;have hfit:=HFit.out ds[k] (A4k hlt);have HS:=hid (Ab9 ps ds k hkp hlt);obtain⟨x0,x1,x2⟩:=hdv.below hbw hbl;have hbl':=A4c hbl hbw.size;have hwc:wr.cell? ⟨w.heap.size,k,none⟩=some (.func (.func (l.getD k 0)) #[] #[]):=by
    rw[hb.cell (p:=⟨w.heap.size,k,none⟩) (by simp)];exact HC.out k hlt
   obtain⟨p,hpe⟩:∃p,p=ps[k]:=⟨_,rfl⟩
   obtain⟨x,hx⟩:∃x,x=ds[k]:=⟨_,rfl⟩
   obtain⟨n,hne⟩:∃n,n=l.getD k 0:=⟨_,rfl⟩
   rw[<-hx] at x0 x1 x2 hfit;rw[<-hpe,<-hx] at HS;rw[<-hne] at hwc;rw[<-hne,<-hpe] at HF';obtain⟨hent,HF'⟩:=HF';have HQ:=hid HF';have HFX:=hid hfit;clear hne hx hpe hdv HF' hfit;have q0:(wr.alloc (.cells #[.int .i64 x.kind, .int .i64 x.n, .int .i64 x.p] 86)).cell? ⟨w.heap.size,k,none⟩=some (.func (.func n) #[] #[]):=by rw[World.cell?_alloc_some _ _ _ (by rw[hwc];rfl)];exact hwc
   have q1:(wr.alloc (.cells #[.int .i64 x.kind, .int .i64 x.n, .int .i64 x.p] 86)).cell? ⟨wr.heap.size,0,none⟩=some (.int .i64 x.kind):=by simp[go_sem]
   have q2:(wr.alloc (.cells #[.int .i64 x.kind, .int .i64 x.n, .int .i64 x.p] 86)).cell? ⟨wr.heap.size,1,none⟩=some (.int .i64 x.n):=by simp[go_sem]
   have q3:(wr.alloc (.cells #[.int .i64 x.kind, .int .i64 x.n, .int .i64 x.p] 86)).cell? ⟨wr.heap.size,2,none⟩=some (.int .i64 x.p):=by simp[go_sem]
   have r0:=cell_regrown q0;have r1:=cell_regrown q1;have r2:=cell_regrown q2;have r3:=cell_regrown q3;clear q0 q1 q2 q3;cases hpx:p x
   ·go_wp2
    refine wp_region_quiet_below (by kernel_rfl) (by kernel_rfl) ?_;repeat (go_big_quiet_step ((exact Calls.regrown_of (HQ.out _ _ (HR.out _ blB) HFX.out))))
    refine wpQuiet_nil ?_;intro _ hw';obtain⟨⟨dq,osq⟩,hw''⟩:=hw';subst hw''
    go_wp2
    go_ret;exact⟨Ap (by rw[HG.out,HS.out,hpx];rfl),blB⟩
   ·have HS':Hid (Ai ps ds=Ai (ps.drop (k+1)) (ds.drop (k+1))):=by show _=_;rw[HG.out,HS.out,hpx];rfl
    clear HS HG
    go_wp2
    refine wp_region_quiet_below (by kernel_rfl) (by kernel_rfl) ?_;repeat (go_big_quiet_step ((exact Calls.regrown_of (HQ.out _ _ (HR.out _ blB) HFX.out))))
    refine wpQuiet_nil ?_;intro _ hw';obtain⟨⟨dq,osq⟩,hw''⟩:=hw';subst hw''
    go_wp2
    refine⟨⟨k+1,by omega,by go_num,HS'.out,?_⟩,by simp[intOf];omega⟩;exact(hb.alloc (by omega) _).trans ((below_regrown _ dq osq).mono (by simp;omega))
  ·have HE:Hid (Ai ps ds=true):=by
    show _=_
    have:=HL.out
    rw[HG.out,List.drop_of_length_le (by omega),List.drop_of_length_le (by omega)];rfl
   go_wp2
   go_ret;exact⟨Ap HE.out.symm,blB⟩
theorem Auy (l:List Nat) (ps:List (Stil.Dev->Bool)) (v:Value) (ds:List Stil.Dev) (w:World) (hr:Eu w) (hl:l.length=ps.length) (h3:l.length<=3) (hp:∀i (h1:i<l.length) (h2:i<ps.length),l[i]≠0/\Ho l[i] ps[i])
  (hat:Bg w v ds) (hf:∀x∈ds,x.fits) (hlen:ds.length<=9223372036854775807):
  Calls Tryz.prog 150 #[Qs l,v] w λe w'=>e=.returned (.bool (Ac ps ds))/\Below w.heap.size w w':=by
 obtain⟨a,cap,rfl,hat⟩:=hat;by_cases hnil:ds=[]
 ·subst hnil
  have hst:=Lr;have HT:Hid (Ac ps []=false):=rfl;unfold Qs;clear hp hat hf hr;go_enter Tryz.func150,Tryz.ntmps150
  go_wp2
  go_ret;exact⟨Ap HT.out.symm,blB⟩
 ·have h0:=List.length_pos_iff.2 hnil
  by_cases hd:ds.length=ps.length
  ·have HT:Ac ps ds=Ai ps ds:=by
    have:ds.isEmpty=false:=by simpa using hnil
    rw[Ac,this];rfl
   rw[HT];exact Apx l ps a cap ds w hr hl hd h3 hp h0 hat hf
  ·have HT:Hid (Ac ps ds=false):=by show _=_;rw[Ac,Aey ps ds hd,Bool.and_false]
   have hst:=Lr
   have HP:=hid (λW=>Ank l W h3 (λx hx=>by
    obtain⟨i,hi,rfl⟩:=List.getElem_of_mem hx
    exact(hp i hi (by omega)).1))
   have hne:((ds.length:Int) !=(l.length:Int))=true:=by rw[bne_iff_ne];omega
   clear hp hat hf hr hd hl;unfold Qs at HP ⊢;go_enter Tryz.func150,Tryz.ntmps150
   go_wp2_with (go_at_call 152;refine(HP.out _).mono ?_;rintro e w1 ⟨rfl,hb⟩;obtain⟨hc,hfz⟩:=Dl hb;have hz:=Zl hb)
   go_ret;exact⟨Ap HT.out.symm,blB⟩
theorem Aw0 (x0 x1 x2 x3 x4 x5 x6 x7:Value) (w:World):(Instr.field 191 (.agg #[x0,x1,x2,x3,x4,x5,x6,x7]) 2).run Tryz.prog w=.ok (.agg #[x2,x3,x4,x5,x6,x7]) w:=by kernel_rfl
theorem Az7 (x2 x3 x4 x5 x6 x7:Value) (w:World):(Instr.index 189 (.agg #[x2,x3,x4,x5,x6,x7]) (.int .i64 0)).run Tryz.prog w=.ok (.agg #[x2,x3,x4]) w:=by kernel_rfl
theorem Az6 (x2 x3 x4 x5 x6 x7:Value) (w:World):(Instr.index 189 (.agg #[x2,x3,x4,x5,x6,x7]) (.int .i64 1)).run Tryz.prog w=.ok (.agg #[x5,x6,x7]) w:=by kernel_rfl
def E5 (l:List Nat) (ps:List (Stil.Dev->Bool)):Prop:=l.length=ps.length/\l.length<=3/\∀i (h1:i<l.length) (h2:i<ps.length),l[i]≠0/\Ho l[i] ps[i]
theorem Azn (op:Int) (p0 p1:List (Stil.Dev->Bool)) (v:Value) (ds:List Stil.Dev) (w:World) (hr:Eu w) (h0:E5 (rowOf op).2.2.1 p0) (h1:E5 (rowOf op).2.2.2 p1)
  (hat:Bg w v ds) (hf:∀x∈ds,x.fits) (hlen:ds.length<=9223372036854775807):
  Calls Tryz.prog 145 #[.agg #[.int .i64 op,v]] w λe w'=>e=.returned (.bool (Ac p0 ds || Ac p1 ds))/\Below w.heap.size w w':=by
 obtain⟨r,hr'⟩:∃r,r=rowOf op:=⟨_,rfl⟩
 rw[<-hr'] at h0 h1;have HRow:Hid (∀W,Calls Tryz.prog 149 #[.int .i64 op] W λe w'=>e=.returned (Aes r)/\Below W.heap.size W w'):=by intro W;rw[hr'];exact A0x op W
 have HA:=hid (λW (h:Below w.heap.size w W)=>hat.below h);have HR:=hid (λW (h:Below w.heap.size w W)=>hr.below h);have H0:=hid (λW h=>Auy _ _ v ds W (HR.out W h) h0.1 h0.2.1 h0.2.2 (HA.out W h) hf hlen);have H1:=hid (λW h=>Auy _ _ v ds W (HR.out W h) h1.1 h1.2.1 h1.2.2 (HA.out W h) hf hlen);obtain⟨a,cap,rfl,_⟩:=hat;obtain⟨s,hs⟩:∃s,s=r.1:=⟨_,rfl⟩
 obtain⟨n0,e0⟩:∃n,n=r.2.1:=⟨_,rfl⟩
 obtain⟨n1,e1⟩:∃n,n=r.2.2.1.getD 0 0:=⟨_,rfl⟩
 obtain⟨n2,e2⟩:∃n,n=r.2.2.1.getD 1 0:=⟨_,rfl⟩
 obtain⟨n3,e3⟩:∃n,n=r.2.2.1.getD 2 0:=⟨_,rfl⟩
 obtain⟨n4,e4⟩:∃n,n=r.2.2.2.getD 0 0:=⟨_,rfl⟩
 obtain⟨n5,e5⟩:∃n,n=r.2.2.2.getD 1 0:=⟨_,rfl⟩
 obtain⟨n6,e6⟩:∃n,n=r.2.2.2.getD 2 0:=⟨_,rfl⟩
 have hw0:Qs r.2.2.1=.agg #[fnv n1,fnv n2,fnv n3]:=by rw[Qs,e1,e2,e3]
 have hw1:Qs r.2.2.2=.agg #[fnv n4,fnv n5,fnv n6]:=by rw[Qs,e4,e5,e6]
 have hrv:Aes r=.agg #[.string ⟨s.toArray⟩,fnv n0,fnv n1,fnv n2,fnv n3,fnv n4,fnv n5,fnv n6]:=by rw[Aes,hs,e0,e1,e2,e3,e4,e5,e6]
 rw[hw0] at H0;rw[hw1] at H1;rw[hrv] at HRow;clear h0 h1 hr hr' hs e0 e1 e2 e3 e4 e5 e6 hw0 hw1 hrv HA;have hst:=Lr;have hfd:=Aw0;have hix0:=Az7;have hix1:=Az6;generalize Ac p0 ds=t0 at H0 ⊢;generalize Ac p1 ds=t1 at H1 ⊢;go_enter Tryz.func145,Tryz.ntmps145
 go_wp2_with (go_at_call 149;refine(HRow.out _).mono ?_;rintro e w1 ⟨rfl,hb⟩;obtain⟨hc,hfz⟩:=Dl hb;have hz:=Zl hb;have hbw1:=Ik hb)
 cases t0
 ·cases t1
  ·refine wp_loop_rounds 3 ?_
   rw[rounds_succ]
   go_wp2_with (go_at_call 150;refine(H0.out _ (Bl hbw1 _)).mono ?_;rintro e w2 ⟨rfl,hb2⟩;obtain⟨hc2,hfz2⟩:=Dl hb2;have hz2:=A4c hz (A4p (by simp) hb2.size);have hbw2:=Cj (Bl hbw1 _) hb2)
   rw[rounds_succ]
   go_wp2_with (go_at_call 150;refine(H1.out _ (Bl hbw2 _)).mono ?_;rintro e w3 ⟨rfl,hb3⟩;have hbw3:=Cj (Bl hbw2 _) hb3)
   rw[rounds_succ]
   go_wp2
   go_ret;exact⟨rfl,hbw3⟩
  ·refine wp_loop_rounds 2 ?_
   rw[rounds_succ]
   go_wp2_with (go_at_call 150;refine(H0.out _ (Bl hbw1 _)).mono ?_;rintro e w2 ⟨rfl,hb2⟩;obtain⟨hc2,hfz2⟩:=Dl hb2;have hz2:=A4c hz (A4p (by simp) hb2.size);have hbw2:=Cj (Bl hbw1 _) hb2)
   rw[rounds_succ]
   go_wp2_with (go_at_call 150;refine(H1.out _ (Bl hbw2 _)).mono ?_;rintro e w3 ⟨rfl,hb3⟩;have hbw3:=Cj (Bl hbw2 _) hb3)
   go_ret;exact⟨rfl,hbw3⟩
 ·refine wp_loop_rounds 1 ?_
  rw[rounds_succ]
  go_wp2_with (go_at_call 150;refine(H0.out _ (Bl hbw1 _)).mono ?_;rintro e w2 ⟨rfl,hb2⟩;obtain⟨hc2,hfz2⟩:=Dl hb2;have hz2:=A4c hz (A4p (by simp) hb2.size);have hbw2:=Cj (Bl hbw1 _) hb2)
  go_ret;exact⟨rfl,hbw2⟩
def pl (l:List Int) (d:Stil.Dev):Bool:=d.ok && decide (d.kind∈l)
def H6 (d:Stil.Dev):Bool:=d.ok && decide (d.kind∈([11]:List Int)) && decide (0<=d.n)
theorem A3o:Ho 161 (pl [5]):=⟨enters_of Tryz.func161 (by kernel_rfl) rfl,λd w hr hf=>A3s d w hr hf.2.1.1 hf.2.1.2⟩
theorem A36:Ho 167 (pl [4]):=⟨enters_of Tryz.func167 (by kernel_rfl) rfl,λd w hr hf=>A3q d w hr hf.2.1.1 hf.2.1.2⟩
theorem A3n:Ho 155 (pl [7]):=⟨enters_of Tryz.func155 (by kernel_rfl) rfl,λd w hr hf=>A3p d w hr hf.2.1.1 hf.2.1.2⟩
theorem A37:Ho 168 (pl [8]):=⟨enters_of Tryz.func168 (by kernel_rfl) rfl,λd w hr hf=>A3u d w hr hf.2.1.1 hf.2.1.2⟩
theorem A0l:Ho 157 (pl [9]):=⟨enters_of Tryz.func157 (by kernel_rfl) rfl,λd w hr hf=>A3t d w hr hf.2.1.1 hf.2.1.2⟩
theorem A15:Ho 158 (pl [10]):=⟨enters_of Tryz.func158 (by kernel_rfl) rfl,λd w hr hf=>A3r d w hr hf.2.1.1 hf.2.1.2⟩
theorem A2j:Ho 164 (pl [2,3]):=⟨enters_of Tryz.func164 (by kernel_rfl) rfl,λd w hr hf=>A2r d w hr hf.2.1.1 hf.2.1.2⟩
theorem A2i:Ho 165 (pl [2,3,4]):=⟨enters_of Tryz.func165 (by kernel_rfl) rfl,λd w hr hf=>A0z d w hr hf.2.1.1 hf.2.1.2⟩
theorem Axh:Ho 166 (pl [2,3,4,7,8]):=⟨enters_of Tryz.func166 (by kernel_rfl) rfl,λd w hr hf=>Au8 d w hr hf.2.1.1 hf.2.1.2⟩
theorem Yx:Ho 156 H6:=⟨enters_of Tryz.func156 (by kernel_rfl) rfl,λd w hr hf=>Ap1 d w hr hf.2.1.1 hf.2.1.2⟩
theorem Am4:Ho 160 Stil.Dev.isBit:=⟨enters_of Tryz.func160 (by kernel_rfl) rfl,λd w hr hf=>Ap3 d.kind d.n d.p w hr hf.2.1.1 hf.2.1.2⟩
theorem Fe:Ho 153 Stil.Dev.isWhole:=⟨enters_of Tryz.func153 (by kernel_rfl) rfl,λd w hr hf=>Aiy d.kind d.n d.p w hr hf.2.1.1 hf.2.1.2⟩
theorem Hu:Ho 154 Stil.Dev.isReal:=⟨enters_of Tryz.func154 (by kernel_rfl) rfl,λd w hr hf=>Alq d.kind d.n d.p w hr hf.2.1.1 hf.2.1.2⟩
theorem Aj7:E5 [] []:=⟨rfl,by simp,λi h=>absurd h (by simp)⟩
theorem A14 {a:Nat} {p:Stil.Dev->Bool} (ha:a≠0) (h:Ho a p):E5 [a] [p]:=⟨rfl,by simp,λi h1 h2=>by
 have:i=0:=by simp at h1;omega
 subst this;exact⟨ha,h⟩⟩
theorem Abw {a b:Nat} {p q:Stil.Dev->Bool} (ha:a≠0) (h:Ho a p) (hb:b≠0) (k:Ho b q):E5 [a,b] [p,q]:=⟨rfl,by simp,λi h1 h2=>by
 have:i=0\/i=1:=by simp at h1;omega
 rcases this with rfl | rfl
 ·exact⟨ha,h⟩
 ·exact⟨hb,k⟩⟩
theorem Awq {a b c:Nat} {p q r:Stil.Dev->Bool} (ha:a≠0) (h:Ho a p) (hb:b≠0) (k:Ho b q) (hc:c≠0) (m:Ho c r):E5 [a,b,c] [p,q,r]:=⟨rfl,by simp,λi h1 h2=>by
 have:i=0\/i=1\/i=2:=by simp at h1;omega
 rcases this with rfl | rfl | rfl
 ·exact⟨ha,h⟩
 ·exact⟨hb,k⟩
 ·exact⟨hc,m⟩⟩
def Ak (op:Int):List (Stil.Dev->Bool) × List (Stil.Dev->Bool):=
 if op=1 then([Stil.Dev.isBit],[]) else
 if op=2 then([Stil.Dev.isBit],[]) else
 if op=3 then([Stil.Dev.isBit,pl [5]],[]) else
 if op=4 then([Stil.Dev.isBit,pl [5]],[]) else
 if op=5 then([Stil.Dev.isWhole,Stil.Dev.isWhole],[Stil.Dev.isReal,Stil.Dev.isReal]) else
 if op=6 then([Stil.Dev.isWhole,Stil.Dev.isWhole],[Stil.Dev.isReal,Stil.Dev.isReal]) else
 if op=7 then([Stil.Dev.isWhole,Stil.Dev.isWhole],[Stil.Dev.isReal,Stil.Dev.isReal]) else
 if op=8 then([Stil.Dev.isWhole,Stil.Dev.isWhole],[Stil.Dev.isReal,Stil.Dev.isReal]) else
 if op=9 then([Stil.Dev.isWhole,Stil.Dev.isWhole],[Stil.Dev.isReal,Stil.Dev.isReal]) else
 if op=10 then([Stil.Dev.isWhole,Stil.Dev.isWhole],[Stil.Dev.isReal,Stil.Dev.isReal]) else
 if op=21 then([pl [2,3]],[]) else
 if op=22 then([pl [2,3,4]],[]) else
 if op=23 then([pl [2,3,4,7,8]],[]) else
 if op=24 then([pl [2,3],pl [5]],[]) else
 if op=25 then([pl [4]],[]) else
 if op=26 then([pl [7],H6],[]) else
 if op=27 then([pl [7],H6],[]) else
 if op=28 then([pl [7],H6],[]) else
 if op=29 then([pl [8],H6],[]) else
 if op=30 then([pl [9],Stil.Dev.isWhole],[pl [10],Stil.Dev.isReal]) else
 if op=31 then([pl [9],Stil.Dev.isWhole,Stil.Dev.isWhole],[pl [10],Stil.Dev.isReal,Stil.Dev.isReal]) else
 if op=32 then([pl [9],Stil.Dev.isWhole,Stil.Dev.isWhole],[pl [10],Stil.Dev.isReal,Stil.Dev.isReal]) else
 if op=33 then([pl [9],Stil.Dev.isWhole,Stil.Dev.isWhole],[pl [10],Stil.Dev.isReal,Stil.Dev.isReal]) else
 if op=34 then([pl [9],Stil.Dev.isWhole,Stil.Dev.isWhole],[pl [10],Stil.Dev.isReal,Stil.Dev.isReal]) else
 if op=35 then([pl [9],Stil.Dev.isWhole,Stil.Dev.isWhole],[]) else
 if op=36 then([pl [10],Stil.Dev.isWhole],[]) else
 if op=37 then([pl [9],Stil.Dev.isReal],[]) else
 ([],[])
theorem Aze:E5 (rowOf 1).2.2.1 (Ak 1).1/\E5 (rowOf 1).2.2.2 (Ak 1).2:=⟨A14 (by decide) Am4,Aj7⟩
theorem Azd:E5 (rowOf 2).2.2.1 (Ak 2).1/\E5 (rowOf 2).2.2.2 (Ak 2).2:=⟨A14 (by decide) Am4,Aj7⟩
theorem Azc:E5 (rowOf 3).2.2.1 (Ak 3).1/\E5 (rowOf 3).2.2.2 (Ak 3).2:=⟨Abw (by decide) Am4 (by decide) A3o,Aj7⟩
theorem Azb:E5 (rowOf 4).2.2.1 (Ak 4).1/\E5 (rowOf 4).2.2.2 (Ak 4).2:=⟨Abw (by decide) Am4 (by decide) A3o,Aj7⟩
theorem Aza:E5 (rowOf 5).2.2.1 (Ak 5).1/\E5 (rowOf 5).2.2.2 (Ak 5).2:=⟨Abw (by decide) Fe (by decide) Fe,Abw (by decide) Hu (by decide) Hu⟩
theorem Ay9:E5 (rowOf 6).2.2.1 (Ak 6).1/\E5 (rowOf 6).2.2.2 (Ak 6).2:=⟨Abw (by decide) Fe (by decide) Fe,Abw (by decide) Hu (by decide) Hu⟩
theorem Ay8:E5 (rowOf 7).2.2.1 (Ak 7).1/\E5 (rowOf 7).2.2.2 (Ak 7).2:=⟨Abw (by decide) Fe (by decide) Fe,Abw (by decide) Hu (by decide) Hu⟩
theorem Ay7:E5 (rowOf 8).2.2.1 (Ak 8).1/\E5 (rowOf 8).2.2.2 (Ak 8).2:=⟨Abw (by decide) Fe (by decide) Fe,Abw (by decide) Hu (by decide) Hu⟩
theorem Ay6:E5 (rowOf 9).2.2.1 (Ak 9).1/\E5 (rowOf 9).2.2.2 (Ak 9).2:=⟨Abw (by decide) Fe (by decide) Fe,Abw (by decide) Hu (by decide) Hu⟩
theorem As2:E5 (rowOf 10).2.2.1 (Ak 10).1/\E5 (rowOf 10).2.2.2 (Ak 10).2:=⟨Abw (by decide) Fe (by decide) Fe,Abw (by decide) Hu (by decide) Hu⟩
theorem As1:E5 (rowOf 21).2.2.1 (Ak 21).1/\E5 (rowOf 21).2.2.2 (Ak 21).2:=⟨A14 (by decide) A2j,Aj7⟩
theorem As0:E5 (rowOf 22).2.2.1 (Ak 22).1/\E5 (rowOf 22).2.2.2 (Ak 22).2:=⟨A14 (by decide) A2i,Aj7⟩
theorem Asz:E5 (rowOf 23).2.2.1 (Ak 23).1/\E5 (rowOf 23).2.2.2 (Ak 23).2:=⟨A14 (by decide) Axh,Aj7⟩
theorem Asy:E5 (rowOf 24).2.2.1 (Ak 24).1/\E5 (rowOf 24).2.2.2 (Ak 24).2:=⟨Abw (by decide) A2j (by decide) A3o,Aj7⟩
theorem Asx:E5 (rowOf 25).2.2.1 (Ak 25).1/\E5 (rowOf 25).2.2.2 (Ak 25).2:=⟨A14 (by decide) A36,Aj7⟩
theorem Asw:E5 (rowOf 26).2.2.1 (Ak 26).1/\E5 (rowOf 26).2.2.2 (Ak 26).2:=⟨Abw (by decide) A3n (by decide) Yx,Aj7⟩
theorem Asv:E5 (rowOf 27).2.2.1 (Ak 27).1/\E5 (rowOf 27).2.2.2 (Ak 27).2:=⟨Abw (by decide) A3n (by decide) Yx,Aj7⟩
theorem Asu:E5 (rowOf 28).2.2.1 (Ak 28).1/\E5 (rowOf 28).2.2.2 (Ak 28).2:=⟨Abw (by decide) A3n (by decide) Yx,Aj7⟩
theorem Ass:E5 (rowOf 29).2.2.1 (Ak 29).1/\E5 (rowOf 29).2.2.2 (Ak 29).2:=⟨Abw (by decide) A37 (by decide) Yx,Aj7⟩
theorem Asr:E5 (rowOf 30).2.2.1 (Ak 30).1/\E5 (rowOf 30).2.2.2 (Ak 30).2:=⟨Abw (by decide) A0l (by decide) Fe,Abw (by decide) A15 (by decide) Hu⟩
theorem Asq:E5 (rowOf 31).2.2.1 (Ak 31).1/\E5 (rowOf 31).2.2.2 (Ak 31).2:=⟨Awq (by decide) A0l (by decide) Fe (by decide) Fe,Awq (by decide) A15 (by decide) Hu (by decide) Hu⟩
theorem Asp:E5 (rowOf 32).2.2.1 (Ak 32).1/\E5 (rowOf 32).2.2.2 (Ak 32).2:=⟨Awq (by decide) A0l (by decide) Fe (by decide) Fe,Awq (by decide) A15 (by decide) Hu (by decide) Hu⟩
theorem Aso:E5 (rowOf 33).2.2.1 (Ak 33).1/\E5 (rowOf 33).2.2.2 (Ak 33).2:=⟨Awq (by decide) A0l (by decide) Fe (by decide) Fe,Awq (by decide) A15 (by decide) Hu (by decide) Hu⟩
theorem Asn:E5 (rowOf 34).2.2.1 (Ak 34).1/\E5 (rowOf 34).2.2.2 (Ak 34).2:=⟨Awq (by decide) A0l (by decide) Fe (by decide) Fe,Awq (by decide) A15 (by decide) Hu (by decide) Hu⟩
theorem Asm:E5 (rowOf 35).2.2.1 (Ak 35).1/\E5 (rowOf 35).2.2.2 (Ak 35).2:=⟨Awq (by decide) A0l (by decide) Fe (by decide) Fe,Aj7⟩
theorem Asl:E5 (rowOf 36).2.2.1 (Ak 36).1/\E5 (rowOf 36).2.2.2 (Ak 36).2:=⟨Abw (by decide) A15 (by decide) Fe,Aj7⟩
theorem Asj:E5 (rowOf 37).2.2.1 (Ak 37).1/\E5 (rowOf 37).2.2.2 (Ak 37).2:=⟨Abw (by decide) A0l (by decide) Hu,Aj7⟩
theorem Ajf (ds:List Stil.Dev):(Ac (Ak 1).1 ds || Ac (Ak 1).2 ds)=Ad 1 ds:=by
 rw[show Ak 1=([Stil.Dev.isBit],[]) from rfl]
 match ds with
 | []=>simp[Ac,Ad]
 | [a]=>(simp[Ac,Ai,Ad,Stil.Dev.isBit];try grind)
 | [a,b]=>(simp[Ac,Ai,Ad,Stil.Dev.isBit];try grind)
 | [a,b,c]=>(simp[Ac,Ai,Ad,Stil.Dev.isBit];try grind)
 | a::b::c::d::r=>simp[Ac,Ai,Ad];try omega
theorem Aje (ds:List Stil.Dev):(Ac (Ak 2).1 ds || Ac (Ak 2).2 ds)=Ad 2 ds:=by
 rw[show Ak 2=([Stil.Dev.isBit],[]) from rfl]
 match ds with
 | []=>simp[Ac,Ad]
 | [a]=>(simp[Ac,Ai,Ad,Stil.Dev.isBit];try grind)
 | [a,b]=>(simp[Ac,Ai,Ad,Stil.Dev.isBit];try grind)
 | [a,b,c]=>(simp[Ac,Ai,Ad,Stil.Dev.isBit];try grind)
 | a::b::c::d::r=>simp[Ac,Ai,Ad];try omega
theorem Ajd (ds:List Stil.Dev):(Ac (Ak 3).1 ds || Ac (Ak 3).2 ds)=Ad 3 ds:=by
 rw[show Ak 3=([Stil.Dev.isBit,pl [5]],[]) from rfl]
 match ds with
 | []=>simp[Ac,Ad]
 | [a]=>(simp[Ac,Ai,Ad,Stil.Dev.isBit];try grind)
 | [a,b]=>(simp[Ac,Ai,Ad,pl,Stil.Dev.ok,Stil.Dev.isBit];try grind)
 | [a,b,c]=>(simp[Ac,Ai,Ad,pl,Stil.Dev.ok,Stil.Dev.isBit];try grind)
 | a::b::c::d::r=>simp[Ac,Ai,Ad];try omega
theorem Ajc (ds:List Stil.Dev):(Ac (Ak 4).1 ds || Ac (Ak 4).2 ds)=Ad 4 ds:=by
 rw[show Ak 4=([Stil.Dev.isBit,pl [5]],[]) from rfl]
 match ds with
 | []=>simp[Ac,Ad]
 | [a]=>(simp[Ac,Ai,Ad,Stil.Dev.isBit];try grind)
 | [a,b]=>(simp[Ac,Ai,Ad,pl,Stil.Dev.ok,Stil.Dev.isBit];try grind)
 | [a,b,c]=>(simp[Ac,Ai,Ad,pl,Stil.Dev.ok,Stil.Dev.isBit];try grind)
 | a::b::c::d::r=>simp[Ac,Ai,Ad];try omega
theorem Ajb (ds:List Stil.Dev):(Ac (Ak 5).1 ds || Ac (Ak 5).2 ds)=Ad 5 ds:=by
 rw[show Ak 5=([Stil.Dev.isWhole,Stil.Dev.isWhole],[Stil.Dev.isReal,Stil.Dev.isReal]) from rfl]
 match ds with
 | []=>simp[Ac,Ad]
 | [a]=>(simp[Ac,Ai,Ad,Stil.Dev.isBit,Stil.Dev.isWhole,Stil.Dev.isReal];try grind)
 | [a,b]=>(simp[Ac,Ai,Ad,Stil.Dev.isWhole,Stil.Dev.isReal];try grind)
 | [a,b,c]=>(simp[Ac,Ai,Ad,Stil.Dev.isWhole,Stil.Dev.isReal];try grind)
 | a::b::c::d::r=>simp[Ac,Ai,Ad];try omega
theorem Aja (ds:List Stil.Dev):(Ac (Ak 6).1 ds || Ac (Ak 6).2 ds)=Ad 6 ds:=by
 rw[show Ak 6=([Stil.Dev.isWhole,Stil.Dev.isWhole],[Stil.Dev.isReal,Stil.Dev.isReal]) from rfl]
 match ds with
 | []=>simp[Ac,Ad]
 | [a]=>(simp[Ac,Ai,Ad,Stil.Dev.isBit,Stil.Dev.isWhole,Stil.Dev.isReal];try grind)
 | [a,b]=>(simp[Ac,Ai,Ad,Stil.Dev.isWhole,Stil.Dev.isReal];try grind)
 | [a,b,c]=>(simp[Ac,Ai,Ad,Stil.Dev.isWhole,Stil.Dev.isReal];try grind)
 | a::b::c::d::r=>simp[Ac,Ai,Ad];try omega
theorem Ai9 (ds:List Stil.Dev):(Ac (Ak 7).1 ds || Ac (Ak 7).2 ds)=Ad 7 ds:=by
 rw[show Ak 7=([Stil.Dev.isWhole,Stil.Dev.isWhole],[Stil.Dev.isReal,Stil.Dev.isReal]) from rfl]
 match ds with
 | []=>simp[Ac,Ad]
 | [a]=>(simp[Ac,Ai,Ad,Stil.Dev.isBit,Stil.Dev.isWhole,Stil.Dev.isReal];try grind)
 | [a,b]=>(simp[Ac,Ai,Ad,Stil.Dev.isWhole,Stil.Dev.isReal];try grind)
 | [a,b,c]=>(simp[Ac,Ai,Ad,Stil.Dev.isWhole,Stil.Dev.isReal];try grind)
 | a::b::c::d::r=>simp[Ac,Ai,Ad];try omega
theorem Ai8 (ds:List Stil.Dev):(Ac (Ak 8).1 ds || Ac (Ak 8).2 ds)=Ad 8 ds:=by
 rw[show Ak 8=([Stil.Dev.isWhole,Stil.Dev.isWhole],[Stil.Dev.isReal,Stil.Dev.isReal]) from rfl]
 match ds with
 | []=>simp[Ac,Ad]
 | [a]=>(simp[Ac,Ai,Ad,Stil.Dev.isBit,Stil.Dev.isWhole,Stil.Dev.isReal];try grind)
 | [a,b]=>(simp[Ac,Ai,Ad,Stil.Dev.isWhole,Stil.Dev.isReal];try grind)
 | [a,b,c]=>(simp[Ac,Ai,Ad,Stil.Dev.isWhole,Stil.Dev.isReal];try grind)
 | a::b::c::d::r=>simp[Ac,Ai,Ad];try omega
theorem Ai7 (ds:List Stil.Dev):(Ac (Ak 9).1 ds || Ac (Ak 9).2 ds)=Ad 9 ds:=by
 rw[show Ak 9=([Stil.Dev.isWhole,Stil.Dev.isWhole],[Stil.Dev.isReal,Stil.Dev.isReal]) from rfl]
 match ds with
 | []=>simp[Ac,Ad]
 | [a]=>(simp[Ac,Ai,Ad,Stil.Dev.isBit,Stil.Dev.isWhole,Stil.Dev.isReal];try grind)
 | [a,b]=>(simp[Ac,Ai,Ad,Stil.Dev.isWhole,Stil.Dev.isReal];try grind)
 | [a,b,c]=>(simp[Ac,Ai,Ad,Stil.Dev.isWhole,Stil.Dev.isReal];try grind)
 | a::b::c::d::r=>simp[Ac,Ai,Ad];try omega
theorem Agp (ds:List Stil.Dev):(Ac (Ak 10).1 ds || Ac (Ak 10).2 ds)=Ad 10 ds:=by
 rw[show Ak 10=([Stil.Dev.isWhole,Stil.Dev.isWhole],[Stil.Dev.isReal,Stil.Dev.isReal]) from rfl]
 match ds with
 | []=>simp[Ac,Ad]
 | [a]=>(simp[Ac,Ai,Ad,Stil.Dev.isBit,Stil.Dev.isWhole,Stil.Dev.isReal];try grind)
 | [a,b]=>(simp[Ac,Ai,Ad,Stil.Dev.isWhole,Stil.Dev.isReal];try grind)
 | [a,b,c]=>(simp[Ac,Ai,Ad,Stil.Dev.isWhole,Stil.Dev.isReal];try grind)
 | a::b::c::d::r=>simp[Ac,Ai,Ad];try omega
theorem Aqz (ds:List Stil.Dev):(Ac (Ak 21).1 ds || Ac (Ak 21).2 ds)=Am 21 ds:=by
 rw[show Ak 21=([pl [2,3]],[]) from rfl]
 match ds with
 | []=>simp[Ac,Am,Stil.arity]
 | [a]=>(simp[Ac,Ai,Am,Stil.arity,pl,Stil.Dev.kindIs,Hl,Stil.Dev.ok];try grind)
 | [a,b]=>(simp[Ac,Ai,Am,Stil.arity,pl,Stil.Dev.ok];try grind)
 | [a,b,c]=>(simp[Ac,Ai,Am,Stil.arity,pl,Stil.Dev.ok];try grind)
 | a::b::c::d::r=>simp[Ac,Ai,Am,Stil.arity];try omega
theorem Aqy (ds:List Stil.Dev):(Ac (Ak 22).1 ds || Ac (Ak 22).2 ds)=Am 22 ds:=by
 rw[show Ak 22=([pl [2,3,4]],[]) from rfl]
 match ds with
 | []=>simp[Ac,Am,Stil.arity]
 | [a]=>(simp[Ac,Ai,Am,Stil.arity,pl,Stil.Dev.kindIs,Hl,Stil.Dev.ok];try grind)
 | [a,b]=>(simp[Ac,Ai,Am,Stil.arity,pl,Stil.Dev.ok];try grind)
 | [a,b,c]=>(simp[Ac,Ai,Am,Stil.arity,pl,Stil.Dev.ok];try grind)
 | a::b::c::d::r=>simp[Ac,Ai,Am,Stil.arity];try omega
theorem Aqx (ds:List Stil.Dev):(Ac (Ak 23).1 ds || Ac (Ak 23).2 ds)=Am 23 ds:=by
 rw[show Ak 23=([pl [2,3,4,7,8]],[]) from rfl]
 match ds with
 | []=>simp[Ac,Am,Stil.arity]
 | [a]=>(simp[Ac,Ai,Am,Stil.arity,pl,Stil.Dev.kindIs,Hl,Stil.Dev.ok];try grind)
 | [a,b]=>(simp[Ac,Ai,Am,Stil.arity,pl,Stil.Dev.ok];try grind)
 | [a,b,c]=>(simp[Ac,Ai,Am,Stil.arity,pl,Stil.Dev.ok];try grind)
 | a::b::c::d::r=>simp[Ac,Ai,Am,Stil.arity];try omega
theorem Aqw (ds:List Stil.Dev):(Ac (Ak 24).1 ds || Ac (Ak 24).2 ds)=Am 24 ds:=by
 rw[show Ak 24=([pl [2,3],pl [5]],[]) from rfl]
 match ds with
 | []=>simp[Ac,Am,Stil.arity]
 | [a]=>(simp[Ac,Ai,Am,Stil.arity,pl,Stil.Dev.ok];try grind)
 | [a,b]=>(simp[Ac,Ai,Am,Stil.arity,pl,Stil.Dev.kindIs,Hl,Stil.Dev.ok];try grind)
 | [a,b,c]=>(simp[Ac,Ai,Am,Stil.arity,pl,Stil.Dev.ok];try grind)
 | a::b::c::d::r=>simp[Ac,Ai,Am,Stil.arity];try omega
theorem Aqv (ds:List Stil.Dev):(Ac (Ak 25).1 ds || Ac (Ak 25).2 ds)=Am 25 ds:=by
 rw[show Ak 25=([pl [4]],[]) from rfl]
 match ds with
 | []=>simp[Ac,Am,Stil.arity]
 | [a]=>(simp[Ac,Ai,Am,Stil.arity,pl,Stil.Dev.kindIs,Hl,Stil.Dev.ok];try grind)
 | [a,b]=>(simp[Ac,Ai,Am,Stil.arity,pl,Stil.Dev.ok];try grind)
 | [a,b,c]=>(simp[Ac,Ai,Am,Stil.arity,pl,Stil.Dev.ok];try grind)
 | a::b::c::d::r=>simp[Ac,Ai,Am,Stil.arity];try omega
theorem Aqu (ds:List Stil.Dev):(Ac (Ak 26).1 ds || Ac (Ak 26).2 ds)=Am 26 ds:=by
 rw[show Ak 26=([pl [7],H6],[]) from rfl]
 match ds with
 | []=>simp[Ac,Am,Stil.arity]
 | [a]=>(simp[Ac,Ai,Am,Stil.arity,pl,Stil.Dev.ok];try grind)
 | [a,b]=>(simp[Ac,Ai,Am,Stil.arity,pl,H6,Stil.Dev.kindIs,Hl,Stil.Dev.ok];try grind)
 | [a,b,c]=>(simp[Ac,Ai,Am,Stil.arity,pl,H6,Stil.Dev.ok];try grind)
 | a::b::c::d::r=>simp[Ac,Ai,Am,Stil.arity];try omega
theorem Aqt (ds:List Stil.Dev):(Ac (Ak 27).1 ds || Ac (Ak 27).2 ds)=Am 27 ds:=by
 rw[show Ak 27=([pl [7],H6],[]) from rfl]
 match ds with
 | []=>simp[Ac,Am,Stil.arity]
 | [a]=>(simp[Ac,Ai,Am,Stil.arity,pl,Stil.Dev.ok];try grind)
 | [a,b]=>(simp[Ac,Ai,Am,Stil.arity,pl,H6,Stil.Dev.kindIs,Hl,Stil.Dev.ok];try grind)
 | [a,b,c]=>(simp[Ac,Ai,Am,Stil.arity,pl,H6,Stil.Dev.ok];try grind)
 | a::b::c::d::r=>simp[Ac,Ai,Am,Stil.arity];try omega
theorem Aqs (ds:List Stil.Dev):(Ac (Ak 28).1 ds || Ac (Ak 28).2 ds)=Am 28 ds:=by
 rw[show Ak 28=([pl [7],H6],[]) from rfl]
 match ds with
 | []=>simp[Ac,Am,Stil.arity]
 | [a]=>(simp[Ac,Ai,Am,Stil.arity,pl,Stil.Dev.ok];try grind)
 | [a,b]=>(simp[Ac,Ai,Am,Stil.arity,pl,H6,Stil.Dev.kindIs,Hl,Stil.Dev.ok];try grind)
 | [a,b,c]=>(simp[Ac,Ai,Am,Stil.arity,pl,H6,Stil.Dev.ok];try grind)
 | a::b::c::d::r=>simp[Ac,Ai,Am,Stil.arity];try omega
theorem Aqr (ds:List Stil.Dev):(Ac (Ak 29).1 ds || Ac (Ak 29).2 ds)=Am 29 ds:=by
 rw[show Ak 29=([pl [8],H6],[]) from rfl]
 match ds with
 | []=>simp[Ac,Am,Stil.arity]
 | [a]=>(simp[Ac,Ai,Am,Stil.arity,pl,Stil.Dev.ok];try grind)
 | [a,b]=>(simp[Ac,Ai,Am,Stil.arity,pl,H6,Stil.Dev.kindIs,Hl,Stil.Dev.ok];try grind)
 | [a,b,c]=>(simp[Ac,Ai,Am,Stil.arity,pl,H6,Stil.Dev.ok];try grind)
 | a::b::c::d::r=>simp[Ac,Ai,Am,Stil.arity];try omega
theorem Aqq (ds:List Stil.Dev):(Ac (Ak 30).1 ds || Ac (Ak 30).2 ds)=Am 30 ds:=by
 rw[show Ak 30=([pl [9],Stil.Dev.isWhole],[pl [10],Stil.Dev.isReal]) from rfl]
 match ds with
 | []=>simp[Ac,Am,Stil.arity]
 | [a]=>(simp[Ac,Ai,Am,Stil.arity,pl,Stil.Dev.ok];try grind)
 | [a,b]=>(simp[Ac,Ai,Am,Stil.arity,U7,H7,pl,Stil.Dev.kindIs,Hl,Stil.Dev.ok,Stil.Dev.isWhole,Stil.Dev.isReal];try grind)
 | [a,b,c]=>(simp[Ac,Ai,Am,Stil.arity,pl,Stil.Dev.ok,Stil.Dev.isWhole,Stil.Dev.isReal];try grind)
 | a::b::c::d::r=>simp[Ac,Ai,Am,Stil.arity];try omega
theorem Aqp (ds:List Stil.Dev):(Ac (Ak 31).1 ds || Ac (Ak 31).2 ds)=Am 31 ds:=by
 rw[show Ak 31=([pl [9],Stil.Dev.isWhole,Stil.Dev.isWhole],[pl [10],Stil.Dev.isReal,Stil.Dev.isReal]) from rfl]
 match ds with
 | []=>simp[Ac,Am,Stil.arity]
 | [a]=>(simp[Ac,Ai,Am,Stil.arity,pl,Stil.Dev.ok];try grind)
 | [a,b]=>(simp[Ac,Ai,Am,Stil.arity,pl,Stil.Dev.ok,Stil.Dev.isWhole,Stil.Dev.isReal];try grind)
 | [a,b,c]=>(simp[Ac,Ai,Am,Stil.arity,U7,H7,pl,Stil.Dev.kindIs,Hl,Stil.Dev.ok,Stil.Dev.isWhole,Stil.Dev.isReal];try grind)
 | a::b::c::d::r=>simp[Ac,Ai,Am,Stil.arity];try omega
theorem Aqo (ds:List Stil.Dev):(Ac (Ak 32).1 ds || Ac (Ak 32).2 ds)=Am 32 ds:=by
 rw[show Ak 32=([pl [9],Stil.Dev.isWhole,Stil.Dev.isWhole],[pl [10],Stil.Dev.isReal,Stil.Dev.isReal]) from rfl]
 match ds with
 | []=>simp[Ac,Am,Stil.arity]
 | [a]=>(simp[Ac,Ai,Am,Stil.arity,pl,Stil.Dev.ok];try grind)
 | [a,b]=>(simp[Ac,Ai,Am,Stil.arity,pl,Stil.Dev.ok,Stil.Dev.isWhole,Stil.Dev.isReal];try grind)
 | [a,b,c]=>(simp[Ac,Ai,Am,Stil.arity,U7,H7,pl,Stil.Dev.kindIs,Hl,Stil.Dev.ok,Stil.Dev.isWhole,Stil.Dev.isReal];try grind)
 | a::b::c::d::r=>simp[Ac,Ai,Am,Stil.arity];try omega
theorem Aqn (ds:List Stil.Dev):(Ac (Ak 33).1 ds || Ac (Ak 33).2 ds)=Am 33 ds:=by
 rw[show Ak 33=([pl [9],Stil.Dev.isWhole,Stil.Dev.isWhole],[pl [10],Stil.Dev.isReal,Stil.Dev.isReal]) from rfl]
 match ds with
 | []=>simp[Ac,Am,Stil.arity]
 | [a]=>(simp[Ac,Ai,Am,Stil.arity,pl,Stil.Dev.ok];try grind)
 | [a,b]=>(simp[Ac,Ai,Am,Stil.arity,pl,Stil.Dev.ok,Stil.Dev.isWhole,Stil.Dev.isReal];try grind)
 | [a,b,c]=>(simp[Ac,Ai,Am,Stil.arity,U7,H7,pl,Stil.Dev.kindIs,Hl,Stil.Dev.ok,Stil.Dev.isWhole,Stil.Dev.isReal];try grind)
 | a::b::c::d::r=>simp[Ac,Ai,Am,Stil.arity];try omega
theorem Aqm (ds:List Stil.Dev):(Ac (Ak 34).1 ds || Ac (Ak 34).2 ds)=Am 34 ds:=by
 rw[show Ak 34=([pl [9],Stil.Dev.isWhole,Stil.Dev.isWhole],[pl [10],Stil.Dev.isReal,Stil.Dev.isReal]) from rfl]
 match ds with
 | []=>simp[Ac,Am,Stil.arity]
 | [a]=>(simp[Ac,Ai,Am,Stil.arity,pl,Stil.Dev.ok];try grind)
 | [a,b]=>(simp[Ac,Ai,Am,Stil.arity,pl,Stil.Dev.ok,Stil.Dev.isWhole,Stil.Dev.isReal];try grind)
 | [a,b,c]=>(simp[Ac,Ai,Am,Stil.arity,U7,H7,pl,Stil.Dev.kindIs,Hl,Stil.Dev.ok,Stil.Dev.isWhole,Stil.Dev.isReal];try grind)
 | a::b::c::d::r=>simp[Ac,Ai,Am,Stil.arity];try omega
theorem Aql (ds:List Stil.Dev):(Ac (Ak 35).1 ds || Ac (Ak 35).2 ds)=Am 35 ds:=by
 rw[show Ak 35=([pl [9],Stil.Dev.isWhole,Stil.Dev.isWhole],[]) from rfl]
 match ds with
 | []=>simp[Ac,Am,Stil.arity]
 | [a]=>(simp[Ac,Ai,Am,Stil.arity,pl,Stil.Dev.ok];try grind)
 | [a,b]=>(simp[Ac,Ai,Am,Stil.arity,pl,Stil.Dev.ok,Stil.Dev.isWhole];try grind)
 | [a,b,c]=>(simp[Ac,Ai,Am,Stil.arity,U7,H7,pl,Stil.Dev.kindIs,Hl,Stil.Dev.ok,Stil.Dev.isWhole,Stil.Dev.isReal];try grind)
 | a::b::c::d::r=>simp[Ac,Ai,Am,Stil.arity];try omega
theorem Aqk (ds:List Stil.Dev):(Ac (Ak 36).1 ds || Ac (Ak 36).2 ds)=Am 36 ds:=by
 rw[show Ak 36=([pl [10],Stil.Dev.isWhole],[]) from rfl]
 match ds with
 | []=>simp[Ac,Am,Stil.arity]
 | [a]=>(simp[Ac,Ai,Am,Stil.arity,pl,Stil.Dev.ok];try grind)
 | [a,b]=>(simp[Ac,Ai,Am,Stil.arity,pl,Stil.Dev.kindIs,Hl,Stil.Dev.ok,Stil.Dev.isWhole];try grind)
 | [a,b,c]=>(simp[Ac,Ai,Am,Stil.arity,pl,Stil.Dev.ok,Stil.Dev.isWhole];try grind)
 | a::b::c::d::r=>simp[Ac,Ai,Am,Stil.arity];try omega
theorem Aqj (ds:List Stil.Dev):(Ac (Ak 37).1 ds || Ac (Ak 37).2 ds)=Am 37 ds:=by
 rw[show Ak 37=([pl [9],Stil.Dev.isReal],[]) from rfl]
 match ds with
 | []=>simp[Ac,Am,Stil.arity]
 | [a]=>(simp[Ac,Ai,Am,Stil.arity,pl,Stil.Dev.ok];try grind)
 | [a,b]=>(simp[Ac,Ai,Am,Stil.arity,pl,Stil.Dev.kindIs,Hl,Stil.Dev.ok,Stil.Dev.isReal];try grind)
 | [a,b,c]=>(simp[Ac,Ai,Am,Stil.arity,pl,Stil.Dev.ok,Stil.Dev.isReal];try grind)
 | a::b::c::d::r=>simp[Ac,Ai,Am,Stil.arity];try omega
theorem Ai4 (op:Int) (h1:1<=op) (h2:op<=10):E5 (rowOf op).2.2.1 (Ak op).1/\E5 (rowOf op).2.2.2 (Ak op).2/\∀ds,(Ac (Ak op).1 ds || Ac (Ak op).2 ds)=Ad op ds:=by
 have h:op=1\/op=2\/op=3\/op=4\/op=5\/op=6\/op=7\/op=8\/op=9\/op=10:=by omega
 rcases h with rfl | rfl | rfl | rfl | rfl | rfl | rfl | rfl | rfl | rfl
 ·exact⟨Aze.1,Aze.2,Ajf⟩
 ·exact⟨Azd.1,Azd.2,Aje⟩
 ·exact⟨Azc.1,Azc.2,Ajd⟩
 ·exact⟨Azb.1,Azb.2,Ajc⟩
 ·exact⟨Aza.1,Aza.2,Ajb⟩
 ·exact⟨Ay9.1,Ay9.2,Aja⟩
 ·exact⟨Ay8.1,Ay8.2,Ai9⟩
 ·exact⟨Ay7.1,Ay7.2,Ai8⟩
 ·exact⟨Ay6.1,Ay6.2,Ai7⟩
 ·exact⟨As2.1,As2.2,Agp⟩
theorem Avr (op:Int) (h1:21<=op) (h2:op<=37):E5 (rowOf op).2.2.1 (Ak op).1/\E5 (rowOf op).2.2.2 (Ak op).2/\∀ds,(Ac (Ak op).1 ds || Ac (Ak op).2 ds)=Am op ds:=by
 have h:op=21\/op=22\/op=23\/op=24\/op=25\/op=26\/op=27\/op=28\/op=29\/op=30\/op=31\/op=32\/op=33\/op=34\/op=35\/op=36\/op=37:=by omega
 rcases h with rfl | rfl | rfl | rfl | rfl | rfl | rfl | rfl | rfl | rfl | rfl | rfl | rfl | rfl | rfl | rfl | rfl
 ·exact⟨As1.1,As1.2,Aqz⟩
 ·exact⟨As0.1,As0.2,Aqy⟩
 ·exact⟨Asz.1,Asz.2,Aqx⟩
 ·exact⟨Asy.1,Asy.2,Aqw⟩
 ·exact⟨Asx.1,Asx.2,Aqv⟩
 ·exact⟨Asw.1,Asw.2,Aqu⟩
 ·exact⟨Asv.1,Asv.2,Aqt⟩
 ·exact⟨Asu.1,Asu.2,Aqs⟩
 ·exact⟨Ass.1,Ass.2,Aqr⟩
 ·exact⟨Asr.1,Asr.2,Aqq⟩
 ·exact⟨Asq.1,Asq.2,Aqp⟩
 ·exact⟨Asp.1,Asp.2,Aqo⟩
 ·exact⟨Aso.1,Aso.2,Aqn⟩
 ·exact⟨Asn.1,Asn.2,Aqm⟩
 ·exact⟨Asm.1,Asm.2,Aql⟩
 ·exact⟨Asl.1,Asl.2,Aqk⟩
 ·exact⟨Asj.1,Asj.2,Aqj⟩
theorem Y8 (op:Int) (w:World):
  Calls Tryz.prog 148 #[.int .i64 op] w λe w'=>e=.returned (.bool (decide (1<=op/\op<=10)))/\w'=w:=by
 by_cases h1:1<=op
 ·by_cases h2:op<=10
  ·have h2':decide (op<=10)=true:=by simpa using h2
   go_enter Tryz.func148,Tryz.ntmps148
   go_wp2
   all_goals go_ret
   all_goals exact⟨Ap (by first | (simp;done) | (simp;omega)),rfl⟩
  ·have h2':decide (op<=10)=false:=by simpa using h2
   go_enter Tryz.func148,Tryz.ntmps148
   go_wp2
   all_goals go_ret
   all_goals exact⟨Ap (by first | (simp;done) | (simp;omega)),rfl⟩
 ·have h1':decide (1<=op)=false:=by simpa using h1
  go_enter Tryz.func148,Tryz.ntmps148
  go_wp2
  all_goals go_ret
  all_goals exact⟨Ap (by first | (simp;done) | (simp;omega)),rfl⟩
theorem Ape {op:Int} {ds:List Stil.Dev} (h:¬(1<=op/\op<=10)):Ad op ds=false:=by unfold Ad;rw[if_pos (by omega)]
theorem Alp (op:Int) (v:Value) (ds:List Stil.Dev) (w:World) (hr:Eu w) (hat:Bg w v ds) (hfit:∀d∈ds,d.fits) (hl:ds.length<=9223372036854775807):
  Calls Tryz.prog 143 #[.agg #[.int .i64 op,v]] w λe w'=>e=.returned (.bool (Ad op ds))/\Below w.heap.size w w':=by
 by_cases h:1<=op/\op<=10
 ·obtain⟨q0,q1,q2⟩:=Ai4 op h.1 h.2
  have HF:Hid (∀W,Below w.heap.size w W->Calls Tryz.prog 145 #[.agg #[.int .i64 op,v]] W λe w'=>e=.returned (.bool (Ad op ds))/\Below W.heap.size W w'):=by
   intro W hW;rw[<-q2];exact Azn op _ _ v ds W (hr.below hW) q0 q1 (hat.below hW) hfit hl
  obtain⟨a,cap,rfl,_⟩:=hat;have hd:decide (1<=op/\op<=10)=true:=by simpa using h
  clear q0 q1 q2 hr h;go_enter Tryz.func143,Tryz.ntmps143
  go_wp2_with (first | (go_at_call 148;refine(Y8 _ _).mono ?_;rw[hd];rintro e w1 ⟨rfl,rfl⟩) | (go_at_call 145;refine(HF.out _ (Aa _ _)).mono ?_;rintro e w2 ⟨rfl,hb⟩))
  go_ret;exact⟨rfl,Ik hb⟩
 ·have HN:Hid (Ad op ds=false):=Ape h
  obtain⟨a,cap,rfl,_⟩:=hat;have hd:decide (1<=op/\op<=10)=false:=by simpa using h
  clear hr h;go_enter Tryz.func143,Tryz.ntmps143
  go_wp2_with (go_at_call 148;refine(Y8 _ _).mono ?_;rw[hd];rintro e w1 ⟨rfl,rfl⟩)
  go_ret;exact⟨Ap HN.out.symm,Aa _ _⟩
theorem Afb (op:Int) (w:World):
  Calls Tryz.prog 144 #[.int .i64 op] w λe w'=>e=.returned (.bool (decide (21<=op/\op<=37)))/\w'=w:=by
 by_cases h1:21<=op
 ·by_cases h2:op<=37
  ·have h2':decide (op<=37)=true:=by simpa using h2
   go_enter Tryz.func144,Tryz.ntmps144
   go_wp2
   all_goals go_ret
   all_goals exact⟨Ap (by first | (simp;done) | (simp;omega)),rfl⟩
  ·have h2':decide (op<=37)=false:=by simpa using h2
   go_enter Tryz.func144,Tryz.ntmps144
   go_wp2
   all_goals go_ret
   all_goals exact⟨Ap (by first | (simp;done) | (simp;omega)),rfl⟩
 ·have h1':decide (21<=op)=false:=by simpa using h1
  go_enter Tryz.func144,Tryz.ntmps144
  go_wp2
  all_goals go_ret
  all_goals exact⟨Ap (by first | (simp;done) | (simp;omega)),rfl⟩
theorem A0o {op:Int} {ds:List Stil.Dev} (h:¬(21<=op/\op<=37)):Am op ds=false:=by unfold Am;rw[if_pos (by omega)]
theorem Anl (op:Int) (v:Value) (ds:List Stil.Dev) (w:World) (hr:Eu w) (hat:Bg w v ds) (hfit:∀d∈ds,d.fits) (hl:ds.length<=9223372036854775807):
  Calls Tryz.prog 137 #[.agg #[.int .i64 op,v]] w λe w'=>e=.returned (.bool (Am op ds))/\Below w.heap.size w w':=by
 by_cases h:21<=op/\op<=37
 ·obtain⟨q0,q1,q2⟩:=Avr op h.1 h.2
  have HF:Hid (∀W,Below w.heap.size w W->Calls Tryz.prog 145 #[.agg #[.int .i64 op,v]] W λe w'=>e=.returned (.bool (Am op ds))/\Below W.heap.size W w'):=by
   intro W hW;rw[<-q2];exact Azn op _ _ v ds W (hr.below hW) q0 q1 (hat.below hW) hfit hl
  obtain⟨a,cap,rfl,_⟩:=hat;have hd:decide (21<=op/\op<=37)=true:=by simpa using h
  clear q0 q1 q2 hr h;go_enter Tryz.func137,Tryz.ntmps137
  go_wp2_with (first | (go_at_call 144;refine(Afb _ _).mono ?_;rw[hd];rintro e w1 ⟨rfl,rfl⟩) | (go_at_call 145;refine(HF.out _ (Aa _ _)).mono ?_;rintro e w2 ⟨rfl,hb⟩))
  go_ret;exact⟨rfl,Ik hb⟩
 ·have HN:Hid (Am op ds=false):=A0o h
  obtain⟨a,cap,rfl,_⟩:=hat;have hd:decide (21<=op/\op<=37)=false:=by simpa using h
  clear hr h;go_enter Tryz.func137,Tryz.ntmps137
  go_wp2_with (go_at_call 144;refine(Afb _ _).mono ?_;rw[hd];rintro e w1 ⟨rfl,rfl⟩)
  go_ret;exact⟨Ap HN.out.symm,Aa _ _⟩
end Go.Proofs.YtbfljjcnbbmoaaaGreatDoor
