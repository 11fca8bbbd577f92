import Derived.Test.YtbfljjcnbbmoaaaGreatDoorGY
import Derived.Test.YtbfljjcnbbmoaaaGreatDoorGv
import Derived.Test.YtbfljjcnbbmoaaaGreatDoorGp
import Derived.Test.YtbfljjcnbbmoaaaGreatDoorGb
import Derived.Test.YtbfljjcnbbmoaaaGreatDoorGq
import Derived.Shelf.Abstract
set_option maxHeartbeats 4000000
set_option maxRecDepth 100000
namespace Go.Proofs.YtbfljjcnbbmoaaaGreatDoor
open Stil
open Go.RowKit Go.Sort Go.BigFrame
theorem Ap5 (l:List Stil.Arm) (kv:Value) (w:World) (hr:Eu w) (hg:F6 w) (hkv:Dv w kv l) (hl:l.length<=1048576) (hsz:Bh l<=1000000000) (hft:∀x∈l,C9 x):
  Calls Tryz.prog 32 #[kv] w λe w'=>e=.returned (.bool (decide ((Ce l).1=0)))/\Below w.heap.size w w':=by
 have HC:=hid (λW h=>Alj l kv W (hr.below h) (hg.below h) (hkv.below h) hl hsz hft);have H0:Hid ((Ce l).1=0->(Ce l).2=0):=λh=>(J4 h).1
 obtain⟨p0,r0,rfl,hz⟩:=hkv;obtain⟨c,hc⟩:∃c,c=(Ce l).1:=⟨_,rfl⟩
 obtain⟨r,hrr⟩:∃r,r=(Ce l).2:=⟨_,rfl⟩
 rw[<-hc,<-hrr] at HC H0;rw[<-hc];clear hz hc hrr hr hg hft;go_enter Tryz.func32,Tryz.ntmps32
 go_wp2_with (go_at_call 55;refine(HC.out _ blA).mono ?_;rintro e w1 ⟨rfl,hb1⟩)
 all_goals go_ret
 all_goals refine⟨Ap ?_,blA⟩
 all_goals (have h0:=H0.out;by_cases hc0:c=0<;>simp_all)
def Awe (w:World) (base:Nat) (l:List Stil.Arm) (e:Ending):Prop:=∃(a:Option Addr) (c:Nat) (ms:List Au),e=.returned (.slice a ms.length c)/\ms.map Au.arm=l/\Na w base (.slice a ms.length c) ms
theorem Ap7 (l:List Stil.Arm) (kv:Value) (w:World) (hr:Eu w) (hg:F6 w) (hkv:Dv w kv l) (hl:l.length<=1048576) (hsz:Bh l<=1000000000) (hft:∀x∈l,C9 x):
  Calls Tryz.prog 22 #[kv] w λe w'=>Awe w' w.heap.size (Bq l) e/\Below w.heap.size w w':=by
 have HC:=hid (λW h=>Ap5 l kv W (hr.below h) (hg.below h) (hkv.below h) hl hsz hft);have HE:Hid ((Ce l).1=0->∀W,Below w.heap.size w W->Calls Tryz.prog 44 #[kv, .func (.func 45) #[] #[]] W λe w'=>∃(a:Option Addr) (c:Nat) (ms:List Au),e=.returned (.slice a ms.length c)/\ms.map Au.arm=l.map Dc/\Na w' W.heap.size (.slice a ms.length c) ms/\Below W.heap.size W w'):=by
  intro h0 W h;exact Acx l (λx hx=>Au5 x (hft x hx) (by have:=(I7 h0 hx).2;omega)) kv W (hkv.below h) (by have:=(J4 h0).2.1;omega)
 obtain⟨p0,r0,rfl,hz⟩:=hkv;by_cases h0:(Ce l).1=0
 ·have HN:Hid (Bq l=l.map Dc):=if_pos h0
  rw[HN.out];have HE2:=HE.out h0;have HE3:=hid HE2;rw[decide_eq_true h0] at HC;clear hz hr hg hft HN HE HE2 h0;go_enter Tryz.func22,Tryz.ntmps22
  go_wp2_with (first | (go_at_call 32;refine(HC.out _ blA).mono ?_;rintro e w1 ⟨rfl,hb1⟩) | (go_at_call 44;refine(HE3.out _ blA).mono ?_;rintro e w2 ⟨ra,rc,ms,rfl,hmn,hmr,hb2⟩;have HMN:=hid hmn;have HMR:=hid hmr;clear hmn hmr))
  go_ret;exact⟨⟨ra,rc,ms,rfl,HMN.out,HMR.out.le hb1.size⟩,blA⟩
 ·have HN:Hid (Bq l=[]):=if_neg h0
  rw[HN.out];rw[decide_eq_false h0] at HC;clear hz hr hg hft HN HE h0;go_enter Tryz.func22,Tryz.ntmps22
  go_wp2_with (go_at_call 32;refine(HC.out _ blA).mono ?_;rintro e w1 ⟨rfl,hb1⟩)
  go_ret;exact⟨⟨none,0,[],rfl,rfl,Na.nil _ _⟩,blA⟩
end Go.Proofs.YtbfljjcnbbmoaaaGreatDoor
namespace Stil
theorem Tv {l:List Arm} (h:∀x∈l,C9 x):(∀x∈Bq l,C9 x)/\Bh (Bq l)<=400/\(Bq l).length<=40:=by
 unfold Bq;by_cases h0:(Ce l).1=0
 ·rw[if_pos h0]
  have hx:=λx hx=>V9 x (h x hx) (by have:=(I7 h0 hx).2;omega)
  refine⟨λx hx2=>?_,?_,?_⟩
  ·obtain⟨y,hy,rfl⟩:=List.mem_map.1 hx2
   exact(hx y hy).1
  ·refine A4p ?_ (J4 h0).2.2.1
   clear h h0;unfold Bh;induction l with
   | nil=>simp
   | cons x r ih=>
    have a:=(hx x (by simp)).2;have b:=ih (λy hy=>hx y (A4h _ hy));simp only[A4v,List.sum_cons] at b ⊢;omega
  ·rw[A4t];exact(J4 h0).2.1
 ·rw[if_neg h0]
  exact⟨(λx hx=>by cases hx),by simp[Bh],by simp⟩
end Stil
namespace Go.Proofs.YtbfljjcnbbmoaaaGreatDoor
open Stil
open Go.RowKit Go.Sort Go.BigFrame
theorem Avj:∀(b o:Nat) (qs:List (List Pl)) (c:Nat),(∀q∈qs,q.length+1<=c)->(Wn b o qs).length<=qs.length*c
 | _,_,[],_,_=>by simp[Wn]
 | b,o,q::r,c,h=>by
  have a1:=h q (by simp);have a2:=Avj b (o+2) r c (λy hy=>h y (A4h _ hy));simp only[Wn,A4e,A4d,Nat.add_mul] at a2 ⊢;omega
theorem Abz:∀(s b o:Nat) (qs:List (List Pl)),(Gi s b o qs).length=(qs.map (λq=>q.length+2)).sum
 | _,_,_,[]=>by simp[Gi]
 | s,b,o,q::r=>by
  have:=Abz s b (o+s) r
  simp only[Gi,A4e,A4d,A4v,List.sum_cons] at this ⊢;omega
theorem Ald:∀(ars:List Au),(∀x∈ars,x.inner.length+2<=A7 x.arm*6291460)->((ars.map Au.inner).map (λq=>q.length+2)).sum<=((ars.map Au.arm).map A7).sum*6291460
 | [],_=>by simp
 | x::r,h=>by
  have a1:=h x (by simp);have a2:=Ald r (λy hy=>h y (A4h _ hy));simp only[A4v,List.sum_cons,Nat.add_mul] at a2 ⊢;omega
theorem Au.count (m:Au):C9 m.arm->m.inner.length+2<=A7 m.arm*6291460:=by
 refine Jz (λm=>C9 m.arm->m.inner.length+2<=A7 m.arm*6291460) ?_ m;intro n cv cs kv kids ih hf;have e:=Au.arm_eq ⟨n,cv,cs,kv,kids⟩;simp only at e;rw[e] at hf ⊢;obtain⟨hn,_,hcf,_,hk⟩:=(Ee _ _ _).1 hf;rw[Au.inner_eq,Dp];have h1:=Ah.count n hn;have h2:=Stil.size_le n.net;rw[Ah.inner_eq,A4d] at h1;have h3:(ePs cv cs).length<=cs.length*3145730:=by
  have:=Avj (vb cv) 0 (cs.map Cm.dps) 3145730 (λq hq=>by
   obtain⟨x,hx,rfl⟩:=List.mem_map.1 hq;have h4:x.ds.length<=1048576:=(hcf x.elem (List.mem_map.2 ⟨x,hx,rfl⟩)).2.1;rw[Cm.dps,Qh]
   omega)
  rw[A4t] at this;exact this
 have h5:(Au.mk n cv cs kv kids).kps.length<=Hr (kids.map Au.arm)*6291460:=by
  show(Gi 6 (vb kv) 0 (kids.map Au.inner)).length<=_
  rw[Abz];exact Ald kids (λx hx=>ih x hx (hk _ (List.mem_map.2 ⟨x,hx,rfl⟩)))
 simp only[A4d,A4t,Nat.add_mul] at h1 h3 h5 ⊢;have h6:Aj n.net*3145730<=(1+Stil.nsz n.net)*3145730:=Nat.mul_le_mul_right _ h2;rw[Nat.add_mul] at h6;omega
def Ab7 (v:Value) (ars:List Au):Au:=⟨Oe, .slice none 0 0,[],v,ars⟩
theorem Aet {w:World} {base:Nat} {v:Value} {ars:List Au} (h:Na w base v ars):Hy w base (Ab7 v ars):=by
 have hv:(Ab7 v ars).vals=Oe.vals++(([.slice none 0 0])++(v::Fp ars)):=Au.vals_eq _;refine⟨(G8 _ _ _).2 ⟨Aic _ _,⟨World.ownsRow_nil _ _ _ _,λx hx=>by cases hx⟩,h.1,h.2.1⟩,?_⟩;rw[hv];refine List.pairwise_append.2 ⟨?_,List.pairwise_append.2 ⟨List.pairwise_singleton _ _,h.2.2,λx hx y _=>?_⟩,λx hx y _=>.inl (Ak6 hx)⟩
 ·rw[X4]
  exact List.pairwise_cons.2 ⟨λy _=>Lu y,List.pairwise_singleton _ _⟩
 ·rw[List.mem_singleton.1 hx];exact Lu y
theorem Aos (v:Value) (ars:List Au):∀p∈(Ab7 v ars).kps,p∈(Ab7 v ars).inner:=λp hp=>by
 rw[Au.inner_eq];exact A4l _ (A4l _ (A4l _ hp))
def Nb (base:Nat) (w:World) (L:List Stil.Arm) (a:Option Addr) (c:Nat) (m:Au):Prop:=
 m.kv=.slice a L.length c/\ASh (Qd m.tags) w m/\Gf w m.kps/\m.kps.Nodup/\(∀p∈m.kps,base<=p.1)/\(∀p∈m.kps,¬Qd m.tags p)/\
 (∀p,Qd m.tags p->base<=p.1)/\Pe base w (.slice a L.length c) L/\((∀x∈L,C9 x)->m.kps.length<=Bh L*6291460)
theorem Av9 {w:World} {base:Nat} {L:List Stil.Arm} {a:Option Addr} {c:Nat} {ms:List Au} (hm:ms.map Au.arm=L) (h:Na w base (.slice a ms.length c) ms):Nb base w L a c (Ab7 (.slice a ms.length c) ms):=by
 have hl:ms.length=L.length:=by rw[<-hm,A4t]
 have ho:=Aet h;obtain⟨p1,p2,p3,p4,p5,p6⟩:=Au.places _ ho;obtain⟨_,_,_,f4⟩:=AOk.from _ ho.1;have hin:=Aos (.slice a ms.length c) ms;have hk:(Ab7 (.slice a ms.length c) ms).arm.kids=L:=by rw[Au.arm_eq];exact hm
 rw[hk] at f4;rw[Au.inner_eq] at p3;refine⟨by rw[<-hl];rfl,p1,λp hp=>p2 p (hin p hp),(List.nodup_append.1 (List.nodup_append.1 (List.nodup_append.1 p3).2.1).2.1).2.1,λp hp=>p4 p (hin p hp),λp hp=>p5 p (hin p hp),p6,by rw[<-hl];exact f4,λhf=>?_⟩;show(Gi 6 (vb (.slice a ms.length c)) 0 (ms.map Au.inner)).length<=_
 rw[Abz,<-hm];rw[<-hm] at hf;exact Ald ms (λx hx=>Au.count x (hf _ (List.mem_map.2 ⟨x,hx,rfl⟩)))
theorem Nb.below {base:Nat} {w w':World} {L:List Stil.Arm} {a:Option Addr} {c:Nat} {m:Au} (h:Nb base w L a c m) (hb:Below w.heap.size w w'):Nb base w' L a c m:=by
 obtain⟨h0,h1,h2,h3,h4,h5,h6,h7,h8⟩:=h;exact⟨h0,h1.below hb,h2.below hb,h3,h4,h5,h6,h7.keep (Jd.of_below hb),h8⟩
theorem Nb.lt {base:Nat} {w:World} {L:List Stil.Arm} {a:Option Addr} {c:Nat} {m:Au} (h:Nb base w L a c m):∀p∈m.kps,p.1<w.heap.size:=λp hp=>(h.2.2.1 p hp).1
theorem Nb.mark {base:Nat} {w:World} {L:List Stil.Arm} {a:Option Addr} {c:Nat} {m:Au} (h:Nb base w L a c m) (hf:∀x∈L,C9 x) (hs:Bh L<=2097152):
  Calls Tryz.prog 11 #[.slice a L.length c, .int .i64 1] w λe w'=>e=.returned (.int .i64 (1+m.kps.length))/\Dh w w' m.kps 1:=by
 obtain⟨h0,h1,h2,h3,h4,h5,_,_,h9⟩:=h;have h10:=h9 hf;have h11:=Nat.mul_le_mul_right 6291460 hs;rw[<-h0];exact Ao5 (Qd m.tags) m 1 w h1 h2 h3 h5 (by omega) (by omega)
def A2m:Au:=⟨Oe, .slice none 0 0,[], .slice none 0 0,[]⟩
theorem Afe (c r:Value) (w:World):Sem.run Tryz.prog (Instr.field 69 (.agg #[c,r]) 0) w=.ok c w:=by kernel_rfl
theorem Aop (l:List Stil.Arm) (kv:Value) (w:World) (hkv:Dv w kv l) (hl:l.length<=1048576) (hsz:Bh l<=1000000000) (hft:∀x∈l,C9 x):
  Calls Tryz.prog 17 #[kv] w λe w'=>Awe w' w.heap.size (Bq l) e/\Below w.heap.size w w':=by
 have HC:=hid (λW h=>Akm l kv W (hkv.below h) hl hsz hft);have HAK:=hid (λW (h:Below w.heap.size w W)=>hkv.below h);have hcb:=Al1 l;obtain⟨p0,r0,rfl,hz⟩:=hkv;by_cases h0:(Ce l).1=0
 ·have HN:Hid (Bq l=l.map Dc):=if_pos h0
  have HI:=hid (λx hx=>A0c x (hft x hx) (by have:=(I7 h0 hx).2;omega) (I7 h0 hx).1);have hl40:=(J4 h0).2.1;rw[HN.out];rw[h0] at HC;obtain⟨rr,hrr⟩:∃r,r=(Ce l).2:=⟨_,rfl⟩
  rw[<-hrr] at HC;clear hz hft HN h0 hcb hrr hsz;have hfc:=Afe;go_enter Tryz.func17,Tryz.ntmps17
  go_wp2_with (go_at_call 29;refine(HC.out _ blA).mono ?_;rintro e w1 ⟨rfl,hb1⟩)
  go_loopw [3,4] (λd i wr=>∃(j:Nat) (ms:List Au) (ra:Option Addr) (rc:Nat),j<=l.length/\i=.int .i64 j/\d=.slice ra ms.length rc/\ms.map Au.arm=(l.take j).map Dc/\Na wr w.heap.size (.slice ra ms.length rc) ms/\Below w.heap.size w wr) (λ_ i _=>l.length - (intOf i).toNat)
  case atStart=>
   refine⟨0,[],some ⟨w1.heap.size,0,none⟩,0,by omega,rfl,rfl,rfl,⟨?_,(λm hm=>by cases hm),List.pairwise_singleton _ _⟩,blA⟩;have:=World.ownsRow_lit (base:=w.heap.size) (e:=55) (size:=6) w1 #[] 0 hb1.size (by unfold maxLen;omega) rfl
   simpa[Fj] using this
  case round=>
   clear hb1;obtain⟨j,ms,ra,rc,hj,rfl,rfl,hmn,hmr,hb⟩:=hrel;have HMN:=hid hmn;have HMR:=hid hmr;clear hmn hmr;by_cases hlt:j<l.length
   ·have hml:ms.length=j:=by
     have h1:=congrArg List.length HMN.out;simp only[A4t,List.length_take] at h1;omega
    have hat:=HAK.out wr hb;obtain⟨pa,pc,hpe,hpc⟩:=hat;simp only[Value.slice.injEq,true_and] at hpe;obtain⟨rfl,rfl⟩:=hpe;obtain⟨b,o,rfl,hbl,hn⟩:=hpc j hlt;obtain⟨hnn,cv',kk',x4,x5,hcv,hkv⟩:=hn.open;obtain⟨x0,x1,av',nv',x2,x3,hav,hnv⟩:=hnn.open;have HI2:=hid (λW h=>HI.out l[j] (A4k hlt) av' nv' cv' kk' W (hav.below h) (hnv.below h) (hcv.below h) (hkv.below h));have HTS:Hid ((l.take (j+1)).map Dc=(l.take j).map Dc++[Dc l[j]]):=by show _=_;rw[A4w hlt,A4r];rfl
    obtain⟨x,hx⟩:∃x,x=l[j]:=⟨_,rfl⟩
    rw[<-hx] at HI2 HTS x0 x1 hav hnv hcv hkv;obtain⟨q0,s0,rfl,_⟩:=hav;obtain⟨q1,s1',rfl,_⟩:=hnv;obtain⟨q2,s2',rfl,_⟩:=hcv;obtain⟨q3,s3',rfl,_⟩:=hkv;have HVL:=hid (λk hk=>(HMR.out.1.lt k hk).1);have hl2:ms.length+[A2m].length<=1000000:=by simp only[A5d];omega
    have hj1:(0:Int)<=(j:Int):=by omega
    have hj2:(j:Int)<(l.length:Int):=by omega
    clear hx hn hnn hpc hml
    go_wp2_with (first | (go_at_call 37;refine(HI2.out _ blA).mono ?_;rintro e w5 ⟨⟨mk,mop,mds,xa,ya,mns,xb,yb,mcs,xc,yc,mks,xd,yd,rfl,hmo,hmn⟩,hb5⟩;have HMO:=hid hmo;have HMN5:=hid hmn;clear hmo hmn) | (at_builtin;refine Ut rfl _ _ rfl w.heap.size w.heap.size ra rc ms [(Au.mk ⟨mk,mop,mds, .slice xa mds.length ya, .slice xb mns.length yb,mns⟩ (.slice xc mcs.length yc) mcs (.slice xd mks.length yd) mks)] _ 1 rfl rfl ((HMR.out.below hb5).below (Aa _ _)) (λ_=>⟨_,rfl,by exact Avu⟩) (λm hm=>by rw[List.mem_singleton.1 hm];exact((HMO.out.1.le hb.size).below (Aa _ _))) (HMR.out.apart (w1:=w5) (b1:=wr.heap.size) (λm hm=>by rw[List.mem_singleton.1 hm];exact HMO.out.1) (A4i _) (by rw[L8];exact HMO.out.2)) hl2 (by have:=hb5.size;have:=hb.size;simp only[World.size_alloc];omega) (by have:=hb5.size;have:=hb.size;simp only[World.size_alloc];omega) HVL.out ?_;intro a6 c6 w6 hmr6 hb6 hv6;have HM6:Hid (Na w6 w.heap.size (.slice a6 (ms.length+1) c6) (ms++[(Au.mk ⟨mk,mop,mds, .slice xa mds.length ya, .slice xb mns.length yb,mns⟩ (.slice xc mcs.length yc) mcs (.slice xd mks.length yd) mks)])):=hmr6;have HB6:=hid ((Bl (Cj hb hb5) _).trans hb6);clear hmr6 hb6 hv6))
    refine⟨⟨j+1,ms++[(Au.mk ⟨mk,mop,mds, .slice xa mds.length ya, .slice xb mns.length yb,mns⟩ (.slice xc mcs.length yc) mcs (.slice xd mks.length yd) mks)],a6,c6,by omega,by go_num,by simp,?_,by rw[A4d];exact HM6.out,HB6.out⟩,by simp[intOf];omega⟩;rw[HTS.out,A4r,HMN.out,List.map_singleton,HMN5.out]
   ·obtain rfl:j=l.length:=by omega
    have hmn:=HMN.out;rw[List.take_length] at hmn;have HMN2:=hid hmn;clear hmn
    go_wp2
    go_ret;exact⟨⟨ra,rc,ms,rfl,HMN2.out,HMR.out⟩,hb⟩
 ·have HN:Hid (Bq l=[]):=if_neg h0
  rw[HN.out];obtain⟨c,hc⟩:∃c,c=(Ce l).1:=⟨_,rfl⟩
  obtain⟨rr,hrr⟩:∃r,r=(Ce l).2:=⟨_,rfl⟩
  rw[<-hc,<-hrr] at HC;rw[<-hc] at hcb h0;have hcp:(0:Int)<c:=by omega
  clear hz hft HN h0 HAK hc hrr hcb;have hfc:=Afe;go_enter Tryz.func17,Tryz.ntmps17
  go_wp2_with (go_at_call 29;refine(HC.out _ blA).mono ?_;rintro e w1 ⟨rfl,hb1⟩)
  go_ret;exact⟨⟨none,0,[],rfl,rfl,Na.nil _ _⟩,blA⟩
end Go.Proofs.YtbfljjcnbbmoaaaGreatDoor
namespace Stil
def Ae2 (b:Nat) (l:List Nat):Nat:=l.foldl max b
def A29 (n i x:Nat):Nat:=if i+1<n then x+1 else x
def bump (fs:List Nat):List Nat:=fs.mapIdx (λi x=>A29 fs.length i x)
def forks:Arm->Nat
 | ⟨_,_,kids⟩=>Ae2 0 (bump (kids.map forks))
def Azg (k:Int) (b:Nat):Nat:=if k=1 then 1 else 1+b
def A1x (k:Int) (ks:List Int) (bs:List Nat):Nat:=if k=1 then 1 else Ae2 (bs.headD 0) ((List.zipWith Azg ks bs).drop 1)
def Adk:Net->Nat
 | ⟨k,_,kids⟩=>A1x k (kids.map Net.kind) (kids.map Adk)
def Awr (n:Net):Nat:=Azg n.kind (Adk n)
def Fv (n:Net):List Net:=if Aq n then [] else if n.kind=2 then n.kids else [n]
def A0w (n:Net) (t:Nat):Nat:=Ae2 t ((Fv n).map Awr)
def Amv:Arm->Nat
 | ⟨_,_,kids⟩=>Ae2 1 (List.zipWith A0w (kids.map Arm.net) (kids.map Amv))
theorem Aj0 (n:Net):∀x∈Fv n,Aj x<=nsz n:=by
 intro x hx;unfold Fv at hx;split at hx
 ·cases hx
 ·rename_i h
  have e:nsz n=Aj n:=if_neg h;rw[e];split at hx
  ·rw[Dz n]
   have:Aj x<=sizes n.kids:=Ew Aj _ x hx;omega
  ·rw[List.mem_singleton.1 hx];exact A4i _
def Awy (a:Arm):Nat:=max (Adk a.net) (Amv a)
def As3 (l:List Arm):Nat:=Ae2 0 ((Bq l).map Awy)
def Amt (l:List Arm):Nat:=Ae2 0 ((Bq l).map forks)
def Aaa:Net->Prop
 | ⟨k,_,kids⟩=>(k≠1->kids≠[])/\∀p∈kids.map Aaa,p
theorem Afd (k:Int) (e:Elem) (kids:List Net):Aaa ⟨k,e,kids⟩↔(k≠1->kids≠[])/\∀x∈kids,Aaa x:=by rw[Aaa,all_map]
theorem full_of (n:Net):Ar n=0->Aaa n:=by
 refine Fg (λn=>Ar n=0->Aaa n) ?_ n;intro k e kids ih h;rw[Afd];rcases H8 h with⟨rfl,rfl⟩ | ⟨_,h0,hks⟩ | ⟨_,_,x,rfl,hx⟩
 ·exact⟨λh=>absurd rfl h,(λx hx=>by cases hx)⟩
 ·exact⟨(λ_ hn=>by rw[hn] at h0;simp at h0),λx hx=>ih x hx (hks x hx)⟩
 ·exact⟨(λ_ hn=>by cases hn),λy hy=>by rw[List.mem_singleton.1 hy];exact ih x (by simp) hx⟩
theorem Qa {n:Net} (h:Ar n=0):∀x∈n.kids,Ar x=0:=by
 obtain⟨k,e,kids⟩:=n;rcases H8 h with⟨_,rfl⟩ | ⟨_,_,hks⟩ | ⟨_,_,x,rfl,hx⟩
 ·intro x hx;cases hx
 ·exact hks
 ·intro y hy;rw[List.mem_singleton.1 hy];exact hx
theorem Aki {a b:Net} (h:Aq a=false) (hb:Jn b) (ha:fine a):Aq (Ji a b)=false:=by
 have hs:=Tq (.inr ha) hb;unfold Ji at hs ⊢;rw[if_neg (by rw[h];exact Bool.false_ne_true)] at hs ⊢;split
 ·exact h
 ·rename_i h2
  rw[if_neg h2] at hs;refine Ac5 (Afp (by simp) (λx hx=>?_));rcases List.mem_cons.1 hx with rfl | hx
  ·exact ha
  ·rw[List.mem_singleton.1 hx]
   exact hb.resolve_left h2
theorem Acv:∀(f:Nat) (b:Arm),Gg b->Aq b.net=false->Aq (Hw f b).net=false
 | 0,_,_,h=>h
 | f+1,⟨n,cs,kids⟩,hf,h=>by
  rw[Hw];split
  ·rename_i kid e
   simp only at e h;subst e;split
   ·have hj:=Y6 hf
    refine Acv f _ hj.1 ?_;exact Aki h hj.2.2 (hj.2.1.resolve_left (by rw[h];exact Bool.false_ne_true))
   ·exact h
  ·exact h
theorem Acj {a:Arm} (hr:Jh a) (h:Aq a.net=false):Aq (Dc a).net=false:=by
 obtain⟨n,c,kids⟩:=a;have hp:=(Nr _ _ _).1 hr;rw[Kz];simp only at h;refine Acv _ _ ((Gt _ _ _).2 ⟨Pm hp.1,λx hx=>?_⟩) ?_
 ·obtain⟨y,hy,rfl⟩:=List.mem_map.1 hx
  exact Qx y (hp.2 y hy)
 ·show Aq (Qq n)=false
  unfold Qq;rw[if_neg (by rw[h];exact Bool.false_ne_true)];exact Ac5 (Aci (hp.1.resolve_left (by rw[h];exact Bool.false_ne_true)))
theorem Aea (l:List Arm):∀x∈Bq l,Gg x/\Aq x.net=false:=by
 intro x hx;unfold Bq at hx;by_cases h0:(Ce l).1=0
 ·rw[if_pos h0] at hx
  obtain⟨y,hy,rfl⟩:=List.mem_map.1 hx;have hr:=(I7 h0 hy).1;exact⟨Qx y hr,Acj hr ((J4 h0).2.2.2 y hy).1⟩
 ·rw[if_neg h0] at hx;cases hx
end Stil
namespace Stil
end Stil
namespace Stil
def Nu:Arm->Prop
 | ⟨n,c,kids⟩=>Jn n/\(∀p∈kids.map Nu,p)/\∀kid,kids=[kid]->¬(c=[]\/Aq kid.net=true)
theorem Pv (n:Net) (c:List Elem) (kids:List Arm):Nu ⟨n,c,kids⟩↔Jn n/\(∀x∈kids,Nu x)/\∀kid,kids=[kid]->¬(c=[]\/Aq kid.net=true):=by rw[Nu,all_map]
theorem Apj {n:Net} (h:Jn n):Qq n=n:=by
 unfold Qq;split
 ·rfl
 ·rename_i h1
  exact Zb (h.resolve_left h1)
theorem Aj3 (a:Arm):Nu a->Dc a=a:=by
 refine Fz (λa=>Nu a->Dc a=a) ?_ a;intro n c kids ih h;obtain⟨h1,h2,h3⟩:=(Pv _ _ _).1 h;have hm:kids.map Dc=kids:=by
  have:kids.map Dc=kids.map id:=List.map_congr_left λx hx=>ih x hx (h2 x hx)
  rw[this,List.map_id]
 rw[Kz,Apj h1,hm];exact Qb _ h3
theorem Apt {l:List Arm} (h:Hr l<=0):l=[]:=by
 have:=Rz l
 exact List.eq_nil_of_length_eq_zero (by omega)
theorem Aas:∀(f:Nat) (b:Arm),Hr b.kids<=f->Jn b.net->(∀x∈b.kids,Nu x)->Nu (Hw f b)
 | 0,⟨n,cs,kids⟩,hs,hn,_=>by
  simp only at hs hn;obtain rfl:=Apt hs;rw[Hw];exact(Pv _ _ _).2 ⟨hn,λx hx=>(by cases hx),λkid e=>(by cases e)⟩
 | f+1,⟨n,cs,kids⟩,hs,hn,hk=>by
  simp only at hs hn hk;rw[Hw];split
  ·rename_i kid e
   simp only at e;subst e;split
   ·obtain⟨kn,kc,kk⟩:=kid
    have h1:=(Pv _ _ _).1 (hk ⟨kn,kc,kk⟩ (by simp));have h2:=Jr ⟨kn,kc,kk⟩;rw[Acs] at hs;simp only at h2;exact Aas f _ (by simp only;omega) (Tq hn h1.1) h1.2.1
   ·rename_i hne
    exact(Pv _ _ _).2 ⟨hn,hk,λk e=>by
     simp only[List.cons.injEq,and_true] at e;subst e;exact hne⟩
  ·rename_i hne
   exact(Pv _ _ _).2 ⟨hn,hk,λk e=>absurd e (hne k)⟩
theorem Aao (a:Arm):Jh a->Nu (Dc a):=by
 refine Fz (λa=>Jh a->Nu (Dc a)) ?_ a;intro n c kids ih h;have hp:=(Nr _ _ _).1 h;rw[Kz];unfold joined;refine Aas _ _ (A4i _) (Pm hp.1) λx hx=>?_
 obtain⟨y,hy,rfl⟩:=List.mem_map.1 hx;exact ih y hy (hp.2 y hy)
theorem Af7 {a:Arm} (h:Jh a):Dc (Dc a)=Dc a:=Aj3 _ (Aao a h)
theorem Aaw {n:Net} (h:Jn n):Aq n=true\/Ar n=0:=h.imp id λh=>h.2.2
theorem Ql {a:Arm}:Ci a=0↔(Aq a.net=true\/Ar a.net=0)/\Dt a.coils=false/\¬(a.coils.length=0/\a.kids.length=0):=by
 have hb:=I8 a.net;unfold Ci;constructor
 ·intro h
  have h1:¬(Aq a.net=false/\0<Ar a.net):=λhc=>by rw[if_pos hc] at h;omega
  rw[if_neg h1] at h;cases hc:Dt a.coils with
  | true=>rw[hc,if_pos rfl] at h;omega
  | false=>
   rw[hc,if_neg Bool.false_ne_true] at h;refine⟨?_,rfl,λh2=>by rw[if_pos h2] at h;omega⟩;cases hn:Aq a.net with
   | true=>exact .inl rfl
   | false=>
    have h4:¬0<Ar a.net:=λx=>h1 ⟨hn,x⟩
    exact .inr (by omega)
 ·rintro⟨h1,h2,h3⟩
  have h4:¬(Aq a.net=false/\0<Ar a.net):=by
   rintro⟨h5,h6⟩;rcases h1 with h | h
   ·rw[h] at h5;exact Bool.noConfusion h5
   ·omega
  rw[if_neg h4,h2,if_neg Bool.false_ne_true,if_neg h3]
theorem L6 {n:Net} {c:List Elem} {kids:List Arm}:Cf ⟨n,c,kids⟩=0↔Ci ⟨n,c,kids⟩=0/\∀x∈kids,Cf x=0:=by
 have hb:=Ns ⟨n,c,kids⟩;rw[Um];constructor
 ·intro h
  have h0:Ci ⟨n,c,kids⟩=0:=by split at h<;>omega
  rw[if_neg (by omega)] at h;exact⟨h0,λx hx=>Ue _ (λy hy=>by obtain⟨z,_,rfl⟩:=List.mem_map.1 hy;exact(N8 z).1) h _ (List.mem_map.2 ⟨x,hx,rfl⟩)⟩
 ·rintro⟨h0,h1⟩
  rw[if_neg (by omega)];simp only;clear h0 hb;induction kids with
  | nil=>rfl
  | cons x r ih=>
   rw[A4v,A8,h1 x (by simp),if_neg (by omega)];exact ih (λy hy=>h1 y (by simp[hy]))
theorem Ade (a b:List Elem):Dt (a++b)=(Dt a || Dt b):=by simp[Dt]
theorem Aar:∀(f:Nat) (b:Arm),Gg b->Cf b=0->Cf (Hw f b)=0
 | 0,_,_,h=>h
 | f+1,⟨n,cs,kids⟩,hf,h=>by
  rw[Hw];split
  ·rename_i kid e
   simp only at e;subst e;split
   ·have hj:=Y6 hf
    refine Aar f _ hj.1 ?_;obtain⟨kn,kc,kk⟩:=kid;have h1:=L6.1 h;have h2:=L6.1 (h1.2 ⟨kn,kc,kk⟩ (by simp));obtain⟨_,a2,_⟩:=Ql.1 h1.1;obtain⟨_,b2,b3⟩:=Ql.1 h2.1;simp only at a2 b2 b3;refine L6.2 ⟨Ql.2 ⟨Aaw (Tq hj.2.1 hj.2.2),?_,?_⟩,h2.2⟩
    ·simp only
     rw[Ade,a2,b2];rfl
    ·simp only[A4d]
     omega
   ·exact h
  ·exact h
theorem Aib (a:Arm):Cf a=0->Cf (Dc a)=0:=by
 refine Fz (λa=>Cf a=0->Cf (Dc a)=0) ?_ a;intro n c kids ih h;have hr:=(Nr _ _ _).1 (Adm _ h);obtain⟨h1,h2⟩:=L6.1 h;obtain⟨_,a2,a3⟩:=Ql.1 h1;simp only at a2 a3;rw[Kz];unfold joined;refine Aar _ _ ((Gt _ _ _).2 ⟨Pm hr.1,λx hx=>?_⟩) (L6.2 ⟨Ql.2 ⟨Aaw (Pm hr.1),a2,by simpa using a3⟩,λx hx=>?_⟩)
 ·obtain⟨y,hy,rfl⟩:=List.mem_map.1 hx
  exact Qx y (hr.2 y hy)
 ·obtain⟨y,hy,rfl⟩:=List.mem_map.1 hx
  exact ih y hy (h2 y hy)
theorem Aoq {l:List Arm} (h1:l.length<=40) (h2:Bh l<=400) (h3:∀x∈l,Eg x=0):Ce l=(0,0):=by
 unfold Ce;rw[if_neg (by omega)];clear h1 h2
 suffices ∀k,D9 l k=(0,0) from this 0
 induction l with
 | nil=>intro k;rfl
 | cons x r ih=>
  intro k;rw[D9,h3 x (by simp),if_neg (by omega)];exact ih (λy hy=>h3 y (by simp[hy])) _
theorem Aor {a:Arm} (h1:Aq a.net=false) (h2:Cf a=0):Eg a=0:=by
 unfold Eg;rw[h1,h2];rfl
theorem Af6 {l:List Arm} (hf:∀x∈l,C9 x) (h:(Ce l).1=0):Ce (Bq l)=(0,0)/\Bh (Bq l)<=Bh l/\(Bq l).length=l.length/\Bq (Bq l)=Bq l/\∀x∈Bq l,C9 x:=by
 obtain⟨_,h1,h2,h3⟩:=J4 h;have e:Bq l=l.map Dc:=by unfold Bq;rw[if_pos h]
 have hm:=λx hx=>V9 x (hf x hx) (by have:=(I7 h hx).2;omega)
 have hs:Bh (Bq l)<=Bh l:=by
  rw[e];unfold Bh;rw[List.map_map];exact Amx _ _ _ λx hx=>(hm x hx).2
 have hc:Ce (Bq l)=(0,0):=by
  refine Aoq (by rw[e,A4t];exact h1) (by omega) λx hx=>?_
  rw[e] at hx;obtain⟨y,hy,rfl⟩:=List.mem_map.1 hx;exact Aor (Acj (I7 h hy).1 (h3 y hy).1) (Aib y (h3 y hy).2)
 refine⟨hc,hs,by rw[e,A4t],?_,λx hx=>?_⟩
 ·obtain⟨m,hm2⟩:∃m,m=Bq l:=⟨_,rfl⟩
  have e2:Bq (Bq l)=(Bq l).map Dc:=by
   rw[<-hm2] at hc ⊢;unfold Bq;rw[if_pos (by rw[hc])]
  rw[e2,e,List.map_map];exact List.map_congr_left λx hx=>Af7 (I7 h hx).1
 ·rw[e] at hx
  obtain⟨y,hy,rfl⟩:=List.mem_map.1 hx;exact(hm y hy).1
end Stil
namespace Stil
end Stil
namespace Go.Proofs.YtbfljjcnbbmoaaaGreatDoor
open Stil
open Go.RowKit Go.Sort Go.BigFrame
theorem Awd.nil:Awd ⟨0,[]⟩:=⟨by simp,λ_ h=>(by cases h),by simp⟩
theorem Amo.block {k:Int} (hk:-1000000<=k/\k<=1000000) {l:List Stil.Net} (h:∀x∈l,Amo x):Amo (Ei k l):=by
 unfold Ei;split
 ·exact h _ (A4k _)
 ·exact(Ay2 _ _ _).2 ⟨hk,Awd.nil,h⟩
end Go.Proofs.YtbfljjcnbbmoaaaGreatDoor
namespace Go.Proofs.YtbfljjcnbbmoaaaGreatDoor
open Go.RowKit Go.Sort Go.BigFrame
def Xe (w:World) (v:Value) (ds:List Stil.Dev):Prop:=U6 (λ_=>True) w v ds
def Yh (w:World) (v:Value) (ns:List Stil.Net):Prop:=Zo (λ_=>True) w v ns
def U5 (w:World) (v:Value) (es:List Stil.Elem):Prop:=Qo (λ_=>True) w v es
def Aaj (w:World) (v:Value) (l:List Stil.Arm):Prop:=Afu (λ_=>True) w v l
def A3f (w:World) (b o:Nat) (n:Stil.Net):Prop:=U8 (λ_=>True) w b o n
def A32 (w:World) (b o:Nat) (n:Stil.Arm):Prop:=Adu (λ_=>True) w b o n
theorem Xe.below {w w':World} {v:Value} {ds:List Stil.Dev} (h:Xe w v ds) (hb:Below w.heap.size w w'):Xe w' v ds:=U6.keep h (Je.of_below hb)
theorem Yh.below {w w':World} {v:Value} {ds:List Stil.Net} (h:Yh w v ds) (hb:Below w.heap.size w w'):Yh w' v ds:=Zo.keep h (Je.of_below hb)
theorem U5.below {w w':World} {v:Value} {ds:List Stil.Elem} (h:U5 w v ds) (hb:Below w.heap.size w w'):U5 w' v ds:=Qo.keep h (Je.of_below hb)
theorem Aaj.below {w w':World} {v:Value} {ds:List Stil.Arm} (h:Aaj w v ds) (hb:Below w.heap.size w w'):Aaj w' v ds:=Afu.keep h (Je.of_below hb)
theorem Xe.at {w:World} {v:Value} {ds:List Stil.Dev} (h:Xe w v ds):Bg w v ds:=U6.at h
theorem Yh.at {w:World} {v:Value} {ds:List Stil.Net} (h:Yh w v ds):Dq w v ds:=Zo.at h
theorem U5.at {w:World} {v:Value} {ds:List Stil.Elem} (h:U5 w v ds):Ef w v ds:=Qo.at h
theorem Xe.shape {w:World} {v:Value} {ds:List Stil.Dev} (h:Xe w v ds):∃a cap,v=.slice a ds.length cap/\ds.length<=cap:=by
 obtain⟨a,cap,h1,h2,_⟩:=h;exact⟨a,cap,h1,h2.1⟩
theorem U5.shape {w:World} {v:Value} {ds:List Stil.Elem} (h:U5 w v ds):∃a cap,v=.slice a ds.length cap/\ds.length<=cap:=by
 obtain⟨a,cap,h1,h2,_⟩:=h;exact⟨a,cap,h1,h2.1⟩
theorem Yh.shape {w:World} {v:Value} {ns:List Stil.Net} (h:Yh w v ns):∃a cap,v=.slice a ns.length cap/\Aai a ns.length cap/\∀i (h:i<ns.length),∃b o,a=some ⟨b,o,none⟩/\b<w.heap.size/\A3f w b (o+i*4) ns[i]:=by
 obtain⟨a,cap,h1,h2,h3⟩:=h;exact⟨a,cap,h1,h2,λi hi=>by obtain⟨b,o,e,_,hl,hn⟩:=h3 i hi;exact⟨b,o,e,hl,hn⟩⟩
theorem Aaj.shape {w:World} {v:Value} {ns:List Stil.Arm} (h:Aaj w v ns):∃a cap,v=.slice a ns.length cap/\Aai a ns.length cap/\∀i (h:i<ns.length),∃b o,a=some ⟨b,o,none⟩/\b<w.heap.size/\A32 w b (o+i*6) ns[i]:=by
 obtain⟨a,cap,h1,h2,h3⟩:=h;exact⟨a,cap,h1,h2,λi hi=>by obtain⟨b,o,e,_,hl,hn⟩:=h3 i hi;exact⟨b,o,e,hl,hn⟩⟩
theorem A3f.open {w:World} {b o:Nat} {n:Stil.Net} (h:A3f w b o n):w.cell? ⟨b,o,none⟩=some (.int .i64 n.kind)/\w.cell? ⟨b,o+1,none⟩=some (.int .i64 n.one.op)/\
   ∃av kv,w.cell? ⟨b,o+2,none⟩=some av/\w.cell? ⟨b,o+3,none⟩=some kv/\Xe w av n.one.args/\Yh w kv n.kids:=by
 obtain⟨h1,h2,⟨av,h3,h4⟩,⟨kv,h5,h6⟩⟩:=(Adp _ _ _ _ _).1 h;exact⟨h1,h2,av,kv,h3,h5,h4,h6⟩
theorem A32.open {w:World} {b o:Nat} {n:Stil.Arm} (h:A32 w b o n):A3f w b o n.net/\∃cv kv,w.cell? ⟨b,o+4,none⟩=some cv/\w.cell? ⟨b,o+5,none⟩=some kv/\U5 w cv n.coils/\Aaj w kv n.kids:=by
 obtain⟨h1,⟨cv,h3,h4⟩,⟨kv,h5,h6⟩⟩:=(Aj5 _ _ _ _ _).1 h;exact⟨h1,cv,kv,h3,h5,h4,h6⟩
theorem Abh {w:World} {base s n:Nat} {e:TypeId} {a:Option Addr} {c:Nat} {xs:List Value} (h:w.ownsRow base e s (.slice a n c) n xs):Aai a n c:=by
 rcases h.2 with⟨h0,h1⟩ | ⟨g,c',cur,h0,_,_,hnc,_⟩
 ·simp only[Value.slice.injEq] at h0
  obtain⟨rfl,hn,rfl⟩:=h0;exact⟨by omega,λ_=>rfl⟩
 ·simp only[Value.slice.injEq] at h0
  obtain⟨rfl,_,rfl⟩:=h0;exact⟨hnc,λh=>by cases h⟩
theorem Azo {w:World} {base:Nat} {av:Value} {ds:List Stil.Dev} (h:w.ownsRow base 86 3 av ds.length (Bz ds)):Xe w av ds:=by
 obtain⟨a,cap,rfl⟩:=Af h;obtain⟨a',cap',e,hx⟩:=(Ha.of_owns h).at;simp only[Value.slice.injEq,true_and] at e;obtain⟨rfl,rfl⟩:=e;refine⟨a,cap,rfl,Abh h,λi hi=>?_⟩;obtain⟨b,o,h1,h2,h3⟩:=hx i hi;exact⟨b,o,h1,trivial,h2,h3⟩
theorem MOk.T {w:World} {base:Nat} (m:Ah) (h:MOk w base m):Xe w m.av m.net.one.args/\Yh w m.kv m.net.kids:=by
 revert h
 refine Ir (λm=>MOk w base m->Xe w m.av m.net.one.args/\Yh w m.kv m.net.kids) ?_ m;intro k op ds av kv kids ih h;rw[Hq] at h;rw[Ah.net_eq];refine⟨Azo h.1,?_⟩;simp only at h ⊢;have hcap:=h.2.1;obtain⟨a,cap,rfl⟩:=Af h.2.1;refine⟨a,cap,by simp,by rw[A4t];exact Abh hcap,λi hi=>?_⟩;have hi':i<kids.length:=by simpa using hi
 obtain⟨g,cap',hv,hbase,hlt,_,hcell⟩:=Aw h.2.1 (by omega);simp only[Value.slice.injEq,true_and] at hv;obtain⟨rfl,rfl⟩:=hv;refine⟨g,0,rfl,trivial,hlt,?_⟩;obtain⟨a1,a2,a3,a4⟩:=I9 kids i hi';obtain⟨f1,f2⟩:=ih _ (A4k hi') (h.2.2 _ (A4k hi'));rw[List.getElem_map,Adp,A4m];have e:=Ah.net_eq kids[i];have e1:kids[i].net.kind=kids[i].kind:=by rw[e]
 have e2:kids[i].net.one.op=kids[i].op:=by rw[e]
 rw[e1,e2];exact⟨hcell _ _ a1,hcell _ _ a2,⟨_,hcell _ _ a3,f1⟩,⟨_,hcell _ _ a4,f2⟩⟩
theorem A05 {w:World} {base:Nat} {v:Value} {es:List Cm} (h1:w.ownsRow base 49 2 v es.length (Fq es)) (h2:∀m∈es,EOk w base m):U5 w v (es.map Cm.elem):=by
 obtain⟨a,cap,rfl⟩:=Af h1;refine⟨a,cap,by simp,by rw[A4t];exact Abh h1,λi hi=>?_⟩;have hi':i<es.length:=by simpa using hi
 obtain⟨g,cap',hv,hbase,hlt,_,hcell⟩:=Aw h1 (by omega);simp only[Value.slice.injEq,true_and] at hv;obtain⟨rfl,rfl⟩:=hv;refine⟨g,0,rfl,trivial,hlt,?_⟩;obtain⟨a1,a2⟩:=Po es i hi';rw[List.getElem_map,A4m];exact⟨hcell _ _ a1,_,hcell _ _ a2,Azo (h2 _ (A4k hi'))⟩
theorem AOk.T {w:World} {base:Nat} (m:Au) (h:AOk w base m):Xe w m.net.av m.arm.net.one.args/\Yh w m.net.kv m.arm.net.kids/\U5 w m.cv m.arm.coils/\Aaj w m.kv m.arm.kids:=by
 revert h
 refine Jz (λm=>AOk w base m->Xe w m.net.av m.arm.net.one.args/\Yh w m.net.kv m.arm.net.kids/\U5 w m.cv m.arm.coils/\Aaj w m.kv m.arm.kids) ?_ m;intro n cv cs kv kids ih h;rw[G8] at h;rw[Au.arm_eq];simp only at h ⊢;obtain⟨h1,⟨h2,h3⟩,h4,h5⟩:=h;obtain⟨f1,f2⟩:=MOk.T n h1;refine⟨f1,f2,A05 h2 h3,?_⟩;have hcap:=h4;obtain⟨a,cap,rfl⟩:=Af h4;refine⟨a,cap,by simp,by rw[A4t];exact Abh hcap,λi hi=>?_⟩;have hi':i<kids.length:=by simpa using hi
 obtain⟨g,cap',hv,hbase,hlt,_,hcell⟩:=Aw h4 (by omega);simp only[Value.slice.injEq,true_and] at hv;obtain⟨rfl,rfl⟩:=hv;refine⟨g,0,rfl,trivial,hlt,?_⟩;obtain⟨a1,a2,a3,a4,a5,a6⟩:=Ll kids i hi';obtain⟨g1,g2,g3,g4⟩:=ih _ (A4k hi') (h5 _ (A4k hi'));rw[List.getElem_map,Aj5,Adp,A4m];have e:=Au.arm_eq kids[i];have e1:kids[i].arm.net.kind=kids[i].net.kind:=by rw[e];simp only;rw[Ah.net_eq]
 have e2:kids[i].arm.net.one.op=kids[i].net.op:=by rw[e];simp only;rw[Ah.net_eq]
 rw[e1,e2];exact⟨⟨hcell _ _ a1,hcell _ _ a2,⟨_,hcell _ _ a3,g1⟩,⟨_,hcell _ _ a4,g2⟩⟩,⟨_,hcell _ _ a5,g3⟩,⟨_,hcell _ _ a6,g4⟩⟩
theorem Aaj.take {w:World} {a:Option Addr} {c n:Nat} {l:List Stil.Arm} (h:Aaj w (.slice a l.length c) l) (hn:n<=l.length):Aaj w (.slice a n c) (l.take n):=by
 obtain⟨a',c2,e,hc,hx⟩:=h;simp only[Value.slice.injEq,true_and] at e;obtain⟨rfl,rfl⟩:=e;have hl:(l.take n).length=n:=by rw[List.length_take,Nat.min_eq_left hn]
 refine⟨a,c,by rw[hl],⟨by rw[hl];exact A4p hn hc.1,hc.2⟩,λi hi=>?_⟩;rw[hl] at hi;obtain⟨b,o,h1,h2,h3,h4⟩:=hx i (by omega);exact⟨b,o,h1,h2,h3,by rw[List.getElem_take];exact h4⟩
end Go.Proofs.YtbfljjcnbbmoaaaGreatDoor
namespace Go.Proofs.YtbfljjcnbbmoaaaGreatDoor
open Go.RowKit Go.Sort Go.BigFrame
end Go.Proofs.YtbfljjcnbbmoaaaGreatDoor
namespace Go.Proofs.YtbfljjcnbbmoaaaGreatDoor
open Go.RowKit Go.Sort Go.BigFrame
end Go.Proofs.YtbfljjcnbbmoaaaGreatDoor
