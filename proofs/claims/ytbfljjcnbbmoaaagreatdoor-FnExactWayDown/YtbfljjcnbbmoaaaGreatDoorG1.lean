import Derived.Test.YtbfljjcnbbmoaaaGreatDoorGY
import Derived.Test.YtbfljjcnbbmoaaaGreatDoorGv
import Derived.Test.YtbfljjcnbbmoaaaGreatDoorGy
import Derived.Deep.RegionHeld3
set_option maxHeartbeats 4000000
set_option maxRecDepth 100000
namespace Go.Proofs.YtbfljjcnbbmoaaaGreatDoor
open Stil
open Go.RowKit Go.Sort Go.BigFrame
theorem Aat (l:List Stil.Arm)(kv:Value)(w:World)(hr:Es w)(hg:Et w)(hkv:Dj w kv l)(hl:l.length<=1048576)(hsz:Ce l<=1000000000)(hft:∀x∈l,Ci x):
  Calls Tryz.prog 32 #[kv] w λe w'=>e=.returned (.bool (decide ((Bo l).1=0)))/\Below w.heap.size w w':=by
 have HC:=hid (λW h=>Amb l kv W (hr.below h) (hg.below h) (hkv.below h) hl hsz hft);have H0:Hid ((Bo l).1=0->(Bo l).2=0):=λh=>(Kq h).1
 obtain⟨p0,r0,rfl,hz⟩:=hkv;obtain⟨c,hc⟩:∃c,c=(Bo l).1:=⟨_,rfl⟩
 obtain⟨r,hrr⟩:∃r,r=(Bo l).2:=⟨_,rfl⟩
 rw[<-hc,<-hrr] at HC H0;rw[<-hc];clear hz hc hrr hr hg hft;go_enter Tryz.func32,Tryz.ntmps32
 go_wp2_with (go_at_call 55;refine(HC _ blA).mono ?_;rintro e w1 ⟨rfl,hb1⟩)
 all_goals go_ret
 all_goals refine⟨Ar ?_,blA⟩
 all_goals (have h0:=H0.out;by_cases hc0:c=0<;>simp_all)
def Aw2 (w:World)(base:Nat)(l:List Stil.Arm)(e:Ending):Prop:=∃(a:Option Addr) (c:Nat) (ms:List Aw),e=.returned (.slice a ms.length c)/\ms.map Aw.arm=l/\Oi w base (.slice a ms.length c) ms
theorem Aau (l:List Stil.Arm)(kv:Value)(w:World)(hr:Es w)(hg:Et w)(hkv:Dj w kv l)(hl:l.length<=1048576)(hsz:Ce l<=1000000000)(hft:∀x∈l,Ci x):
  Calls Tryz.prog 22 #[kv] w λe w'=>Aw2 w' w.heap.size (Bc l) e/\Below w.heap.size w w':=by
 have HC:=hid (λW h=>Aat l kv W (hr.below h) (hg.below h) (hkv.below h) hl hsz hft);have HE:Hid ((Bo l).1=0->∀W,Below w.heap.size w W->Calls Tryz.prog 44 #[kv, .func (.func 45) #[] #[]] W λe w'=>∃(a:Option Addr) (c:Nat) (ms:List Aw),e=.returned (.slice a ms.length c)/\ms.map Aw.arm=l.map Dh/\Oi w' W.heap.size (.slice a ms.length c) ms/\Below W.heap.size W w'):=by
  intro h0 W h;exact Ads l (λx hx=>Avq x (hft x hx) (by have:=(Jh h0 hx).2;omega)) kv W (hkv.below h) (by have:=(Kq h0).2.1;omega)
 obtain⟨p0,r0,rfl,hz⟩:=hkv;by_cases h0:(Bo l).1=0
 ·have HN:Hid (Bc l=l.map Dh):=if_pos h0
  rw[HN.out];have HE2:=HE h0;have HE3:=hid HE2;rw[decide_eq_true h0] at HC;clear hz hr hg hft HN HE HE2 h0;go_enter Tryz.func22,Tryz.ntmps22
  go_wp2_with (first | (go_at_call 32;refine(HC _ blA).mono ?_;rintro e w1 ⟨rfl,hb1⟩) | (go_at_call 44;refine(HE3 _ blA).mono ?_;rintro e w2 ⟨ra,rc,ms,rfl,hmn,hmr,hb2⟩;have aH:=hid hmn;have aP:=hid hmr;clear hmn hmr))
  go_ret;exact⟨⟨ra,rc,ms,rfl,aH.out,aP.le hb1.size⟩,blA⟩
 ·have HN:Hid (Bc l=[]):=if_neg h0
  rw[HN.out];rw[decide_eq_false h0] at HC;clear hz hr hg hft HN HE h0;go_enter Tryz.func22,Tryz.ntmps22
  go_wp2_with (go_at_call 32;refine(HC _ blA).mono ?_;rintro e w1 ⟨rfl,hb1⟩)
  go_ret;exact⟨⟨none,0,[],rfl,rfl,Oi.nil _ _⟩,blA⟩
end Go.Proofs.YtbfljjcnbbmoaaaGreatDoor
namespace Stil
theorem I9 {l:List Arm}(h:∀x∈l,Ci x):(∀x∈Bc l,Ci x)/\Ce (Bc l)<=400/\(Bc l).length<=40:=by
 unfold Bc;by_cases h0:(Bo l).1=0
 ·rw[if_pos h0]
  have hx:=λx hx=>Xh x (h x hx) (by have:=(Jh h0 hx).2;omega)
  refine⟨λx hx2=>?_,?_,?_⟩
  ·obtain⟨y,hy,rfl⟩:=List.mem_map.1 hx2
   exact(hx y hy).1
  ·refine A4k ?_ (Kq h0).2.2.1
   clear h h0;unfold Ce;induction l with
   | nil=>simp
   | cons x r ih=>
    have a:=(hx x spz).2;have b:=ih (λy hy=>hx y (A4c _ hy));simp only[A4q,List.sum_cons] at b ⊢;omega
  ·rw[A4o];exact(Kq h0).2.1
 ·rw[if_neg h0]
  exact⟨(λx hx=>by cases hx),by simp[Ce],spz⟩
end Stil
namespace Go.Proofs.YtbfljjcnbbmoaaaGreatDoor
open Stil
open Go.RowKit Go.Sort Go.BigFrame
variable {a:Option Addr}{base c:Nat}
theorem Av9:∀(b o:Nat) (qs:List (List Pl)) (c:Nat),(∀q∈qs,q.length+1<=c)->(Xn b o qs).length<=qs.length*c
 | _,_,[],_,_=>by simp[Xn]
 | b,o,q::r,c,h=>by
  have a1:=h q spz;have a2:=Av9 b (o+2) r c (λy hy=>h y (A4c _ hy));simp only[Xn,A39,A38,Nat.add_mul] at a2 ⊢;omega
theorem Acs:∀(s b o:Nat) (qs:List (List Pl)),(Gp s b o qs).length=(qs.map (λq=>q.length+2)).sum
 | _,_,_,[]=>by simp[Gp]
 | s,b,o,q::r=>by
  have:=Acs s b (o+s) r
  simp only[Gp,A39,A38,A4q,List.sum_cons] at this ⊢;omega
theorem Al5:∀(aX:List Aw),(∀x∈aX,x.inner.length+2<=Ak x.arm*6291460)->((aX.map Aw.inner).map (λq=>q.length+2)).sum<=((aX.map Aw.arm).map Ak).sum*6291460
 | [],_=>by simp
 | x::r,h=>by
  have a1:=h x spz;have a2:=Al5 r (λy hy=>h y (A4c _ hy));simp only[A4q,List.sum_cons,Nat.add_mul] at a2 ⊢;omega
theorem Aw.count (m:Aw):Ci m.arm->m.inner.length+2<=Ak m.arm*6291460:=by
 refine J9 (λm=>Ci m.arm->m.inner.length+2<=Ak m.arm*6291460) ?_ m;intro n cv cs kv kids ih hf;have e:=Aw.arm_eq ⟨n,cv,cs,kv,kids⟩;simp only at e;rw[e] at hf ⊢;obtain⟨hn,_,hcf,_,hk⟩:=(Em _ _ _).1 hf;rw[Aw.inner_eq,Cc];have h1:=Ah.count n hn;have h2:=Stil.size_le n.net;rw[Ah.inner_eq,A38] at h1;have h3:(ePs cv cs).length<=cs.length*3145730:=by
  have:=Av9 (vb cv) 0 (cs.map Df.dps) 3145730 (λq hq=>by
   obtain⟨x,hx,rfl⟩:=List.mem_map.1 hq;have h4:x.ds.length<=1048576:=(hcf x.elem (List.mem_map.2 ⟨x,hx,rfl⟩)).2.1;rw[Df.dps,Qv]
   omega)
  rw[A4o] at this;exact this
 have h5:(Aw.mk n cv cs kv kids).kps.length<=Hq (kids.map Aw.arm)*6291460:=by
  show(Gp 6 (vb kv) 0 (kids.map Aw.inner)).length<=_
  rw[Acs];exact Al5 kids (λx hx=>ih x hx (hk _ (List.mem_map.2 ⟨x,hx,rfl⟩)))
 simp only[A38,A4o,Nat.add_mul] at h1 h3 h5 ⊢;have h6:Aj n.net*3145730<=(1+Stil.nsz n.net)*3145730:=Nat.mul_le_mul_right _ h2;rw[Nat.add_mul] at h6;omega
def Ac3 (v:Value)(aX:List Aw):Aw:=⟨Oz, .slice none 0 0,[],v,aX⟩
theorem P7 {w:World}{v:Value}{aX:List Aw}(h:Oi w base v aX):Ic w base (Ac3 v aX):=by
 have hv:(Ac3 v aX).vals=Oz.vals++(([.slice none 0 0])++(v::Gj aX)):=Aw.vals_eq _;refine⟨(Hf _ _ _).2 ⟨Ai6 _ _,⟨World.ownsRow_nil _ _ _ _,λx hx=>by cases hx⟩,h.1,h.2.1⟩,?_⟩;rw[hv];refine List.pairwise_append.2 ⟨?_,List.pairwise_append.2 ⟨List.pairwise_singleton _ _,h.2.2,λx hx y _=>?_⟩,λx hx y _=>.inl (Alv hx)⟩
 ·rw[Yn]
  exact List.pairwise_cons.2 ⟨λy _=>Nl y,List.pairwise_singleton _ _⟩
 ·rw[List.mem_singleton.1 hx];exact Nl y
theorem Apc (v:Value)(aX:List Aw):∀p∈(Ac3 v aX).kps,p∈(Ac3 v aX).inner:=λp hp=>by
 rw[Aw.inner_eq];exact A4g _ (A4g _ (A4g _ hp))
def Ny (base:Nat)(w:World)(L:List Stil.Arm)(a:Option Addr)(c:Nat)(m:Aw):Prop:=
 m.kv=.slice a L.length c/\ASh (Qp m.tags) w m/\Gn w m.kps/\m.kps.Nodup/\(∀p∈m.kps,base<=p.1)/\(∀p∈m.kps,¬Qp m.tags p)/\
 (∀p,Qp m.tags p->base<=p.1)/\Py base w (.slice a L.length c) L/\((∀x∈L,Ci x)->m.kps.length<=Ce L*6291460)
theorem Awz {w:World}{L:List Stil.Arm}{ms:List Aw}(hm:ms.map Aw.arm=L)(h:Oi w base (.slice a ms.length c) ms):Ny base w L a c (Ac3 (.slice a ms.length c) ms):=by
 have hl:ms.length=L.length:=by rw[<-hm,A4o]
 have ho:=P7 h;obtain⟨p1,p2,p3,p4,p5,p6⟩:=Aw.places _ ho;obtain⟨_,_,_,f4⟩:=AOk.from _ ho.1;have hin:=Apc (.slice a ms.length c) ms;have hk:(Ac3 (.slice a ms.length c) ms).arm.kids=L:=by rw[Aw.arm_eq];exact hm
 rw[hk] at f4;rw[Aw.inner_eq] at p3;refine⟨by rw[<-hl];rfl,p1,λp hp=>p2 p (hin p hp),(List.nodup_append.1 (List.nodup_append.1 (List.nodup_append.1 p3).2.1).2.1).2.1,λp hp=>p4 p (hin p hp),λp hp=>p5 p (hin p hp),p6,by rw[<-hl];exact f4,λhf=>?_⟩;show(Gp 6 (vb (.slice a ms.length c)) 0 (ms.map Aw.inner)).length<=_
 rw[Acs,<-hm];rw[<-hm] at hf;exact Al5 ms (λx hx=>Aw.count x (hf _ (List.mem_map.2 ⟨x,hx,rfl⟩)))
theorem Ny.below {w w':World}{L:List Stil.Arm}{m:Aw}(h:Ny base w L a c m)(hb:Below w.heap.size w w'):Ny base w' L a c m:=by
 obtain⟨h0,h1,h2,h3,h4,h5,h6,h7,h8⟩:=h;exact⟨h0,h1.below hb,h2.below hb,h3,h4,h5,h6,h7.keep (Ns.of_below hb),h8⟩
theorem Ny.lt {w:World}{L:List Stil.Arm}{m:Aw}(h:Ny base w L a c m):∀p∈m.kps,p.1<w.heap.size:=λp hp=>(h.2.2.1 p hp).1
theorem Ny.mark {w:World}{L:List Stil.Arm}{m:Aw}(h:Ny base w L a c m)(hf:∀x∈L,Ci x)(hs:Ce L<=2097152):
  Calls Tryz.prog 11 #[.slice a L.length c, .int .i64 1] w λe w'=>e=.returned (.int .i64 (1+m.kps.length))/\Dk w w' m.kps 1:=by
 obtain⟨h0,h1,h2,h3,h4,h5,_,_,h9⟩:=h;have h10:=h9 hf;have h11:=Nat.mul_le_mul_right 6291460 hs;rw[<-h0];exact Apq (Qp m.tags) m 1 w h1 h2 h3 h5 omz omz
def A2o:Aw:=⟨Oz, .slice none 0 0,[], .slice none 0 0,[]⟩
theorem Aax (c r:Value)(w:World):Sem.run Tryz.prog (Instr.field 69 (.agg #[c,r]) 0) w=.ok c w:=krz
theorem Aao (l:List Stil.Arm)(kv:Value)(w:World)(hkv:Dj w kv l)(hl:l.length<=1048576)(hsz:Ce l<=1000000000)(hft:∀x∈l,Ci x):
  Calls Tryz.prog 17 #[kv] w λe w'=>Aw2 w' w.heap.size (Bc l) e/\Below w.heap.size w w':=by
 have HC:=hid (λW h=>Acy l kv W (hkv.below h) hl hsz hft);have iD:=hid (λW (h:Below w.heap.size w W)=>hkv.below h);have hcb:=Yu l;obtain⟨p0,r0,rfl,hz⟩:=hkv;by_cases h0:(Bo l).1=0
 ·have HN:Hid (Bc l=l.map Dh):=if_pos h0
  have HI:=hid (λx hx=>A0i x (hft x hx) (by have:=(Jh h0 hx).2;omega) (Jh h0 hx).1);have hl40:=(Kq h0).2.1;rw[HN.out];rw[h0] at HC;obtain⟨rr,hrr⟩:∃r,r=(Bo l).2:=⟨_,rfl⟩
  rw[<-hrr] at HC;clear hz hft HN h0 hcb hrr hsz;have hfc:=Aax;go_enter Tryz.func17,Tryz.ntmps17
  go_wp2_with (go_at_call 29;refine(HC _ blA).mono ?_;rintro e w1 ⟨rfl,hb1⟩)
  go_loopw [3,4] (λd i wr=>∃(j:Nat) (ms:List Aw) (ra:Option Addr) (rc:Nat),j<=l.length/\i=.int .i64 j/\d=.slice ra ms.length rc/\ms.map Aw.arm=(l.take j).map Dh/\Oi wr w.heap.size (.slice ra ms.length rc) ms/\Below w.heap.size w wr) (λ_ i _=>l.length - (intOf i).toNat)
  case atStart=>
   refine⟨0,[],some ⟨w1.heap.size,0,none⟩,0,omz,rfl,rfl,rfl,⟨?_,(λm hm=>by cases hm),List.pairwise_singleton _ _⟩,blA⟩;have:=World.ownsRow_lit (base:=w.heap.size) (e:=55) (size:=6) w1 #[] 0 hb1.size (by unfold maxLen;omega) rfl
   simpa[Gg] using this
  case round=>
   clear hb1;obtain⟨j,ms,ra,rc,hj,rfl,rfl,hmn,hmr,hb⟩:=hrel;have aH:=hid hmn;have aP:=hid hmr;clear hmn hmr;by_cases hlt:j<l.length
   ·have hml:ms.length=j:=by
     have h1:=congrArg List.length aH.out;simp only[A4o,List.length_take] at h1;omega
    have hat:=iD wr hb;obtain⟨pa,pc,hpe,hpc⟩:=hat;simp only[Value.slice.injEq,true_and] at hpe;obtain⟨rfl,rfl⟩:=hpe;obtain⟨b,o,rfl,hbl,hn⟩:=hpc j hlt;obtain⟨hnn,cv',vk,x4,x5,hcv,hkv⟩:=hn.open;obtain⟨x0,x1,kG,kT,x2,x3,hav,hnv⟩:=hnn.open;have HI2:=hid (λW h=>HI l[j] (A4f hlt) kG kT cv' vk W (hav.below h) (hnv.below h) (hcv.below h) (hkv.below h));have aT:Hid ((l.take (j+1)).map Dh=(l.take j).map Dh++[Dh l[j]]):=by show _=_;rw[A4r hlt,A4m];rfl
    obtain⟨x,hx⟩:∃x,x=l[j]:=⟨_,rfl⟩
    rw[<-hx] at HI2 aT x0 x1 hav hnv hcv hkv;obtain⟨q0,s0,rfl,_⟩:=hav;obtain⟨q1,s1',rfl,_⟩:=hnv;obtain⟨q2,s2',rfl,_⟩:=hcv;obtain⟨q3,s3',rfl,_⟩:=hkv;have jL:=hid (λk hk=>(aP.1.lt k hk).1);have hl2:ms.length+[A2o].length<=1000000:=by simp only[A48];omega
    have hj1:(0:Int)<=(j:Int):=omz
    have hj2:(j:Int)<(l.length:Int):=omz
    clear hx hn hnn hpc hml
    go_wp2_with (first | (go_at_call 37;refine(HI2 _ blA).mono ?_;rintro e w5 ⟨⟨mk,aG,aF,xa,ya,bT,xb,yb,bU,xc,yc,aC,xd,yd,rfl,hmo,hmn⟩,hb5⟩;have aJ:=hid hmo;have HMN5:=hid hmn;clear hmo hmn) | (at_builtin;refine Vf rfl _ _ rfl w.heap.size w.heap.size ra rc ms [(Aw.mk ⟨mk,aG,aF, .slice xa aF.length ya, .slice xb bT.length yb,bT⟩ (.slice xc bU.length yc) bU (.slice xd aC.length yd) aC)] _ 1 rfl rfl ((aP.below hb5).below (Aa _ _)) (λ_=>⟨_,rfl,by exact Awj⟩) (λm hm=>by rw[List.mem_singleton.1 hm];exact((aJ.1.le hb.size).below (Aa _ _))) (aP.apart (w1:=w5) (b1:=wr.heap.size) (λm hm=>by rw[List.mem_singleton.1 hm];exact aJ.1) (A4d _) (by rw[Nq];exact aJ.2)) hl2 (by have:=hb5.size;have:=hb.size;simp only[World.size_alloc];omega) (by have:=hb5.size;have:=hb.size;simp only[World.size_alloc];omega) jL.out ?_;intro a6 c6 w6 aW hb6 hv6;have gJ:Hid (Oi w6 w.heap.size (.slice a6 (ms.length+1) c6) (ms++[(Aw.mk ⟨mk,aG,aF, .slice xa aF.length ya, .slice xb bT.length yb,bT⟩ (.slice xc bU.length yc) bU (.slice xd aC.length yd) aC)])):=aW;have HB6:=hid ((Bq (Bd hb hb5) _).trans hb6);clear aW hb6 hv6))
    refine⟨⟨j+1,ms++[(Aw.mk ⟨mk,aG,aF, .slice xa aF.length ya, .slice xb bT.length yb,bT⟩ (.slice xc bU.length yc) bU (.slice xd aC.length yd) aC)],a6,c6,omz,by go_num,spz,?_,by rw[A38];exact gJ.out,HB6.out⟩,by simp[intOf];omega⟩;rw[aT.out,A4m,aH.out,List.map_singleton,HMN5.out]
   ·obtain rfl:j=l.length:=by omega
    have hmn:=aH.out;rw[List.take_length] at hmn;have bV:=hid hmn;clear hmn
    go_wp2
    go_ret;exact⟨⟨ra,rc,ms,rfl,bV.out,aP.out⟩,hb⟩
 ·have HN:Hid (Bc l=[]):=if_neg h0
  rw[HN.out];obtain⟨c,hc⟩:∃c,c=(Bo l).1:=⟨_,rfl⟩
  obtain⟨rr,hrr⟩:∃r,r=(Bo l).2:=⟨_,rfl⟩
  rw[<-hc,<-hrr] at HC;rw[<-hc] at hcb h0;have hcp:(0:Int)<c:=omz
  clear hz hft HN h0 iD hc hrr hcb;have hfc:=Aax;go_enter Tryz.func17,Tryz.ntmps17
  go_wp2_with (go_at_call 29;refine(HC _ blA).mono ?_;rintro e w1 ⟨rfl,hb1⟩)
  go_ret;exact⟨⟨none,0,[],rfl,rfl,Oi.nil _ _⟩,blA⟩
end Go.Proofs.YtbfljjcnbbmoaaaGreatDoor
set_option maxHeartbeats 4000000
set_option maxRecDepth 100000
namespace Go.Proofs.YtbfljjcnbbmoaaaGreatDoor
open Stil
open Go.RowKit Go.Sort Go.BigFrame
theorem Tt (a b:Nat)(w:World):Calls Tryz.prog 51 #[.int .i64 a, .int .i64 b] w λe w'=>e=.returned (.int .i64 (max a b:Nat))/\w'=w:=by
 go_enter Tryz.func51,Tryz.ntmps51
 go_wp2
 all_goals go_ret
 all_goals refine⟨C9 ?_,rfl⟩
 all_goals (congr 1;omega)
theorem Ao7 (a:Stil.Arm):Ak a<=1000000->Aa5 54 a (Stil.forks a):=by
 induction a using Fg with
 | h n cs kids ih=>
  intro hs av nv cv kv w hav hnv hcv hkv;simp only at hav hnv hcv hkv;rw[Cc] at hs;have hks:∀x∈kids,Ak x<=1000000:=λx hx=>by have:Ak x<=Hq kids:=D9 Ak kids x hx;omega
  have hkl:kids.length<=999999:=by have:=Lc kids;omega
  have IH:=hid (λx hx=>ih x hx (hks x hx));have pW:=hid (λx hx=>A4k (An7 x) (hks x hx));have iD:=hid (λW (h:Below w.heap.size w W)=>hkv.below h);rw[Ab7];obtain⟨p0,r0,rfl,hz0⟩:=hav.shape;obtain⟨p1,r1,rfl,hz1,_⟩:=hnv.shape;obtain⟨p2,r2,rfl,hz2⟩:=hcv.shape;obtain⟨p3,r3,rfl,hz3,_⟩:=hkv.shape;clear hz0 hz1 hz2 hz3 hs ih hks hav hnv hcv hkv;obtain⟨fs,hfs⟩:∃fs,fs=kids.map Stil.forks:=⟨_,rfl⟩
  have HFS:=hid hfs;rw[<-hfs];clear hfs;go_enter Tryz.func54,Tryz.ntmps54
  go_wp2
  obtain⟨W,hW⟩:∃W,W=w.alloc (.cells #[.int .i64 n.kind, .int .i64 n.one.op, .slice p0 n.one.args.length r0, .slice p1 n.kids.length r1, .slice p2 cs.length r2, .slice p3 kids.length r3] 55):=⟨_,rfl⟩
  rw[<-hW];have hbW:Below w.heap.size w W:=by rw[hW];exact Aa _ _
  have kZ:w.heap.size<W.heap.size:=by rw[hW];simp
  have y5:W.cell? ⟨w.heap.size,5,none⟩=some (.slice p3 kids.length r3):=by rw[hW];simp[go_sem]
  clear hW;go_loopw [3,5] (λd i wr=>∃(j m:Nat),j<=kids.length/\i=.int .i64 j/\d=.int .i64 m/\m=Dn 0 ((Stil.bump fs).take j)/\Below W.heap.size W wr) (λ_ i _=>kids.length - (intOf i).toNat)
  case atStart=>exact⟨0,0,omz,rfl,rfl,rfl,Below.refl _ _⟩
  case round=>
   obtain⟨j,m,hj,rfl,rfl,hm,hb⟩:=hrel;have HM:=hid hm;clear hm;by_cases hlt:j<kids.length
   ·have hbw:=Bd hbW hb
    obtain⟨pa,pc,hpe,_,hpc⟩:=(iD wr hbw).shape;simp only[Value.slice.injEq,true_and] at hpe;obtain⟨rfl,rfl⟩:=hpe;obtain⟨b,o,rfl,hbl,hn⟩:=hpc j hlt;obtain⟨hna,cv,kv,x4,x5,hcv,hkv⟩:=hn.open;obtain⟨x0,x1,av,nv,x2,x3,hav,hnv⟩:=hna.open;have HI:Hid (∀V,Below wr.heap.size wr V->Calls Tryz.prog 54 #[.agg #[.int .i64 kids[j].net.kind, .int .i64 kids[j].net.one.op,av,nv,cv,kv]] V λe w'=>e=.returned (.int .i64 (Stil.forks kids[j]))/\Below V.heap.size V w'):=λV h=>IH kids[j] (A4f hlt) av nv cv kv V (hav.below h) (hnv.below h) (hcv.below h) (hkv.below h)
    have hle:=pW kids[j] (A4f hlt);have hfl:fs.length=kids.length:=by rw[HFS.out,A4o]
    have aT:Hid (Dn 0 ((Stil.bump fs).take (j+1))=max (Dn 0 ((Stil.bump fs).take j)) (if j+1<kids.length then Stil.forks kids[j]+1 else Stil.forks kids[j])):=by
     show _=_
     rw[Jt (by rw[Z9,hfl];exact hlt),Ah1];have e1:fs[j]'(by rw[hfl];exact hlt)=Stil.forks kids[j]:=by simp[HFS.out]
     rw[e1,hfl];rfl
    obtain⟨x,hx⟩:∃x,x=kids[j]:=⟨_,rfl⟩
    rw[<-hx] at HI aT hle x0 x1 hav hnv hcv hkv;obtain⟨fx,hfx⟩:∃fx,fx=Stil.forks x:=⟨_,rfl⟩
    rw[<-hfx] at HI aT hle;obtain⟨q0,s0,rfl,hz0⟩:=hav.shape;obtain⟨q1,s1,rfl,hz1,_⟩:=hnv.shape;obtain⟨q2,s2,rfl,hz2⟩:=hcv.shape;obtain⟨q3,s3,rfl,hz3,_⟩:=hkv.shape;have tV:=(hb.cell (p:=⟨w.heap.size,5,none⟩) kZ).trans y5;have hj1:(0:Int)<=(j:Int):=omz
    have hj2:(j:Int)<(kids.length:Int):=omz
    have hwn:IntKind.i64.wrap ((kids.length:Int) - 1)=(kids.length:Int) - 1:=by rw[IntKind.wrap_i64];omega
    have hwf:IntKind.i64.wrap ((fx:Int)+1)=(fx:Int)+1:=by rw[IntKind.wrap_i64];omega
    have hcast:(fx:Int)+1=((fx+1:Nat):Int):=omz
    have HG:=hid Tt;have HG2:Hid (∀(p:Nat) (V:World),Calls Tryz.prog 51 #[.int .i64 p, .int .i64 ((fx:Int)+1)] V λe w'=>e=.returned (.int .i64 (max p (fx+1):Nat))/\w'=V):=λp V=>by rw[hcast];exact Tt p (fx+1) V
    clear hz0 hz1 hz2 hz3 hx hfx hn hna hpc hfl hav hnv hcv hkv hcast hbl;by_cases hla:j+1<kids.length
    ·rw[if_pos hla] at aT
     have hlb:(j:Int)<(kids.length:Int) - 1:=omz
     go_wp2_with (first | (go_at_call 54;refine(HI _ blA).mono ?_;rintro e w2 ⟨rfl,hb2⟩) | (go_at_call 51;refine(HG2 _ _).mono ?_;rintro e w3 ⟨rfl,rfl⟩))
     refine⟨⟨j+1,max m (fx+1),omz,by go_num,rfl,?_,Bd hb hb2⟩,by simp[intOf];omega⟩;rw[aT.out,<-HM.out]
    ·rw[if_neg hla] at aT
     have hlb:¬((j:Int)<(kids.length:Int) - 1):=omz
     go_wp2_with (first | (go_at_call 54;refine(HI _ blA).mono ?_;rintro e w2 ⟨rfl,hb2⟩) | (go_at_call 51;refine(HG _ _ _).mono ?_;rintro e w3 ⟨rfl,rfl⟩))
     refine⟨⟨j+1,max m fx,omz,by go_num,rfl,?_,Bd hb hb2⟩,by simp[intOf];omega⟩;rw[aT.out,<-HM.out]
   ·obtain rfl:j=kids.length:=by omega
    have hmn:=HM.out;rw[A43 (by rw[Z9,HFS.out,A4o];exact A4d _)] at hmn;have dF:=hid hmn;clear hmn
    go_wp2
    go_ret;exact⟨C9 (by rw[dF.out]),Bd hbW hb⟩
theorem zs0 {p:Prop}(h:p:=by
 obtain rfl:j=L.length:=by omega
 have hmn:=HM.out;rw[A43 (by rw[A4o];exact A4d _)] at hmn;have dF:=hid hmn;clear hmn
 go_wp2
 go_ret;exact⟨C9 (by rw[dF.out]),Bd hb1 hb⟩):p:=h
theorem Ao9 (l:List Stil.Arm)(kv:Value)(w:World)(hkv:Dj w kv l)(hl:l.length<=1048576)(hsz:Ce l<=1000000000)(hft:∀x∈l,Ci x):
  Calls Tryz.prog 31 #[kv] w λe w'=>e=.returned (.int .i64 (I5 l))/\Below w.heap.size w w':=by
 have HC:=hid (λW h=>Aao l kv W (hkv.below h) hl hsz hft);obtain⟨kD,lH,oD⟩:=I9 hft;have hR:Hid (I5 l=Dn 0 ((Bc l).map Stil.forks)):=rfl;obtain⟨L,hL⟩:∃L,L=Bc l:=⟨_,rfl⟩
 rw[<-hL] at HC kD lH oD hR;have IH:Hid (∀x∈L,Aa5 54 x (Stil.forks x)):=λx hx=>Ao7 x (by have:=Qy hx;omega)
 have HG:=hid Tt;rw[hR.out];obtain⟨p0,r0,rfl,hz⟩:=hkv;clear hz hft kD lH hR hL;go_enter Tryz.func31,Tryz.ntmps31
 go_wp2_with (go_at_call 17;refine(HC _ blA).mono ?_;rintro e w1 ⟨⟨a,c,ms,rfl,hm,hrw⟩,hb1⟩;have hat:Ri w1 (.slice a ms.length c) L:=(by have h:=(AOk.T _ (P7 hrw).1).2.2.2;rw[Aw.arm_eq] at h;rw[<-hm];exact h);have HAT:=hid hat;have hml:ms.length=L.length:=(by rw[<-hm,A4o]);rw[hml] at HAT;rw[hml];clear hat hrw hm hml)
 go_loopw [4,5] (λd i wr=>∃(j m:Nat),j<=L.length/\i=.int .i64 j/\d=.int .i64 m/\m=Dn 0 ((L.map Stil.forks).take j)/\Below w1.heap.size w1 wr) (λ_ i _=>L.length - (intOf i).toNat)
 case atStart=>exact⟨0,0,omz,rfl,rfl,rfl,Below.refl _ _⟩
 case round=>
  obtain⟨j,m,hj,rfl,rfl,hm,hb⟩:=hrel;have HM:=hid hm;clear hm;by_cases hlt:j<L.length
  ·obtain⟨pa,pc,hpe,_,hpc⟩:=(HAT.below hb).shape
   simp only[Value.slice.injEq,true_and] at hpe;obtain⟨rfl,rfl⟩:=hpe;obtain⟨b,o,rfl,hbl,hn⟩:=hpc j hlt;obtain⟨hna,cv,kv,x4,x5,hcv,hkv⟩:=hn.open;obtain⟨x0,x1,av,nv,x2,x3,hav,hnv⟩:=hna.open;have HI:Hid (∀V,Below wr.heap.size wr V->Calls Tryz.prog 54 #[.agg #[.int .i64 L[j].net.kind, .int .i64 L[j].net.one.op,av,nv,cv,kv]] V λe w'=>e=.returned (.int .i64 (Stil.forks L[j]))/\Below V.heap.size V w'):=λV h=>IH L[j] (A4f hlt) av nv cv kv V (hav.below h) (hnv.below h) (hcv.below h) (hkv.below h)
   have aT:Hid (Dn 0 ((L.map Stil.forks).take (j+1))=max (Dn 0 ((L.map Stil.forks).take j)) (Stil.forks L[j])):=by
    show _=_
    rw[Jt (by rw[A4o];exact hlt),List.getElem_map]
   obtain⟨x,hx⟩:∃x,x=L[j]:=⟨_,rfl⟩
   rw[<-hx] at HI aT x0 x1 hav hnv hcv hkv;obtain⟨fx,hfx⟩:∃fx,fx=Stil.forks x:=⟨_,rfl⟩
   rw[<-hfx] at HI aT;obtain⟨q0,s0,rfl,hz0⟩:=hav.shape;obtain⟨q1,s1,rfl,hz1,_⟩:=hnv.shape;obtain⟨q2,s2,rfl,hz2⟩:=hcv.shape;obtain⟨q3,s3,rfl,hz3,_⟩:=hkv.shape;have hj1:(0:Int)<=(j:Int):=omz
   have hj2:(j:Int)<(L.length:Int):=omz
   clear hz0 hz1 hz2 hz3 hx hfx hn hna hpc hav hnv hcv hkv hbl
   go_wp2_with (first | (go_at_call 54;refine(HI _ blA).mono ?_;rintro e w2 ⟨rfl,hb2⟩) | (go_at_call 51;refine(HG _ _ _).mono ?_;rintro e w3 ⟨rfl,rfl⟩))
   refine⟨⟨j+1,max m fx,omz,by go_num,rfl,?_,Bd hb hb2⟩,by simp[intOf];omega⟩;rw[aT.out,<-HM.out]
  ·exact zs0
theorem Ayl (x:Stil.Arm)(hf:Ak x<=1000000)(ih:Aa5 58 x (Stil.forks x)):Aa5 88 x (1+Stil.forks x):=by
 intro av nv cv kv w hav hnv hcv hkv;have IH:Hid (∀W,Below w.heap.size w W->Calls Tryz.prog 58 #[.agg #[.int .i64 x.net.kind, .int .i64 x.net.one.op,av,nv,cv,kv]] W λe w'=>e=.returned (.int .i64 (Stil.forks x))/\Below W.heap.size W w'):=λW h=>ih av nv cv kv W (hav.below h) (hnv.below h) (hcv.below h) (hkv.below h)
 have hle:=An7 x;obtain⟨fx,hfx⟩:∃fx,fx=Stil.forks x:=⟨_,rfl⟩
 rw[<-hfx] at IH hle ⊢;obtain⟨p0,r0,rfl,hz0⟩:=hav.shape;obtain⟨p1,r1,rfl,hz1,_⟩:=hnv.shape;obtain⟨p2,r2,rfl,hz2⟩:=hcv.shape;obtain⟨p3,r3,rfl,hz3,_⟩:=hkv.shape;clear ih hz0 hz1 hz2 hz3 hfx;go_enter Tryz.func88,Tryz.ntmps88
 go_wp2_with (go_at_call 58;refine(IH _ blA).mono ?_;rintro e w1 ⟨rfl,hb1⟩)
 go_ret;exact⟨C9 (by go_num),blA⟩
theorem Aqq (a:Stil.Arm):Ak a<=1000000->Aa5 58 a (Stil.forks a):=by
 induction a using Fg with
 | h n cs kids ih=>
  intro hs av nv cv kv w hav hnv hcv hkv;simp only at hav hnv hcv hkv;rw[Cc] at hs;have hks:∀x∈kids,Ak x<=1000000:=λx hx=>by have:Ak x<=Hq kids:=D9 Ak kids x hx;omega
  have hkl:kids.length<=999999:=by have:=Lc kids;omega
  obtain⟨p0,r0,rfl,hz0⟩:=hav.shape;obtain⟨p1,r1,rfl,hz1,_⟩:=hnv.shape;obtain⟨p2,r2,rfl,hz2⟩:=hcv.shape;clear hz0 hz1 hz2 hs;rcases List.eq_nil_or_concat kids with rfl | ⟨init,z,hk⟩
  ·rw[Av1]
   obtain⟨p3,r3,rfl,hz3,_⟩:=hkv.shape;clear hz3 ih hks hkl;go_enter Tryz.func58,Tryz.ntmps58
   go_wp2
   go_ret;exact⟨rfl,blA⟩
  ·rw[List.concat_eq_append] at hk
   subst hk;have hE:∀args w,(callFunc 88 args).run Tryz.prog w=.ok (.enter 88 args) w:=enters_of Tryz.func88 krz rfl;have zS:=hkv;obtain⟨p3,r3,rfl,hcap,hpc⟩:=hkv.shape;have hat:=zS;have hti:(init++[z]).take init.length=init:=spz
   have hil:init.length<=999999:=by simp only[A38,A48] at hkl;omega
   have aJ:Hid (∀W,Below w.heap.size w W->Calls Tryz.prog 56 #[.slice p3 init.length r3, .int .i64 (Stil.forks z), .func (.func 88) #[] #[]] W λe w'=>e=.returned (.int .i64 (Dn (Stil.forks z) (init.map (λk=>1+Stil.forks k))))/\Below W.heap.size W w'):=by
    intro W h;refine Ag6 init (λk=>1+Stil.forks k) 88 hE (λx hx=>?_) _ _ W ?_ hil
    ·exact Ayl x (hks x (by simp[hx])) (ih x (by simp[hx]) (hks x (by simp[hx])))
    ·have:=(hat.below h).take (n:=init.length) spz
     rwa [hti] at this
   obtain⟨b,o,rfl,hbl,hn⟩:=hpc init.length spz;have hg:(init++[z])[init.length]'spz=z:=spz
   rw[hg] at hn;obtain⟨hna,cv',kv',x4,x5,hcv,hkv⟩:=hn.open;obtain⟨x0,x1,kG,kT,x2,x3,hav,hnv⟩:=hna.open;have HZ:Hid (∀W,Below w.heap.size w W->Calls Tryz.prog 58 #[.agg #[.int .i64 z.net.kind, .int .i64 z.net.one.op,kG,kT,cv',kv']] W λe w'=>e=.returned (.int .i64 (Stil.forks z))/\Below W.heap.size W w'):=λW h=>ih z spz (hks z spz) kG kT cv' kv' W (hav.below h) (hnv.below h) (hcv.below h) (hkv.below h)
   rw[Aqs];obtain⟨fz,hfz⟩:∃fz,fz=Stil.forks z:=⟨_,rfl⟩
   rw[<-hfz] at aJ HZ ⊢;obtain⟨R,hR⟩:∃R,R=Dn fz (init.map (λk=>1+Stil.forks k)):=⟨_,rfl⟩
   rw[<-hR] at aJ ⊢;have hlen:(init++[z]).length=init.length+1:=spz
   obtain⟨m,hm⟩:∃m,m=init.length:=⟨_,rfl⟩
   rw[hlen];rw[<-hm] at aJ x0 x1 x2 x3 x4 x5 hil ⊢;obtain⟨q0,s0,rfl,hz0⟩:=hav.shape;obtain⟨q1,s1,rfl,hz1,_⟩:=hnv.shape;obtain⟨q2,s2,rfl,hz2⟩:=hcv.shape;obtain⟨q3,s3,rfl,hz3,_⟩:=hkv.shape;have hj1:(0:Int)<=(m:Int):=omz
   have hj2:(m:Int)<=(m:Int)+1:=omz
   have hj3:(m:Int)<(m:Int)+1:=omz
   have hw1:IntKind.i64.wrap ((m:Int)+1 - 1)=(m:Int):=by rw[IntKind.wrap_i64];omega
   have hcp:m+1<=r3:=by have:=hcap.1;rw[hlen,<-hm] at this;exact this
   have hj4:(m:Int)<=(r3:Int):=omz
   have hj5:m<=r3:=omz
   clear hz0 hz1 hz2 hz3 hat zS hti hpc hn hna hE hfz hR hg ih hks hkl hlen hm hcap;go_enter Tryz.func58,Tryz.ntmps58
   go_wp2
   obtain⟨W,hW⟩:∃W,W=w.alloc (.cells #[.int .i64 n.kind, .int .i64 n.one.op, .slice p0 n.one.args.length r0, .slice p1 n.kids.length r1, .slice p2 cs.length r2, .slice (some ⟨b,o,none⟩) (m+1) r3] 55):=⟨_,rfl⟩
   rw[<-hW];have hbW:Below w.heap.size w W:=by rw[hW];exact Aa _ _
   have y5:W.cell? ⟨w.heap.size,5,none⟩=some (.slice (some ⟨b,o,none⟩) (m+1) r3):=by rw[hW];simp[go_sem]
   have k0:=cell_regrown ((hbW.cell (p:=⟨b,o+m*6,none⟩) hbl).trans x0);have k1:=cell_regrown ((hbW.cell (p:=⟨b,o+m*6+1,none⟩) hbl).trans x1);have k2:=cell_regrown ((hbW.cell (p:=⟨b,o+m*6+2,none⟩) hbl).trans x2);have k3:=cell_regrown ((hbW.cell (p:=⟨b,o+m*6+3,none⟩) hbl).trans x3);have k4:=cell_regrown ((hbW.cell (p:=⟨b,o+m*6+4,none⟩) hbl).trans x4);have k5:=cell_regrown ((hbW.cell (p:=⟨b,o+m*6+5,none⟩) hbl).trans x5);have k6:=cell_regrown y5;clear hW y5 x0 x1 x2 x3 x4 x5;refine wp_region_quiet_below krz krz ?_;repeat (go_big_quiet_step ((first | exact Calls.regrown_of (HZ _ (Ep hbW _ _)) | exact Calls.regrown_of (aJ _ (Ep hbW _ _)))))
   refine wpQuiet_nil ?_;intro _ hw';obtain⟨⟨dq,osq⟩,hw''⟩:=hw';subst hw''
   go_wp2
   go_ret;exact⟨rfl,Ep hbW _ _⟩
theorem Af6 (l:List Stil.Arm)(kv:Value)(w:World)(hr:Es w)(hg:Et w)(hkv:Dj w kv l)(hl:l.length<=1048576)(hsz:Ce l<=1000000000)(hft:∀x∈l,Ci x):
  Calls Tryz.prog 34 #[kv] w λe w'=>e=.returned (.int .i64 (I5 l))/\Below w.heap.size w w':=by
 have HC:=hid (λW h=>Aau l kv W (hr.below h) (hg.below h) (hkv.below h) hl hsz hft);obtain⟨kD,lH,oD⟩:=I9 hft;have hR:Hid (I5 l=Dn 0 ((Bc l).map Stil.forks)):=rfl;obtain⟨L,hL⟩:∃L,L=Bc l:=⟨_,rfl⟩
 rw[<-hL] at HC kD lH oD hR;have hE:∀args w,(callFunc 58 args).run Tryz.prog w=.ok (.enter 58 args) w:=enters_of Tryz.func58 krz rfl;have HM:Hid (∀W v,Ri W v L->Calls Tryz.prog 56 #[v, .int .i64 0, .func (.func 58) #[] #[]] W λe w'=>e=.returned (.int .i64 (Dn 0 (L.map Stil.forks)))/\Below W.heap.size W w'):=λW v h=>Ag6 L Stil.forks 58 hE (λx hx=>Aqq x (by have:=Qy hx;omega)) 0 v W h omz
 rw[hR.out];obtain⟨R,hRR⟩:∃R,R=Dn 0 (L.map Stil.forks):=⟨_,rfl⟩
 rw[<-hRR] at HM ⊢;obtain⟨p0,r0,rfl,hz⟩:=hkv;clear hz hr hg hft kD lH oD hR hL hE hRR;go_enter Tryz.func34,Tryz.ntmps34
 go_wp2_with (first | (go_at_call 22;refine(HC _ blA).mono ?_;rintro e w1 ⟨⟨a,c,ms,rfl,hm,hrw⟩,hb1⟩;have hat:Ri w1 (.slice a ms.length c) L:=(by have h:=(AOk.T _ (P7 hrw).1).2.2.2;rw[Aw.arm_eq] at h;rw[<-hm];exact h);have HAT:=hid hat;clear hat hrw hm) | (go_at_call 56;refine(HM _ _ HAT.out).mono ?_;rintro e w2 ⟨rfl,hb2⟩))
 go_ret;exact⟨rfl,blA⟩
end Go.Proofs.YtbfljjcnbbmoaaaGreatDoor
