import Derived.Test.YtbfljjcnbbmoaaaGreatDoorS34
import Derived.Test.YtbfljjcnbbmoaaaGreatDoorS30
import Derived.Test.YtbfljjcnbbmoaaaGreatDoorG3
import Derived.Test.YtbfljjcnbbmoaaaGreatDoorGL
import Derived.Test.YtbfljjcnbbmoaaaGreatDoorHg
import Derived.Test.YtbfljjcnbbmoaaaGreatDoorGY
import Derived.Test.YtbfljjcnbbmoaaaGreatDoorGf
import Derived.Test.YtbfljjcnbbmoaaaGreatDoorCI4
namespace Go.Proofs.YtbfljjcnbbmoaaaGreatDoor
open Stil
open Go.RowKit Go.Sort Go.BigFrame
set_option maxHeartbeats 4000000 in
set_option maxRecDepth 100000 in
theorem Aoo (l:List Stil.Arm) (kv:Value) (w:World) (hkv:Dv w kv l) (hl:l.length<=1048576) (hsz:Bh l<=1000000000) (hft:∀x∈l,C9 x):
  Calls Tryz.prog 6 #[kv] w λe w'=>∃(a:Option Addr) (c:Nat) (ms:List MI),e=.returned (.slice a ms.length c)/\ms.map MI.inst=Kq l/\Lm w' w.heap.size (.slice a ms.length c) ms/\Below w.heap.size w w':=by
 have HNM:=hid (λW h=>Aop l kv W (hkv.below h) hl hsz hft);obtain⟨hLF,hLS,hLL⟩:=Tv hft;have HG:Hid (∀x∈Bq l,Awc 18 x.net (Dy x.net)/\A3d 19 x (Ej x)):=by
  intro x hx;by_cases h0:(Ce l).1=0
  ·have hr:=(V8 hft h0).1 x hx
   have hfx:=hLF x hx;have hs:=hr.size;refine⟨?_,s_tail x hr.fineA hfx hs⟩;have h1:=hr.net;obtain⟨xn,xc,xk⟩:=x;rw[Dp] at hs;refine A2c xn h1.2.2 ((Ee _ _ _).1 hfx).1 ?_;have:=Stil.size_le xn
   omega
  ·rw[show Bq l=[] by unfold Bq;rw[if_neg h0]] at hx
   cases hx
 have HTOT:Hid (∀(j:Nat) (ms:List MI),ms.map MI.inst=(((Bq l).map Fb).take j).flatten->ms.length<=800):=by
  intro j ms h;rw[<-A4t (f:=MI.inst),h];have h1:=X0 hft;unfold Kq at h1;have h2:(((Bq l).map Fb).take j).flatten.length<=((Bq l).map Fb).flatten.length:=by
   conv=>rhs;rw[<-List.take_append_drop j ((Bq l).map Fb),List.flatten_append,A4d]
   omega
  omega
 have HWP:Hid (Kq l=((Bq l).map Fb).flatten):=rfl;rw[HWP.out];obtain⟨L,hL⟩:∃L,L=Bq l:=⟨_,rfl⟩
 rw[<-hL] at HNM HG HTOT hLL ⊢;obtain⟨p0,r0,rfl,_⟩:=hkv;clear hL HWP hLF hLS hft;go_enter Tryz.func6,Tryz.ntmps6
 go_wp2_with (go_at_call 17;refine(HNM.out _ blA).mono ?_;rintro e w1 ⟨⟨a1,c1,ns,rfl,hns,hr1⟩,hb1⟩;have HAK0:Hid (Aaj w1 (.slice a1 ns.length c1) L):=(by have:=(AOk.T _ (Aet hr1).1).2.2.2;have hk:(Ab7 (.slice a1 ns.length c1) ns).arm.kids=L:=(by rw[Au.arm_eq];exact hns);rw[hk] at this;exact this);have hnl:ns.length=L.length:=(by rw[<-hns,A4t]);clear hr1 hns)
 rw[hnl] at HAK0;clear hnl;have hbw1:=hb1;go_loopw [4,5] (λd i wr=>∃(j:Nat) (ra:Option Addr) (rc:Nat) (ls:List MI),j<=L.length/\i=.int .i64 (j:Int)/\d=.slice ra ls.length rc/\ls.map MI.inst=((L.map Fb).take j).flatten/\Lm wr w1.heap.size (.slice ra ls.length rc) ls/\Below w1.heap.size w1 wr) (λ_ i _=>L.length - (intOf i).toNat)
 case atStart=>
  refine⟨0,some ⟨w1.heap.size,0,none⟩,0,[],by omega,rfl,rfl,by simp,⟨?_,λx hx=>by cases hx⟩,Aa w1 _⟩;exact World.ownsRow_lit w1 #[] 0 (A4i _) (by unfold maxLen;omega) rfl
 case round=>
  obtain⟨j,ra,rc,ls,hj,rfl,rfl,hls,hlr,hb⟩:=hrel;have HLS:=hid hls;have HLR:=hid hlr;have hln:=HTOT.out j ls hls;clear hls hlr;have hzr:=hb.size;by_cases hlt:j<L.length
  ·obtain⟨pa,pc,hpe,_,hpc⟩:=HAK0.out.shape
   simp only[Value.slice.injEq,true_and] at hpe;obtain⟨rfl,rfl⟩:=hpe;obtain⟨b,o,hbo,hbl,hn⟩:=hpc j hlt;subst hbo;obtain⟨hna,cv,kv,x4,x5,hcv,hkv⟩:=hn.open;obtain⟨x0,x1,av,nv,x2,x3,hav,hnv⟩:=hna.open;have HI:=hid (λV h=>(HG.out L[j] (A4k hlt)).2 av nv cv kv V (hav.below h) (hnv.below h) (hcv.below h) (hkv.below h));have HBJ:=hid (λV h=>(HG.out L[j] (A4k hlt)).1 av nv V (hav.below h) (hnv.below h));have HTS:((L.map Fb).take (j+1)).flatten=((L.map Fb).take j).flatten++(Dy L[j].net++(Ej L[j]++[Md 11])):=by
    rw[A4w (by simpa using hlt),List.flatten_append];simp[Fb]
   have HLL:Hid (∀kb kt:List MI,kb.map MI.inst=Dy L[j].net->kt.map MI.inst=Ej L[j]->(ls.length+kb.length+kt.length+1<=800)/\(((ls++kb)++kt)++[mi0 11]).map MI.inst=((L.map Fb).take (j+1)).flatten):=by
    intro kb kt hkb hkt;have e0:(((ls++kb)++kt)++[mi0 11]).map MI.inst=((L.map Fb).take (j+1)).flatten:=by
     rw[A4r,A4r,A4r,HLS.out,hkb,hkt,HTS];simp only[A41];rfl
    have:=HTOT.out _ _ e0
    simp only[A4d,A4e,A4f] at this;exact⟨by omega,e0⟩
   clear HTS;have HLB:Hid (∀kb:List MI,kb.map MI.inst=Dy L[j].net->ls.length+kb.length<=800):=by
    intro kb hkb;obtain⟨kt',hkt'⟩:∃kt':List MI,kt'.map MI.inst=Ej L[j]:=⟨(Ej L[j]).map λi=>⟨i.code,⟨i.one.op,i.one.args, .slice none 0 0⟩⟩,by rw[List.map_map];exact(List.map_congr_left λi _=>rfl).trans (List.map_id _)⟩
    have:=(HLL.out kb kt' hkb hkt').1
    omega
   obtain⟨x,hx⟩:∃x,x=L[j]:=⟨_,rfl⟩
   rw[<-hx] at HI HBJ HLL HLB x0 x1 hav hnv hcv hkv;obtain⟨q0,s0,rfl,_⟩:=hav.shape;obtain⟨q1,s1,rfl,_,_⟩:=hnv.shape;obtain⟨q2,s2,rfl,_⟩:=hcv.shape;obtain⟨q3,s3,rfl,_,_⟩:=hkv.shape;have HSB:Hid (∀V,Below w1.heap.size w1 V->V.cell? ⟨b,o+j*6,none⟩=some (.int .i64 x.net.kind)/\V.cell? ⟨b,o+j*6+1,none⟩=some (.int .i64 x.net.one.op)/\V.cell? ⟨b,o+j*6+2,none⟩=some (.slice q0 x.net.one.args.length s0)/\V.cell? ⟨b,o+j*6+3,none⟩=some (.slice q1 x.net.kids.length s1)/\V.cell? ⟨b,o+j*6+4,none⟩=some (.slice q2 x.coils.length s2)/\V.cell? ⟨b,o+j*6+5,none⟩=some (.slice q3 x.kids.length s3)):=λV hV=>by
    have e1:=hV.block b hbl;exact⟨(World.cell?_of_block (a:=⟨b,_,none⟩) e1).trans x0,(World.cell?_of_block (a:=⟨b,_,none⟩) e1).trans x1,(World.cell?_of_block (a:=⟨b,_,none⟩) e1).trans x2,(World.cell?_of_block (a:=⟨b,_,none⟩) e1).trans x3,(World.cell?_of_block (a:=⟨b,_,none⟩) e1).trans x4,(World.cell?_of_block (a:=⟨b,_,none⟩) e1).trans x5⟩
   obtain⟨x0w,x1w,x2w,x3w,x4w,x5w⟩:=HSB.out wr hb;have hj2:(j:Int)<(L.length:Int):=by omega
   clear hx hn hna hpc hav hnv hcv hkv x0 x1 x2 x3 x4 x5 HTOT HG HAK0 HNM hbl
   go_wp2_with (first | (at_builtin;refine E8 (m:=mi0 11) rfl _ _ rfl w1.heap.size a5 c5 ((ls++kb)++kt) (by first | rfl | (simp[Act.eval,Nat.add_assoc];done) | (simp[Act.eval];omega)) (by first | rfl | (simp[Act.eval];done)) HR5.out (Xw _ _ _ _) (by have:=(HLL.out kb kt HKB.out HKT.out).1;simp only[A4d];omega) hbw5.size ?_;intro a6 c6 w6 hr6 hb6;have HR6:=hid hr6;clear hr6;have hbw6:=hbw5.trans hb6) | (at_builtin;refine D6 rfl _ _ rfl w1.heap.size w3.heap.size w3 a3 c3 (ls++kb) kt a4 c4 (by first | rfl | (simp[Act.eval];done)) rfl HR3.out HRT.out hb4 (A4i _) (by have:=(HLL.out kb kt HKB.out HKT.out).1;simp only[A4d];omega) hbw3.size ?_;intro a5 c5 w5 hr5 hb5;have HR5:Hid (Lm w5 w1.heap.size (.slice a5 ((ls++kb)++kt).length c5) ((ls++kb)++kt)):=(by rw[A4d];exact hr5);clear hr5;have hbw5:=hbw3.trans ((hb4.mono hbw3.size).trans hb5)) | (go_at_call 19;refine(HI.out w3 hbw3).mono ?_;rintro e w4 ⟨a4,c4,kt,rfl,hkt,hr4,hb4⟩;have HKT:=hid hkt;have HRT:=hid hr4;clear hkt hr4) | (at_builtin;refine D6 rfl _ _ rfl w1.heap.size wr.heap.size wr ra rc ls kb a2 c2 rfl rfl HLR.out HRB.out hb2 (A4i _) (by have:=HLB.out kb HKB.out;omega) hzr ?_;intro a3 c3 w3 hr3 hb3;have HR3:Hid (Lm w3 w1.heap.size (.slice a3 (ls++kb).length c3) (ls++kb)):=(by rw[A4d];exact hr3);clear hr3;have hbw3:=hb.trans ((hb2.mono hzr).trans hb3);obtain⟨x03,x13,x23,x33,x43,x53⟩:=HSB.out w3 hbw3) | (go_at_call 18;refine(HBJ.out wr hb).mono ?_;rintro e w2 ⟨a2,c2,kb,rfl,hkb,hr2,hb2⟩;have HKB:=hid hkb;have HRB:=hid hr2;clear hkb hr2))
   exact⟨⟨j+1,a6,c6,((ls++kb)++kt)++[mi0 11],by omega,by go_num,by rw[Value.slice.injEq];refine⟨rfl,?_,rfl⟩;simp only[A4d,A4e,A4f];try omega,(HLL.out kb kt HKB.out HKT.out).2,by rw[A4d];exact HR6.out,hbw6⟩,by simp[intOf];omega⟩
  ·obtain rfl:j=L.length:=by omega
   have hmn:=HLS.out;rw[A48 (by simp)] at hmn;have HM3:=hid hmn;clear hmn
   go_wp2
   go_ret;exact⟨ra,rc,ls,rfl,HM3.out,HLR.out.le hbw1.size,hbw1.trans (hb.mono hbw1.size)⟩
end Go.Proofs.YtbfljjcnbbmoaaaGreatDoor
namespace Go.Proofs.YtbfljjcnbbmoaaaGreatDoor
open Stil
open Go.RowKit Go.Sort Go.BigFrame
theorem Agr (la:List Stil.Arm):Bh la<=2*Qj la:=by
 unfold Bh Qj;induction la with
 | nil=>simp
 | cons x r ih=>
  have:=Ark x
  simp only[A4v,List.sum_cons,A4e] at ih ⊢;omega
end Go.Proofs.YtbfljjcnbbmoaaaGreatDoor
namespace Go.Proofs.YtbfljjcnbbmoaaaGreatDoor
open Go.RowKit Go.Sort Go.BigFrame
end Go.Proofs.YtbfljjcnbbmoaaaGreatDoor
namespace Go.Proofs.YtbfljjcnbbmoaaaGreatDoor
open Go.RowKit Go.Sort Go.BigFrame
theorem Ax3 (l:List Stil.Ht) (hf:∀x∈l,x.fits) (hl:l.length<=1048576) (v u:Value) (W:World) (hat:Jf W v l) (hau:Jf W u l):
  Calls Tryz.prog 9 #[v,u] W λe w'=>e=.returned (.bool true)/\Below W.heap.size W w':=
 Aum l (λx hx=>Ax4 x (hf x hx)) v u W hat hau hl
end Go.Proofs.YtbfljjcnbbmoaaaGreatDoor
namespace Stil
theorem Sj {k:Int} (h:i64 k):(Md k).fits:=⟨h,by unfold i64;simp[Md],by simp[Md],λd hd=>by cases hd⟩
theorem Aih {k:Int} {n:Net} (hk:k=2\/k=3) (hn:Cc n) (h:∀x∈Dy n,x.fits):∀x∈D8 k n,x.fits:=by
 intro x hx;unfold D8 As5 at hx;split at hx
 ·rw[List.mem_singleton.1 hx];exact⟨by unfold i64;simp only;omega,(Df hn).2.1⟩
 ·rcases List.mem_append.1 hx with hx | hx
  ·exact h x hx
  ·rw[List.mem_singleton.1 hx];exact Sj (by unfold i64;omega)
theorem Y0 (n:Net):Ar n=0->Cc n->∀x∈Dy n,x.fits:=by
 refine Fg (λn=>Ar n=0->Cc n->∀x∈Dy n,x.fits) ?_ n;intro k e kids ih hw hf x hx;have hkf:=(Fa _ _ _).1 hf;have hkw:=Qa hw;simp only at hkw;rcases H8 hw with⟨rfl,rfl⟩ | ⟨h1,h0,_⟩ | ⟨rfl,_,y,rfl,_⟩
 ·rw[Tz] at hx
  rw[List.mem_singleton.1 hx];exact⟨by unfold i64;simp only;omega,hkf.2.1⟩
 ·cases kids with
  | nil=>simp at h0
  | cons y r=>
   rw[Qz e y r (by omega) (by omega)] at hx;rcases List.mem_append.1 hx with hx | hx
   ·exact ih y (by simp) (hkw y (by simp)) (hkf.2.2.2 y (by simp)) x hx
   ·obtain⟨l,hl,hxl⟩:=List.mem_flatten.1 hx
    obtain⟨z,hz,rfl⟩:=List.mem_map.1 hl;exact Aih (by omega) (hkf.2.2.2 z (by simp[hz])) (ih z (by simp[hz]) (hkw z (by simp[hz])) (hkf.2.2.2 z (by simp[hz]))) x hxl
 ·rw[Ua] at hx
  rcases List.mem_append.1 hx with hx | hx
  ·exact ih y (by simp) (hkw y (by simp)) (hkf.2.2.2 y (by simp)) x hx
  ·rw[List.mem_singleton.1 hx];exact Sj (by unfold i64;omega)
theorem Abb {n:Net} (h:Jn n) (hf:Cc n):∀x∈En n,x.fits:=by
 intro x hx;obtain⟨l,hl,hxl⟩:=List.mem_flatten.1 hx;obtain⟨y,hy,rfl⟩:=List.mem_map.1 hl;have hyw:Ar y=0/\Cc y:=by
  unfold Fv at hy;split at hy
  ·cases hy
  ·rename_i hn
   have hfn:=h.resolve_left hn;split at hy
   ·exact⟨Qa hfn.2.2 y hy,(Df hf).2.2.2 y hy⟩
   ·rw[List.mem_singleton.1 hy];exact⟨hfn.2.2,hf⟩
 exact Aih (.inl rfl) hyw.2 (Y0 y hyw.1 hyw.2) x hxl
theorem Ady (a:Arm):Gg a->C9 a->∀x∈Ej a,x.fits:=by
 refine Fz (λa=>Gg a->C9 a->∀x∈Ej a,x.fits) ?_ a;intro n cs kids ih h1 h2 x hx;obtain⟨_,hk⟩:=(Gt _ _ _).1 h1;obtain⟨_,_,hc,_,hkf⟩:=(Ee _ _ _).1 h2;rw[Tn] at hx;rcases List.mem_append.1 hx with hx | hx
 ·obtain⟨c,hcm,rfl⟩:=List.mem_map.1 hx
  exact⟨by unfold i64;simp only;omega,hc c hcm⟩
 ·obtain⟨l,hl,hxl⟩:=List.mem_flatten.1 hx
  obtain⟨i,hi,rfl⟩:=List.mem_iff_getElem.1 hl;simp only[List.length_mapIdx] at hi;simp only[List.getElem_mapIdx,Ig,Aus,A4q] at hxl;have hm:=A4k hi;rcases hxl with hxl | hxl | hxl
  ·unfold Em at hxl
   split at hxl
   ·cases hxl
   ·split at hxl
    ·rw[List.mem_singleton.1 hxl];exact Sj (by unfold i64;omega)
    ·split at hxl<;>(rw[List.mem_singleton.1 hxl];exact Sj (by unfold i64;omega))
  ·have h3:=hk _ hm
   have h4:=hkf _ hm;generalize kids[i]=y at*;obtain⟨yn,yc,yk⟩:=y;exact Abb ((Gt _ _ _).1 h3).1 ((Ee _ _ _).1 h4).1 x hxl
  ·exact ih _ hm (hk _ hm) (hkf _ hm) x hxl
theorem Ao2 {l:List Arm} (hf:∀x∈l,C9 x):∀x∈Kq l,x.fits:=by
 intro x hx;obtain⟨r,hr,hxr⟩:=List.mem_flatten.1 hx;obtain⟨a,ha,rfl⟩:=List.mem_map.1 hr;by_cases h0:(Ce l).1=0
 ·have hro:=(V8 hf h0).1 a ha
  have hfa:=(Tv hf).1 a ha;have hn:=hro.net;have hfi:=hro.fineA;clear hro;unfold Fb at hxr;rcases List.mem_append.1 hxr with h | h
  ·exact Y0 _ hn.2.2 (Gy hfa).1 x h
  ·rcases List.mem_append.1 h with h | h
   ·exact Ady a hfi hfa x h
   ·rw[List.mem_singleton.1 h];exact Sj (by unfold i64;omega)
 ·rw[show Bq l=[] by unfold Bq;rw[if_neg h0]] at ha
  cases ha
end Stil
namespace Go.Proofs.YtbfljjcnbbmoaaaGreatDoor
open Go.RowKit Go.Sort Go.BigFrame Go.Co
def IPk (base:Nat) (w:World) (L:List Stil.Ht) (v:Value) (b:Nat) (qs:List (List Pl)):Prop:=
 Qm w v b 0 qs/\Gf w (Du b 0 qs)/\(Du b 0 qs).Nodup/\(∀p∈Du b 0 qs,base<=p.1)/\(0<qs.length->base<=b)/\Td base w v L/\(Du b 0 qs).length<=4611686018427387000
theorem Auw (b:Nat):∀(o:Nat) (qs:List (List Pl)) (N:Nat),(∀q∈qs,q.length<=N)->(Du b o qs).length<=qs.length*(N+2)
 | _,[],_,_=>by simp[Du]
 | o,q::r,N,h=>by
  have ih:=Auw b (o+3) r N λx hx=>h x (by simp[hx])
  have hq:=h q (by simp);rw[Du];simp only[A4e,A4d,Nat.add_mul,Nat.one_mul];omega
theorem A12.pk {w:World} {base:Nat} {v:Value} {ms:List MI} (h:A12 w base v ms) (hf:∀x∈ms,x.e.ds.length<=1048576) (hl:ms.length<=1048576):∃b qs,IPk base w (ms.map MI.inst) v b qs:=by
 obtain⟨B,hbB,hown,hE,hnd,hlt⟩:=h;by_cases h0:ms.length=0
 ·obtain rfl:=List.length_eq_zero_iff.1 h0
  obtain⟨a,cap,rfl⟩:=Af hown;refine⟨0,[],⟨⟨a,cap,rfl,λh=>(by cases h)⟩,λi hi=>(by cases hi)⟩,λp hp=>(by cases hp),List.nodup_nil,λp hp=>(by cases hp),λh=>(by cases h),⟨a,cap,rfl,λi hi=>(by cases hi)⟩,by simp[Du]⟩
 obtain⟨g,cap,hv,hBg,hg,hnc,hc⟩:=Aw hown (by omega);have hpl:=λx hx=>Aly (hE x hx)
 obtain⟨f,hfp⟩:∃f:MI->List Pl,∀x∈ms,Ri x.e.av (f x)/\Gf w (f x)/\(f x).Nodup/\(∀p∈f x,base<=p.1/\x.e.av.ownBlock=some p.1)/\(f x).length=3*x.e.ds.length:=by
  classical
  refine⟨λx=>if h:∃ps:List Pl,Ri x.e.av ps/\Gf w ps/\ps.Nodup/\(∀p∈ps,base<=p.1/\x.e.av.ownBlock=some p.1)/\ps.length=3*x.e.ds.length then h.choose else [],λx hx=>?_⟩;have h:=hpl x hx;simp only[h,dite_true];exact h.choose_spec
 have hcells:∀i (h:i<ms.length),w.cell? ⟨g,i*3,none⟩=some (.int .i64 ms[i].code)/\w.cell? ⟨g,i*3+1,none⟩=some (.int .i64 ms[i].e.op)/\w.cell? ⟨g,i*3+2,none⟩=some ms[i].e.av:=by
  intro i hi;have hget:∀(l:List MI) (i:Nat) (h:i<l.length),(Ep l)[i*3]?=some (.int .i64 l[i].code)/\(Ep l)[i*3+1]?=some (.int .i64 l[i].e.op)/\(Ep l)[i*3+2]?=some l[i].e.av:=by
   intro l;induction l with
   | nil=>intro i h;cases h
   | cons m r ih=>
    intro i h;have e:Ep (m::r)=.int .i64 m.code::.int .i64 m.e.op::m.e.av::Ep r:=rfl;cases i with
    | zero=>exact⟨rfl,rfl,rfl⟩
    | succ i=>
     obtain⟨a1,a2,a3⟩:=ih i (by simpa using h);have e1:(i+1)*3=i*3+1+1+1:=by omega
     rw[e,e1];exact⟨a1,a2,a3⟩
  obtain⟨a1,a2,a3⟩:=hget ms i hi;exact⟨hc _ _ a1,hc _ _ a2,hc _ _ a3⟩
 have hblk:∀x∈ms,∀p∈f x,p.1≠g:=λx hx p hp e=>by
  obtain⟨_,_,_,h4,_⟩:=hfp x hx;have h5:=hlt p.1 (List.mem_filterMap.2 ⟨x.e.av,List.mem_map_of_mem (f:=λy:MI=>y.e.av) hx,(h4 p hp).2⟩);omega
 have hsh:=Alg (w:=w) (b:=g) (cap:=cap) (l:=ms.map MI.inst) (qs:=ms.map f) hg (by simp) (λi hi=>by
   simp only[A4t] at hi;obtain⟨c0,c1,c2⟩:=hcells i hi;obtain⟨h1,_⟩:=hfp ms[i] (A4k hi);simp only[List.getElem_map];exact⟨c0,c1,_,c2,h1,Bg.of_owns (hE _ (A4k hi))⟩) (λo=>by
   have hown':=hown;rw[hv] at hown';exact hown'.frozenAt o) (λq hq=>by
   obtain⟨x,hx,rfl⟩:=List.mem_map.1 hq;obtain⟨_,h2,h3,_⟩:=hfp x hx;exact⟨h2,h3,hblk x hx⟩) (by
   rw[List.pairwise_map];have hp:ms.Pairwise λx y=>∀k,x.e.av.ownBlock=some k->y.e.av.ownBlock≠some k:=by
    clear hcells hblk hfp hpl hc hown hE hf hl h0 hlt hv hnc;induction ms with
    | nil=>exact List.Pairwise.nil
    | cons m r ih=>
     rw[A4v] at hnd;unfold bl at hnd;rw[List.filterMap_cons] at hnd;refine List.pairwise_cons.2 ⟨λy hy k hk hyk=>?_,?_⟩
     ·rw[hk] at hnd
      exact(List.nodup_cons.1 hnd).1 (List.mem_filterMap.2 ⟨y.e.av,List.mem_map_of_mem (f:=λz:MI=>z.e.av) hy,hyk⟩)
     ·refine ih ?_
      unfold bl
      revert hnd
      cases m.e.av.ownBlock with
      | none=>exact id
      | some k=>exact λh=>(List.nodup_cons.1 h).2
   refine hp.imp_of_mem fun {x y} hx hy hxy p hp1 hp2=>?_
   obtain⟨_,_,_,h4,_⟩:=hfp x hx;obtain⟨_,_,_,h4',_⟩:=hfp y hy
   exact hxy p.1 (h4 p hp1).2 (h4' p hp2).2)
 obtain⟨s1,s2,s3,_⟩:=hsh;rw[A4t] at s1;rw[hv];refine⟨g,ms.map f,s1,s2,s3,λp hp=>?_,λ_=>by omega,?_,?_⟩
 ·rcases Si g _ 0 p hp with⟨i,_,e | e⟩ | ⟨q,hq,hpq⟩
  ·rw[e];exact A4p hbB hBg
  ·rw[e];exact A4p hbB hBg
  ·obtain⟨x,hx,rfl⟩:=List.mem_map.1 hq
   exact((hfp x hx).2.2.2.1 p hpq).1
 ·refine⟨some ⟨g,0,none⟩,cap,by rw[A4t],λi hi=>?_⟩
  simp only[A4t] at hi;obtain⟨c0,c1,c2⟩:=hcells i hi;simp only[List.getElem_map];refine⟨g,0,rfl,A4p hbB hBg,hg,?_⟩;rw[A4m];exact⟨c0,c1,_,c2,Ha.of_owns (hE _ (A4k hi))⟩
 ·have:=Auw g 0 (ms.map f) 3145728 λq hq=>by
   obtain⟨x,hx,rfl⟩:=List.mem_map.1 hq;have:=(hfp x hx).2.2.2.2
   have:=hf x hx
   omega
  rw[A4t] at this;have h2:ms.length*(3145728+2)<=1048576*(3145728+2):=Nat.mul_le_mul_right _ hl;omega
section
variable {base : Nat} {w w' : World} {L : List Stil.Ht} {v : Value} {b : Nat} {qs : List (List Pl)}
theorem IPk.lt (h:IPk base w L v b qs):∀p∈Du b 0 qs,p.1<w.heap.size:=λp hp=>(h.2.1 p hp).1
theorem IPk.below (h:IPk base w L v b qs) (hb:Below w.heap.size w w'):IPk base w' L v b qs:=⟨h.1.below hb,h.2.1.below hb,h.2.2.1,h.2.2.2.1,h.2.2.2.2.1,h.2.2.2.2.2.1.keep (Jd.of_below hb),h.2.2.2.2.2.2⟩
theorem IPk.marked {ps:List Pl} {k:Int} (h:IPk base w L v b qs) (hm:Dh w w' ps k) (hp:∀p∈ps,p.1<base):IPk base w' L v b qs:=by
 obtain⟨h1,h2,h3,h4,h5,h6,h7⟩:=h;have hk:Jd base w w':=⟨hm.1,λb o hb hz=>hm.2.1 (b,o) hz (λh=>by have:=hp _ h;simp only at this;omega)⟩
 exact⟨h1.marked hm (λi hi hx=>by have:=hp _ hx;have:=h5 (by omega);simp only at*;omega),h2.marked hm (λp hp1 hp2=>by have:=hp p hp2;have:=h4 p hp1;omega),h3,h4,h5,h6.keep hk,h7⟩
theorem IPk.mark (h:IPk base w L v b qs):Calls Tryz.prog 12 #[v, .int .i64 1] w λe w'=>e=.returned (.int .i64 (1+(Du b 0 qs).length))/\Dh w w' (Du b 0 qs) 1:=
 Akx v b 0 qs 1 w h.1 h.2.1 h.2.2.1 (by omega) (by have:=h.2.2.2.2.2.2;omega)
def IHd (w:World) (v:Value) (b:Nat) (qs:List (List Pl)):Prop:=Qm w v b 0 qs/\Qn w (Du b 0 qs) 1/\(∀p∈Du b 0 qs,p.1<w.heap.size)/\(Du b 0 qs).length<=4611686018427387000
theorem IPk.hd (h:IPk base w L v b qs) (hm:Dh w w' (Du b 0 qs) 1):IHd w' v b qs:=
 ⟨h.1.marked hm (λi hi=>(h.1.2 i hi).2.1),hm.held,λp hp=>A4c (h.lt p hp) hm.1,h.2.2.2.2.2.2⟩
theorem IHd.below (h:IHd w v b qs) (hb:Below w.heap.size w w'):IHd w' v b qs:=⟨h.1.below hb,h.2.1.below hb h.2.2.1,λp hp=>A4c (h.2.2.1 p hp) hb.size,h.2.2.2⟩
theorem IHd.held (h:IHd w v b qs):Calls Tryz.prog 13 #[v, .int .i64 1] w λe w'=>e=.returned (.int .i64 (1+(Du b 0 qs).length))/\w'=w:=
 Akz v b 0 qs 1 w h.1 h.2.1 (by omega) (by have:=h.2.2.2;omega)
end
end Go.Proofs.YtbfljjcnbbmoaaaGreatDoor
