import Derived.Test.YtbfljjcnbbmoaaaGreatDoorM56
import Derived.Test.YtbfljjcnbbmoaaaGreatDoorGb
import Derived.Test.YtbfljjcnbbmoaaaGreatDoorGq
import Derived.Test.YtbfljjcnbbmoaaaGreatDoorS34
import Derived.Test.YtbfljjcnbbmoaaaGreatDoorGL
import Derived.Test.YtbfljjcnbbmoaaaGreatDoorHg
import Derived.Test.YtbfljjcnbbmoaaaGreatDoorGY
import Derived.Test.YtbfljjcnbbmoaaaGreatDoorG1
import Derived.Test.YtbfljjcnbbmoaaaGreatDoorGf
import Derived.Test.YtbfljjcnbbmoaaaGreatDoorCI4
namespace Stil
end Stil
namespace Go.Proofs.YtbfljjcnbbmoaaaGreatDoor
open Go.RowKit Go.Sort Go.BigFrame
end Go.Proofs.YtbfljjcnbbmoaaaGreatDoor
namespace Go.Proofs.YtbfljjcnbbmoaaaGreatDoor
open Stil
open Go.RowKit Go.Sort Go.BigFrame
set_option maxHeartbeats 4000000 in
set_option maxRecDepth 100000 in
theorem Ao8 (l:List Stil.Arm)(kv:Value)(w:World)(hkv:Dj w kv l)(hl:l.length<=1048576)(hsz:Ce l<=1000000000)(hft:∀x∈l,Ci x):
  Calls Tryz.prog 6 #[kv] w λe w'=>∃(a:Option Addr) (c:Nat) (ms:List MI),e=.returned (.slice a ms.length c)/\ms.map MI.inst=H6 l/\Ku w' w.heap.size (.slice a ms.length c) ms/\Below w.heap.size w w':=by
 have xN:=hid (λW h=>Aao l kv W (hkv.below h) hl hsz hft);obtain⟨kD,lH,oD⟩:=I9 hft;have HG:Hid (∀x∈Bc l,Aw1 18 x.net (D7 x.net)/\A3c 19 x (Ey x)):=by
  intro x hx;by_cases h0:(Bo l).1=0
  ·have hr:=(Xg hft h0).1 x hx
   have hfx:=kD x hx;have hs:=hr.size;refine⟨?_,s_tail x hr.fineA hfx hs⟩;have h1:=hr.net;obtain⟨xn,xc,xk⟩:=x;rw[Cc] at hs;refine A2g xn h1.2.2 ((Em _ _ _).1 hfx).1 ?_;have:=Stil.size_le xn
   omega
  ·rw[show Bc l=[] by unfold Bc;rw[if_neg h0]] at hx
   cases hx
 have dD:Hid (∀(j:Nat) (ms:List MI),ms.map MI.inst=(((Bc l).map F7).take j).flatten->ms.length<=800):=by
  intro j ms h;rw[<-A4o (f:=MI.inst),h];have h1:=Yk hft;unfold H6 at h1;have h2:(((Bc l).map F7).take j).flatten.length<=((Bc l).map F7).flatten.length:=by
   conv=>rhs;rw[<-List.take_append_drop j ((Bc l).map F7),List.flatten_append,A38]
   omega
  omega
 have oK:Hid (H6 l=((Bc l).map F7).flatten):=rfl;rw[oK.out];obtain⟨L,hL⟩:∃L,L=Bc l:=⟨_,rfl⟩
 rw[<-hL] at xN HG dD oD ⊢;obtain⟨p0,r0,rfl,_⟩:=hkv;clear hL oK kD lH hft;go_enter Tryz.func6,Tryz.ntmps6
 go_wp2_with (go_at_call 17;refine(xN _ blA).mono ?_;rintro e w1 ⟨⟨a1,c1,ns,rfl,hns,hr1⟩,hb1⟩;have xA:Hid (Ri w1 (.slice a1 ns.length c1) L):=(by have:=(AOk.T _ (P7 hr1).1).2.2.2;have hk:(Ac3 (.slice a1 ns.length c1) ns).arm.kids=L:=(by rw[Aw.arm_eq];exact hns);rw[hk] at this;exact this);have hnl:ns.length=L.length:=(by rw[<-hns,A4o]);clear hr1 hns)
 rw[hnl] at xA;clear hnl;have aS:=hb1;go_loopw [4,5] (λd i wr=>∃(j:Nat) (ra:Option Addr) (rc:Nat) (ls:List MI),j<=L.length/\i=.int .i64 (j:Int)/\d=.slice ra ls.length rc/\ls.map MI.inst=((L.map F7).take j).flatten/\Ku wr w1.heap.size (.slice ra ls.length rc) ls/\Below w1.heap.size w1 wr) (λ_ i _=>L.length - (intOf i).toNat)
 case atStart=>
  refine⟨0,some ⟨w1.heap.size,0,none⟩,0,[],omz,rfl,rfl,spz,⟨?_,λx hx=>by cases hx⟩,Aa w1 _⟩;exact World.ownsRow_lit w1 #[] 0 (A4d _) (by unfold maxLen;omega) rfl
 case round=>
  obtain⟨j,ra,rc,ls,hj,rfl,rfl,hls,hlr,hb⟩:=hrel;have iP:=hid hls;have iQ:=hid hlr;have hln:=dD j ls hls;clear hls hlr;have jR:=hb.size;by_cases hlt:j<L.length
  ·obtain⟨pa,pc,hpe,_,hpc⟩:=xA.shape
   simp only[Value.slice.injEq,true_and] at hpe;obtain⟨rfl,rfl⟩:=hpe;obtain⟨b,o,gQ,hbl,hn⟩:=hpc j hlt;subst gQ;obtain⟨hna,cv,kv,x4,x5,hcv,hkv⟩:=hn.open;obtain⟨x0,x1,av,nv,x2,x3,hav,hnv⟩:=hna.open;have HI:=hid (λV h=>(HG L[j] (A4f hlt)).2 av nv cv kv V (hav.below h) (hnv.below h) (hcv.below h) (hkv.below h));have qA:=hid (λV h=>(HG L[j] (A4f hlt)).1 av nv V (hav.below h) (hnv.below h));have aT:((L.map F7).take (j+1)).flatten=((L.map F7).take j).flatten++(D7 L[j].net++(Ey L[j]++[Nv 11])):=by
    rw[A4r (by simpa using hlt),List.flatten_append];simp[F7]
   have dH:Hid (∀kb kt:List MI,kb.map MI.inst=D7 L[j].net->kt.map MI.inst=Ey L[j]->(ls.length+kb.length+kt.length+1<=800)/\(((ls++kb)++kt)++[mi0 11]).map MI.inst=((L.map F7).take (j+1)).flatten):=by
    intro kb kt hkb hkt;have e0:(((ls++kb)++kt)++[mi0 11]).map MI.inst=((L.map F7).take (j+1)).flatten:=by
     rw[A4m,A4m,A4m,iP.out,hkb,hkt,aT];simp only[A4w];rfl
    have:=dD _ _ e0
    simp only[A38,A39,A4a] at this;exact⟨omz,e0⟩
   clear aT;have HLB:Hid (∀kb:List MI,kb.map MI.inst=D7 L[j].net->ls.length+kb.length<=800):=by
    intro kb hkb;obtain⟨uC,uJ⟩:∃uC:List MI,uC.map MI.inst=Ey L[j]:=⟨(Ey L[j]).map λi=>⟨i.code,⟨i.one.op,i.one.args, .slice none 0 0⟩⟩,by rw[List.map_map];exact(List.map_congr_left λi _=>rfl).trans (List.map_id _)⟩
    have:=(dH kb uC hkb uJ).1
    omega
   obtain⟨x,hx⟩:∃x,x=L[j]:=⟨_,rfl⟩
   rw[<-hx] at HI qA dH HLB x0 x1 hav hnv hcv hkv;obtain⟨q0,s0,rfl,_⟩:=hav.shape;obtain⟨q1,s1,rfl,_,_⟩:=hnv.shape;obtain⟨q2,s2,rfl,_⟩:=hcv.shape;obtain⟨q3,s3,rfl,_,_⟩:=hkv.shape;have kJ:Hid (∀V,Below w1.heap.size w1 V->V.cell? ⟨b,o+j*6,none⟩=some (.int .i64 x.net.kind)/\V.cell? ⟨b,o+j*6+1,none⟩=some (.int .i64 x.net.one.op)/\V.cell? ⟨b,o+j*6+2,none⟩=some (.slice q0 x.net.one.args.length s0)/\V.cell? ⟨b,o+j*6+3,none⟩=some (.slice q1 x.net.kids.length s1)/\V.cell? ⟨b,o+j*6+4,none⟩=some (.slice q2 x.coils.length s2)/\V.cell? ⟨b,o+j*6+5,none⟩=some (.slice q3 x.kids.length s3)):=λV hV=>by
    have e1:=hV.block b hbl;exact⟨(World.cell?_of_block (a:=⟨b,_,none⟩) e1).trans x0,(World.cell?_of_block (a:=⟨b,_,none⟩) e1).trans x1,(World.cell?_of_block (a:=⟨b,_,none⟩) e1).trans x2,(World.cell?_of_block (a:=⟨b,_,none⟩) e1).trans x3,(World.cell?_of_block (a:=⟨b,_,none⟩) e1).trans x4,(World.cell?_of_block (a:=⟨b,_,none⟩) e1).trans x5⟩
   obtain⟨x0w,x1w,x2w,x3w,x4w,x5w⟩:=kJ wr hb;have hj2:(j:Int)<(L.length:Int):=omz
   clear hx hn hna hpc hav hnv hcv hkv x0 x1 x2 x3 x4 x5 dD HG xA xN hbl
   go_wp2_with (first | (at_builtin;refine F6 (m:=mi0 11) rfl _ _ rfl w1.heap.size a5 c5 ((ls++kb)++kt) (by first | rfl | (simp[Act.eval,Nat.add_assoc];done) | (simp[Act.eval];omega)) (by first | rfl | (simp[Act.eval];done)) rM (Yg _ _ _ _) (by have:=(dH kb kt HKB kN.out).1;simp only[A38];omega) gB.size ?_;intro a6 c6 w6 hr6 hb6;have HR6:=hid hr6;clear hr6;have yf:=gB.trans hb6) | (at_builtin;refine Eb rfl _ _ rfl w1.heap.size w3.heap.size w3 a3 c3 (ls++kb) kt a4 c4 (by first | rfl | (simp[Act.eval];done)) rfl HR3 rH hb4 (A4d _) (by have:=(dH kb kt HKB kN.out).1;simp only[A38];omega) hbw3.size ?_;intro a5 c5 w5 kY hb5;have rM:Hid (Ku w5 w1.heap.size (.slice a5 ((ls++kb)++kt).length c5) ((ls++kb)++kt)):=(by rw[A38];exact kY);clear kY;have gB:=hbw3.trans ((hb4.mono hbw3.size).trans hb5)) | (go_at_call 19;refine(HI w3 hbw3).mono ?_;rintro e w4 ⟨a4,c4,kt,rfl,hkt,hr4,hb4⟩;have kN:=hid hkt;have rH:=hid hr4;clear hkt hr4) | (at_builtin;refine Eb rfl _ _ rfl w1.heap.size wr.heap.size wr ra rc ls kb a2 c2 rfl rfl iQ mF hb2 (A4d _) (by have:=HLB kb HKB.out;omega) jR ?_;intro a3 c3 w3 hr3 hb3;have HR3:Hid (Ku w3 w1.heap.size (.slice a3 (ls++kb).length c3) (ls++kb)):=(by rw[A38];exact hr3);clear hr3;have hbw3:=hb.trans ((hb2.mono jR).trans hb3);obtain⟨lm,lg,x23,kz,x43,ku⟩:=kJ w3 hbw3) | (go_at_call 18;refine(qA wr hb).mono ?_;rintro e w2 ⟨a2,c2,kb,rfl,hkb,hr2,hb2⟩;have HKB:=hid hkb;have mF:=hid hr2;clear hkb hr2))
   exact⟨⟨j+1,a6,c6,((ls++kb)++kt)++[mi0 11],omz,by go_num,by rw[Value.slice.injEq];refine⟨rfl,?_,rfl⟩;simp only[A38,A39,A4a];try omega,(dH kb kt HKB kN.out).2,by rw[A38];exact HR6.out,yf⟩,by simp[intOf];omega⟩
  ·obtain rfl:j=L.length:=by omega
   have hmn:=iP.out;rw[A43 spz] at hmn;have wC:=hid hmn;clear hmn
   go_wp2
   go_ret;exact⟨ra,rc,ls,rfl,wC.out,iQ.le aS.size,aS.trans (hb.mono aS.size)⟩
end Go.Proofs.YtbfljjcnbbmoaaaGreatDoor
namespace Go.Proofs.YtbfljjcnbbmoaaaGreatDoor
open Stil
open Go.RowKit Go.Sort Go.BigFrame
theorem Ku.nil (w:World)(base:Nat):Ku w base (.slice none 0 0) []:=⟨World.ownsRow_nil _ _ _ _,λx hx=>by cases hx⟩
set_option maxHeartbeats 4000000 in
set_option maxRecDepth 100000 in
theorem Atx (l:List Stil.Arm)(kv:Value)(w:World)(hkv:Dj w kv l)(hl:l.length<=1048576)(hsz:Ce l<=1000000000)(hft:∀x∈l,Ci x):
  Calls Tryz.prog 14 #[kv] w λe w'=>∃(a:Option Addr) (c:Nat) (ms:List MI),e=.returned (.tuple #[.slice a ms.length c, .int .i64 (H7 l).2])/\ms.map MI.inst=(H7 l).1/\Ku w' w.heap.size (.slice a ms.length c) ms/\Below w.heap.size w w':=by
 have HT:=hid (λW h=>Acy l kv W (hkv.below h) hl hsz hft);have HB:=hid (λW h=>Aty l kv W (hkv.below h) hl hsz hft);have HK:=hid (λW h=>Ao9 l kv W (hkv.below h) hl hsz hft);have HP:=hid (λW h=>Ao8 l kv W (hkv.below h) hl hsz hft);have hD:H7 l=if 0<(Bo l).1 then([],1) else if 16<Ll l\/8<I5 l then([],2) else(H6 l,0):=rfl
 obtain⟨p0,r0,rfl,_⟩:=hkv;rw[hD];clear hD hft hsz;generalize (Bo l).1=c at*;generalize (Bo l).2=r at*;generalize Ll l=x at*;generalize I5 l=y at*;generalize H6 l=L at*;have hfc:=Aax;by_cases h0:0<c
 ·rw[if_pos h0]
  clear HB HK HP;go_enter Tryz.func14,Tryz.ntmps14
  go_wp2_with (go_at_call 29;refine(HT _ blA).mono ?_;rintro e w1 ⟨rfl,hb1⟩)
  refine bodyPost_ret (v:=.tuple #[.slice none 0 0, .int .i64 1]) (by simp[results,Tryz.results14,go_sem]) rfl ⟨none,0,[],rfl,rfl,Ku.nil _ _,blA⟩
 rw[if_neg h0];by_cases h1:(16:Int)<x
 ·rw[if_pos (.inl omz)]
  clear HK HP;go_enter Tryz.func14,Tryz.ntmps14
  go_wp2_with (first | (go_at_call 29;refine(HT _ blA).mono ?_;rintro e w1 ⟨rfl,hb1⟩) | (go_at_call 30;refine(HB _ blA).mono ?_;rintro e w2 ⟨rfl,hb2⟩))
  refine bodyPost_ret (v:=.tuple #[.slice none 0 0, .int .i64 2]) (by simp[results,Tryz.results14,go_sem]) rfl ⟨none,0,[],rfl,rfl,Ku.nil _ _,blA⟩
 by_cases h2:(8:Int)<y
 ·rw[if_pos (.inr omz)]
  clear HP;go_enter Tryz.func14,Tryz.ntmps14
  go_wp2_with (first | (go_at_call 29;refine(HT _ blA).mono ?_;rintro e w1 ⟨rfl,hb1⟩) | (go_at_call 30;refine(HB _ blA).mono ?_;rintro e w2 ⟨rfl,hb2⟩) | (go_at_call 31;refine(HK _ blA).mono ?_;rintro e w3 ⟨rfl,hb3⟩))
  refine bodyPost_ret (v:=.tuple #[.slice none 0 0, .int .i64 2]) (by simp[results,Tryz.results14,go_sem]) rfl ⟨none,0,[],rfl,rfl,Ku.nil _ _,blA⟩
 rw[if_neg omz];go_enter Tryz.func14,Tryz.ntmps14
 go_wp2_with (first | (go_at_call 29;refine(HT _ blA).mono ?_;rintro e w1 ⟨rfl,hb1⟩) | (go_at_call 30;refine(HB _ blA).mono ?_;rintro e w2 ⟨rfl,hb2⟩) | (go_at_call 31;refine(HK _ blA).mono ?_;rintro e w3 ⟨rfl,hb3⟩) | (go_at_call 6;refine(HP _ blA).mono ?_;rintro e w4 ⟨a4,c4,ms,rfl,hms,hr4,hb4⟩;have HR4:=hid (hr4.le (by have:Below w.heap.size w w3:=blA;exact this.size));have dP:=hid hms;clear hr4 hms))
 refine bodyPost_ret (v:=.tuple #[.slice a4 ms.length c4, .int .i64 0]) (by simp[results,Tryz.results14,go_sem]) rfl ⟨a4,c4,ms,rfl,dP.out,HR4.out,blA⟩
end Go.Proofs.YtbfljjcnbbmoaaaGreatDoor
namespace Go.Proofs.YtbfljjcnbbmoaaaGreatDoor
open Stil
open Go.RowKit Go.Sort Go.BigFrame
theorem Ahj (la:List Stil.Arm):Ce la<=2*Qx la:=by
 unfold Ce Qx;induction la with
 | nil=>simp
 | cons x r ih=>
  have:=Ar6 x
  simp only[A4q,List.sum_cons,A39] at ih ⊢;omega
end Go.Proofs.YtbfljjcnbbmoaaaGreatDoor
namespace Go.Proofs.YtbfljjcnbbmoaaaGreatDoor
open Go.RowKit Go.Sort Go.BigFrame
end Go.Proofs.YtbfljjcnbbmoaaaGreatDoor
namespace Go.Proofs.YtbfljjcnbbmoaaaGreatDoor
open Go.RowKit Go.Sort Go.BigFrame
theorem Ayg (l:List Stil.Rl)(hf:∀x∈l,x.fits)(hl:l.length<=1048576)(v u:Value)(W:World)(hat:Jn W v l)(jS:Jn W u l):
  Calls Tryz.prog 9 #[v,u] W λe w'=>e=.returned (.bool true)/\Below W.heap.size W w':=
 Au7 l (λx hx=>Ayh x (hf x hx)) v u W hat jS hl
end Go.Proofs.YtbfljjcnbbmoaaaGreatDoor
namespace Stil
theorem Ub {k:Int}(h:i64 k):(Nv k).fits:=⟨h,by unfold i64;simp[Nv],by simp[Nv],λd hd=>by cases hd⟩
theorem Ai9 {k:Int}{n:Net}(hk:k=2\/k=3)(hn:Dc n)(h:∀x∈D7 n,x.fits):∀x∈Ec k n,x.fits:=by
 intro x hx;unfold Ec Ato at hx;split at hx
 ·rw[List.mem_singleton.1 hx];exact⟨by unfold i64;simp only;omega,(Dp hn).2.1⟩
 ·rcases List.mem_append.1 hx with hx | hx
  ·exact h x hx
  ·rw[List.mem_singleton.1 hx];exact Ub (by unfold i64;omega)
theorem Zk (n:Net):Au n=0->Dc n->∀x∈D7 n,x.fits:=by
 refine Fh (λn=>Au n=0->Dc n->∀x∈D7 n,x.fits) ?_ n;intro k e kids ih hw hf x hx;have bK:=(Hu _ _ _).1 hf;have hkw:=Ky hw;simp only at hkw;rcases Ho hw with⟨rfl,rfl⟩ | ⟨h1,h0,_⟩ | ⟨rfl,_,y,rfl,_⟩
 ·rw[Uw] at hx
  rw[List.mem_singleton.1 hx];exact⟨by unfold i64;simp only;omega,bK.2.1⟩
 ·cases kids with
  | nil=>simp at h0
  | cons y r=>
   rw[Rz e y r omz omz] at hx;rcases List.mem_append.1 hx with hx | hx
   ·exact ih y spz (hkw y spz) (bK.2.2.2 y spz) x hx
   ·obtain⟨l,hl,hxl⟩:=List.mem_flatten.1 hx
    obtain⟨z,hz,rfl⟩:=List.mem_map.1 hl;exact Ai9 omz (bK.2.2.2 z (by simp[hz])) (ih z (by simp[hz]) (hkw z (by simp[hz])) (bK.2.2.2 z (by simp[hz]))) x hxl
 ·rw[Ux] at hx
  rcases List.mem_append.1 hx with hx | hx
  ·exact ih y spz (hkw y spz) (bK.2.2.2 y spz) x hx
  ·rw[List.mem_singleton.1 hx];exact Ub (by unfold i64;omega)
theorem Ab0 {n:Net}(h:Ir n)(hf:Dc n):∀x∈E5 n,x.fits:=by
 intro x hx;obtain⟨l,hl,hxl⟩:=List.mem_flatten.1 hx;obtain⟨y,hy,rfl⟩:=List.mem_map.1 hl;have qF:Au y=0/\Dc y:=by
  unfold Di at hy;split at hy
  ·cases hy
  ·rename_i hn
   have hfn:=h.resolve_left hn;split at hy
   ·exact⟨Ky hfn.2.2 y hy,(Dp hf).2.2.2 y hy⟩
   ·rw[List.mem_singleton.1 hy];exact⟨hfn.2.2,hf⟩
 exact Ai9 (.inl rfl) qF.2 (Zk y qF.1 qF.2) x hxl
theorem Aeq (a:Arm):Fq a->Ci a->∀x∈Ey a,x.fits:=by
 refine Fg (λa=>Fq a->Ci a->∀x∈Ey a,x.fits) ?_ a;intro n cs kids ih h1 h2 x hx;obtain⟨_,hk⟩:=(Eu _ _ _).1 h1;obtain⟨_,_,hc,_,bK⟩:=(Em _ _ _).1 h2;rw[Ur] at hx;rcases List.mem_append.1 hx with hx | hx
 ·obtain⟨c,hcm,rfl⟩:=List.mem_map.1 hx
  exact⟨by unfold i64;simp only;omega,hc c hcm⟩
 ·obtain⟨l,hl,hxl⟩:=List.mem_flatten.1 hx
  obtain⟨i,hi,rfl⟩:=List.mem_iff_getElem.1 hl;simp only[List.length_mapIdx] at hi;simp only[List.getElem_mapIdx,Ip,Avd,A4l] at hxl;have hm:=A4f hi;rcases hxl with hxl | hxl | hxl
  ·unfold Ez at hxl
   split at hxl
   ·cases hxl
   ·split at hxl
    ·rw[List.mem_singleton.1 hxl];exact Ub (by unfold i64;omega)
    ·split at hxl<;>(rw[List.mem_singleton.1 hxl];exact Ub (by unfold i64;omega))
  ·have h3:=hk _ hm
   have h4:=bK _ hm;generalize kids[i]=y at*;obtain⟨yn,yc,yk⟩:=y;exact Ab0 ((Eu _ _ _).1 h3).1 ((Em _ _ _).1 h4).1 x hxl
  ·exact ih _ hm (hk _ hm) (bK _ hm) x hxl
theorem Apm {l:List Arm}(hf:∀x∈l,Ci x):∀x∈H6 l,x.fits:=by
 intro x hx;obtain⟨r,hr,hxr⟩:=List.mem_flatten.1 hx;obtain⟨a,ha,rfl⟩:=List.mem_map.1 hr;by_cases h0:(Bo l).1=0
 ·have hro:=(Xg hf h0).1 a ha
  have hfa:=(I9 hf).1 a ha;have hn:=hro.net;have hfi:=hro.fineA;clear hro;unfold F7 at hxr;rcases List.mem_append.1 hxr with h | h
  ·exact Zk _ hn.2.2 (G8 hfa).1 x h
  ·rcases List.mem_append.1 h with h | h
   ·exact Aeq a hfi hfa x h
   ·rw[List.mem_singleton.1 h];exact Ub (by unfold i64;omega)
 ·rw[show Bc l=[] by unfold Bc;rw[if_neg h0]] at ha
  cases ha
end Stil
namespace Go.Proofs.YtbfljjcnbbmoaaaGreatDoor
open Go.RowKit Go.Sort Go.BigFrame Go.Co
def IPk (base:Nat)(w:World)(L:List Stil.Rl)(v:Value)(b:Nat)(qs:List (List Pl)):Prop:=
 Q8 w v b 0 qs/\Gn w (Dz b 0 qs)/\(Dz b 0 qs).Nodup/\(∀p∈Dz b 0 qs,base<=p.1)/\(0<qs.length->base<=b)/\Uj base w v L/\(Dz b 0 qs).length<=4611686018427387000
theorem Avh (b:Nat):∀(o:Nat) (qs:List (List Pl)) (N:Nat),(∀q∈qs,q.length<=N)->(Dz b o qs).length<=qs.length*(N+2)
 | _,[],_,_=>by simp[Dz]
 | o,q::r,N,h=>by
  have ih:=Avh b (o+3) r N λx hx=>h x (by simp[hx])
  have hq:=h q spz;rw[Dz];simp only[A39,A38,Nat.add_mul,Nat.one_mul];omega
theorem Aov.pk {w:World}{base:Nat}{v:Value}{ms:List MI}(h:Aov w base v ms)(hf:∀x∈ms,x.e.ds.length<=1048576)(hl:ms.length<=1048576):∃b qs,IPk base w (ms.map MI.inst) v b qs:=by
 obtain⟨B,hbB,hown,hE,hnd,hlt⟩:=h;by_cases h0:ms.length=0
 ·obtain rfl:=List.length_eq_zero_iff.1 h0
  obtain⟨a,cap,rfl⟩:=Af hown;refine⟨0,[],⟨⟨a,cap,rfl,λh=>(by cases h)⟩,λi hi=>(by cases hi)⟩,λp hp=>(by cases hp),List.nodup_nil,λp hp=>(by cases hp),λh=>(by cases h),⟨a,cap,rfl,λi hi=>(by cases hi)⟩,by simp[Dz]⟩
 obtain⟨g,cap,hv,hBg,hg,hnc,hc⟩:=Az hown omz;have hpl:=λx hx=>Amn (hE x hx)
 obtain⟨f,hfp⟩:∃f:MI->List Pl,∀x∈ms,Sv x.e.av (f x)/\Gn w (f x)/\(f x).Nodup/\(∀p∈f x,base<=p.1/\x.e.av.ownBlock=some p.1)/\(f x).length=3*x.e.ds.length:=by
  classical
  refine⟨λx=>if h:∃ps:List Pl,Sv x.e.av ps/\Gn w ps/\ps.Nodup/\(∀p∈ps,base<=p.1/\x.e.av.ownBlock=some p.1)/\ps.length=3*x.e.ds.length then h.choose else [],λx hx=>?_⟩;have h:=hpl x hx;simp only[h,dite_true];exact h.choose_spec
 have hcells:∀i (h:i<ms.length),w.cell? ⟨g,i*3,none⟩=some (.int .i64 ms[i].code)/\w.cell? ⟨g,i*3+1,none⟩=some (.int .i64 ms[i].e.op)/\w.cell? ⟨g,i*3+2,none⟩=some ms[i].e.av:=by
  intro i hi;have hget:∀(l:List MI) (i:Nat) (h:i<l.length),(Fa l)[i*3]?=some (.int .i64 l[i].code)/\(Fa l)[i*3+1]?=some (.int .i64 l[i].e.op)/\(Fa l)[i*3+2]?=some l[i].e.av:=by
   intro l;induction l with
   | nil=>intro i h;cases h
   | cons m r ih=>
    intro i h;have e:Fa (m::r)=.int .i64 m.code::.int .i64 m.e.op::m.e.av::Fa r:=rfl;cases i with
    | zero=>exact⟨rfl,rfl,rfl⟩
    | succ i=>
     obtain⟨a1,a2,a3⟩:=ih i (by simpa using h);have e1:(i+1)*3=i*3+1+1+1:=omz
     rw[e,e1];exact⟨a1,a2,a3⟩
  obtain⟨a1,a2,a3⟩:=hget ms i hi;exact⟨hc _ _ a1,hc _ _ a2,hc _ _ a3⟩
 have hblk:∀x∈ms,∀p∈f x,p.1≠g:=λx hx p hp e=>by
  obtain⟨_,_,_,h4,_⟩:=hfp x hx;have h5:=hlt p.1 (List.mem_filterMap.2 ⟨x.e.av,List.mem_map_of_mem (f:=λy:MI=>y.e.av) hx,(h4 p hp).2⟩);omega
 have hsh:=Al8 (w:=w) (b:=g) (cap:=cap) (l:=ms.map MI.inst) (qs:=ms.map f) hg spz (λi hi=>by
   simp only[A4o] at hi;obtain⟨c0,c1,c2⟩:=hcells i hi;obtain⟨h1,_⟩:=hfp ms[i] (A4f hi);simp only[List.getElem_map];exact⟨c0,c1,_,c2,h1,Bi.of_owns (hE _ (A4f hi))⟩) (λo=>by
   have hown':=hown;rw[hv] at hown';exact hown'.frozenAt o) (λq hq=>by
   obtain⟨x,hx,rfl⟩:=List.mem_map.1 hq;obtain⟨_,h2,h3,_⟩:=hfp x hx;exact⟨h2,h3,hblk x hx⟩) (by
   rw[List.pairwise_map];have hp:ms.Pairwise λx y=>∀k,x.e.av.ownBlock=some k->y.e.av.ownBlock≠some k:=by
    clear hcells hblk hfp hpl hc hown hE hf hl h0 hlt hv hnc;induction ms with
    | nil=>exact List.Pairwise.nil
    | cons m r ih=>
     rw[A4q] at hnd;unfold bl at hnd;rw[List.filterMap_cons] at hnd;refine List.pairwise_cons.2 ⟨λy hy k hk hyk=>?_,?_⟩
     ·rw[hk] at hnd
      exact(List.nodup_cons.1 hnd).1 (List.mem_filterMap.2 ⟨y.e.av,List.mem_map_of_mem (f:=λz:MI=>z.e.av) hy,hyk⟩)
     ·refine ih ?_
      unfold bl
      revert hnd
      cases m.e.av.ownBlock with
      | none=>exact id
      | some k=>exact λh=>(List.nodup_cons.1 h).2
   refine hp.imp_of_mem fun {x y} hx hy hxy p hp1 hp2=>?_
   obtain⟨_,_,_,h4,_⟩:=hfp x hx;obtain⟨_,_,_,h4',_⟩:=hfp y hy
   exact hxy p.1 (h4 p hp1).2 (h4' p hp2).2)
 obtain⟨s1,s2,s3,_⟩:=hsh;rw[A4o] at s1;rw[hv];refine⟨g,ms.map f,s1,s2,s3,λp hp=>?_,λ_=>by omega,?_,?_⟩
 ·rcases Ua g _ 0 p hp with⟨i,_,e | e⟩ | ⟨q,hq,hpq⟩
  ·rw[e];exact A4k hbB hBg
  ·rw[e];exact A4k hbB hBg
  ·obtain⟨x,hx,rfl⟩:=List.mem_map.1 hq
   exact((hfp x hx).2.2.2.1 p hpq).1
 ·refine⟨some ⟨g,0,none⟩,cap,by rw[A4o],λi hi=>?_⟩
  simp only[A4o] at hi;obtain⟨c0,c1,c2⟩:=hcells i hi;simp only[List.getElem_map];refine⟨g,0,rfl,A4k hbB hBg,hg,?_⟩;rw[A4h];exact⟨c0,c1,_,c2,Hl.of_owns (hE _ (A4f hi))⟩
 ·have:=Avh g 0 (ms.map f) 3145728 λq hq=>by
   obtain⟨x,hx,rfl⟩:=List.mem_map.1 hq;have:=(hfp x hx).2.2.2.2
   have:=hf x hx
   omega
  rw[A4o] at this;have h2:ms.length*(3145728+2)<=1048576*(3145728+2):=Nat.mul_le_mul_right _ hl;omega
section
variable {base : Nat}{w w' : World}{L : List Stil.Rl}{v : Value}{b : Nat}{qs : List (List Pl)}
theorem IPk.lt (h:IPk base w L v b qs):∀p∈Dz b 0 qs,p.1<w.heap.size:=λp hp=>(h.2.1 p hp).1
theorem IPk.below (h:IPk base w L v b qs)(hb:Below w.heap.size w w'):IPk base w' L v b qs:=⟨h.1.below hb,h.2.1.below hb,h.2.2.1,h.2.2.2.1,h.2.2.2.2.1,h.2.2.2.2.2.1.keep (Ns.of_below hb),h.2.2.2.2.2.2⟩
theorem IPk.marked {ps:List Pl}{k:Int}(h:IPk base w L v b qs)(hm:Dk w w' ps k)(hp:∀p∈ps,p.1<base):IPk base w' L v b qs:=by
 obtain⟨h1,h2,h3,h4,h5,h6,h7⟩:=h;have hk:Ns base w w':=⟨hm.1,λb o hb hz=>hm.2.1 (b,o) hz (λh=>by have:=hp _ h;simp only at this;omega)⟩
 exact⟨h1.marked hm (λi hi hx=>by have:=hp _ hx;have:=h5 omz;simp only at*;omega),h2.marked hm (λp hp1 hp2=>by have:=hp p hp2;have:=h4 p hp1;omega),h3,h4,h5,h6.keep hk,h7⟩
theorem IPk.mark (h:IPk base w L v b qs):Calls Tryz.prog 12 #[v, .int .i64 1] w λe w'=>e=.returned (.int .i64 (1+(Dz b 0 qs).length))/\Dk w w' (Dz b 0 qs) 1:=
 Alm v b 0 qs 1 w h.1 h.2.1 h.2.2.1 omz (by have:=h.2.2.2.2.2.2;omega)
def IHd (w:World)(v:Value)(b:Nat)(qs:List (List Pl)):Prop:=Q8 w v b 0 qs/\Q9 w (Dz b 0 qs) 1/\(∀p∈Dz b 0 qs,p.1<w.heap.size)/\(Dz b 0 qs).length<=4611686018427387000
theorem IPk.hd (h:IPk base w L v b qs)(hm:Dk w w' (Dz b 0 qs) 1):IHd w' v b qs:=
 ⟨h.1.marked hm (λi hi=>(h.1.2 i hi).2.1),hm.held,λp hp=>A37 (h.lt p hp) hm.1,h.2.2.2.2.2.2⟩
theorem IHd.below (h:IHd w v b qs)(hb:Below w.heap.size w w'):IHd w' v b qs:=⟨h.1.below hb,h.2.1.below hb h.2.2.1,λp hp=>A37 (h.2.2.1 p hp) hb.size,h.2.2.2⟩
theorem IHd.held (h:IHd w v b qs):Calls Tryz.prog 13 #[v, .int .i64 1] w λe w'=>e=.returned (.int .i64 (1+(Dz b 0 qs).length))/\w'=w:=
 Alo v b 0 qs 1 w h.1 h.2.1 omz (by have:=h.2.2.2;omega)
end
end Go.Proofs.YtbfljjcnbbmoaaaGreatDoor
