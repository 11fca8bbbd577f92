import Derived.Test.YtbfljjcnbbmoaaaGreatDoorGl
import Derived.OneCell
import Derived.Test.YtbfljjcnbbmoaaaGreatDoorM56
set_option maxHeartbeats 4000000
set_option maxRecDepth 100000
namespace Go.Proofs.YtbfljjcnbbmoaaaGreatDoor
open Stil
open Go.RowKit Go.Sort Go.BigFrame
variable {a:Addr}{base:Nat}{xs:List Value}
def Nr (w:World)(base:Nat)(n:Stil.Net)(e:Ending):Prop:=∃(k op:Int) (ds:List Stil.Dev) (a1:Option Addr) (c1:Nat) (a2:Option Addr) (c2:Nat) (ms:List Ah),e=.returned (.agg #[.int .i64 k, .int .i64 op, .slice a1 ds.length c1, .slice a2 ms.length c2])/\
 Ik w base ⟨k,op,ds, .slice a1 ds.length c1, .slice a2 ms.length c2,ms⟩/\(Ah.mk k op ds (.slice a1 ds.length c1) (.slice a2 ms.length c2) ms).net=n
def Az8 (xs:List Value)(ms:List Ah):Prop:=∀j,j<ms.length*4->xs[j]?=(Gm ms)[j]?
theorem Az8.snoc {ms:List Ah}{m:Ah}{k:Nat}(h:Az8 xs ms)(hk:ms.length=k)(hl:k*4+4<=xs.length):Az8 ((((xs.set (k*4) (.int .i64 m.kind)).set (k*4+1) (.int .i64 m.op)).set (k*4+2) m.av).set (k*4+3) m.kv) (ms++[m]):=by
 intro j hj;rw[Zn,Ap8];have hlen:=Xk ms;simp only[A38,A48] at hj;by_cases h1:j<k*4
 ·rw[List.getElem?_append_left omz,A4i omz,A4i omz,A4i omz,A4i omz]
  exact h j omz
 ·rw[List.getElem?_append_right omz]
  have hx:j=k*4\/j=k*4+1\/j=k*4+2\/j=k*4+3:=omz
  rcases hx with e | e | e | e
  ·subst e
   rw[A4i omz,A4i omz,A4i omz,A4x omz];have e2:k*4 - (Gm ms).length=0:=omz
   rw[e2];rfl
  ·subst e
   rw[A4i omz,A4i omz,A4x (by simp;omega)];have e2:k*4+1 - (Gm ms).length=1:=omz
   rw[e2];rfl
  ·subst e
   rw[A4i omz,A4x (by simp;omega)];have e2:k*4+2 - (Gm ms).length=2:=omz
   rw[e2];rfl
  ·subst e
   rw[A4x (by simp;omega)];have e2:k*4+3 - (Gm ms).length=3:=omz
   rw[e2];rfl
theorem Az8.all {ms:List Ah}(h:Az8 xs ms)(hl:xs.length=ms.length*4):xs=Gm ms:=by
 refine List.ext_getElem? (λj=>?_);by_cases hj:j<ms.length*4
 ·exact h j hj
 ·rw[List.getElem?_eq_none omz,List.getElem?_eq_none (by rw[Xk];omega)]
theorem MOk.set {w:World}{m:Ah}(h:MOk w base m)(ha:a.block<base)(u:Value):MOk (w.setCell a u) base m:=MOk.map m h (λ_ _ _ _ _ _ ho=>ownsRow_setCell_below ho ha u)
theorem MOk.set4 {w:World}{b o1 o2 o3 o4:Nat}{m:Ah}{u1 u2 u3 u4:Value}(h:MOk w base m)(hb:b<base):MOk ((((w.setCell ⟨b,o1,none⟩ u1).setCell ⟨b,o2,none⟩ u2).setCell ⟨b,o3,none⟩ u3).setCell ⟨b,o4,none⟩ u4) base m:=
 MOk.set (MOk.set (MOk.set (MOk.set h (a:=⟨b,o1,none⟩) hb u1) (a:=⟨b,o2,none⟩) hb u2) (a:=⟨b,o3,none⟩) hb u3) (a:=⟨b,o4,none⟩) hb u4
theorem Ik.set {w:World}{m:Ah}(h:Ik w base m)(ha:a.block<base)(u:Value):Ik (w.setCell a u) base m:=⟨h.1.set ha u,h.2⟩
theorem J4.set {w:World}{v:Value}{ms:List Ah}(h:J4 w base v ms)(ha:a.block<base)(u:Value):J4 (w.setCell a u) base v ms:=⟨ownsRow_setCell_below h.1 ha u,λm hm=>(h.2.1 m hm).set ha u,h.2.2⟩
theorem vals_snoc {w w2:World}{b2:Nat}{ms:List Ah}{m:Ah}(h:∀x∈ms,MOk w base x)(hp:(Ew ms).Pairwise Aside)(hm:Ik w2 b2 m)(hb:w.heap.size<=b2):(Ew (ms++[m])).Pairwise Aside:=by
 rw[L6,Je,A4v];refine⟨hp,hm.2,λx hx y hy=>Ef (n:=w.heap.size) (λk hk=>?_) (λk hk=>?_)⟩
 ·obtain⟨z,hz,hx⟩:=Jc.1 hx
  exact((h z hz).lt z x hx k hk).2
 ·exact A4k hb (hm.1.lt m y hy k hk).1
theorem zm0 {p:Prop}(h:p:=by
 exact⟨0,_,[],omz,rfl,rfl,hown1,hs1,λj hj=>absurd hj spz,(λm hm=>by cases hm),List.Pairwise.nil,hb1⟩):p:=h
theorem Au5 (es:List Stil.Net)(ih:∀x∈es,∀(av kv:Value) (w:World),Bi w av x.one.args->Dx w kv x.kids->Calls Tryz.prog 41 #[.agg #[.int .i64 x.kind, .int .i64 x.one.op,av,kv]] w λe w'=>Nr w' w.heap.size x e/\Below w.heap.size w w')
  (v:Value) (w:World) (hat:Dx w v es) (hl:es.length<=1048576):
  Calls Tryz.prog 66 #[v] w λe w'=>∃ms:List Ah,ms.map Ah.net=es/\e=.returned (.slice (some ⟨w.heap.size,0,none⟩) ms.length ms.length)/\J4 w' w.heap.size (.slice (some ⟨w.heap.size,0,none⟩) ms.length ms.length) ms/\Below w.heap.size w w':=by
 obtain⟨i0,hi,hz0,hz1,hz2⟩:=info_parts Ab6;obtain⟨a,cap,rfl,hc⟩:=hat;have HA:=hid hc;have IH:=hid ih;clear hc ih;go_enter Tryz.func66,Tryz.ntmps66
 go_wp2_with (at_make;refine wpList_make_full _ rfl _ _ 50 rfl w.heap.size 52 i0 (.agg #[.int .i64 0, .int .i64 0, .slice none 0 0, .slice none 0 0]) 4 Tryz.underlying50 hi hz0 hz1 _ _ _ _ es.length rfl rfl rfl rfl ?c1 ?c2 (A4d _) ?_)
 case c1=>rw[hz2];omega
 case c2=>unfold maxLen;omega
 intro w1 hown1 fA;have hb1:=(Below.refl _ _).grown fA (A4d _) (λ_ h=>by cases h);have hs1:=(hown1.lt w.heap.size rfl).2
 go_wp2
 go_loopw [4] (λi wr=>∃(k:Nat) (xs:List Value) (ms:List Ah),k<=es.length/\i=.int .i64 k/\ms.map Ah.net=es.take k/\wr.ownsRow w.heap.size 52 4 (.slice (some ⟨w.heap.size,0,none⟩) es.length es.length) es.length xs/\w.heap.size<wr.heap.size/\Az8 xs ms/\(∀m∈ms,MOk wr (w.heap.size+1) m)/\(Ew ms).Pairwise Aside/\Below w.heap.size w wr) (λi _=>es.length - (intOf i).toNat)
 case atStart=>exact zm0
 case round=>
  clear hown1 fA hb1 hs1;obtain⟨k,xs,ms,hk,rfl,hms,hown,hsz,hpre,hmk,hpw,hb⟩:=hrel;have sW:Hid (Az8 xs ms/\(∀m∈ms,MOk wr (w.heap.size+1) m)/\(Ew ms).Pairwise Aside):=⟨hpre,hmk,hpw⟩
  have dP:=hid hms;clear hpre hmk hpw hms;by_cases hlt:k<es.length
  ·obtain⟨b,o,rfl,hbl,hn⟩:=HA k hlt
   obtain⟨x0,x1,av,kv,x2,x3,hav,hkv⟩:=(Nw.below hb _ _ _ hn hbl).open;have HI:=hid (λW hW=>IH es[k] (A4f hlt) av kv W (hav.below hW) (hkv.below hW));obtain⟨x,hx⟩:∃x,x=es[k]:=⟨_,rfl⟩
   rw[<-hx] at HI x0 x1 hav hkv;have HX:=hid hx;obtain⟨p0,r0,rfl,_⟩:=hav;obtain⟨p1,r1,rfl,_⟩:=hkv;clear hx hn
   go_wp2_with (go_at_call 41;refine(HI _ blB).mono ?_;rintro e w2 ⟨⟨mk,aG,aF,s0,t0,s1,t1,aC,rfl,hmo,hmn⟩,hb2⟩;have aJ:Hid (Ik w2 _ ⟨mk,aG,aF, .slice s0 aF.length t0, .slice s1 aC.length t1,aC⟩):=hmo;have aH:=hid hmn;clear hmo hmn;have hown2:=ownsRow_below hown hb2;obtain⟨⟨v0,q0⟩,⟨v1,q1⟩,⟨v2,q2⟩,⟨v3,q3⟩⟩:=A3f hown2 k hlt;obtain⟨f0,f1,f2,f3⟩:=A2x hown2 k)
   have m0:=(hown2.stored (k*4) (.int .i64 mk)).1;have m1:=(m0.stored (k*4+1) (.int .i64 aG)).1;have m2:=(m1.stored (k*4+2) (.slice s0 aF.length t0)).1;have m3:=(m2.stored (k*4+3) (.slice s1 aC.length t1)).1;obtain⟨hpre,hmk,hpw⟩:=sW.out;have hmo:=aJ.out;have hlen:ms.length=k:=by
    have:=congrArg List.length dP.out
    simpa[List.length_take,Nat.min_eq_left (Nat.le_of_lt hlt)] using this
   refine⟨⟨k+1,_,ms++[⟨mk,aG,aF, .slice s0 aF.length t0, .slice s1 aC.length t1,aC⟩],omz,by go_num,?_,m3,?_,?_,?_,?_,Bz (A4d _) (Bz (A4d _) (Bz (A4d _) (Bz (A4d _) (Bd hb hb2) _) _) _) _⟩,by simp[intOf];omega⟩
   ·rw[A4m,dP.out,A4r hlt,<-HX.out,<-aH.out];rfl
   ·exact A37 (A37 hsz hb2.size) (A4k (F9 _ _ _) (A4k (F9 _ _ _) (A4k (F9 _ _ _) (F9 _ _ _))))
   ·refine Az8.snoc (m:=⟨mk,aG,aF, .slice s0 aF.length t0, .slice s1 aC.length t1,aC⟩) hpre hlen ?_
    have:=hown.1
    omega
   ·intro m hm
    refine MOk.set4 ?_ (Nat.lt_succ_self _);rcases List.mem_append.1 hm with hm | hm
    ·exact(hmk m hm).below hb2
    ·obtain rfl:=List.mem_singleton.1 hm
     exact hmo.1.le hsz
   ·exact vals_snoc hmk hpw hmo (A4d _)
  ·obtain rfl:k=es.length:=by omega
   obtain⟨hpre,hmk,hpw⟩:=sW.out;have hms:=dP.out;rw[List.take_length] at hms;have hlen:ms.length=es.length:=by rw[<-hms];simp
   have hxs:=hpre.all (by rw[hlen];exact hown.1);subst hxs
   go_wp2
   go_ret;have hmr:J4 wr w.heap.size (.slice (some ⟨w.heap.size,0,none⟩) ms.length ms.length) ms:=by
    refine⟨by rw[hlen];exact hown,λm hm=>(hmk m hm).le (Nat.le_succ _),?_⟩;rw[A4u];refine⟨λy hy=>Ef (n:=w.heap.size+1) (λj hj=>?_) (λj hj=>?_),hpw⟩
    ·have e:w.heap.size=j:=by simpa[Value.ownBlock] using hj
     omega
    ·obtain⟨z,hz,hy⟩:=Jc.1 hy
     exact((hmk z hz).lt z y hy j hj).1
   refine⟨ms,hms,?_,hmr,hb⟩;rw[hlen];rfl
theorem Aya (n:Stil.Net):Dc n->∀(av kv:Value) (w:World),Bi w av n.one.args->Dx w kv n.kids->Calls Tryz.prog 41 #[.agg #[.int .i64 n.kind, .int .i64 n.one.op,av,kv]] w λe w'=>Nr w' w.heap.size n e/\Below w.heap.size w w':=by
 induction n using Fh with
 | h k e kids ih=>
  intro hft av kv w hav hkv;obtain⟨_,he,hl,hk⟩:=(Hu _ _ _).1 hft;simp only at hav hkv;have H1:=hid (λW hW=>Anx e.op av e.args W (hav.below hW) he.2.1);have H2:=hid (λW hW=>Au5 kids (λx hx=>ih x hx (hk x hx)) kv W (hkv.below hW) hl);obtain⟨p0,r0,rfl,_⟩:=hav;obtain⟨p1,r1,rfl,_⟩:=hkv;clear ih hft he hl hk;go_enter Tryz.func41,Tryz.ntmps41
  go_wp2_with (first | (go_at_call 65;refine(H1 _ blA).mono ?_;rintro e w1 ⟨u,rfl,g1,hb⟩;obtain⟨s0,t0,hu⟩:=Af g1;subst hu;obtain⟨hc,hf⟩:=Dq hb;have hza:w.heap.size<w1.heap.size:=A37 (by simp;omega) hb.size;have hzb:w.heap.size+1<w1.heap.size:=A37 spz hb.size;have hzc:w.heap.size+1+1<w1.heap.size:=A37 spz hb.size) | (go_at_call 66;refine(H2 _ blA).mono ?_;rintro e w2 ⟨ms,hms,rfl,g2,hb2⟩;have dP:=hid hms;have HG2:Hid (J4 w2 _ _ ms):=g2;clear g2 hms;obtain⟨hc2,hf2⟩:=Dq hb2))
  have b0:w2.cell? ⟨w.heap.size+1,0,none⟩=some (.int .i64 0):=by rw[hc2 _ _ (by simp;omega)];simp[go_sem,hc]
  have b1:w2.cell? ⟨w.heap.size+1,1,none⟩=some (.int .i64 0):=by rw[hc2 _ _ (by simp;omega)];simp[go_sem,hc]
  have b2:w2.cell? ⟨w.heap.size+1,2,none⟩=some (.slice none 0 0):=by rw[hc2 _ _ (by simp;omega)];simp[go_sem,hc]
  have b3:w2.cell? ⟨w.heap.size+1,3,none⟩=some (.slice none 0 0):=by rw[hc2 _ _ (by simp;omega)];simp[go_sem,hc]
  have g2:=HG2.out;simp only[World.size_setCell] at g2;have ga:w2.ownsRow (w.heap.size+3) 86 3 (.slice s0 e.args.length t0) e.args.length (Cb e.args):=by
   refine ownsRow_below ?_ hb2;repeat (refine ownsRow_setCell_below ?_ (by first | (simp;done) | (simp;omega)) _)
   exact Joins.ownsRow_le g1 spz
  have g1l:=g1.lt;refine bodyPost_ret (v:=.agg #[.int .i64 k, .int .i64 e.op, .slice s0 e.args.length t0, .slice (some ⟨w1.heap.size,0,none⟩) ms.length ms.length]) (by simp[results,Tryz.results41,go_sem,b0,b1,b2,b3]) rfl ⟨⟨k,e.op,e.args,s0,t0,some ⟨w1.heap.size,0,none⟩,ms.length,ms,rfl,?_,?_⟩,?_⟩
  ·refine Ik.le (base:=w.heap.size+3) ?_ omz
   repeat (refine Ik.set ?_ (by first | (simp;done) | (simp;omega)) _)
   exact J4.net k e.op e.args (g2.le omz) ga (λx hx=>Ef (n:=w1.heap.size) (λj hj=>(g1l j hj).2) (λj hj=>(g2.lt x hx j hj).1))
  ·rw[Ah.net_eq]
   simp only;rw[dP.out]
  ·exact blA
end Go.Proofs.YtbfljjcnbbmoaaaGreatDoor
namespace Stil
end Stil
namespace Go.Proofs.YtbfljjcnbbmoaaaGreatDoor
open Go.RowKit Go.Sort Go.BigFrame
end Go.Proofs.YtbfljjcnbbmoaaaGreatDoor
namespace Go.Proofs.YtbfljjcnbbmoaaaGreatDoor
open Go.RowKit Go.Sort Go.BigFrame
variable {W:World}{a:Act}{base:Nat}{o:Oper}{ops:Array Oper}{v1 v2 v3:Value}
theorem Adn {w:World}{ks:List Ah}(hk:∀m∈ks,MOk w base m):∀u∈Gm ks,u.oneCell'=true:=by
 intro u hu;obtain⟨m,hm,hu⟩:=List.mem_flatMap.1 hu;have h:=(H5 w base m).1 (hk m hm);obtain⟨a1,c1,e1⟩:=Af h.1;obtain⟨a2,c2,e2⟩:=Af h.2.1;simp only[Ah.cells,A4t,List.mem_nil_iff,or_false] at hu;rcases hu with rfl | rfl | rfl | rfl
 ·rfl
 ·rfl
 ·rw[e1];rfl
 ·rw[e2];rfl
theorem z8 {p:Prop}(h:p:=by
 rename_i t1
 have e:Sem.run Tryz.prog (Builtin.append_ #[50,50] o.type #[.slice ra ms.length rc, .slice (some t1) 0 c]) w=.ok (.slice ra ms.length rc) w:=by cases ra<;>simp[Builtin.append_,go_sem,hcap]
 simp only[hop,resolve,invoke,builtin,Sem.run_bind,Sem.run_pure,Result.andThen_ok,List.map_toArray,A4q,List.map_nil,hs,hx,e];exact hk2):p:=h
theorem zd0 {p:Prop}(h:p:=by
 have e:Sem.run Tryz.prog (Builtin.append_ #[50,50] o.type #[.slice ra ms.length rc, .slice none 0 c]) w=.ok (.slice ra ms.length rc) w:=by cases ra<;>simp[Builtin.append_,go_sem,hcap]
 simp only[hop,resolve,invoke,builtin,Sem.run_bind,Sem.run_pure,Result.andThen_ok,List.map_toArray,A4q,List.map_nil,hs,hx,e];exact hk2):p:=h
theorem Abr {w:World}{K:Act->World->Prop}{Q:Exit->Act->World->Prop}{E:Prop}
  (hg:o.guard=none) (s x:Operand) (hop:o.op=.call {callee:=.builtin .append,args:=#[s,x],argTypes:=#[50,50]})
  (base:Nat) (ra:Option Addr) (rc:Nat) (ms ks:List Ah) (ad:Option Addr) (c:Nat) (hs:a.eval s=.slice ra ms.length rc) (hx:a.eval x=.slice ad ks.length c)
  (hrow:J4 w base (.slice ra ms.length rc) ms) (hxs:0<ks.length->∃p,ad=some p/\∀j u,(Gm ks)[j]?=some u->w.cell? (p.add j)=some u)
  (hk:∀m∈ks,MOk w base m) (hp:(Value.slice ra ms.length rc::(Ew ms++Ew ks)).Pairwise Aside) (hl:ms.length+ks.length<=1000000) (hbase:base<=w.heap.size)
  (hK:∀a' c' w',J4 w' base (.slice a' (ms.length+ks.length) c') (ms++ks)->Below base w w'->K (a.put o.dst (.slice a' (ms.length+ks.length) c')) w'):
  if Region.wanted o (yielded ops a.tmps)=true then Oper.wp Tryz.prog o a w K Q else E:=by
 obtain⟨i0,hi,hz0,hz1,hz2⟩:=info_parts Ab6;by_cases hd:ks.length=0
 ·have hn:=List.length_eq_zero_iff.1 hd
  subst hn;have hw:Region.wanted o (yielded ops a.tmps)=true:=by simp[Region.wanted,hg]
  rw[if_pos hw];have hcap:ms.length<=rc:=by
   rcases hrow.1.2 with⟨h0,h1⟩ | ⟨g,c',cur,h0,_,_,hnc,_⟩
   ·rw[h1];exact Nat.zero_le _
   ·simp only[Value.slice.injEq] at h0
    rw[h0.2.2];exact hnc
  have hk2:=hK ra rc w (by simpa using hrow) (Below.refl _ _);simp only[A4a,Nat.add_zero] at hk2 hx;unfold Oper.wp execOp;cases ad
  ·exact zd0
  ·exact z8
 ·obtain⟨p,rfl,hcs⟩:=hxs omz
  refine Gz hg s x _ hop base 52 i0 _ 4 64 Tryz.underlying50 hi hz0 hz1 hz2 rfl dcz _ _ (Gm ms) hs hrow.1 _ _ _ (Gm ks) hx (Xk ks) hcs (Adn hk) (by unfold maxLen;omega) omz hbase ?_;intro v' w' h1 h2 h3;obtain⟨a6,c6,hv6⟩:=Af h1;subst hv6;exact hK a6 c6 w' (hrow.add hk hp h1 h2 h3) ((Below.refl _ _).grown h2 hbase (λj hj=>(hrow.1.lt j hj).1))
theorem Rn {rest:List Oper}{w:World}{Q:Exit->Act->World->Prop}
  (hg:o.guard=none) (s x:Operand) (hop:o.op=.call {callee:=.builtin .append,args:=#[s,x],argTypes:=#[50,50]})
  (base:Nat) (ra:Option Addr) (rc:Nat) (ms ks:List Ah) (ad:Option Addr) (c:Nat) (hs:a.eval s=.slice ra ms.length rc) (hx:a.eval x=.slice ad ks.length c)
  (hrow:J4 w base (.slice ra ms.length rc) ms) (hxs:0<ks.length->∃p,ad=some p/\∀j u,(Gm ks)[j]?=some u->w.cell? (p.add j)=some u)
  (hk:∀m∈ks,MOk w base m) (hp:(Value.slice ra ms.length rc::(Ew ms++Ew ks)).Pairwise Aside) (hl:ms.length+ks.length<=1000000) (hbase:base<=w.heap.size)
  (h:∀a' c' w',J4 w' base (.slice a' (ms.length+ks.length) c') (ms++ks)->Below base w w'->wpList Tryz.prog ops Q rest (a.put o.dst (.slice a' (ms.length+ks.length) c')) w'):
  wpList Tryz.prog ops Q (o::rest) a w:=by
 refine wpList_plain hg λK hK=>?_
 have hw:Region.wanted o (yielded #[] a.tmps)=true:=by simp[Region.wanted,hg]
 have:=Abr (ops:=#[]) (K:=K) (Q:=Q) (E:=True) hg s x hop base ra rc ms ks ad c hs hx hrow hxs hk hp hl hbase (λa' c' w' h1 h2=>hK _ _ (h a' c' w' h1 h2))
 rwa [if_pos hw] at this
theorem J4.single {w:World}{m:Ah}(h:Ik w base m)(hb:base<=w.heap.size):J4 (w.alloc (.cells #[.int .i64 m.kind, .int .i64 m.op,m.av,m.kv] 52)) base (.slice (some ⟨w.heap.size,0,none⟩) 1 1) [m]:=by
 refine⟨?_,λx hx=>?_,?_⟩
 ·exact World.ownsRow_lit w #[.int .i64 m.kind, .int .i64 m.op,m.av,m.kv] 1 hb (by unfold maxLen;omega) rfl
 ·rw[List.mem_singleton.1 hx];exact h.1.below (Aa _ _)
 ·rw[Je,A4u]
  refine⟨λy hy=>(Ef (n:=w.heap.size) (λk hk=>(h.1.lt m y hy k hk).2) (λk hk=>?_)).symm,h.2⟩;have e:w.heap.size=k:=by simpa[Value.ownBlock] using hk
  omega
theorem Lm {p q:Addr}{v:Value}:(W.setCell p v).frozen? q=W.frozen? q:=by simp[go_sem]
theorem cells4 {u0 u1 u2 u3:Value}{t:TypeId}:∀j u,[u0,u1,u2,u3][j]?=some u->(W.alloc (.cells #[u0,u1,u2,u3] t)).cell? ((⟨W.heap.size,0,none⟩:Addr).add j)=some u:=by
 intro j u h;rw[Addr.add_lit]
 match j,h with
 | 0,h=>simp at h;subst h;simp[go_sem]
 | 1,h=>simp at h;subst h;simp[go_sem]
 | 2,h=>simp at h;subst h;simp[go_sem]
 | 3,h=>simp at h;subst h;simp[go_sem]
 | j+4,h=>simp at h
def B4 (w:World)(b:Nat)(v0 v1 v2 v3:Value):Prop:=b<w.heap.size/\(w.cell? ⟨b,0,none⟩=some v0/\w.cell? ⟨b,1,none⟩=some v1/\w.cell? ⟨b,2,none⟩=some v2/\w.cell? ⟨b,3,none⟩=some v3)/\
 w.frozen? ⟨b,0,none⟩=false/\w.frozen? ⟨b,1,none⟩=false/\w.frozen? ⟨b,2,none⟩=false/\w.frozen? ⟨b,3,none⟩=false
theorem B4.below {w w':World}{n b:Nat}{v0:Value}(h:B4 w b v0 v1 v2 v3)(hb:Below n w w')(hn:b<n):B4 w' b v0 v1 v2 v3:=by
 obtain⟨h0,⟨c0,c1,c2,c3⟩,f0,f1,f2,f3⟩:=h;refine⟨A37 h0 hb.size,⟨(hb.cell (p:=⟨b,0,none⟩) hn).trans c0,(hb.cell (p:=⟨b,1,none⟩) hn).trans c1,(hb.cell (p:=⟨b,2,none⟩) hn).trans c2,(hb.cell (p:=⟨b,3,none⟩) hn).trans c3⟩,?_⟩;exact⟨(hb.frozen (p:=⟨b,0,none⟩) hn).trans f0,(hb.frozen (p:=⟨b,1,none⟩) hn).trans f1,(hb.frozen (p:=⟨b,2,none⟩) hn).trans f2,(hb.frozen (p:=⟨b,3,none⟩) hn).trans f3⟩
theorem B4.set3 {w:World}{b:Nat}{v0:Value}(h:B4 w b v0 v1 v2 v3)(u:Value):B4 (w.setCell ⟨b,3,none⟩ u) b v0 v1 v2 u:=by
 obtain⟨h0,⟨c0,c1,c2,c3⟩,f0,f1,f2,f3⟩:=h;exact⟨A37 h0 (F9 _ _ _),⟨(Bh omz).trans c0,(Bh omz).trans c1,(Bh omz).trans c2,Fp c3⟩,Lm.trans f0,Lm.trans f1,Lm.trans f2,Lm.trans f3⟩
theorem B4.setO {w:World}{b c o:Nat}{v0:Value}(h:B4 w b v0 v1 v2 v3)(hc:b≠c)(u:Value):B4 (w.setCell ⟨c,o,none⟩ u) b v0 v1 v2 v3:=by
 obtain⟨h0,⟨c0,c1,c2,c3⟩,f0,f1,f2,f3⟩:=h;exact⟨A37 h0 (F9 _ _ _),⟨(Ba hc).trans c0,(Ba hc).trans c1,(Ba hc).trans c2,(Ba hc).trans c3⟩,Lm.trans f0,Lm.trans f1,Lm.trans f2,Lm.trans f3⟩
end Go.Proofs.YtbfljjcnbbmoaaaGreatDoor
namespace Go.Proofs.YtbfljjcnbbmoaaaGreatDoor
open Go.RowKit Go.Sort Go.BigFrame
set_option maxHeartbeats 2000000 in
set_option maxRecDepth 100000 in
theorem Atv (e:Stil.Elem)(av:Value)(w:World)(hav:Bi w av e.args)(hla:e.args.length<=1048576):
  Calls Tryz.prog 38 #[.agg #[.int .i64 e.op,av]] w λr w'=>∃a c,r=.returned (.agg #[.int .i64 e.op, .slice a e.args.length c])/\w'.ownsRow w.heap.size 86 3 (.slice a e.args.length c) e.args.length (Cb e.args)/\Below w.heap.size w w':=by
 have mV:=hid (λW (h:Below w.heap.size w W)=>hav.below h);obtain⟨p0,r0,rfl,bP⟩:=hav;clear bP;go_enter Tryz.func38,Tryz.ntmps38;go_upto_region 1 with fail
 obtain⟨W,hW⟩:∃W,W=(w.alloc (.cells #[.int .i64 e.op, .slice p0 e.args.length r0] 49)).alloc (.cells #[.int .i64 0, .slice none 0 0] 49):=⟨_,rfl⟩
 rw[<-hW];have q0:W.cell? ⟨w.heap.size,0,none⟩=some (.int .i64 e.op):=by rw[hW];simp[go_sem]
 have q1:W.cell? ⟨w.heap.size,1,none⟩=some (.slice p0 e.args.length r0):=by rw[hW];simp[go_sem]
 have t0:W.cell? ⟨w.heap.size+1,0,none⟩=some (.int .i64 0):=by rw[hW];simp[go_sem]
 have t1:W.cell? ⟨w.heap.size+1,1,none⟩=some (.slice none 0 0):=by rw[hW];simp[go_sem]
 have v0:W.frozen? ⟨w.heap.size+1,0,none⟩=false:=by rw[hW];simp[go_sem]
 have v1:W.frozen? ⟨w.heap.size+1,1,none⟩=false:=by rw[hW];simp[go_sem]
 have hsW:W.heap.size=w.heap.size+2:=by rw[hW];simp
 have hBW:Below w.heap.size w W:=by rw[hW];exact Bq (Aa _ _) _
 have bD:=hid hsW;have hl0:w.heap.size<W.heap.size:=omz
 have hl1:w.heap.size+1<W.heap.size:=omz
 clear hW hsW
 go_region_law (refine Pi rfl _ _ rfl (w.heap.size+2) _ e.args rfl (by exact(World.ownsRow_lit W #[] 0 (by have:=bD.out;omega) (by unfold maxLen;omega) rfl).drew) _ _ rfl (mV _ (by exact(Bq hBW _).drew)) hla (by have:=bD.out;simp;omega) ?_;intro v5 w5 hown5 hgr5;obtain⟨a5,c5,hv5⟩:=Af hown5;subst hv5;have hb5:=(Aa W _).drew.grown hgr5 spz (λk hk=>by cases hk;exact A4d _);have vw:w.heap.size+2<=w5.heap.size:=(by have:=bD.out;have:=hb5.size;omega);have y0:=(hb5.cell (p:=⟨w.heap.size,0,none⟩) (by have:=bD.out;show w.heap.size<W.heap.size;omega)).trans q0;have y1:=(hb5.cell (p:=⟨w.heap.size,1,none⟩) (by have:=bD.out;show w.heap.size<W.heap.size;omega)).trans q1;have z0:=(hb5.cell (p:=⟨w.heap.size+1,0,none⟩) (by have:=bD.out;show w.heap.size+1<W.heap.size;omega)).trans t0;have z1:=(hb5.cell (p:=⟨w.heap.size+1,1,none⟩) (by have:=bD.out;show w.heap.size+1<W.heap.size;omega)).trans t1;have f0:=(hb5.frozen (p:=⟨w.heap.size+1,0,none⟩) (by have:=bD.out;show w.heap.size+1<W.heap.size;omega)).trans v0;have f1:=(hb5.frozen (p:=⟨w.heap.size+1,1,none⟩) (by have:=bD.out;show w.heap.size+1<W.heap.size;omega)).trans v1)
 all_goals
  try go_wp2
  refine bodyPost_ret (v:=.agg #[.int .i64 e.op, .slice a5 e.args.length c5]) (by simp[results,Tryz.results38,go_sem,z0,z1]) rfl ⟨a5,c5,rfl,?_,?_⟩
  ·refine Joins.ownsRow_le (base:=w.heap.size+2) ?_ omz
   repeat (refine ownsRow_setCell_below ?_ (by first | (simp;done) | (simp;omega)) _)
   exact hown5
  ·have gI:=hBW.trans (hb5.mono hBW.size)
   exact blA
end Go.Proofs.YtbfljjcnbbmoaaaGreatDoor
namespace Go.Proofs.YtbfljjcnbbmoaaaGreatDoor
open Go.RowKit Go.Sort Go.BigFrame
variable {a:Act}{o:Oper}{ops:Array Oper}
theorem Aer {w:World}{K:Act->World->Prop}{Q:Exit->Act->World->Prop}{E:Prop}
  (hg:o.guard=none) (s x:Operand) (hop:o.op=.call {callee:=.builtin .append,args:=#[s,x],argTypes:=#[50,50]})
  (base lo:Nat) (ra:Option Addr) (rc:Nat) (ms ks:List Ah) (ad:Option Addr) (c:Nat) (hs:a.eval s=.slice ra ms.length rc) (hx:a.eval x=.slice ad ks.length c)
  (hrow:J4 w base (.slice ra ms.length rc) ms) (hxs:0<ks.length->∃p,ad=some p/\∀j u,(Gm ks)[j]?=some u->w.cell? (p.add j)=some u)
  (hk:∀m∈ks,MOk w base m) (hp:(Value.slice ra ms.length rc::(Ew ms++Ew ks)).Pairwise Aside) (hl:ms.length+ks.length<=1000000) (hbase:base<=w.heap.size) (hlo:lo<=w.heap.size) (hvl:∀k,(Value.slice ra ms.length rc).ownBlock=some k->lo<=k)
  (hK:∀a' c' w',J4 w' base (.slice a' (ms.length+ks.length) c') (ms++ks)->Below lo w w'->(∀k,(Value.slice a' (ms.length+ks.length) c').ownBlock=some k->lo<=k)->K (a.put o.dst (.slice a' (ms.length+ks.length) c')) w'):
  if Region.wanted o (yielded ops a.tmps)=true then Oper.wp Tryz.prog o a w K Q else E:=by
 obtain⟨i0,hi,hz0,hz1,hz2⟩:=info_parts Ab6;by_cases hd:ks.length=0
 ·have hn:=List.length_eq_zero_iff.1 hd
  subst hn;have hw:Region.wanted o (yielded ops a.tmps)=true:=by simp[Region.wanted,hg]
  rw[if_pos hw];have hcap:ms.length<=rc:=by
   rcases hrow.1.2 with⟨h0,h1⟩ | ⟨g,c',cur,h0,_,_,hnc,_⟩
   ·rw[h1];exact Nat.zero_le _
   ·simp only[Value.slice.injEq] at h0
    rw[h0.2.2];exact hnc
  have hk2:=hK ra rc w (by simpa using hrow) (Below.refl _ _) (by simpa using hvl);simp only[A4a,Nat.add_zero] at hk2 hx;unfold Oper.wp execOp;cases ad
  ·exact zd0
  ·exact z8
 ·obtain⟨p,rfl,hcs⟩:=hxs omz
  refine Gz hg s x _ hop base 52 i0 _ 4 64 Tryz.underlying50 hi hz0 hz1 hz2 rfl dcz _ _ (Gm ms) hs hrow.1 _ _ _ (Gm ks) hx (Xk ks) hcs (Adn hk) (by unfold maxLen;omega) omz hbase ?_;intro v' w' h1 h2 h3;obtain⟨a6,c6,hv6⟩:=Af h1;subst hv6;refine hK a6 c6 w' (hrow.add hk hp h1 h2 h3) ((Below.refl _ _).grown h2 hlo hvl) (λk hk2=>?_);rcases h3 with e | e
  ·exact hvl k (by rw[<-e];exact hk2)
  ·rw[e] at hk2
   cases hk2;exact hlo
theorem Ph {rest:List Oper}{w:World}{Q:Exit->Act->World->Prop}
  (hg:o.guard=none) (s x:Operand) (hop:o.op=.call {callee:=.builtin .append,args:=#[s,x],argTypes:=#[50,50]})
  (base lo:Nat) (ra:Option Addr) (rc:Nat) (ms ks:List Ah) (ad:Option Addr) (c:Nat) (hs:a.eval s=.slice ra ms.length rc) (hx:a.eval x=.slice ad ks.length c)
  (hrow:J4 w base (.slice ra ms.length rc) ms) (hxs:0<ks.length->∃p,ad=some p/\∀j u,(Gm ks)[j]?=some u->w.cell? (p.add j)=some u)
  (hk:∀m∈ks,MOk w base m) (hp:(Value.slice ra ms.length rc::(Ew ms++Ew ks)).Pairwise Aside) (hl:ms.length+ks.length<=1000000) (hbase:base<=w.heap.size) (hlo:lo<=w.heap.size) (hvl:∀k,(Value.slice ra ms.length rc).ownBlock=some k->lo<=k)
  (h:∀a' c' w',J4 w' base (.slice a' (ms.length+ks.length) c') (ms++ks)->Below lo w w'->(∀k,(Value.slice a' (ms.length+ks.length) c').ownBlock=some k->lo<=k)->wpList Tryz.prog ops Q rest (a.put o.dst (.slice a' (ms.length+ks.length) c')) w'):
  wpList Tryz.prog ops Q (o::rest) a w:=by
 refine wpList_plain hg λK hK=>?_
 have hw:Region.wanted o (yielded #[] a.tmps)=true:=by simp[Region.wanted,hg]
 have:=Aer (ops:=#[]) (K:=K) (Q:=Q) (E:=True) hg s x hop base lo ra rc ms ks ad c hs hx hrow hxs hk hp hl hbase hlo hvl (λa' c' w' h1 h2 h3=>hK _ _ (h a' c' w' h1 h2 h3))
 rwa [if_pos hw] at this
def Oy (k:Int)(m:Ah):List Ah:=if m.kind=k then m.kids else [m]
theorem Awk {W:World}{B:Nat}(hB:B=W.heap.size){u0 u1 u2 u3:Value}{t:TypeId}:∀j u,[u0,u1,u2,u3][j]?=some u->(W.alloc (.cells #[u0,u1,u2,u3] t)).cell? ((⟨B,0,none⟩:Addr).add j)=some u:=by
 subst hB;exact cells4
set_option maxHeartbeats 2000000 in
set_option maxRecDepth 100000 in
theorem A04 (k:Int)(B base lo:Nat)(ra:Option Addr)(rc:Nat)(ms:List Ah)(mk aG:Int)(aF:List Stil.Dev)(s0:Option Addr)(t0:Nat)(s1:Option Addr)(t1:Nat)(aC:List Ah)(w:World)
  (hbx:w.cell? ⟨B,0,none⟩=some (.int .i64 k)) (hB:B<w.heap.size) (hrow:J4 w base (.slice ra ms.length rc) ms) (hm:Ik w base ⟨mk,aG,aF, .slice s0 aF.length t0, .slice s1 aC.length t1,aC⟩)
  (hp:(Value.slice ra ms.length rc::(Ew ms++(Ah.mk mk aG aF (.slice s0 aF.length t0) (.slice s1 aC.length t1) aC).vals)).Pairwise Aside) (hl:ms.length+aC.length+1<=1000000) (hbase:base<=w.heap.size) (hlo:lo<=w.heap.size) (hvl:∀k,(Value.slice ra ms.length rc).ownBlock=some k->lo<=k):
  Calls Tryz.prog 121 #[.slice ra ms.length rc, .agg #[.int .i64 mk, .int .i64 aG, .slice s0 aF.length t0, .slice s1 aC.length t1], .pointer (some ⟨B,0,none⟩)] w λe w'=>∃(a:Option Addr) (c:Nat),e=.returned (.slice a (ms.length+(Oy k ⟨mk,aG,aF, .slice s0 aF.length t0, .slice s1 aC.length t1,aC⟩).length) c)/\J4 w' base (.slice a (ms.length+(Oy k ⟨mk,aG,aF, .slice s0 aF.length t0, .slice s1 aC.length t1,aC⟩).length) c) (ms++Oy k ⟨mk,aG,aF, .slice s0 aF.length t0, .slice s1 aC.length t1,aC⟩)/\Below lo w w'/\∀j,(Value.slice a (ms.length+(Oy k ⟨mk,aG,aF, .slice s0 aF.length t0, .slice s1 aC.length t1,aC⟩).length) c).ownBlock=some j->lo<=j:=by
 by_cases hkk:mk=k
 ·have aP:=hid (λW (h:Below w.heap.size w W)=>hrow.below h)
  have HK:Hid (∀W,Below w.heap.size w W->∀m∈aC,MOk W base m):=λW h m hm2=>(hm.kids.1 m hm2).below h
  have HP:Hid ((Value.slice ra ms.length rc::(Ew ms++Ew aC)).Pairwise Aside):=by
   refine List.Pairwise.sublist (List.Sublist.cons_cons _ (List.Sublist.append (List.Sublist.refl _) ?_)) hp;rw[Ah.vals_eq];exact List.Sublist.cons _ (List.Sublist.cons _ (List.Sublist.refl _))
  have HXS:Hid (∀W,Below w.heap.size w W->0<aC.length->∃p,s1=some p/\∀j u,(Gm aC)[j]?=some u->W.cell? (p.add j)=some u):=by
   intro W hW hz;have hr:=ownsRow_below ((H5 _ _ _).1 hm.1).2.1 hW;simp only at hr;obtain⟨g,c,hv,_,_,_,hcell⟩:=Az hr hz;simp only[Value.slice.injEq] at hv;exact⟨⟨g,0,none⟩,hv.1,λj u hu=>by rw[Addr.add_lit];simpa using hcell j u hu⟩
  have hl2:ms.length+aC.length<=1000000:=omz
  have hO:Oy k ⟨mk,aG,aF, .slice s0 aF.length t0, .slice s1 aC.length t1,aC⟩=aC:=if_pos hkk;rw[hO];clear hO;have jL:=hid hvl;clear hrow hm hp hl hvl;rw[<-hkk] at hbx;go_enter Tryz.func121,Tryz.ntmps121
  go_wp2_with (at_builtin;refine Ph rfl _ _ rfl base lo ra rc ms aC s1 t1 rfl rfl (aP _ blA) (HXS _ blA) (HK _ blA) HP hl2 (by simp;omega) (by simp;omega) jL.out ?_;intro a6 c6 w6 aW hb6 hv6;have gJ:=hid aW;have rG:=hid hv6;clear aW hv6;have hb7:=(show Below lo w _ from(show Below w.heap.size w _ from blA).mono hlo).trans hb6)
  go_ret;exact⟨a6,c6,rfl,gJ.out,hb7,rG.out⟩
 ·have aP:=hid (λW (h:Below w.heap.size w W)=>hrow.below h)
  have HK:Hid (∀W,Below w.heap.size w W->∀m∈[(Ah.mk mk aG aF (.slice s0 aF.length t0) (.slice s1 aC.length t1) aC)],MOk W base m):=λW h m hm2=>by rw[List.mem_singleton.1 hm2];exact hm.1.below h
  have HP:Hid ((Value.slice ra ms.length rc::(Ew ms++Ew [(Ah.mk mk aG aF (.slice s0 aF.length t0) (.slice s1 aC.length t1) aC)])).Pairwise Aside):=by show List.Pairwise _ _;rw[Je];exact hp
  have hl2:ms.length+[(Ah.mk mk aG aF (.slice s0 aF.length t0) (.slice s1 aC.length t1) aC)].length<=1000000:=by simp only[A48];omega
  have hO:Oy k ⟨mk,aG,aF, .slice s0 aF.length t0, .slice s1 aC.length t1,aC⟩=[(Ah.mk mk aG aF (.slice s0 aF.length t0) (.slice s1 aC.length t1) aC)]:=if_neg hkk;rw[hO];clear hO;have jL:=hid hvl;have ekk:(mk==k)=false:=by rw[A5a];exact hkk
  clear hrow hm hp hl hvl;go_enter Tryz.func121,Tryz.ntmps121
  go_wp2_with (at_builtin;refine Ph rfl _ _ rfl base lo ra rc ms [Ah.mk mk aG aF (.slice s0 aF.length t0) (.slice s1 aC.length t1) aC] _ 1 rfl rfl (aP _ blA) (λ_=>⟨_,rfl,by exact Awk spz⟩) (HK _ blA) HP hl2 (by simp;omega) (by simp;omega) jL.out ?_;intro a6 c6 w6 aW hb6 hv6;have gJ:Hid (J4 w6 base (.slice a6 (ms.length+1) c6) (ms++[Ah.mk mk aG aF (.slice s0 aF.length t0) (.slice s1 aC.length t1) aC])):=aW;have rG:Hid (∀k,(Value.slice a6 (ms.length+1) c6).ownBlock=some k->lo<=k):=hv6;clear aW hv6;have hb7:=(show Below lo w _ from(show Below w.heap.size w _ from blA).mono hlo).trans hb6)
  go_ret;exact⟨a6,c6,rfl,gJ.out,hb7,rG.out⟩
end Go.Proofs.YtbfljjcnbbmoaaaGreatDoor
