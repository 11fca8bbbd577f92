import Derived.Test.YtbfljjcnbbmoaaaGreatDoorGl
import Derived.OneCell
import Derived.Test.YtbfljjcnbbmoaaaGreatDoorGp
set_option maxHeartbeats 4000000
set_option maxRecDepth 100000
namespace Go.Proofs.YtbfljjcnbbmoaaaGreatDoor
open Stil
open Go.RowKit Go.Sort Go.BigFrame
def L9 (w:World) (base:Nat) (n:Stil.Net) (e:Ending):Prop:=∃(k op:Int) (ds:List Stil.Dev) (a1:Option Addr) (c1:Nat) (a2:Option Addr) (c2:Nat) (ms:List Ah),e=.returned (.agg #[.int .i64 k, .int .i64 op, .slice a1 ds.length c1, .slice a2 ms.length c2])/\
 Ib w base ⟨k,op,ds, .slice a1 ds.length c1, .slice a2 ms.length c2,ms⟩/\(Ah.mk k op ds (.slice a1 ds.length c1) (.slice a2 ms.length c2) ms).net=n
def Az2 (xs:List Value) (ms:List Ah):Prop:=∀j,j<ms.length*4->xs[j]?=(F9 ms)[j]?
theorem Az2.snoc {xs:List Value} {ms:List Ah} {m:Ah} {k:Nat} (h:Az2 xs ms) (hk:ms.length=k) (hl:k*4+4<=xs.length):Az2 ((((xs.set (k*4) (.int .i64 m.kind)).set (k*4+1) (.int .i64 m.op)).set (k*4+2) m.av).set (k*4+3) m.kv) (ms++[m]):=by
 intro j hj;rw[Y4,Apo];have hlen:=Wi ms;simp only[A4d,A5d] at hj;by_cases h1:j<k*4
 ·rw[List.getElem?_append_left (by omega),A4n (by omega),A4n (by omega),A4n (by omega),A4n (by omega)]
  exact h j (by omega)
 ·rw[List.getElem?_append_right (by omega)]
  have hx:j=k*4\/j=k*4+1\/j=k*4+2\/j=k*4+3:=by omega
  rcases hx with e | e | e | e
  ·subst e
   rw[A4n (by omega),A4n (by omega),A4n (by omega),A42 (by omega)];have e2:k*4 - (F9 ms).length=0:=by omega
   rw[e2];rfl
  ·subst e
   rw[A4n (by omega),A4n (by omega),A42 (by simp;omega)];have e2:k*4+1 - (F9 ms).length=1:=by omega
   rw[e2];rfl
  ·subst e
   rw[A4n (by omega),A42 (by simp;omega)];have e2:k*4+2 - (F9 ms).length=2:=by omega
   rw[e2];rfl
  ·subst e
   rw[A42 (by simp;omega)];have e2:k*4+3 - (F9 ms).length=3:=by omega
   rw[e2];rfl
theorem Az2.all {xs:List Value} {ms:List Ah} (h:Az2 xs ms) (hl:xs.length=ms.length*4):xs=F9 ms:=by
 refine List.ext_getElem? (λj=>?_);by_cases hj:j<ms.length*4
 ·exact h j hj
 ·rw[List.getElem?_eq_none (by omega),List.getElem?_eq_none (by rw[Wi];omega)]
theorem MOk.set {w:World} {base:Nat} {m:Ah} (h:MOk w base m) {a:Addr} (ha:a.block<base) (u:Value):MOk (w.setCell a u) base m:=MOk.map m h (λ_ _ _ _ _ _ ho=>ownsRow_setCell_below ho ha u)
theorem MOk.set4 {w:World} {base b o1 o2 o3 o4:Nat} {m:Ah} {u1 u2 u3 u4:Value} (h:MOk w base m) (hb:b<base):MOk ((((w.setCell ⟨b,o1,none⟩ u1).setCell ⟨b,o2,none⟩ u2).setCell ⟨b,o3,none⟩ u3).setCell ⟨b,o4,none⟩ u4) base m:=
 MOk.set (MOk.set (MOk.set (MOk.set h (a:=⟨b,o1,none⟩) hb u1) (a:=⟨b,o2,none⟩) hb u2) (a:=⟨b,o3,none⟩) hb u3) (a:=⟨b,o4,none⟩) hb u4
theorem Ib.set {w:World} {base:Nat} {m:Ah} (h:Ib w base m) {a:Addr} (ha:a.block<base) (u:Value):Ib (w.setCell a u) base m:=⟨h.1.set ha u,h.2⟩
theorem Jt.set {w:World} {base:Nat} {v:Value} {ms:List Ah} (h:Jt w base v ms) {a:Addr} (ha:a.block<base) (u:Value):Jt (w.setCell a u) base v ms:=⟨ownsRow_setCell_below h.1 ha u,λm hm=>(h.2.1 m hm).set ha u,h.2.2⟩
theorem vals_snoc {w w2:World} {base b2:Nat} {ms:List Ah} {m:Ah} (h:∀x∈ms,MOk w base x) (hp:(Eh ms).Pairwise Aside) (hm:Ib w2 b2 m) (hb:w.heap.size<=b2):(Eh (ms++[m])).Pairwise Aside:=by
 rw[Lc,Iz,A40];refine⟨hp,hm.2,λx hx y hy=>Eb (n:=w.heap.size) (λk hk=>?_) (λk hk=>?_)⟩
 ·obtain⟨z,hz,hx⟩:=Iw.1 hx
  exact((h z hz).lt z x hx k hk).2
 ·exact A4p hb (hm.1.lt m y hy k hk).1
theorem Auk (es:List Stil.Net) (ih:∀x∈es,∀(av kv:Value) (w:World),Bg w av x.one.args->Dq w kv x.kids->Calls Tryz.prog 41 #[.agg #[.int .i64 x.kind, .int .i64 x.one.op,av,kv]] w λe w'=>L9 w' w.heap.size x e/\Below w.heap.size w w')
  (v:Value) (w:World) (hat:Dq w v es) (hl:es.length<=1048576):
  Calls Tryz.prog 66 #[v] w λe w'=>∃ms:List Ah,ms.map Ah.net=es/\e=.returned (.slice (some ⟨w.heap.size,0,none⟩) ms.length ms.length)/\Jt w' w.heap.size (.slice (some ⟨w.heap.size,0,none⟩) ms.length ms.length) ms/\Below w.heap.size w w':=by
 obtain⟨i0,hi,hz0,hz1,hz2⟩:=info_parts Abf;obtain⟨a,cap,rfl,hc⟩:=hat;have HA:=hid hc;have IH:=hid ih;clear hc ih;go_enter Tryz.func66,Tryz.ntmps66
 go_wp2_with (at_make;refine wpList_make_full _ rfl _ _ 50 rfl w.heap.size 52 i0 (.agg #[.int .i64 0, .int .i64 0, .slice none 0 0, .slice none 0 0]) 4 Tryz.underlying50 hi hz0 hz1 _ _ _ _ es.length rfl rfl rfl rfl ?c1 ?c2 (A4i _) ?_)
 case c1=>rw[hz2];omega
 case c2=>unfold maxLen;omega
 intro w1 hown1 hgr1;have hb1:=(Below.refl _ _).grown hgr1 (A4i _) (λ_ h=>by cases h);have hs1:=(hown1.lt w.heap.size rfl).2
 go_wp2
 go_loopw [4] (λi wr=>∃(k:Nat) (xs:List Value) (ms:List Ah),k<=es.length/\i=.int .i64 k/\ms.map Ah.net=es.take k/\wr.ownsRow w.heap.size 52 4 (.slice (some ⟨w.heap.size,0,none⟩) es.length es.length) es.length xs/\w.heap.size<wr.heap.size/\Az2 xs ms/\(∀m∈ms,MOk wr (w.heap.size+1) m)/\(Eh ms).Pairwise Aside/\Below w.heap.size w wr) (λi _=>es.length - (intOf i).toNat)
 case atStart=>exact⟨0,_,[],by omega,rfl,rfl,hown1,hs1,λj hj=>absurd hj (by simp),(λm hm=>by cases hm),List.Pairwise.nil,hb1⟩
 case round=>
  clear hown1 hgr1 hb1 hs1;obtain⟨k,xs,ms,hk,rfl,hms,hown,hsz,hpre,hmk,hpw,hb⟩:=hrel;have HPR:Hid (Az2 xs ms/\(∀m∈ms,MOk wr (w.heap.size+1) m)/\(Eh ms).Pairwise Aside):=⟨hpre,hmk,hpw⟩
  have HMS:=hid hms;clear hpre hmk hpw hms;by_cases hlt:k<es.length
  ·obtain⟨b,o,rfl,hbl,hn⟩:=HA.out k hlt
   obtain⟨x0,x1,av,kv,x2,x3,hav,hkv⟩:=(Me.below hb _ _ _ hn hbl).open;have HI:=hid (λW hW=>IH.out es[k] (A4k hlt) av kv W (hav.below hW) (hkv.below hW));obtain⟨x,hx⟩:∃x,x=es[k]:=⟨_,rfl⟩
   rw[<-hx] at HI x0 x1 hav hkv;have HX:=hid hx;obtain⟨p0,r0,rfl,_⟩:=hav;obtain⟨p1,r1,rfl,_⟩:=hkv;clear hx hn
   go_wp2_with (go_at_call 41;refine(HI.out _ blB).mono ?_;rintro e w2 ⟨⟨mk,mop,mds,s0,t0,s1,t1,mks,rfl,hmo,hmn⟩,hb2⟩;have HMO:Hid (Ib w2 _ ⟨mk,mop,mds, .slice s0 mds.length t0, .slice s1 mks.length t1,mks⟩):=hmo;have HMN:=hid hmn;clear hmo hmn;have hown2:=ownsRow_below hown hb2;obtain⟨⟨v0,q0⟩,⟨v1,q1⟩,⟨v2,q2⟩,⟨v3,q3⟩⟩:=A3i hown2 k hlt;obtain⟨f0,f1,f2,f3⟩:=A2x hown2 k)
   have m0:=(hown2.stored (k*4) (.int .i64 mk)).1;have m1:=(m0.stored (k*4+1) (.int .i64 mop)).1;have m2:=(m1.stored (k*4+2) (.slice s0 mds.length t0)).1;have m3:=(m2.stored (k*4+3) (.slice s1 mks.length t1)).1;obtain⟨hpre,hmk,hpw⟩:=HPR.out;have hmo:=HMO.out;have hlen:ms.length=k:=by
    have:=congrArg List.length HMS.out
    simpa[List.length_take,Nat.min_eq_left (Nat.le_of_lt hlt)] using this
   refine⟨⟨k+1,_,ms++[⟨mk,mop,mds, .slice s0 mds.length t0, .slice s1 mks.length t1,mks⟩],by omega,by go_num,?_,m3,?_,?_,?_,?_,Bv (A4i _) (Bv (A4i _) (Bv (A4i _) (Bv (A4i _) (Cj hb hb2) _) _) _) _⟩,by simp[intOf];omega⟩
   ·rw[A4r,HMS.out,A4w hlt,<-HX.out,<-HMN.out];rfl
   ·exact A4c (A4c hsz hb2.size) (A4p (Ff _ _ _) (A4p (Ff _ _ _) (A4p (Ff _ _ _) (Ff _ _ _))))
   ·refine Az2.snoc (m:=⟨mk,mop,mds, .slice s0 mds.length t0, .slice s1 mks.length t1,mks⟩) hpre hlen ?_
    have:=hown.1
    omega
   ·intro m hm
    refine MOk.set4 ?_ (Nat.lt_succ_self _);rcases List.mem_append.1 hm with hm | hm
    ·exact(hmk m hm).below hb2
    ·obtain rfl:=List.mem_singleton.1 hm
     exact hmo.1.le hsz
   ·exact vals_snoc hmk hpw hmo (A4i _)
  ·obtain rfl:k=es.length:=by omega
   obtain⟨hpre,hmk,hpw⟩:=HPR.out;have hms:=HMS.out;rw[List.take_length] at hms;have hlen:ms.length=es.length:=by rw[<-hms];simp
   have hxs:=hpre.all (by rw[hlen];exact hown.1);subst hxs
   go_wp2
   go_ret;have hmr:Jt wr w.heap.size (.slice (some ⟨w.heap.size,0,none⟩) ms.length ms.length) ms:=by
    refine⟨by rw[hlen];exact hown,λm hm=>(hmk m hm).le (Nat.le_succ _),?_⟩;rw[A4z];refine⟨λy hy=>Eb (n:=w.heap.size+1) (λj hj=>?_) (λj hj=>?_),hpw⟩
    ·have e:w.heap.size=j:=by simpa[Value.ownBlock] using hj
     omega
    ·obtain⟨z,hz,hy⟩:=Iw.1 hy
     exact((hmk z hz).lt z y hy j hj).1
   refine⟨ms,hms,?_,hmr,hb⟩;rw[hlen];rfl
theorem Axx (n:Stil.Net):Cc n->∀(av kv:Value) (w:World),Bg w av n.one.args->Dq w kv n.kids->Calls Tryz.prog 41 #[.agg #[.int .i64 n.kind, .int .i64 n.one.op,av,kv]] w λe w'=>L9 w' w.heap.size n e/\Below w.heap.size w w':=by
 induction n using Fg with
 | h k e kids ih=>
  intro hft av kv w hav hkv;obtain⟨_,he,hl,hk⟩:=(Fa _ _ _).1 hft;simp only at hav hkv;have H1:=hid (λW hW=>Anf e.op av e.args W (hav.below hW) he.2.1);have H2:=hid (λW hW=>Auk kids (λx hx=>ih x hx (hk x hx)) kv W (hkv.below hW) hl);obtain⟨p0,r0,rfl,_⟩:=hav;obtain⟨p1,r1,rfl,_⟩:=hkv;clear ih hft he hl hk;go_enter Tryz.func41,Tryz.ntmps41
  go_wp2_with (first | (go_at_call 65;refine(H1.out _ blA).mono ?_;rintro e w1 ⟨u,rfl,g1,hb⟩;obtain⟨s0,t0,hu⟩:=Af g1;subst hu;obtain⟨hc,hf⟩:=Dl hb;have hza:w.heap.size<w1.heap.size:=A4c (by simp;omega) hb.size;have hzb:w.heap.size+1<w1.heap.size:=A4c (by simp) hb.size;have hzc:w.heap.size+1+1<w1.heap.size:=A4c (by simp) hb.size) | (go_at_call 66;refine(H2.out _ blA).mono ?_;rintro e w2 ⟨ms,hms,rfl,g2,hb2⟩;have HMS:=hid hms;have HG2:Hid (Jt w2 _ _ ms):=g2;clear g2 hms;obtain⟨hc2,hf2⟩:=Dl hb2))
  have b0:w2.cell? ⟨w.heap.size+1,0,none⟩=some (.int .i64 0):=by rw[hc2 _ _ (by simp;omega)];simp[go_sem,hc]
  have b1:w2.cell? ⟨w.heap.size+1,1,none⟩=some (.int .i64 0):=by rw[hc2 _ _ (by simp;omega)];simp[go_sem,hc]
  have b2:w2.cell? ⟨w.heap.size+1,2,none⟩=some (.slice none 0 0):=by rw[hc2 _ _ (by simp;omega)];simp[go_sem,hc]
  have b3:w2.cell? ⟨w.heap.size+1,3,none⟩=some (.slice none 0 0):=by rw[hc2 _ _ (by simp;omega)];simp[go_sem,hc]
  have g2:=HG2.out;simp only[World.size_setCell] at g2;have ga:w2.ownsRow (w.heap.size+3) 86 3 (.slice s0 e.args.length t0) e.args.length (Bz e.args):=by
   refine ownsRow_below ?_ hb2;repeat (refine ownsRow_setCell_below ?_ (by first | (simp;done) | (simp;omega)) _)
   exact Joins.ownsRow_le g1 (by simp)
  have g1l:=g1.lt;refine bodyPost_ret (v:=.agg #[.int .i64 k, .int .i64 e.op, .slice s0 e.args.length t0, .slice (some ⟨w1.heap.size,0,none⟩) ms.length ms.length]) (by simp[results,Tryz.results41,go_sem,b0,b1,b2,b3]) rfl ⟨⟨k,e.op,e.args,s0,t0,some ⟨w1.heap.size,0,none⟩,ms.length,ms,rfl,?_,?_⟩,?_⟩
  ·refine Ib.le (base:=w.heap.size+3) ?_ (by omega)
   repeat (refine Ib.set ?_ (by first | (simp;done) | (simp;omega)) _)
   exact Jt.net k e.op e.args (g2.le (by omega)) ga (λx hx=>Eb (n:=w1.heap.size) (λj hj=>(g1l j hj).2) (λj hj=>(g2.lt x hx j hj).1))
  ·rw[Ah.net_eq]
   simp only;rw[HMS.out]
  ·(repeat (first | with_reducible exact Below.refl _ _ | with_reducible assumption | with_reducible refine Bv (by first | exact A4i _ | (simp;done) | (simp;omega) | omega) ?_ _ | with_reducible refine Bl ?_ _ | with_reducible refine G9 ?_ _ | with_reducible refine Ij ?_ | with_reducible refine G7 ?_ _ _ | with_reducible refine Cj ?_ (by assumption)))
end Go.Proofs.YtbfljjcnbbmoaaaGreatDoor
namespace Stil
end Stil
namespace Go.Proofs.YtbfljjcnbbmoaaaGreatDoor
open Go.RowKit Go.Sort Go.BigFrame
end Go.Proofs.YtbfljjcnbbmoaaaGreatDoor
namespace Go.Proofs.YtbfljjcnbbmoaaaGreatDoor
open Go.RowKit Go.Sort Go.BigFrame
theorem Acr {w:World} {base:Nat} {ks:List Ah} (hk:∀m∈ks,MOk w base m):∀u∈F9 ks,u.oneCell'=true:=by
 intro u hu;obtain⟨m,hm,hu⟩:=List.mem_flatMap.1 hu;have h:=(Hq w base m).1 (hk m hm);obtain⟨a1,c1,e1⟩:=Af h.1;obtain⟨a2,c2,e2⟩:=Af h.2.1;simp only[Ah.cells,A4y,List.mem_nil_iff,or_false] at hu;rcases hu with rfl | rfl | rfl | rfl
 ·rfl
 ·rfl
 ·rw[e1];rfl
 ·rw[e2];rfl
theorem Aa2 {ops:Array Oper} {o:Oper} {a:Act} {w:World} {K:Act->World->Prop} {Q:Exit->Act->World->Prop} {E:Prop}
  (hg:o.guard=none) (s x:Operand) (hop:o.op=.call {callee:=.builtin .append,args:=#[s,x],argTypes:=#[50,50]})
  (base:Nat) (ra:Option Addr) (rc:Nat) (ms ks:List Ah) (ad:Option Addr) (c:Nat) (hs:a.eval s=.slice ra ms.length rc) (hx:a.eval x=.slice ad ks.length c)
  (hrow:Jt w base (.slice ra ms.length rc) ms) (hxs:0<ks.length->∃p,ad=some p/\∀j u,(F9 ks)[j]?=some u->w.cell? (p.add j)=some u)
  (hk:∀m∈ks,MOk w base m) (hp:(Value.slice ra ms.length rc::(Eh ms++Eh ks)).Pairwise Aside) (hl:ms.length+ks.length<=1000000) (hbase:base<=w.heap.size)
  (hK:∀a' c' w',Jt w' base (.slice a' (ms.length+ks.length) c') (ms++ks)->Below base w w'->K (a.put o.dst (.slice a' (ms.length+ks.length) c')) w'):
  if Region.wanted o (yielded ops a.tmps)=true then Oper.wp Tryz.prog o a w K Q else E:=by
 obtain⟨i0,hi,hz0,hz1,hz2⟩:=info_parts Abf;by_cases hd:ks.length=0
 ·have hn:=List.length_eq_zero_iff.1 hd
  subst hn;have hw:Region.wanted o (yielded ops a.tmps)=true:=by simp[Region.wanted,hg]
  rw[if_pos hw];have hcap:ms.length<=rc:=by
   rcases hrow.1.2 with⟨h0,h1⟩ | ⟨g,c',cur,h0,_,_,hnc,_⟩
   ·rw[h1];exact Nat.zero_le _
   ·simp only[Value.slice.injEq] at h0
    rw[h0.2.2];exact hnc
  have hk2:=hK ra rc w (by simpa using hrow) (Below.refl _ _);simp only[A4f,Nat.add_zero] at hk2 hx;unfold Oper.wp execOp;cases ad
  ·have e:Sem.run Tryz.prog (Builtin.append_ #[50,50] o.type #[.slice ra ms.length rc, .slice none 0 c]) w=.ok (.slice ra ms.length rc) w:=by cases ra<;>simp[Builtin.append_,go_sem,hcap]
   simp only[hop,resolve,invoke,builtin,Sem.run_bind,Sem.run_pure,Result.andThen_ok,List.map_toArray,A4v,List.map_nil,hs,hx,e];exact hk2
  ·rename_i t1
   have e:Sem.run Tryz.prog (Builtin.append_ #[50,50] o.type #[.slice ra ms.length rc, .slice (some t1) 0 c]) w=.ok (.slice ra ms.length rc) w:=by cases ra<;>simp[Builtin.append_,go_sem,hcap]
   simp only[hop,resolve,invoke,builtin,Sem.run_bind,Sem.run_pure,Result.andThen_ok,List.map_toArray,A4v,List.map_nil,hs,hx,e];exact hk2
 ·obtain⟨p,rfl,hcs⟩:=hxs (by omega)
  refine Gu hg s x _ hop base 52 i0 _ 4 64 Tryz.underlying50 hi hz0 hz1 hz2 rfl (by decide) _ _ (F9 ms) hs hrow.1 _ _ _ (F9 ks) hx (Wi ks) hcs (Acr hk) (by unfold maxLen;omega) (by omega) hbase ?_;intro v' w' h1 h2 h3;obtain⟨a6,c6,hv6⟩:=Af h1;subst hv6;exact hK a6 c6 w' (hrow.add hk hp h1 h2 h3) ((Below.refl _ _).grown h2 hbase (λj hj=>(hrow.1.lt j hj).1))
theorem Qr {ops:Array Oper} {rest:List Oper} {o:Oper} {a:Act} {w:World} {Q:Exit->Act->World->Prop}
  (hg:o.guard=none) (s x:Operand) (hop:o.op=.call {callee:=.builtin .append,args:=#[s,x],argTypes:=#[50,50]})
  (base:Nat) (ra:Option Addr) (rc:Nat) (ms ks:List Ah) (ad:Option Addr) (c:Nat) (hs:a.eval s=.slice ra ms.length rc) (hx:a.eval x=.slice ad ks.length c)
  (hrow:Jt w base (.slice ra ms.length rc) ms) (hxs:0<ks.length->∃p,ad=some p/\∀j u,(F9 ks)[j]?=some u->w.cell? (p.add j)=some u)
  (hk:∀m∈ks,MOk w base m) (hp:(Value.slice ra ms.length rc::(Eh ms++Eh ks)).Pairwise Aside) (hl:ms.length+ks.length<=1000000) (hbase:base<=w.heap.size)
  (h:∀a' c' w',Jt w' base (.slice a' (ms.length+ks.length) c') (ms++ks)->Below base w w'->wpList Tryz.prog ops Q rest (a.put o.dst (.slice a' (ms.length+ks.length) c')) w'):
  wpList Tryz.prog ops Q (o::rest) a w:=by
 refine wpList_plain hg λK hK=>?_
 have hw:Region.wanted o (yielded #[] a.tmps)=true:=by simp[Region.wanted,hg]
 have:=Aa2 (ops:=#[]) (K:=K) (Q:=Q) (E:=True) hg s x hop base ra rc ms ks ad c hs hx hrow hxs hk hp hl hbase (λa' c' w' h1 h2=>hK _ _ (h a' c' w' h1 h2))
 rwa [if_pos hw] at this
theorem Jt.single {w:World} {base:Nat} {m:Ah} (h:Ib w base m) (hb:base<=w.heap.size):Jt (w.alloc (.cells #[.int .i64 m.kind, .int .i64 m.op,m.av,m.kv] 52)) base (.slice (some ⟨w.heap.size,0,none⟩) 1 1) [m]:=by
 refine⟨?_,λx hx=>?_,?_⟩
 ·exact World.ownsRow_lit w #[.int .i64 m.kind, .int .i64 m.op,m.av,m.kv] 1 hb (by unfold maxLen;omega) rfl
 ·rw[List.mem_singleton.1 hx];exact h.1.below (Aa _ _)
 ·rw[Iz,A4z]
  refine⟨λy hy=>(Eb (n:=w.heap.size) (λk hk=>(h.1.lt m y hy k hk).2) (λk hk=>?_)).symm,h.2⟩;have e:w.heap.size=k:=by simpa[Value.ownBlock] using hk
  omega
theorem Kt {W:World} {p q:Addr} {v:Value}:(W.setCell p v).frozen? q=W.frozen? q:=by simp[go_sem]
theorem cells4 {W:World} {u0 u1 u2 u3:Value} {t:TypeId}:∀j u,[u0,u1,u2,u3][j]?=some u->(W.alloc (.cells #[u0,u1,u2,u3] t)).cell? ((⟨W.heap.size,0,none⟩:Addr).add j)=some u:=by
 intro j u h;rw[Addr.add_lit]
 match j,h with
 | 0,h=>simp at h;subst h;simp[go_sem]
 | 1,h=>simp at h;subst h;simp[go_sem]
 | 2,h=>simp at h;subst h;simp[go_sem]
 | 3,h=>simp at h;subst h;simp[go_sem]
 | j+4,h=>simp at h
def B4 (w:World) (b:Nat) (v0 v1 v2 v3:Value):Prop:=b<w.heap.size/\(w.cell? ⟨b,0,none⟩=some v0/\w.cell? ⟨b,1,none⟩=some v1/\w.cell? ⟨b,2,none⟩=some v2/\w.cell? ⟨b,3,none⟩=some v3)/\
 w.frozen? ⟨b,0,none⟩=false/\w.frozen? ⟨b,1,none⟩=false/\w.frozen? ⟨b,2,none⟩=false/\w.frozen? ⟨b,3,none⟩=false
theorem B4.below {w w':World} {n b:Nat} {v0 v1 v2 v3:Value} (h:B4 w b v0 v1 v2 v3) (hb:Below n w w') (hn:b<n):B4 w' b v0 v1 v2 v3:=by
 obtain⟨h0,⟨c0,c1,c2,c3⟩,f0,f1,f2,f3⟩:=h;refine⟨A4c h0 hb.size,⟨(hb.cell (p:=⟨b,0,none⟩) hn).trans c0,(hb.cell (p:=⟨b,1,none⟩) hn).trans c1,(hb.cell (p:=⟨b,2,none⟩) hn).trans c2,(hb.cell (p:=⟨b,3,none⟩) hn).trans c3⟩,?_⟩;exact⟨(hb.frozen (p:=⟨b,0,none⟩) hn).trans f0,(hb.frozen (p:=⟨b,1,none⟩) hn).trans f1,(hb.frozen (p:=⟨b,2,none⟩) hn).trans f2,(hb.frozen (p:=⟨b,3,none⟩) hn).trans f3⟩
theorem B4.set3 {w:World} {b:Nat} {v0 v1 v2 v3:Value} (h:B4 w b v0 v1 v2 v3) (u:Value):B4 (w.setCell ⟨b,3,none⟩ u) b v0 v1 v2 u:=by
 obtain⟨h0,⟨c0,c1,c2,c3⟩,f0,f1,f2,f3⟩:=h;exact⟨A4c h0 (Ff _ _ _),⟨(Bf (by omega)).trans c0,(Bf (by omega)).trans c1,(Bf (by omega)).trans c2,Ey c3⟩,Kt.trans f0,Kt.trans f1,Kt.trans f2,Kt.trans f3⟩
theorem B4.setO {w:World} {b c o:Nat} {v0 v1 v2 v3:Value} (h:B4 w b v0 v1 v2 v3) (hc:b≠c) (u:Value):B4 (w.setCell ⟨c,o,none⟩ u) b v0 v1 v2 v3:=by
 obtain⟨h0,⟨c0,c1,c2,c3⟩,f0,f1,f2,f3⟩:=h;exact⟨A4c h0 (Ff _ _ _),⟨(Ba hc).trans c0,(Ba hc).trans c1,(Ba hc).trans c2,(Ba hc).trans c3⟩,Kt.trans f0,Kt.trans f1,Kt.trans f2,Kt.trans f3⟩
end Go.Proofs.YtbfljjcnbbmoaaaGreatDoor
namespace Go.Proofs.YtbfljjcnbbmoaaaGreatDoor
open Go.RowKit Go.Sort Go.BigFrame
set_option maxHeartbeats 2000000 in
set_option maxRecDepth 100000 in
theorem Atc (e:Stil.Elem) (av:Value) (w:World) (hav:Bg w av e.args) (hla:e.args.length<=1048576):
  Calls Tryz.prog 38 #[.agg #[.int .i64 e.op,av]] w λr w'=>∃a c,r=.returned (.agg #[.int .i64 e.op, .slice a e.args.length c])/\w'.ownsRow w.heap.size 86 3 (.slice a e.args.length c) e.args.length (Bz e.args)/\Below w.heap.size w w':=by
 have HDA:=hid (λW (h:Below w.heap.size w W)=>hav.below h);obtain⟨p0,r0,rfl,hz8⟩:=hav;clear hz8;go_enter Tryz.func38,Tryz.ntmps38;go_upto_region 1 with fail
 obtain⟨W,hW⟩:∃W,W=(w.alloc (.cells #[.int .i64 e.op, .slice p0 e.args.length r0] 49)).alloc (.cells #[.int .i64 0, .slice none 0 0] 49):=⟨_,rfl⟩
 rw[<-hW];have q0:W.cell? ⟨w.heap.size,0,none⟩=some (.int .i64 e.op):=by rw[hW];simp[go_sem]
 have q1:W.cell? ⟨w.heap.size,1,none⟩=some (.slice p0 e.args.length r0):=by rw[hW];simp[go_sem]
 have t0:W.cell? ⟨w.heap.size+1,0,none⟩=some (.int .i64 0):=by rw[hW];simp[go_sem]
 have t1:W.cell? ⟨w.heap.size+1,1,none⟩=some (.slice none 0 0):=by rw[hW];simp[go_sem]
 have v0:W.frozen? ⟨w.heap.size+1,0,none⟩=false:=by rw[hW];simp[go_sem]
 have v1:W.frozen? ⟨w.heap.size+1,1,none⟩=false:=by rw[hW];simp[go_sem]
 have hsW:W.heap.size=w.heap.size+2:=by rw[hW];simp
 have hBW:Below w.heap.size w W:=by rw[hW];exact Bl (Aa _ _) _
 have HSW:=hid hsW;have hl0:w.heap.size<W.heap.size:=by omega
 have hl1:w.heap.size+1<W.heap.size:=by omega
 clear hW hsW
 go_region_law (refine Ox rfl _ _ rfl (w.heap.size+2) _ e.args rfl (by exact(World.ownsRow_lit W #[] 0 (by have:=HSW.out;omega) (by unfold maxLen;omega) rfl).drew) _ _ rfl (HDA.out _ (by exact(Bl hBW _).drew)) hla (by have:=HSW.out;simp;omega) ?_;intro v5 w5 hown5 hgr5;obtain⟨a5,c5,hv5⟩:=Af hown5;subst hv5;have hb5:=(Aa W _).drew.grown hgr5 (by simp) (λk hk=>by cases hk;exact A4i _);have hz5:w.heap.size+2<=w5.heap.size:=(by have:=HSW.out;have:=hb5.size;omega);have y0:=(hb5.cell (p:=⟨w.heap.size,0,none⟩) (by have:=HSW.out;show w.heap.size<W.heap.size;omega)).trans q0;have y1:=(hb5.cell (p:=⟨w.heap.size,1,none⟩) (by have:=HSW.out;show w.heap.size<W.heap.size;omega)).trans q1;have z0:=(hb5.cell (p:=⟨w.heap.size+1,0,none⟩) (by have:=HSW.out;show w.heap.size+1<W.heap.size;omega)).trans t0;have z1:=(hb5.cell (p:=⟨w.heap.size+1,1,none⟩) (by have:=HSW.out;show w.heap.size+1<W.heap.size;omega)).trans t1;have f0:=(hb5.frozen (p:=⟨w.heap.size+1,0,none⟩) (by have:=HSW.out;show w.heap.size+1<W.heap.size;omega)).trans v0;have f1:=(hb5.frozen (p:=⟨w.heap.size+1,1,none⟩) (by have:=HSW.out;show w.heap.size+1<W.heap.size;omega)).trans v1)
 all_goals
  try go_wp2
  refine bodyPost_ret (v:=.agg #[.int .i64 e.op, .slice a5 e.args.length c5]) (by simp[results,Tryz.results38,go_sem,z0,z1]) rfl ⟨a5,c5,rfl,?_,?_⟩
  ·refine Joins.ownsRow_le (base:=w.heap.size+2) ?_ (by omega)
   repeat (refine ownsRow_setCell_below ?_ (by first | (simp;done) | (simp;omega)) _)
   exact hown5
  ·have hB5:=hBW.trans (hb5.mono hBW.size)
   (repeat (first | with_reducible exact Below.refl _ _ | with_reducible assumption | with_reducible refine Bv (by first | exact A4i _ | (simp;done) | (simp;omega) | omega) ?_ _ | with_reducible refine Bl ?_ _ | with_reducible refine G9 ?_ _ | with_reducible refine Ij ?_ | with_reducible refine G7 ?_ _ _ | with_reducible refine Cj ?_ (by assumption)))
end Go.Proofs.YtbfljjcnbbmoaaaGreatDoor
namespace Go.Proofs.YtbfljjcnbbmoaaaGreatDoor
open Go.RowKit Go.Sort Go.BigFrame
theorem Acb {w w':World} {base lo s n:Nat} {e:TypeId} {v:Value} {xs:List Value} (h:w.ownsRow base e s v n xs) (hb:Below lo w w') (hv:∀k,v.ownBlock=some k->k<lo):w'.ownsRow base e s v n xs:=by
 obtain⟨h1,h2⟩:=h;refine⟨h1,?_⟩;rcases h2 with h2 | ⟨g,cap,cur,hv',hg,hh,r⟩
 ·exact .inl h2
 ·exact .inr ⟨g,cap,cur,hv',hg,(hb.block g (hv g (by rw[hv'];rfl))).trans hh,r⟩
theorem MOk.low {w w':World} {base lo:Nat} {m:Ah} (h:MOk w base m) (hb:Below lo w w') (hv:∀x∈m.vals,∀k,x.ownBlock=some k->k<lo):MOk w' base m:=MOk.map m h (λ_ _ _ _ _ hx ho=>Acb ho hb (hv _ hx))
theorem Adz {ops:Array Oper} {o:Oper} {a:Act} {w:World} {K:Act->World->Prop} {Q:Exit->Act->World->Prop} {E:Prop}
  (hg:o.guard=none) (s x:Operand) (hop:o.op=.call {callee:=.builtin .append,args:=#[s,x],argTypes:=#[50,50]})
  (base lo:Nat) (ra:Option Addr) (rc:Nat) (ms ks:List Ah) (ad:Option Addr) (c:Nat) (hs:a.eval s=.slice ra ms.length rc) (hx:a.eval x=.slice ad ks.length c)
  (hrow:Jt w base (.slice ra ms.length rc) ms) (hxs:0<ks.length->∃p,ad=some p/\∀j u,(F9 ks)[j]?=some u->w.cell? (p.add j)=some u)
  (hk:∀m∈ks,MOk w base m) (hp:(Value.slice ra ms.length rc::(Eh ms++Eh ks)).Pairwise Aside) (hl:ms.length+ks.length<=1000000) (hbase:base<=w.heap.size) (hlo:lo<=w.heap.size) (hvl:∀k,(Value.slice ra ms.length rc).ownBlock=some k->lo<=k)
  (hK:∀a' c' w',Jt w' base (.slice a' (ms.length+ks.length) c') (ms++ks)->Below lo w w'->(∀k,(Value.slice a' (ms.length+ks.length) c').ownBlock=some k->lo<=k)->K (a.put o.dst (.slice a' (ms.length+ks.length) c')) w'):
  if Region.wanted o (yielded ops a.tmps)=true then Oper.wp Tryz.prog o a w K Q else E:=by
 obtain⟨i0,hi,hz0,hz1,hz2⟩:=info_parts Abf;by_cases hd:ks.length=0
 ·have hn:=List.length_eq_zero_iff.1 hd
  subst hn;have hw:Region.wanted o (yielded ops a.tmps)=true:=by simp[Region.wanted,hg]
  rw[if_pos hw];have hcap:ms.length<=rc:=by
   rcases hrow.1.2 with⟨h0,h1⟩ | ⟨g,c',cur,h0,_,_,hnc,_⟩
   ·rw[h1];exact Nat.zero_le _
   ·simp only[Value.slice.injEq] at h0
    rw[h0.2.2];exact hnc
  have hk2:=hK ra rc w (by simpa using hrow) (Below.refl _ _) (by simpa using hvl);simp only[A4f,Nat.add_zero] at hk2 hx;unfold Oper.wp execOp;cases ad
  ·have e:Sem.run Tryz.prog (Builtin.append_ #[50,50] o.type #[.slice ra ms.length rc, .slice none 0 c]) w=.ok (.slice ra ms.length rc) w:=by cases ra<;>simp[Builtin.append_,go_sem,hcap]
   simp only[hop,resolve,invoke,builtin,Sem.run_bind,Sem.run_pure,Result.andThen_ok,List.map_toArray,A4v,List.map_nil,hs,hx,e];exact hk2
  ·rename_i t1
   have e:Sem.run Tryz.prog (Builtin.append_ #[50,50] o.type #[.slice ra ms.length rc, .slice (some t1) 0 c]) w=.ok (.slice ra ms.length rc) w:=by cases ra<;>simp[Builtin.append_,go_sem,hcap]
   simp only[hop,resolve,invoke,builtin,Sem.run_bind,Sem.run_pure,Result.andThen_ok,List.map_toArray,A4v,List.map_nil,hs,hx,e];exact hk2
 ·obtain⟨p,rfl,hcs⟩:=hxs (by omega)
  refine Gu hg s x _ hop base 52 i0 _ 4 64 Tryz.underlying50 hi hz0 hz1 hz2 rfl (by decide) _ _ (F9 ms) hs hrow.1 _ _ _ (F9 ks) hx (Wi ks) hcs (Acr hk) (by unfold maxLen;omega) (by omega) hbase ?_;intro v' w' h1 h2 h3;obtain⟨a6,c6,hv6⟩:=Af h1;subst hv6;refine hK a6 c6 w' (hrow.add hk hp h1 h2 h3) ((Below.refl _ _).grown h2 hlo hvl) (λk hk2=>?_);rcases h3 with e | e
  ·exact hvl k (by rw[<-e];exact hk2)
  ·rw[e] at hk2
   cases hk2;exact hlo
theorem Ov {ops:Array Oper} {rest:List Oper} {o:Oper} {a:Act} {w:World} {Q:Exit->Act->World->Prop}
  (hg:o.guard=none) (s x:Operand) (hop:o.op=.call {callee:=.builtin .append,args:=#[s,x],argTypes:=#[50,50]})
  (base lo:Nat) (ra:Option Addr) (rc:Nat) (ms ks:List Ah) (ad:Option Addr) (c:Nat) (hs:a.eval s=.slice ra ms.length rc) (hx:a.eval x=.slice ad ks.length c)
  (hrow:Jt w base (.slice ra ms.length rc) ms) (hxs:0<ks.length->∃p,ad=some p/\∀j u,(F9 ks)[j]?=some u->w.cell? (p.add j)=some u)
  (hk:∀m∈ks,MOk w base m) (hp:(Value.slice ra ms.length rc::(Eh ms++Eh ks)).Pairwise Aside) (hl:ms.length+ks.length<=1000000) (hbase:base<=w.heap.size) (hlo:lo<=w.heap.size) (hvl:∀k,(Value.slice ra ms.length rc).ownBlock=some k->lo<=k)
  (h:∀a' c' w',Jt w' base (.slice a' (ms.length+ks.length) c') (ms++ks)->Below lo w w'->(∀k,(Value.slice a' (ms.length+ks.length) c').ownBlock=some k->lo<=k)->wpList Tryz.prog ops Q rest (a.put o.dst (.slice a' (ms.length+ks.length) c')) w'):
  wpList Tryz.prog ops Q (o::rest) a w:=by
 refine wpList_plain hg λK hK=>?_
 have hw:Region.wanted o (yielded #[] a.tmps)=true:=by simp[Region.wanted,hg]
 have:=Adz (ops:=#[]) (K:=K) (Q:=Q) (E:=True) hg s x hop base lo ra rc ms ks ad c hs hx hrow hxs hk hp hl hbase hlo hvl (λa' c' w' h1 h2 h3=>hK _ _ (h a' c' w' h1 h2 h3))
 rwa [if_pos hw] at this
def Oc (k:Int) (m:Ah):List Ah:=if m.kind=k then m.kids else [m]
theorem Avv {W:World} {B:Nat} (hB:B=W.heap.size) {u0 u1 u2 u3:Value} {t:TypeId}:∀j u,[u0,u1,u2,u3][j]?=some u->(W.alloc (.cells #[u0,u1,u2,u3] t)).cell? ((⟨B,0,none⟩:Addr).add j)=some u:=by
 subst hB;exact cells4
set_option maxHeartbeats 2000000 in
set_option maxRecDepth 100000 in
theorem A0y (k:Int) (B base lo:Nat) (ra:Option Addr) (rc:Nat) (ms:List Ah) (mk mop:Int) (mds:List Stil.Dev) (s0:Option Addr) (t0:Nat) (s1:Option Addr) (t1:Nat) (mks:List Ah) (w:World)
  (hbx:w.cell? ⟨B,0,none⟩=some (.int .i64 k)) (hB:B<w.heap.size) (hrow:Jt w base (.slice ra ms.length rc) ms) (hm:Ib w base ⟨mk,mop,mds, .slice s0 mds.length t0, .slice s1 mks.length t1,mks⟩)
  (hp:(Value.slice ra ms.length rc::(Eh ms++(Ah.mk mk mop mds (.slice s0 mds.length t0) (.slice s1 mks.length t1) mks).vals)).Pairwise Aside) (hl:ms.length+mks.length+1<=1000000) (hbase:base<=w.heap.size) (hlo:lo<=w.heap.size) (hvl:∀k,(Value.slice ra ms.length rc).ownBlock=some k->lo<=k):
  Calls Tryz.prog 121 #[.slice ra ms.length rc, .agg #[.int .i64 mk, .int .i64 mop, .slice s0 mds.length t0, .slice s1 mks.length t1], .pointer (some ⟨B,0,none⟩)] w λe w'=>∃(a:Option Addr) (c:Nat),e=.returned (.slice a (ms.length+(Oc k ⟨mk,mop,mds, .slice s0 mds.length t0, .slice s1 mks.length t1,mks⟩).length) c)/\Jt w' base (.slice a (ms.length+(Oc k ⟨mk,mop,mds, .slice s0 mds.length t0, .slice s1 mks.length t1,mks⟩).length) c) (ms++Oc k ⟨mk,mop,mds, .slice s0 mds.length t0, .slice s1 mks.length t1,mks⟩)/\Below lo w w'/\∀j,(Value.slice a (ms.length+(Oc k ⟨mk,mop,mds, .slice s0 mds.length t0, .slice s1 mks.length t1,mks⟩).length) c).ownBlock=some j->lo<=j:=by
 by_cases hkk:mk=k
 ·have HMR:=hid (λW (h:Below w.heap.size w W)=>hrow.below h)
  have HK:Hid (∀W,Below w.heap.size w W->∀m∈mks,MOk W base m):=λW h m hm2=>(hm.kids.1 m hm2).below h
  have HP:Hid ((Value.slice ra ms.length rc::(Eh ms++Eh mks)).Pairwise Aside):=by
   refine List.Pairwise.sublist (List.Sublist.cons_cons _ (List.Sublist.append (List.Sublist.refl _) ?_)) hp;rw[Ah.vals_eq];exact List.Sublist.cons _ (List.Sublist.cons _ (List.Sublist.refl _))
  have HXS:Hid (∀W,Below w.heap.size w W->0<mks.length->∃p,s1=some p/\∀j u,(F9 mks)[j]?=some u->W.cell? (p.add j)=some u):=by
   intro W hW hz;have hr:=ownsRow_below ((Hq _ _ _).1 hm.1).2.1 hW;simp only at hr;obtain⟨g,c,hv,_,_,_,hcell⟩:=Aw hr hz;simp only[Value.slice.injEq] at hv;exact⟨⟨g,0,none⟩,hv.1,λj u hu=>by rw[Addr.add_lit];simpa using hcell j u hu⟩
  have hl2:ms.length+mks.length<=1000000:=by omega
  have hO:Oc k ⟨mk,mop,mds, .slice s0 mds.length t0, .slice s1 mks.length t1,mks⟩=mks:=if_pos hkk;rw[hO];clear hO;have HVL:=hid hvl;clear hrow hm hp hl hvl;rw[<-hkk] at hbx;go_enter Tryz.func121,Tryz.ntmps121
  go_wp2_with (at_builtin;refine Ov rfl _ _ rfl base lo ra rc ms mks s1 t1 rfl rfl (HMR.out _ blA) (HXS.out _ blA) (HK.out _ blA) HP.out hl2 (by simp;omega) (by simp;omega) HVL.out ?_;intro a6 c6 w6 hmr6 hb6 hv6;have HM6:=hid hmr6;have HV6:=hid hv6;clear hmr6 hv6;have hb7:=(show Below lo w _ from(show Below w.heap.size w _ from blA).mono hlo).trans hb6)
  go_ret;exact⟨a6,c6,rfl,HM6.out,hb7,HV6.out⟩
 ·have HMR:=hid (λW (h:Below w.heap.size w W)=>hrow.below h)
  have HK:Hid (∀W,Below w.heap.size w W->∀m∈[(Ah.mk mk mop mds (.slice s0 mds.length t0) (.slice s1 mks.length t1) mks)],MOk W base m):=λW h m hm2=>by rw[List.mem_singleton.1 hm2];exact hm.1.below h
  have HP:Hid ((Value.slice ra ms.length rc::(Eh ms++Eh [(Ah.mk mk mop mds (.slice s0 mds.length t0) (.slice s1 mks.length t1) mks)])).Pairwise Aside):=by show List.Pairwise _ _;rw[Iz];exact hp
  have hl2:ms.length+[(Ah.mk mk mop mds (.slice s0 mds.length t0) (.slice s1 mks.length t1) mks)].length<=1000000:=by simp only[A5d];omega
  have hO:Oc k ⟨mk,mop,mds, .slice s0 mds.length t0, .slice s1 mks.length t1,mks⟩=[(Ah.mk mk mop mds (.slice s0 mds.length t0) (.slice s1 mks.length t1) mks)]:=if_neg hkk;rw[hO];clear hO;have HVL:=hid hvl;have ekk:(mk==k)=false:=by rw[A5f];exact hkk
  clear hrow hm hp hl hvl;go_enter Tryz.func121,Tryz.ntmps121
  go_wp2_with (at_builtin;refine Ov rfl _ _ rfl base lo ra rc ms [Ah.mk mk mop mds (.slice s0 mds.length t0) (.slice s1 mks.length t1) mks] _ 1 rfl rfl (HMR.out _ blA) (λ_=>⟨_,rfl,by exact Avv (by simp)⟩) (HK.out _ blA) HP.out hl2 (by simp;omega) (by simp;omega) HVL.out ?_;intro a6 c6 w6 hmr6 hb6 hv6;have HM6:Hid (Jt w6 base (.slice a6 (ms.length+1) c6) (ms++[Ah.mk mk mop mds (.slice s0 mds.length t0) (.slice s1 mks.length t1) mks])):=hmr6;have HV6:Hid (∀k,(Value.slice a6 (ms.length+1) c6).ownBlock=some k->lo<=k):=hv6;clear hmr6 hv6;have hb7:=(show Below lo w _ from(show Below w.heap.size w _ from blA).mono hlo).trans hb6)
  go_ret;exact⟨a6,c6,rfl,HM6.out,hb7,HV6.out⟩
end Go.Proofs.YtbfljjcnbbmoaaaGreatDoor
