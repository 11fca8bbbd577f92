import Derived.Test.YtbfljjcnbbmoaaaGreatDoorGq
import Derived.Test.YtbfljjcnbbmoaaaGreatDoorY6b
set_option maxHeartbeats 4000000
set_option maxRecDepth 100000
namespace Go.Proofs.YtbfljjcnbbmoaaaGreatDoor
open Stil
open Go.RowKit Go.Sort Go.BigFrame
def Az3 (xs:List Value) (ms:List Cm):Prop:=∀j,j<ms.length*2->xs[j]?=(Fq ms)[j]?
theorem Az3.snoc {xs:List Value} {ms:List Cm} {m:Cm} {k:Nat} (h:Az3 xs ms) (hk:ms.length=k) (hl:k*2+2<=xs.length):Az3 ((xs.set (k*2) (.int .i64 m.op)).set (k*2+1) m.av) (ms++[m]):=by
 intro j hj;rw[Zd,Aqd];have hlen:=Wp ms;simp only[A4d,A5d] at hj;by_cases h1:j<k*2
 ·rw[List.getElem?_append_left (by omega),A4n (by omega),A4n (by omega)]
  exact h j (by omega)
 ·rw[List.getElem?_append_right (by omega)]
  have hx:j=k*2\/j=k*2+1:=by omega
  rcases hx with e | e
  ·subst e
   rw[A4n (by omega),A42 (by omega)];have e2:k*2 - (Fq ms).length=0:=by omega
   rw[e2];rfl
  ·subst e
   rw[A42 (by simp;omega)];have e2:k*2+1 - (Fq ms).length=1:=by omega
   rw[e2];rfl
theorem Az3.all {xs:List Value} {ms:List Cm} (h:Az3 xs ms) (hl:xs.length=ms.length*2):xs=Fq ms:=by
 refine List.ext_getElem? (λj=>?_);by_cases hj:j<ms.length*2
 ·exact h j hj
 ·rw[List.getElem?_eq_none (by omega),List.getElem?_eq_none (by rw[Wp];omega)]
def Az1 (xs:List Value) (ms:List Au):Prop:=∀j,j<ms.length*6->xs[j]?=(Fj ms)[j]?
theorem Az1.snoc {xs:List Value} {ms:List Au} {m:Au} {k:Nat} (h:Az1 xs ms) (hk:ms.length=k) (hl:k*6+6<=xs.length):Az1 ((((((xs.set (k*6) (.int .i64 m.net.kind)).set (k*6+1) (.int .i64 m.net.op)).set (k*6+2) m.net.av).set (k*6+3) m.net.kv).set (k*6+4) m.cv).set (k*6+5) m.kv) (ms++[m]):=by
 intro j hj;rw[Zn,Arq];have hlen:=W9 ms;simp only[A4d,A5d] at hj;by_cases h1:j<k*6
 ·rw[List.getElem?_append_left (by omega),A4n (by omega),A4n (by omega),A4n (by omega),A4n (by omega),A4n (by omega),A4n (by omega)]
  exact h j (by omega)
 ·rw[List.getElem?_append_right (by omega)]
  have hx:j=k*6\/j=k*6+1\/j=k*6+2\/j=k*6+3\/j=k*6+4\/j=k*6+5:=by omega
  rcases hx with e | e | e | e | e | e
  ·subst e
   rw[A4n (by omega),A4n (by omega),A4n (by omega),A4n (by omega),A4n (by omega),A42 (by omega)];have e2:k*6 - (Fj ms).length=0:=by omega
   rw[e2];rfl
  ·subst e
   rw[A4n (by omega),A4n (by omega),A4n (by omega),A4n (by omega),A42 (by simp;omega)];have e2:k*6+1 - (Fj ms).length=1:=by omega
   rw[e2];rfl
  ·subst e
   rw[A4n (by omega),A4n (by omega),A4n (by omega),A42 (by simp;omega)];have e2:k*6+2 - (Fj ms).length=2:=by omega
   rw[e2];rfl
  ·subst e
   rw[A4n (by omega),A4n (by omega),A42 (by simp;omega)];have e2:k*6+3 - (Fj ms).length=3:=by omega
   rw[e2];rfl
  ·subst e
   rw[A4n (by omega),A42 (by simp;omega)];have e2:k*6+4 - (Fj ms).length=4:=by omega
   rw[e2];rfl
  ·subst e
   rw[A42 (by simp;omega)];have e2:k*6+5 - (Fj ms).length=5:=by omega
   rw[e2];rfl
theorem Az1.all {xs:List Value} {ms:List Au} (h:Az1 xs ms) (hl:xs.length=ms.length*6):xs=Fj ms:=by
 refine List.ext_getElem? (λj=>?_);by_cases hj:j<ms.length*6
 ·exact h j hj
 ·rw[List.getElem?_eq_none (by omega),List.getElem?_eq_none (by rw[W9];omega)]
theorem EOk.set {w:World} {base:Nat} {m:Cm} (h:EOk w base m) {a:Addr} (ha:a.block<base) (u:Value):EOk (w.setCell a u) base m:=ownsRow_setCell_below h ha u
theorem EOk.set2 {w:World} {base b o1 o2:Nat} {m:Cm} {u1 u2:Value} (h:EOk w base m) (hb:b<base):EOk ((w.setCell ⟨b,o1,none⟩ u1).setCell ⟨b,o2,none⟩ u2) base m:=EOk.set (EOk.set h (a:=⟨b,o1,none⟩) hb u1) (a:=⟨b,o2,none⟩) hb u2
theorem AOk.set {w:World} {base:Nat} {m:Au} (h:AOk w base m) {a:Addr} (ha:a.block<base) (u:Value):AOk (w.setCell a u) base m:=AOk.map m h (λ_ _ _ _ _ _ ho=>ownsRow_setCell_below ho ha u)
theorem AOk.set6 {w:World} {base b o1 o2 o3 o4 o5 o6:Nat} {m:Au} {u1 u2 u3 u4 u5 u6:Value} (h:AOk w base m) (hb:b<base):AOk ((((((w.setCell ⟨b,o1,none⟩ u1).setCell ⟨b,o2,none⟩ u2).setCell ⟨b,o3,none⟩ u3).setCell ⟨b,o4,none⟩ u4).setCell ⟨b,o5,none⟩ u5).setCell ⟨b,o6,none⟩ u6) base m:=
 AOk.set (AOk.set (AOk.set (AOk.set (AOk.set (AOk.set h (a:=⟨b,o1,none⟩) hb u1) (a:=⟨b,o2,none⟩) hb u2) (a:=⟨b,o3,none⟩) hb u3) (a:=⟨b,o4,none⟩) hb u4) (a:=⟨b,o5,none⟩) hb u5) (a:=⟨b,o6,none⟩) hb u6
theorem Hy.set {w:World} {base:Nat} {m:Au} (h:Hy w base m) {a:Addr} (ha:a.block<base) (u:Value):Hy (w.setCell a u) base m:=⟨h.1.set ha u,h.2⟩
theorem Apr (es:List Stil.Elem) (hfit:∀x∈es,x.fits) (v:Value) (w:World) (hat:Ef w v es) (hl:es.length<=1048576):
  Calls Tryz.prog 42 #[v] w λe w'=>∃ms:List Cm,ms.map Cm.elem=es/\e=.returned (.slice (some ⟨w.heap.size,0,none⟩) ms.length ms.length)/\Ou w' w.heap.size (.slice (some ⟨w.heap.size,0,none⟩) ms.length ms.length) ms/\Below w.heap.size w w':=by
 obtain⟨i0,hi,hz0,hz1,hz2⟩:=info_parts Acw;obtain⟨a,cap,rfl,hc⟩:=hat;have HA:=hid hc;have HF:=hid hfit;clear hc hfit;go_enter Tryz.func42,Tryz.ntmps42
 go_wp2_with (at_make;refine wpList_make_full _ rfl _ _ 53 rfl w.heap.size 49 i0 (.agg #[.int .i64 0, .slice none 0 0]) 2 Tryz.underlying53 hi hz0 hz1 _ _ _ _ es.length rfl rfl rfl rfl ?c1 ?c2 (A4i _) ?_)
 case c1=>rw[hz2];omega
 case c2=>unfold maxLen;omega
 intro w1 hown1 hgr1;have hb1:=(Below.refl _ _).grown hgr1 (A4i _) (λ_ h=>by cases h);have hs1:=(hown1.lt w.heap.size rfl).2
 go_wp2
 go_loopw [4] (λi wr=>∃(k:Nat) (xs:List Value) (ms:List Cm),k<=es.length/\i=.int .i64 k/\ms.map Cm.elem=es.take k/\wr.ownsRow w.heap.size 49 2 (.slice (some ⟨w.heap.size,0,none⟩) es.length es.length) es.length xs/\w.heap.size<wr.heap.size/\Az3 xs ms/\(∀m∈ms,EOk wr (w.heap.size+1) m)/\(Et ms).Pairwise Aside/\Below w.heap.size w wr) (λi _=>es.length - (intOf i).toNat)
 case atStart=>exact⟨0,_,[],by omega,rfl,rfl,hown1,hs1,λj hj=>absurd hj (by simp),(λm hm=>by cases hm),List.Pairwise.nil,hb1⟩
 case round=>
  clear hown1 hgr1 hb1 hs1;obtain⟨k,xs,ms,hk,rfl,hms,hown,hsz,hpre,hmk,hpw,hb⟩:=hrel;have HPR:Hid (Az3 xs ms/\(∀m∈ms,EOk wr (w.heap.size+1) m)/\(Et ms).Pairwise Aside):=⟨hpre,hmk,hpw⟩
  have HMS:=hid hms;clear hpre hmk hpw hms;by_cases hlt:k<es.length
  ·obtain⟨b,o,rfl,hbl,hn⟩:=HA.out k hlt
   obtain⟨x0,av,x1,hav⟩:=hn.below hb hbl;have HI:=hid (λW hW=>Anf es[k].op av es[k].args W (hav.below hW) (HF.out _ (A4k hlt)).2.1);obtain⟨x,hx⟩:∃x,x=es[k]:=⟨_,rfl⟩
   rw[<-hx] at HI x0 hav;have HX:=hid hx;obtain⟨p0,r0,rfl,hz8⟩:=hav;clear hx hn hz8
   go_wp2_with (go_at_call 65;refine(HI.out _ blB).mono ?_;rintro e w2 ⟨u,rfl,g1,hb2⟩;obtain⟨s0,t0,hu⟩:=Af g1;subst hu;have HG1:Hid (w2.ownsRow _ 86 3 (.slice s0 x.args.length t0) x.args.length (Bz x.args)):=g1;clear g1;have hown2:=ownsRow_below hown hb2;obtain⟨⟨v0,q0⟩,⟨v1,q1⟩⟩:=A3j hown2 k hlt;obtain⟨f0,f1⟩:=A2y hown2 k)
   have m0:=(hown2.stored (k*2) (.int .i64 x.op)).1;have m1:=(m0.stored (k*2+1) (.slice s0 x.args.length t0)).1;obtain⟨hpre,hmk,hpw⟩:=HPR.out;have hmo:=HG1.out;have hlen:ms.length=k:=by
    have:=congrArg List.length HMS.out
    simpa[List.length_take,Nat.min_eq_left (Nat.le_of_lt hlt)] using this
   refine⟨⟨k+1,_,ms++[⟨x.op,x.args, .slice s0 x.args.length t0⟩],by omega,by go_num,?_,m1,?_,?_,?_,?_,Bv (A4i _) (Bv (A4i _) (Cj hb hb2) _) _⟩,by simp[intOf];omega⟩
   ·rw[A4r,HMS.out,A4w hlt,<-HX.out];rfl
   ·exact A4c (A4c hsz hb2.size) (A4p (Ff _ _ _) (Ff _ _ _))
   ·refine Az3.snoc (m:=⟨x.op,x.args, .slice s0 x.args.length t0⟩) hpre hlen ?_
    have:=hown.1
    omega
   ·intro m hm
    refine EOk.set2 ?_ (Nat.lt_succ_self _);rcases List.mem_append.1 hm with hm | hm
    ·exact ownsRow_below (hmk m hm) hb2
    ·obtain rfl:=List.mem_singleton.1 hm
     exact Joins.ownsRow_le hmo hsz
   ·rw[Q8,A40]
    refine⟨hpw,List.pairwise_singleton _ _,λy hy z hz=>Eb (n:=wr.heap.size) (λj hj=>?_) (λj hj=>?_)⟩
    ·obtain⟨q,hq,rfl⟩:=Iy.1 hy
     exact((hmk q hq).lt j hj).2
    ·obtain rfl:=List.mem_singleton.1 hz
     exact(hmo.lt j hj).1
  ·obtain rfl:k=es.length:=by omega
   obtain⟨hpre,hmk,hpw⟩:=HPR.out;have hms:=HMS.out;rw[List.take_length] at hms;have hlen:ms.length=es.length:=by rw[<-hms];simp
   have hxs:=hpre.all (by rw[hlen];exact hown.1);subst hxs
   go_wp2
   go_ret;have hmr:Ou wr w.heap.size (.slice (some ⟨w.heap.size,0,none⟩) ms.length ms.length) ms:=by
    refine⟨by rw[hlen];exact hown,λm hm=>Joins.ownsRow_le (hmk m hm) (Nat.le_succ _),?_⟩;rw[A4z];refine⟨λy hy=>Eb (n:=w.heap.size+1) (λj hj=>?_) (λj hj=>?_),hpw⟩
    ·have e:w.heap.size=j:=by simpa[Value.ownBlock] using hj
     omega
    ·obtain⟨q,hq,rfl⟩:=Iy.1 hy
     exact((hmk q hq).lt j hj).1
   refine⟨ms,hms,?_,hmr,hb⟩;rw[hlen];rfl
def Adt (w:World) (base:Nat) (a:Stil.Arm) (e:Ending):Prop:=∃(k op:Int) (ds:List Stil.Dev) (a1:Option Addr) (c1:Nat) (ns:List Ah) (a2:Option Addr) (c2:Nat) (cs:List Cm) (a3:Option Addr) (c3:Nat) (ks:List Au) (a4:Option Addr) (c4:Nat),e=.returned (.agg #[.int .i64 k, .int .i64 op, .slice a1 ds.length c1, .slice a2 ns.length c2, .slice a3 cs.length c3, .slice a4 ks.length c4])/\Hy w base ⟨⟨k,op,ds, .slice a1 ds.length c1, .slice a2 ns.length c2,ns⟩, .slice a3 cs.length c3,cs, .slice a4 ks.length c4,ks⟩/\(Au.mk ⟨k,op,ds, .slice a1 ds.length c1, .slice a2 ns.length c2,ns⟩ (.slice a3 cs.length c3) cs (.slice a4 ks.length c4) ks).arm=a
theorem Ari {w w2:World} {base b2:Nat} {ms:List Au} {m:Au} (h:∀x∈ms,AOk w base x) (hp:(Fp ms).Pairwise Aside) (hm:Hy w2 b2 m) (hb:w.heap.size<=b2):(Fp (ms++[m])).Pairwise Aside:=by
 rw[Rf,L8,A40];refine⟨hp,hm.2,λx hx y hy=>Eb (n:=w.heap.size) (λk hk=>?_) (λk hk=>?_)⟩
 ·obtain⟨z,hz,hx⟩:=Ie.1 hx
  exact((h z hz).lt z x hx k hk).2
 ·exact A4p hb (hm.1.lt m y hy k hk).1
theorem Ail (es:List Stil.Arm) (ih:∀x∈es,∀(av nv cv kv:Value) (w:World),Bg w av x.net.one.args->Dq w nv x.net.kids->Ef w cv x.coils->Dv w kv x.kids->Calls Tryz.prog 20 #[.agg #[.int .i64 x.net.kind, .int .i64 x.net.one.op,av,nv,cv,kv]] w λe w'=>Adt w' w.heap.size x e/\Below w.heap.size w w') (v:Value) (w:World) (hat:Dv w v es) (hl:es.length<=1048576):
  Calls Tryz.prog 7 #[v] w λe w'=>∃ms:List Au,ms.map Au.arm=es/\e=.returned (.slice (some ⟨w.heap.size,0,none⟩) ms.length ms.length)/\Na w' w.heap.size (.slice (some ⟨w.heap.size,0,none⟩) ms.length ms.length) ms/\Below w.heap.size w w':=by
 obtain⟨i0,hi,hz0,hz1,hz2⟩:=info_parts Agb;obtain⟨a,cap,rfl,hc⟩:=hat;have HA:=hid hc;have IH:=hid ih;clear hc ih;go_enter Tryz.func7,Tryz.ntmps7
 go_wp2_with (at_make;refine wpList_make_full _ rfl _ _ 26 rfl w.heap.size 55 i0 (.agg #[.int .i64 0, .int .i64 0, .slice none 0 0, .slice none 0 0, .slice none 0 0, .slice none 0 0]) 6 Tryz.underlying26 hi hz0 hz1 _ _ _ _ es.length rfl rfl rfl rfl ?c1 ?c2 (A4i _) ?_)
 case c1=>rw[hz2];omega
 case c2=>unfold maxLen;omega
 intro w1 hown1 hgr1;have hb1:=(Below.refl _ _).grown hgr1 (A4i _) (λ_ h=>by cases h);have hs1:=(hown1.lt w.heap.size rfl).2
 go_wp2
 go_loopw [4] (λi wr=>∃(k:Nat) (xs:List Value) (ms:List Au),k<=es.length/\i=.int .i64 k/\ms.map Au.arm=es.take k/\wr.ownsRow w.heap.size 55 6 (.slice (some ⟨w.heap.size,0,none⟩) es.length es.length) es.length xs/\w.heap.size<wr.heap.size/\Az1 xs ms/\(∀m∈ms,AOk wr (w.heap.size+1) m)/\(Fp ms).Pairwise Aside/\Below w.heap.size w wr) (λi _=>es.length - (intOf i).toNat)
 case atStart=>exact⟨0,_,[],by omega,rfl,rfl,hown1,hs1,λj hj=>absurd hj (by simp),(λm hm=>by cases hm),List.Pairwise.nil,hb1⟩
 case round=>
  clear hown1 hgr1 hb1 hs1;obtain⟨k,xs,ms,hk,rfl,hms,hown,hsz,hpre,hmk,hpw,hb⟩:=hrel;have HPR:Hid (Az1 xs ms/\(∀m∈ms,AOk wr (w.heap.size+1) m)/\(Fp ms).Pairwise Aside):=⟨hpre,hmk,hpw⟩
  have HMS:=hid hms;clear hpre hmk hpw hms;by_cases hlt:k<es.length
  ·obtain⟨b,o,rfl,hbl,hn⟩:=HA.out k hlt
   obtain⟨hna,cv,kv,x4,x5,hcv,hkv⟩:=(Pg.below hb _ _ _ hn hbl).open;obtain⟨x0,x1,av,nv,x2,x3,hav,hnv⟩:=hna.open;have HI:=hid (λW hW=>IH.out es[k] (A4k hlt) av nv cv kv W (hav.below hW) (hnv.below hW) (hcv.below hW) (hkv.below hW));obtain⟨x,hx⟩:∃x,x=es[k]:=⟨_,rfl⟩
   rw[<-hx] at HI x0 x1 hav hnv hcv hkv;have HX:=hid hx;obtain⟨p0,r0,rfl,hz6⟩:=hav;obtain⟨p1,r1,rfl,hz7⟩:=hnv;obtain⟨p2,r2,rfl,hz8⟩:=hcv;obtain⟨p3,r3,rfl,hz9⟩:=hkv;clear hx hn hna hz6 hz7 hz8 hz9
   go_wp2_with (go_at_call 20;refine(HI.out _ blB).mono ?_;rintro e w2 ⟨⟨mk,op,ds,a1,c1,ns,a2,c2,cs,a3,c3,ks,a4,c4,rfl,hmo,hmn⟩,hb2⟩;have HMO:Hid (Hy w2 _ ⟨⟨mk,op,ds, .slice a1 ds.length c1, .slice a2 ns.length c2,ns⟩, .slice a3 cs.length c3,cs, .slice a4 ks.length c4,ks⟩):=hmo;have HMN:=hid hmn;clear hmo hmn;have hown2:=ownsRow_below hown hb2;obtain⟨⟨v0,q0⟩,⟨v1,q1⟩,⟨v2,q2⟩,⟨v3,q3⟩,⟨v4,q4⟩,⟨v5,q5⟩⟩:=A3h hown2 k hlt;obtain⟨f0,f1,f2,f3,f4,f5⟩:=A2w hown2 k)
   have m0:=(hown2.stored (k*6) (.int .i64 mk)).1;have m1:=(m0.stored (k*6+1) (.int .i64 op)).1;have m2:=(m1.stored (k*6+2) (.slice a1 ds.length c1)).1;have m3:=(m2.stored (k*6+3) (.slice a2 ns.length c2)).1;have m4:=(m3.stored (k*6+4) (.slice a3 cs.length c3)).1;have m5:=(m4.stored (k*6+5) (.slice a4 ks.length c4)).1;obtain⟨hpre,hmk,hpw⟩:=HPR.out;have hmo:=HMO.out;have hlen:ms.length=k:=by
    have:=congrArg List.length HMS.out
    simpa[List.length_take,Nat.min_eq_left (Nat.le_of_lt hlt)] using this
   refine⟨⟨k+1,_,ms++[⟨⟨mk,op,ds, .slice a1 ds.length c1, .slice a2 ns.length c2,ns⟩, .slice a3 cs.length c3,cs, .slice a4 ks.length c4,ks⟩],by omega,by go_num,?_,m5,?_,?_,?_,?_,Bv (A4i _) (Bv (A4i _) (Bv (A4i _) (Bv (A4i _) (Bv (A4i _) (Bv (A4i _) (Cj hb hb2) _) _) _) _) _) _⟩,by simp[intOf];omega⟩
   ·rw[A4r,HMS.out,A4w hlt,<-HX.out,<-HMN.out];rfl
   ·exact A4c (A4c hsz hb2.size) (A4p (Ff _ _ _) (A4p (Ff _ _ _) (A4p (Ff _ _ _) (A4p (Ff _ _ _) (A4p (Ff _ _ _) (Ff _ _ _))))))
   ·refine Az1.snoc (m:=⟨⟨mk,op,ds, .slice a1 ds.length c1, .slice a2 ns.length c2,ns⟩, .slice a3 cs.length c3,cs, .slice a4 ks.length c4,ks⟩) hpre hlen ?_
    have:=hown.1
    omega
   ·intro m hm
    refine AOk.set6 ?_ (Nat.lt_succ_self _);rcases List.mem_append.1 hm with hm | hm
    ·exact(hmk m hm).below hb2
    ·obtain rfl:=List.mem_singleton.1 hm
     exact hmo.1.le hsz
   ·exact Ari hmk hpw hmo (A4i _)
  ·obtain rfl:k=es.length:=by omega
   obtain⟨hpre,hmk,hpw⟩:=HPR.out;have hms:=HMS.out;rw[List.take_length] at hms;have hlen:ms.length=es.length:=by rw[<-hms];simp
   have hxs:=hpre.all (by rw[hlen];exact hown.1);subst hxs
   go_wp2
   go_ret;have hmr:Na wr w.heap.size (.slice (some ⟨w.heap.size,0,none⟩) ms.length ms.length) ms:=by
    refine⟨by rw[hlen];exact hown,λm hm=>(hmk m hm).le (Nat.le_succ _),?_⟩;rw[A4z];refine⟨λy hy=>Eb (n:=w.heap.size+1) (λj hj=>?_) (λj hj=>?_),hpw⟩
    ·have e:w.heap.size=j:=by simpa[Value.ownBlock] using hj
     omega
    ·obtain⟨z,hz,hy⟩:=Ie.1 hy
     exact((hmk z hz).lt z y hy j hj).1
   refine⟨ms,hms,?_,hmr,hb⟩;rw[hlen];rfl
theorem Ou.set {w:World} {base:Nat} {v:Value} {es:List Cm} (h:Ou w base v es) {a:Addr} (ha:a.block<base) (u:Value):Ou (w.setCell a u) base v es:=⟨ownsRow_setCell_below h.1 ha u,λm hm=>ownsRow_setCell_below (h.2.1 m hm) ha u,h.2.2⟩
theorem Hy.set6 {w:World} {base b o1 o2 o3 o4 o5 o6:Nat} {m:Au} {u1 u2 u3 u4 u5 u6:Value} (h:Hy w base m) (hb:b<base):Hy ((((((w.setCell ⟨b,o1,none⟩ u1).setCell ⟨b,o2,none⟩ u2).setCell ⟨b,o3,none⟩ u3).setCell ⟨b,o4,none⟩ u4).setCell ⟨b,o5,none⟩ u5).setCell ⟨b,o6,none⟩ u6) base m:=⟨h.1.set6 hb,h.2⟩
theorem Hy.mk {w:World} {base b1 b2:Nat} {n:Ah} {cv kv:Value} {cs:List Cm} {ks:List Au} (hn:Ib w base n) (hc:Ou w b1 cv cs) (hk:Na w b2 kv ks) (h1:base<=b1) (h2:b1<=b2) (hb1:∀x∈n.vals,∀j,x.ownBlock=some j->j<b1) (hb2:∀x∈cv::Et cs,∀j,x.ownBlock=some j->j<b2):Hy w base ⟨n,cv,cs,kv,ks⟩:=by
 have hc2:=hc.le h1;have hk2:=hk.le (A4p h1 h2);refine⟨(G8 _ _ _).2 ⟨hn.1,⟨hc2.1,hc2.2.1⟩,hk2.1,hk2.2.1⟩,?_⟩;rw[Au.vals_eq];refine List.pairwise_append.2 ⟨hn.2,List.pairwise_append.2 ⟨hc.2.2,hk.2.2,λx hx y hy=>Eb (n:=b2) (hb2 x hx) (λj hj=>(hk.lt y hy j hj).1)⟩,λx hx y hy=>Eb (n:=b1) (hb1 x hx) (λj hj=>?_)⟩;rcases List.mem_append.1 hy with hy | hy
 ·exact(hc.lt y hy j hj).1
 ·exact A4p h2 (hk.lt y hy j hj).1
theorem Axz (a:Stil.Arm):C9 a->∀(av nv cv kv:Value) (w:World),Bg w av a.net.one.args->Dq w nv a.net.kids->Ef w cv a.coils->Dv w kv a.kids->Calls Tryz.prog 20 #[.agg #[.int .i64 a.net.kind, .int .i64 a.net.one.op,av,nv,cv,kv]] w λe w'=>Adt w' w.heap.size a e/\Below w.heap.size w w':=by
 induction a using Fz with
 | h n coils kids ih=>
  intro hft av nv cv kv w hav hnv hcv hkv;obtain⟨hfn,hlc,hfc,hl,hk⟩:=(Ee _ _ _).1 hft;simp only at hav hnv hcv hkv;have H1:=hid (λW hW=>Axx n hfn av nv W (hav.below hW) (hnv.below hW));have H2:=hid (λW hW=>Apr coils hfc cv W (hcv.below hW) hlc);have H3:=hid (λW hW=>Ail kids (λx hx=>ih x hx (hk x hx)) kv W (hkv.below hW) hl);obtain⟨p0,r0,rfl,hz6⟩:=hav;obtain⟨p1,r1,rfl,hz7⟩:=hnv;obtain⟨p2,r2,rfl,hz8⟩:=hcv;obtain⟨p3,r3,rfl,hz9⟩:=hkv;clear ih hft hfn hlc hfc hl hk hz6 hz7 hz8 hz9;go_enter Tryz.func20,Tryz.ntmps20
  go_wp2_with (first | (go_at_call 41;refine(H1.out _ blA).mono ?_;rintro e w1 ⟨⟨k,op,ds,a1,c1,a2,c2,ns,rfl,hmo,hmn⟩,hb⟩;obtain⟨hc,hf⟩:=Dl hb;have HMO:Hid (Ib w1 (w.heap.size+3) ⟨k,op,ds, .slice a1 ds.length c1, .slice a2 ns.length c2,ns⟩):=hmo.le (by simp);have HMN:=hid hmn;clear hmo hmn;have hza:w.heap.size<w1.heap.size:=A4c (by simp;omega) hb.size;have hzb:w.heap.size+1<w1.heap.size:=A4c (by simp) hb.size;have hzc:w.heap.size+1+1<w1.heap.size:=A4c (by simp) hb.size) | (go_at_call 42;refine(H2.out _ blA).mono ?_;rintro e w2 ⟨cs,hcs,rfl,g2,hb2⟩;have HCS:=hid hcs;simp only[World.size_setCell] at g2;have HG2:=hid g2;clear g2 hcs;obtain⟨hc2,hf2⟩:=Dl hb2;have hzd:=A4c (by simpa using hza) hb2.size;have hze:=A4c (by simpa using hzb) hb2.size;have hzf:=A4c (by simpa using hzc) hb2.size) | (go_at_call 7;refine(H3.out _ blA).mono ?_;rintro e w3 ⟨ks,hks,rfl,g3,hb3⟩;have HKS:=hid hks;simp only[World.size_setCell] at g3;have HG3:=hid g3;clear g3 hks;obtain⟨hc3,hf3⟩:=Dl hb3;have hzg:=A4c (by simpa using hze) hb3.size))
  have b0:w3.cell? ⟨w.heap.size+1,0,none⟩=some (.int .i64 0):=by rw[hc3 _ _ (by simpa using hze),Ba (by omega),hc2 _ _ (by simpa using hzb)];simp[go_sem,hc]
  have b1:w3.cell? ⟨w.heap.size+1,1,none⟩=some (.int .i64 0):=by rw[hc3 _ _ (by simpa using hze),Ba (by omega),hc2 _ _ (by simpa using hzb)];simp[go_sem,hc]
  have b2:w3.cell? ⟨w.heap.size+1,2,none⟩=some (.slice none 0 0):=by rw[hc3 _ _ (by simpa using hze),Ba (by omega),hc2 _ _ (by simpa using hzb)];simp[go_sem,hc]
  have b3:w3.cell? ⟨w.heap.size+1,3,none⟩=some (.slice none 0 0):=by rw[hc3 _ _ (by simpa using hze),Ba (by omega),hc2 _ _ (by simpa using hzb)];simp[go_sem,hc]
  have b4:w3.cell? ⟨w.heap.size+1,4,none⟩=some (.slice none 0 0):=by rw[hc3 _ _ (by simpa using hze),Ba (by omega),hc2 _ _ (by simpa using hzb)];simp[go_sem,hc]
  have b5:w3.cell? ⟨w.heap.size+1,5,none⟩=some (.slice none 0 0):=by rw[hc3 _ _ (by simpa using hze),Ba (by omega),hc2 _ _ (by simpa using hzb)];simp[go_sem,hc]
  have hn3:Ib w3 (w.heap.size+3) ⟨k,op,ds, .slice a1 ds.length c1, .slice a2 ns.length c2,ns⟩:=by
   refine Ib.below ?_ hb3;refine Ib.set ?_ (Nat.lt_succ_self _) _;refine Ib.below ?_ hb2;exact Ib.set4 HMO.out (Nat.lt_succ_self _)
  have hc4:Ou w3 w1.heap.size (.slice (some ⟨w1.heap.size,0,none⟩) cs.length cs.length) cs:=by
   refine Ou.below ?_ hb3;exact Ou.set HG2.out (a:=⟨w.heap.size+1+1,4,none⟩) hzc _
  have hmo:=
   Hy.mk hn3 hc4 HG3.out (by omega) (by have:=HG2.out.1.lt w1.heap.size rfl;omega) (λx hx j hj=>(HMO.out.1.lt _ x hx j hj).2) (λx hx j hj=>(HG2.out.lt x hx j hj).2)
  refine bodyPost_ret (v:=.agg #[.int .i64 k, .int .i64 op, .slice a1 ds.length c1, .slice a2 ns.length c2, .slice (some ⟨w1.heap.size,0,none⟩) cs.length cs.length, .slice (some ⟨w2.heap.size,0,none⟩) ks.length ks.length]) (by simp[results,Tryz.results20,go_sem,b0,b1,b2,b3,b4,b5]) rfl ⟨⟨k,op,ds,a1,c1,ns,a2,c2,cs,some ⟨w1.heap.size,0,none⟩,cs.length,ks,some ⟨w2.heap.size,0,none⟩,ks.length,rfl,?_,?_⟩,?_⟩
  ·refine Hy.le (base:=w.heap.size+3) ?_ (by omega)
   refine Hy.set6 ?_ (by omega);exact Hy.set hmo (a:=⟨w.heap.size+1+1,5,none⟩) (Nat.lt_succ_self _) _
  ·rw[Au.arm_eq]
   simp only;rw[HMN.out,HCS.out,HKS.out]
  ·(repeat (first | with_reducible exact Below.refl _ _ | with_reducible assumption | with_reducible refine Bv (by first | exact A4i _ | (simp;done) | (simp;omega) | omega) ?_ _ | with_reducible refine Bl ?_ _ | with_reducible refine G9 ?_ _ | with_reducible refine Ij ?_ | with_reducible refine G7 ?_ _ _ | with_reducible refine Cj ?_ (by assumption)))
theorem Ac8 {w:World} {base:Nat} {ks:List Cm} (hk:∀m∈ks,EOk w base m):∀u∈Fq ks,u.oneCell'=true:=by
 intro u hu;obtain⟨m,hm,hu⟩:=List.mem_flatMap.1 hu;obtain⟨a1,c1,e1⟩:=Af (hk m hm);simp only[Cm.cells,A4y,List.mem_nil_iff,or_false] at hu;rcases hu with rfl | rfl
 ·rfl
 ·rw[e1];rfl
theorem Ado {w:World} {base:Nat} {ks:List Au} (hk:∀m∈ks,AOk w base m):∀u∈Fj ks,u.oneCell'=true:=by
 intro u hu;obtain⟨m,hm,hu⟩:=List.mem_flatMap.1 hu;obtain⟨h1,⟨h2,_⟩,h3,_⟩:=(G8 w base m).1 (hk m hm);have h1':=(Hq w base m.net).1 h1;obtain⟨a1,c1,e1⟩:=Af h1'.1;obtain⟨a2,c2,e2⟩:=Af h1'.2.1;obtain⟨a3,c3,e3⟩:=Af h2;obtain⟨a4,c4,e4⟩:=Af h3;simp only[Au.cells,A4y,List.mem_nil_iff,or_false] at hu;rcases hu with rfl | rfl | rfl | rfl | rfl | rfl
 ·rfl
 ·rfl
 ·rw[e1];rfl
 ·rw[e2];rfl
 ·rw[e3];rfl
 ·rw[e4];rfl
theorem Vd {ops:Array Oper} {o:Oper} {a:Act} {w:World} {K:Act->World->Prop} {Q:Exit->Act->World->Prop} {E:Prop}
  (hg:o.guard=none) (s x:Operand) (hop:o.op=.call {callee:=.builtin .append,args:=#[s,x],argTypes:=#[53,53]})
  (base lo:Nat) (ra:Option Addr) (rc:Nat) (ms ks:List Cm) (ad:Option Addr) (c:Nat) (hs:a.eval s=.slice ra ms.length rc) (hx:a.eval x=.slice ad ks.length c)
  (hrow:Ou w base (.slice ra ms.length rc) ms) (hxs:0<ks.length->∃p,ad=some p/\∀j u,(Fq ks)[j]?=some u->w.cell? (p.add j)=some u)
  (hk:∀m∈ks,EOk w base m) (hp:(Value.slice ra ms.length rc::(Et ms++Et ks)).Pairwise Aside) (hl:ms.length+ks.length<=1000000) (hbase:base<=w.heap.size) (hlo:lo<=w.heap.size) (hvl:∀k,(Value.slice ra ms.length rc).ownBlock=some k->lo<=k)
  (hK:∀a' c' w',Ou w' base (.slice a' (ms.length+ks.length) c') (ms++ks)->Below lo w w'->(∀k,(Value.slice a' (ms.length+ks.length) c').ownBlock=some k->lo<=k)->K (a.put o.dst (.slice a' (ms.length+ks.length) c')) w'):
  if Region.wanted o (yielded ops a.tmps)=true then Oper.wp Tryz.prog o a w K Q else E:=by
 obtain⟨i0,hi,hz0,hz1,hz2⟩:=info_parts Acw;by_cases hd:ks.length=0
 ·have hn:=List.length_eq_zero_iff.1 hd
  subst hn;have hw:Region.wanted o (yielded ops a.tmps)=true:=by simp[Region.wanted,hg]
  rw[if_pos hw];have hcap:ms.length<=rc:=by
   rcases hrow.1.2 with⟨h0,h1⟩ | ⟨g,c',cur,h0,_,_,hnc,_⟩
   ·rw[h1];exact Nat.zero_le _
   ·simp only[Value.slice.injEq] at h0
    rw[h0.2.2];exact hnc
  have hk2:=hK ra rc w (by simpa using hrow) (Below.refl _ _) (by simpa using hvl);simp only[A4f,Nat.add_zero] at hk2 hx;unfold Oper.wp execOp;cases ad
  ·have e:Sem.run Tryz.prog (Builtin.append_ #[53,53] o.type #[.slice ra ms.length rc, .slice none 0 c]) w=.ok (.slice ra ms.length rc) w:=by cases ra<;>simp[Builtin.append_,go_sem,hcap]
   simp only[hop,resolve,invoke,builtin,Sem.run_bind,Sem.run_pure,Result.andThen_ok,List.map_toArray,A4v,List.map_nil,hs,hx,e];exact hk2
  ·rename_i t1
   have e:Sem.run Tryz.prog (Builtin.append_ #[53,53] o.type #[.slice ra ms.length rc, .slice (some t1) 0 c]) w=.ok (.slice ra ms.length rc) w:=by cases ra<;>simp[Builtin.append_,go_sem,hcap]
   simp only[hop,resolve,invoke,builtin,Sem.run_bind,Sem.run_pure,Result.andThen_ok,List.map_toArray,A4v,List.map_nil,hs,hx,e];exact hk2
 ·obtain⟨p,rfl,hcs⟩:=hxs (by omega)
  refine Gu hg s x _ hop base 49 i0 _ 2 32 Tryz.underlying53 hi hz0 hz1 hz2 rfl (by decide) _ _ (Fq ms) hs hrow.1 _ _ _ (Fq ks) hx (Wp ks) hcs (Ac8 hk) (by unfold maxLen;omega) (by omega) hbase ?_;intro v' w' h1 h2 h3;obtain⟨a6,c6,hv6⟩:=Af h1;subst hv6;refine hK a6 c6 w' (hrow.add hk hp h1 h2 h3) ((Below.refl _ _).grown h2 hlo hvl) (λk hk2=>?_);rcases h3 with e | e
  ·exact hvl k (by rw[<-e];exact hk2)
  ·rw[e] at hk2
   cases hk2;exact hlo
theorem Zv {ops:Array Oper} {rest:List Oper} {o:Oper} {a:Act} {w:World} {Q:Exit->Act->World->Prop}
  (hg:o.guard=none) (s x:Operand) (hop:o.op=.call {callee:=.builtin .append,args:=#[s,x],argTypes:=#[53,53]})
  (base lo:Nat) (ra:Option Addr) (rc:Nat) (ms ks:List Cm) (ad:Option Addr) (c:Nat) (hs:a.eval s=.slice ra ms.length rc) (hx:a.eval x=.slice ad ks.length c)
  (hrow:Ou w base (.slice ra ms.length rc) ms) (hxs:0<ks.length->∃p,ad=some p/\∀j u,(Fq ks)[j]?=some u->w.cell? (p.add j)=some u)
  (hk:∀m∈ks,EOk w base m) (hp:(Value.slice ra ms.length rc::(Et ms++Et ks)).Pairwise Aside) (hl:ms.length+ks.length<=1000000) (hbase:base<=w.heap.size) (hlo:lo<=w.heap.size) (hvl:∀k,(Value.slice ra ms.length rc).ownBlock=some k->lo<=k)
  (h:∀a' c' w',Ou w' base (.slice a' (ms.length+ks.length) c') (ms++ks)->Below lo w w'->(∀k,(Value.slice a' (ms.length+ks.length) c').ownBlock=some k->lo<=k)->wpList Tryz.prog ops Q rest (a.put o.dst (.slice a' (ms.length+ks.length) c')) w'):
  wpList Tryz.prog ops Q (o::rest) a w:=by
 refine wpList_plain hg λK hK=>?_
 have hw:Region.wanted o (yielded #[] a.tmps)=true:=by simp[Region.wanted,hg]
 have:=Vd (ops:=#[]) (K:=K) (Q:=Q) (E:=True) hg s x hop base lo ra rc ms ks ad c hs hx hrow hxs hk hp hl hbase hlo hvl (λa' c' w' h1 h2 h3=>hK _ _ (h a' c' w' h1 h2 h3))
 rwa [if_pos hw] at this
theorem Ad0 {ops:Array Oper} {o:Oper} {a:Act} {w:World} {K:Act->World->Prop} {Q:Exit->Act->World->Prop} {E:Prop}
  (hg:o.guard=none) (s x:Operand) (hop:o.op=.call {callee:=.builtin .append,args:=#[s,x],argTypes:=#[26,26]})
  (base lo:Nat) (ra:Option Addr) (rc:Nat) (ms ks:List Au) (ad:Option Addr) (c:Nat) (hs:a.eval s=.slice ra ms.length rc) (hx:a.eval x=.slice ad ks.length c)
  (hrow:Na w base (.slice ra ms.length rc) ms) (hxs:0<ks.length->∃p,ad=some p/\∀j u,(Fj ks)[j]?=some u->w.cell? (p.add j)=some u)
  (hk:∀m∈ks,AOk w base m) (hp:(Value.slice ra ms.length rc::(Fp ms++Fp ks)).Pairwise Aside) (hl:ms.length+ks.length<=1000000) (hbase:base<=w.heap.size) (hlo:lo<=w.heap.size) (hvl:∀k,(Value.slice ra ms.length rc).ownBlock=some k->lo<=k)
  (hK:∀a' c' w',Na w' base (.slice a' (ms.length+ks.length) c') (ms++ks)->Below lo w w'->(∀k,(Value.slice a' (ms.length+ks.length) c').ownBlock=some k->lo<=k)->K (a.put o.dst (.slice a' (ms.length+ks.length) c')) w'):
  if Region.wanted o (yielded ops a.tmps)=true then Oper.wp Tryz.prog o a w K Q else E:=by
 obtain⟨i0,hi,hz0,hz1,hz2⟩:=info_parts Agb;by_cases hd:ks.length=0
 ·have hn:=List.length_eq_zero_iff.1 hd
  subst hn;have hw:Region.wanted o (yielded ops a.tmps)=true:=by simp[Region.wanted,hg]
  rw[if_pos hw];have hcap:ms.length<=rc:=by
   rcases hrow.1.2 with⟨h0,h1⟩ | ⟨g,c',cur,h0,_,_,hnc,_⟩
   ·rw[h1];exact Nat.zero_le _
   ·simp only[Value.slice.injEq] at h0
    rw[h0.2.2];exact hnc
  have hk2:=hK ra rc w (by simpa using hrow) (Below.refl _ _) (by simpa using hvl);simp only[A4f,Nat.add_zero] at hk2 hx;unfold Oper.wp execOp;cases ad
  ·have e:Sem.run Tryz.prog (Builtin.append_ #[26,26] o.type #[.slice ra ms.length rc, .slice none 0 c]) w=.ok (.slice ra ms.length rc) w:=by cases ra<;>simp[Builtin.append_,go_sem,hcap]
   simp only[hop,resolve,invoke,builtin,Sem.run_bind,Sem.run_pure,Result.andThen_ok,List.map_toArray,A4v,List.map_nil,hs,hx,e];exact hk2
  ·rename_i t1
   have e:Sem.run Tryz.prog (Builtin.append_ #[26,26] o.type #[.slice ra ms.length rc, .slice (some t1) 0 c]) w=.ok (.slice ra ms.length rc) w:=by cases ra<;>simp[Builtin.append_,go_sem,hcap]
   simp only[hop,resolve,invoke,builtin,Sem.run_bind,Sem.run_pure,Result.andThen_ok,List.map_toArray,A4v,List.map_nil,hs,hx,e];exact hk2
 ·obtain⟨p,rfl,hcs⟩:=hxs (by omega)
  refine Gu hg s x _ hop base 55 i0 _ 6 112 Tryz.underlying26 hi hz0 hz1 hz2 rfl (by decide) _ _ (Fj ms) hs hrow.1 _ _ _ (Fj ks) hx (W9 ks) hcs (Ado hk) (by unfold maxLen;omega) (by omega) hbase ?_;intro v' w' h1 h2 h3;obtain⟨a6,c6,hv6⟩:=Af h1;subst hv6;refine hK a6 c6 w' (hrow.add hk hp h1 h2 h3) ((Below.refl _ _).grown h2 hlo hvl) (λk hk2=>?_);rcases h3 with e | e
  ·exact hvl k (by rw[<-e];exact hk2)
  ·rw[e] at hk2
   cases hk2;exact hlo
theorem Ut {ops:Array Oper} {rest:List Oper} {o:Oper} {a:Act} {w:World} {Q:Exit->Act->World->Prop}
  (hg:o.guard=none) (s x:Operand) (hop:o.op=.call {callee:=.builtin .append,args:=#[s,x],argTypes:=#[26,26]})
  (base lo:Nat) (ra:Option Addr) (rc:Nat) (ms ks:List Au) (ad:Option Addr) (c:Nat) (hs:a.eval s=.slice ra ms.length rc) (hx:a.eval x=.slice ad ks.length c)
  (hrow:Na w base (.slice ra ms.length rc) ms) (hxs:0<ks.length->∃p,ad=some p/\∀j u,(Fj ks)[j]?=some u->w.cell? (p.add j)=some u)
  (hk:∀m∈ks,AOk w base m) (hp:(Value.slice ra ms.length rc::(Fp ms++Fp ks)).Pairwise Aside) (hl:ms.length+ks.length<=1000000) (hbase:base<=w.heap.size) (hlo:lo<=w.heap.size) (hvl:∀k,(Value.slice ra ms.length rc).ownBlock=some k->lo<=k)
  (h:∀a' c' w',Na w' base (.slice a' (ms.length+ks.length) c') (ms++ks)->Below lo w w'->(∀k,(Value.slice a' (ms.length+ks.length) c').ownBlock=some k->lo<=k)->wpList Tryz.prog ops Q rest (a.put o.dst (.slice a' (ms.length+ks.length) c')) w'):
  wpList Tryz.prog ops Q (o::rest) a w:=by
 refine wpList_plain hg λK hK=>?_
 have hw:Region.wanted o (yielded #[] a.tmps)=true:=by simp[Region.wanted,hg]
 have:=Ad0 (ops:=#[]) (K:=K) (Q:=Q) (E:=True) hg s x hop base lo ra rc ms ks ad c hs hx hrow hxs hk hp hl hbase hlo hvl (λa' c' w' h1 h2 h3=>hK _ _ (h a' c' w' h1 h2 h3))
 rwa [if_pos hw] at this
end Go.Proofs.YtbfljjcnbbmoaaaGreatDoor
