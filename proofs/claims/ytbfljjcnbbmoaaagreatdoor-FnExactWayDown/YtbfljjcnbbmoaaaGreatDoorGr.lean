import Derived.Test.YtbfljjcnbbmoaaaGreatDoorGq
import Derived.Test.YtbfljjcnbbmoaaaGreatDoorY6b
set_option maxHeartbeats 4000000
set_option maxRecDepth 100000
namespace Go.Proofs.YtbfljjcnbbmoaaaGreatDoor
open Stil
open Go.RowKit Go.Sort Go.BigFrame
variable {E:Prop}{a:Addr}{b2 base k o1 o2 o3 o4 o5 o6:Nat}{o:Oper}{ops:Array Oper}{rest:List Oper}{u1 u2 u3 u4 u5 u6:Value}{xs:List Value}
def Az9 (xs:List Value)(ms:List Df):Prop:=∀j,j<ms.length*2->xs[j]?=(Gh ms)[j]?
theorem Az9.snoc {ms:List Df}{m:Df}(h:Az9 xs ms)(hk:ms.length=k)(hl:k*2+2<=xs.length):Az9 ((xs.set (k*2) (.int .i64 m.op)).set (k*2+1) m.av) (ms++[m]):=by
 intro j hj;rw[Zx,Aqy];have hlen:=Xo ms;simp only[A38,A48] at hj;by_cases h1:j<k*2
 ·rw[List.getElem?_append_left omz,A4i omz,A4i omz]
  exact h j omz
 ·rw[List.getElem?_append_right omz]
  have hx:j=k*2\/j=k*2+1:=omz
  rcases hx with e | e
  ·subst e
   rw[A4i omz,A4x omz];have e2:k*2 - (Gh ms).length=0:=omz
   rw[e2];rfl
  ·subst e
   rw[A4x (by simp;omega)];have e2:k*2+1 - (Gh ms).length=1:=omz
   rw[e2];rfl
theorem Az9.all {ms:List Df}(h:Az9 xs ms)(hl:xs.length=ms.length*2):xs=Gh ms:=by
 refine List.ext_getElem? (λj=>?_);by_cases hj:j<ms.length*2
 ·exact h j hj
 ·rw[List.getElem?_eq_none omz,List.getElem?_eq_none (by rw[Xo];omega)]
def Az7 (xs:List Value)(ms:List Aw):Prop:=∀j,j<ms.length*6->xs[j]?=(Gg ms)[j]?
theorem Az7.snoc {ms:List Aw}{m:Aw}(h:Az7 xs ms)(hk:ms.length=k)(hl:k*6+6<=xs.length):Az7 ((((((xs.set (k*6) (.int .i64 m.net.kind)).set (k*6+1) (.int .i64 m.net.op)).set (k*6+2) m.net.av).set (k*6+3) m.net.kv).set (k*6+4) m.cv).set (k*6+5) m.kv) (ms++[m]):=by
 intro j hj;rw[Aad,Asb];have hlen:=Xv ms;simp only[A38,A48] at hj;by_cases h1:j<k*6
 ·rw[List.getElem?_append_left omz,A4i omz,A4i omz,A4i omz,A4i omz,A4i omz,A4i omz]
  exact h j omz
 ·rw[List.getElem?_append_right omz]
  have hx:j=k*6\/j=k*6+1\/j=k*6+2\/j=k*6+3\/j=k*6+4\/j=k*6+5:=omz
  rcases hx with e | e | e | e | e | e
  ·subst e
   rw[A4i omz,A4i omz,A4i omz,A4i omz,A4i omz,A4x omz];have e2:k*6 - (Gg ms).length=0:=omz
   rw[e2];rfl
  ·subst e
   rw[A4i omz,A4i omz,A4i omz,A4i omz,A4x (by simp;omega)];have e2:k*6+1 - (Gg ms).length=1:=omz
   rw[e2];rfl
  ·subst e
   rw[A4i omz,A4i omz,A4i omz,A4x (by simp;omega)];have e2:k*6+2 - (Gg ms).length=2:=omz
   rw[e2];rfl
  ·subst e
   rw[A4i omz,A4i omz,A4x (by simp;omega)];have e2:k*6+3 - (Gg ms).length=3:=omz
   rw[e2];rfl
  ·subst e
   rw[A4i omz,A4x (by simp;omega)];have e2:k*6+4 - (Gg ms).length=4:=omz
   rw[e2];rfl
  ·subst e
   rw[A4x (by simp;omega)];have e2:k*6+5 - (Gg ms).length=5:=omz
   rw[e2];rfl
theorem Az7.all {ms:List Aw}(h:Az7 xs ms)(hl:xs.length=ms.length*6):xs=Gg ms:=by
 refine List.ext_getElem? (λj=>?_);by_cases hj:j<ms.length*6
 ·exact h j hj
 ·rw[List.getElem?_eq_none omz,List.getElem?_eq_none (by rw[Xv];omega)]
theorem EOk.set {w:World}{m:Df}(h:EOk w base m)(ha:a.block<base)(u:Value):EOk (w.setCell a u) base m:=ownsRow_setCell_below h ha u
theorem EOk.set2 {w:World}{b:Nat}{m:Df}(h:EOk w base m)(hb:b<base):EOk ((w.setCell ⟨b,o1,none⟩ u1).setCell ⟨b,o2,none⟩ u2) base m:=EOk.set (EOk.set h (a:=⟨b,o1,none⟩) hb u1) (a:=⟨b,o2,none⟩) hb u2
theorem AOk.set {w:World}{m:Aw}(h:AOk w base m)(ha:a.block<base)(u:Value):AOk (w.setCell a u) base m:=AOk.map m h (λ_ _ _ _ _ _ ho=>ownsRow_setCell_below ho ha u)
theorem AOk.set6 {w:World}{b:Nat}{m:Aw}(h:AOk w base m)(hb:b<base):AOk ((((((w.setCell ⟨b,o1,none⟩ u1).setCell ⟨b,o2,none⟩ u2).setCell ⟨b,o3,none⟩ u3).setCell ⟨b,o4,none⟩ u4).setCell ⟨b,o5,none⟩ u5).setCell ⟨b,o6,none⟩ u6) base m:=
 AOk.set (AOk.set (AOk.set (AOk.set (AOk.set (AOk.set h (a:=⟨b,o1,none⟩) hb u1) (a:=⟨b,o2,none⟩) hb u2) (a:=⟨b,o3,none⟩) hb u3) (a:=⟨b,o4,none⟩) hb u4) (a:=⟨b,o5,none⟩) hb u5) (a:=⟨b,o6,none⟩) hb u6
theorem Ic.set {w:World}{m:Aw}(h:Ic w base m)(ha:a.block<base)(u:Value):Ic (w.setCell a u) base m:=⟨h.1.set ha u,h.2⟩
theorem Aqa (es:List Stil.Elem)(hfit:∀x∈es,x.fits)(v:Value)(w:World)(hat:En w v es)(hl:es.length<=1048576):
  Calls Tryz.prog 42 #[v] w λe w'=>∃ms:List Df,ms.map Df.elem=es/\e=.returned (.slice (some ⟨w.heap.size,0,none⟩) ms.length ms.length)/\Pg w' w.heap.size (.slice (some ⟨w.heap.size,0,none⟩) ms.length ms.length) ms/\Below w.heap.size w w':=by
 obtain⟨i0,hi,hz0,hz1,hz2⟩:=info_parts Adr;obtain⟨a,cap,rfl,hc⟩:=hat;have HA:=hid hc;have HF:=hid hfit;clear hc hfit;go_enter Tryz.func42,Tryz.ntmps42
 go_wp2_with (at_make;refine wpList_make_full _ rfl _ _ 53 rfl w.heap.size 49 i0 (.agg #[.int .i64 0, .slice none 0 0]) 2 Tryz.underlying53 hi hz0 hz1 _ _ _ _ es.length rfl rfl rfl rfl ?c1 ?c2 (A4d _) ?_)
 case c1=>rw[hz2];omega
 case c2=>unfold maxLen;omega
 intro w1 hown1 fA;have hb1:=(Below.refl _ _).grown fA (A4d _) (λ_ h=>by cases h);have hs1:=(hown1.lt w.heap.size rfl).2
 go_wp2
 go_loopw [4] (λi wr=>∃(k:Nat) (xs:List Value) (ms:List Df),k<=es.length/\i=.int .i64 k/\ms.map Df.elem=es.take k/\wr.ownsRow w.heap.size 49 2 (.slice (some ⟨w.heap.size,0,none⟩) es.length es.length) es.length xs/\w.heap.size<wr.heap.size/\Az9 xs ms/\(∀m∈ms,EOk wr (w.heap.size+1) m)/\(Ff ms).Pairwise Aside/\Below w.heap.size w wr) (λi _=>es.length - (intOf i).toNat)
 case atStart=>exact zm0
 case round=>
  clear hown1 fA hb1 hs1;obtain⟨k,xs,ms,hk,rfl,hms,hown,hsz,hpre,hmk,hpw,hb⟩:=hrel;have sW:Hid (Az9 xs ms/\(∀m∈ms,EOk wr (w.heap.size+1) m)/\(Ff ms).Pairwise Aside):=⟨hpre,hmk,hpw⟩
  have dP:=hid hms;clear hpre hmk hpw hms;by_cases hlt:k<es.length
  ·obtain⟨b,o,rfl,hbl,hn⟩:=HA k hlt
   obtain⟨x0,av,x1,hav⟩:=hn.below hb hbl;have HI:=hid (λW hW=>Anx es[k].op av es[k].args W (hav.below hW) (HF _ (A4f hlt)).2.1);obtain⟨x,hx⟩:∃x,x=es[k]:=⟨_,rfl⟩
   rw[<-hx] at HI x0 hav;have HX:=hid hx;obtain⟨p0,r0,rfl,bP⟩:=hav;clear hx hn bP
   go_wp2_with (go_at_call 65;refine(HI _ blB).mono ?_;rintro e w2 ⟨u,rfl,g1,hb2⟩;obtain⟨s0,t0,hu⟩:=Af g1;subst hu;have qp:Hid (w2.ownsRow _ 86 3 (.slice s0 x.args.length t0) x.args.length (Cb x.args)):=g1;clear g1;have hown2:=ownsRow_below hown hb2;obtain⟨⟨v0,q0⟩,⟨v1,q1⟩⟩:=A3g hown2 k hlt;obtain⟨f0,f1⟩:=A2y hown2 k)
   have m0:=(hown2.stored (k*2) (.int .i64 x.op)).1;have m1:=(m0.stored (k*2+1) (.slice s0 x.args.length t0)).1;obtain⟨hpre,hmk,hpw⟩:=sW.out;have hmo:=qp.out;have hlen:ms.length=k:=by
    have:=congrArg List.length dP.out
    simpa[List.length_take,Nat.min_eq_left (Nat.le_of_lt hlt)] using this
   refine⟨⟨k+1,_,ms++[⟨x.op,x.args, .slice s0 x.args.length t0⟩],omz,by go_num,?_,m1,?_,?_,?_,?_,Bz (A4d _) (Bz (A4d _) (Bd hb hb2) _) _⟩,by simp[intOf];omega⟩
   ·rw[A4m,dP.out,A4r hlt,<-HX.out];rfl
   ·exact A37 (A37 hsz hb2.size) (A4k (F9 _ _ _) (F9 _ _ _))
   ·refine Az9.snoc (m:=⟨x.op,x.args, .slice s0 x.args.length t0⟩) hpre hlen ?_
    have:=hown.1
    omega
   ·intro m hm
    refine EOk.set2 ?_ (Nat.lt_succ_self _);rcases List.mem_append.1 hm with hm | hm
    ·exact ownsRow_below (hmk m hm) hb2
    ·obtain rfl:=List.mem_singleton.1 hm
     exact Joins.ownsRow_le hmo hsz
   ·rw[Sj,A4v]
    refine⟨hpw,List.pairwise_singleton _ _,λy hy z hz=>Ef (n:=wr.heap.size) (λj hj=>?_) (λj hj=>?_)⟩
    ·obtain⟨q,hq,rfl⟩:=Jd.1 hy
     exact((hmk q hq).lt j hj).2
    ·obtain rfl:=List.mem_singleton.1 hz
     exact(hmo.lt j hj).1
  ·obtain rfl:k=es.length:=by omega
   obtain⟨hpre,hmk,hpw⟩:=sW.out;have hms:=dP.out;rw[List.take_length] at hms;have hlen:ms.length=es.length:=by rw[<-hms];simp
   have hxs:=hpre.all (by rw[hlen];exact hown.1);subst hxs
   go_wp2
   go_ret;have hmr:Pg wr w.heap.size (.slice (some ⟨w.heap.size,0,none⟩) ms.length ms.length) ms:=by
    refine⟨by rw[hlen];exact hown,λm hm=>Joins.ownsRow_le (hmk m hm) (Nat.le_succ _),?_⟩;rw[A4u];refine⟨λy hy=>Ef (n:=w.heap.size+1) (λj hj=>?_) (λj hj=>?_),hpw⟩
    ·have e:w.heap.size=j:=by simpa[Value.ownBlock] using hj
     omega
    ·obtain⟨q,hq,rfl⟩:=Jd.1 hy
     exact((hmk q hq).lt j hj).1
   refine⟨ms,hms,?_,hmr,hb⟩;rw[hlen];rfl
def Aem (w:World)(base:Nat)(a:Stil.Arm)(e:Ending):Prop:=∃(k op:Int) (ds:List Stil.Dev) (a1:Option Addr) (c1:Nat) (ns:List Ah) (a2:Option Addr) (c2:Nat) (cs:List Df) (a3:Option Addr) (c3:Nat) (ks:List Aw) (a4:Option Addr) (c4:Nat),e=.returned (.agg #[.int .i64 k, .int .i64 op, .slice a1 ds.length c1, .slice a2 ns.length c2, .slice a3 cs.length c3, .slice a4 ks.length c4])/\Ic w base ⟨⟨k,op,ds, .slice a1 ds.length c1, .slice a2 ns.length c2,ns⟩, .slice a3 cs.length c3,cs, .slice a4 ks.length c4,ks⟩/\(Aw.mk ⟨k,op,ds, .slice a1 ds.length c1, .slice a2 ns.length c2,ns⟩ (.slice a3 cs.length c3) cs (.slice a4 ks.length c4) ks).arm=a
theorem Ar4 {w w2:World}{ms:List Aw}{m:Aw}(h:∀x∈ms,AOk w base x)(hp:(Gj ms).Pairwise Aside)(hm:Ic w2 b2 m)(hb:w.heap.size<=b2):(Gj (ms++[m])).Pairwise Aside:=by
 rw[Sm,Nq,A4v];refine⟨hp,hm.2,λx hx y hy=>Ef (n:=w.heap.size) (λk hk=>?_) (λk hk=>?_)⟩
 ·obtain⟨z,hz,hx⟩:=Io.1 hx
  exact((h z hz).lt z x hx k hk).2
 ·exact A4k hb (hm.1.lt m y hy k hk).1
theorem Ajc (es:List Stil.Arm)(ih:∀x∈es,∀(av nv cv kv:Value) (w:World),Bi w av x.net.one.args->Dx w nv x.net.kids->En w cv x.coils->Dj w kv x.kids->Calls Tryz.prog 20 #[.agg #[.int .i64 x.net.kind, .int .i64 x.net.one.op,av,nv,cv,kv]] w λe w'=>Aem w' w.heap.size x e/\Below w.heap.size w w')(v:Value)(w:World)(hat:Dj w v es)(hl:es.length<=1048576):
  Calls Tryz.prog 7 #[v] w λe w'=>∃ms:List Aw,ms.map Aw.arm=es/\e=.returned (.slice (some ⟨w.heap.size,0,none⟩) ms.length ms.length)/\Oi w' w.heap.size (.slice (some ⟨w.heap.size,0,none⟩) ms.length ms.length) ms/\Below w.heap.size w w':=by
 obtain⟨i0,hi,hz0,hz1,hz2⟩:=info_parts Ag3;obtain⟨a,cap,rfl,hc⟩:=hat;have HA:=hid hc;have IH:=hid ih;clear hc ih;go_enter Tryz.func7,Tryz.ntmps7
 go_wp2_with (at_make;refine wpList_make_full _ rfl _ _ 26 rfl w.heap.size 55 i0 (.agg #[.int .i64 0, .int .i64 0, .slice none 0 0, .slice none 0 0, .slice none 0 0, .slice none 0 0]) 6 Tryz.underlying26 hi hz0 hz1 _ _ _ _ es.length rfl rfl rfl rfl ?c1 ?c2 (A4d _) ?_)
 case c1=>rw[hz2];omega
 case c2=>unfold maxLen;omega
 intro w1 hown1 fA;have hb1:=(Below.refl _ _).grown fA (A4d _) (λ_ h=>by cases h);have hs1:=(hown1.lt w.heap.size rfl).2
 go_wp2
 go_loopw [4] (λi wr=>∃(k:Nat) (xs:List Value) (ms:List Aw),k<=es.length/\i=.int .i64 k/\ms.map Aw.arm=es.take k/\wr.ownsRow w.heap.size 55 6 (.slice (some ⟨w.heap.size,0,none⟩) es.length es.length) es.length xs/\w.heap.size<wr.heap.size/\Az7 xs ms/\(∀m∈ms,AOk wr (w.heap.size+1) m)/\(Gj ms).Pairwise Aside/\Below w.heap.size w wr) (λi _=>es.length - (intOf i).toNat)
 case atStart=>exact zm0
 case round=>
  clear hown1 fA hb1 hs1;obtain⟨k,xs,ms,hk,rfl,hms,hown,hsz,hpre,hmk,hpw,hb⟩:=hrel;have sW:Hid (Az7 xs ms/\(∀m∈ms,AOk wr (w.heap.size+1) m)/\(Gj ms).Pairwise Aside):=⟨hpre,hmk,hpw⟩
  have dP:=hid hms;clear hpre hmk hpw hms;by_cases hlt:k<es.length
  ·obtain⟨b,o,rfl,hbl,hn⟩:=HA k hlt
   obtain⟨hna,cv,kv,x4,x5,hcv,hkv⟩:=(Pz.below hb _ _ _ hn hbl).open;obtain⟨x0,x1,av,nv,x2,x3,hav,hnv⟩:=hna.open;have HI:=hid (λW hW=>IH es[k] (A4f hlt) av nv cv kv W (hav.below hW) (hnv.below hW) (hcv.below hW) (hkv.below hW));obtain⟨x,hx⟩:∃x,x=es[k]:=⟨_,rfl⟩
   rw[<-hx] at HI x0 x1 hav hnv hcv hkv;have HX:=hid hx;obtain⟨p0,r0,rfl,kX⟩:=hav;obtain⟨p1,r1,rfl,kU⟩:=hnv;obtain⟨p2,r2,rfl,bP⟩:=hcv;obtain⟨p3,r3,rfl,iG⟩:=hkv;clear hx hn hna kX kU bP iG
   go_wp2_with (go_at_call 20;refine(HI _ blB).mono ?_;rintro e w2 ⟨⟨mk,op,ds,a1,c1,ns,a2,c2,cs,a3,c3,ks,a4,c4,rfl,hmo,hmn⟩,hb2⟩;have aJ:Hid (Ic w2 _ ⟨⟨mk,op,ds, .slice a1 ds.length c1, .slice a2 ns.length c2,ns⟩, .slice a3 cs.length c3,cs, .slice a4 ks.length c4,ks⟩):=hmo;have aH:=hid hmn;clear hmo hmn;have hown2:=ownsRow_below hown hb2;obtain⟨⟨v0,q0⟩,⟨v1,q1⟩,⟨v2,q2⟩,⟨v3,q3⟩,⟨v4,q4⟩,⟨v5,q5⟩⟩:=A3e hown2 k hlt;obtain⟨f0,f1,f2,f3,f4,f5⟩:=A2w hown2 k)
   have m0:=(hown2.stored (k*6) (.int .i64 mk)).1;have m1:=(m0.stored (k*6+1) (.int .i64 op)).1;have m2:=(m1.stored (k*6+2) (.slice a1 ds.length c1)).1;have m3:=(m2.stored (k*6+3) (.slice a2 ns.length c2)).1;have m4:=(m3.stored (k*6+4) (.slice a3 cs.length c3)).1;have m5:=(m4.stored (k*6+5) (.slice a4 ks.length c4)).1;obtain⟨hpre,hmk,hpw⟩:=sW.out;have hmo:=aJ.out;have hlen:ms.length=k:=by
    have:=congrArg List.length dP.out
    simpa[List.length_take,Nat.min_eq_left (Nat.le_of_lt hlt)] using this
   refine⟨⟨k+1,_,ms++[⟨⟨mk,op,ds, .slice a1 ds.length c1, .slice a2 ns.length c2,ns⟩, .slice a3 cs.length c3,cs, .slice a4 ks.length c4,ks⟩],omz,by go_num,?_,m5,?_,?_,?_,?_,Bz (A4d _) (Bz (A4d _) (Bz (A4d _) (Bz (A4d _) (Bz (A4d _) (Bz (A4d _) (Bd hb hb2) _) _) _) _) _) _⟩,by simp[intOf];omega⟩
   ·rw[A4m,dP.out,A4r hlt,<-HX.out,<-aH.out];rfl
   ·exact A37 (A37 hsz hb2.size) (A4k (F9 _ _ _) (A4k (F9 _ _ _) (A4k (F9 _ _ _) (A4k (F9 _ _ _) (A4k (F9 _ _ _) (F9 _ _ _))))))
   ·refine Az7.snoc (m:=⟨⟨mk,op,ds, .slice a1 ds.length c1, .slice a2 ns.length c2,ns⟩, .slice a3 cs.length c3,cs, .slice a4 ks.length c4,ks⟩) hpre hlen ?_
    have:=hown.1
    omega
   ·intro m hm
    refine AOk.set6 ?_ (Nat.lt_succ_self _);rcases List.mem_append.1 hm with hm | hm
    ·exact(hmk m hm).below hb2
    ·obtain rfl:=List.mem_singleton.1 hm
     exact hmo.1.le hsz
   ·exact Ar4 hmk hpw hmo (A4d _)
  ·obtain rfl:k=es.length:=by omega
   obtain⟨hpre,hmk,hpw⟩:=sW.out;have hms:=dP.out;rw[List.take_length] at hms;have hlen:ms.length=es.length:=by rw[<-hms];simp
   have hxs:=hpre.all (by rw[hlen];exact hown.1);subst hxs
   go_wp2
   go_ret;have hmr:Oi wr w.heap.size (.slice (some ⟨w.heap.size,0,none⟩) ms.length ms.length) ms:=by
    refine⟨by rw[hlen];exact hown,λm hm=>(hmk m hm).le (Nat.le_succ _),?_⟩;rw[A4u];refine⟨λy hy=>Ef (n:=w.heap.size+1) (λj hj=>?_) (λj hj=>?_),hpw⟩
    ·have e:w.heap.size=j:=by simpa[Value.ownBlock] using hj
     omega
    ·obtain⟨z,hz,hy⟩:=Io.1 hy
     exact((hmk z hz).lt z y hy j hj).1
   refine⟨ms,hms,?_,hmr,hb⟩;rw[hlen];rfl
theorem Pg.set {w:World}{v:Value}{es:List Df}(h:Pg w base v es)(ha:a.block<base)(u:Value):Pg (w.setCell a u) base v es:=⟨ownsRow_setCell_below h.1 ha u,λm hm=>ownsRow_setCell_below (h.2.1 m hm) ha u,h.2.2⟩
theorem Ic.set6 {w:World}{b:Nat}{m:Aw}(h:Ic w base m)(hb:b<base):Ic ((((((w.setCell ⟨b,o1,none⟩ u1).setCell ⟨b,o2,none⟩ u2).setCell ⟨b,o3,none⟩ u3).setCell ⟨b,o4,none⟩ u4).setCell ⟨b,o5,none⟩ u5).setCell ⟨b,o6,none⟩ u6) base m:=⟨h.1.set6 hb,h.2⟩
theorem Ic.mk {w:World}{b1:Nat}{n:Ah}{cv kv:Value}{cs:List Df}{ks:List Aw}(hn:Ik w base n)(hc:Pg w b1 cv cs)(hk:Oi w b2 kv ks)(h1:base<=b1)(h2:b1<=b2)(hb1:∀x∈n.vals,∀j,x.ownBlock=some j->j<b1)(hb2:∀x∈cv::Ff cs,∀j,x.ownBlock=some j->j<b2):Ic w base ⟨n,cv,cs,kv,ks⟩:=by
 have hc2:=hc.le h1;have hk2:=hk.le (A4k h1 h2);refine⟨(Hf _ _ _).2 ⟨hn.1,⟨hc2.1,hc2.2.1⟩,hk2.1,hk2.2.1⟩,?_⟩;rw[Aw.vals_eq];refine List.pairwise_append.2 ⟨hn.2,List.pairwise_append.2 ⟨hc.2.2,hk.2.2,λx hx y hy=>Ef (n:=b2) (hb2 x hx) (λj hj=>(hk.lt y hy j hj).1)⟩,λx hx y hy=>Ef (n:=b1) (hb1 x hx) (λj hj=>?_)⟩;rcases List.mem_append.1 hy with hy | hy
 ·exact(hc.lt y hy j hj).1
 ·exact A4k h2 (hk.lt y hy j hj).1
theorem Ayc (a:Stil.Arm):Ci a->∀(av nv cv kv:Value) (w:World),Bi w av a.net.one.args->Dx w nv a.net.kids->En w cv a.coils->Dj w kv a.kids->Calls Tryz.prog 20 #[.agg #[.int .i64 a.net.kind, .int .i64 a.net.one.op,av,nv,cv,kv]] w λe w'=>Aem w' w.heap.size a e/\Below w.heap.size w w':=by
 induction a using Fg with
 | h n coils kids ih=>
  intro hft av nv cv kv w hav hnv hcv hkv;obtain⟨hfn,hlc,hfc,hl,hk⟩:=(Em _ _ _).1 hft;simp only at hav hnv hcv hkv;have H1:=hid (λW hW=>Aya n hfn av nv W (hav.below hW) (hnv.below hW));have H2:=hid (λW hW=>Aqa coils hfc cv W (hcv.below hW) hlc);have H3:=hid (λW hW=>Ajc kids (λx hx=>ih x hx (hk x hx)) kv W (hkv.below hW) hl);obtain⟨p0,r0,rfl,kX⟩:=hav;obtain⟨p1,r1,rfl,kU⟩:=hnv;obtain⟨p2,r2,rfl,bP⟩:=hcv;obtain⟨p3,r3,rfl,iG⟩:=hkv;clear ih hft hfn hlc hfc hl hk kX kU bP iG;go_enter Tryz.func20,Tryz.ntmps20
  go_wp2_with (first | (go_at_call 41;refine(H1 _ blA).mono ?_;rintro e w1 ⟨⟨k,op,ds,a1,c1,a2,c2,ns,rfl,hmo,hmn⟩,hb⟩;obtain⟨hc,hf⟩:=Dq hb;have aJ:Hid (Ik w1 (w.heap.size+3) ⟨k,op,ds, .slice a1 ds.length c1, .slice a2 ns.length c2,ns⟩):=hmo.le spz;have aH:=hid hmn;clear hmo hmn;have hza:w.heap.size<w1.heap.size:=A37 (by simp;omega) hb.size;have hzb:w.heap.size+1<w1.heap.size:=A37 spz hb.size;have hzc:w.heap.size+1+1<w1.heap.size:=A37 spz hb.size) | (go_at_call 42;refine(H2 _ blA).mono ?_;rintro e w2 ⟨cs,hcs,rfl,g2,hb2⟩;have wP:=hid hcs;simp only[World.size_setCell] at g2;have HG2:=hid g2;clear g2 hcs;obtain⟨hc2,hf2⟩:=Dq hb2;have hzd:=A37 (by simpa using hza) hb2.size;have hze:=A37 (by simpa using hzb) hb2.size;have dU:=A37 (by simpa using hzc) hb2.size) | (go_at_call 7;refine(H3 _ blA).mono ?_;rintro e w3 ⟨ks,hks,rfl,g3,hb3⟩;have oW:=hid hks;simp only[World.size_setCell] at g3;have xQ:=hid g3;clear g3 hks;obtain⟨hc3,hf3⟩:=Dq hb3;have hzg:=A37 (by simpa using hze) hb3.size))
  have b0:w3.cell? ⟨w.heap.size+1,0,none⟩=some (.int .i64 0):=by rw[hc3 _ _ (by simpa using hze),Ba omz,hc2 _ _ (by simpa using hzb)];simp[go_sem,hc]
  have b1:w3.cell? ⟨w.heap.size+1,1,none⟩=some (.int .i64 0):=by rw[hc3 _ _ (by simpa using hze),Ba omz,hc2 _ _ (by simpa using hzb)];simp[go_sem,hc]
  have b2:w3.cell? ⟨w.heap.size+1,2,none⟩=some (.slice none 0 0):=by rw[hc3 _ _ (by simpa using hze),Ba omz,hc2 _ _ (by simpa using hzb)];simp[go_sem,hc]
  have b3:w3.cell? ⟨w.heap.size+1,3,none⟩=some (.slice none 0 0):=by rw[hc3 _ _ (by simpa using hze),Ba omz,hc2 _ _ (by simpa using hzb)];simp[go_sem,hc]
  have b4:w3.cell? ⟨w.heap.size+1,4,none⟩=some (.slice none 0 0):=by rw[hc3 _ _ (by simpa using hze),Ba omz,hc2 _ _ (by simpa using hzb)];simp[go_sem,hc]
  have b5:w3.cell? ⟨w.heap.size+1,5,none⟩=some (.slice none 0 0):=by rw[hc3 _ _ (by simpa using hze),Ba omz,hc2 _ _ (by simpa using hzb)];simp[go_sem,hc]
  have hn3:Ik w3 (w.heap.size+3) ⟨k,op,ds, .slice a1 ds.length c1, .slice a2 ns.length c2,ns⟩:=by
   refine Ik.below ?_ hb3;refine Ik.set ?_ (Nat.lt_succ_self _) _;refine Ik.below ?_ hb2;exact Ik.set4 aJ (Nat.lt_succ_self _)
  have hc4:Pg w3 w1.heap.size (.slice (some ⟨w1.heap.size,0,none⟩) cs.length cs.length) cs:=by
   refine Pg.below ?_ hb3;exact Pg.set HG2 (a:=⟨w.heap.size+1+1,4,none⟩) hzc _
  have hmo:=
   Ic.mk hn3 hc4 xQ omz (by have:=HG2.1.lt w1.heap.size rfl;omega) (λx hx j hj=>(aJ.1.lt _ x hx j hj).2) (λx hx j hj=>(HG2.lt x hx j hj).2)
  refine bodyPost_ret (v:=.agg #[.int .i64 k, .int .i64 op, .slice a1 ds.length c1, .slice a2 ns.length c2, .slice (some ⟨w1.heap.size,0,none⟩) cs.length cs.length, .slice (some ⟨w2.heap.size,0,none⟩) ks.length ks.length]) (by simp[results,Tryz.results20,go_sem,b0,b1,b2,b3,b4,b5]) rfl ⟨⟨k,op,ds,a1,c1,ns,a2,c2,cs,some ⟨w1.heap.size,0,none⟩,cs.length,ks,some ⟨w2.heap.size,0,none⟩,ks.length,rfl,?_,?_⟩,?_⟩
  ·refine Ic.le (base:=w.heap.size+3) ?_ omz
   refine Ic.set6 ?_ omz;exact Ic.set hmo (a:=⟨w.heap.size+1+1,5,none⟩) (Nat.lt_succ_self _) _
  ·rw[Aw.arm_eq]
   simp only;rw[aH.out,wP.out,oW.out]
  ·exact blA
theorem Ad4 {w:World}{ks:List Df}(hk:∀m∈ks,EOk w base m):∀u∈Gh ks,u.oneCell'=true:=by
 intro u hu;obtain⟨m,hm,hu⟩:=List.mem_flatMap.1 hu;obtain⟨a1,c1,e1⟩:=Af (hk m hm);simp only[Df.cells,A4t,List.mem_nil_iff,or_false] at hu;rcases hu with rfl | rfl
 ·rfl
 ·rw[e1];rfl
theorem Aei {w:World}{ks:List Aw}(hk:∀m∈ks,AOk w base m):∀u∈Gg ks,u.oneCell'=true:=by
 intro u hu;obtain⟨m,hm,hu⟩:=List.mem_flatMap.1 hu;obtain⟨h1,⟨h2,_⟩,h3,_⟩:=(Hf w base m).1 (hk m hm);have h1':=(H5 w base m.net).1 h1;obtain⟨a1,c1,e1⟩:=Af h1'.1;obtain⟨a2,c2,e2⟩:=Af h1'.2.1;obtain⟨a3,c3,e3⟩:=Af h2;obtain⟨a4,c4,e4⟩:=Af h3;simp only[Aw.cells,A4t,List.mem_nil_iff,or_false] at hu;rcases hu with rfl | rfl | rfl | rfl | rfl | rfl
 ·rfl
 ·rfl
 ·rw[e1];rfl
 ·rw[e2];rfl
 ·rw[e3];rfl
 ·rw[e4];rfl
theorem za0 {p:Prop}(h:p:=by
 rename_i t1
 have e:Sem.run Tryz.prog (Builtin.append_ #[53,53] o.type #[.slice ra ms.length rc, .slice (some t1) 0 c]) w=.ok (.slice ra ms.length rc) w:=by cases ra<;>simp[Builtin.append_,go_sem,hcap]
 simp only[hop,resolve,invoke,builtin,Sem.run_bind,Sem.run_pure,Result.andThen_ok,List.map_toArray,A4q,List.map_nil,hs,hx,e];exact hk2):p:=h
theorem ze0 {p:Prop}(h:p:=by
 have e:Sem.run Tryz.prog (Builtin.append_ #[53,53] o.type #[.slice ra ms.length rc, .slice none 0 c]) w=.ok (.slice ra ms.length rc) w:=by cases ra<;>simp[Builtin.append_,go_sem,hcap]
 simp only[hop,resolve,invoke,builtin,Sem.run_bind,Sem.run_pure,Result.andThen_ok,List.map_toArray,A4q,List.map_nil,hs,hx,e];exact hk2):p:=h
theorem Vy {a:Act}{w:World}{K:Act->World->Prop}{Q:Exit->Act->World->Prop}
  (hg:o.guard=none) (s x:Operand) (hop:o.op=.call {callee:=.builtin .append,args:=#[s,x],argTypes:=#[53,53]})
  (base lo:Nat) (ra:Option Addr) (rc:Nat) (ms ks:List Df) (ad:Option Addr) (c:Nat) (hs:a.eval s=.slice ra ms.length rc) (hx:a.eval x=.slice ad ks.length c)
  (hrow:Pg w base (.slice ra ms.length rc) ms) (hxs:0<ks.length->∃p,ad=some p/\∀j u,(Gh ks)[j]?=some u->w.cell? (p.add j)=some u)
  (hk:∀m∈ks,EOk w base m) (hp:(Value.slice ra ms.length rc::(Ff ms++Ff ks)).Pairwise Aside) (hl:ms.length+ks.length<=1000000) (hbase:base<=w.heap.size) (hlo:lo<=w.heap.size) (hvl:∀k,(Value.slice ra ms.length rc).ownBlock=some k->lo<=k)
  (hK:∀a' c' w',Pg w' base (.slice a' (ms.length+ks.length) c') (ms++ks)->Below lo w w'->(∀k,(Value.slice a' (ms.length+ks.length) c').ownBlock=some k->lo<=k)->K (a.put o.dst (.slice a' (ms.length+ks.length) c')) w'):
  if Region.wanted o (yielded ops a.tmps)=true then Oper.wp Tryz.prog o a w K Q else E:=by
 obtain⟨i0,hi,hz0,hz1,hz2⟩:=info_parts Adr;by_cases hd:ks.length=0
 ·have hn:=List.length_eq_zero_iff.1 hd
  subst hn;have hw:Region.wanted o (yielded ops a.tmps)=true:=by simp[Region.wanted,hg]
  rw[if_pos hw];have hcap:ms.length<=rc:=by
   rcases hrow.1.2 with⟨h0,h1⟩ | ⟨g,c',cur,h0,_,_,hnc,_⟩
   ·rw[h1];exact Nat.zero_le _
   ·simp only[Value.slice.injEq] at h0
    rw[h0.2.2];exact hnc
  have hk2:=hK ra rc w (by simpa using hrow) (Below.refl _ _) (by simpa using hvl);simp only[A4a,Nat.add_zero] at hk2 hx;unfold Oper.wp execOp;cases ad
  ·exact ze0
  ·exact za0
 ·obtain⟨p,rfl,hcs⟩:=hxs omz
  refine Gz hg s x _ hop base 49 i0 _ 2 32 Tryz.underlying53 hi hz0 hz1 hz2 rfl dcz _ _ (Gh ms) hs hrow.1 _ _ _ (Gh ks) hx (Xo ks) hcs (Ad4 hk) (by unfold maxLen;omega) omz hbase ?_;intro v' w' h1 h2 h3;obtain⟨a6,c6,hv6⟩:=Af h1;subst hv6;refine hK a6 c6 w' (hrow.add hk hp h1 h2 h3) ((Below.refl _ _).grown h2 hlo hvl) (λk hk2=>?_);rcases h3 with e | e
  ·exact hvl k (by rw[<-e];exact hk2)
  ·rw[e] at hk2
   cases hk2;exact hlo
theorem Aal {a:Act}{w:World}{Q:Exit->Act->World->Prop}
  (hg:o.guard=none) (s x:Operand) (hop:o.op=.call {callee:=.builtin .append,args:=#[s,x],argTypes:=#[53,53]})
  (base lo:Nat) (ra:Option Addr) (rc:Nat) (ms ks:List Df) (ad:Option Addr) (c:Nat) (hs:a.eval s=.slice ra ms.length rc) (hx:a.eval x=.slice ad ks.length c)
  (hrow:Pg w base (.slice ra ms.length rc) ms) (hxs:0<ks.length->∃p,ad=some p/\∀j u,(Gh ks)[j]?=some u->w.cell? (p.add j)=some u)
  (hk:∀m∈ks,EOk w base m) (hp:(Value.slice ra ms.length rc::(Ff ms++Ff ks)).Pairwise Aside) (hl:ms.length+ks.length<=1000000) (hbase:base<=w.heap.size) (hlo:lo<=w.heap.size) (hvl:∀k,(Value.slice ra ms.length rc).ownBlock=some k->lo<=k)
  (h:∀a' c' w',Pg w' base (.slice a' (ms.length+ks.length) c') (ms++ks)->Below lo w w'->(∀k,(Value.slice a' (ms.length+ks.length) c').ownBlock=some k->lo<=k)->wpList Tryz.prog ops Q rest (a.put o.dst (.slice a' (ms.length+ks.length) c')) w'):
  wpList Tryz.prog ops Q (o::rest) a w:=by
 refine wpList_plain hg λK hK=>?_
 have hw:Region.wanted o (yielded #[] a.tmps)=true:=by simp[Region.wanted,hg]
 have:=Vy (ops:=#[]) (K:=K) (Q:=Q) (E:=True) hg s x hop base lo ra rc ms ks ad c hs hx hrow hxs hk hp hl hbase hlo hvl (λa' c' w' h1 h2 h3=>hK _ _ (h a' c' w' h1 h2 h3))
 rwa [if_pos hw] at this
theorem zb0 {p:Prop}(h:p:=by
 rename_i t1
 have e:Sem.run Tryz.prog (Builtin.append_ #[26,26] o.type #[.slice ra ms.length rc, .slice (some t1) 0 c]) w=.ok (.slice ra ms.length rc) w:=by cases ra<;>simp[Builtin.append_,go_sem,hcap]
 simp only[hop,resolve,invoke,builtin,Sem.run_bind,Sem.run_pure,Result.andThen_ok,List.map_toArray,A4q,List.map_nil,hs,hx,e];exact hk2):p:=h
theorem zf0 {p:Prop}(h:p:=by
 have e:Sem.run Tryz.prog (Builtin.append_ #[26,26] o.type #[.slice ra ms.length rc, .slice none 0 c]) w=.ok (.slice ra ms.length rc) w:=by cases ra<;>simp[Builtin.append_,go_sem,hcap]
 simp only[hop,resolve,invoke,builtin,Sem.run_bind,Sem.run_pure,Result.andThen_ok,List.map_toArray,A4q,List.map_nil,hs,hx,e];exact hk2):p:=h
theorem Aes {a:Act}{w:World}{K:Act->World->Prop}{Q:Exit->Act->World->Prop}
  (hg:o.guard=none) (s x:Operand) (hop:o.op=.call {callee:=.builtin .append,args:=#[s,x],argTypes:=#[26,26]})
  (base lo:Nat) (ra:Option Addr) (rc:Nat) (ms ks:List Aw) (ad:Option Addr) (c:Nat) (hs:a.eval s=.slice ra ms.length rc) (hx:a.eval x=.slice ad ks.length c)
  (hrow:Oi w base (.slice ra ms.length rc) ms) (hxs:0<ks.length->∃p,ad=some p/\∀j u,(Gg ks)[j]?=some u->w.cell? (p.add j)=some u)
  (hk:∀m∈ks,AOk w base m) (hp:(Value.slice ra ms.length rc::(Gj ms++Gj ks)).Pairwise Aside) (hl:ms.length+ks.length<=1000000) (hbase:base<=w.heap.size) (hlo:lo<=w.heap.size) (hvl:∀k,(Value.slice ra ms.length rc).ownBlock=some k->lo<=k)
  (hK:∀a' c' w',Oi w' base (.slice a' (ms.length+ks.length) c') (ms++ks)->Below lo w w'->(∀k,(Value.slice a' (ms.length+ks.length) c').ownBlock=some k->lo<=k)->K (a.put o.dst (.slice a' (ms.length+ks.length) c')) w'):
  if Region.wanted o (yielded ops a.tmps)=true then Oper.wp Tryz.prog o a w K Q else E:=by
 obtain⟨i0,hi,hz0,hz1,hz2⟩:=info_parts Ag3;by_cases hd:ks.length=0
 ·have hn:=List.length_eq_zero_iff.1 hd
  subst hn;have hw:Region.wanted o (yielded ops a.tmps)=true:=by simp[Region.wanted,hg]
  rw[if_pos hw];have hcap:ms.length<=rc:=by
   rcases hrow.1.2 with⟨h0,h1⟩ | ⟨g,c',cur,h0,_,_,hnc,_⟩
   ·rw[h1];exact Nat.zero_le _
   ·simp only[Value.slice.injEq] at h0
    rw[h0.2.2];exact hnc
  have hk2:=hK ra rc w (by simpa using hrow) (Below.refl _ _) (by simpa using hvl);simp only[A4a,Nat.add_zero] at hk2 hx;unfold Oper.wp execOp;cases ad
  ·exact zf0
  ·exact zb0
 ·obtain⟨p,rfl,hcs⟩:=hxs omz
  refine Gz hg s x _ hop base 55 i0 _ 6 112 Tryz.underlying26 hi hz0 hz1 hz2 rfl dcz _ _ (Gg ms) hs hrow.1 _ _ _ (Gg ks) hx (Xv ks) hcs (Aei hk) (by unfold maxLen;omega) omz hbase ?_;intro v' w' h1 h2 h3;obtain⟨a6,c6,hv6⟩:=Af h1;subst hv6;refine hK a6 c6 w' (hrow.add hk hp h1 h2 h3) ((Below.refl _ _).grown h2 hlo hvl) (λk hk2=>?_);rcases h3 with e | e
  ·exact hvl k (by rw[<-e];exact hk2)
  ·rw[e] at hk2
   cases hk2;exact hlo
theorem Vf {a:Act}{w:World}{Q:Exit->Act->World->Prop}
  (hg:o.guard=none) (s x:Operand) (hop:o.op=.call {callee:=.builtin .append,args:=#[s,x],argTypes:=#[26,26]})
  (base lo:Nat) (ra:Option Addr) (rc:Nat) (ms ks:List Aw) (ad:Option Addr) (c:Nat) (hs:a.eval s=.slice ra ms.length rc) (hx:a.eval x=.slice ad ks.length c)
  (hrow:Oi w base (.slice ra ms.length rc) ms) (hxs:0<ks.length->∃p,ad=some p/\∀j u,(Gg ks)[j]?=some u->w.cell? (p.add j)=some u)
  (hk:∀m∈ks,AOk w base m) (hp:(Value.slice ra ms.length rc::(Gj ms++Gj ks)).Pairwise Aside) (hl:ms.length+ks.length<=1000000) (hbase:base<=w.heap.size) (hlo:lo<=w.heap.size) (hvl:∀k,(Value.slice ra ms.length rc).ownBlock=some k->lo<=k)
  (h:∀a' c' w',Oi w' base (.slice a' (ms.length+ks.length) c') (ms++ks)->Below lo w w'->(∀k,(Value.slice a' (ms.length+ks.length) c').ownBlock=some k->lo<=k)->wpList Tryz.prog ops Q rest (a.put o.dst (.slice a' (ms.length+ks.length) c')) w'):
  wpList Tryz.prog ops Q (o::rest) a w:=by
 refine wpList_plain hg λK hK=>?_
 have hw:Region.wanted o (yielded #[] a.tmps)=true:=by simp[Region.wanted,hg]
 have:=Aes (ops:=#[]) (K:=K) (Q:=Q) (E:=True) hg s x hop base lo ra rc ms ks ad c hs hx hrow hxs hk hp hl hbase hlo hvl (λa' c' w' h1 h2 h3=>hK _ _ (h a' c' w' h1 h2 h3))
 rwa [if_pos hw] at this
end Go.Proofs.YtbfljjcnbbmoaaaGreatDoor
