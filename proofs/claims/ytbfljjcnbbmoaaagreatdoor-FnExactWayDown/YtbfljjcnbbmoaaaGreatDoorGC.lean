import Derived.Test.YtbfljjcnbbmoaaaGreatDoorGB
import Derived.Lib.SmallJoins
import Derived.Deep.RegionLaw
import Derived.Deep.DeepCutAuto
set_option maxHeartbeats 4000000
set_option maxRecDepth 100000
namespace Go.Proofs.YtbfljjcnbbmoaaaGreatDoor
open Go.RowKit Go.Sort Go.BigFrame
variable {base cap g n size:Nat}{e:TypeId}{v:Value}{xs:List Value}
theorem Ag2:(Tryz.prog.info? 86).map (λi=>(i.zero,i.size,i.bytes))=some (some (.agg #[.int .i64 0, .int .i64 0, .int .i64 0]),3,24):=krz
def Z4 (d:Stil.Dev):List Value:=[.int .i64 d.kind, .int .i64 d.n, .int .i64 d.p]
def Cb (ds:List Stil.Dev):List Value:=ds.flatMap Z4
theorem Vm (ds:List Stil.Dev):(Cb ds).length=ds.length*3:=by
 induction ds with
 | nil=>rfl
 | cons d r ih=>simp[Cb,Z4] at ih ⊢;omega
theorem Ae7 (ds:List Stil.Dev)(d:Stil.Dev):Cb (ds++[d])=Cb ds++Z4 d:=by simp[Cb]
theorem Nj (ds:List Stil.Dev):∀(i:Nat) (h:i<ds.length),(Cb ds)[i*3]?=some (.int .i64 ds[i].kind)/\(Cb ds)[i*3+1]?=some (.int .i64 ds[i].n)/\(Cb ds)[i*3+2]?=some (.int .i64 ds[i].p):=by
 induction ds with
 | nil=>intro i h;simp at h
 | cons d r ih=>
  intro i h;have e:Cb (d::r)=.int .i64 d.kind::.int .i64 d.n::.int .i64 d.p::Cb r:=rfl;cases i with
  | zero=>rw[e];simp
  | succ i=>
   have h':i<r.length:=by simpa using h
   rw[e];have:=ih i h'
   have e0:(i+1)*3=i*3+3:=omz
   rw[e0];simpa using this
theorem add_plain (g j:Nat):(⟨g,0,none⟩:Addr).add j=⟨g,j,none⟩:=by unfold Addr.add;split<;>simp_all
theorem Az {w:World}(h:w.ownsRow base e size v n xs)(hn:0<n):∃g cap,v=.slice (some ⟨g,0,none⟩) n cap/\base<=g/\g<w.heap.size/\n<=cap/\∀j u,xs[j]?=some u->w.cell? ⟨g,j,none⟩=some u:=by
 have h2:=h.2;rcases h2 with⟨_,h0⟩ | ⟨g,cap,cur,hv,hg,_,hc,_⟩
 ·omega
 ·refine⟨g,cap,hv,hg,(h.lt g (by rw[hv];rfl)).2,hc,λj u hu=>?_⟩
  have:=h.cells (g:=g) (by rw[hv];rfl) j u hu
  rwa [add_plain] at this
theorem zo0 {p:Prop}(h:p:=by
 have hn:=List.length_eq_zero_iff.1 hd
 subst hn;rcases h.2 with⟨h0,_⟩ | ⟨g,cap,cur,hv,_⟩
 ·exact⟨none,0,h0,λi hi=>by simp at hi⟩
 ·exact⟨_,cap,hv,λi hi=>by simp at hi⟩):p:=h
theorem Bi.of_owns {w:World}{ds:List Stil.Dev}(h:w.ownsRow base 86 3 v ds.length (Cb ds)):Bi w v ds:=by
 by_cases hd:ds.length=0
 ·exact zo0
 ·obtain⟨g,cap,hv,_,hlt,_,hc⟩:=Az h omz
  refine⟨_,cap,hv,λi hi=>⟨g,0,rfl,hlt,?_⟩⟩;obtain⟨a1,a2,a3⟩:=Nj ds i hi;unfold Ij;rw[A4h];exact⟨hc _ _ a1,hc _ _ a2,hc _ _ a3⟩
theorem ownsRow_below {w w':World}(h:w.ownsRow base e size v n xs)(hb:Below w.heap.size w w'):w'.ownsRow base e size v n xs:=by
 refine⟨h.1,?_⟩;rcases h.2 with h0 | ⟨g,cap,cur,hv,hg,hh,hr⟩
 ·exact Or.inl h0
 ·have:=(h.lt g (by rw[hv];rfl)).2
  exact Or.inr ⟨g,cap,cur,hv,hg,by rw[hb.block g this];exact hh,hr⟩
theorem Zz (ds:List Stil.Dev):∀u∈Cb ds,u.oneCell'=true:=by
 intro u hu;simp only[Cb,List.mem_flatMap,Z4] at hu;obtain⟨d,_,hd⟩:=hu;simp at hd;rcases hd with rfl | rfl | rfl<;>rfl
def szL (left:Int)(len:Nat):Int:=if left - len<0 then -1 else left - len
theorem Anz (a:Option Addr)(len cap:Nat)(left:Int)(w:World)(h1:0<=left)(h2:left<=1048576)(hl:len<=9223372036854775807):
  Calls Tryz.prog 89 #[.slice a len cap, .int .i64 left] w λe w'=>e=.returned (.int .i64 (szL left len))/\w'=w:=by
 unfold szL;by_cases h:left - len<0
 ·rw[if_pos h]
  go_enter Tryz.func89,Tryz.ntmps89
  go_wp2
  go_ret;exact⟨rfl,rfl⟩
 ·rw[if_neg h]
  go_enter Tryz.func89,Tryz.ntmps89
  go_wp2
  go_ret;exact⟨rfl,rfl⟩
theorem Aye (op:Int)(a:Option Addr)(len cap:Nat)(left:Int)(w:World)(h1:0<=left)(h2:left<=1048576)(hl:len<=9223372036854775807):
  Calls Tryz.prog 59 #[.agg #[.int .i64 op, .slice a len cap], .int .i64 left] w λe w'=>e=.returned (.int .i64 (szL left len))/\Below w.heap.size w w':=by
 by_cases h:left - len<0
 ·have HQ:Hid (szL left len=-1):=by show _=_;unfold szL;rw[if_pos h]
  clear h;go_enter Tryz.func59,Tryz.ntmps59
  go_wp2_with (go_at_call 89;refine(Anz _ _ _ _ _ h1 h2 hl).mono ?_;rw[HQ.out];rintro e w1 ⟨rfl,rfl⟩)
  go_ret;exact⟨C9 (by rw[HQ.out]),Aa _ _⟩
 ·obtain⟨q,hq⟩:∃q,q=left - len:=⟨_,rfl⟩
  have hq0:0<=q:=omz
  have HQ:Hid (szL left len=q):=by show _=_;unfold szL;rw[if_neg h,hq]
  clear h hq;go_enter Tryz.func59,Tryz.ntmps59
  go_wp2_with (go_at_call 89;refine(Anz _ _ _ _ _ h1 h2 hl).mono ?_;rw[HQ.out];rintro e w1 ⟨rfl,rfl⟩)
  go_ret;exact⟨C9 (by rw[HQ.out]),Aa _ _⟩
theorem A0x (k n p:Int)(w:World):
  Calls Tryz.prog 118 #[.agg #[.int .i64 k, .int .i64 n, .int .i64 p]] w λe w'=>e=.returned (.agg #[.int .i64 k, .int .i64 n, .int .i64 p])/\Below w.heap.size w w':=by
 go_enter Tryz.func118,Tryz.ntmps118
 go_wp2
 refine bodyPost_ret (v:=.agg #[.int .i64 k, .int .i64 n, .int .i64 p]) (by simp[results,Tryz.results118,go_sem]) rfl ⟨rfl,?_⟩
 (repeat (first | exact Below.refl _ _ | assumption | refine Bq ?_ _ | refine Hg ?_ _ | refine Iw ?_ | refine Ep ?_ _ _ | refine Bz (A4d _) ?_ _ | refine Bd ?_ aqz))
theorem A1c (d e:Stil.Dev):(d=e)↔(d.kind=e.kind/\d.n=e.n/\d.p=e.p):=by
 cases d;cases e;simp
open Classical in
theorem Ava (d f:Stil.Dev)(w:World):
  Calls Tryz.prog 101 #[.agg #[.int .i64 d.kind, .int .i64 d.n, .int .i64 d.p], .agg #[.int .i64 f.kind, .int .i64 f.n, .int .i64 f.p]] w λe w'=>e=.returned (.bool (decide (d=f)))/\Below w.heap.size w w':=by
 go_enter Tryz.func101,Tryz.ntmps101
 go_wp2
 all_goals go_ret
 all_goals (refine⟨Ar ?_,blB⟩)
 all_goals go_light
 all_goals simp only[bne_iff_ne,bne_eq_false_iff_eq] at*
 all_goals (rw[Bool.eq_iff_iff];simp[A1c, *])
theorem Atm (xs:List Value)(k:Nat)(a b c:Value)(h:k*3+3<=xs.length):(((xs.set (k*3) a).set (k*3+1) b).set (k*3+2) c).take ((k+1)*3)=xs.take (k*3)++[a,b,c]:=by
 apply List.ext_getElem?;intro i;simp only[List.getElem?_take,List.getElem?_append,List.length_take,List.getElem?_set,List.length_set];have e0:min (k*3) xs.length=k*3:=omz
 rw[e0];by_cases h1:i<k*3
 ·rw[if_pos omz,if_neg omz,if_neg omz,if_neg omz,if_pos h1,if_pos h1]
 ·rw[if_neg h1]
  by_cases h2:i=k*3
  ·subst h2;rw[if_pos omz,if_neg omz,if_neg omz,if_pos rfl,if_pos omz];simp
  ·by_cases h3:i=k*3+1
   ·subst h3;rw[if_pos omz,if_neg omz,if_pos rfl,if_pos omz];simp
   ·by_cases h4:i=k*3+2
    ·subst h4;rw[if_pos omz,if_pos rfl,if_pos omz];simp
    ·rw[if_neg omz];simp;omega
theorem row3 {w:World}(h:w.ownsRow base e 3 (.slice (some ⟨g,0,none⟩) n cap) n xs)(k:Nat)(hk:k<n):
  (∃u,w.cell? ⟨g,k*3,none⟩=some u)/\(∃u,w.cell? ⟨g,k*3+1,none⟩=some u)/\(∃u,w.cell? ⟨g,k*3+2,none⟩=some u):=by
 have hl:=h.1;refine⟨?_,?_,?_⟩
 ·rw[h.cellAt (k*3) omz,A4p omz];exact⟨_,rfl⟩
 ·rw[h.cellAt (k*3+1) omz,A4p omz];exact⟨_,rfl⟩
 ·rw[h.cellAt (k*3+2) omz,A4p omz];exact⟨_,rfl⟩
theorem A3t {w:World}(h:w.ownsRow base e 3 (.slice (some ⟨g,0,none⟩) n cap) n xs)(k:Nat):
  w.frozen? ⟨g,k*3,none⟩=false/\w.frozen? ⟨g,k*3+1,none⟩=false/\w.frozen? ⟨g,k*3+2,none⟩=false:=⟨h.frozenAt _,h.frozenAt _,h.frozenAt _⟩
theorem Ayb (a:Option Addr)(cap:Nat)(ds:List Stil.Dev)(w:World)(hat:Bi w (.slice a ds.length cap) ds)(hl:ds.length<=1048576):
  Calls Tryz.prog 91 #[.slice a ds.length cap] w λe w'=>e=.returned (.slice (some ⟨w.heap.size,0,none⟩) ds.length ds.length)/\w'.ownsRow w.heap.size 86 3 (.slice (some ⟨w.heap.size,0,none⟩) ds.length ds.length) ds.length (Cb ds)/\Below w.heap.size w w':=by
 obtain⟨i0,hi,hz0,hz1,hz2⟩:=info_parts Ag2;have HA:Hid (∀i (h:i<ds.length),∃b o,a=some ⟨b,o,none⟩/\b<w.heap.size/\Ij w b (o+i*3) ds[i]):=by
  obtain⟨a',cap',hv,hc⟩:=hat;simp only[Value.slice.injEq] at hv;obtain⟨rfl,_,_⟩:=hv;exact hc
 clear hat;go_enter Tryz.func91,Tryz.ntmps91
 go_wp2_with (at_make;refine wpList_make_full _ rfl _ _ 47 rfl w.heap.size 86 i0 (.agg #[.int .i64 0, .int .i64 0, .int .i64 0]) 3 Tryz.underlying47 hi hz0 hz1 _ _ _ _ ds.length rfl rfl rfl rfl ?c1 ?c2 (A4d _) ?_)
 case c1=>rw[hz2];omega
 case c2=>unfold maxLen;omega
 intro w1 hown1 fA;have hb1:=(Below.refl _ _).grown fA (A4d _) (λ_ h=>by cases h)
 go_wp2
 go_loopw [4] (λi wr=>∃(k:Nat) (xs:List Value),k<=ds.length/\i=.int .i64 k/\wr.ownsRow w.heap.size 86 3 (.slice (some ⟨w.heap.size,0,none⟩) ds.length ds.length) ds.length xs/\xs.take (k*3)=Cb (ds.take k)/\Below w.heap.size w wr) (λi _=>ds.length - (intOf i).toNat)
 case atStart=>exact⟨0,_,omz,rfl,hown1,by simp[Cb],hb1⟩
 case round=>
  clear hown1 fA hb1;obtain⟨k,xs,hk,rfl,hown,hxs,hb⟩:=hrel;have HX:=hid hxs;clear hxs;by_cases hlt:k<ds.length
  ·obtain⟨b,o,rfl,hbl,hd⟩:=HA k hlt
   obtain⟨x0,x1,x2⟩:=hd.below hb hbl;have HD:Hid (Cb (ds.take (k+1))=Cb (ds.take k)++Z4 ds[k]):=by
    show _=_
    rw[A4r hlt,Ae7]
   obtain⟨x,hx⟩:∃x,x=ds[k]:=⟨_,rfl⟩
   rw[<-hx] at x0 x1 x2 HD;clear hx hd
   go_wp2_with (go_at_call 118;refine(A0x _ _ _ _).mono ?_;rintro e w2 ⟨rfl,hb2⟩;have hown2:=ownsRow_below hown hb2;obtain⟨⟨v0,q0⟩,⟨v1,q1⟩,⟨v2,q2⟩⟩:=row3 hown2 k hlt;obtain⟨f0,f1,f2⟩:=A3t hown2 k)
   have r1:=(hown2.stored (k*3) (.int .i64 x.kind)).1;have r2:=(r1.stored (k*3+1) (.int .i64 x.n)).1;have r3:=(r2.stored (k*3+2) (.int .i64 x.p)).1;have hlen:=hown2.1;refine⟨⟨k+1,_,omz,by go_num,r3,?_,Bz (A4d _) (Bz (A4d _) (Bz (A4d _) (Bd hb hb2) _) _) _⟩,by simp[intOf];omega⟩;rw[Atm xs k _ _ _ omz,HX.out,HD.out];rfl
  ·go_wp2
   go_ret;refine⟨rfl,?_,hb⟩;have e:xs=Cb ds:=by
    have h1:=HX.out;have h2:=hown.1;rw[A43 omz,A43 omz] at h1;exact h1
   rw[<-e];exact hown
theorem Anx (op:Int)(v:Value)(ds:List Stil.Dev)(w:World)(hat:Bi w v ds)(hl:ds.length<=1048576):
  Calls Tryz.prog 65 #[.agg #[.int .i64 op,v]] w λe w'=>∃u,e=.returned (.agg #[.int .i64 op,u])/\w'.ownsRow w.heap.size 86 3 u ds.length (Cb ds)/\Below w.heap.size w w':=by
 have HA:=hid (λW (hW:Below w.heap.size w W)=>hat.below hW);obtain⟨a,cap,rfl,_⟩:=hat;go_enter Tryz.func65,Tryz.ntmps65
 go_wp2_with (go_at_call 91;refine(Ayb a cap ds _ (HA _ blB) hl).mono ?_;rintro e w1 ⟨rfl,hown,hb⟩;obtain⟨hc,hf⟩:=Dq hb)
 have b0:w1.cell? ⟨w.heap.size+1,0,none⟩=some (.int .i64 0):=by rw[hc _ _ spz];simp[go_sem]
 have b1:w1.cell? ⟨w.heap.size+1,1,none⟩=some (.slice none 0 0):=by rw[hc _ _ spz];simp[go_sem]
 refine bodyPost_ret (v:=.agg #[.int .i64 op, .slice (some ⟨w.heap.size+1+1+1,0,none⟩) ds.length ds.length]) (by simp[results,Tryz.results65,go_sem,b0,b1]) rfl ⟨_,rfl,?_,?_⟩
 ·simp only[World.alloc,Array.size_push] at hown
  exact Joins.ownsRow_le (ownsRow_setCell_below (ownsRow_setCell_below (ownsRow_setCell_below hown spz _) spz _) spz _) omz
 ·have hbw:Below w.heap.size w w1:=blB
  exact((hbw.setCell (by simp;omega) _).setCell spz _).setCell spz _
open Classical in
theorem Ayi (v u:Value)(ds fs:List Stil.Dev)(w:World)(hat:Bi w v ds)(jS:Bi w u fs)(hl:ds.length<=1048576)(hk:fs.length<=1048576):
  Calls Tryz.prog 76 #[v,u] w λe w'=>e=.returned (.bool (decide (ds=fs)))/\Below w.heap.size w w':=by
 obtain⟨a,cap,rfl,hc1⟩:=hat;obtain⟨b,cap2,rfl,hc2⟩:=jS;by_cases hlen:ds.length=fs.length
 ·have HA:=hid hc1
  have HB:=hid hc2;clear hc1 hc2;have hlb:((ds.length:Int) !=(fs.length:Int))=false:=by rw[bne_eq_false_iff_eq];omega
  have HL:=hid hlen;have hl1:ds.length<=fs.length:=omz
  have hl2:fs.length<=ds.length:=omz
  clear hlen;go_enter Tryz.func76,Tryz.ntmps76
  go_wp2
  go_loopw [5] (λi wr=>∃k:Nat,k<=ds.length/\i=.int .i64 k/\ds.take k=fs.take k/\Below w.heap.size w wr) (λi _=>ds.length - (intOf i).toNat)
  case atStart=>exact⟨0,omz,rfl,spz,Below.refl _ _⟩
  case round=>
   obtain⟨k,hk,rfl,heq,hb⟩:=hrel;have HE:=hid heq;clear heq;by_cases hlt:k<ds.length
   ·have hlt2:k<fs.length:=by omega
    obtain⟨b1,o1,rfl,yg,hd1⟩:=HA k hlt;obtain⟨b2,o2,rfl,iH,hd2⟩:=HB k hlt2;obtain⟨x0,x1,x2⟩:=hd1.below hb yg;obtain⟨y0,y1,y2⟩:=hd2.below hb iH;by_cases hxy:ds[k]=fs[k]
    ·have HXY:Hid (ds.take (k+1)=fs.take (k+1)):=by
      show _=_
      rw[A4r hlt,A4r hlt2,HE.out,hxy]
     have hdec:decide (ds[k]=fs[k])=true:=by simpa using hxy
     obtain⟨x,hx⟩:∃x,x=ds[k]:=⟨_,rfl⟩
     obtain⟨y,hy⟩:∃y,y=fs[k]:=⟨_,rfl⟩
     rw[<-hx] at x0 x1 x2;rw[<-hy] at y0 y1 y2;rw[<-hx,<-hy] at hdec;clear hx hy hxy hd1 hd2;have r0:=cell_regrown x0;have r1:=cell_regrown x1;have r2:=cell_regrown x2;have r3:=cell_regrown y0;have r4:=cell_regrown y1;have r5:=cell_regrown y2
     go_wp2
     refine wp_region_quiet_below krz krz ?_;repeat (go_big_quiet_step ((exact Calls.regrown_of (Ava x y _))))
     refine wpQuiet_nil ?_;intro _ hw';obtain⟨⟨dq,osq⟩,hw''⟩:=hw';subst hw''
     go_wp2
     exact⟨⟨k+1,omz,by go_num,HXY.out,Ep hb _ _⟩,by simp[intOf];omega⟩
    ·have HXY:Hid (¬ds=fs):=by
      show ¬_
      intro h;subst h;exact hxy rfl
     have hdec:decide (ds[k]=fs[k])=false:=by simpa using hxy
     obtain⟨x,hx⟩:∃x,x=ds[k]:=⟨_,rfl⟩
     obtain⟨y,hy⟩:∃y,y=fs[k]:=⟨_,rfl⟩
     rw[<-hx] at x0 x1 x2;rw[<-hy] at y0 y1 y2;rw[<-hx,<-hy] at hdec;clear hx hy hxy hd1 hd2;have r0:=cell_regrown x0;have r1:=cell_regrown x1;have r2:=cell_regrown x2;have r3:=cell_regrown y0;have r4:=cell_regrown y1;have r5:=cell_regrown y2
     go_wp2
     refine wp_region_quiet_below krz krz ?_;repeat (go_big_quiet_step ((exact Calls.regrown_of (Ava x y _))))
     refine wpQuiet_nil ?_;intro _ hw';obtain⟨⟨dq,osq⟩,hw''⟩:=hw';subst hw''
     go_wp2
     go_ret;exact⟨Ar (by rw[decide_eq_false HXY.out]),Ep hb _ _⟩
   ·go_wp2
    go_ret;have e:ds=fs:=by
     have:=HE.out
     rwa [A43 omz,A43 omz] at this
    exact⟨Ar (by rw[decide_eq_true e]),hb⟩
 ·have hlb:((ds.length:Int) !=(fs.length:Int))=true:=by rw[bne_iff_ne];omega
  have HN:Hid (¬ds=fs):=by show ¬_;intro h;exact hlen (by rw[h])
  clear hlen hc1 hc2;go_enter Tryz.func76,Tryz.ntmps76
  go_wp2
  go_ret;exact⟨Ar (by rw[decide_eq_false HN.out]),Below.refl _ _⟩
open Classical in
theorem An1 (op oq:Int)(v u:Value)(ds fs:List Stil.Dev)(w:World)(hat:Bi w v ds)(jS:Bi w u fs)(hl:ds.length<=1048576)(hk:fs.length<=1048576):
  Calls Tryz.prog 46 #[.agg #[.int .i64 op,v], .agg #[.int .i64 oq,u]] w λe w'=>e=.returned (.bool (decide (op=oq/\ds=fs)))/\Below w.heap.size w w':=by
 have zL:=λW hW=>Ayi v u ds fs W (hat.below hW) (jS.below hW) hl hk
 obtain⟨a,cap,rfl,_⟩:=hat;obtain⟨b,cap2,rfl,_⟩:=jS;have HQ:=hid zL;clear zL;by_cases ho:op=oq
 ·have hob:(op !=oq)=false:=by rw[bne_eq_false_iff_eq];exact ho
  have HO:=hid ho;clear ho;cases hd:decide (ds=fs)
  ·have HD:Hid (¬(op=oq/\ds=fs)):=by show ¬_;simp at hd;exact λh=>hd h.2
   go_enter Tryz.func46,Tryz.ntmps46
   go_wp2_with (go_at_call 76;refine(HQ _ blB).mono ?_;rw[hd];rintro e w1 ⟨rfl,hb⟩)
   go_ret;exact⟨Ar (by rw[decide_eq_false HD.out]),blB⟩
  ·have HD:Hid (op=oq/\ds=fs):=by show _/\_;simp at hd;exact⟨HO.out,hd⟩
   go_enter Tryz.func46,Tryz.ntmps46
   go_wp2_with (go_at_call 76;refine(HQ _ blB).mono ?_;rw[hd];rintro e w1 ⟨rfl,hb⟩)
   go_ret;exact⟨Ar (by rw[decide_eq_true HD.out]),blB⟩
 ·have hob:(op !=oq)=true:=by rw[bne_iff_ne];exact ho
  have HD:Hid (¬(op=oq/\ds=fs)):=by show ¬_;exact λh=>ho h.1
  clear ho;go_enter Tryz.func46,Tryz.ntmps46
  go_wp2
  go_ret;exact⟨Ar (by rw[decide_eq_false HD.out]),blB⟩
end Go.Proofs.YtbfljjcnbbmoaaaGreatDoor
