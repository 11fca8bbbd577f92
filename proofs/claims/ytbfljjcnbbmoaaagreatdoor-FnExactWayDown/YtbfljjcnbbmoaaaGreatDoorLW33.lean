import Derived.Test.YtbfljjcnbbmoaaaGreatDoorLW32a
import Derived.Conc.LeavingOf
import Derived.Test.YtbfljjcnbbmoaaaGreatDoorG2
import Derived.Test.YtbfljjcnbbmoaaaGreatDoorM56
namespace Go.Co
open Go.Conc
variable {P:Program}{a:Act}
theorem Hr {R:Act->World->Prop}{c:Code}{l:List Code}{w:World}(h:c.wp P (Exit.then (WpL P R l) λ_ _ _=>False) a w):WpL P R (c::l) a w:=h
theorem Ak1 {R:Act->World->Prop}{w:World}(h:R a w):WpL P R [] a w:=h
theorem Awf {Stop:Goroutine->World->Prop}{w:World}(hP:OkP P){f:FuncId}{args:Array Value}{v:Value}{Post:World->Prop}(h:∀τ d,Calls P f args {w with tape:=τ,drawn:=d} λe w'=>e=.returned v/\Post w')
  (hn:∀(fr:Frame) (w' W:World),fr.leaving P W (.returned v)->fr.fn=f->Al Post w'->Comes P (G fr []) w' Stop):Comes P (G (Frame.enter P f args .normal) []) w Stop:=by
 refine Ug hP (λg' w'=>∃fr,g'=G fr []/\fr.leaving P w' (.returned v)/\fr.fn=f/\Post w') rfl (λg w ⟨fr,h,_⟩=>by rw[h];rfl) (fun τ d=>?_) ?_
 ·obtain⟨e,w',fr',⟨rfl,hp⟩,⟨n,hc⟩,hf,hl⟩:=h τ d []
  exact⟨n,G fr' [],w',hc,fr',rfl,hl,hf,hp⟩
 ·rintro g' w' ⟨τ,d,fr,rfl,hl,hf,hp⟩
  exact hn fr w' _ hl hf ⟨τ,d,hp⟩
end Go.Co
namespace Go.Proofs.YtbfljjcnbbmoaaaGreatDoor
open Go.RowKit Go.Sort Go.BigFrame Go.Co
def A30 (F:FuncId)(w:World)(g':Goroutine)(w':World):Prop:=∃fr:Frame,g'=Go.Conc.G fr []/\fr.mode=.returning/\fr.defers=[]/\fr.kind=.normal/\fr.fn=F/\fr.tmps.getD 2 undef=.bool true/\Blw w.heap.size w w'
section
variable {base:Nat}
variable {w w' : World}{v : Value}
theorem Dj.blw {l:List Stil.Arm}(h:Dj w v l)(hb:Blw w.heap.size w w'):Dj w' v l:=by
 have e:Dj {w' with tape:=w.tape,drawn:=0} v l=Dj w' v l:=krz
 exact e ▸ h.below (hb.tape 0)
theorem Jn.blw {l:List Stil.Rl}(h:Jn w v l)(hb:Blw w.heap.size w w'):Jn w' v l:=by
 have e:Jn {w' with tape:=w.tape,drawn:=0} v l=Jn w' v l:=krz
 exact e ▸ h.below (hb.tape 0)
theorem Es.blw (h:Es w)(hb:Blw w.heap.size w w'):Es w':=by
 have e:Es {w' with tape:=w.tape,drawn:=0}=Es w':=krz
 exact e ▸ h.below (hb.tape 0)
theorem Et.blw (h:Et w)(hb:Blw w.heap.size w w'):Et w':=by
 have e:Et {w' with tape:=w.tape,drawn:=0}=Et w':=krz
 exact e ▸ h.below (hb.tape 0)
theorem Ny.blw {L:List Stil.Arm}{a:Option Addr}{c:Nat}{m:Aw}(h:Ny base w L a c m)(hb:Blw w.heap.size w w'):Ny base w' L a c m:=by
 have e:Ny base {w' with tape:=w.tape,drawn:=0} L a c m=Ny base w' L a c m:=krz
 exact e ▸ h.below (hb.tape 0)
theorem IPk.blw {L:List Stil.Rl}{b:Nat}{q:List (List Pl)}(h:IPk base w L v b q)(hb:Blw w.heap.size w w'):IPk base w' L v b q:=by
 have e:IPk base {w' with tape:=w.tape,drawn:=0} L v b q=IPk base w' L v b q:=krz
 exact e ▸ h.below (hb.tape 0)
theorem IHd.blw {b:Nat}{q:List (List Pl)}(h:IHd w v b q)(hb:Blw w.heap.size w w'):IHd w' v b q:=by
 have e:IHd {w' with tape:=w.tape,drawn:=0} v b q=IHd w' v b q:=krz
 exact e ▸ h.below (hb.tape 0)
theorem Tp.blw {B:Nat}(h:Tp w w'):Blw B w w':=by obtain⟨τ,d,rfl⟩:=h;exact⟨rfl,rfl,A4d _,λ_ _=>rfl⟩
end
end Go.Proofs.YtbfljjcnbbmoaaaGreatDoor
namespace Go.Proofs.YtbfljjcnbbmoaaaGreatDoor
open Go.RowKit Go.Co Go.Conc
variable {F:FuncId}{fn:Func}
theorem Ayv (hfn:Tryz.prog.funcs[F]?=some fn)(hres:fn.results=#[.tmp 2])(hni:Tryz.prog.inits.idxOf? F=none){fr:Frame}(hm:fr.mode=.returning)(hd:fr.defers=[])(hk:fr.kind=.normal)(hf:fr.fn=F)(ht:fr.tmps.getD 2 undef=.bool true)(W:World):
  stepG Tryz.prog true (G fr []) W=.ended (.done (.bool true)) W #[]:=by
 have hr:=resultsC_tmp (P:=Tryz.prog) hres fr.tmps W;rw[ht] at hr;obtain⟨mode,defers,kind,fn'⟩:=fr;simp_all[G,stepG,unwind,doReturn,seen,GStep.after]
theorem Ayx {c:Code}(hfn:Tryz.prog.funcs[F]?=some fn)(hb:fn.body=some c)(hres:fn.results=#[.tmp 2])(hni:Tryz.prog.inits.idxOf? F=none){args:Array Value}{W:World}{Post:Value->World->Prop}
  (h:Go.Co.Comes Tryz.prog (G (Frame.enter Tryz.prog F args .normal) []) W (A30 F W)) (hp:∀w',Blw W.heap.size W w'->Post (.bool true) w'):
  ∃N last o w' t',runNT Tryz.prog (N+1) (solo (G (Frame.enter Tryz.prog F args .normal) []) W) #[]=(.ended o w',t')/\runN Tryz.prog N (solo (G (Frame.enter Tryz.prog F args .normal) []) W)=.next last/\step Tryz.prog last=.ended o w'/\Conc.Good Tryz.prog Post last o w' t':=by
 rw[Go.Co.enter_at args hfn hb] at h ⊢;refine Ahc ⟨λi hi=>?_,λc hc=>by cases hc⟩ (h.mono λg' w' _ hF d=>?_)
 ·obtain rfl:i=.code c:=by simpa[G,Frame.at,Go.Conc.base] using hi
  trivial
 ·obtain⟨fr,rfl,hm,hd,hk,hf,ht,hB⟩:=hF
  exact⟨rfl, .bool true,#[],Ayv hfn hres hni hm hd hk hf ht _,spz,hp _ ⟨hB.os,hB.out,hB.size,hB.block⟩⟩
end Go.Proofs.YtbfljjcnbbmoaaaGreatDoor
set_option maxHeartbeats 4000000
set_option maxRecDepth 100000
namespace Go.Proofs.YtbfljjcnbbmoaaaGreatDoor
open Stil
open Go.RowKit Go.Sort Go.BigFrame Go.Co
theorem A2f {l:List Stil.Arm}(h:(H7 l).2≠0):(H7 l).1=[]:=by
 unfold H7 at h ⊢;split
 ·rfl
 ·split
  ·rfl
  ·rename_i h1 h2
   rw[if_neg h1,if_neg h2] at h;exact absurd rfl h
theorem Aov.nil (w:World)(base:Nat):Aov w base (.slice none 0 0) []:=⟨base,A4d _,World.ownsRow_nil _ _ _ _,(λx hx=>by cases hx),List.nodup_nil,(λk hk=>by cases hk)⟩
theorem Avw (l:List Stil.Arm)(kv:Value)(w:World)(hr:Es w)(hg:Et w)(hkv:Dj w kv l)(hl:l.length<=1048576)(hsz:Ce l<=1000000000)(hft:∀x∈l,Ci x)(hno:(H7 l).2≠0):
  Calls Tryz.prog 15 #[kv] w λe w'=>e=.returned (.tuple #[.slice none 0 0, .int .i64 (H7 l).2])/\Below w.heap.size w w':=by
 have HT:=hid (λW h=>Aat l kv W (hr.below h) (hg.below h) (hkv.below h) hl hsz hft);have HB:=hid (λW h=>Ajq l kv W (hr.below h) (hg.below h) (hkv.below h) hl hsz hft);have HK:=hid (λW h=>Af6 l kv W (hr.below h) (hg.below h) (hkv.below h) hl hsz hft);have hcb:=(Yu l).1;have hD:H7 l=if 0<(Bo l).1 then([],1) else if 16<Ll l\/8<I5 l then([],2) else(H6 l,0):=rfl
 obtain⟨p0,r0,rfl,_⟩:=hkv;rw[hD] at hno ⊢;clear hD hft hsz hr hg;generalize (Bo l).1=c at*;generalize Ll l=x at*;generalize I5 l=y at*;by_cases h0:0<c
 ·rw[if_pos h0]
  rw[decide_eq_false omz] at HT;clear HB HK hno h0 hcb;go_enter Tryz.func15,Tryz.ntmps15
  go_wp2_with (go_at_call 32;refine(HT _ blA).mono ?_;rintro e w1 ⟨rfl,hb1⟩)
  refine bodyPost_ret (v:=.tuple #[.slice none 0 0, .int .i64 1]) (by simp[results,Tryz.results15,go_sem]) rfl ⟨rfl,blA⟩
 rw[if_neg h0] at hno ⊢;rw[decide_eq_true omz] at HT;by_cases h1:(16:Int)<x
 ·rw[if_pos (.inl omz)]
  clear HK hno h0 hcb;go_enter Tryz.func15,Tryz.ntmps15
  go_wp2_with (first | (go_at_call 32;refine(HT _ blA).mono ?_;rintro e w1 ⟨rfl,hb1⟩) | (go_at_call 33;refine(HB _ blA).mono ?_;rintro e w2 ⟨rfl,hb2⟩))
  refine bodyPost_ret (v:=.tuple #[.slice none 0 0, .int .i64 2]) (by simp[results,Tryz.results15,go_sem]) rfl ⟨rfl,blA⟩
 by_cases h2:(8:Int)<y
 ·rw[if_pos (.inr omz)]
  clear hno h0 hcb;go_enter Tryz.func15,Tryz.ntmps15
  go_wp2_with (first | (go_at_call 32;refine(HT _ blA).mono ?_;rintro e w1 ⟨rfl,hb1⟩) | (go_at_call 33;refine(HB _ blA).mono ?_;rintro e w2 ⟨rfl,hb2⟩) | (go_at_call 34;refine(HK _ blA).mono ?_;rintro e w3 ⟨rfl,hb3⟩))
  refine bodyPost_ret (v:=.tuple #[.slice none 0 0, .int .i64 2]) (by simp[results,Tryz.results15,go_sem]) rfl ⟨rfl,blA⟩
 rw[if_neg omz] at hno;exact absurd rfl hno
theorem Avx (l:List Stil.Arm)(kv:Value)(w:World)(hr:Es w)(hg:Et w)(hkv:Dj w kv l)(hl:l.length<=1048576)(hsz:Ce l<=1000000000)(hft:∀x∈l,Ci x):
  Uk Tryz.prog 15 #[kv] w λv w'=>∃(u:Value) (ms:List MI),v=.tuple #[u, .int .i64 (H7 l).2]/\ms.map MI.inst=(H7 l).1/\Aov w' w.heap.size u ms/\Blw w.heap.size w w':=by
 by_cases h0:¬(H7 l).2=0
 ·refine(Yz okP (Post:=λr w'=>r=.tuple #[.slice none 0 0, .int .i64 (H7 l).2]/\Blw w.heap.size w w') fun τ d=>?_).mono λr w' ⟨τ,d,h1,h3⟩=>⟨.slice none 0 0,[],h1,(A2f h0).symm,Aov.nil _ _,h3.os,h3.out,h3.size,h3.block⟩
  have e1:Es {w with tape:=τ,drawn:=d}=Es w:=krz
  have e2:Et {w with tape:=τ,drawn:=d}=Et w:=krz
  have e3:Dj {w with tape:=τ,drawn:=d} kv l=Dj w kv l:=krz
  exact(Avw l kv {w with tape:=τ,drawn:=d} (e1 ▸ hr) (e2 ▸ hg) (e3 ▸ hkv) hl hsz hft h0).mono λe w' h=>⟨_,h.1,rfl,h.2.os,h.2.output,h.2.size,h.2.block⟩
 obtain⟨hc,hb,hk⟩:=A2e (Decidable.not_not.1 h0);rw[A2d hc hb hk];clear h0;intro fr cs Stop hn;have hbody:∃c0 c1 d,Tryz.f15.body=some (Axf [c0,c1] d):=⟨_,_,_,rfl⟩
 obtain⟨c0,c1,d,hbody⟩:=hbody;have nJ:=Go.Conc.resultsC_tmp2 (P:=Tryz.prog) (fn:=Tryz.f15) rfl;rw[Go.Co.enter_at #[kv] Tryz.func15 hbody];simp only[Tryz.ntmps15,A4b,A39,A4a,Nat.reduceAdd,Nat.reduceSub,A41,A42,A47,A44,A4z,A4y];unfold Tryz.f15 at hbody;simp only[Axf] at hbody;cases hbody;obtain⟨RA,aj⟩:∃RA:Act->World->Prop,RA=(λa' W=>(∃(u2 u3 u4 u5 u6 u7 u8 u9 u10 u11 u12 u13 u14 u15 u16:Value),a'=⟨#[kv,undef,u2,u3,u4,u5,u6,u7,u8,u9,u10,u11,u12,u13,u14,u15,u16,undef,undef],[]⟩)/\Blw w.heap.size w W):=⟨_,rfl⟩
 have vV:=hid aj;clear aj;refine Aa0 okP [_,_] (R:=RA) ?_ ?_
 ·intro τ d'
  obtain⟨W,hW⟩:∃W:World,W={w with tape:=τ,drawn:=d'}:=⟨_,rfl⟩
  rw[<-hW];have dN:Tp w W:=⟨τ,d',hW⟩
  have iC:Hid (∀W',Below W.heap.size W W'->Blw w.heap.size w W'):=by
   intro W' h;subst hW;exact⟨h.os,h.output,h.size,h.block⟩
  have HT:Hid (∀W',Below W.heap.size W W'->Calls Tryz.prog 32 #[kv] W' λe w'=>e=.returned (.bool true)/\Below W'.heap.size W' w'):=by
   intro W' h;have h2:=Aat l kv W' ((hr.blw dN.blw).below h) ((hg.blw dN.blw).below h) ((hkv.blw dN.blw).below h) hl hsz hft;rw[decide_eq_true hc] at h2;exact h2
  have HB:=hid (λW' h=>Ajq l kv W' ((hr.blw dN.blw).below h) ((hg.blw dN.blw).below h) ((hkv.blw dN.blw).below h) hl hsz hft);have HK:=hid (λW' h=>Af6 l kv W' ((hr.blw dN.blw).below h) ((hg.blw dN.blw).below h) ((hkv.blw dN.blw).below h) hl hsz hft);have h1:¬(16:Int)<(Ll l:Int):=omz
  have h2:¬(8:Int)<(I5 l:Int):=omz
  clear hb hk hc;generalize Ll l=x at*;generalize I5 l=y at*;clear hW dN hr hg hkv hl hsz hft hn;refine Hr ?_
  go_wp2
  refine Hr ?_
  go_wp2_with (first | (go_at_call 32;refine(HT _ blA).mono ?_;rintro e w1 ⟨rfl,hb1⟩) | (go_at_call 33;refine(HB _ blA).mono ?_;rintro e w2 ⟨rfl,hb2⟩) | (go_at_call 34;refine(HK _ blA).mono ?_;rintro e w3 ⟨rfl,hb3⟩))
  refine Ak1 ?_;rw[vV.out];exact⟨⟨_,_,_,_,_,_,_,_,_,_,_,_,_,_,_,rfl⟩,iC _ blA⟩
 intro a' W1 hal;rw[vV.out] at hal;clear vV RA hc hb hk;obtain⟨τ,d',⟨u2,u3,u4,u5,u6,u7,u8,u9,u10,u11,u12,u13,u14,u15,u16,rfl⟩,hB1⟩:=hal;replace hB1:Blw w.heap.size w W1:=⟨hB1.os,hB1.out,hB1.size,hB1.block⟩
 refine Qs okP λx1 h=>?_
 have t1:=(Tp.refl W1).al h;refine Md okP λx2 h=>?_
 have t2:=t1.al h;simp only[A4b,A39,A4a,Nat.reduceAdd,A4h,List.range,List.range.loop];refine Fj okP rfl rrz (by simp[Go.Conc.base]) (v:=kv) (λ_=>by go_simp) (λ_=>by simp[go_sem]) λx3 h=>?_
 have t3:=t2.al h;have oK:∀W',Tp W1 W'->Uk Tryz.prog 8 #[kv] W' λv w'=>∃ms:List MI,ms.map MI.inst=H6 l/\Aov w' w.heap.size v ms/\Blw w.heap.size w w':=by
  intro W' hT;have hBW:=hB1.trans hT.blw;refine(Aqr l kv W' (hr.blw hBW) (hg.blw hBW) (hkv.blw hBW) hl hsz hft).mono λr w' ⟨ms,h1,⟨B,h2,h3,h4,h5,h6⟩,h7⟩=>⟨ms,h1,⟨B,A4k hBW.size h2,h3,λx hx=>Joins.ownsRow_le (h4 x hx) hBW.size,h5,λk hk=>⟨A4k hBW.size (h6 k hk).1,(h6 k hk).2⟩⟩,hBW.trans (h7.le hBW.size)⟩
 refine Uh okP rfl rrz (by simp[Go.Conc.base]) rfl Tryz.func8 rfl (vals:=#[kv]) (by simp[Act.eval,Act.put]) (λW' h=>oK W' (t3.al h)) λgv W8 hp=>?_
 obtain⟨ms,hms,hO,vM⟩:=hp;clear oK t1 t2 t3 h;refine Fj okP rfl rrz (by simp[Go.Conc.base]) (v:=gv) (λ_=>by simp[Act.put];go_simp) (λ_=>by simp[go_sem]) λx4 h=>?_
 have t4:=(Tp.refl W8).al h;refine Fj okP rfl rrz (by simp[Go.Conc.base]) (v:=.int .i64 0) (λ_=>by simp[Act.put];go_simp) (λ_=>by simp[go_sem]) λx5 h=>?_
 have t5:=t4.al h;refine Wp okP λX h=>?_
 have t6:=t5.al h;clear t4 t5 h;simp only[Act.put];refine Aoa okP (Q:=λe a w'=>e=.ret/\a.defers=[]/\a.tmps.getD 2 undef=gv/\a.tmps.getD 3 undef=.int .i64 0/\Tp X w') (λe a w h=>.inr h.1) (fun τ d'=>?_) ?_ ?_
 ·have hT:Tp X {X with tape:=τ,drawn:=d'}:=⟨τ,d',rfl⟩
  revert hT
  generalize {X with tape:=τ,drawn:=d'}=Y;intro hT
  go_wp2
 ·rintro a' w' ⟨τ,d,h,_⟩
  cases h
 ·rintro a' w' todo ⟨τ,d,_,hd,ht2,ht3,hT⟩
  refine Qu okP (fr':=fr.finish (.tuple #[gv, .int .i64 0])) (cs':=cs) (λw₁=>?_) λw'' h=>?_
  ·have hv:=nJ a'.tmps
   rw[ht2,ht3] at hv;exact Go.Conc.stepG_leave (b:=Go.Conc.base 15) rfl hd Tryz.func15 (hv w₁).1 (hv w₁).2
  ·have hT2:Tp W8 w'':=by
    obtain⟨τ1,d1,rfl⟩:=t6;obtain⟨τ2,d2,rfl⟩:=hT.al ⟨τ,d,rfl⟩;exact(show Tp W8 _ from⟨τ2,d2,rfl⟩).al h
   obtain⟨τ1,d1,rfl⟩:=hT2;have e:Aov {W8 with tape:=τ1,drawn:=d1} w.heap.size gv ms=Aov W8 w.heap.size gv ms:=krz
   exact hn _ _ ⟨gv,ms,rfl,hms,e ▸ hO,vM.os,vM.out,vM.size,vM.block⟩
end Go.Proofs.YtbfljjcnbbmoaaaGreatDoor
namespace Go.Proofs.YtbfljjcnbbmoaaaGreatDoor
open Stil
open Go.RowKit Go.Sort Go.BigFrame Go.Co
theorem An9 (l:List Stil.Arm):(H7 l).1=[]\/(H7 l).1=H6 l:=by
 unfold H7;split
 ·exact .inl rfl
 ·split
  ·exact .inl rfl
  ·exact .inr rfl
set_option maxHeartbeats 8000000 in
set_option maxRecDepth 100000 in
theorem Al4 (v:Value)(la:List Stil.Arm)(w:World)(hrow:Es w)(herr:Et w)(hav:Dj w v la)(lq:∀x∈la,Aef x)(hla:la.length<=9223372036854775807):
  Go.Co.Comes Tryz.prog (Go.Conc.G (Frame.enter Tryz.prog 4 #[v] .normal) []) w (A30 4 w):=by
 have nJ:=Go.Conc.resultsC_tmp (P:=Tryz.prog) (fn:=Tryz.f4) rfl;have hts:=Ahj la;have FA:=Azc lq;by_cases h1:(1048576:Int) - (Qx la:Nat)<0
 ·
  refine Awf okP (v:=.bool true) (Post:=λw'=>Blw w.heap.size w w') (fun τ d=>?_) ?_
  ·obtain⟨W,hW⟩:∃W:World,W={w with tape:=τ,drawn:=d}:=⟨_,rfl⟩
   rw[<-hW];have dN:Tp w W:=⟨τ,d,hW⟩
   have zQ:=hav.blw dN.blw;have iC:Hid (∀W',Below W.heap.size W W'->Blw w.heap.size w W'):=by
    intro W' h;subst hW;exact⟨h.os,h.output,h.size,h.block⟩
   clear hW dN hrow herr;have SA:=hid (λW' h q=>Afv la lq hla v q W' (zQ.below h));obtain⟨p0,r0,rfl,_⟩:=zQ;have HZ:=hid (Qk h1);clear h1 hts FA hav;go_enter Tryz.func4,Tryz.ntmps4
   go_wp2_with (go_at_call 5;refine(SA _ blA _ omz omz).mono ?_;rw[HZ.out];rintro e w1 ⟨rfl,hb1⟩)
   go_ret;exact⟨rfl,iC _ blA⟩
  ·intro fr w' W hl hf ⟨τ,d,hp⟩
   refine Go.Co.Comes.stop ⟨fr,rfl,hl.1,hl.2.1,hl.2.2.1,hf,?_,hp.os,hp.out,hp.size,hp.block⟩;obtain⟨fn,hfn,hr⟩:=hl.2.2.2;rw[hf,Tryz.func4] at hfn;cases hfn;have:=(nJ fr.tmps W).1
   rw[hr] at this;injection this with h3
   exact h3.symm
 obtain⟨hfa,fV⟩:=FA omz;have yP:Ce la<=2097152:=omz
 clear FA hts;obtain⟨LI,sK⟩:∃LI,LI=(H7 la).1:=⟨_,rfl⟩
 obtain⟨cc,hcc⟩:∃cc,cc=(H7 la).2:=⟨_,rfl⟩
 have vG:∀x∈LI,x.fits:=by
  rw[sK];rcases An9 la with h | h<;>rw[h]
  ·exact λx hx=>by cases hx
  ·exact Apm hfa
 have hLIl:LI.length<=800:=by
  rw[sK];rcases An9 la with h | h<;>rw[h]
  ·exact Nat.zero_le _
  ·exact Yk hfa
 have oK:∀(W:World) (u:Value),Blw w.heap.size w W->Dj W u la->Uk Tryz.prog 15 #[u] W λr w'=>(∃g b q,r=.tuple #[g, .int .i64 cc]/\IPk W.heap.size w' LI g b q)/\Blw W.heap.size W w':=by
  intro W u hB hu;refine(Avx la u W (hrow.blw hB) (herr.blw hB) hu fV omz hfa).mono λr w'=>?_
  rintro⟨g,ms,hgr,hms,hO,hb⟩;rw[<-hcc] at hgr
  have hpk:=hO.pk (λx hx=>by
   have:x.inst∈LI:=by rw[sK,<-hms];exact List.mem_map_of_mem hx
   exact(vG _ this).2.2.1) (by
   have:=congrArg List.length hms
   rw[A4o,<-sK] at this
   omega)
  rw[hms,<-sK] at hpk;obtain⟨b,q,hpk⟩:=hpk;exact⟨⟨g,b,q,hgr,hpk⟩,hb⟩
 have qx:=hid (λW u t h1 h2=>Ayg LI vG omz u t W h1 h2);have HSP:Hid (∀W u,Dj W u la->Calls Tryz.prog 14 #[u] W λe w'=>∃(a:Option Addr) (c:Nat),e=.returned (.tuple #[.slice a LI.length c, .int .i64 cc])/\Jn w' (.slice a LI.length c) LI/\Below W.heap.size W w'):=by
  intro W u h;refine(Atx la u W h fV omz hfa).mono ?_;rintro e w' ⟨a,c,ms,rfl,hms,hr,hb⟩;have hl:ms.length=LI.length:=by rw[sK,<-hms,A4o]
  refine⟨a,c,by rw[hl,hcc],?_,hb⟩;have:=hr.at
  rw[hms,<-sK] at this;exact this
 have wQ:Hid (∀W,Dj W v la->Calls Tryz.prog 7 #[v] W λe w'=>∃(a:Option Addr) (c:Nat) (m:Aw),e=.returned (.slice a la.length c)/\Ny W.heap.size w' la a c m/\Below W.heap.size W w'):=by
  intro W h;refine(Ajc la (λx hx=>Ayc x (hfa x hx)) _ W h fV).mono ?_;rintro e w' ⟨ms,hm,rfl,hr,hb⟩;have hl:ms.length=la.length:=by rw[<-hm,A4o]
  exact⟨_,_,_,by rw[hl],Awz hm hr,hb⟩
 have HEA:=hid (λW u t h1 h2=>Aqb la hfa fV u t W h1 h2);have fK:Hid (∀lo W a c m,Ny lo W la a c m->Calls Tryz.prog 11 #[.slice a la.length c, .int .i64 1] W λe w'=>e=.returned (.int .i64 (1+m.kps.length))/\Dk W w' m.kps 1):=λlo W a c m h=>h.mark hfa yP
 have SZ:Hid (∀W,Dj W v la->Calls Tryz.prog 5 #[v, .int .i64 1048576] W λe w'=>e=.returned (.int .i64 (1048576 - (Qx la:Nat)))/\Below W.heap.size W w'):=by
  intro W h;have:=Afv la lq hla v 1048576 W h omz omz
  rw[Aa9 h1] at this;exact this
 obtain⟨q1,hq1⟩:∃q1:Int,q1=1048576 - (Qx la:Nat):=⟨_,rfl⟩
 rw[<-hq1] at SZ h1;clear sK vG lq hfa yP hq1 hcc;have hbody:∃c0 c1 c2 c3 c4 c5 r7 c8 c9 c10 c11 c12 c13 c14 c15 c16 c17 c18 r24 d,Tryz.f4.body=some (Axf [c0,c1,c2,c3,c4,c5] (.seq r7 (Axf [c8,c9,c10,c11,c12,c13,c14,c15,c16,c17,c18] (.seq r24 d)))):=⟨_,_,_,_,_,_,_,_,_,_,_,_,_,_,_,_,_,_,_,_,rfl⟩
 obtain⟨c0,c1,c2,c3,c4,c5,r7,c8,c9,c10,c11,c12,c13,c14,c15,c16,c17,c18,r24,d,hbody⟩:=hbody;rw[Go.Co.enter_at #[v] Tryz.func4 hbody];simp only[Tryz.ntmps4,A4b,A39,A4a,Nat.reduceAdd,Nat.reduceSub,A41,A42,A47,A44,A4z,A4y];unfold Tryz.f4 at hbody;simp only[Axf] at hbody;cases hbody;obtain⟨RA,aj⟩:∃RA:Act->World->Prop,RA=(λa' W=>∃(u3 u14 u15 u16 iF iE mM u20 u21 u22 u23 u24 u25 u26 lu:Value) (a6:Option Addr) (c6:Nat) (m6:Aw) (w5:World),a'=⟨#[v,undef, .bool false,u3,lu, .int .i64 cc, .slice a6 la.length c6,undef,undef,undef,undef,undef,undef,undef,u14,u15,u16,iF,iE,mM,u20,u21,u22,u23,u24,u25,u26,undef,undef,undef,undef,undef,undef,undef,undef,undef,undef,undef,undef,undef,undef,undef,undef,undef,undef,undef,undef,undef,undef,undef,undef,undef,undef,undef,undef,undef,undef,undef,undef,undef,undef,undef,undef,undef,undef,undef,undef,undef,undef,undef,undef,undef,undef,undef,undef,undef,undef,undef,undef,undef,undef,undef,undef,undef,undef,undef,undef,undef,undef,undef,undef,undef,undef,undef,undef,undef],[]⟩/\Jn w5 lu LI/\Blw w.heap.size w w5/\Blw w5.heap.size w5 W/\Ny w5.heap.size W la a6 c6 m6):=⟨_,rfl⟩
 have vV:=hid aj;clear aj;refine Aa0 okP [_,_,_,_,_,_] (R:=RA) ?_ ?_
 ·intro τ d'
  obtain⟨W,hW⟩:∃W:World,W={w with tape:=τ,drawn:=d'}:=⟨_,rfl⟩
  rw[<-hW];have dN:Tp w W:=⟨τ,d',hW⟩
  have dS:=hid (λW' (h:Below W.heap.size W W')=>(hav.blw dN.blw).below h);have iC:Hid (∀W',Below W.heap.size W W'->Blw w.heap.size w W'):=by
   intro W' h;subst hW;exact⟨h.os,h.output,h.size,h.block⟩
  clear hW dN hrow herr hav oK qx HEA fK;refine Hr ?_
  go_wp2
  refine Hr ?_
  go_wp2
  refine Hr ?_
  go_wp2_with (go_at_call 5;refine(SZ _ (dS _ blA)).mono ?_;rintro e w1 ⟨rfl,hb1⟩)
  refine Hr ?_
  go_wp2
  refine Hr ?_
  go_wp2_with (first | (go_at_call 7;refine(wQ _ (dS _ blA)).mono ?_;rintro e w3 ⟨a3,c3,m3,rfl,P3,hb3⟩;have xQ:Hid (∀W',Below w3.heap.size w3 W'->Dj W' (.slice a3 la.length c3) la):=(λW' h=>(P3.below h).2.2.2.2.2.2.2.1.at);clear P3) | (go_at_call 14;refine(HSP _ _ (xQ _ blA)).mono ?_;rintro e w5 ⟨a5,c5,rfl,g5,hb5⟩))
  have mQ:=hid g5;have HW5:Hid (Blw w.heap.size w w5):=iC _ blA;clear xQ g5;refine Hr ?_
  go_wp2_with (go_at_call 7;refine(wQ _ (dS _ blA)).mono ?_;rintro e w6 ⟨a6,c6,m6,rfl,P6,hb6⟩)
  refine Ak1 ?_;rw[vV.out];exact⟨_,_,_,_,_,_,_,_,_,_,_,_,_,_, .slice a5 LI.length c5,a6,c6,m6,w5,rfl,mQ.out,HW5.out,Blw.of hb6,P6⟩
 intro a' W1 hal;rw[vV.out] at hal;clear vV RA;obtain⟨τ,d',u3,u14,u15,u16,iF,iE,mM,u20,u21,u22,u23,u24,u25,u26,lu,a6,c6,m6,w5,rfl,h5,gI,hB1,uZ⟩:=hal;replace hB1:Blw w5.heap.size w5 W1:=⟨hB1.os,hB1.out,hB1.size,hB1.block⟩
 have e:Ny w5.heap.size {W1 with tape:=τ,drawn:=d'} la a6 c6 m6=Ny w5.heap.size W1 la a6 c6 m6:=krz
 replace uZ:=e ▸ uZ;clear e HSP SZ;dsimp only;refine Qs okP λx1 h=>?_
 have t1:=(Tp.refl W1).al h;refine Md okP λx2 h=>?_
 have t2:=t1.al h;simp only[A4b,A39,A4a,Nat.reduceAdd,A4h,List.range,List.range.loop];refine Fj okP rfl rrz (by simp[Go.Conc.base]) (v:=.slice a6 la.length c6) (λ_=>by go_simp) (λ_=>by simp[go_sem]) λx3 h=>?_
 have t3:=t2.al h;have cu:∀W',Tp W1 W'->Uk Tryz.prog 15 #[.slice a6 la.length c6] W' λr w'=>(∃g b q,r=.tuple #[g, .int .i64 cc]/\IPk W1.heap.size w' LI g b q)/\Blw W1.heap.size W1 w':=by
  intro W' hT;refine(oK W' _ (gI.trans ((hB1.trans hT.blw).le gI.size)) ((uZ.blw hT.blw).2.2.2.2.2.2.2.1.at)).mono λr w' ⟨hx,hb⟩=>?_
  obtain⟨τ,d,rfl⟩:=hT;exact⟨hx,hb.os,hb.out,hb.size,hb.block⟩
 refine Uh okP rfl rrz (by simp[Go.Conc.base]) rfl Tryz.func15 rfl (vals:=#[.slice a6 la.length c6]) (by simp[Act.eval,Act.put]) (λW' h=>cu W' (t3.al h)) λgt W8 hp=>?_
 obtain⟨⟨gv,b8,q8,rfl,hI8⟩,vM⟩:=hp;clear cu t1 t2 t3 h;refine Fj okP rfl rrz (by simp[Go.Conc.base]) (v:=.tuple #[gv, .int .i64 cc]) (λ_=>by simp[Act.put];go_simp) (λ_=>by simp[go_sem]) λx4 h=>?_
 have t4:=(Tp.refl W8).al h;refine Fj okP rfl rrz (by simp[Go.Conc.base]) (v:=gv) (λ_=>by simp[Act.put];go_simp) (λ_=>by simp[go_sem]) λx5 h=>?_
 have t4:=t4.al h;refine Fj okP rfl rrz (by simp[Go.Conc.base]) (v:=.int .i64 cc) (λ_=>by simp[Act.put];go_simp) (λ_=>by simp[go_sem]) λx6 h=>?_
 have t4:=t4.al h;refine Fj okP rfl rrz (by simp[Go.Conc.base]) (v:=gv) (λ_=>by simp[Act.put];go_simp) (λ_=>by simp[go_sem]) λx7 h=>?_
 have t4:=t4.al h;refine Fj okP rfl rrz (by simp[Go.Conc.base]) (v:=.int .i64 cc) (λ_=>by simp[Act.put];go_simp) (λ_=>by simp[go_sem]) λx8 h=>?_
 have t4:=t4.al h;refine Wp okP λX h=>?_
 have t5:=t4.al h;clear t4 h;have hlo:∀p∈m6.kps,w5.heap.size<=p.1/\p.1<W1.heap.size:=λp hp=>⟨uZ.2.2.2.2.1 p hp,uZ.lt p hp⟩
 have hX1:=vM.trans t5.blw;have sH:=hB1.trans (hX1.le hB1.size);have xE:=gI.trans (sH.le gI.size);have uY:=uZ.blw hX1;have yx:=hI8.blw t5.blw;have hle1:=hX1.size;have zF:=hB1.size;clear uZ hI8 vM t5;simp only[Act.put];obtain⟨RB,hRB⟩:∃RB:Act->World->Prop,RB=(λa' W=>∃(t3 t9 t11 t14 t15 t16 t17 t18 t19 t20 t21 t22 t23 t24 t25 t26 t27 t28 t29 t30 t31 t32 t33 t34 t35 t36 t37 t38 t39 t40 t41 t42 t43 t44 t45 t46 t47 t48 t49 t50 t51 t52 t53 t54 t55 t56 t57 t58 t59 t60 t61 t62 t63 t64 t65 t66 t67 t68 t69 t70 t71 t72:Value),a'=⟨#[v,undef, .bool false,t3,lu, .int .i64 cc, .slice a6 la.length c6,gv, .int .i64 cc,t9, .int .i64 (1+(Dz b8 0 q8).length),t11,undef,undef,t14,t15,t16,t17,t18,t19,t20,t21,t22,t23,t24,t25,t26,t27,t28,t29,t30,t31,t32,t33,t34,t35,t36,t37,t38,t39,t40,t41,t42,t43,t44,t45,t46,t47,t48,t49,t50,t51,t52,t53,t54,t55,t56,t57,t58,t59,t60,t61,t62,t63,t64,t65,t66,t67,t68,t69,t70,t71,t72,undef,undef,undef,undef,undef,undef,undef,undef,undef,undef,undef,undef,undef,undef,undef,undef,undef,undef,undef,undef,undef,undef,undef],[]⟩/\Blw w5.heap.size w5 W/\IHd W gv b8 q8):=⟨_,rfl⟩
 have mF:=hid hRB;clear hRB;refine Aa0 okP [_,_,_,_,_,_,_,_,_,_,_] (R:=RB) ?_ ?_
 ·intro τ d'
  obtain⟨W,hW⟩:∃W:World,W={X with tape:=τ,drawn:=d'}:=⟨_,rfl⟩
  rw[<-hW];have dN:Tp X W:=⟨τ,d',hW⟩
  have ou:=sH.trans dN.blw;have hsW:W.heap.size=X.heap.size:=by rw[hW]
  have hl5:w5.heap.size<=W.heap.size:=omz
  have HB5:=hid (λW' (h:Below w5.heap.size W W')=>ou.trans (Blw.of h));have ql:=hid (λW' (h:Below w5.heap.size W W')=>h5.blw (ou.trans (Blw.of h)));have dS:=hid (λW' (h:Below w5.heap.size W W')=>hav.blw (gI.trans ((ou.trans (Blw.of h)).le gI.size)));have HPK:=hid (λW' (h:Below W.heap.size W W')=>(uY.blw dN.blw).below h);have jf:=hid (λW' (h:Below W.heap.size W W')=>(yx.blw dN.blw).below h);clear hW dN hrow herr hav oK h5 uY yx hX1 sH xE ou gI hB1;obtain⟨k6,hk6⟩:∃k:Nat,k=m6.kps.length:=⟨_,rfl⟩
  have hkn:¬(1+(k6:Int)<0):=omz
  have HMK:Hid (∀W',Below W.heap.size W W'->Calls Tryz.prog 11 #[.slice a6 la.length c6, .int .i64 1] W' λe w'=>e=.returned (.int .i64 (1+k6))/\Below w5.heap.size W w'/\IPk W1.heap.size w' LI gv b8 q8):=by
   intro W' h;refine(fK _ W' a6 c6 m6 (HPK W' h)).mono ?_;rintro e w' ⟨rfl,hm⟩;have hs:=h.size;exact⟨by rw[hk6],(h.mono hl5).trans (hm.2.2.2.2 _ omz (λp hp=>(hlo p hp).1)),(jf W' h).marked hm (λp hp=>(hlo p hp).2)⟩
  clear hk6;obtain⟨k8,hk8⟩:∃k:Nat,k=(Dz b8 0 q8).length:=⟨_,rfl⟩
  have hmn:¬(1+(k8:Int)<0):=omz
  have HK8:=hid hk8;have xO:Hid (∀W' W'',IPk W1.heap.size W' LI gv b8 q8->Below w5.heap.size W W'->Below W'.heap.size W' W''->Calls Tryz.prog 12 #[gv, .int .i64 1] W'' λe w'=>e=.returned (.int .i64 (1+k8))/\Below w5.heap.size W w'/\IHd w' gv b8 q8):=by
   intro W' W'' hI hB hB2;have hI2:=hI.below hB2;refine hI2.mark.mono ?_;rintro e w' ⟨rfl,hm⟩;have hs:=hB.size;have hs2:=hB2.size;refine⟨by rw[hk8],(hB.trans (hB2.mono omz)).trans (hm.2.2.2.2 _ omz (λp hp=>by have:=hI2.2.2.2.1 p hp;omega)),hI2.hd hm⟩
  have qm:Hid (∀W',IHd W' gv b8 q8->Calls Tryz.prog 13 #[gv, .int .i64 1] W' λe w'=>e=.returned (.int .i64 (1+k8))/\w'=W'):=λW' h=>by rw[hk8];exact h.held
  clear hk8 hlo hle1 zF hsW;refine Hr ?_
  go_wp2_with (go_at_call 9;refine(qx _ _ _ ((jf _ blA).2.2.2.2.2.1.at) (ql _ ((blA:Below W.heap.size W _).mono hl5))).mono ?_;rintro e w9a ⟨rfl,hb9a⟩)
  refine Hr ?_
  go_wp2_with (first | (go_at_call 10;refine(HEA _ _ _ ((HPK _ blA).2.2.2.2.2.2.2.1.at) (HG9 _ blA)).mono ?_;rintro e w10 ⟨rfl,hb10⟩) | (go_at_call 7;refine(wQ _ (dS _ ((blA:Below W.heap.size W _).mono hl5))).mono ?_;rintro e w9 ⟨a9,c9,m9,rfl,P9,qL⟩;have HG9:Hid (∀W',Below w9.heap.size w9 W'->Dj W' (.slice a9 la.length c9) la):=(λW' h=>(P9.below h).2.2.2.2.2.2.2.1.at);clear P9))
  clear HG9;refine Hr ?_
  go_wp2
  refine Hr ?_
  go_wp2_with (go_at_call 11;refine(HMK _ blA).mono ?_;rintro e xU ⟨rfl,uS,zy⟩)
  have gp:=hid (λW' (h:Below xU.heap.size xU W')=>zy.below h);have HB11:=hid (λW' (h:Below xU.heap.size xU W')=>uS.trans (h.mono (by have:=uS.size;omega)));have sZ:=hid zy;clear HMK HPK jf zy;refine Hr ?_
  go_wp2_with (go_at_call 9;refine(qx _ _ _ ((gp _ blA).2.2.2.2.2.1.at) (ql _ (HB11 _ blA))).mono ?_;rintro e w12 ⟨rfl,hb12⟩)
  refine Hr ?_
  go_wp2
  refine Hr ?_
  go_wp2_with (go_at_call 12;refine(xO xU _ sZ uS blA).mono ?_;rintro e w13 ⟨rfl,yh,zM⟩)
  have jo:=hid zM;clear zM xO gp sZ;refine Hr ?_
  go_wp2
  refine Hr ?_
  go_wp2_with (go_at_call 13;refine(qm _ jo.out).mono ?_;rintro e w14 ⟨rfl,rfl⟩)
  refine Hr ?_
  go_wp2
  refine Hr ?_
  go_wp2
  refine Ak1 ?_;rw[mF.out];have hfin:=HB5 _ yh;have hd:=jo.out;rw[<-HK8.out];exact⟨_,_,_,_,_,_,_,_,_,_,_,_,_,_,_,_,_,_,_,_,_,_,_,_,_,_,_,_,_,_,_,_,_,_,_,_,_,_,_,_,_,_,_,_,_,_,_,_,_,_,_,_,_,_,_,_,_,_,_,_,_,_,rfl,hfin,hd⟩
 intro a' Y hal;rw[mF.out] at hal;clear mF RB uY yx hlo hX1 sH xE hle1 zF fK HEA;obtain⟨τ,d',t3,t9,t11,t14,t15,t16,t17,t18,t19,t20,t21,t22,t23,t24,t25,t26,t27,t28,t29,t30,t31,t32,t33,t34,t35,t36,t37,t38,t39,t40,t41,t42,t43,t44,t45,t46,t47,t48,t49,t50,t51,t52,t53,t54,t55,t56,t57,t58,t59,t60,t61,t62,t63,t64,t65,t66,t67,t68,t69,t70,t71,t72,rfl,qQ,hYd⟩:=hal;replace qQ:Blw w5.heap.size w5 Y:=⟨qQ.os,qQ.out,qQ.size,qQ.block⟩
 have e:IHd {Y with tape:=τ,drawn:=d'} gv b8 q8=IHd Y gv b8 q8:=krz
 replace hYd:=e ▸ hYd;clear e;dsimp only;have oh:=gI.trans (qQ.le gI.size);refine Qs okP λx1 h=>?_
 have t1:=(Tp.refl Y).al h;refine Md okP λx2 h=>?_
 have t2:=t1.al h;simp only[A4b,A39,A4a,Nat.reduceAdd,A4h,List.range,List.range.loop];refine Fj okP rfl rrz (by simp[Go.Conc.base]) (v:=v) (λ_=>by go_simp) (λ_=>by simp[go_sem]) λx3 h=>?_
 have t3:=t2.al h;have HTA:∀W',Tp Y W'->Uk Tryz.prog 7 #[v] W' λr w'=>∃(a:Option Addr) (c:Nat),r=.slice a la.length c/\Dj w' (.slice a la.length c) la/\Blw Y.heap.size Y w':=by
  intro W' hT;refine(Yz okP (Post:=λr w'=>∃(a:Option Addr) (c:Nat),r=.slice a la.length c/\Dj w' (.slice a la.length c) la/\Blw Y.heap.size Y w') fun τ d=>?_).mono λr w' ⟨τ,d,a,c,h1,h2,h3⟩=>⟨a,c,h1,?_,h3.os,h3.out,h3.size,h3.block⟩
  ·have hT2:Tp Y {W' with tape:=τ,drawn:=d}:=by obtain⟨τ0,d0,rfl⟩:=hT;exact⟨τ,d,rfl⟩
   refine(wQ _ (hav.blw (oh.trans hT2.blw))).mono λe w' h=>?_
   obtain⟨a,c,m,rfl,P,hb⟩:=h;refine⟨_,rfl,a,c,rfl,P.2.2.2.2.2.2.2.1.at,?_⟩;obtain⟨τ0,d0,rfl⟩:=hT;exact⟨hb.os,hb.output,hb.size,hb.block⟩
  ·have e:Dj {w' with tape:=τ,drawn:=d} (.slice a la.length c) la=Dj w' (.slice a la.length c) la:=by kernel_rfl
   exact e ▸ h2
 refine Uh okP rfl rrz (by simp[Go.Conc.base]) rfl Tryz.func7 rfl (vals:=#[v]) (by simp[Act.eval,Act.put]) (λW' h=>HTA W' (t3.al h)) λxv Z hp=>?_
 obtain⟨a15,c15,rfl,hZa,hZ⟩:=hp;clear HTA t1 t2 t3 h;have bu:∀W',Tp Z W'->Uk Tryz.prog 15 #[.slice a15 la.length c15] W' λr w'=>(∃g,r=.tuple #[g, .int .i64 cc]/\Jn w' g LI)/\Blw Z.heap.size Z w':=by
  intro W' hT;refine(oK W' _ ((oh.trans (hZ.le oh.size)).trans hT.blw) (hZa.blw hT.blw)).mono λr w' ⟨⟨g,b,q,hgr,hx⟩,hb⟩=>⟨⟨g,hgr,hx.2.2.2.2.2.1.at⟩,?_⟩
  obtain⟨τ,d,rfl⟩:=hT;exact⟨hb.os,hb.out,hb.size,hb.block⟩
 refine Uh okP rfl rrz (by simp[Go.Conc.base]) rfl Tryz.func15 rfl (vals:=#[.slice a15 la.length c15]) (by simp[Act.eval,Act.put]) (λW' h=>bu W' ((Tp.refl Z).al h)) λht V hp=>?_
 obtain⟨⟨zf,rfl,hV0⟩,hV⟩:=hp;clear bu hZa oK wQ;refine Fj okP rfl rrz (by simp[Go.Conc.base]) (v:=.tuple #[zf, .int .i64 cc]) (λ_=>by simp[Act.put];go_simp) (λ_=>by simp[go_sem]) λx4 h=>?_
 have t4:=(Tp.refl V).al h;refine Fj okP rfl rrz (by simp[Go.Conc.base]) (v:=zf) (λ_=>by simp[Act.put];go_simp) (λ_=>by simp[go_sem]) λx5 h=>?_
 have t4:=t4.al h;refine Fj okP rfl rrz (by simp[Go.Conc.base]) (v:=.int .i64 cc) (λ_=>by simp[Act.put];go_simp) (λ_=>by simp[go_sem]) λx6 h=>?_
 have t4:=t4.al h;refine Fj okP rfl rrz (by simp[Go.Conc.base]) (v:=zf) (λ_=>by simp[Act.put];go_simp) (λ_=>by simp[go_sem]) λx7 h=>?_
 have t4:=t4.al h;refine Fj okP rfl rrz (by simp[Go.Conc.base]) (v:=.int .i64 cc) (λ_=>by simp[Act.put];go_simp) (λ_=>by simp[go_sem]) λx8 h=>?_
 have t4:=t4.al h;refine Wp okP λX h=>?_
 have t5:=t4.al h;clear t4 h;have nY:=hZ.trans ((hV.trans t5.blw).le hZ.size);have sH:=qQ.trans (nY.le qQ.size);have xE:=gI.trans (sH.le gI.size);have hX0:=hV0.blw t5.blw;have hXd:=hYd.blw nY;have hXI:=h5.blw sH;clear hV0 hYd h5 nY sH hZ hV t5 oh qQ gI hB1 hav hrow herr;simp only[Act.put];refine Aoa okP (Q:=λe a w'=>e=.ret/\a.defers=[]/\a.tmps.getD 2 undef=.bool true/\Blw w.heap.size w w') (λe a w h=>.inr h.1) ?_ ?_ ?_
 ·intro τ d'
  obtain⟨W,hW⟩:∃W:World,W={X with tape:=τ,drawn:=d'}:=⟨_,rfl⟩
  rw[<-hW];have dN:Tp X W:=⟨τ,d',hW⟩
  have HB:=hid (λW' (h:Below W.heap.size W W')=>(xE.trans dN.blw).trans ((Blw.of h).le (by have h1:=xE.size;have h2:W.heap.size=X.heap.size:=(by rw[hW]);omega)));have HI0:=hid (λW' (h:Below W.heap.size W W')=>(hX0.blw dN.blw).below h);have ql:=hid (λW' (h:Below W.heap.size W W')=>(hXI.blw dN.blw).below h);have HD:=hid (λW' (h:Below W.heap.size W W')=>(hXd.blw dN.blw).below h);have qm:=hid (λW' (h:IHd W' gv b8 q8)=>h.held);obtain⟨k8,hk8⟩:∃k:Nat,k=(Dz b8 0 q8).length:=⟨_,rfl⟩
  rw[<-hk8] at qm ⊢;have hmn:¬(1+(k8:Int)<0):=omz
  clear hW dN xE hX0 hXI hXd hk8
  go_wp2_with (first | (go_at_call 9;refine(qx _ _ _ (HI0 _ blA) (ql _ blA)).mono ?_;rintro e w17 ⟨rfl,hb17⟩) | (go_at_call 13;refine(qm _ (HD _ blA)).mono ?_;rintro e w18 ⟨rfl,rfl⟩))
  exact HB _ blA
 ·rintro a' w' ⟨τ,d,h,_⟩
  cases h
 ·rintro a' w' todo ⟨τ,d,_,hd,ht,hb⟩
  exact Go.Co.Comes.stop ⟨_,rfl,rfl,hd,rfl,rfl,ht,hb.os,hb.out,hb.size,hb.block⟩
end Go.Proofs.YtbfljjcnbbmoaaaGreatDoor
