import Derived.Test.YtbfljjcnbbmoaaaGreatDoorLW32a
import Derived.Conc.LeavingOf
namespace Go.Co
open Stil
open Go.Conc
theorem H5 {P:Program} {R:Act->World->Prop} {c:Code} {l:List Code} {a:Act} {w:World} (h:c.wp P (Exit.then (WpL P R l) λ_ _ _=>False) a w):WpL P R (c::l) a w:=h
theorem Asi {P:Program} {R:Act->World->Prop} {a:Act} {w:World} (h:R a w):WpL P R [] a w:=h
theorem Avq {P:Program} {Stop:Goroutine->World->Prop} {w:World} (hP:OkP P) {f:FuncId} {args:Array Value} {v:Value} {Post:World->Prop} (h:∀τ d,Calls P f args {w with tape:=τ,drawn:=d} λe w'=>e=.returned v/\Post w')
  (hn:∀(fr:Frame) (w' W:World),fr.leaving P W (.returned v)->fr.fn=f->Al Post w'->Comes P (G fr []) w' Stop):Comes P (G (Frame.enter P f args .normal) []) w Stop:=by
 refine Sz hP (λg' w'=>∃fr,g'=G fr []/\fr.leaving P w' (.returned v)/\fr.fn=f/\Post w') rfl (λg w ⟨fr,h,_⟩=>by rw[h];rfl) (fun τ d=>?_) ?_
 ·obtain⟨e,w',fr',⟨rfl,hp⟩,⟨n,hc⟩,hf,hl⟩:=h τ d []
  exact⟨n,G fr' [],w',hc,fr',rfl,hl,hf,hp⟩
 ·rintro g' w' ⟨τ,d,fr,rfl,hl,hf,hp⟩
  exact hn fr w' _ hl hf ⟨τ,d,hp⟩
end Go.Co
namespace Go.Proofs.YtbfljjcnbbmoaaaGreatDoor
open Stil
open Go.RowKit Go.Sort Go.BigFrame Go.Co
def A35 (F:FuncId) (w:World) (g':Goroutine) (w':World):Prop:=∃fr:Frame,g'=Go.Conc.G fr []/\fr.mode=.returning/\fr.defers=[]/\fr.kind=.normal/\fr.fn=F/\fr.tmps.getD 2 undef=.bool true/\Blw w.heap.size w w'
section
variable {w w' : World} {v : Value}
theorem Dv.blw {l:List Stil.Arm} (h:Dv w v l) (hb:Blw w.heap.size w w'):Dv w' v l:=by
 have e:Dv {w' with tape:=w.tape,drawn:=0} v l=Dv w' v l:=by kernel_rfl
 exact e ▸ h.below (hb.tape 0)
theorem Jf.blw {l:List Stil.Ht} (h:Jf w v l) (hb:Blw w.heap.size w w'):Jf w' v l:=by
 have e:Jf {w' with tape:=w.tape,drawn:=0} v l=Jf w' v l:=by kernel_rfl
 exact e ▸ h.below (hb.tape 0)
theorem Eu.blw (h:Eu w) (hb:Blw w.heap.size w w'):Eu w':=by
 have e:Eu {w' with tape:=w.tape,drawn:=0}=Eu w':=by kernel_rfl
 exact e ▸ h.below (hb.tape 0)
theorem F6.blw (h:F6 w) (hb:Blw w.heap.size w w'):F6 w':=by
 have e:F6 {w' with tape:=w.tape,drawn:=0}=F6 w':=by kernel_rfl
 exact e ▸ h.below (hb.tape 0)
theorem Nb.blw {base:Nat} {L:List Stil.Arm} {a:Option Addr} {c:Nat} {m:Au} (h:Nb base w L a c m) (hb:Blw w.heap.size w w'):Nb base w' L a c m:=by
 have e:Nb base {w' with tape:=w.tape,drawn:=0} L a c m=Nb base w' L a c m:=by kernel_rfl
 exact e ▸ h.below (hb.tape 0)
theorem IPk.blw {base:Nat} {L:List Stil.Ht} {b:Nat} {q:List (List Pl)} (h:IPk base w L v b q) (hb:Blw w.heap.size w w'):IPk base w' L v b q:=by
 have e:IPk base {w' with tape:=w.tape,drawn:=0} L v b q=IPk base w' L v b q:=by kernel_rfl
 exact e ▸ h.below (hb.tape 0)
theorem IHd.blw {b:Nat} {q:List (List Pl)} (h:IHd w v b q) (hb:Blw w.heap.size w w'):IHd w' v b q:=by
 have e:IHd {w' with tape:=w.tape,drawn:=0} v b q=IHd w' v b q:=by kernel_rfl
 exact e ▸ h.below (hb.tape 0)
theorem Tp.blw {B:Nat} (h:Tp w w'):Blw B w w':=by obtain⟨τ,d,rfl⟩:=h;exact⟨rfl,rfl,A4i _,λ_ _=>rfl⟩
end
set_option maxHeartbeats 8000000 in
set_option maxRecDepth 100000 in
theorem Aik (v:Value) (la:List Stil.Arm) (w:World) (hrow:Eu w) (herr:F6 w) (hav:Dv w v la) (wfa:∀x∈la,Adl x) (hla:la.length<=9223372036854775807):
  Go.Co.Comes Tryz.prog (Go.Conc.G (Frame.enter Tryz.prog 3 #[v] .normal) []) w (A35 3 w):=by
 have hresF:=Go.Conc.resultsC_tmp (P:=Tryz.prog) (fn:=Tryz.f3) rfl;have hts:=Agr la;have FA:=Ayz wfa;by_cases h1:(1048576:Int) - (Qj la:Nat)<0
 ·
  refine Avq okP (v:=.bool true) (Post:=λw'=>Blw w.heap.size w w') (fun τ d=>?_) ?_
  ·obtain⟨W,hW⟩:∃W:World,W={w with tape:=τ,drawn:=d}:=⟨_,rfl⟩
   rw[<-hW];have hTp:Tp w W:=⟨τ,d,hW⟩
   have hav0:=hav.blw hTp.blw;have HBW:Hid (∀W',Below W.heap.size W W'->Blw w.heap.size w W'):=by
    intro W' h;subst hW;exact⟨h.os,h.output,h.size,h.block⟩
   clear hW hTp hrow herr;have SA:=hid (λW' h q=>Ae3 la wfa hla v q W' (hav0.below h));obtain⟨p0,r0,rfl,_⟩:=hav0;have HZ:=hid (Pz h1);clear h1 hts FA hav;go_enter Tryz.func3,Tryz.ntmps3
   go_wp2_with (go_at_call 5;refine(SA.out _ blA _ (by omega) (by omega)).mono ?_;rw[HZ.out];rintro e w1 ⟨rfl,hb1⟩)
   go_ret;exact⟨rfl,HBW.out _ blA⟩
  ·intro fr w' W hl hf ⟨τ,d,hp⟩
   refine Go.Co.Comes.stop ⟨fr,rfl,hl.1,hl.2.1,hl.2.2.1,hf,?_,hp.os,hp.out,hp.size,hp.block⟩;obtain⟨fn,hfn,hr⟩:=hl.2.2.2;rw[hf,Tryz.func3] at hfn;cases hfn;have:=(hresF fr.tmps W).1
   rw[hr] at this;injection this with h3
   exact h3.symm
 obtain⟨hfa,hla2⟩:=FA (by omega);have hts2:Bh la<=2097152:=by omega
 clear FA hts;obtain⟨LI,hLI⟩:∃LI,LI=Kq la:=⟨_,rfl⟩
 have hLIf:∀x∈LI,x.fits:=by rw[hLI];exact Ao2 hfa
 have hLIl:LI.length<=800:=by rw[hLI];exact X0 hfa
 have HWP:∀(W:World) (u:Value),Blw w.heap.size w W->Dv W u la->Vz Tryz.prog 8 #[u] W λr w'=>(∃b q,IPk W.heap.size w' LI r b q)/\Blw W.heap.size W w':=by
  intro W u hB hu;refine(Ap6 la u W (hrow.blw hB) (herr.blw hB) hu hla2 (by omega) hfa).mono λr w'=>?_
  rintro⟨ms,hms,hO,hb⟩
  have hpk:=hO.pk (λx hx=>by
   have:x.inst∈LI:=by rw[hLI,<-hms];exact List.mem_map_of_mem hx
   exact(hLIf _ this).2.2.1) (by
   have:=congrArg List.length hms
   rw[A4t,<-hLI] at this
   omega)
  rw[hms,<-hLI] at hpk;exact⟨hpk,hb⟩
 have HEQ:=hid (λW u t h1 h2=>Ax3 LI hLIf (by omega) u t W h1 h2);have HSP:Hid (∀W u,Dv W u la->Calls Tryz.prog 6 #[u] W λe w'=>∃(a:Option Addr) (c:Nat),e=.returned (.slice a LI.length c)/\Jf w' (.slice a LI.length c) LI/\Below W.heap.size W w'):=by
  intro W u h;refine(Aoo la u W h hla2 (by omega) hfa).mono ?_;rintro e w' ⟨a,c,ms,rfl,hms,hr,hb⟩;have hl:ms.length=LI.length:=by rw[hLI,<-hms,A4t]
  refine⟨a,c,by rw[hl],?_,hb⟩;have:=hr.at
  rw[hms,<-hLI] at this;exact this
 have HCP:Hid (∀W,Dv W v la->Calls Tryz.prog 7 #[v] W λe w'=>∃(a:Option Addr) (c:Nat) (m:Au),e=.returned (.slice a la.length c)/\Nb W.heap.size w' la a c m/\Below W.heap.size W w'):=by
  intro W h;refine(Ail la (λx hx=>Axz x (hfa x hx)) _ W h hla2).mono ?_;rintro e w' ⟨ms,hm,rfl,hr,hb⟩;have hl:ms.length=la.length:=by rw[<-hm,A4t]
  exact⟨_,_,_,by rw[hl],Av9 hm hr,hb⟩
 have HEA:=hid (λW u t h1 h2=>Aps la hfa hla2 u t W h1 h2);have HMA:Hid (∀lo W a c m,Nb lo W la a c m->Calls Tryz.prog 11 #[.slice a la.length c, .int .i64 1] W λe w'=>e=.returned (.int .i64 (1+m.kps.length))/\Dh W w' m.kps 1):=λlo W a c m h=>h.mark hfa hts2
 have SZ:Hid (∀W,Dv W v la->Calls Tryz.prog 5 #[v, .int .i64 1048576] W λe w'=>e=.returned (.int .i64 (1048576 - (Qj la:Nat)))/\Below W.heap.size W w'):=by
  intro W h;have:=Ae3 la wfa hla v 1048576 W h (by omega) (by omega)
  rw[Aam h1] at this;exact this
 obtain⟨q1,hq1⟩:∃q1:Int,q1=1048576 - (Qj la:Nat):=⟨_,rfl⟩
 rw[<-hq1] at SZ h1;clear hLI hLIf wfa hfa hts2 hq1;have hbody:∃c0 c1 c2 c3 c4 c5 r7 c8 c9 c10 c11 c12 c13 c14 c15 c16 c17 c18 r24 d,Tryz.f3.body=some (Az9 [c0,c1,c2,c3,c4,c5] (.seq r7 (Az9 [c8,c9,c10,c11,c12,c13,c14,c15,c16,c17,c18] (.seq r24 d)))):=⟨_,_,_,_,_,_,_,_,_,_,_,_,_,_,_,_,_,_,_,_,rfl⟩
 obtain⟨c0,c1,c2,c3,c4,c5,r7,c8,c9,c10,c11,c12,c13,c14,c15,c16,c17,c18,r24,d,hbody⟩:=hbody;rw[Go.Co.enter_at #[v] Tryz.func3 hbody];simp only[Tryz.ntmps3,A4g,A4e,A4f,Nat.reduceAdd,Nat.reduceSub,A46,A47,A5c,A49,A44,A43];unfold Tryz.f3 at hbody;simp only[Az9] at hbody;cases hbody;obtain⟨RA,hRA⟩:∃RA:Act->World->Prop,RA=(λa' W=>∃(u3 u11 u12 u13 u14 u15 u16 u17 u18 u19 u20 w0v:Value) (a6:Option Addr) (c6:Nat) (m6:Au) (w5:World),a'=⟨#[v,undef, .bool false,u3,w0v, .slice a6 la.length c6,undef,undef,undef,undef,undef,u11,u12,u13,u14,u15,u16,u17,u18,u19,u20,undef,undef,undef,undef,undef,undef,undef,undef,undef,undef,undef,undef,undef,undef,undef,undef,undef,undef,undef,undef,undef,undef,undef,undef,undef,undef,undef,undef,undef,undef,undef,undef,undef,undef,undef,undef,undef,undef,undef,undef,undef,undef,undef,undef,undef,undef,undef,undef],[]⟩/\Jf w5 w0v LI/\Blw w.heap.size w w5/\Blw w5.heap.size w5 W/\Nb w5.heap.size W la a6 c6 m6):=⟨_,rfl⟩
 have HRA:=hid hRA;clear hRA;refine Afi okP [_,_,_,_,_,_] (R:=RA) ?_ ?_
 ·intro τ d'
  obtain⟨W,hW⟩:∃W:World,W={w with tape:=τ,drawn:=d'}:=⟨_,rfl⟩
  rw[<-hW];have hTp:Tp w W:=⟨τ,d',hW⟩
  have HAV:=hid (λW' (h:Below W.heap.size W W')=>(hav.blw hTp.blw).below h);have HBW:Hid (∀W',Below W.heap.size W W'->Blw w.heap.size w W'):=by
   intro W' h;subst hW;exact⟨h.os,h.output,h.size,h.block⟩
  clear hW hTp hrow herr hav HWP HEQ HEA HMA;refine H5 ?_
  go_wp2
  refine H5 ?_
  go_wp2
  refine H5 ?_
  go_wp2_with (go_at_call 5;refine(SZ.out _ (HAV.out _ blA)).mono ?_;rintro e w1 ⟨rfl,hb1⟩)
  refine H5 ?_
  go_wp2
  refine H5 ?_
  go_wp2_with (first | (go_at_call 7;refine(HCP.out _ (HAV.out _ blA)).mono ?_;rintro e w3 ⟨a3,c3,m3,rfl,P3,hb3⟩;have HG3:Hid (∀W',Below w3.heap.size w3 W'->Dv W' (.slice a3 la.length c3) la):=(λW' h=>(P3.below h).2.2.2.2.2.2.2.1.at);clear P3) | (go_at_call 6;refine(HSP.out _ _ (HG3.out _ blA)).mono ?_;rintro e w5 ⟨a5,c5,rfl,g5,hb5⟩))
  have HG5:=hid g5;have HW5:Hid (Blw w.heap.size w w5):=HBW.out _ blA;clear HG3 g5;refine H5 ?_
  go_wp2_with (go_at_call 7;refine(HCP.out _ (HAV.out _ blA)).mono ?_;rintro e w6 ⟨a6,c6,m6,rfl,P6,hb6⟩)
  refine Asi ?_;rw[HRA.out];exact⟨_,_,_,_,_,_,_,_,_,_,_, .slice a5 LI.length c5,a6,c6,m6,w5,rfl,HG5.out,HW5.out,Blw.of hb6,P6⟩
 intro a' W1 hal;rw[HRA.out] at hal;clear HRA RA;obtain⟨τ,d',u3,u11,u12,u13,u14,u15,u16,u17,u18,u19,u20,w0v,a6,c6,m6,w5,rfl,h5,hB5,hB1,hPk⟩:=hal;replace hB1:Blw w5.heap.size w5 W1:=⟨hB1.os,hB1.out,hB1.size,hB1.block⟩
 have e:Nb w5.heap.size {W1 with tape:=τ,drawn:=d'} la a6 c6 m6=Nb w5.heap.size W1 la a6 c6 m6:=by kernel_rfl
 replace hPk:=e ▸ hPk;clear e HSP SZ;dsimp only;refine Sv okP λx1 h=>?_
 have t1:=(Tp.refl W1).al h;refine Om okP λx2 h=>?_
 have t2:=t1.al h;simp only[A4g,A4e,A4f,Nat.reduceAdd,A4m,List.range,List.range.loop];refine Np okP rfl (by rfl) (by simp[Go.Conc.base]) (v:=.slice a6 la.length c6) (λ_=>by go_simp) (λ_=>by simp[go_sem]) λx3 h=>?_
 have t3:=t2.al h;have HWP1:∀W',Tp W1 W'->Vz Tryz.prog 8 #[.slice a6 la.length c6] W' λr w'=>(∃b q,IPk W1.heap.size w' LI r b q)/\Blw W1.heap.size W1 w':=by
  intro W' hT;refine(HWP W' _ (hB5.trans ((hB1.trans hT.blw).le hB5.size)) ((hPk.blw hT.blw).2.2.2.2.2.2.2.1.at)).mono λr w' ⟨hx,hb⟩=>?_
  obtain⟨τ,d,rfl⟩:=hT;exact⟨hx,hb.os,hb.out,hb.size,hb.block⟩
 refine Ws okP rfl (by rfl) (by simp[Go.Conc.base]) rfl Tryz.func8 rfl (vals:=#[.slice a6 la.length c6]) (by simp[Act.eval,Act.put]) (λW' h=>HWP1 W' (t3.al h)) λgv W8 hp=>?_
 obtain⟨⟨b8,q8,hI8⟩,hB8⟩:=hp;clear HWP1 t1 t2 t3 h;refine Np okP rfl (by rfl) (by simp[Go.Conc.base]) (v:=gv) (λ_=>by simp[Act.put];go_simp) (λ_=>by simp[go_sem]) λx4 h=>?_
 have t4:=(Tp.refl W8).al h;refine Zh okP λX h=>?_
 have t5:=t4.al h;clear t4 h;have hlo:∀p∈m6.kps,w5.heap.size<=p.1/\p.1<W1.heap.size:=λp hp=>⟨hPk.2.2.2.2.1 p hp,hPk.lt p hp⟩
 have hX1:=hB8.trans t5.blw;have hX5:=hB1.trans (hX1.le hB1.size);have hXw:=hB5.trans (hX5.le hB5.size);have hPkX:=hPk.blw hX1;have hIX:=hI8.blw t5.blw;have hle1:=hX1.size;have hle5:=hB1.size;clear hPk hI8 hB8 t5;simp only[Act.put];obtain⟨RB,hRB⟩:∃RB:Act->World->Prop,RB=(λa' W=>∃(t3 t7 t9 t11 t12 t13 t14 t15 t16 t17 t18 t19 t20 t21 t22 t23 t24 t25 t26 t27 t28 t29 t30 t31 t32 t33 t34 t35 t36 t37 t38 t39 t40 t41 t42 t43 t44 t45 t46 t47 t48 t49 t50 t51 t52 t53:Value),a'=⟨#[v,undef, .bool false,t3,w0v, .slice a6 la.length c6,gv,t7, .int .i64 (1+(Du b8 0 q8).length),t9,undef,t11,t12,t13,t14,t15,t16,t17,t18,t19,t20,t21,t22,t23,t24,t25,t26,t27,t28,t29,t30,t31,t32,t33,t34,t35,t36,t37,t38,t39,t40,t41,t42,t43,t44,t45,t46,t47,t48,t49,t50,t51,t52,t53,undef,undef,undef,undef,undef,undef,undef,undef,undef,undef,undef,undef,undef,undef,undef],[]⟩/\Blw w5.heap.size w5 W/\IHd W gv b8 q8):=⟨_,rfl⟩
 have HRB:=hid hRB;clear hRB;refine Afi okP [_,_,_,_,_,_,_,_,_,_,_] (R:=RB) ?_ ?_
 ·intro τ d'
  obtain⟨W,hW⟩:∃W:World,W={X with tape:=τ,drawn:=d'}:=⟨_,rfl⟩
  rw[<-hW];have hTp:Tp X W:=⟨τ,d',hW⟩
  have hW5:=hX5.trans hTp.blw;have hsW:W.heap.size=X.heap.size:=by rw[hW]
  have hl5:w5.heap.size<=W.heap.size:=by omega
  have HB5:=hid (λW' (h:Below w5.heap.size W W')=>hW5.trans (Blw.of h));have HI5:=hid (λW' (h:Below w5.heap.size W W')=>h5.blw (hW5.trans (Blw.of h)));have HAV:=hid (λW' (h:Below w5.heap.size W W')=>hav.blw (hB5.trans ((hW5.trans (Blw.of h)).le hB5.size)));have HPK:=hid (λW' (h:Below W.heap.size W W')=>(hPkX.blw hTp.blw).below h);have HIK:=hid (λW' (h:Below W.heap.size W W')=>(hIX.blw hTp.blw).below h);clear hW hTp hrow herr hav HWP h5 hPkX hIX hX1 hX5 hXw hW5 hB5 hB1;obtain⟨k6,hk6⟩:∃k:Nat,k=m6.kps.length:=⟨_,rfl⟩
  have hkn:¬(1+(k6:Int)<0):=by omega
  have HMK:Hid (∀W',Below W.heap.size W W'->Calls Tryz.prog 11 #[.slice a6 la.length c6, .int .i64 1] W' λe w'=>e=.returned (.int .i64 (1+k6))/\Below w5.heap.size W w'/\IPk W1.heap.size w' LI gv b8 q8):=by
   intro W' h;refine(HMA.out _ W' a6 c6 m6 (HPK.out W' h)).mono ?_;rintro e w' ⟨rfl,hm⟩;have hs:=h.size;exact⟨by rw[hk6],(h.mono hl5).trans (hm.2.2.2.2 _ (by omega) (λp hp=>(hlo p hp).1)),(HIK.out W' h).marked hm (λp hp=>(hlo p hp).2)⟩
  clear hk6;obtain⟨k8,hk8⟩:∃k:Nat,k=(Du b8 0 q8).length:=⟨_,rfl⟩
  have hmn:¬(1+(k8:Int)<0):=by omega
  have HK8:=hid hk8;have HMI:Hid (∀W' W'',IPk W1.heap.size W' LI gv b8 q8->Below w5.heap.size W W'->Below W'.heap.size W' W''->Calls Tryz.prog 12 #[gv, .int .i64 1] W'' λe w'=>e=.returned (.int .i64 (1+k8))/\Below w5.heap.size W w'/\IHd w' gv b8 q8):=by
   intro W' W'' hI hB hB2;have hI2:=hI.below hB2;refine hI2.mark.mono ?_;rintro e w' ⟨rfl,hm⟩;have hs:=hB.size;have hs2:=hB2.size;refine⟨by rw[hk8],(hB.trans (hB2.mono (by omega))).trans (hm.2.2.2.2 _ (by omega) (λp hp=>by have:=hI2.2.2.2.1 p hp;omega)),hI2.hd hm⟩
  have HHD:Hid (∀W',IHd W' gv b8 q8->Calls Tryz.prog 13 #[gv, .int .i64 1] W' λe w'=>e=.returned (.int .i64 (1+k8))/\w'=W'):=λW' h=>by rw[hk8];exact h.held
  clear hk8 hlo hle1 hle5 hsW;refine H5 ?_
  go_wp2_with (go_at_call 9;refine(HEQ.out _ _ _ ((HIK.out _ blA).2.2.2.2.2.1.at) (HI5.out _ ((blA:Below W.heap.size W _).mono hl5))).mono ?_;rintro e w9a ⟨rfl,hb9a⟩)
  refine H5 ?_
  go_wp2_with (first | (go_at_call 10;refine(HEA.out _ _ _ ((HPK.out _ blA).2.2.2.2.2.2.2.1.at) (HG9.out _ blA)).mono ?_;rintro e w10 ⟨rfl,hb10⟩) | (go_at_call 7;refine(HCP.out _ (HAV.out _ ((blA:Below W.heap.size W _).mono hl5))).mono ?_;rintro e w9 ⟨a9,c9,m9,rfl,P9,hb9⟩;have HG9:Hid (∀W',Below w9.heap.size w9 W'->Dv W' (.slice a9 la.length c9) la):=(λW' h=>(P9.below h).2.2.2.2.2.2.2.1.at);clear P9))
  clear HG9;refine H5 ?_
  go_wp2
  refine H5 ?_
  go_wp2_with (go_at_call 11;refine(HMK.out _ blA).mono ?_;rintro e w11 ⟨rfl,hb11,P11⟩)
  have HP11:=hid (λW' (h:Below w11.heap.size w11 W')=>P11.below h);have HB11:=hid (λW' (h:Below w11.heap.size w11 W')=>hb11.trans (h.mono (by have:=hb11.size;omega)));have HP11':=hid P11;clear HMK HPK HIK P11;refine H5 ?_
  go_wp2_with (go_at_call 9;refine(HEQ.out _ _ _ ((HP11.out _ blA).2.2.2.2.2.1.at) (HI5.out _ (HB11.out _ blA))).mono ?_;rintro e w12 ⟨rfl,hb12⟩)
  refine H5 ?_
  go_wp2
  refine H5 ?_
  go_wp2_with (go_at_call 12;refine(HMI.out w11 _ HP11'.out hb11 blA).mono ?_;rintro e w13 ⟨rfl,hb13,hd13⟩)
  have HD13:=hid hd13;clear hd13 HMI HP11 HP11';refine H5 ?_
  go_wp2
  refine H5 ?_
  go_wp2_with (go_at_call 13;refine(HHD.out _ HD13.out).mono ?_;rintro e w14 ⟨rfl,rfl⟩)
  refine H5 ?_
  go_wp2
  refine H5 ?_
  go_wp2
  refine Asi ?_;rw[HRB.out];have hfin:=HB5.out _ hb13;have hd:=HD13.out;rw[<-HK8.out];exact⟨_,_,_,_,_,_,_,_,_,_,_,_,_,_,_,_,_,_,_,_,_,_,_,_,_,_,_,_,_,_,_,_,_,_,_,_,_,_,_,_,_,_,_,_,_,_,rfl,hfin,hd⟩
 intro a' Y hal;rw[HRB.out] at hal;clear HRB RB hPkX hIX hlo hX1 hX5 hXw hle1 hle5 HMA HEA;obtain⟨τ,d',t3,t7,t9,t11,t12,t13,t14,t15,t16,t17,t18,t19,t20,t21,t22,t23,t24,t25,t26,t27,t28,t29,t30,t31,t32,t33,t34,t35,t36,t37,t38,t39,t40,t41,t42,t43,t44,t45,t46,t47,t48,t49,t50,t51,t52,t53,rfl,hY5,hYd⟩:=hal;replace hY5:Blw w5.heap.size w5 Y:=⟨hY5.os,hY5.out,hY5.size,hY5.block⟩
 have e:IHd {Y with tape:=τ,drawn:=d'} gv b8 q8=IHd Y gv b8 q8:=by kernel_rfl
 replace hYd:=e ▸ hYd;clear e;dsimp only;have hYw:=hB5.trans (hY5.le hB5.size);refine Sv okP λx1 h=>?_
 have t1:=(Tp.refl Y).al h;refine Om okP λx2 h=>?_
 have t2:=t1.al h;simp only[A4g,A4e,A4f,Nat.reduceAdd,A4m,List.range,List.range.loop];refine Np okP rfl (by rfl) (by simp[Go.Conc.base]) (v:=v) (λ_=>by go_simp) (λ_=>by simp[go_sem]) λx3 h=>?_
 have t3:=t2.al h;have HTA:∀W',Tp Y W'->Vz Tryz.prog 7 #[v] W' λr w'=>∃(a:Option Addr) (c:Nat),r=.slice a la.length c/\Dv w' (.slice a la.length c) la/\Blw Y.heap.size Y w':=by
  intro W' hT;refine(Adi okP (Post:=λr w'=>∃(a:Option Addr) (c:Nat),r=.slice a la.length c/\Dv w' (.slice a la.length c) la/\Blw Y.heap.size Y w') fun τ d=>?_).mono λr w' ⟨τ,d,a,c,h1,h2,h3⟩=>⟨a,c,h1,?_,h3.os,h3.out,h3.size,h3.block⟩
  ·have hT2:Tp Y {W' with tape:=τ,drawn:=d}:=by obtain⟨τ0,d0,rfl⟩:=hT;exact⟨τ,d,rfl⟩
   refine(HCP.out _ (hav.blw (hYw.trans hT2.blw))).mono λe w' h=>?_
   obtain⟨a,c,m,rfl,P,hb⟩:=h;refine⟨_,rfl,a,c,rfl,P.2.2.2.2.2.2.2.1.at,?_⟩;obtain⟨τ0,d0,rfl⟩:=hT;exact⟨hb.os,hb.output,hb.size,hb.block⟩
  ·have e:Dv {w' with tape:=τ,drawn:=d} (.slice a la.length c) la=Dv w' (.slice a la.length c) la:=by kernel_rfl
   exact e ▸ h2
 refine Ws okP rfl (by rfl) (by simp[Go.Conc.base]) rfl Tryz.func7 rfl (vals:=#[v]) (by simp[Act.eval,Act.put]) (λW' h=>HTA W' (t3.al h)) λxv Z hp=>?_
 obtain⟨a15,c15,rfl,hZa,hZ⟩:=hp;clear HTA t1 t2 t3 h;have HWP2:∀W',Tp Z W'->Vz Tryz.prog 8 #[.slice a15 la.length c15] W' λr w'=>Jf w' r LI/\Blw Z.heap.size Z w':=by
  intro W' hT;refine(HWP W' _ ((hYw.trans (hZ.le hYw.size)).trans hT.blw) (hZa.blw hT.blw)).mono λr w' ⟨⟨b,q,hx⟩,hb⟩=>⟨hx.2.2.2.2.2.1.at,?_⟩
  obtain⟨τ,d,rfl⟩:=hT;exact⟨hb.os,hb.out,hb.size,hb.block⟩
 refine Ws okP rfl (by rfl) (by simp[Go.Conc.base]) rfl Tryz.func8 rfl (vals:=#[.slice a15 la.length c15]) (by simp[Act.eval,Act.put]) (λW' h=>HWP2 W' ((Tp.refl Z).al h)) λh0v V hp=>?_
 obtain⟨hV0,hV⟩:=hp;clear HWP2 hZa HWP HCP;refine Np okP rfl (by rfl) (by simp[Go.Conc.base]) (v:=h0v) (λ_=>by simp[Act.put];go_simp) (λ_=>by simp[go_sem]) λx4 h=>?_
 have t4:=(Tp.refl V).al h;refine Zh okP λX h=>?_
 have t5:=t4.al h;clear t4 h;have hXY:=hZ.trans ((hV.trans t5.blw).le hZ.size);have hX5:=hY5.trans (hXY.le hY5.size);have hXw:=hB5.trans (hX5.le hB5.size);have hX0:=hV0.blw t5.blw;have hXd:=hYd.blw hXY;have hXI:=h5.blw hX5;clear hV0 hYd h5 hXY hX5 hZ hV t5 hYw hY5 hB5 hB1 hav hrow herr;simp only[Act.put];refine Ayl okP (Q:=λe a w'=>e=.ret/\a.defers=[]/\a.tmps.getD 2 undef=.bool true/\Blw w.heap.size w w') (λe a w h=>.inr h.1) ?_ ?_ ?_
 ·intro τ d'
  obtain⟨W,hW⟩:∃W:World,W={X with tape:=τ,drawn:=d'}:=⟨_,rfl⟩
  rw[<-hW];have hTp:Tp X W:=⟨τ,d',hW⟩
  have HB:=hid (λW' (h:Below W.heap.size W W')=>(hXw.trans hTp.blw).trans ((Blw.of h).le (by have h1:=hXw.size;have h2:W.heap.size=X.heap.size:=(by rw[hW]);omega)));have HI0:=hid (λW' (h:Below W.heap.size W W')=>(hX0.blw hTp.blw).below h);have HI5:=hid (λW' (h:Below W.heap.size W W')=>(hXI.blw hTp.blw).below h);have HD:=hid (λW' (h:Below W.heap.size W W')=>(hXd.blw hTp.blw).below h);have HHD:=hid (λW' (h:IHd W' gv b8 q8)=>h.held);obtain⟨k8,hk8⟩:∃k:Nat,k=(Du b8 0 q8).length:=⟨_,rfl⟩
  rw[<-hk8] at HHD ⊢;have hmn:¬(1+(k8:Int)<0):=by omega
  clear hW hTp hXw hX0 hXI hXd hk8
  go_wp2_with (first | (go_at_call 9;refine(HEQ.out _ _ _ (HI0.out _ blA) (HI5.out _ blA)).mono ?_;rintro e w17 ⟨rfl,hb17⟩) | (go_at_call 13;refine(HHD.out _ (HD.out _ blA)).mono ?_;rintro e w18 ⟨rfl,rfl⟩))
  exact HB.out _ blA
 ·rintro a' w' ⟨τ,d,h,_⟩
  cases h
 ·rintro a' w' todo ⟨τ,d,_,hd,ht,hb⟩
  exact Go.Co.Comes.stop ⟨_,rfl,rfl,hd,rfl,rfl,ht,hb.os,hb.out,hb.size,hb.block⟩
end Go.Proofs.YtbfljjcnbbmoaaaGreatDoor
namespace Go.Proofs.YtbfljjcnbbmoaaaGreatDoor
open Go.RowKit Go.Co Go.Conc
theorem Ayd {F:FuncId} {fn:Func} (hfn:Tryz.prog.funcs[F]?=some fn) (hres:fn.results=#[.tmp 2]) (hni:Tryz.prog.inits.idxOf? F=none) {fr:Frame} (hm:fr.mode=.returning) (hd:fr.defers=[]) (hk:fr.kind=.normal) (hf:fr.fn=F) (ht:fr.tmps.getD 2 undef=.bool true) (W:World):
  stepG Tryz.prog true (G fr []) W=.ended (.done (.bool true)) W #[]:=by
 have hr:=resultsC_tmp (P:=Tryz.prog) hres fr.tmps W;rw[ht] at hr;obtain⟨mode,defers,kind,fn'⟩:=fr;simp_all[G,stepG,unwind,doReturn,seen,GStep.after]
theorem Ayf {F:FuncId} {fn:Func} {c:Code} (hfn:Tryz.prog.funcs[F]?=some fn) (hb:fn.body=some c) (hres:fn.results=#[.tmp 2]) (hni:Tryz.prog.inits.idxOf? F=none) {args:Array Value} {W:World} {Post:Value->World->Prop}
  (h:Go.Co.Comes Tryz.prog (G (Frame.enter Tryz.prog F args .normal) []) W (A35 F W)) (hp:∀w',Blw W.heap.size W w'->Post (.bool true) w'):
  ∃N last o w' t',runNT Tryz.prog (N+1) (solo (G (Frame.enter Tryz.prog F args .normal) []) W) #[]=(.ended o w',t')/\runN Tryz.prog N (solo (G (Frame.enter Tryz.prog F args .normal) []) W)=.next last/\step Tryz.prog last=.ended o w'/\Conc.Good Tryz.prog Post last o w' t':=by
 rw[Go.Co.enter_at args hfn hb] at h ⊢;refine Agk ⟨λi hi=>?_,λc hc=>by cases hc⟩ (h.mono λg' w' _ hF d=>?_)
 ·obtain rfl:i=.code c:=by simpa[G,Frame.at,Go.Conc.base] using hi
  trivial
 ·obtain⟨fr,rfl,hm,hd,hk,hf,ht,hB⟩:=hF
  exact⟨rfl, .bool true,#[],Ayd hfn hres hni hm hd hk hf ht _,by simp,hp _ ⟨hB.os,hB.out,hB.size,hB.block⟩⟩
end Go.Proofs.YtbfljjcnbbmoaaaGreatDoor
