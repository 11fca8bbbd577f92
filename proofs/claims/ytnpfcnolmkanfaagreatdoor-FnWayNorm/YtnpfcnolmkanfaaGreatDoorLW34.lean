import Derived.Test.YtnpfcnolmkanfaaGreatDoorD21
import Derived.Test.YtnpfcnolmkanfaaGreatDoorCI6
import Derived.Test.YtnpfcnolmkanfaaGreatDoorFRe
import Derived.Test.YtnpfcnolmkanfaaGreatDoorM57
namespace Go.Proofs.YtnpfcnolmkanfaaGreatDoor
open Tryz
open Stil
open Go.RowKit Go.Sort Go.BigFrame
set_option maxHeartbeats 2000000 in
set_option maxRecDepth 100000 in
theorem A2l (g P:Nat)(w:World)(hr:H5 w g P)(L:P<=1000000):
  Calls prog 10 #[.pointer (some ⟨g,0,none⟩)] w λe k=>A2c e w k g (P+400000) 6000 104:=by
 have N:=Ug hr;go_enter func10,ntmps10;go_upto_region 2 with(go_at_call 22;refine(Aqu g _ _ raA omz).mono ?_;rintro e O ⟨l,v,rfl,d,o,D,s,i⟩;obtain⟨E,F,rfl,-⟩:=id d)
 have y:=hid d;have j:=hid o;clear d o;have K:=i.size
 go_wp2_with (first | (go_at_call_of 23 (Value.int IntKind.i64 16);refine(Ew g _ _ _ s omz omz omz).mono ?_;rintro e f ⟨x,rfl,M,I,q,c⟩;have H:=c.size;have n:=hid (y.keep (Ac.of_grown c (λb u e=>(by simp only[A65] at e;omega))));have G:Hid (Calls prog 24 #[.pointer (some ⟨g,0,none⟩), .slice E l.length F] f λe k=>Ayx (λb=>w.heap.size<=b) e f k g (P+60000+1+300000) 6000 104):=Avi _ g (P+60000+1) 4000 4 f _ l (λb u=>omz) n j D omz omz q omz) | (go_at_call 24;refine G.mono ?_;rintro e w3 ⟨C,J,rfl,A,r,z,t,B⟩))
 ·go_ret
  refine⟨C,_,rfl,A.mono λb _ h=>?_,r,z,Fg t omz,Dx (Dx i c) B⟩;rcases h with h | h
  ·exact h.1
  ·omega
 ·go_ret
  exact⟨l,_,rfl,n.out,λa m=>⟨(j a m).1,by have:=(j a m).2;omega⟩,omz,Fg q omz,Dx i c⟩
def A2d (e:Ending)(w w':World)(N k:Nat):Prop:=∃(l:List Stil.Arm) (v:Value),e=.returned v/\Ea w' v l/\(∀a∈l,Jd a/\F5 a<=N)/\l.length<=k/\Below w.heap.size w w'
theorem A4y {w w':World}{g:Nat}(h:w.grownBy w' (some g))(hg:w.heap.size<=g):Below w.heap.size w w':=⟨h.os,h.tape,h.output,h.size,λk a=>h.block k a (by intro e;cases e;omega)⟩
set_option maxHeartbeats 2000000 in
set_option maxRecDepth 100000 in
theorem Ah1 (u:Value)(w:World)(hu:BytesAt w u):
  Calls prog 4 #[u] w λe d=>A2d e w d 6000 104:=by
 have j:=hid hu;obtain⟨q,n,r,rfl,-,-,-⟩:=hu;go_enter func4,ntmps4
 go_wp2_with (first | (go_at_call 11;refine(Aze _ _ j.out).mono ?_;rintro e m ⟨rfl,c,i⟩) | (go_at_call 10;refine(A2l w.heap.size 0 _ c omz).mono ?_;rintro e o ⟨l,v,rfl,b,a,f,k,g⟩))
 go_ret;exact⟨l,_,rfl,b.at,a,f,A4y (Dx (grown_below i _) g) (A57 _)⟩
open Go.Co
theorem A0u (l:List Stil.Arm):(Gl l).1=[]\/(Gl l).1=F6 l:=by
 unfold Gl;split
 ·exact .inl rfl
 ·split
  ·exact .inl rfl
  ·exact .inr rfl
theorem Aax {l:List Stil.Arm}(a:∀x∈l,Cm x):(∀x∈(Gl l).1,x.fits)/\(Gl l).1.length<=800:=by
 rcases A0u l with h | h<;>rw[h]
 ·exact⟨(λx b=>by cases b),A7l _⟩
 ·exact⟨Abm a,U8 a⟩
theorem Amr.insts {w:World}{base:Nat}{v:Value}{c:List MI}{L:List Stil.Tq}(h:Amr w base v c)(a:c.map MI.inst=L)(f:∀x∈L,x.fits)(hl:L.length<=800):Hf w v L:=by
 obtain⟨b,q,d⟩:=h.pk (λx e=>(f _ (by rw[<-a];exact A7z e)).2.2.1) (by rw[<-a,A6i] at hl;omega);rw[a] at d;exact d.2.2.2.2.2.1.at
theorem zk0 {p:Prop}(h:p:=by
 rintro a' w' todo ⟨τ,d,_,hd,ht,hb⟩
 exact Go.Co.Comes.stop ⟨_,rfl,rfl,hd,rfl,rfl,ht,hb.os,hb.out,hb.size,hb.block⟩):p:=h
theorem zn0 {p:Prop}(h:p:=by
 have hT:Blw w.heap.size w {V with tape:=τ,drawn:=d'}:=⟨hV.os,hV.out,hV.size,hV.block⟩
 revert hT
 generalize {V with tape:=τ,drawn:=d'}=V';intro hT;clear hV qL hV1 hV2 zA t
 go_wp2):p:=h
set_option maxHeartbeats 40000000 in
set_option maxRecDepth 100000 in
open Classical in
theorem Anv (HD:∀u w,BytesAt w u->Calls prog 4 #[u] w λe w'=>A2d e w w' 6000 104)(u:Value)(w:World)(ae:Em w)(ac:En w)(hu:BytesAt w u):
  Go.Co.Comes prog (Go.Conc.G (Frame.enter prog 3 #[u] .normal) []) w (A5v 3 w):=by
 have iC:=Go.Conc.resultsC_tmp (P:=prog) (fn:=Tryz.f3) rfl;have aE:Hid (∀τ d,BytesAt {w with tape:=τ,drawn:=d} u):=fun τ d=>by
  have e:BytesAt {w with tape:=τ,drawn:=d} u=BytesAt w u:=krz
  exact e ▸ hu
 obtain⟨ua,ul,uc,rfl,-,-,-⟩:=hu;by_cases bc:1048576<ul
 ·refine Ax6 okP (v:=.bool true) (Post:=λw'=>Blw w.heap.size w w') (fun τ d=>?_) ?_
  ·obtain⟨W,z⟩:∃W:World,W={w with tape:=τ,drawn:=d}:=⟨_,rfl⟩
   rw[<-z];have iH:Hid (Blw w.heap.size w W):=by subst z;exact⟨rfl,rfl,A57 _,λ_ _=>rfl⟩
   clear z ae ac;go_enter func3,ntmps3
   go_wp2
   go_ret;exact⟨rfl,iH.out⟩
  ·intro fr w' W hl hf ⟨τ,d,y⟩
   refine Go.Co.Comes.stop ⟨fr,rfl,hl.1,hl.2.1,hl.2.2.1,hf,?_,y.os,y.out,y.size,y.block⟩;obtain⟨fn,aT,hr⟩:=hl.2.2.2;rw[hf,func3] at aT;cases aT;have:=(iC fr.tmps W).1
   rw[hr] at this;injection this with K
   exact K.symm
 have ab:∃c0 c1 A J r5 c6 r8 r9 d,Tryz.f3.body=some (A1t [c0,c1,A,J] (.seq r5 (.seq c6 (.seq r8 (.seq r9 d))))):=⟨_,_,_,_,_,_,_,_,_,rfl⟩
 obtain⟨c0,c1,A,J,r5,c6,r8,r9,d,ab⟩:=ab;rw[Go.Co.enter_at #[.slice ua ul uc] func3 ab];simp only[ntmps3,A55,A53,A54,Nat.reduceAdd,Nat.reduceSub,A6v,A6w,A61,A6y,A6t,A6s];unfold Tryz.f3 at ab;simp only[A1t] at ab;cases ab;obtain⟨RA,zG⟩:∃RA:Act->World->Prop,RA=(λa' W=>∃(u9 aG aF az ax aA aH:Value) (l:List Stil.Arm) (D T:Option Addr) (A J:Nat),a'=⟨#[.slice ua ul uc,undef, .bool false, .slice D l.length A, .slice T (A7 l).length J,undef,undef,undef,undef,u9,aG,aF,az,ax,aA,aH,undef,undef,undef,undef,undef,undef,undef,undef,undef,undef,undef,undef,undef,undef,undef,undef,undef,undef,undef,undef,undef,undef,undef,undef,undef,undef,undef,undef,undef,undef,undef,undef,undef,undef,undef,undef,undef,undef],[]⟩/\Ea W (.slice D l.length A) l/\Ea W (.slice T (A7 l).length J) (A7 l)/\((∀x∈l,Cm x)/\l.length<=1048576/\Bv l<=1000000000)/\Blw w.heap.size w W):=⟨_,rfl⟩
 have vI:=hid zG;clear zG;refine Ab0 okP [_,_,_,_] (R:=RA) ?_ ?_
 ·intro τ d'
  obtain⟨W,z⟩:∃W:World,W={w with tape:=τ,drawn:=d'}:=⟨_,rfl⟩
  rw[<-z];have iH:Hid (∀j,Below W.heap.size W j->Blw w.heap.size w j):=by
   intro j h;subst z;exact⟨h.os,h.output,h.size,h.block⟩
  have a6:Hid (Calls prog 4 #[.slice ua ul uc] W λe w'=>∃(l:List Stil.Arm) (a:Option Addr) (c:Nat),e=.returned (.slice a l.length c)/\Lad w' (.slice a l.length c) l/\Below W.heap.size W w'):=by
   refine(HD _ _ (z ▸ aE.out τ d')).mono ?_;rintro e w1 ⟨l,v,rfl,aR,ba,aa,aU⟩;have hL:=A4v aR ba aa omz omz;obtain⟨a1,c1,rfl,-⟩:=aR;exact⟨l,a1,c1,rfl,hL,aU⟩
  clear z ae ac aE HD iC;refine U1 ?_
  go_wp2
  refine U1 ?_
  go_wp2
  refine U1 ?_
  go_wp2_with (go_at_call 4;refine a6.mono ?_;rintro e w1 ⟨l,a1,c1,rfl,hL,aU⟩)
  obtain⟨vz,H,C,vk,-⟩:=hL;have dB:Hid (∀j,Below w1.heap.size w1 j->Calls prog 5 #[.slice a1 l.length c1] j λe w'=>∃(a:Option Addr) (c:Nat),e=.returned (.slice a (A7 l).length c)/\Ea w' (.slice a (A7 l).length c) (A7 l)/\Below j.heap.size j w'):=by
   intro j h;refine(Aqw l _ j (vz.below h) C vk H).mono ?_;rintro e w' ⟨hm,hb⟩;obtain⟨a,c,he,ha⟩:=Azt hm;exact⟨a,c,he,ha,hb⟩
  have sK:=hid (λj (h:Below w1.heap.size w1 j)=>vz.below h);have aZ:Hid ((∀x∈l,Cm x)/\l.length<=1048576/\Bv l<=1000000000):=⟨H,C,vk⟩
  clear vz H C vk;refine U1 ?_
  go_wp2_with (go_at_call 5;refine(dB _ blA).mono ?_;rintro e w2 ⟨a2,c2,rfl,hN,bf⟩)
  refine Ams ?_;rw[vI.out];exact⟨_,_,_,_,_,_,_,l,a1,a2,c1,c2,rfl,sK _ blA,hN,aZ.out,iH _ blA⟩
 intro a' W1 an;rw[vI.out] at an;clear vI RA aE HD;obtain⟨τ,d',u9,aG,aF,az,ax,aA,aH,l,D,T,A,J,rfl,ag,zN,⟨E,aa,ak⟩,O⟩:=an;have e1:Ea {W1 with tape:=τ,drawn:=d'} (.slice D l.length A) l=Ea W1 (.slice D l.length A) l:=krz
 have e2:Ea {W1 with tape:=τ,drawn:=d'} (.slice T (A7 l).length J) (A7 l)=Ea W1 (.slice T (A7 l).length J) (A7 l):=krz
 replace ag:=e1 ▸ ag;replace zN:=e2 ▸ zN;replace O:Blw w.heap.size w W1:=⟨O.os,O.out,O.size,O.block⟩
 clear e1 e2;have zV:∀(W:World) (v:Value) (m:List Stil.Arm),Blw w.heap.size w W->Ea W v m->m.length<=1048576->Bv m<=1000000000->(∀x∈m,Cm x)->Uy prog 6 #[v] W λr w'=>(∃g,r=.tuple #[g, .int .i64 (Gl m).2]/\Hf w' g (Gl m).1)/\Blw W.heap.size W w':=by
  intro W v m hB hv h1 h2 K;refine(Axh m v W (ae.blw hB) (ac.blw hB) hv h1 h2 K).mono λr w'=>?_
  rintro⟨g,ms,a5,aD,hO,hb⟩;exact⟨⟨g,a5,hO.insts aD (Aax K).1 (Aax K).2⟩,hb⟩
 have uZ:∀(W:World) (v:Value),Blw w.heap.size w W->Ea W v l->Uy prog 9 #[v] W λr w'=>Hf w' r (F6 l)/\Blw W.heap.size W w':=by
  intro W v hB hv;refine(Aha l v W (ae.blw hB) (ac.blw hB) hv aa ak E).mono λr w'=>?_
  rintro⟨ms,aD,hO,hb⟩;exact⟨hO.insts aD (Abm E) (U8 E),hb⟩
 have wY:∀(W:World) (a b:Value) (L M:List Stil.Tq),Hf W a L->Hf W b M->(∀x∈L,x.fits)->(∀x∈M,x.fits)->L.length<=800->M.length<=800->Uy prog 8 #[a,b] W λr w'=>r=.bool (decide (L=M))/\Blw W.heap.size W w':=by
  intro W a b L M ha hb hL hM hl hm;refine(Zm okP (Post:=λr w'=>r=.bool (decide (L=M))/\Blw W.heap.size W w') fun τ d=>?_).mono λr w' ⟨τ,d,h1,K⟩=>⟨h1,K.os,K.out,K.size,K.block⟩
  have e1:Hf {W with tape:=τ,drawn:=d} a L=Hf W a L:=krz
  have e2:Hf {W with tape:=τ,drawn:=d} b M=Hf W b M:=krz
  refine(Ar4 L M a b {W with tape:=τ,drawn:=d} (e1 ▸ ha) (e2 ▸ hb) hL hM omz omz).mono λe w' h=>?_
  obtain⟨rfl,hb⟩:=h;exact⟨_,rfl,rfl,hb.os,hb.output,hb.size,hb.block⟩
 have zW:=hid (λW v h=>Adu l v W h aa ak E);obtain⟨s,U⟩:∃s,s=(Gl l).2:=⟨_,rfl⟩
 obtain⟨I,Y⟩:∃I,I=(Gl l).1:=⟨_,rfl⟩
 have H:=(Aax E).1;have C:=(Aax E).2;rw[<-Y] at H C;obtain⟨n,Z⟩:∃n,n=A7 l:=⟨_,rfl⟩
 rw[<-Z] at zN ⊢;refine cR λ_ t=>?_
 simp only[A55,A53,A54,Nat.reduceAdd,A6b,List.range,List.range.loop];refine cP t (.slice D l.length A) λ_ t=>?_
 try walk_nrm
 refine cC t #[.slice D l.length A] func6 (Post:=λr w'=>(∃g,r=.tuple #[g, .int .i64 s]/\Hf w' g I)/\Blw W1.heap.size W1 w') (λj t=>by rw[U,Y];exact(zV j _ l (O.trans t.blw) (ag.blw t.blw) aa ak E).mono λr w' ⟨B,hb⟩=>⟨B,t.lw hb⟩) λgt W2 y=>?_
 obtain⟨⟨g,rfl,ah⟩,af⟩:=y;clear t;have t:=Tp.refl W2;refine cP t (.tuple #[g, .int .i64 s]) λ_ t=>?_
 try walk_nrm
 refine cP t (g) λ_ t=>?_
 try walk_nrm
 refine cP t (.int .i64 s) λ_ t=>?_
 try walk_nrm
 refine cP t (g) λ_ t=>?_
 try walk_nrm
 refine cP t (.int .i64 s) λ_ t=>?_
 try walk_nrm
 refine cN t λX t=>?_
 have ar:=af.trans t.blw;have uI:=O.trans (ar.le O.size);have wO:=ag.blw ar;have jg:=zN.blw ar;have jf:=ah.blw t.blw;clear t af ar ah ag zN O;try simp only[Act.put]
 by_cases h0:0<(Bf l).1
 ·have a7:s=1:=by rw[U];unfold Gl;rw[if_pos h0]
  subst a7;refine Ac4 okP (Q:=λe a w'=>e=.ret/\a.defers=[]/\a.tmps.getD 2 undef=.bool true/\Blw w.heap.size w w') (λe a w h=>.inr h.1) ?_ ?_ ?_
  ·intro τ d'
   obtain⟨W,z⟩:∃W:World,W={X with tape:=τ,drawn:=d'}:=⟨_,rfl⟩
   rw[<-z];have jL:Tp X W:=⟨τ,d',z⟩
   have HB:=hid (λj (h:Below W.heap.size W j)=>(uI.trans jL.blw).trans ((Blw.of h).le (by have h1:=uI.size;have h2:W.heap.size=X.heap.size:=(by rw[z]);omega)));have wI:=hid (λj (h:Below W.heap.size W j)=>(wO.blw jL.blw).below h);have a8:=Yc;obtain⟨rr,ai⟩:∃r,r=(Bf l).2:=⟨_,rfl⟩
   obtain⟨cd,au⟩:∃r,r=(Bf l).1:=⟨_,rfl⟩
   rw[<-ai,<-au] at zW;rw[<-au] at h0;clear z jL uI wO jg jf zV uZ wY ai au U Y H C Z ae ac E aa ak iC
   go_wp2_with (go_at_call 7;refine(zW _ _ (wI _ blA)).mono ?_;rintro e w3 ⟨rfl,a9⟩)
   exact HB _ blA
  ·rintro a' w' ⟨τ,d,h,_⟩
   cases h
  ·exact zk0
 have aj:(Bf l).1=0:=by have:=(Vk l).1;omega
 obtain⟨aC,aO,aV⟩:=Oe E;rw[<-Z] at aC aO aV;have aw:Gl n=Gl l:=by rw[Z];exact Aza E aj
 obtain⟨RB,aL⟩:∃RB:Act->World->Prop,RB=(λa' W=>(∃(aM aQ aX aW:Value),a'=⟨#[.slice ua ul uc,undef, .bool false, .slice D l.length A, .slice T n.length J,g, .int .i64 s,undef,undef,u9,aG,aF,az,ax,aA,aH, .tuple #[g, .int .i64 s], .slice D l.length A, .tuple #[g, .int .i64 s],g, .int .i64 s,aM,aQ,aX,aW,undef,undef,undef,undef,undef,undef,undef,undef,undef,undef,undef,undef,undef,undef,undef,undef,undef,undef,undef,undef,undef,undef,undef,undef,undef,undef,undef,undef,undef],[]⟩)/\Blw X.heap.size X W):=⟨_,rfl⟩
 have zg:=hid aL;clear aL;refine Ab0 okP [_] (R:=RB) ?_ ?_
 ·intro τ d'
  obtain⟨W,z⟩:∃W:World,W={X with tape:=τ,drawn:=d'}:=⟨_,rfl⟩
  rw[<-z];have jL:Tp X W:=⟨τ,d',z⟩
  have HB:Hid (∀j,Below W.heap.size W j->Blw X.heap.size X j):=by
   intro j h;subst z;exact⟨h.os,h.output,h.size,h.block⟩
  have wI:=hid (λj (h:Below W.heap.size W j)=>(wO.blw jL.blw).below h);have a8:=Yc;obtain⟨rr,ai⟩:∃r,r=(Bf l).2:=⟨_,rfl⟩
  rw[aj,<-ai] at zW;clear z jL uI wO jg jf zV uZ wY ai U Y H C Z ae ac E aa ak iC h0 aj aw aC aO aV;refine U1 ?_
  go_wp2_with (go_at_call 7;refine(zW _ _ (wI _ blA)).mono ?_;rintro e w3 ⟨rfl,a9⟩)
  refine Ams ?_;rw[zg.out];exact⟨⟨_,_,_,_,rfl⟩,HB _ blA⟩
 intro a' av an;rw[zg.out] at an;clear zg RB zW;obtain⟨τ,d',⟨aM,aQ,aX,aW,rfl⟩,N⟩:=an;replace N:Blw X.heap.size X av:=⟨N.os,N.out,N.size,N.block⟩
 have je:=uI.trans (N.le uI.size);have aY:=wO.blw N;have aN:=jg.blw N;have aJ:=jf.blw N;clear wO jg jf uI N;refine cR λ_ t=>?_
 simp only[A55,A53,A54,Nat.reduceAdd,A6b,List.range,List.range.loop];refine cP t (.slice T n.length J) λ_ t=>?_
 try walk_nrm
 refine cC t #[.slice T n.length J] func6 (Post:=λr w'=>(∃g,r=.tuple #[g, .int .i64 s]/\Hf w' g I)/\Blw av.heap.size av w') (λj t=>by rw[U,Y,<-aw];exact(zV j _ n (je.trans t.blw) (aN.blw t.blw) omz omz aC).mono λr w' ⟨B,hb⟩=>⟨B,t.lw hb⟩) λgt Z1 y=>?_
 obtain⟨⟨S,rfl,ah⟩,af⟩:=y;clear t;have t:=Tp.refl Z1;try walk_nrm
 refine cP t (.tuple #[S, .int .i64 s]) λ_ t=>?_
 try walk_nrm
 refine cP t (S) λ_ t=>?_
 try walk_nrm
 refine cP t (.int .i64 s) λ_ t=>?_
 try walk_nrm
 refine cP t (S) λ_ t=>?_
 try walk_nrm
 refine cP t (.int .i64 s) λ_ t=>?_
 try walk_nrm
 refine cN t λap t=>?_
 have ao:=af.trans t.blw;have jc:=je.trans (ao.le je.size);have aI:=aY.blw ao;have jd:=aJ.blw ao;have aS:=ah.blw t.blw;clear t af ao ah aY aN aJ je zV;try simp only[Act.put]
 have aP:=Abm E;have aK:=U8 E;by_cases hc:s=0
 ·have vw:I=F6 l:=by
   obtain⟨_,hb,hk⟩:=A1p (U ▸ hc);rw[Y,Au6 aj hb hk]
  subst hc;refine cR λ_ t=>?_
  simp only[A55,A53,A54,Nat.reduceAdd,A6b,List.range,List.range.loop];refine cP t (.int .i64 0) λ_ t=>?_
  try walk_nrm
  refine cP t (.int .i64 0) λ_ t=>?_
  try walk_nrm
  refine cP t (.bool true) λ_ t=>?_
  try walk_nrm
  refine cP t (.bool true) λ_ t=>?_
  try walk_nrm
  refine cP t (g) λ_ t=>?_
  try walk_nrm
  refine cP t (S) λ_ t=>?_
  try walk_nrm
  refine cC t #[g,S] func8 (Post:=λr w'=>r=.bool true/\Blw ap.heap.size ap w') (λj t=>(wY j g S I I (jd.blw t.blw) (aS.blw t.blw) H H C C).mono λr w' ⟨B,hb⟩=>⟨by rw[B,A77 rfl],t.lw hb⟩) λbt V1 y=>?_
  obtain⟨rfl,hV1⟩:=y;clear t;have t:=Tp.refl V1;try walk_nrm
  refine cP t (.bool true) λ_ t=>?_
  try walk_nrm
  refine cP t (.bool true) λ_ t=>?_
  try walk_nrm
  refine cP t (g) λ_ t=>?_
  try walk_nrm
  refine cP t (.slice D l.length A) λ_ t=>?_
  try walk_nrm
  have qL:=jc.trans (hV1.le jc.size);refine cC t #[.slice D l.length A] func9 (Post:=λr w'=>Hf w' r (F6 l)/\Blw V1.heap.size V1 w') (λj t=>(uZ j _ (qL.trans t.blw) ((aI.blw hV1).blw t.blw)).mono λr w' ⟨B,hb⟩=>⟨B,t.lw hb⟩) λpv V2 y=>?_
  obtain⟨ay,hV2⟩:=y;clear t;have t:=Tp.refl V2;try walk_nrm
  refine cC t #[g,pv] func8 (Post:=λr w'=>r=.bool true/\Blw V2.heap.size V2 w') (λj t=>(wY j g pv I (F6 l) (((jd.blw hV1).blw hV2).blw t.blw) (ay.blw t.blw) H aP C aK).mono λr w' ⟨B,hb⟩=>⟨by rw[B,A77 vw],t.lw hb⟩) λbt V3 y=>?_
  obtain⟨rfl,zA⟩:=y;clear t;have t:=Tp.refl V3;try walk_nrm
  refine cP t (.int .i64 0) λ_ t=>?_
  try walk_nrm
  refine cP t (.bool true) λ_ t=>?_
  try walk_nrm
  refine cP t (.bool true) λ_ t=>?_
  try walk_nrm
  refine cU t λ_ t=>?_
  try walk_nrm
  refine cU t λ_ t=>?_
  try walk_nrm
  refine cU t λ_ t=>?_
  try walk_nrm
  refine cP t (.bool true) λ_ t=>?_
  try walk_nrm
  refine cP t (.bool true) λ_ t=>?_
  try walk_nrm
  refine cP t (.bool true) λ_ t=>?_
  try walk_nrm
  refine cP t (.bool true) λ_ t=>?_
  try walk_nrm
  refine cN t λV t=>?_
  have hV:=qL.trans (((hV2.trans ((zA.trans t.blw).le hV2.size))).le qL.size);try simp only[Act.put]
  refine Ac4 okP (Q:=λe a w'=>e=.ret/\a.defers=[]/\a.tmps.getD 2 undef=.bool true/\Blw w.heap.size w w') (λe a w h=>.inr h.1) (fun τ d'=>?_) ?_ ?_
  ·exact zn0
  ·rintro a' w' ⟨τ,d,h,_⟩
   cases h
  ·exact zk0
 have aB:=Ax0 aj (U ▸ hc);have vw:¬I=F6 l:=by
  rw[Y,A1q (U ▸ hc)];exact λe=>aB.2 e.symm
 have hz:(s==0)=false:=by rw[A64];exact hc
 have bb:((n.length:Int)==0)=false:=by
  rw[A64];have:n.length≠0:=λe=>aB.1 (Z ▸ List.length_eq_zero_iff.1 e)
  omega
 clear U Y aB Z aw;refine cR λ_ t=>?_
 simp only[A55,A53,A54,Nat.reduceAdd,A6b,List.range,List.range.loop];refine cP t (.int .i64 s) λ_ t=>?_
 try walk_nrm
 refine cP t (.int .i64 s) λ_ t=>?_
 try walk_nrm
 refine cP t (.bool true) λ_ t=>?_
 try walk_nrm
 refine cP t (.bool true) λ_ t=>?_
 try walk_nrm
 refine cP t (g) λ_ t=>?_
 try walk_nrm
 refine cP t (S) λ_ t=>?_
 try walk_nrm
 refine cC t #[g,S] func8 (Post:=λr w'=>r=.bool true/\Blw ap.heap.size ap w') (λj t=>(wY j g S I I (jd.blw t.blw) (aS.blw t.blw) H H C C).mono λr w' ⟨B,hb⟩=>⟨by rw[B,A77 rfl],t.lw hb⟩) λbt V1 y=>?_
 obtain⟨rfl,hV1⟩:=y;clear t;have t:=Tp.refl V1;try walk_nrm
 refine cP t (.bool true) λ_ t=>?_
 try walk_nrm
 refine cP t (.bool true) λ_ t=>?_
 try walk_nrm
 refine cP t (g) λ_ t=>?_
 try walk_nrm
 refine cP t (.slice D l.length A) λ_ t=>?_
 try walk_nrm
 have qL:=jc.trans (hV1.le jc.size);refine cC t #[.slice D l.length A] func9 (Post:=λr w'=>Hf w' r (F6 l)/\Blw V1.heap.size V1 w') (λj t=>(uZ j _ (qL.trans t.blw) ((aI.blw hV1).blw t.blw)).mono λr w' ⟨B,hb⟩=>⟨B,t.lw hb⟩) λpv V2 y=>?_
 obtain⟨ay,hV2⟩:=y;clear t;have t:=Tp.refl V2;try walk_nrm
 refine cC t #[g,pv] func8 (Post:=λr w'=>r=.bool false/\Blw V2.heap.size V2 w') (λj t=>(wY j g pv I (F6 l) (((jd.blw hV1).blw hV2).blw t.blw) (ay.blw t.blw) H aP C aK).mono λr w' ⟨B,hb⟩=>⟨by rw[B,A7y vw],t.lw hb⟩) λbt V3 y=>?_
 obtain⟨rfl,zA⟩:=y;clear t;have t:=Tp.refl V3;try walk_nrm
 refine cP t (.int .i64 s) λ_ t=>?_
 try walk_nrm
 refine cP t (.bool false) λ_ t=>?_
 try walk_nrm
 refine cP t (.bool false) λ_ t=>?_
 try walk_nrm
 refine cP t (.slice T n.length J) λ_ t=>?_
 try walk_nrm
 refine cP t (.int .i64 n.length) λ_ t=>?_
 try walk_nrm
 refine cP t (.bool false) λ_ t=>?_
 try walk_nrm
 refine cP t (.bool false) λ_ t=>?_
 try walk_nrm
 refine cP t (.bool true) λ_ t=>?_
 try walk_nrm
 refine cP t (.bool true) λ_ t=>?_
 try walk_nrm
 refine cP t (.bool true) λ_ t=>?_
 try walk_nrm
 refine cN t λV t=>?_
 have hV:=qL.trans (((hV2.trans ((zA.trans t.blw).le hV2.size))).le qL.size);try simp only[Act.put]
 refine Ac4 okP (Q:=λe a w'=>e=.ret/\a.defers=[]/\a.tmps.getD 2 undef=.bool true/\Blw w.heap.size w w') (λe a w h=>.inr h.1) (fun τ d'=>?_) ?_ ?_
 ·exact zn0
 ·rintro a' w' ⟨τ,d,h,_⟩
  cases h
 ·exact zk0
end Go.Proofs.YtnpfcnolmkanfaaGreatDoor
