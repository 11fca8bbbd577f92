import Derived.Test.YtobbpffcggchmaaGreatDoorD50
import Derived.Test.YtobbpffcggchmaaGreatDoorKf
import Derived.Test.YtobbpffcggchmaaGreatDoorLWN
import Derived.Test.YtobbpffcggchmaaGreatDoorLWS
import Derived.Test.YtobbpffcggchmaaGreatDoorLF32a
namespace Go.Proofs.YtobbpffcggchmaaGreatDoor
open Tryz
open Stil
open Go.RowKit Go.Sort Go.BigFrame Go.Co
theorem Aft.at {w:World}{base:Nat}{R:Stil.Net × Bool}{e:Ending}(h:Aft w base R e):∃(a:Option Addr) (b:Nat) (d:Option Addr) (c:Nat),e=.returned (.tuple #[.agg #[.int .i64 R.1.kind, .int .i64 R.1.one.op, .slice a R.1.one.args.length b, .slice d R.1.kids.length c], .bool R.2])/\A7 w (.slice a R.1.one.args.length b) R.1.one.args/\D8 w (.slice d R.1.kids.length c) R.1.kids:=by
 obtain⟨k,op,j,a,b,d,c,i,rfl,o,m⟩:=h;obtain⟨g,f⟩:=MOk.in _ o.1;have e:=Ah.net_eq ⟨k,op,j, .slice a j.length b, .slice d i.length c,i⟩;rw[m] at g f e;rw[e] at g f ⊢;simp only[A9j] at g f ⊢;exact⟨a,b,d,c,rfl,g.at,f.at⟩
def Aif (W:World)(bc:Nat):Prop:=∃d,bc<W.heap.size/\d<W.heap.size/\W.cell? ⟨bc,0,none⟩=some (.int .i64 21)/\W.cell? ⟨bc,1,none⟩=some (.slice (some ⟨d,0,none⟩) 1 1)/\W.cell? ⟨d,0,none⟩=some (.int .i64 2)/\W.cell? ⟨d,1,none⟩=some (.int .i64 0)/\W.cell? ⟨d,2,none⟩=some (.int .i64 0)
def Ac4 (W:World)(v:Value)(l:List Stil.F7)(n:Stil.Net)(bn bc bA:Nat):Prop:=Ja W v l/\(bn<W.heap.size/\W.cell? ⟨bn,0,none⟩=some (.int .i64 n.kind))/\Aif W bc/\Eb W (.slice (some ⟨bA,0,none⟩) 1 1) [Fj n]
section
variable {w w' : World}{v : Value}{l : List Stil.F7}{n : Stil.Net}{bn bc bA : Nat}
theorem Aif.below (h:Aif w bc)(a:Below w.heap.size w w'):Aif w' bc:=by
 obtain⟨d,c,b,j,e,i,f,g⟩:=h;exact⟨d,A82 c a.size,A82 b a.size,(a.cell (p:=⟨bc,0,none⟩) c).trans j,(a.cell (p:=⟨bc,1,none⟩) c).trans e,(a.cell (p:=⟨d,0,none⟩) b).trans i,(a.cell (p:=⟨d,1,none⟩) b).trans f,(a.cell (p:=⟨d,2,none⟩) b).trans g⟩
theorem Ac4.below (h:Ac4 w v l n bn bc bA)(a:Below w.heap.size w w'):Ac4 w' v l n bn bc bA:=⟨h.1.below a,⟨A82 h.2.1.1 a.size,(a.cell (p:=⟨bn,0,none⟩) h.2.1.1).trans h.2.1.2⟩,h.2.2.1.below a,h.2.2.2.below a⟩
theorem Ac4.blw (h:Ac4 w v l n bn bc bA)(a:Blw w.heap.size w w'):Ac4 w' v l n bn bc bA:=by
 have e:Ac4 {w' with tape:=w.tape,drawn:=0} v l n bn bc bA=Ac4 w' v l n bn bc bA:=krz
 exact e ▸ h.below (a.tape 0)
theorem Jb.blw (h:Jb w)(a:Blw w.heap.size w w'):Jb w':=by
 have e:Jb {w' with tape:=w.tape,drawn:=0}=Jb w':=krz
 exact e ▸ h.below (a.tape 0)
end
theorem Aq5 {W:World}{v:Value}{l:List Stil.F7}(a:∀x∈l,x.fits)(h:Eb W v [Fj (Bg l).1]):Lad W v [Fj (Bg l).1]:=by
 obtain⟨b,c⟩:=Acj a;refine⟨h,Aw2 b,spz,?_,λd=>Aw0 d (A6k l) c⟩;rw[Aw1];have:=Ax6 (Bg l).1
 omega
theorem zj0 {p:Prop}(h:p:=by
 rintro a' w' todo ⟨τ,d,_,hd,ht,hb⟩
 exact Go.Co.Comes.stop ⟨_,rfl,rfl,hd,rfl,rfl,ht,hb.os,hb.out,hb.size,hb.block⟩):p:=h
set_option maxHeartbeats 40000000 in
set_option maxRecDepth 100000 in
open Classical in
theorem Alo (u:Value)(w:World)(ab:Ei w)(ac:Em w)(aj:Jb w)(hu:BytesAt w u):
  Go.Co.Comes prog (Go.Conc.G (Frame.enter prog 3 #[u] .normal) []) w (A8t 3 w):=by
 have gB:=Go.Conc.resultsC_tmp (P:=prog) (fn:=Tryz.f3) rfl;have wu:Hid (∀τ d,BytesAt {w with tape:=τ,drawn:=d} u):=fun τ d=>by
  have e:BytesAt {w with tape:=τ,drawn:=d} u=BytesAt w u:=krz
  exact e ▸ hu
 obtain⟨ua,ul,uc,rfl,-,-,-⟩:=hu;by_cases cf:1048576<ul
 ·refine Az0 okP (v:=.bool true) (Post:=λw'=>Blw w.heap.size w w') (fun τ d=>?_) ?_
  ·obtain⟨W,s⟩:∃W:World,W={w with tape:=τ,drawn:=d}:=⟨_,rfl⟩
   rw[<-s];have fH:Hid (Blw w.heap.size w W):=by subst s;exact⟨rfl,rfl,A88 _,λ_ _=>rfl⟩
   clear s ab ac aj;go_enter func3,ntmps3
   go_wp2
   go_ret;exact⟨rfl,fH.out⟩
  ·intro fr w' W hl hf ⟨τ,d,hp⟩
   refine Go.Co.Comes.stop ⟨fr,rfl,hl.1,hl.2.1,hl.2.2.1,hf,?_,hp.os,hp.out,hp.size,hp.block⟩;obtain⟨fn,bR,hr⟩:=hl.2.2.2;rw[hf,func3] at bR;cases bR;have:=(gB fr.tmps W).1
   rw[hr] at this;injection this with h3
   exact h3.symm
 have an:∃c0 j C c4 c5 c6 c7 c8 bs bI yu d,Tryz.f3.body=some (A6s [c0,j,C,c4,c5,c6,c7,c8] (.seq bs (.seq bI (.seq yu d)))):=⟨_,_,_,_,_,_,_,_,_,_,_,_,rfl⟩
 obtain⟨c0,j,C,c4,c5,c6,c7,c8,bs,bI,yu,d,an⟩:=an;rw[Go.Co.enter_at #[.slice ua ul uc] func3 an];simp only[ntmps3,A86,A84,A85,Nat.reduceAdd,Nat.reduceSub,A9w,A9x,A92,A9z,A9u,A9t];unfold Tryz.f3 at an;simp only[A6s] at an;cases an;obtain⟨RA,bv⟩:∃RA:Act->World->Prop,RA=(λa' W=>∃(u6 aC aT aI ar fC fB iR aD ax aQ ay ap aH aP aR ao aN aM av aw aK aG aU aA aB aF tN aS tK aJ tJ aO az aE tH aL:Value) (l:List Stil.F7) (n:Stil.Net) (ok:Bool) (J:Option Addr) (C bn bc bA:Nat),a'=⟨#[.slice ua ul uc,undef, .bool false, .slice J l.length C, .pointer (some ⟨bn,0,none⟩), .bool ok,u6, .bool ok, .pointer (some ⟨bc,0,none⟩), .slice (some ⟨bA,0,none⟩) 1 1,undef,undef,undef,aC,aT,aI,ar,fC,fB,iR,aD,ax,aQ,ay,ap,aH,aP,aR,ao,aN,aM,av,aw,aK,aG,aU,aA,aB,aF,tN,aS,tK,aJ,tJ,aO,az,aE,tH,aL,undef,undef,undef,undef,undef,undef,undef,undef,undef,undef,undef,undef,undef,undef,undef,undef,undef,undef,undef,undef,undef,undef,undef,undef,undef,undef,undef,undef,undef,undef,undef,undef,undef,undef,undef,undef,undef,undef,undef,undef,undef,undef,undef,undef,undef],[]⟩/\(n,ok)=Bg l/\((∀x∈l,x.fits)/\l.length<=1048576)/\Ac4 W (.slice J l.length C) l n bn bc bA/\Blw w.heap.size w W):=⟨_,rfl⟩
 have xX:Hid (RA=(λa' W=>∃(u6 aC aT aI ar fC fB iR aD ax aQ ay ap aH aP aR ao aN aM av aw aK aG aU aA aB aF tN aS tK aJ tJ aO az aE tH aL:Value) (l:List Stil.F7) (n:Stil.Net) (ok:Bool) (J:Option Addr) (C bn bc bA:Nat),a'=⟨#[.slice ua ul uc,undef, .bool false, .slice J l.length C, .pointer (some ⟨bn,0,none⟩), .bool ok,u6, .bool ok, .pointer (some ⟨bc,0,none⟩), .slice (some ⟨bA,0,none⟩) 1 1,undef,undef,undef,aC,aT,aI,ar,fC,fB,iR,aD,ax,aQ,ay,ap,aH,aP,aR,ao,aN,aM,av,aw,aK,aG,aU,aA,aB,aF,tN,aS,tK,aJ,tJ,aO,az,aE,tH,aL,undef,undef,undef,undef,undef,undef,undef,undef,undef,undef,undef,undef,undef,undef,undef,undef,undef,undef,undef,undef,undef,undef,undef,undef,undef,undef,undef,undef,undef,undef,undef,undef,undef,undef,undef,undef,undef,undef,undef,undef,undef,undef,undef,undef,undef],[]⟩/\(n,ok)=Bg l/\((∀x∈l,x.fits)/\l.length<=1048576)/\Ac4 W (.slice J l.length C) l n bn bc bA/\Blw w.heap.size w W)):=bv;clear bv;have HI:∀(W:World) (v:Value) (L:List Stil.F7),Blw w.heap.size w W->Ja W v L->(∀x∈L,x.fits)->L.length<=1048576->Calls prog 5 #[v] W λe w'=>∃(r:Option Addr) (j:Nat) (A:Option Addr) (z:Nat),e=.returned (.tuple #[.agg #[.int .i64 (Bg L).1.kind, .int .i64 (Bg L).1.one.op, .slice r (Bg L).1.one.args.length j, .slice A (Bg L).1.kids.length z], .bool (Bg L).2])/\A7 w' (.slice r (Bg L).1.one.args.length j) (Bg L).1.one.args/\D8 w' (.slice A (Bg L).1.kids.length z) (Bg L).1.kids/\Below (W).heap.size W w':=by
  intro W v L hB hv N h2;refine(Azg L v W (ac.blw hB) (ab.blw hB) (aj.blw hB) hv h2 N).mono ?_;rintro e w' ⟨hr,hb⟩;obtain⟨r,j,A,z,he,hd,U⟩:=hr.at;exact⟨r,j,A,z,he,hd,U,hb⟩
 refine Ahz okP [_,_,_,_,_,_,_,_] (R:=RA) ?_ ?_
 ·intro τ H
  obtain⟨W,s⟩:∃W:World,W={w with tape:=τ,drawn:=H}:=⟨_,rfl⟩
  rw[<-s];have fH:Hid (∀g,Below W.heap.size W g->Blw w.heap.size w g):=by
   intro g h;subst s;exact⟨h.os,h.output,h.size,h.block⟩
  have bO:Hid (Calls prog 4 #[.slice ua ul uc] W λe w'=>∃(l:List Stil.F7) (a:Option Addr) (c:Nat),e=.returned (.slice a l.length c)/\Lst w' (.slice a l.length c) l/\Below W.heap.size W w'):=by
   refine(Aio _ _ (s ▸ wu.out τ H)).mono ?_;rintro e S ⟨l,v,rfl,hi,ht,U,hb⟩;have Z:=A7d hi ht U omz;obtain⟨r,j,rfl,-⟩:=hi;exact⟨l,r,j,rfl,Z,hb⟩
  clear s wu gB;refine Px ?_
  go_wp2
  refine Px ?_
  go_wp2
  refine Px ?_
  go_wp2_with (go_at_call 4;refine bO.mono ?_;rintro e S ⟨l,J,C,rfl,Z,bC⟩)
  clear bO;obtain⟨zK,O,xA⟩:=Z;have uz:Hid (∀g,Below S.heap.size S g->Calls prog 5 #[.slice J l.length C] g λe w'=>∃(r:Option Addr) (j:Nat) (A:Option Addr) (z:Nat),e=.returned (.tuple #[.agg #[.int .i64 (Bg l).1.kind, .int .i64 (Bg l).1.one.op, .slice r (Bg l).1.one.args.length j, .slice A (Bg l).1.kids.length z], .bool (Bg l).2])/\A7 w' (.slice r (Bg l).1.one.args.length j) (Bg l).1.one.args/\D8 w' (.slice A (Bg l).1.kids.length z) (Bg l).1.kids/\Below (g).heap.size g w'):=λg h=>HI g _ l (fH _ (bC.trans (h.mono bC.size))) (zK.below h) O xA
  have rf:Hid (∀g,Below S.heap.size S g->Calls prog 6 #[.slice J l.length C] g λe w'=>∃(r:Option Addr) (j:Nat) (A:Option Addr) (z:Nat),e=.returned (.tuple #[.agg #[.int .i64 (Bg l).1.kind, .int .i64 (Bg l).1.one.op, .slice r (Bg l).1.one.args.length j, .slice A (Bg l).1.kids.length z], .bool (Bg l).2])/\A7 w' (.slice r (Bg l).1.one.args.length j) (Bg l).1.one.args/\D8 w' (.slice A (Bg l).1.kids.length z) (Bg l).1.kids/\Below (g).heap.size g w'):=by
   intro g h;refine(Awx l _ g (zK.below h) xA O).mono ?_;rintro e w' ⟨hr,hb⟩;obtain⟨r,j,A,z,he,hd,U⟩:=hr.at;exact⟨r,j,A,z,he,hd,U,hb⟩
  have yG:Hid (∀W v,Eb W v [Fj (Bg l).1]->Lad W v [Fj (Bg l).1]):=λW v=>Aq5 O
  have jA:Hid (∀g,Below S.heap.size S g->Ja g (.slice J l.length C) l):=λg h=>zK.below h
  have af:Hid ((∀x∈l,x.fits)/\l.length<=1048576):=⟨O,xA⟩
  obtain⟨n,U⟩:∃n,n=(Bg l).1:=⟨_,rfl⟩
  obtain⟨ok,bp⟩:∃b,b=(Bg l).2:=⟨_,rfl⟩
  rw[<-U,<-bp] at uz rf;rw[<-U] at yG;have iC:Hid ((n,ok)=Bg l):=by show _=_;rw[U,bp]
  clear U bp zK O xA HI ab ac aj;refine Px ?_
  go_wp2_with (go_at_call 5;refine(uz _ blA).mono ?_;rintro e w3 ⟨r,j,A,z,rfl,bP,bM,bm⟩)
  have qP:Hid (∀V,Below w3.heap.size w3 V->A7 V (.slice r n.one.args.length j) n.one.args/\D8 V (.slice A n.kids.length z) n.kids):=λV h=>⟨bP.below h,bM.below h⟩
  have bF:Hid (∀V,Below (w3.alloc (.cells #[.int .i64 n.kind, .int .i64 n.one.op, .slice r n.one.args.length j, .slice A n.kids.length z] 30)).heap.size (w3.alloc (.cells #[.int .i64 n.kind, .int .i64 n.one.op, .slice r n.one.args.length j, .slice A n.kids.length z] 30)) V->B4 V w3.heap.size (.int .i64 n.kind) (.int .i64 n.one.op) (.slice r n.one.args.length j) (.slice A n.kids.length z)):=λV h=>(B4.fresh w3 _ _ _ _ _).below h spz
  clear bP bM uz;refine Px ?_
  go_wp2_with (go_at_call 6;refine(rf _ blA).mono ?_;rintro e I ⟨Y,f1,e2,f2,rfl,aV,a5,bT⟩)
  obtain⟨W5,tY⟩:∃ah,ah=I.alloc (.cells #[.int .i64 n.kind, .int .i64 n.one.op, .slice Y n.one.args.length f1, .slice e2 n.kids.length f2] 30):=⟨_,rfl⟩
  have E:Hid (Below W.heap.size W W5/\Below S.heap.size S W5/\Below w3.heap.size w3 W5):=by rw[tY];exact⟨blA,blA,blA⟩
  have bj:B4 W5 w3.heap.size (.int .i64 n.kind) (.int .i64 n.one.op) (.slice r n.one.args.length j) (.slice A n.kids.length z):=bF.out W5 (by rw[tY];exact blA);have bb:B4 W5 I.heap.size (.int .i64 n.kind) (.int .i64 n.one.op) (.slice Y n.one.args.length f1) (.slice e2 n.kids.length f2):=by rw[tY];exact B4.fresh I _ _ _ _ _
  have qO:Hid (∀V,Below W5.heap.size W5 V->A7 V (.slice Y n.one.args.length f1) n.one.args/\D8 V (.slice e2 n.kids.length f2) n.kids):=λV h=>by
   have h5:Below I.heap.size I W5:=by rw[tY];exact Aa _ _
   exact⟨aV.below (h5.trans (h.mono h5.size)),a5.below (h5.trans (h.mono h5.size))⟩
  have bh:=bj.1;have bk:=bb.1;rw[<-tY];obtain⟨X,bJ⟩:∃b,b=w3.heap.size:=⟨_,rfl⟩
  obtain⟨b2,bK⟩:∃b,b=I.heap.size:=⟨_,rfl⟩
  rw[<-bJ] at bj bh ⊢;rw[<-bK] at bb bk ⊢;have zQ:Hid (B4 W5 b2 (.int .i64 n.kind) (.int .i64 n.one.op) (.slice Y n.one.args.length f1) (.slice e2 n.kids.length f2)):=bb;obtain⟨-,⟨x0,x1,x2,x3⟩,-⟩:=bj;have bG:Hid (W5.cell? ⟨X,0,none⟩=some (.int .i64 n.kind)):=x0;have n1:¬X=W5.heap.size:=omz
  have n2:¬X=W5.heap.size+1:=omz
  have n3:X<W5.heap.size+1:=omz
  have n4:X<W5.heap.size+1+1:=omz
  clear tY bJ bK aV a5 bT bm bb bF rf;refine Px ?_
  go_wp2
  refine Px ?_
  go_wp2
  obtain⟨WL,y⟩:∃ah,ah=((((W5.alloc (.cells #[.int .i64 2, .int .i64 0, .int .i64 0] 34)).alloc (.cells #[.int .i64 21, .slice (some ⟨W5.heap.size,0,none⟩) 1 1] 27)).alloc (.cells #[.int .i64 21, .slice (some ⟨W5.heap.size,0,none⟩) 1 1] 27)).alloc (.cells #[.int .i64 n.kind, .int .i64 n.one.op, .slice r n.one.args.length j, .slice A n.kids.length z, .slice (some ⟨W5.heap.size+1+1,0,none⟩) 1 1, .slice none 0 0] 38)):=⟨_,rfl⟩
  have zl:WL.heap.size=W5.heap.size+4:=by rw[y];simp
  have ae:Below W5.heap.size W5 WL:=by rw[y];exact Be (Be (Be (Be (Below.refl _ _) _) _) _) _
  have uJ:Hid (∀V,Below WL.heap.size WL V->Eb V (.slice (some ⟨W5.heap.size+1+1+1,0,none⟩) 1 1) [Fj n]):=by
   have h3:Below w3.heap.size w3 WL:=E.2.2.trans (ae.mono E.2.2.size);have:=An1 (W:=WL) (b:=W5.heap.size+1+1+1) (c:=W5.heap.size+1+1) (d:=W5.heap.size) (n:=n) omz omz omz (by rw[y];simp[go_sem]) (by rw[y];simp[go_sem]) (by rw[y];simp[go_sem]) (by rw[y];simp[go_sem]) (by rw[y];simp[go_sem]) (by rw[y];simp[go_sem]) (by rw[y];simp[go_sem]) (by rw[y];simp[go_sem]) (by rw[y];simp[go_sem]) (by rw[y];simp[go_sem]) (by rw[y];simp[go_sem]) (qP WL h3).1 (qP WL h3).2
   exact λV h=>this.below h
  have o8:Aif WL (W5.heap.size+1):=⟨W5.heap.size,omz,omz,by rw[y];simp[go_sem],by rw[y];simp[go_sem],by rw[y];simp[go_sem],by rw[y];simp[go_sem],by rw[y];simp[go_sem]⟩
  have bU:Hid (Aif WL (W5.heap.size+1)):=o8;have y0:WL.cell? ⟨W5.heap.size+1,0,none⟩=some (.int .i64 21):=by rw[y];simp[go_sem]
  have y1:WL.cell? ⟨W5.heap.size+1,1,none⟩=some (.slice (some ⟨W5.heap.size,0,none⟩) 1 1):=by rw[y];simp[go_sem]
  obtain⟨z2,⟨q0,q1,q2,q3⟩,-⟩:=zQ.below ae bk;have bW:Hid (WL.cell? ⟨X,0,none⟩=some (.int .i64 n.kind)):=(ae.cell (p:=⟨X,0,none⟩) bh).trans bG.out;have qV:Hid (∀V,Below WL.heap.size WL V->V.cell? ⟨W5.heap.size,0,none⟩=some (.int .i64 2)/\V.cell? ⟨W5.heap.size,1,none⟩=some (.int .i64 0)/\V.cell? ⟨W5.heap.size,2,none⟩=some (.int .i64 0)):=by
   have p0:WL.cell? ⟨W5.heap.size,0,none⟩=some (.int .i64 2):=by rw[y];simp[go_sem]
   have p1:WL.cell? ⟨W5.heap.size,1,none⟩=some (.int .i64 0):=by rw[y];simp[go_sem]
   have p2:WL.cell? ⟨W5.heap.size,2,none⟩=some (.int .i64 0):=by rw[y];simp[go_sem]
   intro V h;exact⟨(h.cell (p:=⟨W5.heap.size,0,none⟩) yDd).trans p0,(h.cell (p:=⟨W5.heap.size,1,none⟩) yDd).trans p1,(h.cell (p:=⟨W5.heap.size,2,none⟩) yDd).trans p2⟩
  have jV:Hid (Below W.heap.size W WL/\Below S.heap.size S WL):=⟨E.1.trans (ae.mono E.1.size),E.2.1.trans (ae.mono E.2.1.size)⟩
  have bH:Hid (∀V,Below WL.heap.size WL V->A7 V (.slice Y n.one.args.length f1) n.one.args/\D8 V (.slice e2 n.kids.length f2) n.kids):=λV h=>qO V (ae.trans (h.mono ae.size))
  rw[<-y];have k1:W5.heap.size+1<WL.heap.size:=omz
  have k0:W5.heap.size<WL.heap.size:=omz
  have vG:X<WL.heap.size:=omz
  clear y x0 x1 x2 x3 n1 n2 n3 n4 bh bk ae qO qP zQ bG E;obtain⟨D,hD⟩:∃D,D=W5.heap.size:=⟨_,rfl⟩
  rw[<-hD] at uJ bU qV y0 y1 k0 k1 o8 zl ⊢;clear hD zl;have ru:Hid (∀V b c,b<V.heap.size->c<V.heap.size->Below WL.heap.size WL V->V.cell? ⟨b,0,none⟩=some (.int .i64 n.kind)->V.cell? ⟨b,1,none⟩=some (.int .i64 n.one.op)->V.cell? ⟨b,2,none⟩=some (.slice Y n.one.args.length f1)->V.cell? ⟨b,3,none⟩=some (.slice e2 n.kids.length f2)->V.cell? ⟨b,4,none⟩=some (.slice (some ⟨c,0,none⟩) 1 1)->V.cell? ⟨b,5,none⟩=some (.slice none 0 0)->V.cell? ⟨c,0,none⟩=some (.int .i64 21)->V.cell? ⟨c,1,none⟩=some (.slice (some ⟨D,0,none⟩) 1 1)->Eb V (.slice (some ⟨b,0,none⟩) 1 1) [Fj n]):=λV b c N h2 hb g0 g1 g2 g3 g4 g5 g6 g7=>An1 (d:=D) N h2 (A82 k0 hb.size) g0 g1 g2 g3 g4 g5 g6 g7 (qV V hb).1 (qV V hb).2.1 (qV V hb).2.2 (bH V hb).1 (bH V hb).2
  have ck:(ok !=ok)=false:=bne_self_eq_false ok;refine Px ?_
  go_wp2_with (go_at_call 7;refine(A62 (yG _ _ (uJ _ blA)) (yG _ _ (ru _ (WL.heap.size+1) WL.heap.size spz yAb blA (by simp[go_sem]) (by simp[go_sem]) (by simp[go_sem]) (by simp[go_sem]) (by simp[go_sem]) (by simp[go_sem]) (by simp[go_sem]) (by simp[go_sem])))).mono ?_;rintro e w8 ⟨bt,rfl,ai,cb⟩;obtain rfl:bt=true:=ai.2 rfl)
  refine Avz ?_;rw[xX.out];have uC:Below WL.heap.size WL w8:=blA;exact⟨_,_,_,_,_,_,_,_,_,_,_,_,_,_,_,_,_,_,_,_,_,_,_,_,_,_,_,_,_,_,_,_,_,_,_,_,_,l,n,ok,J,C,X,D+1,D+1+1+1,rfl,iC.out,af.out,⟨jA _ (jV.2.trans (uC.mono jV.2.size)),⟨A82 vG uC.size,(uC.cell (p:=⟨X,0,none⟩) vG).trans bW.out⟩,o8.below uC,uJ _ uC⟩,fH _ (jV.1.trans (uC.mono jV.1.size))⟩
 intro a' B aY;rw[xX.out] at aY;clear xX RA wu;obtain⟨τ,H,u6,aC,aT,aI,ar,fC,fB,iR,aD,ax,aQ,ay,ap,aH,aP,aR,ao,aN,aM,av,aw,aK,aG,aU,aA,aB,aF,tN,aS,tK,aJ,tJ,aO,az,aE,tH,aL,l,n,ok,J,C,bn,bc,bA,rfl,aa,⟨O,xA⟩,T,K⟩:=aY;have Y:Ac4 {B with tape:=τ,drawn:=H} (.slice J l.length C) l n bn bc bA=Ac4 B (.slice J l.length C) l n bn bc bA:=krz
 replace T:=Y ▸ T;replace K:Blw w.heap.size w B:=⟨K.os,K.out,K.size,K.block⟩
 clear Y;cases ok with
 | false=>
  have bB:n.kind=0:=by
   have N:n=(Bg l).1:=by rw[<-aa]
   have h2:(Bg l).2=false:=by rw[<-aa]
   rw[N,Aia h2];rfl
  refine Ajl okP (Q:=λe a w'=>e=.ret/\a.defers=[]/\a.tmps.getD 2 undef=.bool true/\Blw w.heap.size w w') (λe a w h=>.inr h.1) ?_ ?_ ?_
  ·intro τ H
   obtain⟨W,s⟩:∃W:World,W={B with tape:=τ,drawn:=H}:=⟨_,rfl⟩
   rw[<-s];have M:Tp B W:=⟨τ,H,s⟩
   have E:Hid (Blw w.heap.size w W):=K.trans (M.blw.le K.size);obtain⟨-,⟨cr,x0⟩,-⟩:=T.blw M.blw;rw[bB] at x0;clear s M T K HI ab ac aj gB aa O bB
   go_wp2
   exact E.out
  ·rintro a' w' ⟨τ,d,h,_⟩
   cases h
  ·exact zj0
 | true=>
  have aZ:n=(Bg l).1:=by rw[<-aa]
  have qA:∀W v,Eb W v [Fj n]->Lad W v [Fj n]:=λW v h=>by rw[aZ] at h ⊢;exact Aq5 O h
  by_cases hs:Ce [Fj n]<=400
  rotate_left
  ·refine Ajl okP (Q:=λe a w'=>e=.ret/\a.defers=[]/\a.tmps.getD 2 undef=.bool true/\Blw w.heap.size w w') (λe a w h=>.inr h.1) ?_ ?_ ?_
   ·intro τ H
    obtain⟨W,s⟩:∃W:World,W={B with tape:=τ,drawn:=H}:=⟨_,rfl⟩
    rw[<-s];have M:Tp B W:=⟨τ,H,s⟩
    have E:Hid (∀g,Below W.heap.size W g->Blw w.heap.size w g):=λg h=>(K.trans M.blw).trans ((Blw.of h).le (by have N:=K.size;have h2:W.heap.size=B.heap.size:=(by rw[s]);omega))
    have iY:Hid (Calls prog 8 #[.slice (some ⟨bA,0,none⟩) 1 1] W λe w'=>e=.returned (.int .i64 (Ce [Fj n]))/\Below W.heap.size W w'):=A36 (qA _ _ (T.blw M.blw).2.2.2);obtain⟨ak,hS⟩:∃ak,ak=Ce [Fj n]:=⟨_,rfl⟩
    rw[<-hS] at iY hs;have bY:(400:Int)<ak:=omz
    clear s M T K HI ab ac aj gB aa O qA hS hs aZ
    go_wp2_with (go_at_call 8;refine iY.mono ?_;rintro e w3 ⟨rfl,bm⟩)
    exact E _ blA
   ·rintro a' w' ⟨τ,d,h,_⟩
    cases h
   ·exact zj0
  obtain⟨ou,zI,bQ,pq⟩:=A5e aa.symm hs;obtain⟨bg,-,-⟩:=Xo aa.symm;have ku:Cj n:=by rw[aZ];exact(Acj O).1
  obtain⟨RB,bw⟩:∃RB:Act->World->Prop,RB=(λa' W=>(∃(a9 a8 a7 ba a6:Value),a'=⟨#[.slice ua ul uc,undef, .bool false, .slice J l.length C, .pointer (some ⟨bn,0,none⟩), .bool true,u6, .bool true, .pointer (some ⟨bc,0,none⟩), .slice (some ⟨bA,0,none⟩) 1 1,undef,undef,undef,aC,aT,aI,ar,fC,fB,iR,aD,ax,aQ,ay,ap,aH,aP,aR,ao,aN,aM,av,aw,aK,aG,aU,aA,aB,aF,tN,aS,tK,aJ,tJ,aO,az,aE,tH,aL,a9,a8,undef,undef,undef,a7,ba,a6,undef,undef,undef,undef,undef,undef,undef,undef,undef,undef,undef,undef,undef,undef,undef,undef,undef,undef,undef,undef,undef,undef,undef,undef,undef,undef,undef,undef,undef,undef,undef,undef,undef,undef,undef,undef,undef],[]⟩)/\Blw B.heap.size B W):=⟨_,rfl⟩
  have xW:Hid (RB=(λa' W=>(∃(a9 a8 a7 ba a6:Value),a'=⟨#[.slice ua ul uc,undef, .bool false, .slice J l.length C, .pointer (some ⟨bn,0,none⟩), .bool true,u6, .bool true, .pointer (some ⟨bc,0,none⟩), .slice (some ⟨bA,0,none⟩) 1 1,undef,undef,undef,aC,aT,aI,ar,fC,fB,iR,aD,ax,aQ,ay,ap,aH,aP,aR,ao,aN,aM,av,aw,aK,aG,aU,aA,aB,aF,tN,aS,tK,aJ,tJ,aO,az,aE,tH,aL,a9,a8,undef,undef,undef,a7,ba,a6,undef,undef,undef,undef,undef,undef,undef,undef,undef,undef,undef,undef,undef,undef,undef,undef,undef,undef,undef,undef,undef,undef,undef,undef,undef,undef,undef,undef,undef,undef,undef,undef,undef,undef,undef,undef,undef],[]⟩)/\Blw B.heap.size B W)):=bw;clear bw;refine Ahz okP [_,_] (R:=RB) ?_ ?_
  ·intro τ H
   obtain⟨W,s⟩:∃W:World,W={B with tape:=τ,drawn:=H}:=⟨_,rfl⟩
   rw[<-s];have M:Tp B W:=⟨τ,H,s⟩
   have E:Hid (∀g,Below W.heap.size W g->Blw B.heap.size B g):=by
    intro g h;subst s;exact⟨h.os,h.output,h.size,h.block⟩
   have iY:Hid (Calls prog 8 #[.slice (some ⟨bA,0,none⟩) 1 1] W λe w'=>e=.returned (.int .i64 (Ce [Fj n]))/\Below W.heap.size W w'):=A36 (qA _ _ (T.blw M.blw).2.2.2);obtain⟨ak,hS⟩:∃ak,ak=Ce [Fj n]:=⟨_,rfl⟩
   rw[<-hS] at iY hs;have bY:¬(400:Int)<ak:=omz
   clear s M T K HI ab ac aj gB aa O qA hS hs aZ ou zI bQ pq ku bg;refine Px ?_
   go_wp2
   refine Px ?_
   go_wp2_with (go_at_call 8;refine iY.mono ?_;rintro e w3 ⟨rfl,bm⟩)
   refine Avz ?_;rw[xW.out];exact⟨⟨_,_,_,_,_,rfl⟩,E _ blA⟩
  intro a' au aY;rw[xW.out] at aY;clear xW RB;obtain⟨τ,H,⟨a9,a8,a7,ba,a6,rfl⟩,hY⟩:=aY;replace hY:Blw B.heap.size B au:=⟨hY.os,hY.out,hY.size,hY.block⟩
  have zH:Blw w.heap.size w au:=K.trans (hY.le K.size);have ng:=T.blw hY;clear T K hY;have aX:(Nr [Fj n]).length=(Az n).length+2:=by rw[zI,A83];rfl
  have br:∀(W:World) (v:Value),Blw w.heap.size w W->Eb W v [Fj n]->Aav prog 9 #[v] W λaW w'=>(∃(a:Option Addr) (c:Nat),aW=.slice a ((Az n).length+2) c/\(Az n).length+2<=c/\Ja w' (.slice a (Az n).length c) (Az n))/\Blw W.heap.size W w':=by
   intro W v hB hv;have Z:=qA W v hv;refine(Ats _ v W (ab.blw hB) (ac.blw hB) hv Z.2.2.1 Z.2.2.2.1 Z.2.1).mono λaW w'=>?_
   rintro⟨ms,bL,hO,hb⟩;refine⟨?_,hb⟩;have hI:=hO.insts bL (Asn Z.2.1) (Aeb Z.2.1);obtain⟨b7,_,ho,-⟩:=hO;obtain⟨a,c,bz,bq,-⟩:=Iy ho;have bX:ms.length=(Az n).length+2:=by rw[<-aX,<-bL,A9j]
   rw[bX] at bz bq;subst bz;refine⟨a,c,rfl,bq.1,?_⟩;obtain⟨a',c',he,hc⟩:=hI;rw[aX] at he;injection he with N h2 h3
   subst N h3;refine⟨a,c,rfl,λi hi=>?_⟩;obtain⟨b,o,h4,h5,h6⟩:=hc i (by rw[aX];omega);refine⟨b,o,h4,h5,?_⟩;have e:(Nr [Fj n])[i]'(by rw[aX];omega)=(Az n)[i]:=by simp only[zI];exact Bcg hi
   rw[e] at h6;exact h6
  obtain⟨m,hm⟩:∃m,m=(Az n).length:=⟨_,rfl⟩
  rw[<-hm] at bQ;refine cR λ_ t=>?_
  simp only[A86,A84,A85,Nat.reduceAdd,A9c,List.range,List.range.loop];refine cP t (.slice (some ⟨bA,0,none⟩) 1 1) λ_ t=>?_
  try walk_nrm
  refine cC t #[.slice (some ⟨bA,0,none⟩) 1 1] func9 (Post:=λaW w'=>(∃(a:Option Addr) (c:Nat),aW=.slice a (m+2) c/\m+2<=c/\Ja w' (.slice a m c) (Az n))/\Blw au.heap.size au w') (λg t=>by rw[hm];exact(br g _ (zH.trans t.blw) (ng.blw t.blw).2.2.2).mono λaW w' ⟨hx,hb⟩=>⟨hx,t.lw hb⟩) λgt bZ hp=>?_
  obtain⟨⟨ag,cg,rfl,ct,bE⟩,bS⟩:=hp;clear t;have t:=Tp.refl bZ;refine cP t (.slice ag (m+2) cg) λ_ t=>?_
  try walk_nrm
  refine cN t λah t=>?_
  have mF:Blw au.heap.size au ah:=bS.trans t.blw;have ni:Blw w.heap.size w ah:=zH.trans (mF.le zH.size);have bN:=ng.blw mF;have bu:=bE.blw t.blw;clear t bS mF bE ng zH br;try simp only[Act.put]
  refine Ajl okP (Q:=λe a w'=>e=.ret/\a.defers=[]/\a.tmps.getD 2 undef=.bool true/\Blw w.heap.size w w') (λe a w h=>.inr h.1) ?_ ?_ ?_
  ·intro τ H
   obtain⟨W,s⟩:∃W:World,W={ah with tape:=τ,drawn:=H}:=⟨_,rfl⟩
   rw[<-s];have M:Tp ah W:=⟨τ,H,s⟩
   have bi:Blw w.heap.size w W:=ni.trans (M.blw.le ni.size);have E:Hid (∀g,Below W.heap.size W g->Blw w.heap.size w g):=λg h=>bi.trans ((Blw.of h).le bi.size)
   have ny:=bN.blw M.blw;have bD:=bu.blw M.blw;have b0:Hid (∀V,Below W.heap.size W V->Ei V/\Em V):=λV h=>⟨ab.blw (E V h),ac.blw (E V h)⟩
   have af:Hid (Avy W (.slice (some ⟨bA,0,none⟩) 1 1) [Fj n]):=λV h=>qA _ _ (ny.2.2.2.below h)
   have b6:Hid (∀V,Below W.heap.size W V->Calls prog 5 #[.slice ag m cg] V λe w'=>∃(r:Option Addr) (j:Nat) (A:Option Addr) (z:Nat),e=.returned (.tuple #[.agg #[.int .i64 n.kind, .int .i64 n.one.op, .slice r n.one.args.length j, .slice A n.kids.length z], .bool true])/\A7 w' (.slice r n.one.args.length j) n.one.args/\D8 w' (.slice A n.kids.length z) n.kids/\Below (V).heap.size V w'):=by
    intro V h;have N:=HI V (.slice ag m cg) (Az n) (E V h) (bD.below h) (Ve n bg.2.2 ku) (by rw[<-hm];omega);rw[pq] at N;exact N
   have bV:Hid ((Dc [Fj n]).1=0/\[Fj n]=Bh [Fj n]):=ou;obtain⟨D,bo,bf,y0,y1,p0,p1,p2⟩:=ny.2.2.1;have vw:Hid (∀V,Below W.heap.size W V->V.cell? ⟨bc,0,none⟩=some (.int .i64 21)/\V.cell? ⟨bc,1,none⟩=some (.slice (some ⟨D,0,none⟩) 1 1)):=λV h=>⟨(h.cell (p:=⟨bc,0,none⟩) bo).trans y0,(h.cell (p:=⟨bc,1,none⟩) bo).trans y1⟩
   have qV:Hid (∀V,Below W.heap.size W V->V.cell? ⟨D,0,none⟩=some (.int .i64 2)/\V.cell? ⟨D,1,none⟩=some (.int .i64 0)/\V.cell? ⟨D,2,none⟩=some (.int .i64 0)):=λV h=>⟨(h.cell (p:=⟨D,0,none⟩) bf).trans p0,(h.cell (p:=⟨D,1,none⟩) bf).trans p1,(h.cell (p:=⟨D,2,none⟩) bf).trans p2⟩
   have yG:Hid (∀V v,Eb V v [Fj n]->Lad V v [Fj n]):=qA;have b9:¬((m:Int)+2>(l.length:Int)+2):=omz
   have cm:¬((m:Int)+2<2):=omz
   clear s M bN bu ni ny bD bi HI ab ac aj gB aa O qA aZ ou zI pq ku bg hm aX y0 y1 p0 p1 p2 hs;go_upto_if 74 with(go_at_call 10;refine(A8i (w:=W) b0 af blA).mono ?_;rintro e w4 ⟨bt,rfl,ai,cn⟩;obtain rfl:bt=true:=ai.2 bV.out;clear ai)
   have cc:IntKind.i64.wrap ((m:Int)+2 - 2)=(m:Int):=by rw[IntKind.wrap_i64];omega
   have cp:m<=cg:=omz
   have cq:Below W.heap.size W w4:=blA
   go_wp2_with (first | (go_at_call 5;refine(b6 _ blA).mono ?_;rintro e I ⟨r,j,A,z,rfl,aV,a5,bT⟩;have oM:Below W.heap.size W I:=blA;obtain⟨y0,y1⟩:=vw I oM;have cd:bc<I.heap.size:=A82 bo oM.size;have cj:¬bc=I.heap.size:=omz;have b8:bc<I.heap.size+1:=omz;have ru:Hid (∀V,Below I.heap.size I V->∀b c,b<V.heap.size->c<V.heap.size->V.cell? ⟨b,0,none⟩=some (.int .i64 n.kind)->V.cell? ⟨b,1,none⟩=some (.int .i64 n.one.op)->V.cell? ⟨b,2,none⟩=some (.slice r n.one.args.length j)->V.cell? ⟨b,3,none⟩=some (.slice A n.kids.length z)->V.cell? ⟨b,4,none⟩=some (.slice (some ⟨c,0,none⟩) 1 1)->V.cell? ⟨b,5,none⟩=some (.slice none 0 0)->V.cell? ⟨c,0,none⟩=some (.int .i64 21)->V.cell? ⟨c,1,none⟩=some (.slice (some ⟨D,0,none⟩) 1 1)->Eb V (.slice (some ⟨b,0,none⟩) 1 1) [Fj n]):=(λV h b c N h2 g0 g1 g2 g3 g4 g5 g6 g7=>have hV:=oM.trans (h.mono oM.size);An1 (d:=D) N h2 (A82 bf hV.size) g0 g1 g2 g3 g4 g5 g6 g7 (qV V hV).1 (qV V hV).2.1 (qV V hV).2.2 (aV.below h) (a5.below h));clear aV a5) | (go_at_call 11;refine(A37 (yG _ _ (ru _ blA (I.heap.size+1+1) (I.heap.size+1) spz spz (by simp[go_sem]) (by simp[go_sem]) (by simp[go_sem]) (by simp[go_sem]) (by simp[go_sem]) (by simp[go_sem]) (by simp[go_sem]) (by simp[go_sem]))) (af _ blA)).mono ?_;rintro e w6 ⟨bt,rfl,ai,ca⟩;obtain rfl:bt=true:=ai.2 rfl;clear ai))
   exact E _ blA
  ·rintro a' w' ⟨τ,d,h,_⟩
   cases h
  ·exact zj0
end Go.Proofs.YtobbpffcggchmaaGreatDoor
