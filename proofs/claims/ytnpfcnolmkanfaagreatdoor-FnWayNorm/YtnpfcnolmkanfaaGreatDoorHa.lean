import Derived.Test.YtnpfcnolmkanfaaGreatDoorG5
namespace Go.Proofs.YtnpfcnolmkanfaaGreatDoor
open Tryz
open Stil
open Go.RowKit Go.Sort Go.BigFrame
variable {B N:Nat}{av cv kv nv u v v':Value}{k op:Int}{w':World}
theorem Aao:(prog.info? 40).map (λi=>(i.zero,i.size,i.bytes))=some (some (.agg #[.int .i64 0, .slice none 0 0]),2,32):=krz
theorem Aap:(prog.info? 46).map (λi=>(i.zero,i.size,i.bytes))=some (some (.agg #[.int .i64 0, .int .i64 0, .slice none 0 0, .slice none 0 0, .slice none 0 0, .slice none 0 0]),6,112):=krz
def Afl (e:Ending)(w w':World)(g Q N:Nat):Prop:=∃(a:Stil.Arm) (av nv cv kv:Value),e=.returned (.agg #[.int .i64 a.net.kind, .int .i64 a.net.one.op,av,nv,cv,kv])/\Ce (λb=>w.heap.size<=b) w' av a.net.one.args/\Dv (λb=>w.heap.size<=b) w' nv a.net.kids/\Dk (λb=>w.heap.size<=b) w' cv a.coils/\Es (λb=>w.heap.size<=b) w' kv a.kids/\Jd a/\F5 a<=N/\H5 w' g Q/\w.grownBy w' (some g)
def Ac1:Nat->Nat
 | 0=>1000
 | m+1=>3*Ac1 m+1000
def Amq:Nat->Nat
 | 0=>200
 | m+1=>3*Amq m+200
theorem A1a (m:Nat):1000<=Ac1 m:=by cases m<;>simp[Ac1]
theorem A09 (m:Nat):200<=Amq m:=by cases m<;>simp[Amq]
def Mc (w:World)(b:Nat)(k op:Int)(av nv cv kv:Value):Prop:=b<w.heap.size/\w.cell? ⟨b,0,none⟩=some (.int .i64 k)/\w.cell? ⟨b,1,none⟩=some (.int .i64 op)/\w.cell? ⟨b,2,none⟩=some av/\w.cell? ⟨b,3,none⟩=some nv/\w.cell? ⟨b,4,none⟩=some cv/\w.cell? ⟨b,5,none⟩=some kv/\w.frozen? ⟨b,0,none⟩=false/\w.frozen? ⟨b,1,none⟩=false/\w.frozen? ⟨b,2,none⟩=false/\w.frozen? ⟨b,3,none⟩=false/\w.frozen? ⟨b,4,none⟩=false/\w.frozen? ⟨b,5,none⟩=false
theorem abA {W:World}{b:Nat}(h:Mc W b k op av nv cv kv:=by refine⟨ltA,?_,?_,?_,?_,?_,?_,?_,?_,?_,?_,?_,?_⟩<;>first | (exact cfA;done) | (repeat (first | with_reducible assumption | with_reducible refine O0.trans ?_ | with_reducible refine Ll.trans ?_ | with_reducible refine(Iw ltA).trans ?_ | (simp[go_sem];done)))):Mc W b k op av nv cv kv:=h
theorem Mc.grownO {w:World}{b:Nat}{r:Option Nat}(h:Mc w b k op av nv cv kv)(hg:w.grownBy w' r)(hr:r≠some b):Mc w' b k op av nv cv kv:=by
 obtain⟨d,f⟩:=h;have e:w'.heap[b]?=w.heap[b]?:=hg.block b d (λx=>hr x.symm);have c:∀o,w'.cell? ⟨b,o,none⟩=w.cell? ⟨b,o,none⟩:=λo=>by unfold World.cell?;rw[e]
 have a:∀o,w'.frozen? ⟨b,o,none⟩=w.frozen? ⟨b,o,none⟩:=λo=>by unfold World.frozen?;rw[e]
 refine⟨A51 d hg.size,?_⟩;rw[c,c,c,c,c,c,a,a,a,a,a,a];exact f
theorem Aiv {w:World}{c:List Stil.Dev}(h:Ce (Off B v) w u c)(hg:w.grownBy w' v.ownBlock)(d:v'.ownBlock=v.ownBlock\/v'.ownBlock=some w.heap.size):Ce (Off B v') w' u c:=by
 have f:Ce (λb=>Off B v b/\Off B v' b) w u c:=h.mono λb e a=>⟨a,X3 d b e a⟩
 exact(f.keep (Ez (X4 (B:=B) hg) λb _ a=>a.1)).mono λb _ a=>a.2
theorem Aib {w:World}{ns:List Stil.Net}(h:Dv (Off B v) w u ns)(hg:w.grownBy w' v.ownBlock)(e:v'.ownBlock=v.ownBlock\/v'.ownBlock=some w.heap.size):Dv (Off B v') w' u ns:=by
 have d:Dv (λb=>Off B v b/\Off B v' b) w u ns:=h.mono λb c a=>⟨a,X3 e b c a⟩
 exact(d.keep (Ez (X4 (B:=B) hg) λb _ a=>a.1)).mono λb _ a=>a.2
theorem Axy {w:World}{es:List Stil.Elem}(h:Dk (Off B v) w u es)(hg:w.grownBy w' v.ownBlock)(e:v'.ownBlock=v.ownBlock\/v'.ownBlock=some w.heap.size):Dk (Off B v') w' u es:=by
 have d:Dk (λb=>Off B v b/\Off B v' b) w u es:=h.mono λb c a=>⟨a,X3 e b c a⟩
 exact(d.keep (Ez (X4 (B:=B) hg) λb _ a=>a.1)).mono λb _ a=>a.2
theorem Ws:L8 ⟨0,⟨0,[]⟩,[]⟩:=Gv dcz dcz (λ_ h=>yAi) spz
def Aa9 (w0 a:World)(B:Nat)(g Q k:Nat):Prop:=∃(n:Stil.Net) (av nv cv:Value) (b:List Stil.Elem) (d:List Value),
 Mc a w0.heap.size 0 0 (.slice none 0 0) (.slice none 0 0) (.slice none 0 0) (.slice none 0 0)/\Mc a B n.kind n.one.op av nv cv (.slice none 0 0)/\Ce (Off B cv) a av n.one.args/\Dv (Off B cv) a nv n.kids/\
 a.ownsRow (B+1) 40 2 cv b.length d/\RowOf 2 (Ls (Off B cv) a) d b/\L8 n/\H6 n<=130/\(∀c∈b,Wl c/\c.args.length<=3)/\b.length<=k/\H5 a g Q/\w0.grownBy a (some g)
theorem Mc.set {w:World}{b a o:Nat}(h:Mc w b k op av nv cv kv)(d:b≠a):Mc (w.setCell ⟨a,o,none⟩ v) b k op av nv cv kv:=by
 obtain⟨e,c⟩:=h;refine⟨by simpa using e,?_⟩;simp only[Fv d,Ll];exact c
theorem Mc.set5 {w:World}{b:Nat}(h:Mc w b k op av nv cv kv):Mc (w.setCell ⟨b,5,none⟩ v) b k op av nv cv v:=by
 obtain⟨i,c,j,g,d,e,f,a⟩:=h;refine⟨by simpa using i,?_⟩;rw[Ht dcz,Ht dcz,Ht dcz,Ht dcz,Ht dcz,Nl f];simp only[Ll];exact⟨c,j,g,d,e,by first | rfl | trivial,a⟩
theorem Mc.alloc {w:World}{b:Nat}(h:Mc w b k op av nv cv kv)(o:Obj):Mc (w.alloc o) b k op av nv cv kv:=h.grownO (grown_below (Aa w o) none) spz
theorem Mc.c4 {w:World}{b:Nat}(h:Mc w b k op av nv cv kv):b<w.heap.size/\w.cell? ⟨b,4,none⟩=some cv/\w.frozen? ⟨b,4,none⟩=false:=by
 obtain⟨d,g,p,n,i,c,m,j,e,o,l,a,f⟩:=h;exact⟨d,c,a⟩
theorem Mc.c5 {w:World}{b:Nat}(h:Mc w b k op av nv cv kv):b<w.heap.size/\w.cell? ⟨b,5,none⟩=some kv/\w.frozen? ⟨b,5,none⟩=false:=by
 obtain⟨d,g,p,n,i,m,c,j,e,o,l,f,a⟩:=h;exact⟨d,c,a⟩
theorem Ao9 {α:Type}(f:α->Nat)(N:Nat):∀l:List α,(∀x∈l,f x<=N)->(l.map f).sum<=l.length*N
 | [],_=>by simp
 | y::r,h=>by
  have a:=h y spz;have b:=Ao9 f N r (λx hx=>h x yCb);simp only[A6k,A7b,A53,A8k];omega
def Ao3 (w0 b:World)(B g Q k N:Nat):Prop:=∃(n:Stil.Net) (av nv cv kv:Value) (e:List Stil.Elem) (d:List Stil.Arm) (f:List Value),
 Mc b w0.heap.size 0 0 (.slice none 0 0) (.slice none 0 0) (.slice none 0 0) (.slice none 0 0)/\Mc b B n.kind n.one.op av nv cv kv/\Ce (Off B kv) b av n.one.args/\Dv (Off B kv) b nv n.kids/\Dk (Off B kv) b cv e/\
 b.ownsRow (B+1) 46 6 kv d.length f/\RowOf 6 (Ot (Off B kv) b) f d/\L8 n/\H6 n<=130/\(∀c∈e,Wl c/\c.args.length<=3)/\e.length<=2/\(∀a∈d,Jd a/\F5 a<=N)/\d.length=k/\H5 b g Q/\w0.grownBy b (some g)
theorem Ayr {n:Stil.Net}{cs:List Stil.Elem}{ks:List Stil.Arm}(h1:H6 n<=130)(h:∀c∈cs,Wl c/\c.args.length<=3)(d:∀a∈ks,Jd a/\F5 a<=N):F5 ⟨n,cs,ks⟩<=130+4*cs.length+ks.length+ks.length*N:=by
 rw[Fe];have e:Fq cs=cs.length+(cs.map N7).sum:=rfl;have a:=Ao9 N7 3 cs (λc g=>(h c g).2);have b:=Ao9 F5 N ks (λa f=>(d a f).2);omega
theorem Ajn {n:Stil.Net}{cs:List Stil.Elem}{ks:List Stil.Arm}(h1:L8 n)(f:∀c∈cs,Wl c/\c.args.length<=3)(b:∀a∈ks,Jd a/\F5 a<=N):Jd ⟨n,cs,ks⟩:=(Gy _ _ _).2 ⟨h1,λc e=>(f c e).1,λa d=>(b a d).1⟩
theorem Axi {p:Prop}(h:p):Hid p:=h
set_option maxHeartbeats 20000000 in
set_option maxRecDepth 100000 in
theorem Apa (m:Nat)(ih:∀(s:Nat),m=s+1->∀(d:Int) (root:Bool) (g P:Nat) (w:World),d=s->H5 w g P->P+Ac1 s<=100000000->Calls prog 44 #[.pointer (some ⟨g,0,none⟩), .int .i64 d, .bool root] w λe w'=>Afl e w w' g (P+Ac1 s) (Amq s))
  (d:Int) (root:Bool) (g P:Nat) (w:World) (hd:d=m) (hm:m<=100) (hr:H5 w g P) (hP:P+Ac1 m<=100000000):
  Calls prog 44 #[.pointer (some ⟨g,0,none⟩), .int .i64 d, .bool root] w λe w'=>Afl e w w' g (P+Ac1 m) (Amq m):=by
 subst hd;have hg:=Ug hr;have aY:Hid (∀(s:Nat),m=s+1->∀(d:Int) (root:Bool) (g P:Nat) (w:World),d=s->H5 w g P->P+Ac1 s<=100000000->Calls prog 44 #[.pointer (some ⟨g,0,none⟩), .int .i64 d, .bool root] w λe w'=>Afl e w w' g (P+Ac1 s) (Amq s)):=ih;clear ih;have bo:=A1a m;have br:=A09 m;obtain⟨ie,aX,kL,kK,kJ⟩:=info_parts Aao;obtain⟨ia,bj,gJ,gI,gG⟩:=info_parts Aap;go_enter func44,ntmps44;go_upto_region 2 with fail
 go_cut [16] (λc wq=>∃b:Bool,c=.bool b/\H5 wq g (P+1)/\w.grownBy wq (some g)/\Mc wq w.heap.size 0 0 (.slice none 0 0) (.slice none 0 0) (.slice none 0 0) (.slice none 0 0)/\Mc wq (w.heap.size+1) 0 0 (.slice none 0 0) (.slice none 0 0) (.slice none 0 0) (.slice none 0 0))
 case first=>
  cases root
  ·go_wp2_with ((go_at_call_of 23 (Value.int IntKind.i64 3);refine(Ew g _ _ _ raA omz omz omz).mono ?_;rintro e F ⟨x,rfl,au,aM,I,E⟩;have ah:w.heap.size<F.heap.size:=A51 ltA E.size;have ac:(w.heap.size+1)<F.heap.size:=A51 ltA E.size;obtain⟨V,p0,q1,p1,S,p2,U,p3,R,p4,T,p5,q6,p6,q7,p7,q8,p8,q9,p9,Q,O,L,K⟩:F.cell? ⟨w.heap.size,0,none⟩=some (.int .i64 0)/\F.frozen? ⟨w.heap.size,0,none⟩=false/\F.cell? ⟨w.heap.size,1,none⟩=some (.int .i64 0)/\F.frozen? ⟨w.heap.size,1,none⟩=false/\F.cell? ⟨w.heap.size,2,none⟩=some (.slice none 0 0)/\F.frozen? ⟨w.heap.size,2,none⟩=false/\F.cell? ⟨w.heap.size,3,none⟩=some (.slice none 0 0)/\F.frozen? ⟨w.heap.size,3,none⟩=false/\F.cell? ⟨w.heap.size,4,none⟩=some (.slice none 0 0)/\F.frozen? ⟨w.heap.size,4,none⟩=false/\F.cell? ⟨w.heap.size,5,none⟩=some (.slice none 0 0)/\F.frozen? ⟨w.heap.size,5,none⟩=false/\F.cell? ⟨(w.heap.size+1),0,none⟩=some (.int .i64 0)/\F.frozen? ⟨(w.heap.size+1),0,none⟩=false/\F.cell? ⟨(w.heap.size+1),1,none⟩=some (.int .i64 0)/\F.frozen? ⟨(w.heap.size+1),1,none⟩=false/\F.cell? ⟨(w.heap.size+1),2,none⟩=some (.slice none 0 0)/\F.frozen? ⟨(w.heap.size+1),2,none⟩=false/\F.cell? ⟨(w.heap.size+1),3,none⟩=some (.slice none 0 0)/\F.frozen? ⟨(w.heap.size+1),3,none⟩=false/\F.cell? ⟨(w.heap.size+1),4,none⟩=some (.slice none 0 0)/\F.frozen? ⟨(w.heap.size+1),4,none⟩=false/\F.cell? ⟨(w.heap.size+1),5,none⟩=some (.slice none 0 0)/\F.frozen? ⟨(w.heap.size+1),5,none⟩=false:=⟨gcA E,gfA E,gcA E,gfA E,gcA E,gfA E,gcA E,gfA E,gcA E,gfA E,gcA E,gfA E,gcA E,gfA E,gcA E,gfA E,gcA E,gfA E,gcA E,gfA E,gcA E,gfA E,gcA E,gfA E⟩))
   go_meet;exact⟨decide (0<x),rfl,rlA,glA,abA,abA⟩
  ·go_wp2
   go_meet;exact⟨true,rfl,rlA,glA,abA,abA⟩
 case rest=>
  obtain⟨b,rfl,I,aa,⟨ah,V,q1,S,U,R,T,p0,p1,p2,p3,p4,p5⟩,⟨ac,q6,q7,q8,q9,Q,L,p6,p7,p8,p9,O,K⟩⟩:=hcut;have dF:Ay0 2=130:=rfl;have bs:Arr 2=650:=rfl;go_upto_if 16 with fail
  go_cut [] (λwq=>Aa9 w wq (w.heap.size+1) g (P+651) 0)
  case first=>
   go_wp2_with ((go_at_call 75;refine(Avj 2 _ g _ _ omz rfl raA omz).mono ?_;rintro e C ⟨n1,av,nv,rfl,D,G,bf,bm,I,H⟩;obtain⟨a1,c1,rfl,-⟩:=id D;obtain⟨a2,c2,rfl,-⟩:=id G;have ah:w.heap.size<C.heap.size:=A51 ltA H.size;have ac:(w.heap.size+1)<C.heap.size:=A51 ltA H.size;obtain⟨V,p0,q1,p1,S,p2,U,p3,R,p4,T,p5,q6,p6,q7,p7,q8,p8,q9,p9,Q,O,L,K⟩:C.cell? ⟨w.heap.size,0,none⟩=some (.int .i64 0)/\C.frozen? ⟨w.heap.size,0,none⟩=false/\C.cell? ⟨w.heap.size,1,none⟩=some (.int .i64 0)/\C.frozen? ⟨w.heap.size,1,none⟩=false/\C.cell? ⟨w.heap.size,2,none⟩=some (.slice none 0 0)/\C.frozen? ⟨w.heap.size,2,none⟩=false/\C.cell? ⟨w.heap.size,3,none⟩=some (.slice none 0 0)/\C.frozen? ⟨w.heap.size,3,none⟩=false/\C.cell? ⟨w.heap.size,4,none⟩=some (.slice none 0 0)/\C.frozen? ⟨w.heap.size,4,none⟩=false/\C.cell? ⟨w.heap.size,5,none⟩=some (.slice none 0 0)/\C.frozen? ⟨w.heap.size,5,none⟩=false/\C.cell? ⟨(w.heap.size+1),0,none⟩=some (.int .i64 0)/\C.frozen? ⟨(w.heap.size+1),0,none⟩=false/\C.cell? ⟨(w.heap.size+1),1,none⟩=some (.int .i64 0)/\C.frozen? ⟨(w.heap.size+1),1,none⟩=false/\C.cell? ⟨(w.heap.size+1),2,none⟩=some (.slice none 0 0)/\C.frozen? ⟨(w.heap.size+1),2,none⟩=false/\C.cell? ⟨(w.heap.size+1),3,none⟩=some (.slice none 0 0)/\C.frozen? ⟨(w.heap.size+1),3,none⟩=false/\C.cell? ⟨(w.heap.size+1),4,none⟩=some (.slice none 0 0)/\C.frozen? ⟨(w.heap.size+1),4,none⟩=false/\C.cell? ⟨(w.heap.size+1),5,none⟩=some (.slice none 0 0)/\C.frozen? ⟨(w.heap.size+1),5,none⟩=false:=⟨gcA H,gfA H,gcA H,gfA H,gcA H,gfA H,gcA H,gfA H,gcA H,gfA H,gcA H,gfA H,gcA H,gfA H,gcA H,gfA H,gcA H,gfA H,gcA H,gfA H,gcA H,gfA H,gcA H,gfA H⟩))
   ·go_meet
    have aU:∀x,x<C.heap.size->wc.heap.size<=x->w.heap.size+1<x:=λx _ h=>by omega
    exact⟨n1,_,_,_,[],[],abA,(show Mc _ (w.heap.size+1) n1.kind n1.one.op (.slice a1 n1.one.args.length c1) (.slice a2 n1.kids.length c2) (.slice none 0 0) (.slice none 0 0) from abA),((D.mono aU).keep (P:=λx=>w.heap.size+1<x) kpA).mono (λx _ h=>⟨h,by simp[Value.ownBlock]⟩),((G.mono aU).keep (P:=λx=>w.heap.size+1<x) kpA).mono (λx _ h=>⟨h,by simp[Value.ownBlock]⟩),⟨rfl,Or.inl ⟨rfl,rfl⟩⟩,RowOf.nil _ _,bf,omz,λ_ h=>yAi,spz,rlA,glA⟩
   ·go_meet
    exact⟨⟨0,⟨0,[]⟩,[]⟩,_,_,_,[],[],abA,(show Mc _ (w.heap.size+1) 0 0 (.slice none 0 0) (.slice none 0 0) (.slice none 0 0) (.slice none 0 0) from abA),Qz _ _,I5 _ _,⟨rfl,Or.inl ⟨rfl,rfl⟩⟩,RowOf.nil _ _,Ws,by rw[Ee];simp,λ_ h=>yAi,spz,rlA,glA⟩
  case rest=>
   clear V q1 S U R T q6 q7 q8 q9 Q L p0 p1 p2 p3 p4 p5 p6 p7 p8 p9 O K I aa
   go_wp2_with (go_at_call 23;obtain⟨n,av,nv,cv,z,xs,af,ae,D,G,y,X,ab,cO,M,ai,I,aa⟩:=hcut;refine(Ew g _ _ _ I omz omz omz).mono ?_;rintro e w3 ⟨x,rfl,au,aM,bK,aJ⟩)
   obtain⟨x2,tH⟩:=A7i au;subst tH;have bb:x2<=2:=omz
   have a9:Aa9 w w3 (w.heap.size+1) g (P+652+40*(2 - x2)) (2 - x2):=by
    refine⟨n,av,nv,cv,z,xs,af.grownO aJ yAb,ae.grownO aJ yAb,?_,?_,Bl y aJ omz,?_,ab,cO,M,omz,Fg bK omz,Dx aa aJ⟩
    ·exact D.keep (Ac.of_grown aJ (λb q e=>by have:=q.1;simp only[A65] at e;omega))
    ·exact G.keep (Ac.of_grown aJ (λb q e=>by have:=q.1;simp only[A65] at e;omega))
    ·exact X.imp λ_ _ _ h=>h.keep (Ac.of_grown aJ (λb q e=>by have:=q.1;simp only[A65] at e;omega))
   clear af ae D G y X ab cO M ai I aa bK;go_loopw [8] (λi wr=>∃ag:Nat,ag<=2/\i=.int .i64 ag/\Aa9 w wr (w.heap.size+1) g (P+652+40*(2 - ag)) (2 - ag)) (λi _=>(intOf i).toNat)
   case atStart=>exact⟨x2,bb,rfl,a9⟩
   case round=>
    obtain⟨ag,hj,rfl,n,av,nv,cv,z,xs,af,ae,D,G,y,X,ab,cO,M,ai,I,aa⟩:=hrel;obtain⟨ah,V,q1,S,U,R,T,p0,p1,p2,p3,p4,p5⟩:=af;obtain⟨ac,q6,q7,q8,q9,Q,L,p6,p7,p8,p9,O,K⟩:=ae;obtain⟨a1,c1,rfl,-⟩:=id D;obtain⟨a2,c2,rfl,-⟩:=id G;obtain⟨Y,Z,al,-⟩:=Gx y;subst al;by_cases aE:0<ag
    ·go_upto_region 7 with fail
     rename_i aA;have aD:=Axi aA;clear aA
     go_region_law (first | (refine Eb rfl _ _ 44 rfl (w.heap.size+1+1) 40 ie (.agg #[.int .i64 0, .slice none 0 0]) 2 32 underlying44 aX kL kK kJ rfl dcz _ _ _ rfl (az.alloc _) _ _ _ [.int .i64 op, .slice a4 ds.length c4] rfl rfl yBb yFg yAe omz yBf ?_;intro v' w6 ao J aV;obtain⟨sF,rQ,aB,-⟩:=Gx ao;subst aB;have a8:Mc (l.alloc (.cells #[.int .i64 op, .slice a4 ds.length c4] 40)) w.heap.size 0 0 (.slice none 0 0) (.slice none 0 0) (.slice none 0 0) (.slice none 0 0):=abA;have a5:Mc (l.alloc (.cells #[.int .i64 op, .slice a4 ds.length c4] 40)) (w.heap.size+1) n.kind n.one.op (.slice a1 n.one.args.length c1) (.slice a2 n.kids.length c2) (.slice Y z.length Z) (.slice none 0 0):=abA;clear V q1 S U R T q6 q7 q8 q9 Q L p0 p1 p2 p3 p4 p5 p6 p7 p8 p9 O K;obtain⟨ah,V,q1,S,U,R,T,p0,p1,p2,p3,p4,p5⟩:=a8.grownO J (λe=>by have:=y.lt _ e;omega);obtain⟨ac,q6,q7,q8,q9,Q,L,p6,p7,p8,p9,O,K⟩:=a5.grownO J (λe=>by have:=y.lt _ e;omega)) | (go_simp;go_at_call 42;refine(Qy g _ _ raA omz).mono ?_;rintro e l ⟨op,v,ds,rfl,aK,hv,hs,hl,I,aO⟩;have t:wr.grownBy l (some g):=⟨aO.os,aO.tape,aO.output,aO.size,aO.block⟩;obtain⟨a4,c4,rfl,-⟩:=id hv;have az:=Bl y t omz;have ah:w.heap.size<l.heap.size:=A51 ltA t.size;have ac:(w.heap.size+1)<l.heap.size:=A51 ltA t.size;obtain⟨V,p0,q1,p1,S,p2,U,p3,R,p4,T,p5,q6,p6,q7,p7,q8,p8,q9,p9,Q,O,L,K⟩:l.cell? ⟨w.heap.size,0,none⟩=some (.int .i64 0)/\l.frozen? ⟨w.heap.size,0,none⟩=false/\l.cell? ⟨w.heap.size,1,none⟩=some (.int .i64 0)/\l.frozen? ⟨w.heap.size,1,none⟩=false/\l.cell? ⟨w.heap.size,2,none⟩=some (.slice none 0 0)/\l.frozen? ⟨w.heap.size,2,none⟩=false/\l.cell? ⟨w.heap.size,3,none⟩=some (.slice none 0 0)/\l.frozen? ⟨w.heap.size,3,none⟩=false/\l.cell? ⟨w.heap.size,4,none⟩=some (.slice none 0 0)/\l.frozen? ⟨w.heap.size,4,none⟩=false/\l.cell? ⟨w.heap.size,5,none⟩=some (.slice none 0 0)/\l.frozen? ⟨w.heap.size,5,none⟩=false/\l.cell? ⟨(w.heap.size+1),0,none⟩=some (.int .i64 n.kind)/\l.frozen? ⟨(w.heap.size+1),0,none⟩=false/\l.cell? ⟨(w.heap.size+1),1,none⟩=some (.int .i64 n.one.op)/\l.frozen? ⟨(w.heap.size+1),1,none⟩=false/\l.cell? ⟨(w.heap.size+1),2,none⟩=some (.slice a1 n.one.args.length c1)/\l.frozen? ⟨(w.heap.size+1),2,none⟩=false/\l.cell? ⟨(w.heap.size+1),3,none⟩=some (.slice a2 n.kids.length c2)/\l.frozen? ⟨(w.heap.size+1),3,none⟩=false/\l.cell? ⟨(w.heap.size+1),4,none⟩=some (.slice Y z.length Z)/\l.frozen? ⟨(w.heap.size+1),4,none⟩=false/\l.cell? ⟨(w.heap.size+1),5,none⟩=some (.slice none 0 0)/\l.frozen? ⟨(w.heap.size+1),5,none⟩=false:=⟨gcA t,gfA t,gcA t,gfA t,gcA t,gfA t,gcA t,gfA t,gcA t,gfA t,gcA t,gfA t,gcA t,gfA t,gcA t,gfA t,gcA t,gfA t,gcA t,gfA t,gcA t,gfA t,gcA t,gfA t⟩))
     all_goals have aA:=aD.out
     all_goals go_wp2
     all_goals
      have aj:Ac (Off (w.heap.size+1) (.slice Y z.length Z)) wr (l.alloc (.cells #[.int .i64 op, .slice a4 ds.length c4] 40)):=(Ac.of_grown t (λb q e=>by have:=q.1;simp only[A65] at e;omega)).trans (Ac.of_below (Aa _ _));have ar:∀b,b<l.heap.size->wr.drew.heap.size - 1<b->Off (w.heap.size+1) (.slice Y z.length Z) b:=λb _ q=>by
       have e:wr.drew.heap.size=wr.heap.size:=rfl;exact⟨omz,λe2=>by have h1:=(y.lt _ e2).2;omega⟩
      have lI:=Acj (X.imp λ_ _ _ h=>h.keep aj) (Ls.keep (w:=l) (e:=⟨op,ds⟩) ⟨_,rfl,(Eo hv).mono ar⟩ (Ac.of_below (Aa _ _))) rfl J aV;have el:(z++[(⟨op,ds⟩:Stil.Elem)]).length=z.length+1:=spz
      refine⟨⟨ag - 1,omz,by go_num,n,_,_, .slice sF (z.length+1) rQ,z++[⟨op,ds⟩],_,abA,abA,(Aiv (D.keep aj) J aV).keep (Ac.set yDi _),(Aib (G.keep aj) J aV).keep (Ac.set yDi _),?_,lI.imp (λ_ _ _ h=>h.keep (Ac.set yDi _)),ab,cO,?_,?_,?_,?_⟩,by simp[intOf];omega⟩
      ·rw[el];exact ownsRow_setCell_below ao (A69 _) _
      ·intro c hc
       rcases List.mem_append.1 hc with hc | hc
       ·exact M c hc
       ·simp at hc;subst hc;exact⟨⟨aK,hs,by show ds.length<=100000;omega⟩,hl⟩
      ·rw[el];omega
      ·exact Fg (Jp (Et (Cb I _) J (λk hk=>by have:=y.lt _ hk;omega)) omz _) omz
      ·exact Lt (A89 (A69 _)) (Jk (D5 (Dx aa t) _) J (λk hk=>by have:=y.lt _ hk;omega)) _
    ·obtain rfl:ag=0:=by omega
     go_upto_region 8 with fail
     go_cut [39] (λc wq=>∃b:Bool,c=.bool b/\(b=true->0<m)/\Aa9 w wq (w.heap.size+1) g (P+733) 2)
     case first=>
      cases m with
      | zero=>
       go_wp2
       go_meet;exact⟨false,rfl,λh=>yAi,n,_,_,_,z,xs,abA,abA,D,G,y,X,ab,cO,M,omz,Fg I omz,aa⟩
      | succ s=>
       go_wp2_with ((go_at_call_of 23 (Value.int IntKind.i64 3);refine(Ew g _ _ _ raA omz omz omz).mono ?_;rintro e j ⟨x,rfl,au,aM,I,f⟩;have ah:w.heap.size<j.heap.size:=A51 ltA f.size;have ac:(w.heap.size+1)<j.heap.size:=A51 ltA f.size;obtain⟨V,p0,q1,p1,S,p2,U,p3,R,p4,T,p5,q6,p6,q7,p7,q8,p8,q9,p9,Q,O,L,K⟩:j.cell? ⟨w.heap.size,0,none⟩=some (.int .i64 0)/\j.frozen? ⟨w.heap.size,0,none⟩=false/\j.cell? ⟨w.heap.size,1,none⟩=some (.int .i64 0)/\j.frozen? ⟨w.heap.size,1,none⟩=false/\j.cell? ⟨w.heap.size,2,none⟩=some (.slice none 0 0)/\j.frozen? ⟨w.heap.size,2,none⟩=false/\j.cell? ⟨w.heap.size,3,none⟩=some (.slice none 0 0)/\j.frozen? ⟨w.heap.size,3,none⟩=false/\j.cell? ⟨w.heap.size,4,none⟩=some (.slice none 0 0)/\j.frozen? ⟨w.heap.size,4,none⟩=false/\j.cell? ⟨w.heap.size,5,none⟩=some (.slice none 0 0)/\j.frozen? ⟨w.heap.size,5,none⟩=false/\j.cell? ⟨(w.heap.size+1),0,none⟩=some (.int .i64 n.kind)/\j.frozen? ⟨(w.heap.size+1),0,none⟩=false/\j.cell? ⟨(w.heap.size+1),1,none⟩=some (.int .i64 n.one.op)/\j.frozen? ⟨(w.heap.size+1),1,none⟩=false/\j.cell? ⟨(w.heap.size+1),2,none⟩=some (.slice a1 n.one.args.length c1)/\j.frozen? ⟨(w.heap.size+1),2,none⟩=false/\j.cell? ⟨(w.heap.size+1),3,none⟩=some (.slice a2 n.kids.length c2)/\j.frozen? ⟨(w.heap.size+1),3,none⟩=false/\j.cell? ⟨(w.heap.size+1),4,none⟩=some (.slice Y z.length Z)/\j.frozen? ⟨(w.heap.size+1),4,none⟩=false/\j.cell? ⟨(w.heap.size+1),5,none⟩=some (.slice none 0 0)/\j.frozen? ⟨(w.heap.size+1),5,none⟩=false:=⟨gcA f,gfA f,gcA f,gfA f,gcA f,gfA f,gcA f,gfA f,gcA f,gfA f,gcA f,gfA f,gcA f,gfA f,gcA f,gfA f,gcA f,gfA f,gcA f,gfA f,gcA f,gfA f,gcA f,gfA f⟩))
       go_meet;have ap:Ac (Off (w.heap.size+1) (.slice Y z.length Z)) wr j:=Ac.of_grown f (λb q e=>by have:=q.1;simp only[A65] at e;omega);exact⟨x==0,rfl,λ_=>Nat.succ_pos _,n,_,_,_,z,xs,abA,abA,D.keep ap,G.keep ap,Bl y f omz,X.imp λ_ _ _ h=>h.keep ap,ab,cO,M,omz,Fg I omz,Dx aa f⟩
     case rest=>
      clear D G y X ab cO M ai I aa V q1 S U R T q6 q7 q8 q9 Q L p0 p1 p2 p3 p4 p5 p6 p7 p8 p9 O K;obtain⟨b,rfl,aP,aN⟩:=hcut;go_upto_if 39 with fail
      go_cut [] (λwq=>Aa9 w wq (w.heap.size+1) g (P+733) 2\/∃k s:Nat,m=s+1/\1<=k/\k<=3/\Ao3 w wq (w.heap.size+1) g (P+740+k*Ac1 s) k (Amq s))
      case first=>
       cases b
       ·go_wp2
        go_meet;exact Or.inl aN
       ·obtain⟨s,rfl⟩:∃s,m=s+1:=⟨m - 1,by have:=aP rfl;omega⟩
        have ec:Ac1 (s+1)=3*Ac1 s+1000:=rfl;rw[ec] at hP;have IH:Hid (∀(d:Int) (root:Bool) (g P:Nat) (w:World),d=s->H5 w g P->P+Ac1 s<=100000000->Calls prog 44 #[.pointer (some ⟨g,0,none⟩), .int .i64 d, .bool root] w λe w'=>Afl e w w' g (P+Ac1 s) (Amq s)):=aY s rfl;clear aY ec aP;obtain⟨n,av,nv,cv,z,xs,af,ae,D,G,y,X,ab,cO,M,ai,I,aa⟩:=aN;obtain⟨ah,V,q1,S,U,R,T,p0,p1,p2,p3,p4,p5⟩:=af;obtain⟨ac,q6,q7,q8,q9,Q,L,p6,p7,p8,p9,O,K⟩:=ae
        go_wp2_with ((go_at_call_of 23 (Value.int IntKind.i64 3);refine(Ew g _ _ _ raA omz omz omz).mono ?_;rintro e j ⟨x,rfl,au,aM,I,f⟩;have ah:w.heap.size<j.heap.size:=A51 ltA f.size;have ac:(w.heap.size+1)<j.heap.size:=A51 ltA f.size;obtain⟨V,p0,q1,p1,S,p2,U,p3,R,p4,T,p5,q6,p6,q7,p7,q8,p8,q9,p9,Q,O,L,K⟩:j.cell? ⟨w.heap.size,0,none⟩=some (.int .i64 0)/\j.frozen? ⟨w.heap.size,0,none⟩=false/\j.cell? ⟨w.heap.size,1,none⟩=some (.int .i64 0)/\j.frozen? ⟨w.heap.size,1,none⟩=false/\j.cell? ⟨w.heap.size,2,none⟩=some (.slice none 0 0)/\j.frozen? ⟨w.heap.size,2,none⟩=false/\j.cell? ⟨w.heap.size,3,none⟩=some (.slice none 0 0)/\j.frozen? ⟨w.heap.size,3,none⟩=false/\j.cell? ⟨w.heap.size,4,none⟩=some (.slice none 0 0)/\j.frozen? ⟨w.heap.size,4,none⟩=false/\j.cell? ⟨w.heap.size,5,none⟩=some (.slice none 0 0)/\j.frozen? ⟨w.heap.size,5,none⟩=false/\j.cell? ⟨(w.heap.size+1),0,none⟩=some (.int .i64 n.kind)/\j.frozen? ⟨(w.heap.size+1),0,none⟩=false/\j.cell? ⟨(w.heap.size+1),1,none⟩=some (.int .i64 n.one.op)/\j.frozen? ⟨(w.heap.size+1),1,none⟩=false/\j.cell? ⟨(w.heap.size+1),2,none⟩=some (av)/\j.frozen? ⟨(w.heap.size+1),2,none⟩=false/\j.cell? ⟨(w.heap.size+1),3,none⟩=some (nv)/\j.frozen? ⟨(w.heap.size+1),3,none⟩=false/\j.cell? ⟨(w.heap.size+1),4,none⟩=some (cv)/\j.frozen? ⟨(w.heap.size+1),4,none⟩=false/\j.cell? ⟨(w.heap.size+1),5,none⟩=some (.slice none 0 0)/\j.frozen? ⟨(w.heap.size+1),5,none⟩=false:=⟨gcA f,gfA f,gcA f,gfA f,gcA f,gfA f,gcA f,gfA f,gcA f,gfA f,gcA f,gfA f,gcA f,gfA f,gcA f,gfA f,gcA f,gfA f,gcA f,gfA f,gcA f,gfA f,gcA f,gfA f⟩))
        obtain⟨x2,tH⟩:=A7i au;subst tH;have ap:Ac (Off (w.heap.size+1) cv) wc j:=Ac.of_grown f (λb q e=>by have:=q.1;simp only[A65] at e;omega);have aQ:=Bl y f omz;have ay:Dk (λb=>w.heap.size+1<b) j cv z:=Ja aQ (X.imp λ_ _ _ h=>(h.keep ap).mono λb _ q=>q.1) (λb q=>by have:=(aQ.lt _ q).1;omega);have aI:∀b,b<j.heap.size->w.heap.size+1<b->Off (w.heap.size+1) (.slice none 0 0) b:=λb _ q=>⟨q,by simp[Value.ownBlock]⟩
        have aT:Ao3 w j (w.heap.size+1) g (P+740+0*Ac1 s) 0 (Amq s):=⟨n,_,_,_,_,z,[],[],abA,abA,((D.keep ap).mono λb _ q=>q.1).mono aI,((G.keep ap).mono λb _ q=>q.1).mono aI,ay.mono aI,⟨rfl,Or.inl ⟨rfl,rfl⟩⟩,RowOf.nil _ _,ab,cO,M,ai,λ_ h=>yAi,rfl,Fg I omz,Dx aa f⟩
        go_loopw [9] (λi wr=>∃ag k:Nat,k+ag=1+x2/\i=.int .i64 ag/\Ao3 w wr (w.heap.size+1) g (P+740+k*Ac1 s) k (Amq s)) (λi _=>(intOf i).toNat)
        case atStart=>exact⟨1+x2,0,omz,by go_num,aT⟩
        case round=>
         clear aI aT ay aQ ap D G y X ab cO M ai I aa V q1 S U R T q6 q7 q8 q9 Q L p0 p1 p2 p3 p4 p5 p6 p7 p8 p9 O K;obtain⟨ag,k,bq,rfl,n,av,nv,cv,kv,z,ks,ys,af,ae,D,G,al,y,X,ab,cO,M,ai,aw,aL,I,aa⟩:=hrel;subst aL;by_cases aE:0<ag
         ·have aW:(ks.length+1)*Ac1 s<=3*Ac1 s:=A7j _ omz
          rw[A8k] at aW;obtain⟨a0,c0,aS,-⟩:=Gx y;subst aS;have aR:Hid (Mc wr w.heap.size 0 0 (.slice none 0 0) (.slice none 0 0) (.slice none 0 0) (.slice none 0 0)):=af;have aF:Hid (Mc wr (w.heap.size+1) n.kind n.one.op av nv cv (.slice a0 ks.length c0)):=ae;obtain⟨ac,L,K⟩:=ae.c5;have ah:=af.1;have iY:Hid (Ce (Off (w.heap.size+1) (.slice a0 ks.length c0)) wr av n.one.args):=D;have ak:Hid (Dv (Off (w.heap.size+1) (.slice a0 ks.length c0)) wr nv n.kids):=G;have oM:Hid (Dk (Off (w.heap.size+1) (.slice a0 ks.length c0)) wr cv z):=al;have jQ:Hid (∀a∈ks,Jd a/\F5 a<=Amq s):=aw;have jv:Hid (∀c∈z,Wl c/\c.args.length<=3):=M;have bh:Hid (RowOf 6 (Ot (Off (w.heap.size+1) (.slice a0 ks.length c0)) wr) ys ks):=X;clear af ae D G al aw M X;go_upto_region 12 with fail
          rename_i aA;have aD:=Axi aA;clear aA
          go_region_law (first | (refine Eb rfl _ _ 23 rfl (w.heap.size+1+1) 46 ia (.agg #[.int .i64 0, .int .i64 0, .slice none 0 0, .slice none 0 0, .slice none 0 0, .slice none 0 0]) 6 112 underlying23 bj gJ gI gG rfl dcz _ _ _ rfl (az.alloc _) _ _ _ [.int .i64 A.net.kind, .int .i64 A.net.one.op, .slice e1 A.net.one.args.length f1, .slice e2 A.net.kids.length f2, .slice e3 A.coils.length f3, .slice e4 A.kids.length f4] rfl rfl yBb (by intro u hu;simp at hu;rcases hu with rfl | rfl | rfl | rfl | rfl | rfl<;>rfl) yAe omz yBf ?_;intro v' w6 ao J aV;obtain⟨sF,rQ,aB,-⟩:=Gx ao;subst aB;have bI:Hid (Mc w6 w.heap.size 0 0 (.slice none 0 0) (.slice none 0 0) (.slice none 0 0) (.slice none 0 0)):=(wF.alloc _).grownO J (λe=>by have:=y.lt _ e;omega);have aG:Hid (Mc w6 (w.heap.size+1) n.kind n.one.op av nv cv (.slice a0 ks.length c0)):=(iW.alloc _).grownO J (λe=>by have:=y.lt _ e;omega);clear L K;obtain⟨ac,L,K⟩:=aG.c5) | (go_simp;go_at_call 44;refine(IH _ _ g _ _ (by first | omega | (rw[IntKind.wrap_i64];omega)) raA omz).mono ?_;rintro e l ⟨A,u1,u2,u3,u4,rfl,h1,h2,h3,h4,ba,bc,I,aO⟩;have t:wr.grownBy l (some g):=⟨aO.os,aO.tape,aO.output,aO.size,aO.block⟩;have H1:Hid (Ce (λb=>wr.drew.heap.size<=b) l u1 A.net.one.args):=h1;have H2:Hid (Dv (λb=>wr.drew.heap.size<=b) l u2 A.net.kids):=h2;have H3:Hid (Dk (λb=>wr.drew.heap.size<=b) l u3 A.coils):=h3;have H4:Hid (Es (λb=>wr.drew.heap.size<=b) l u4 A.kids):=h4;obtain⟨e1,f1,rfl,-⟩:=h1;obtain⟨e2,f2,rfl,-⟩:=h2;obtain⟨e3,f3,rfl,-⟩:=h3;obtain⟨e4,f4,rfl,-⟩:=h4;have az:=Bl y t omz;have wF:Hid (Mc l w.heap.size 0 0 (.slice none 0 0) (.slice none 0 0) (.slice none 0 0) (.slice none 0 0)):=aR.grownO t yAb;have iW:Hid (Mc l (w.heap.size+1) n.kind n.one.op av nv cv (.slice a0 ks.length c0)):=aF.grownO t yAb;clear L K;obtain⟨ac,L,K⟩:=iW.c5))
          all_goals have aA:=aD.out
          all_goals go_wp2
          all_goals
           have aj:Ac (Off (w.heap.size+1) (.slice a0 ks.length c0)) wr (l.alloc (.cells #[.int .i64 A.net.kind, .int .i64 A.net.one.op, .slice e1 A.net.one.args.length f1, .slice e2 A.net.kids.length f2, .slice e3 A.coils.length f3, .slice e4 A.kids.length f4] 46)):=(Ac.of_grown t (λb q e=>by have:=q.1;simp only[A65] at e;omega)).trans (Ac.of_below (Aa _ _));have ar:∀b,b<l.heap.size->wr.drew.heap.size<=b->Off (w.heap.size+1) (.slice a0 ks.length c0) b:=λb _ q=>by
            have e:wr.drew.heap.size=wr.heap.size:=rfl;have qg:=aF.1;exact⟨omz,λe2=>by have h1:=(y.lt _ e2).2;omega⟩
           have lI:=Afd (bh.imp λ_ _ _ h=>h.keep aj) (Ot.keep (w:=l) (n:=A) ⟨_,_,_,_,rfl,H1.mono ar,H2.mono ar,H3.mono ar,H4.mono ar⟩ (Ac.of_below (Aa _ _))) rfl J aV;have el:(ks++[A]).length=ks.length+1:=spz
           refine⟨⟨ag - 1,ks.length+1,omz,by go_num,n,_,_,_, .slice sF (ks.length+1) rQ,z,ks++[A],_,bI.set omz,aG.set5,(Aiv (iY.keep aj) J aV).keep (Ac.set yDi _),(Aib (ak.keep aj) J aV).keep (Ac.set yDi _),(Axy (oM.keep aj) J aV).keep (Ac.set yDi _),?_,lI.imp (λ_ _ _ h=>h.keep (Ac.set yDi _)),ab,cO,jv.out,ai,?_,el,?_,?_⟩,by simp[intOf];omega⟩
           ·rw[el];exact ownsRow_setCell_below ao (A69 _) _
           ·intro c hc
            rcases List.mem_append.1 hc with hc | hc
            ·exact jQ c hc
            ·simp at hc;subst hc;exact⟨ba,bc⟩
           ·exact Fg (Jp (Et (Cb I _) J (λk hk=>by have:=y.lt _ hk;omega)) omz _) (by rw[A8k];omega)
           ·exact Lt (A89 (A69 _)) (Jk (D5 (Dx aa t) _) J (λk hk=>by have:=y.lt _ hk;omega)) _
         ·have bg:=af
          have a6:=ae
          go_wp2
          go_meet;exact Or.inr ⟨ks.length,s,rfl,omz,omz,n,_,_,_,_,z,ks,ys,bg,a6,D,G,al,y,X,ab,cO,M,ai,aw,rfl,I,aa⟩
      case rest=>
       clear aN aP;rcases hcut with hcut | hcut
       ·obtain⟨n,av,nv,cv,z,xs,af,ae,D,G,y,X,ab,cO,M,ai,I,aa⟩:=hcut
        obtain⟨ah,V,q1,S,U,R,T,p0,p1,p2,p3,p4,p5⟩:=af;obtain⟨ac,q6,q7,q8,q9,Q,L,p6,p7,p8,p9,O,K⟩:=ae;obtain⟨a1,c1,rfl,-⟩:=id D;obtain⟨a2,c2,rfl,-⟩:=id G;obtain⟨Y,Z,al,-⟩:=Gx y;subst al;by_cases a7:z.length=0
        ·obtain rfl:z=[]:=List.length_eq_zero_iff.1 a7
         have au:xs=[]:=by have:=X.1;simpa using this
         subst au;have aR:Hid (Mc wc w.heap.size 0 0 (.slice none 0 0) (.slice none 0 0) (.slice none 0 0) (.slice none 0 0)):=⟨ah,V,q1,S,U,R,T,p0,p1,p2,p3,p4,p5⟩
         have aF:Hid (Mc wc (w.heap.size+1) n.kind n.one.op (.slice a1 n.one.args.length c1) (.slice a2 n.kids.length c2) (.slice Y 0 Z) (.slice none 0 0)):=⟨ac,q6,q7,q8,q9,Q,L,p6,p7,p8,p9,O,K⟩
         have iY:Hid (Ce (Off (w.heap.size+1) (.slice Y 0 Z)) wc (.slice a1 n.one.args.length c1) n.one.args):=D;have ak:Hid (Dv (Off (w.heap.size+1) (.slice Y 0 Z)) wc (.slice a2 n.kids.length c2) n.kids):=G;have ax:wc.ownsRow (w.heap.size+1+1) 40 2 (.slice Y 0 Z) 0 []:=y;clear D G X y M V q1 S U R T p0 p1 p2 p3 p4 p5 q6 q7 q8 q9 p6 p7 p8 p9;go_upto_region 14 with fail
         rename_i aA;have aD:=Axi aA;clear aA
         go_region_law (first | (refine Eb rfl _ _ 44 rfl (w.heap.size+1+1) 40 ie (.agg #[.int .i64 0, .slice none 0 0]) 2 32 underlying44 aX kL kK kJ rfl dcz _ _ _ rfl (az.alloc _) _ _ _ [.int .i64 op, .slice a4 ds.length c4] rfl rfl yBb yFg yAe omz yBf ?_;intro v' w6 ao J aV;obtain⟨sF,rQ,aB,-⟩:=Gx ao;subst aB;have bI:Hid (Mc w6 w.heap.size 0 0 (.slice none 0 0) (.slice none 0 0) (.slice none 0 0) (.slice none 0 0)):=(wF.alloc _).grownO J (λe=>by have:=ax.lt _ e;omega);have aG:Hid (Mc w6 (w.heap.size+1) n.kind n.one.op (.slice a1 n.one.args.length c1) (.slice a2 n.kids.length c2) (.slice Y 0 Z) (.slice none 0 0)):=(iW.alloc _).grownO J (λe=>by have:=ax.lt _ e;omega);clear Q O;obtain⟨ac,Q,O⟩:=aG.c4) | (go_simp;go_at_call 42;refine(Qy g _ _ raA omz).mono ?_;rintro e l ⟨op,v,ds,rfl,aK,hv,hs,hl,I,aO⟩;have t:wc.grownBy l (some g):=⟨aO.os,aO.tape,aO.output,aO.size,aO.block⟩;obtain⟨a4,c4,rfl,-⟩:=id hv;have az:=Bl ax t omz;have wF:Hid (Mc l w.heap.size 0 0 (.slice none 0 0) (.slice none 0 0) (.slice none 0 0) (.slice none 0 0)):=aR.grownO t yAb;have iW:Hid (Mc l (w.heap.size+1) n.kind n.one.op (.slice a1 n.one.args.length c1) (.slice a2 n.kids.length c2) (.slice Y 0 Z) (.slice none 0 0)):=aF.grownO t yAb;clear Q O;obtain⟨ac,Q,O⟩:=iW.c4))
         all_goals
          clear Q O L K;obtain⟨ac,q6,q7,q8,q9,Q,L,p6,p7,p8,p9,O,K⟩:=aG.out;obtain⟨ah,V,q1,S,U,R,T,p0,p1,p2,p3,p4,p5⟩:=bI.out
         all_goals have aA:=aD.out
         all_goals go_wp2
         all_goals
          have aj:Ac (Off (w.heap.size+1) (.slice Y 0 Z)) wc (l.alloc (.cells #[.int .i64 op, .slice a4 ds.length c4] 40)):=(Ac.of_grown t (λb q e=>by have:=q.1;simp only[A65] at e;omega)).trans (Ac.of_below (Aa _ _));have ar:∀b,b<l.heap.size->wc.drew.heap.size - 1<b->Off (w.heap.size+1) (.slice Y 0 Z) b:=λb _ q=>by
           have e:wc.drew.heap.size=wc.heap.size:=rfl;have qg:=aF.1;exact⟨omz,λe2=>by have h1:=(ax.lt _ e2).2;omega⟩
          have lI:=Acj (RowOf.nil 2 (Ls (Off (w.heap.size+1) (.slice Y 0 Z)) _)) (Ls.keep (w:=l) (e:=⟨op,ds⟩) ⟨_,rfl,(Eo hv).mono ar⟩ (Ac.of_below (Aa _ _))) rfl J aV;have an:∀b,b<w6.heap.size->Off (w.heap.size+1) (.slice sF 1 rQ) b->w.heap.size<b/\b≠w.heap.size+1:=λb _ q=>by have:=q.1;omega
          have ay:Dk (λb=>w.heap.size<b/\b≠w.heap.size+1) w6 (.slice sF 1 rQ) [⟨op,ds⟩]:=Ja (es:=[⟨op,ds⟩]) ao (lI.imp λ_ _ _ h=>h.mono an) (λb q=>by have:=(ao.lt _ q).1;omega);have uq:=(Aiv (iY.keep aj) J aV).mono an;have ry:=(Aib (ak.keep aj) J aV).mono an;have aE:∀(W:World) (b:Nat),b<W.heap.size->w.heap.size<b/\b≠w.heap.size+1->w.heap.size<=b:=λ_ b _ q=>by omega
          have xY:∀c∈[(⟨op,ds⟩:Stil.Elem)],Wl c/\c.args.length<=3:=by
           intro c hc;simp at hc;subst hc;exact⟨⟨aK,hs,by show ds.length<=100000;omega⟩,hl⟩
          have aH:=Ayr (ks:=[]) (N:=0) cO xY (λ_ h=>yAi);refine bodyPost_ret (by simp[results,results44,go_sem,V,q1,S,U,R,T];rfl) rfl ?_;refine⟨⟨n,[⟨op,ds⟩],[]⟩,_,_,_,_,rfl,Ce.mono (uq.keep kpA) (aE _),Dv.mono (ry.keep kpA) (aE _),Dk.mono (ay.keep kpA) (aE _),Q7 _ _,Ajn (N:=0) ab xY (λ_ h=>yAi),by simp at aH;omega,?_,?_⟩
          ·have h6:=Et (Cb I (.cells #[.int .i64 op, .slice a4 ds.length c4] 40)) J (λk hk=>by have:=ax.lt _ hk;omega)
           exact rlA
          ·have h6:w.grownBy w6 (some g):=Jk (D5 (Dx aa t) _) J (λk hk=>by have:=ax.lt _ hk;omega)
           exact glA
        ·have uk:((z.length:Int)==0)=false:=by rw[A64];omega
         go_wp2
         have ay:Dk (λb=>w.heap.size<b) wc (.slice Y z.length Z) z:=Ja y (X.imp λ_ _ _ h=>h.mono λb _ q=>by have:=q.1;omega) (λb q=>by have:=(y.lt _ q).1;omega);have an:∀b,b<wc.heap.size->Off (w.heap.size+1) (.slice Y z.length Z) b->w.heap.size<b:=λb _ q=>by have:=q.1;omega
         have aH:=Ayr (ks:=[]) (N:=0) cO M (λ_ h=>yAi);refine bodyPost_ret (by simp[results,results44,go_sem,V,q1,S,U,R,T];rfl) rfl ?_;exact⟨⟨n,z,[]⟩,_,_,_,_,rfl,Ce.mono ((D.mono an).keep kpA) Abs,Dv.mono ((G.mono an).keep kpA) Abs,Dk.mono (ay.keep kpA) Abs,Q7 _ _,Ajn (N:=0) ab M (λ_ h=>yAi),by simp at aH;omega,rlA,glA⟩
       ·obtain⟨k,s,rfl,bp,aZ,n,av,nv,cv,kv,z,ks,ys,af,ae,D,G,al,y,X,ab,cO,M,ai,aw,aL,I,aa⟩:=hcut
        obtain⟨ah,V,q1,S,U,R,T,p0,p1,p2,p3,p4,p5⟩:=af;obtain⟨ac,q6,q7,q8,q9,Q,L,p6,p7,p8,p9,O,K⟩:=ae;subst aL;have aW:ks.length*Ac1 s<=3*Ac1 s:=A7j _ aZ;have bn:ks.length*Amq s<=3*Amq s:=A7j _ aZ;have ec:Ac1 (s+1)=3*Ac1 s+1000:=rfl;have en:Amq (s+1)=3*Amq s+200:=rfl;have bk:((ks.length:Int)==0)=false:=by rw[A64];omega
        obtain⟨a1,c1,rfl,-⟩:=id D;obtain⟨a2,c2,rfl,-⟩:=id G;obtain⟨Y,Z,rfl,-⟩:=id al;obtain⟨a0,c0,aS,-⟩:=Gx y;subst aS;cases uk:((z.length:Int)==0);all_goals go_wp2
        all_goals
         have bi:Es (λb=>w.heap.size<b) wc (.slice a0 ks.length c0) ks:=Fb y (X.imp λ_ _ _ h=>h.mono λb _ q=>by have:=q.1;omega) (λb q=>by have:=(y.lt _ q).1;omega);have an:∀b,b<wc.heap.size->Off (w.heap.size+1) (.slice a0 ks.length c0) b->w.heap.size<b:=λb _ q=>by have:=q.1;omega
         have aH:=Ayr cO M aw;refine bodyPost_ret (by simp[results,results44,go_sem,V,q1,S,U,R,T];rfl) rfl ?_;exact⟨⟨n,z,ks⟩,_,_,_,_,rfl,Ce.mono ((D.mono an).keep kpA) Abs,Dv.mono ((G.mono an).keep kpA) Abs,Dk.mono ((al.mono an).keep kpA) Abs,Es.mono (bi.keep kpA) Abs,Ajn ab M aw,omz,rlA,glA⟩
theorem Avl:∀(m:Nat) (d:Int) (root:Bool) (g P:Nat) (w:World),m<=100->d=m->H5 w g P->P+Ac1 m<=100000000->Calls prog 44 #[.pointer (some ⟨g,0,none⟩), .int .i64 d, .bool root] w λe w'=>Afl e w w' g (P+Ac1 m) (Amq m)
 | 0,d,root,g,P,w,f,hd,b,c=>Apa 0 (λa h=>absurd h omz) d root g P w hd f b c
 | m+1,d,root,g,P,w,f,hd,b,c=>Apa (m+1) (λa h q o j i w' n l r=>by
   have e:a=m:=omz
   subst e
   exact Avl a q o j i w' omz n l r) d root g P w hd f b c
end Go.Proofs.YtnpfcnolmkanfaaGreatDoor
