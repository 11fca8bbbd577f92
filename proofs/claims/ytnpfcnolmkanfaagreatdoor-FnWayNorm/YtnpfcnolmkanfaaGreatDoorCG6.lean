import Derived.Test.YtnpfcnolmkanfaaGreatDoorCI1
import Derived.Test.YtnpfcnolmkanfaaGreatDoorCG4
namespace Go.Proofs.YtnpfcnolmkanfaaGreatDoor
open Tryz
open Stil
open Go.RowKit Go.Sort Go.BigFrame Go.Conc Go.Co
variable {Low c : Nat}
def bl (vs:List Value):List Nat:=vs.filterMap Value.ownBlock
theorem Al5 (a b:List Value):bl (a++b)=bl a++bl b:=List.filterMap_append
theorem Ahm {a b:List Value}(h:a.Sublist b):(bl a).Sublist (bl b):=h.filterMap _
def MIs (w₀:World)(S:List Value)(ms:List MI)(is:List Stil.Tq):Prop:=ms.map MI.inst=is/\(∀x∈ms,EOk w₀ 0 x.e)/\(bl (ms.map (·.e.av))).Sublist (bl S)
section
variable {w₀ : World}{S S' : List Value}{ms ms' : List MI}{is is' : List Stil.Tq}
theorem MIs.append (h:MIs w₀ S ms is)(a:MIs w₀ S' ms' is'):MIs w₀ (S++S') (ms++ms') (is++is'):=by
 refine⟨by rw[A6g,h.1,a.1],λx b=>(List.mem_append.1 b).elim (h.2.1 x) (a.2.1 x),?_⟩;rw[A6g,Al5,Al5];exact h.2.2.append a.2.2
theorem MIs.sub (h:MIs w₀ S ms is)(a:(bl S).Sublist (bl S')):MIs w₀ S' ms is:=⟨h.1,h.2.1,h.2.2.trans a⟩
theorem MIs.nil:MIs w₀ [] [] []:=⟨rfl,spz,A7m _⟩
theorem MIs.zero (k:Int):MIs w₀ [] [mi0 k] [Tz k]:=⟨rfl,λx a=>by rw[List.mem_singleton.1 a];exact World.ownsRow_nil _ _ _ _,A7m _⟩
theorem MIs.snoc (h:MIs w₀ S ms is)(k:Int):MIs w₀ S (ms++[mi0 k]) (is++[Tz k]):=(h.append (MIs.zero k)).sub (by rw[A8w];exact A7m _)
theorem MIs.one (k:Int)(e:D8)(h:EOk w₀ 0 e):MIs w₀ [e.av] [⟨k,e⟩] [⟨k,e.elem⟩]:=⟨rfl,λx a=>by rw[List.mem_singleton.1 a];exact h,A7m _⟩
end
variable {k:Int}{w₀:World}
def Aet:Stil.Net->Prop
 | ⟨k,_,kids⟩=>(1<=k/\k<=4)/\(k≠1->kids≠[])/\∀p∈kids.map Aet,p
theorem Apw (k:Int)(e:Stil.Elem)(kids:List Stil.Net):Aet ⟨k,e,kids⟩↔(1<=k/\k<=4)/\(k≠1->kids≠[])/\∀x∈kids,Aet x:=by rw[Aet,Stil.all_map]
theorem A2h {t:Aq}{vs:List MI}(d:NOk Low w₀ t)(h:t.kind≠1->MIs w₀ t.vals vs (Fh t.net)):MIs w₀ t.vals (Adm k t vs) (Oh k t.net):=by
 have b:t.net.kind=t.kind:=by rw[Aq.net_eq]
 unfold Adm;by_cases a:t.kind=1
 ·rw[if_pos a,Ab7 _ _ (b.trans a),Aq.net_eq]
  refine(MIs.one (w₀:=w₀) k ⟨t.op,t.ds,t.av⟩ ((Jb _ _ _).1 d.1).1).sub ?_;rw[Aq.vals_eq];exact Ahm (List.Sublist.cons_cons _ (List.nil_sublist _))
 ·rw[if_neg a,Yv _ _ (λe=>a (b.symm.trans e))]
  exact(h a).snoc _
theorem Ahx {f:Aq->List MI}:∀{a:List Aq},(∀t∈a,NOk Low w₀ t)->(∀t∈a,t.kind≠1->MIs w₀ t.vals (f t) (Fh t.net))->MIs w₀ (Fp a) (a.map λt=>Adm k t (f t)).flatten ((a.map Aq.net).map (Oh k)).flatten
 | [],_,_=>MIs.nil
 | t::a,b,d=>by
  rw[A6k,A7f,A6k,A6k,A7f];exact(A2h (b t spz) (d t spz)).append (Ahx (λx hx=>b x yCb) λx hx=>d x yCb)
theorem Ab8 (a:List Aq)(g:Aq->List MI):((a.map g).flatten).map MI.val=(a.map λt=>(g t).map MI.val).flatten:=by rw[List.map_flatten,A8c];rfl
theorem Axj {w:World}{O:Nat->Prop}(h:Held Low w₀ O w)(d:Nat):Held Low w₀ O {w with drawn:=d}:=⟨h.still,h.low,h.up,h.os,h.out⟩
theorem A0s {w w':World}{O O':Nat->Prop}(h:Ext Low O O' w w')(d:Nat):Ext Low O O' w {w' with drawn:=d}:=⟨h.own,h.still,h.mine,h.size⟩
set_option maxRecDepth 100000 in
set_option maxHeartbeats 4000000 in
theorem Ayn (w₀:World)(n:Aq):Aet n.net->Am n.net<=1000000->NOk Low w₀ n->∃N,MIs w₀ n.vals N (Fh n.net)/\Afk Low c w₀ n N:=by
 induction n using X7 with
 | h k op q av kv kids ih=>
  intro V J R;have I:=Aq.vals_eq ⟨k,op,q,av,kv,kids⟩;rw[Aq.net_eq] at V J ⊢;dsimp only at V J I ⊢;obtain⟨⟨aN,aK⟩,ak,Y⟩:=(Apw _ _ _).1 V;rw[Ep] at J;simp only at J;have ag:∀x∈kids,Am x.net<=1000000:=λx hx=>by have:Am x.net<=Stil.sizes (kids.map Aq.net):=Ed Am _ x.net (A7z hx);omega
  have ai:kids.length<=999999:=by have:=Ku (kids.map Aq.net);rw[A6i] at this;omega
  replace Y:∀x∈kids,Aet x.net:=λx hx=>Y _ (A7z hx)
  obtain⟨B,C,aC⟩:=R.devs;obtain⟨p1,j,aB,af,H,X⟩:=R.kids;have aa:=((Jb _ _ _).1 R.1).1;dsimp only at aC aB af aa H X;subst aC aB;have ar:=resultsC_none (P:=prog) (fn:=Tryz.f63) rfl;by_cases h1:k=1
  ·subst h1
   refine⟨[⟨1,⟨op,q, .slice B q.length C⟩⟩],?_,λrest O w hF=>?_⟩
   ·rw[Zd,I]
    exact(MIs.one (w₀:=w₀) 1 ⟨op,q, .slice B q.length C⟩ aa).sub (Ahm (List.Sublist.cons_cons _ (List.nil_sublist _)))
   clear I ag ai Y V J R ih H X aa ak af;rw[A6k,A66,MI.val,A6s,A6t];dsimp only;refine Hu func63 rrz rfl ?_;simp only[ntmps63,A55,A53,A54,Nat.reduceAdd,Nat.reduceSub,A6v,A6w,A61,A6y,A6t,A6s];refine Jz (Bd _ _ _) ?_
   (refine Fa (Bd _ _ _) ?_;simp only[A55,A53,A54,A6b,List.range,List.range.loop])
   refine kB hF #[.int .i64 1, .int .i64 op, .slice B q.length C, .slice p1 kids.length j] 43 λO1 W1 s Z D d aw r=>?_
   try walk_nrm
   have _Y:=cs4 r;refine kW ?_;clear _Y;exact⟨rfl,_,ar _,rfl,Z,D⟩
  obtain⟨t,g,rfl⟩:=A87 (λe=>ak h1 (by rw[e];rfl):kids≠[]);obtain⟨b,o,rfl,az,al⟩:=X 0 spz;rw[A7a,A8a,A75] at al;have aI:g.length+1<=j:=by have:=af.1;simp only[A53] at this;exact this
  have aA:∀i (h:i<g.length),b<Low/\Wn w₀ b (o+4+i*4) g[i]:=λi hi=>by
   obtain⟨b',o',e',ae,ab⟩:=X (i+1) yAd;cases e';rw[A8z] at ab;exact⟨ae,by rw[show o+4+i*4=o+(i+1)*4 by omega];exact ab⟩
  have ah:=λy hy=>ih y hy (Y _ hy) (ag _ hy) (H y hy)
  obtain⟨vt,ap,ax⟩:=ah t spz;have aL:(k==1)=false:=by rw[A64];exact h1
  have yD:=H t spz;have aJ:g.length<=999999:=by simp only[A53] at ai;omega
  clear ih ag X Y ai V ak J af;obtain⟨pa,ra,ay⟩:=yD.devs;obtain⟨pk,rk,au,_⟩:=yD.kids;have ku:Hid ((k=4->MIs w₀ (Aq.vals ⟨k,op,q, .slice B q.length C, .slice (some ⟨b,o,none⟩) (t::g).length j,t::g⟩) (vt++[mi0 6]) (Fh t.net++[Tz 6]))/\∀aj is',MIs w₀ (Fp g) aj is'->MIs w₀ (Aq.vals ⟨k,op,q, .slice B q.length C, .slice (some ⟨b,o,none⟩) (t::g).length j,t::g⟩) (vt++aj) (Fh t.net++is')):=by
   have e:Fp (t::g)=t.vals++Fp g:=rfl;have aD:(bl t.vals).Sublist (bl (Aq.vals ⟨k,op,q, .slice B q.length C, .slice (some ⟨b,o,none⟩) (t::g).length j,t::g⟩)):=by
    rw[I,e];exact Ahm (((List.sublist_append_left _ _).cons _).cons _)
   refine⟨λ_=>(ap.snoc 6).sub aD,λaj is' h'=>(ap.append h').sub ?_⟩;rw[I,e];exact Ahm (((A7m _).cons _).cons _)
  clear I ap R;have jy:Hid (∀U,U≠1->U≠4->Fh ⟨U,⟨op,q⟩,(t::g).map Aq.net⟩=Fh t.net++((g.map Aq.net).map (Oh U)).flatten):=λU h1 h4=>by rw[A6k,Xc _ _ _ h1 h4]
  have wW:Hid (Fh ⟨4,⟨op,q⟩,(t::g).map Aq.net⟩=Fh t.net++[Tz 6]):=by show _=_;rw[A6k,Ze]
  obtain⟨t1,tp,td,ta,tk,ts⟩:=t;dsimp only at ay au;subst ay au;by_cases h4:k=4
  ·subst h4
   refine⟨vt++[mi0 6],by rw[wW.out];exact ku.1 rfl,λrest O w hF=>?_⟩;clear ku wW jy;rw[A6g,A6k,A66,A6q,A6s,A6t];dsimp only;simp only[A53];refine Hu func63 rrz rfl ?_;simp only[ntmps63,A55,A53,A54,Nat.reduceAdd,Nat.reduceSub,A6v,A6w,A61,A6y,A6t,A6s];refine Jz (Bd _ _ _) ?_
   (refine Fa (Bd _ _ _) ?_;simp only[A55,A53,A54,A6b,List.range,List.range.loop])
   refine kB hF #[.int .i64 4, .int .i64 op, .slice B q.length C, .slice (some ⟨b,o,none⟩) (g.length+1) j] 43 λO1 W1 s Z D d aw r=>?_
   try walk_nrm
   have gm:=hid (λW (F:Keep Low O1 W1 W)=>al.held (D.rely F) az);have _Y:=λW h=>And.intro (cs4 r W h) (gm W h)
   simp only[Wn] at _Y;refine kW ?_;clear _Y
   (refine Gt (Bd _ _ _) rfl rrz rfl (ax _ _ _ D) yBc ?_;rintro _ _ O2 W2 ⟨rfl,E,an⟩;try walk_nrm)
   replace r:=Aid r E d;replace d:=E.own _ d;simp only[MI.val,mi0];have _Y:=cs4 r;refine kW ?_;clear _Y;exact⟨rfl,_,ar _,rfl,Z.trans E,an⟩
  have iJ:k=2\/k=3:=omz
  have aM:(k==4)=false:=by rw[A64];exact h4
  obtain⟨f,hf⟩:∃f:Aq->List MI,∀y∈g,MIs w₀ y.vals (f y) (Fh y.net)/\Afk Low c w₀ y (f y):=by
   classical
   refine⟨λy=>if h:∃N,MIs w₀ y.vals N (Fh y.net)/\Afk Low c w₀ y N then h.choose else [],λy hy=>?_⟩;have h:=ah y yDb;simp only[h,dite_true];exact h.choose_spec
  have ao:∀y∈g,NOk Low w₀ y:=λy hy=>H y yDb
  refine⟨vt++(g.map λy=>Adm k y (f y)).flatten,?_,λrest O w hF=>?_⟩
  ·rw[jy.out k h1 h4]
   exact ku.2 _ _ (Ahx ao λy hy _=>(hf y hy).1)
  clear ku wW jy;rw[A6g,Ab8,A6q];dsimp only;simp only[A53]
  have HT:=hid (λO W F=>by
   have:=A17 (c:=c) w₀ k iJ g f ao (λy hy _=>(hf y hy).2) omz rest O W F (if j=1 then some ⟨b,o,none⟩ else some ⟨b,o+4,none⟩) (j - 1) (λi hi=>by
    obtain⟨ae,ab⟩:=aA i hi;have aE:¬j=1:=omz
    rw[if_neg aE]
    exact⟨b,o+4,rfl, .inr ae,ab.held F ae⟩)
   exact this)
  clear hf ah aA ao H aa;generalize (g.map λt=>(Adm k t (f t)).map MI.val).flatten=tl at*;generalize g.length=m at*;refine Hu func63 rrz rfl ?_;simp only[ntmps63,A55,A53,A54,Nat.reduceAdd,Nat.reduceSub,A6v,A6w,A61,A6y,A6t,A6s];refine Jz (Bd _ _ _) ?_
  (refine Fa (Bd _ _ _) ?_;simp only[A55,A53,A54,A6b,List.range,List.range.loop])
  refine kB hF #[.int .i64 k, .int .i64 op, .slice B q.length C, .slice (some ⟨b,o,none⟩) (m+1) j] 43 λO1 W1 s Z D d aw r=>?_
  try walk_nrm
  have gm:=hid (λW (F:Keep Low O1 W1 W)=>al.held (D.rely F) az);have _Y:=λW h=>And.intro (cs4 r W h) (gm W h)
  simp only[Wn] at _Y;refine kW ?_;clear _Y
  (refine Gt (Bd _ _ _) rfl rrz rfl (ax _ _ _ D) yBc ?_;rintro _ _ O2 W2 ⟨rfl,E,an⟩;try walk_nrm)
  replace r:=Aid r E d;replace d:=E.own _ d;have _Y:=cs4 r;refine kW ?_;clear _Y;have aG:(1:Int)<=(m:Int)+1:=omz
  have aH:∀(W:World) (es:Array Event),(Instr.sliceAt 41 (.slice (some ⟨b,o,none⟩) (m+1) j) (some (.int .i64 1)) none none).events prog W es=es:=λW es=>Aiq _ underlying41 _ _ _ aG
  refine Adh (Bd _ _ _) (λW=>W.cell? ⟨s,0,none⟩=some (.int .i64 k)/\W.cell? ⟨s,3,none⟩=some (.slice (some ⟨b,o,none⟩) (m+1) j)) 6 krz rfl λw₁ hR=>?_
  have L:∀ac v:World,(ac.cell? ⟨s,0,none⟩=some (.int .i64 k)/\ac.cell? ⟨s,3,none⟩=some (.slice (some ⟨b,o,none⟩) (m+1) j))->Keep Low O2 ac v->(v.cell? ⟨s,0,none⟩=some (.int .i64 k)/\v.cell? ⟨s,3,none⟩=some (.slice (some ⟨b,o,none⟩) (m+1) j)):=λac v hu hk=>⟨(hk.ext.cell (.inl d) _).trans hu.1,(hk.ext.cell (.inl d) _).trans hu.2⟩
  have M:({w₁ with drawn:=w₁.drawn+1}:World).cell? ⟨s,0,none⟩=some (.int .i64 k)/\({w₁ with drawn:=w₁.drawn+1}:World).cell? ⟨s,3,none⟩=some (.slice (some ⟨b,o,none⟩) (m+1) j):=⟨r _ hR 0,r _ hR 3⟩
  simp only[A55,A53,A54,Nat.reduceAdd,A6b]
  (refine Uw (Bd _ _ _) L (i:=0) (v:=.chan (some c)) rfl yAg yAg yAg yAg yAg (.inl ⟨rrz,λW1 l=>⟨run_eq_of ?_,⟨λ_ _ _=>rfl,A57 _,rfl,rfl,rfl,?_⟩⟩⟩) M ?_;(focus (intro K hK;obtain⟨u,A⟩:=l;go_simp;exact hK));(focus (rw[Jg];intro e he;replace he:=mem_listed he;obtain⟨u,A⟩:=l;simp[go_sem, *] at he;try (refine Or.inl ?_;(first | (subst he;exact⟨_,_,rfl, .inl d⟩) | (rcases he with rfl | rfl<;>exact⟨_,_,rfl, .inl d⟩) | (rcases he with rfl | rfl | rfl | rfl<;>exact⟨_,_,rfl, .inl d⟩) | (rcases he with rfl | rfl | rfl | rfl | rfl | rfl<;>exact⟨_,_,rfl, .inl d⟩)))));try walk_nrm)
  (refine Uw (Bd _ _ _) L (i:=1) (v:=.pointer (some ⟨s,0,none⟩)) rfl yAg yAg yAg yAg yAg (.inl ⟨rrz,λW1 l=>⟨run_eq_of ?_,⟨λ_ _ _=>rfl,A57 _,rfl,rfl,rfl,?_⟩⟩⟩) M ?_;(focus (intro K hK;obtain⟨u,A⟩:=l;go_simp;exact hK));(focus (rw[Jg];intro e he;replace he:=mem_listed he;obtain⟨u,A⟩:=l;simp[go_sem, *] at he;try (refine Or.inl ?_;(first | (subst he;exact⟨_,_,rfl, .inl d⟩) | (rcases he with rfl | rfl<;>exact⟨_,_,rfl, .inl d⟩) | (rcases he with rfl | rfl | rfl | rfl<;>exact⟨_,_,rfl, .inl d⟩) | (rcases he with rfl | rfl | rfl | rfl | rfl | rfl<;>exact⟨_,_,rfl, .inl d⟩)))));try walk_nrm)
  (refine Uw (Bd _ _ _) L (i:=2) (v:=.int .i64 k) rfl yAg yAg yAg yAg yAg (.inl ⟨rrz,λW1 l=>⟨run_eq_of ?_,⟨λ_ _ _=>rfl,A57 _,rfl,rfl,rfl,?_⟩⟩⟩) M ?_;(focus (intro K hK;obtain⟨u,A⟩:=l;go_simp;exact hK));(focus (rw[Jg];intro e he;replace he:=mem_listed he;obtain⟨u,A⟩:=l;simp[go_sem, *] at he;try (refine Or.inl ?_;(first | (subst he;exact⟨_,_,rfl, .inl d⟩) | (rcases he with rfl | rfl<;>exact⟨_,_,rfl, .inl d⟩) | (rcases he with rfl | rfl | rfl | rfl<;>exact⟨_,_,rfl, .inl d⟩) | (rcases he with rfl | rfl | rfl | rfl | rfl | rfl<;>exact⟨_,_,rfl, .inl d⟩)))));try walk_nrm)
  (refine Uw (Bd _ _ _) L (i:=3) (v:=.pointer (some ⟨s,3,none⟩)) rfl yAg yAg yAg yAg yAg (.inl ⟨rrz,λW1 l=>⟨run_eq_of ?_,⟨λ_ _ _=>rfl,A57 _,rfl,rfl,rfl,?_⟩⟩⟩) M ?_;(focus (intro K hK;obtain⟨u,A⟩:=l;go_simp;exact hK));(focus (rw[Jg];intro e he;replace he:=mem_listed he;obtain⟨u,A⟩:=l;simp[go_sem, *] at he;try (refine Or.inl ?_;(first | (subst he;exact⟨_,_,rfl, .inl d⟩) | (rcases he with rfl | rfl<;>exact⟨_,_,rfl, .inl d⟩) | (rcases he with rfl | rfl | rfl | rfl<;>exact⟨_,_,rfl, .inl d⟩) | (rcases he with rfl | rfl | rfl | rfl | rfl | rfl<;>exact⟨_,_,rfl, .inl d⟩)))));try walk_nrm)
  (refine Uw (Bd _ _ _) L (i:=4) (v:=.slice (some ⟨b,o,none⟩) (m+1) j) rfl yAg yAg yAg yAg yAg (.inl ⟨rrz,λW1 l=>⟨run_eq_of ?_,⟨λ_ _ _=>rfl,A57 _,rfl,rfl,rfl,?_⟩⟩⟩) M ?_;(focus (intro K hK;obtain⟨u,A⟩:=l;go_simp;exact hK));(focus (rw[Jg];intro e he;replace he:=mem_listed he;obtain⟨u,A⟩:=l;simp[go_sem, *] at he;try (refine Or.inl ?_;(first | (subst he;exact⟨_,_,rfl, .inl d⟩) | (rcases he with rfl | rfl<;>exact⟨_,_,rfl, .inl d⟩) | (rcases he with rfl | rfl | rfl | rfl<;>exact⟨_,_,rfl, .inl d⟩) | (rcases he with rfl | rfl | rfl | rfl | rfl | rfl<;>exact⟨_,_,rfl, .inl d⟩)))));try walk_nrm)
  (refine Uw (Bd _ _ _) L (i:=5) (v:=.slice (if j=1 then some ⟨b,o,none⟩ else some ⟨b,o+4,none⟩) m (j - 1)) rfl yAg yAg yAg yAg yAg (.inl ⟨rrz,λW1 l=>⟨run_eq_of ?_,⟨λ_ _ _=>rfl,A57 _,rfl,rfl,rfl,?_⟩⟩⟩) M ?_;(focus (intro K hK;obtain⟨u,A⟩:=l;go_simp;exact hK));(focus (rw[Jg];intro e he;replace he:=mem_listed he;obtain⟨u,A⟩:=l;simp[go_sem, *] at he;try (refine Or.inl ?_;(first | (subst he;exact⟨_,_,rfl, .inl d⟩) | (rcases he with rfl | rfl<;>exact⟨_,_,rfl, .inl d⟩) | (rcases he with rfl | rfl | rfl | rfl<;>exact⟨_,_,rfl, .inl d⟩) | (rcases he with rfl | rfl | rfl | rfl | rfl | rfl<;>exact⟨_,_,rfl, .inl d⟩)))));try walk_nrm)
  refine⟨by first | kernel_rfl | rfl,?_⟩;have aF:=Axj (an.rely hR) (w₁.drawn+1);have iE:=A0s ((Z.trans E).rely hR) (w₁.drawn+1)
  (refine Gt (Bd _ _ _) rfl rrz rfl (HT _ _ aF) yBc ?_;rintro _ _ O4 W4 ⟨rfl,fM,lZ⟩;try walk_nrm)
  refine kW ?_;exact⟨rfl,_,ar _,rfl,iE.trans fM,lZ⟩
variable {Low c : Nat}
def Ajy (m:Bj):List Value:=(m.cv::Gg m.coils)++(m.kv::Hy m.kids)
theorem Q8 (m:Bj):m.vals=m.net.vals++Ajy m:=m.vals_eq
def VOk (Low:Nat)(w₀:World)(m:Bj):Prop:=AOk w₀ 0 m/\∀x∈m.vals,∀k,x.ownBlock=some k->k<Low
def Agf (w:World)(b o:Nat)(m:Bj):Prop:=Wn w b o m.net/\w.cell? ⟨b,o+4,none⟩=some m.cv/\w.cell? ⟨b,o+5,none⟩=some m.kv
section
variable {w₀ w w' : World}{O O' : Nat -> Prop}
theorem Agf.held {b o:Nat}{m:Bj}(h:Agf w₀ b o m)(k:Held Low w₀ O w)(a:b<Low):Agf w b o m:=⟨h.1.held k a,(k.down a _).trans h.2.1,(k.down a _).trans h.2.2⟩
theorem VOk.net {m:Bj}(h:VOk Low w₀ m):NOk Low w₀ m.net:=⟨((Il _ _ _).1 h.1).1,λx a k b=>h.2 x (by rw[Q8];exact A6d _ a) k b⟩
theorem VOk.coils {m:Bj}(h:VOk Low w₀ m):∃(a:Option Addr) (cap:Nat),m.cv=.slice a m.coils.length cap/\(∀e∈m.coils,EOk w₀ 0 e)/\
  ∀i (h:i<m.coils.length),∃b o,a=some ⟨b,o,none⟩/\b<Low/\w₀.cell? ⟨b,o+i*2,none⟩=some (.int .i64 m.coils[i].op)/\w₀.cell? ⟨b,o+i*2+1,none⟩=some m.coils[i].av:=by
 obtain⟨_,⟨n,r⟩,_⟩:=(Il _ _ _).1 h.1;obtain⟨a,cap,e,_,f⟩:=Q9 n;refine⟨a,cap,e,r,λi hi=>?_⟩;obtain⟨l,j⟩:=Yd m.coils i hi;obtain⟨b,d,p,q⟩:=f _ _ l;obtain⟨t,g,_,s⟩:=f _ _ j;rw[d] at g;cases g;refine⟨b,0,d,h.2 m.cv (by rw[Q8];simp[Ajy]) b p,?_⟩;rw[A6b];exact⟨q,s⟩
theorem VOk.kids {m:Bj}(h:VOk Low w₀ m):∃(a:Option Addr) (cap:Nat),m.kv=.slice a m.kids.length cap/\(∀t∈m.kids,VOk Low w₀ t)/\
  ∀i (h:i<m.kids.length),∃b o,a=some ⟨b,o,none⟩/\b<Low/\Agf w₀ b (o+i*6) m.kids[i]:=by
 obtain⟨_,_,f,E⟩:=(Il _ _ _).1 h.1;obtain⟨a,cap,e,_,d⟩:=Q9 f;refine⟨a,cap,e,λt p=>⟨E t p,λx s k f=>h.2 x ?_ k f⟩,λi hi=>?_⟩
 ·rw[Q8]
  refine A6a _ (A6a _ (A56 _ (Na.2 ⟨t,p,s⟩)))
 ·obtain⟨y,v,F,u,H,J⟩:=Rl m.kids i hi
  obtain⟨b,g,C,D⟩:=d _ _ y;obtain⟨L,q,_,G⟩:=d _ _ v;obtain⟨P,r,_,z⟩:=d _ _ F;obtain⟨K,j,_,A⟩:=d _ _ u;obtain⟨N,l,_,B⟩:=d _ _ H;obtain⟨M,n,_,I⟩:=d _ _ J;rw[g] at q r j l n;cases q;cases r;cases j;cases l;cases n;refine⟨b,0,g,h.2 m.kv (by rw[Q8];simp[Ajy]) b C,?_⟩;unfold Agf Wn;rw[A6b];exact⟨⟨D,G,z,A⟩,B,I⟩
end
variable {w₀:World}
def Ajs (Low c:Nat)(w₀:World)(t:Aq)(ms:List MI):Prop:=∀d O w,Held Low w₀ O w->
 Lc prog (okS prog Low c) 88 #[.agg #[.int .i64 t.kind, .int .i64 t.op,t.av,t.kv]] d O w λv f O' w'=>f=d/\
  (∀rest,Lc prog (okS prog Low c) 91 #[.chan (some c), .int .i64 2,v] (ms.map MI.val++rest) O' w' λ_ e b a=>e=rest/\Ext Low O' b w' a/\Held Low w₀ b a)/\Ext Low O O' w w'/\Held Low w₀ O' w'
def Awy (n:Stil.Net):Prop:=n.one.args.length<=1048576/\n.kids.length<=1000000/\∀x∈Eh n,Aet x/\Am x<=1000000
theorem Aym (w₀:World)(t:Aq)(z:NOk Low w₀ t)(hg:Awy t.net):∃ms,MIs w₀ t.vals ms (Iy t.net)/\Ajs Low c w₀ t ms:=by
 obtain⟨l,q,o⟩:=hg;rw[Aq.net_eq] at l q;simp only[A6i] at l q;obtain⟨g,e,i,s,C⟩:=A06 (c:=c) w₀ t z omz omz;have x:∀y∈g,∃d,MIs w₀ y.vals d (Fh y.net)/\Afk Low c w₀ y d:=λy b=>by
  have j:y.net∈Eh t.net:=by rw[<-e];exact A7z b
  exact Ayn w₀ y (o _ j).1 (o _ j).2 (i y b)
 obtain⟨f,n⟩:∃f:Aq->List MI,∀y∈g,MIs w₀ y.vals (f y) (Fh y.net)/\Afk Low c w₀ y (f y):=by
  classical
  refine⟨λy=>if h:∃d,MIs w₀ y.vals d (Fh y.net)/\Afk Low c w₀ y d then h.choose else [],λy b=>?_⟩;have h:=x y b;simp only[h,dite_true];exact h.choose_spec
 have E:g.length<=1000001:=by
  have A:g.length=(Eh t.net).length:=by rw[<-e,A6i]
  rw[A];unfold Eh;rw[Aq.net_eq];split
  ·simp
  ·split
   ·simp only[A6i];omega
   ·simp
 refine⟨(g.map λy=>Adm 2 y (f y)).flatten,?_,λd O w hF=>(C d O w hF).mono ?_⟩
 ·unfold Iy
  rw[<-e];exact(Ahx i λy b _=>(n y b).1).sub (Ahm s)
 ·rintro v D O' w' ⟨r,⟨a,cap,rfl,u⟩,B,m⟩
  refine⟨r,λrest=>?_,B,m⟩;rw[Ab8];exact A17 w₀ 2 (.inl rfl) g f i (λy b _=>(n y b).2) omz rest O' w' m a cap u
def A1b (Low c:Nat)(w₀:World)(t:Bj)(vs:List MI):Prop:=∀rest O w,Held Low w₀ O w->
 Lc prog (okS prog Low c) 64 #[.chan (some c), .agg #[.int .i64 t.net.kind, .int .i64 t.net.op,t.net.av,t.net.kv,t.cv,t.kv]] (vs.map MI.val++rest) O w λ_ a O' w'=>a=rest/\Ext Low O O' w w'/\Held Low w₀ O' w'
def Af4:Stil.Arm->Prop
 | ⟨_,a,kids⟩=>a.length<=1000000/\kids.length<=1000000/\(∀x∈kids,Awy x.net)/\∀p∈kids.map Af4,p
theorem Apx (n:Stil.Net)(cs:List Stil.Elem)(kids:List Stil.Arm):Af4 ⟨n,cs,kids⟩↔cs.length<=1000000/\kids.length<=1000000/\(∀x∈kids,Awy x.net)/\∀x∈kids,Af4 x:=by rw[Af4,Stil.all_map]
def Yy (n i:Nat):List MI:=(Ia n i).map λx=>mi0 x.code
theorem Axq (n i:Nat):(Yy n i).map MI.val=(Ia n i).map λx=>v0 x.code:=by unfold Yy;rw[A8c];rfl
theorem A3a (n i:Nat):MIs w₀ [] (Yy n i) (Ia n i):=by
 unfold Yy Ia;repeat' split
 all_goals first | exact MIs.nil | exact MIs.zero _
def Ap1 (e:D8):MI:=⟨10,e⟩
theorem Ax8:∀{a:List D8},(∀e∈a,EOk w₀ 0 e)->MIs w₀ (Gg a) (a.map Ap1) (Yf (a.map D8.elem))
 | [],_=>MIs.nil
 | e::a,h=>(MIs.one 10 e (h e spz)).append (Ax8 λx hx=>h x yCb)
theorem Awx {n:Nat}{p:Bj->List MI × List MI}:∀{l:List Bj} (k:Nat),(∀x∈l,MIs w₀ x.net.vals (p x).1 (Iy x.net.net)/\MIs w₀ (Ajy x) (p x).2 (Iz x.arm))->
  MIs w₀ (Hy l) (l.mapIdx λi x=>Yy n (k+i)++((p x).1++(p x).2)).flatten ((l.map Bj.arm).mapIdx λi a=>Tv n (k+i) a).flatten
 | [],_,_=>MIs.nil
 | x::l,k,h=>by
  obtain⟨f,o⟩:=h x spz;have d:=Awx (l:=l) (n:=n) (p:=p) (k+1) λy hy=>h y yDb
  have e:Hy (x::l)=x.vals++Hy l:=rfl;rw[e,Q8,A6k,List.mapIdx_cons,List.mapIdx_cons,A7f,A7f];refine MIs.append ?_ ?_
  ·have g:Tv n (k+0) x.arm=Ia n (k+0)++(Iy x.net.net++Iz x.arm):=by
    show Ia _ _++(Iy x.arm.net++_)=_
    rw[Bj.arm_eq]
   rw[g];exact((A3a n (k+0)).append (f.append o)).sub (by rw[A6t];exact A7m _)
  ·have b:∀i,k+1+i=k+(i+1):=λi=>by omega
   have m:(λ(i:Nat) (x:Bj)=>Yy n (k+1+i)++((p x).1++(p x).2))=λi x=>Yy n (k+(i+1))++((p x).1++(p x).2):=by funext i x;rw[b]
   have j:(λ(i:Nat) (a:Stil.Arm)=>Tv n (k+1+i) a)=λi a=>Tv n (k+(i+1)) a:=by funext i a;rw[b]
   rw[m,j] at d;exact d
end Go.Proofs.YtnpfcnolmkanfaaGreatDoor
