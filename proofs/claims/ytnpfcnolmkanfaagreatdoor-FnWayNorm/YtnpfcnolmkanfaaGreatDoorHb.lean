import Derived.Test.YtnpfcnolmkanfaaGreatDoorG6
import Derived.Test.YtnpfcnolmkanfaaGreatDoorHa
set_option maxHeartbeats 4000000
set_option maxRecDepth 100000
namespace Go.Proofs.YtnpfcnolmkanfaaGreatDoor
open Tryz
open Stil
open Go.RowKit Go.Sort Go.BigFrame
variable {E:Prop}{a:Act}{base bb cap k:Nat}{cs xs:List Value}{o:Oper}{ops:Array Oper}{rest:List Oper}{v:Value}{w':World}
theorem Adn {w:World}{K:Act->World->Prop}{Q:Exit->Act->World->Prop}
  (hg:o.guard=none) (s x:Operand) (i:o.op=.call {callee:=.builtin .append,args:=#[s,x],argTypes:=#[44,44]})
  (R:Nat->Prop) (W:World) (ns:List Stil.Elem) (d:Value) (f:a.eval s=.slice (some ⟨W.heap.size,0,none⟩) 0 0) (hx:a.eval x=d) (g:w=W.alloc (.cells #[] 40))
  (y:Dk R W d ns) (hl:ns.length<=100000)
  (hK:∀bb c w' xs,w'.ownsRow W.heap.size 40 2 (.slice (some ⟨bb,0,none⟩) ns.length c) ns.length xs->RowOf 2 (Ls (λb=>R b/\b<W.heap.size) w') xs ns->W.heap.size<=bb->bb<w'.heap.size->w.grownBy w' (some W.heap.size)->K (a.put o.dst (.slice (some ⟨bb,0,none⟩) ns.length c)) w'):
  if Region.wanted o (yielded ops a.tmps)=true then Oper.wp prog o a w K Q else E:=by
 obtain⟨D,hi,I,A,L⟩:=info_parts Aao;have C:Dk (λb=>R b/\b<W.heap.size) w d ns:=by
  rw[g];exact(y.mono λb hb h=>⟨h,hb⟩).keep (Ac.of_below (Aa _ _))
 have N:w.heap.size=W.heap.size+1:=by rw[g];simp
 have q:w.ownsRow W.heap.size 40 2 (.slice (some ⟨W.heap.size,0,none⟩) 0 0) 0 []:=by
  rw[g];have:=World.ownsRow_lit (base:=W.heap.size) (e:=40) (size:=2) W #[] 0 omz yAe rfl
  simpa using this
 obtain⟨ad,cap,z,n,xs,hrow,J⟩:=Aj6 C;subst z;by_cases hd:ns.length=0
 ·have G:=List.length_eq_zero_iff.1 hd
  subst G;have F:Region.wanted o (yielded ops a.tmps)=true:=by simp[Region.wanted,hg]
  rw[if_pos F];have B:xs=[]:=by have:=hrow.1;simpa using this
  subst B;have m:=hK W.heap.size 0 w [] q (RowOf.nil _ _) (A57 _) omz (Ny _ _);simp only[A54] at m hx;unfold Oper.wp execOp;cases ad
  ·have e:Sem.run prog (Builtin.append_ #[44,44] o.type #[.slice (some ⟨W.heap.size,0,none⟩) 0 0, .slice none 0 cap]) w=.ok (.slice (some ⟨W.heap.size,0,none⟩) 0 0) w:=by simp[Builtin.append_,go_sem]
   simp only[i,resolve,invoke,builtin,Sem.run_bind,Sem.run_pure,Result.andThen_ok,A7c,A6k,A66,f,hx,e];exact m
  ·rename_i H
   have e:Sem.run prog (Builtin.append_ #[44,44] o.type #[.slice (some ⟨W.heap.size,0,none⟩) 0 0, .slice (some H) 0 cap]) w=.ok (.slice (some ⟨W.heap.size,0,none⟩) 0 0) w:=by simp[Builtin.append_,go_sem]
   simp only[i,resolve,invoke,builtin,Sem.run_bind,Sem.run_pure,Result.andThen_ok,A7c,A6k,A66,f,hx,e];exact m
 ·obtain⟨p,rfl⟩:∃p,ad=some p:=by
   cases ad with
   | none=>exact absurd (n.2 rfl) (by have:=n.1;omega)
   | some p=>exact⟨p,rfl⟩
  refine Eb hg s x _ i W.heap.size 40 D _ 2 32 underlying44 hi I A L rfl dcz _ _ [] f q _ _ _ xs hx hrow.1 (J _ rfl) ?_ yAe omz omz ?_
  ·intro u hu
   obtain⟨j,l⟩:=List.getElem?_of_mem hu;have O:j<ns.length*2:=by rw[<-hrow.1];exact(List.getElem?_eq_some_iff.1 l).1
   obtain⟨S,r,t⟩:=hrow.2 (j / 2) omz;have M:xs[j]?=((xs.drop (j / 2*2)).take 2)[j % 2]?:=by
    rw[A71,if_pos omz,A72,Nat.mul_comm,Nat.div_add_mod]
   rw[M,r] at l;obtain⟨T,P,rfl,_⟩:=t;have :=A7w l;simp only[A6n,A68,A7u] at this;rcases this with rfl | rfl<;>rfl
  ·exact zz
theorem Ou {w:World}{Q:Exit->Act->World->Prop}
  (hg:o.guard=none) (s x:Operand) (e:o.op=.call {callee:=.builtin .append,args:=#[s,x],argTypes:=#[44,44]})
  (R:Nat->Prop) (W:World) (ns:List Stil.Elem) (d:Value) (l:a.eval s=.slice (some ⟨W.heap.size,0,none⟩) 0 0) (hx:a.eval x=d) (n:w=W.alloc (.cells #[] 40))
  (j:Dk R W d ns) (hl:ns.length<=100000)
  (h:∀bb c w' xs,w'.ownsRow W.heap.size 40 2 (.slice (some ⟨bb,0,none⟩) ns.length c) ns.length xs->RowOf 2 (Ls (λb=>R b/\b<W.heap.size) w') xs ns->W.heap.size<=bb->bb<w'.heap.size->w.grownBy w' (some W.heap.size)->wpList prog ops Q rest (a.put o.dst (.slice (some ⟨bb,0,none⟩) ns.length c)) w'):
  wpList prog ops Q (o::rest) a w:=by
 refine wpList_plain hg λK i=>?_
 have q:Region.wanted o (yielded #[] a.tmps)=true:=by simp[Region.wanted,hg]
 have:=Adn (ops:=#[]) (K:=K) (Q:=Q) (E:=True) hg s x e R W ns d l hx n j hl (λbb c w' xs f r p m g=>i _ _ (h bb c w' xs f r p m g))
 rwa [if_pos q] at this
theorem Aft {w:World}{K:Act->World->Prop}{Q:Exit->Act->World->Prop}
  (hg:o.guard=none) (s x:Operand) (i:o.op=.call {callee:=.builtin .append,args:=#[s,x],argTypes:=#[23,23]})
  (R:Nat->Prop) (W:World) (ns:List Stil.Arm) (d:Value) (f:a.eval s=.slice (some ⟨W.heap.size,0,none⟩) 0 0) (hx:a.eval x=d) (g:w=W.alloc (.cells #[] 46))
  (z:Es R W d ns) (hl:ns.length<=100000)
  (hK:∀bb c w' xs,w'.ownsRow W.heap.size 46 6 (.slice (some ⟨bb,0,none⟩) ns.length c) ns.length xs->RowOf 6 (Ot (λb=>R b/\b<W.heap.size) w') xs ns->W.heap.size<=bb->bb<w'.heap.size->w.grownBy w' (some W.heap.size)->K (a.put o.dst (.slice (some ⟨bb,0,none⟩) ns.length c)) w'):
  if Region.wanted o (yielded ops a.tmps)=true then Oper.wp prog o a w K Q else E:=by
 obtain⟨F,hi,L,B,O⟩:=info_parts Aap;have D:Es (λb=>R b/\b<W.heap.size) w d ns:=by
  rw[g];exact(z.mono λb hb h=>⟨h,hb⟩).keep (Ac.of_below (Aa _ _))
 have S:w.heap.size=W.heap.size+1:=by rw[g];simp
 have q:w.ownsRow W.heap.size 46 6 (.slice (some ⟨W.heap.size,0,none⟩) 0 0) 0 []:=by
  rw[g];have:=World.ownsRow_lit (base:=W.heap.size) (e:=46) (size:=6) W #[] 0 omz yAe rfl
  simpa using this
 obtain⟨ad,cap,A,n,xs,hrow,N⟩:=Anb D;subst A;by_cases hd:ns.length=0
 ·have I:=List.length_eq_zero_iff.1 hd
  subst I;have H:Region.wanted o (yielded ops a.tmps)=true:=by simp[Region.wanted,hg]
  rw[if_pos H];have C:xs=[]:=by have:=hrow.1;simpa using this
  subst C;have m:=hK W.heap.size 0 w [] q (RowOf.nil _ _) (A57 _) omz (Ny _ _);simp only[A54] at m hx;unfold Oper.wp execOp;cases ad
  ·have e:Sem.run prog (Builtin.append_ #[23,23] o.type #[.slice (some ⟨W.heap.size,0,none⟩) 0 0, .slice none 0 cap]) w=.ok (.slice (some ⟨W.heap.size,0,none⟩) 0 0) w:=by simp[Builtin.append_,go_sem]
   simp only[i,resolve,invoke,builtin,Sem.run_bind,Sem.run_pure,Result.andThen_ok,A7c,A6k,A66,f,hx,e];exact m
  ·rename_i J
   have e:Sem.run prog (Builtin.append_ #[23,23] o.type #[.slice (some ⟨W.heap.size,0,none⟩) 0 0, .slice (some J) 0 cap]) w=.ok (.slice (some ⟨W.heap.size,0,none⟩) 0 0) w:=by simp[Builtin.append_,go_sem]
   simp only[i,resolve,invoke,builtin,Sem.run_bind,Sem.run_pure,Result.andThen_ok,A7c,A6k,A66,f,hx,e];exact m
 ·obtain⟨p,rfl⟩:∃p,ad=some p:=by
   cases ad with
   | none=>exact absurd (n.2 rfl) (by have:=n.1;omega)
   | some p=>exact⟨p,rfl⟩
  refine Eb hg s x _ i W.heap.size 46 F _ 6 112 underlying23 hi L B O rfl dcz _ _ [] f q _ _ _ xs hx hrow.1 (N _ rfl) ?_ yAe omz omz ?_
  ·intro u hu
   obtain⟨j,l⟩:=List.getElem?_of_mem hu;have T:j<ns.length*6:=by rw[<-hrow.1];exact(List.getElem?_eq_some_iff.1 l).1
   obtain⟨av,nv,cv,d,t,y,M,r,G⟩:=hrow.2 (j / 6) omz;have P:xs[j]?=((xs.drop (j / 6*6)).take 6)[j % 6]?:=by
    rw[A71,if_pos omz,A72,Nat.mul_comm,Nat.div_add_mod]
   rw[P,t] at l;obtain⟨p1,c1,rfl,_⟩:=y;obtain⟨Y,U,rfl,_⟩:=M;obtain⟨Z,X,rfl,_⟩:=r;obtain⟨p4,V,rfl,_⟩:=G;have :=A7w l;simp only[A6n,A68,A7u] at this;rcases this with rfl | rfl | rfl | rfl | rfl | rfl<;>rfl
  ·exact zz
theorem Qn {w:World}{Q:Exit->Act->World->Prop}
  (hg:o.guard=none) (s x:Operand) (e:o.op=.call {callee:=.builtin .append,args:=#[s,x],argTypes:=#[23,23]})
  (R:Nat->Prop) (W:World) (ns:List Stil.Arm) (d:Value) (l:a.eval s=.slice (some ⟨W.heap.size,0,none⟩) 0 0) (hx:a.eval x=d) (n:w=W.alloc (.cells #[] 46))
  (j:Es R W d ns) (hl:ns.length<=100000)
  (h:∀bb c w' xs,w'.ownsRow W.heap.size 46 6 (.slice (some ⟨bb,0,none⟩) ns.length c) ns.length xs->RowOf 6 (Ot (λb=>R b/\b<W.heap.size) w') xs ns->W.heap.size<=bb->bb<w'.heap.size->w.grownBy w' (some W.heap.size)->wpList prog ops Q rest (a.put o.dst (.slice (some ⟨bb,0,none⟩) ns.length c)) w'):
  wpList prog ops Q (o::rest) a w:=by
 refine wpList_plain hg λK i=>?_
 have q:Region.wanted o (yielded #[] a.tmps)=true:=by simp[Region.wanted,hg]
 have:=Aft (ops:=#[]) (K:=K) (Q:=Q) (E:=True) hg s x e R W ns d l hx n j hl (λbb c w' xs f r p m g=>i _ _ (h bb c w' xs f r p m g))
 rwa [if_pos q] at this
theorem Aa6 {R:Nat->Prop}{w:World}{ns:List Stil.Arm}(h:w.ownsRow base 46 6 (.slice (some ⟨bb,0,none⟩) ns.length cap) ns.length xs)(hr:RowOf 6 (Ot R w) xs ns)(m:k<ns.length):
  ∃l f i e,w.cell? ⟨bb,k*6,none⟩=some (.int .i64 ns[k].net.kind)/\w.cell? ⟨bb,k*6+1,none⟩=some (.int .i64 ns[k].net.one.op)/\w.cell? ⟨bb,k*6+2,none⟩=some l/\w.cell? ⟨bb,k*6+3,none⟩=some f/\w.cell? ⟨bb,k*6+4,none⟩=some i/\w.cell? ⟨bb,k*6+5,none⟩=some e/\(∀j,w.frozen? ⟨bb,j,none⟩=false)/\Ce R w l ns[k].net.one.args/\Dv R w f ns[k].net.kids/\Dk R w i ns[k].coils/\Es R w e ns[k].kids:=by
 obtain⟨g,c,n,_,_,_,d⟩:=Bo h omz;simp only[Value.slice.injEq,A65,Addr.mk.injEq] at n;obtain⟨⟨rfl,_⟩,_⟩:=n;obtain⟨l,f,i,e,q,r,u,t,s⟩:=hr.2 k m;have b:=Ago hr m q;exact⟨l,f,i,e,d _ _ (b 0 _ rfl),d _ _ (b 1 _ rfl),d _ _ (b 2 _ rfl),d _ _ (b 3 _ rfl),d _ _ (b 4 _ rfl),d _ _ (b 5 _ rfl),λj=>h.frozenAt j,r,u,t,s⟩
def set6 (w:World)(b o:Nat)(v0 c g f d e:Value):World:=(((((w.setCell ⟨b,o,none⟩ v0).setCell ⟨b,o+1,none⟩ c).setCell ⟨b,o+2,none⟩ g).setCell ⟨b,o+3,none⟩ f).setCell ⟨b,o+4,none⟩ d).setCell ⟨b,o+5,none⟩ e
theorem Akx {R:Nat->Prop}{w:World}{b o:Nat}{v0 d h g e f:Value}(c:¬R b):Ac R w (set6 w b o v0 d h g e f):=(((((Ac.set c _).trans (Ac.set c _)).trans (Ac.set c _)).trans (Ac.set c _)).trans (Ac.set c _)).trans (Ac.set c _)
theorem Ays {R:Nat->Prop}{w:World}{n:Nat}{ns:List Stil.Arm}{N:Stil.Arm}{f c d b:Value}(h:w.ownsRow base 46 6 (.slice (some ⟨bb,0,none⟩) n cap) n xs)(hr:RowOf 6 (Ot R w) xs ns)(s:k<ns.length)(r:¬R bb)
  (q:Ce R w f N.net.one.args) (t:Dv R w c N.net.kids) (l:Dk R w d N.coils) (m:Es R w b N.kids):
  ∃i,(set6 w bb (k*6) (.int .i64 N.net.kind) (.int .i64 N.net.one.op) f c d b).ownsRow base 46 6 (.slice (some ⟨bb,0,none⟩) n cap) n i/\
   RowOf 6 (Ot R (set6 w bb (k*6) (.int .i64 N.net.kind) (.int .i64 N.net.one.op) f c d b)) i (ns.set k N):=by
 refine⟨_,((((((h.stored (k*6) _).1.stored (k*6+1) _).1.stored (k*6+2) _).1.stored (k*6+3) _).1.stored (k*6+4) _).1.stored (k*6+5) _).1,?_⟩;have e:Ac R w (set6 w bb (k*6) (.int .i64 N.net.kind) (.int .i64 N.net.one.op) f c d b):=Akx r;have u:=hr.1;have x:k*6+5<xs.length:=omz
 refine RowOf.set (hr.imp λ_ _ _ h=>h.keep e) s spz ⟨f,c,d,b,?_,q.keep e,t.keep e,l.keep e,m.keep e⟩ ?_
 ·apply A8t
  intro j;rw[A71];by_cases g:j<6
  ·rw[if_pos g,A72]
   have:j=0\/j=1\/j=2\/j=3\/j=4\/j=5:=omz
   rcases this with rfl | rfl | rfl | rfl | rfl | rfl
   ·rw[A6c omz,A6c omz,A6c omz,A6c omz,A6c omz,A75,A6r omz];rfl
   ·rw[A6c omz,A6c omz,A6c omz,A6c omz,A6r yAd];rfl
   ·rw[A6c omz,A6c omz,A6c omz,A6r yAd];rfl
   ·rw[A6c omz,A6c omz,A6r yAd];rfl
   ·rw[A6c omz,A6r yAd];rfl
   ·rw[A6r yAd];rfl
  ·rw[if_neg g,A79 yAd]
 ·intro j g
  rw[A6c omz,A6c omz,A6c omz,A6c omz,A6c omz,A6c omz]
theorem Aci {R R':Nat->Prop}{w:World}{ns:List Stil.Elem}{n:Stil.Elem}(h:RowOf 2 (Ls R w) xs ns)(c:Ls R w cs n)(hl:cs.length=2)(hg:w.grownBy w' v.ownBlock)(hr:∀b,R b->v.ownBlock≠some b)(d:∀b,R b->R' b):RowOf 2 (Ls R' w') (xs++cs) (ns++[n]):=
 ((h.append (RowOf.one hl c)).imp λ_ _ _ h=>(h.keep (Ac.of_grown hg hr)).mono λb _=>d b)
theorem Afc {R R':Nat->Prop}{w:World}{ns:List Stil.Arm}{n:Stil.Arm}(h:RowOf 6 (Ot R w) xs ns)(c:Ot R w cs n)(hl:cs.length=6)(hg:w.grownBy w' v.ownBlock)(hr:∀b,R b->v.ownBlock≠some b)(d:∀b,R b->R' b):RowOf 6 (Ot R' w') (xs++cs) (ns++[n]):=
 ((h.append (RowOf.one hl c)).imp λ_ _ _ h=>(h.keep (Ac.of_grown hg hr)).mono λb _=>d b)
theorem Jd.parts {a:Stil.Arm}(h:Jd a):L8 a.net/\(∀c∈a.coils,Wl c)/\∀x∈a.kids,Jd x:=by
 obtain⟨n,cs,b⟩:=a;exact(Gy _ _ _).1 h
def A4b (Q:Nat->Prop)(e:Ending)(w w':World)(g P N:Nat):Prop:=∃(a:Stil.Arm) (f b c d:Value),e=.returned (.agg #[.int .i64 a.net.kind, .int .i64 a.net.one.op,f,b,c,d])/\Ce (Fr Q w.heap.size w.heap.size) w' f a.net.one.args/\Dv (Fr Q w.heap.size w.heap.size) w' b a.net.kids/\Dk (Fr Q w.heap.size w.heap.size) w' c a.coils/\Es (Fr Q w.heap.size w.heap.size) w' d a.kids/\Jd a/\F5 a<=N/\H5 w' g P/\w.grownBy w' (some g)
theorem A32 {n:Stil.Net}{cs:List Stil.Elem}{kids:List Stil.Arm}{x:Stil.Arm}(hx:x∈kids):F5 x+1<=F5 ⟨n,cs,kids⟩:=by
 rw[Fe];have b:=Ed F5 kids x hx;have c:=List.length_pos_of_mem hx;omega
theorem Aj1 (a:Stil.Arm):∀(Q:Nat->Prop) (g P:Nat) (w:World) (av nv cv kv:Value),(∀b,Q b->g<b)->Ce Q w av a.net.one.args->Dv Q w nv a.net.kids->Dk Q w cv a.coils->Es Q w kv a.kids->Jd a->F5 a<=40000->H5 w g P->P+10*F5 a+100<=100000000->
  Calls prog 46 #[.pointer (some ⟨g,0,none⟩), .agg #[.int .i64 a.net.kind, .int .i64 a.net.one.op,av,nv,cv,kv]] w λe w'=>A4b Q e w w' g (P+10*F5 a+100) (F5 a+40):=by
 induction a using Fz with
 | h n cs kids ih=>
  obtain⟨k,⟨op,t⟩,ns⟩:=n;intro Q g P w av nv cv kv hQ ay az aD aB kE bA hr hP;simp only at ay az aD aB;have hg:=Ug hr;have vH:Hid (∀x∈kids,F5 x+1<=F5 ⟨⟨k,⟨op,t⟩,ns⟩,cs,kids⟩):=λx hx=>A32 hx
  have bB:cs.length+kids.length<=F5 ⟨⟨k,⟨op,t⟩,ns⟩,cs,kids⟩:=by rw[Fe,Fq];omega
  have iQ:Hid (F5 ⟨⟨k,⟨op,t⟩,ns⟩,cs,kids⟩=H6 ⟨k,⟨op,t⟩,ns⟩+(Fq cs+(kids.length+(kids.map F5).sum))):=Fe _ _ _;obtain⟨aW,hZ⟩:∃aW,aW=F5 ⟨⟨k,⟨op,t⟩,ns⟩,cs,kids⟩:=⟨_,rfl⟩
  rw[<-hZ] at vH bB iQ bA hP ⊢;clear hZ;have IH:=hid ih;have HQ:=hid hQ;have HT:=hid kE;have aO:∀b,b<w.heap.size->Q b->Fr Q w.heap.size (w.heap.size+2) b:=λb hb h=>Or.inl ⟨h,hb⟩
  have bf:=hid (ay.mono aO);have zn:=hid (az.mono aO);have a8:=hid (aD.mono aO);have vS:=hid (aB.mono aO);obtain⟨a1,c1,rfl,_⟩:=ay;obtain⟨a2,c2,rfl,_⟩:=az;obtain⟨a3,c3,rfl,_⟩:=aD;obtain⟨a4,c4,rfl,_⟩:=aB;clear ih hQ kE aO;go_enter func46,ntmps46;go_upto_region 1 with fail
  go_cut [15] (λc wq=>∃b:Bool,c=.bool b/\(b=true->0<kids.length)/\Mc wq w.heap.size k op (.slice a1 t.length c1) (.slice a2 ns.length c2) (.slice a3 cs.length c3) (.slice a4 kids.length c4)/\Mc wq (w.heap.size+1) 0 0 (.slice none 0 0) (.slice none 0 0) (.slice none 0 0) (.slice none 0 0)/\Ce (Fr Q w.heap.size (w.heap.size+2)) wq (.slice a1 t.length c1) t/\Dv (Fr Q w.heap.size (w.heap.size+2)) wq (.slice a2 ns.length c2) ns/\Dk (Fr Q w.heap.size (w.heap.size+2)) wq (.slice a3 cs.length c3) cs/\Es (Fr Q w.heap.size (w.heap.size+2)) wq (.slice a4 kids.length c4) kids/\H5 wq g (P+1)/\w.grownBy wq (some g))
  case first=>
   by_cases bv:0<kids.length
   ·go_wp2_with ((go_at_call_of 23 (Value.int IntKind.i64 3);refine(Ew g _ _ _ raA omz omz omz).mono ?_;rintro e H ⟨x,rfl,aK,aT,al,G⟩;have ac:w.heap.size<H.heap.size:=A51 ltA G.size;have af:(w.heap.size+1)<H.heap.size:=A51 ltA G.size;obtain⟨L,M,q1,J,T,K,U,R,S,X,N,O,B,p6,F,Y,z,p8,D,p9,C,Z,A,aa⟩:H.cell? ⟨w.heap.size,0,none⟩=some (.int .i64 k)/\H.frozen? ⟨w.heap.size,0,none⟩=false/\H.cell? ⟨w.heap.size,1,none⟩=some (.int .i64 op)/\H.frozen? ⟨w.heap.size,1,none⟩=false/\H.cell? ⟨w.heap.size,2,none⟩=some (.slice a1 t.length c1)/\H.frozen? ⟨w.heap.size,2,none⟩=false/\H.cell? ⟨w.heap.size,3,none⟩=some (.slice a2 ns.length c2)/\H.frozen? ⟨w.heap.size,3,none⟩=false/\H.cell? ⟨w.heap.size,4,none⟩=some (.slice a3 cs.length c3)/\H.frozen? ⟨w.heap.size,4,none⟩=false/\H.cell? ⟨w.heap.size,5,none⟩=some (.slice a4 kids.length c4)/\H.frozen? ⟨w.heap.size,5,none⟩=false/\H.cell? ⟨(w.heap.size+1),0,none⟩=some (.int .i64 0)/\H.frozen? ⟨(w.heap.size+1),0,none⟩=false/\H.cell? ⟨(w.heap.size+1),1,none⟩=some (.int .i64 0)/\H.frozen? ⟨(w.heap.size+1),1,none⟩=false/\H.cell? ⟨(w.heap.size+1),2,none⟩=some (.slice none 0 0)/\H.frozen? ⟨(w.heap.size+1),2,none⟩=false/\H.cell? ⟨(w.heap.size+1),3,none⟩=some (.slice none 0 0)/\H.frozen? ⟨(w.heap.size+1),3,none⟩=false/\H.cell? ⟨(w.heap.size+1),4,none⟩=some (.slice none 0 0)/\H.frozen? ⟨(w.heap.size+1),4,none⟩=false/\H.cell? ⟨(w.heap.size+1),5,none⟩=some (.slice none 0 0)/\H.frozen? ⟨(w.heap.size+1),5,none⟩=false:=⟨gcA G,gfA G,gcA G,gfA G,gcA G,gfA G,gcA G,gfA G,gcA G,gfA G,gcA G,gfA G,gcA G,gfA G,gcA G,gfA G,gcA G,gfA G,gcA G,gfA G,gcA G,gfA G,gcA G,gfA G⟩))
    go_meet;have I:Ac (Fr Q w.heap.size (w.heap.size+2)) w H:=((Ac.of_below (Aa _ _)).trans (Ac.of_below (Aa _ _))).trans (Gq HQ omz G);exact⟨decide (0<x),rfl,λ_=>bv,abA,abA,bf.keep I,zn.keep I,a8.keep I,vS.keep I,rlA,glA⟩
   ·have bL:decide (0<(kids.length:Int))=false:=by rw[A7o];omega
    go_wp2
    go_meet;exact⟨false,rfl,λh=>yAi,abA,abA,bf.keep kfA,zn.keep kfA,a8.keep kfA,vS.keep kfA,rlA,glA⟩
  case rest=>
   obtain⟨b,rfl,a9,a7,aS,bn,bz,br,bu,al,aX⟩:=hcut;clear bf zn a8 vS hr;have bg:=hid a7;have bh:=hid aS;have aR:=hid bn;have eX:=hid bz;have lu:=hid br;have kC:=hid bu;clear bn bz br bu;cases b with
   | true=>
    have bv:=a9 rfl;clear a9;obtain⟨ac,L,q1,T,U,S,N,M,J,K,R,X,O⟩:=a7;have bZ:=aS.1;clear aS;go_upto_region 3 with(at_builtin;refine Qn rfl _ _ rfl (Fr Q w.heap.size (w.heap.size+2)) wc kids (.slice a4 kids.length c4) rfl rfl rfl kC omz ?_;intro bb cc w3 xs ag ak dS fJ V;have au:=hid ag;have ar:=hid ak;have dJ:Hid ((wc.alloc (.cells #[] 46)).grownBy w3 (some wc.heap.size)):=V;clear ag ak V L q1 T U S N M J K R X O)
    have ae:Ac (λb=>Fr Q w.heap.size (w.heap.size+2) b/\b<wc.heap.size) wc w3:=(Ac.of_below (Aa _ _)).trans (Ac.of_grown dJ (λb hb e=>by simp only[A65] at e;exact absurd hb.2 omz));have dH:∀b,b<wc.heap.size->Fr Q w.heap.size (w.heap.size+2) b->Fr Q w.heap.size (w.heap.size+2) b/\b<wc.heap.size:=λb hb h=>⟨h,hb⟩
    have bT:∀b,b<w3.heap.size->(Fr Q w.heap.size (w.heap.size+2) b/\b<wc.heap.size)->Fr Q w.heap.size (w.heap.size+2) b/\b≠bb:=λb _ h=>⟨h.1,by have:=h.2;omega⟩
    have oW:=hid ((bg.alloc _).grownO dJ yAb);have oU:=hid ((bh.alloc _).grownO dJ yAb);have bK:=Et (Cb al _) dJ yAc;have bU:=Jk (D5 aX _) dJ yAc;have bj:=hid (((aR.mono dH).keep ae).mono bT);have lQ:=hid (((eX.mono dH).keep ae).mono bT);have lq:=hid (((lu.mono dH).keep ae).mono bT);have bk:Hid (RowOf 6 (Ot (λb=>Fr Q w.heap.size (w.heap.size+2) b/\b≠bb) w3) xs kids):=ar.imp λ_ _ _ h=>h.mono bT
    clear bg bh aR eX lu kC ar al aX ac ae dH bT;go_upto_region 4 with(go_at_call_of 23 (kids.length:Nat);refine(Ew g _ _ _ bK omz omz omz).mono ?_;rintro e l ⟨x,rfl,aK,aT,fG,m⟩;obtain⟨j,rfl⟩:=A7i aK;have hj:j<kids.length:=omz;clear aK aT)
    have aQ:Ac (λb=>Fr Q w.heap.size (w.heap.size+2) b/\b≠bb) w3 l:=Ez (Gq HQ omz m) (λb _ h=>h.1);have dI:=hid (Bl au m omz);have ba:Hid (RowOf 6 (Ot (λb=>Fr Q w.heap.size (w.heap.size+2) b/\b≠bb) l) xs kids):=bk.imp λ_ _ _ h=>h.keep aQ
    have oV:=hid (oW.grownO m yAb);have oQ:=hid (oU.grownO m yAb);have bi:=hid (bj.keep aQ);have wX:=hid (lQ.keep aQ);have bo:=hid (lq.keep aQ);have gK:=Dx bU m;have aE:=A51 fJ m.size;clear au bk oW oU bj lQ lq bK bU aQ dJ m fJ;obtain⟨av,nv,cv,kv,r0,r1,r2,r3,r4,r5,aw,ay,az,aD,aB⟩:=Aa6 dI ba hj;obtain⟨s0,s1,s2,s3,s4,s5⟩:=(⟨aw _,aw _,aw _,aw _,aw _,aw _⟩:l.frozen? ⟨bb,j*6,none⟩=false/\l.frozen? ⟨bb,j*6+1,none⟩=false/\l.frozen? ⟨bb,j*6+2,none⟩=false/\l.frozen? ⟨bb,j*6+3,none⟩=false/\l.frozen? ⟨bb,j*6+4,none⟩=false/\l.frozen? ⟨bb,j*6+5,none⟩=false)
    clear aw;have eY:Hid (F5 kids[j]+1<=aW/\Jd kids[j]):=⟨vH _ (A59 hj),HT.parts.2.2 _ (A59 hj)⟩
    have HI:=
     hid (IH _ (A59 hj) _ g (P+2) l av nv cv kv (λb hb=>by rcases hb.1 with h | h;exact HQ b h.1;omega) ay az aD aB eY.2 yFe fG yFe)
    have ah:=hid (λx hx=>Amx F5 40 kids j x hj hx);obtain⟨aZ,hX⟩:∃aZ,aZ=kids[j]:=⟨_,rfl⟩
    rw[<-hX] at HI ah eY r0 r1;obtain⟨u1,t1,rfl,-⟩:=ay;obtain⟨u2,t2,rfl,-⟩:=az;obtain⟨u3,t3,rfl,-⟩:=aD;obtain⟨u4,t4,rfl,-⟩:=aB;clear hX IH fG;go_upto_region 5 with(go_at_call 46;refine HI.mono ?_;rintro e f ⟨ab,yh,bG,bS,bX,rfl,fK,jG,nO,jI,pG,pX,iI,d⟩;have rP:=hid fK;have jE:=hid jG;have lm:=hid nO;have bw:=hid jI;have zX:=hid pG;have ax:=Bl dI d omz;obtain⟨d0,d1,d2,d3,d4,d5,f0,f1,f2,f3,f4,f5⟩:=(⟨ax.frozenAt (j*6),ax.frozenAt (j*6+1),ax.frozenAt (j*6+2),ax.frozenAt (j*6+3),ax.frozenAt (j*6+4),ax.frozenAt (j*6+5),(Df d aE omz).trans r0,(Df d aE omz).trans r1,(Df d aE omz).trans r2,(Df d aE omz).trans r3,(Df d aE omz).trans r4,(Df d aE omz).trans r5⟩:f.frozen? ⟨bb,j*6,none⟩=false/\f.frozen? ⟨bb,j*6+1,none⟩=false/\f.frozen? ⟨bb,j*6+2,none⟩=false/\f.frozen? ⟨bb,j*6+3,none⟩=false/\f.frozen? ⟨bb,j*6+4,none⟩=false/\f.frozen? ⟨bb,j*6+5,none⟩=false/\f.cell? ⟨bb,j*6,none⟩=_/\f.cell? ⟨bb,j*6+1,none⟩=_/\f.cell? ⟨bb,j*6+2,none⟩=_/\f.cell? ⟨bb,j*6+3,none⟩=_/\f.cell? ⟨bb,j*6+4,none⟩=_/\f.cell? ⟨bb,j*6+5,none⟩=_);obtain⟨y1,z1,rfl,-⟩:=fK;obtain⟨y2,z2,rfl,-⟩:=jG;obtain⟨y3,z3,rfl,-⟩:=nO;obtain⟨y4,z4,rfl,-⟩:=jI;clear ax pG r0 r1 r2 r3 r4 r5 s0 s1 s2 s3 s4 s5)
    obtain⟨W,hW⟩:∃W,W=(((((f.setCell ⟨bb,j*6,none⟩ (.int .i64 ab.net.kind)).setCell ⟨bb,j*6+1,none⟩ (.int .i64 ab.net.one.op)).setCell ⟨bb,j*6+2,none⟩ (.slice y1 ab.net.one.args.length z1)).setCell ⟨bb,j*6+3,none⟩ (.slice y2 ab.net.kids.length z2)).setCell ⟨bb,j*6+4,none⟩ (.slice y3 ab.coils.length z3)).setCell ⟨bb,j*6+5,none⟩ (.slice y4 ab.kids.length z4):=⟨_,rfl⟩
    rw[<-hW];have bW:=d.size;have ao:∀b,b<f.heap.size->Fr (λb=>Fr Q w.heap.size (w.heap.size+2) b/\b≠bb) l.heap.size l.heap.size b->Fr Q w.heap.size (w.heap.size+2) b/\b≠bb:=λb _ h=>by
     rcases h with h | h
     ·exact h.1
     ·exact⟨Or.inr omz,omz⟩
    have a6:Ac (λb=>Fr Q w.heap.size (w.heap.size+2) b/\b≠bb) l f:=Ez (Gq HQ omz d) (λb _ h=>h.1);have bs:=Ays (Bl dI d omz) (ba.imp λ_ _ _ h=>h.keep a6) hj (λh=>h.2 rfl) (rP.mono ao) (jE.mono ao) (lm.mono ao) (bw.mono ao);have a5:W=set6 f bb (j*6) (.int .i64 ab.net.kind) (.int .i64 ab.net.one.op) (.slice y1 ab.net.one.args.length z1) (.slice y2 ab.net.kids.length z2) (.slice y3 ab.coils.length z3) (.slice y4 ab.kids.length z4):=hW;rw[<-a5] at bs;obtain⟨ys,aY,bq⟩:=bs;have bJ:Mc W w.heap.size k op (.slice a1 t.length c1) (.slice a2 ns.length c2) (.slice a3 cs.length c3) (.slice a4 kids.length c4):=by
     rw[hW];exact((((((oV.grownO d yAb).set omz).set omz).set omz).set omz).set omz).set omz
    have bF:Mc W (w.heap.size+1) 0 0 (.slice none 0 0) (.slice none 0 0) (.slice none 0 0) (.slice none 0 0):=by
     rw[hW];exact((((((oQ.grownO d yAb).set omz).set omz).set omz).set omz).set omz).set omz
    have qy:H5 W g (P+2+10*F5 aZ+100):=by
     rw[hW];exact Jp (Jp (Jp (Jp (Jp (Jp (iI) omz _) omz _) omz _) omz _) omz _) omz _
    have bY:w.grownBy W (some g):=by
     rw[hW];have hb:w.heap.size<=bb:=omz
     exact Lt hb (Lt hb (Lt hb (Lt hb (Lt hb (Lt hb (Dx gK d) _) _) _) _) _) _
    have aU:Ac (λb=>Fr Q w.heap.size (w.heap.size+2) b/\b≠bb) l W:=by
     rw[a5];exact a6.trans (Akx (λh=>h.2 rfl))
    have oI:Hid (Es (Fr Q w.heap.size (w.heap.size+2)) W (.slice (some ⟨bb,0,none⟩) kids.length cc) (kids.set j ab)):=by
     have e:kids.length=(kids.set j ab).length:=spz
     rw[e] at aY ⊢
     exact Fb aY (bq.imp λ_ _ _ h=>h.mono λb _ hb=>hb.1) (λb hb=>by
      have:bb=b:=by simpa[Value.ownBlock] using hb
      exact Or.inr omz)
    have bI:=hid ((bi.keep aU).mono λb _ h=>h.1);have jZ:=hid ((wX.keep aU).mono λb _ h=>h.1);have bD:=hid ((bo.keep aU).mono λb _ h=>h.1);obtain⟨ac,L,q1,T,U,S,N,M,J,K,R,X,O⟩:=bJ;obtain⟨af,B,F,z,D,C,A,p6,Y,p8,p9,Z,aa⟩:=bF;clear hW a5 aY bq aU a6 ao dI ba oV oQ bi wX bo rP jE lm bw d0 d1 d2 d3 d4 d5 f0 f1 f2 f3 f4 f5 HI
    go_wp2
    refine bodyPost_ret (by simp[results,results46,go_sem,B,F,z,D,C,A];rfl) rfl ?_;refine⟨⟨⟨k,⟨op,t⟩,ns⟩,cs,kids.set j ab⟩,_,_,_,_,rfl,Ce.mono (bI.keep kfA) (Gp _),Dv.mono (jZ.keep kfA) (Gp _),Dk.mono (bD.keep kfA) (Gp _),Es.mono (oI.keep kfA) (Gp _),?_,?_,?_,glA⟩
    ·refine(Gy _ _ _).2 ⟨HT.parts.1,HT.parts.2.1,λx hx=>?_⟩
     rcases A8g hx with h | rfl
     ·exact HT.parts.2.2 x h
     ·exact zX.out
    ·have:=ah ab pX
     have:=iQ.out
     rw[Fe];simp only[A8i];omega
    ·have:=eY.1
     exact rlA
   | false=>
    clear a9 IH vH;obtain⟨ac,L,q1,T,U,S,N,M,J,K,R,X,O⟩:=a7;obtain⟨af,B,F,z,D,C,A,p6,Y,p8,p9,Z,aa⟩:=aS;go_upto_region 9 with((go_at_call_of 23 (Value.int IntKind.i64 6);refine(Ew g _ _ _ raA omz omz omz).mono ?_;rintro e i ⟨x,rfl,aK,aT,dL,q⟩;have ac:w.heap.size<i.heap.size:=A51 ltA q.size;have af:=A51 ltA q.size;obtain⟨L,M,q1,J,T,K,U,R,S,X,N,O,B,p6,F,Y,z,p8,D,p9,C,Z,A,aa⟩:i.cell? ⟨w.heap.size,0,none⟩=some (.int .i64 k)/\i.frozen? ⟨w.heap.size,0,none⟩=false/\i.cell? ⟨w.heap.size,1,none⟩=some (.int .i64 op)/\i.frozen? ⟨w.heap.size,1,none⟩=false/\i.cell? ⟨w.heap.size,2,none⟩=some (.slice a1 t.length c1)/\i.frozen? ⟨w.heap.size,2,none⟩=false/\i.cell? ⟨w.heap.size,3,none⟩=some (.slice a2 ns.length c2)/\i.frozen? ⟨w.heap.size,3,none⟩=false/\i.cell? ⟨w.heap.size,4,none⟩=some (.slice a3 cs.length c3)/\i.frozen? ⟨w.heap.size,4,none⟩=false/\i.cell? ⟨w.heap.size,5,none⟩=some (.slice a4 kids.length c4)/\i.frozen? ⟨w.heap.size,5,none⟩=false/\i.cell? ⟨(w.heap.size+1),0,none⟩=some (.int .i64 0)/\i.frozen? ⟨(w.heap.size+1),0,none⟩=false/\i.cell? ⟨(w.heap.size+1),1,none⟩=some (.int .i64 0)/\i.frozen? ⟨(w.heap.size+1),1,none⟩=false/\i.cell? ⟨(w.heap.size+1),2,none⟩=some (.slice none 0 0)/\i.frozen? ⟨(w.heap.size+1),2,none⟩=false/\i.cell? ⟨(w.heap.size+1),3,none⟩=some (.slice none 0 0)/\i.frozen? ⟨(w.heap.size+1),3,none⟩=false/\i.cell? ⟨(w.heap.size+1),4,none⟩=some (.slice none 0 0)/\i.frozen? ⟨(w.heap.size+1),4,none⟩=false/\i.cell? ⟨(w.heap.size+1),5,none⟩=some (.slice none 0 0)/\i.frozen? ⟨(w.heap.size+1),5,none⟩=false:=⟨gcA q,gfA q,gcA q,gfA q,gcA q,gfA q,gcA q,gfA q,gcA q,gfA q,gcA q,gfA q,gcA q,gfA q,gcA q,gfA q,gcA q,gfA q,gcA q,gfA q,gcA q,gfA q,gcA q,gfA q⟩))
    obtain⟨ie,bm,kL,kK,kJ⟩:=info_parts Aao;obtain⟨ia,bE,gJ,gI,gG⟩:=info_parts Aap;have aA:=hid (aR.keep (Gq HQ omz q));have dO:=hid (eX.keep (Gq HQ omz q));have aG:=hid (lu.keep (Gq HQ omz q));have mV:=hid (kC.keep (Gq HQ omz q));have mM:Hid (Mc i w.heap.size k op (.slice a1 t.length c1) (.slice a2 ns.length c2) (.slice a3 cs.length c3) (.slice a4 kids.length c4)):=⟨ac,L,q1,T,U,S,N,M,J,K,R,X,O⟩
    have mJ:Hid (Mc i (w.heap.size+1) 0 0 (.slice none 0 0) (.slice none 0 0) (.slice none 0 0) (.slice none 0 0)):=⟨af,B,F,z,D,C,A,p6,Y,p8,p9,Z,aa⟩
    have kM:=Dx aX q;clear aR eX lu kC bg bh aX q al;have hx:x=0\/x=1\/x=2\/x=3\/x=4\/x=5:=omz
    clear aK aT;rcases hx with rfl | rfl | rfl | rfl | rfl | rfl
    ·go_wp2
     refine bodyPost_ret (by simp[results,results46,go_sem,B,F,z,D,C,A];rfl) rfl ?_;refine⟨⟨⟨0,⟨0,[]⟩,[]⟩,cs,kids⟩,_,_,_,_,rfl,Qz _ _,I5 _ _,Dk.mono (aG.keep kfA) (Gp _),Es.mono (mV.keep kfA) (Gp _),(Gy _ _ _).2 ⟨Ws,HT.parts.2⟩,?_,rlA,glA⟩;have:=iQ.out
     have e9:H6 ⟨0,⟨0,[]⟩,[]⟩=0:=by rw[Ee];simp
     rw[Fe,e9];omega
    ·go_wp2_with ((go_at_call_of 23 (Value.int IntKind.i64 2);refine(Ew g _ _ _ raA omz omz omz).mono ?_;rintro e l ⟨bM,rfl,bR,bO,al,m⟩;have ac:w.heap.size<l.heap.size:=A51 ltA m.size;have af:=A51 ltA m.size;obtain⟨L,M,q1,J,T,K,U,R,S,X,N,O,B,p6,F,Y,z,p8,D,p9,C,Z,A,aa⟩:l.cell? ⟨w.heap.size,0,none⟩=some (.int .i64 k)/\l.frozen? ⟨w.heap.size,0,none⟩=false/\l.cell? ⟨w.heap.size,1,none⟩=some (.int .i64 op)/\l.frozen? ⟨w.heap.size,1,none⟩=false/\l.cell? ⟨w.heap.size,2,none⟩=some (.slice a1 t.length c1)/\l.frozen? ⟨w.heap.size,2,none⟩=false/\l.cell? ⟨w.heap.size,3,none⟩=some (.slice a2 ns.length c2)/\l.frozen? ⟨w.heap.size,3,none⟩=false/\l.cell? ⟨w.heap.size,4,none⟩=some (.slice none 0 0)/\l.frozen? ⟨w.heap.size,4,none⟩=false/\l.cell? ⟨w.heap.size,5,none⟩=some (.slice a4 kids.length c4)/\l.frozen? ⟨w.heap.size,5,none⟩=false/\l.cell? ⟨(w.heap.size+1),0,none⟩=some (.int .i64 0)/\l.frozen? ⟨(w.heap.size+1),0,none⟩=false/\l.cell? ⟨(w.heap.size+1),1,none⟩=some (.int .i64 0)/\l.frozen? ⟨(w.heap.size+1),1,none⟩=false/\l.cell? ⟨(w.heap.size+1),2,none⟩=some (.slice none 0 0)/\l.frozen? ⟨(w.heap.size+1),2,none⟩=false/\l.cell? ⟨(w.heap.size+1),3,none⟩=some (.slice none 0 0)/\l.frozen? ⟨(w.heap.size+1),3,none⟩=false/\l.cell? ⟨(w.heap.size+1),4,none⟩=some (.slice none 0 0)/\l.frozen? ⟨(w.heap.size+1),4,none⟩=false/\l.cell? ⟨(w.heap.size+1),5,none⟩=some (.slice none 0 0)/\l.frozen? ⟨(w.heap.size+1),5,none⟩=false:=⟨gcA m,gfA m,gcA m,gfA m,gcA m,gfA m,gcA m,gfA m,gcA m,gfA m,gcA m,gfA m,gcA m,gfA m,gcA m,gfA m,gcA m,gfA m,gcA m,gfA m,gcA m,gfA m,gcA m,gfA m⟩))
     all_goals
      have I:Ac (Fr Q w.heap.size (w.heap.size+2)) i l:=Ac.trans kfA (Gq HQ omz m);refine bodyPost_ret (by simp[results,results46,go_sem,B,F,z,D,C,A];rfl) rfl ?_
     ·refine⟨⟨⟨k,⟨op,t⟩,ns⟩,[],[]⟩,_,_,_,_,rfl,Ce.mono ((aA.keep I).keep kfA) (Gp _),Dv.mono ((dO.keep I).keep kfA) (Gp _),Xi _ _,Q7 _ _,(Gy _ _ _).2 ⟨HT.parts.1,λ_ h=>yAi,λ_ h=>yAi⟩,?_,rlA,glA⟩
      have:=iQ.out
      rw[Fe];simp only[Fq,A54,A66,A8b];omega
     ·refine⟨⟨⟨k,⟨op,t⟩,ns⟩,[],kids⟩,_,_,_,_,rfl,Ce.mono ((aA.keep I).keep kfA) (Gp _),Dv.mono ((dO.keep I).keep kfA) (Gp _),Xi _ _,Es.mono ((mV.keep I).keep kfA) (Gp _),(Gy _ _ _).2 ⟨HT.parts.1,λ_ h=>yAi,HT.parts.2.2⟩,?_,rlA,glA⟩
      have:=iQ.out
      rw[Fe];simp only[Fq,A54,A66,A8b];omega
    ·go_wp2_with (first | (go_at_call 45;refine(Ie g _ _ (by exact bK) omz).mono ?_;rintro e f ⟨aP,ev,aN,rfl,bV,dM,gW,pJ,al,d⟩;obtain⟨ea,ec,rfl,_,_⟩:=id dM;have ac:w.heap.size<f.heap.size:=A51 ltA d.size;have af:=A51 ltA d.size;obtain⟨L,M,q1,J,T,K,U,R,S,X,N,O,B,p6,F,Y,z,p8,D,p9,C,Z,A,aa⟩:f.cell? ⟨w.heap.size,0,none⟩=some (.int .i64 k)/\f.frozen? ⟨w.heap.size,0,none⟩=false/\f.cell? ⟨w.heap.size,1,none⟩=some (.int .i64 op)/\f.frozen? ⟨w.heap.size,1,none⟩=false/\f.cell? ⟨w.heap.size,2,none⟩=some (.slice a1 t.length c1)/\f.frozen? ⟨w.heap.size,2,none⟩=false/\f.cell? ⟨w.heap.size,3,none⟩=some (.slice a2 ns.length c2)/\f.frozen? ⟨w.heap.size,3,none⟩=false/\f.cell? ⟨w.heap.size,4,none⟩=some (.slice a3 cs.length c3)/\f.frozen? ⟨w.heap.size,4,none⟩=false/\f.cell? ⟨w.heap.size,5,none⟩=some (.slice a4 kids.length c4)/\f.frozen? ⟨w.heap.size,5,none⟩=false/\f.cell? ⟨(w.heap.size+1),0,none⟩=some (.int .i64 0)/\f.frozen? ⟨(w.heap.size+1),0,none⟩=false/\f.cell? ⟨(w.heap.size+1),1,none⟩=some (.int .i64 0)/\f.frozen? ⟨(w.heap.size+1),1,none⟩=false/\f.cell? ⟨(w.heap.size+1),2,none⟩=some (.slice none 0 0)/\f.frozen? ⟨(w.heap.size+1),2,none⟩=false/\f.cell? ⟨(w.heap.size+1),3,none⟩=some (.slice none 0 0)/\f.frozen? ⟨(w.heap.size+1),3,none⟩=false/\f.cell? ⟨(w.heap.size+1),4,none⟩=some (.slice none 0 0)/\f.frozen? ⟨(w.heap.size+1),4,none⟩=false/\f.cell? ⟨(w.heap.size+1),5,none⟩=some (.slice none 0 0)/\f.frozen? ⟨(w.heap.size+1),5,none⟩=false:=⟨gcA d,gfA d,gcA d,gfA d,gcA d,gfA d,gcA d,gfA d,gcA d,gfA d,gcA d,gfA d,gcA d,gfA d,gcA d,gfA d,gcA d,gfA d,gcA d,gfA d,gcA d,gfA d,gcA d,gfA d⟩) | (at_builtin;refine Ou rfl _ _ rfl (Fr Q w.heap.size (w.heap.size+2)) i cs (.slice a3 cs.length c3) rfl rfl rfl aG omz ?_;intro bb cc w3 xs ag ak dS fJ V;have au:=hid ag;have ar:=hid ak;have dJ:Hid ((i.alloc (.cells #[] 40)).grownBy w3 (some i.heap.size)):=V;have iO:=(mM.alloc _).grownO V yAb;have iL:=(mJ.alloc _).grownO V yAb;have bK:H5 w3 g (P+2):=Et (Cb dL _) V yAc;have bU:=Jk (D5 kM _) V yAc;clear ag ak V L q1 T U S N B F z D C A M J K R X O p6 Y p8 p9 Z aa;obtain⟨ac,L,q1,T,U,S,N,M,J,K,R,X,O⟩:=iO;obtain⟨af,B,F,z,D,C,A,p6,Y,p8,p9,Z,aa⟩:=iL) | (at_builtin;refine wpList_append_own_at _ rfl _ _ 44 rfl i.heap.size 40 ie (.agg #[.int .i64 0, .slice none 0 0]) 2 32 underlying44 bm kL kK kJ rfl dcz _ _ _ rfl ((Bl au d omz).alloc _) _ _ _ [.int .i64 aP, .slice ea aN.length ec] rfl rfl yBb yCa yAe omz (by rw[World.size_alloc];have:=d.size;omega) ?_;intro v' w6 ai aC bQ aV;have rG:=hid ai;have bH:Hid ((f.alloc (.cells #[.int .i64 aP, .slice ea aN.length ec] 40)).grownBy w6 (some bb)):=aC;obtain⟨y6,z6,aF,-⟩:=Gx ai;subst aF;have iM:=(Mc.alloc (show Mc f w.heap.size k op (.slice a1 t.length c1) (.slice a2 ns.length c2) (.slice a3 cs.length c3) (.slice a4 kids.length c4) from abA) _).grownO bH yAb;have fO:=(Mc.alloc (show Mc f (w.heap.size+1) 0 0 (.slice none 0 0) (.slice none 0 0) (.slice none 0 0) (.slice none 0 0) from abA) _).grownO bH yAb;clear ai aC bQ aV L q1 T U S N B F z D C A M J K R X O p6 Y p8 p9 Z aa;obtain⟨ac,L,q1,T,U,S,N,M,J,K,R,X,O⟩:=iM;obtain⟨af,B,F,z,D,C,A,p6,Y,p8,p9,Z,aa⟩:=fO))
     have ae:Ac (λb=>Fr Q w.heap.size (w.heap.size+2) b/\b<i.heap.size) i w3:=(Ac.of_below (Aa _ _)).trans (Ac.of_grown dJ (λb hb e=>by simp only[A65] at e;exact absurd hb.2 omz));have dH:∀b,b<i.heap.size->Fr Q w.heap.size (w.heap.size+2) b->Fr Q w.heap.size (w.heap.size+2) b/\b<i.heap.size:=λb hb h=>⟨h,hb⟩
     have bT:∀b,b<w3.heap.size->(Fr Q w.heap.size (w.heap.size+2) b/\b<i.heap.size)->Fr Q w.heap.size (w.heap.size+2) b/\b≠bb:=λb _ h=>⟨h.1,by have:=h.2;omega⟩
     have qP:RowOf 2 (Ls (λb=>Fr Q w.heap.size (w.heap.size+2) b/\b≠bb) w3) xs cs:=ar.imp λ_ _ _ h=>h.mono bT
     have bp:i.heap.size+1<=w3.heap.size:=by have:=dJ.size;simpa using this
     have ap:Ac (λb=>Fr Q w.heap.size (w.heap.size+2) b/\b≠bb) w3 f:=Ez (Gq HQ omz d) (λb _ h=>h.1);have I:Ac (λb=>Fr Q w.heap.size (w.heap.size+2) b/\b≠bb) w3 (f.alloc (.cells #[.int .i64 aP, .slice ea aN.length ec] 40)):=ap.trans (Ac.of_below (Aa _ _));have nU:=Aci (R':=(Fr Q w.heap.size (w.heap.size+2))) (v:=.slice (some ⟨bb,0,none⟩) cs.length cc) (n:=⟨aP,aN⟩) (qP.imp λ_ _ _ h=>h.keep I) ⟨_,rfl,((Eo dM).mono (λb _ hb=>⟨Or.inr omz,omz⟩)).keep (Ac.of_below (Aa _ _))⟩ rfl bH (λb hb e=>hb.2 yBg) (λb hb=>hb.1);have e6:cs.length+1=(cs++[(⟨aP,aN⟩:Stil.Elem)]).length:=spz
     have aL:Dk (Fr Q w.heap.size (w.heap.size+2)) w6 (.slice y6 (cs.length+1) z6) (cs++[⟨aP,aN⟩]):=by
      have ho:=rG.out;rw[e6] at ho ⊢;exact Ja ho nU (λb hb=>Or.inr yCg)
     have aj:Ac (λb=>Fr Q w.heap.size (w.heap.size+2) b/\b≠bb) (f.alloc (.cells #[.int .i64 aP, .slice ea aN.length ec] 40)) w6:=Ac.of_grown bH (λb hb e=>hb.2 yCc);have aM:=((((((aA.mono dH).keep ae).mono bT).keep I).keep aj)).mono λb _ h=>h.1
     have qQ:=((((((dO.mono dH).keep ae).mono bT).keep I).keep aj)).mono λb _ h=>h.1
     have bc:=((((((mV.mono dH).keep ae).mono bT).keep I).keep aj)).mono λb _ h=>h.1
     have lI:H5 w6 g (P+90):=Fg (Et (Cb al _) bH yAc) omz;have jA:=Jk (D5 (Dx bU d) _) bH yAc;refine bodyPost_ret (by simp[results,results46,go_sem,B,F,z,D,C,A];rfl) rfl ?_;refine⟨⟨⟨k,⟨op,t⟩,ns⟩,cs++[⟨aP,aN⟩],kids⟩,_,_,_,_,rfl,Ce.mono (aM.keep kfA) (Gp _),Dv.mono (qQ.keep kfA) (Gp _),Dk.mono (aL.keep kfA) (Gp _),Es.mono (bc.keep kfA) (Gp _),?_,?_,rlA,glA⟩
     ·refine(Gy _ _ _).2 ⟨HT.parts.1,λx hx=>?_,HT.parts.2.2⟩
      rcases List.mem_append.1 hx with h | h
      ·exact HT.parts.2.1 x h
      ·rw[List.mem_singleton.1 h];exact⟨bV,gW,by show aN.length<=100000;omega⟩
     ·have:=iQ.out
      rw[Fe];simp only[Fq,A52,A6g,A78,A53,A54,A6k,A66,A7b,A8b,N7] at this ⊢;omega
    ·go_wp2_with (first | (go_at_call 42;refine(Qy g _ _ (by exact bK) omz).mono ?_;rintro e f ⟨aP,ev,aN,rfl,bV,dM,gW,pJ,al,d⟩;obtain⟨ea,ec,rfl,_,_⟩:=id dM;have ac:w.heap.size<f.heap.size:=A51 ltA d.size;have af:=A51 ltA d.size;obtain⟨L,M,q1,J,T,K,U,R,S,X,N,O,B,p6,F,Y,z,p8,D,p9,C,Z,A,aa⟩:f.cell? ⟨w.heap.size,0,none⟩=some (.int .i64 k)/\f.frozen? ⟨w.heap.size,0,none⟩=false/\f.cell? ⟨w.heap.size,1,none⟩=some (.int .i64 op)/\f.frozen? ⟨w.heap.size,1,none⟩=false/\f.cell? ⟨w.heap.size,2,none⟩=some (.slice a1 t.length c1)/\f.frozen? ⟨w.heap.size,2,none⟩=false/\f.cell? ⟨w.heap.size,3,none⟩=some (.slice a2 ns.length c2)/\f.frozen? ⟨w.heap.size,3,none⟩=false/\f.cell? ⟨w.heap.size,4,none⟩=some (.slice a3 cs.length c3)/\f.frozen? ⟨w.heap.size,4,none⟩=false/\f.cell? ⟨w.heap.size,5,none⟩=some (.slice a4 kids.length c4)/\f.frozen? ⟨w.heap.size,5,none⟩=false/\f.cell? ⟨(w.heap.size+1),0,none⟩=some (.int .i64 0)/\f.frozen? ⟨(w.heap.size+1),0,none⟩=false/\f.cell? ⟨(w.heap.size+1),1,none⟩=some (.int .i64 0)/\f.frozen? ⟨(w.heap.size+1),1,none⟩=false/\f.cell? ⟨(w.heap.size+1),2,none⟩=some (.slice none 0 0)/\f.frozen? ⟨(w.heap.size+1),2,none⟩=false/\f.cell? ⟨(w.heap.size+1),3,none⟩=some (.slice none 0 0)/\f.frozen? ⟨(w.heap.size+1),3,none⟩=false/\f.cell? ⟨(w.heap.size+1),4,none⟩=some (.slice none 0 0)/\f.frozen? ⟨(w.heap.size+1),4,none⟩=false/\f.cell? ⟨(w.heap.size+1),5,none⟩=some (.slice none 0 0)/\f.frozen? ⟨(w.heap.size+1),5,none⟩=false:=⟨gcA d,gfA d,gcA d,gfA d,gcA d,gfA d,gcA d,gfA d,gcA d,gfA d,gcA d,gfA d,gcA d,gfA d,gcA d,gfA d,gcA d,gfA d,gcA d,gfA d,gcA d,gfA d,gcA d,gfA d⟩) | (go_at_call 77;refine(Aj2 g _ aP _ aN _ raA omz bV (dM.mono omz) gW omz).mono ?_;rintro e s ⟨dW,fv,an,rfl,uU,wU,jm,bP,al,y⟩;obtain⟨fa,fc,rfl,_,_⟩:=id wU;have ac:w.heap.size<s.heap.size:=A51 ltA y.size;have af:=A51 ltA y.size;obtain⟨L,M,q1,J,T,K,U,R,S,X,N,O,B,p6,F,Y,z,p8,D,p9,C,Z,A,aa⟩:s.cell? ⟨w.heap.size,0,none⟩=some (.int .i64 k)/\s.frozen? ⟨w.heap.size,0,none⟩=false/\s.cell? ⟨w.heap.size,1,none⟩=some (.int .i64 op)/\s.frozen? ⟨w.heap.size,1,none⟩=false/\s.cell? ⟨w.heap.size,2,none⟩=some (.slice a1 t.length c1)/\s.frozen? ⟨w.heap.size,2,none⟩=false/\s.cell? ⟨w.heap.size,3,none⟩=some (.slice a2 ns.length c2)/\s.frozen? ⟨w.heap.size,3,none⟩=false/\s.cell? ⟨w.heap.size,4,none⟩=some (.slice a3 cs.length c3)/\s.frozen? ⟨w.heap.size,4,none⟩=false/\s.cell? ⟨w.heap.size,5,none⟩=some (.slice a4 kids.length c4)/\s.frozen? ⟨w.heap.size,5,none⟩=false/\s.cell? ⟨(w.heap.size+1),0,none⟩=some (.int .i64 0)/\s.frozen? ⟨(w.heap.size+1),0,none⟩=false/\s.cell? ⟨(w.heap.size+1),1,none⟩=some (.int .i64 0)/\s.frozen? ⟨(w.heap.size+1),1,none⟩=false/\s.cell? ⟨(w.heap.size+1),2,none⟩=some (.slice none 0 0)/\s.frozen? ⟨(w.heap.size+1),2,none⟩=false/\s.cell? ⟨(w.heap.size+1),3,none⟩=some (.slice none 0 0)/\s.frozen? ⟨(w.heap.size+1),3,none⟩=false/\s.cell? ⟨(w.heap.size+1),4,none⟩=some (.slice none 0 0)/\s.frozen? ⟨(w.heap.size+1),4,none⟩=false/\s.cell? ⟨(w.heap.size+1),5,none⟩=some (.slice none 0 0)/\s.frozen? ⟨(w.heap.size+1),5,none⟩=false:=⟨gcA y,gfA y,gcA y,gfA y,gcA y,gfA y,gcA y,gfA y,gcA y,gfA y,gcA y,gfA y,gcA y,gfA y,gcA y,gfA y,gcA y,gfA y,gcA y,gfA y,gcA y,gfA y,gcA y,gfA y⟩) | (at_builtin;refine Ou rfl _ _ rfl (Fr Q w.heap.size (w.heap.size+2)) i cs (.slice a3 cs.length c3) rfl rfl rfl aG omz ?_;intro bb cc w3 xs ag ak dS fJ V;have au:=hid ag;have ar:=hid ak;have dJ:Hid ((i.alloc (.cells #[] 40)).grownBy w3 (some i.heap.size)):=V;have iO:=(mM.alloc _).grownO V yAb;have iL:=(mJ.alloc _).grownO V yAb;have bK:H5 w3 g (P+2):=Et (Cb dL _) V yAc;have bU:=Jk (D5 kM _) V yAc;clear ag ak V L q1 T U S N B F z D C A M J K R X O p6 Y p8 p9 Z aa;obtain⟨ac,L,q1,T,U,S,N,M,J,K,R,X,O⟩:=iO;obtain⟨af,B,F,z,D,C,A,p6,Y,p8,p9,Z,aa⟩:=iL) | (at_builtin;refine wpList_append_own_at _ rfl _ _ 44 rfl i.heap.size 40 ie (.agg #[.int .i64 0, .slice none 0 0]) 2 32 underlying44 bm kL kK kJ rfl dcz _ _ _ rfl ((Bl (Bl au d omz) y omz).alloc _) _ _ _ [.int .i64 dW, .slice fa an.length fc] rfl rfl yBb yCa yAe omz (by rw[World.size_alloc];have:=d.size;have:=y.size;omega) ?_;intro v' w6 ai aC bQ aV;have rG:=hid ai;have bH:Hid ((s.alloc (.cells #[.int .i64 dW, .slice fa an.length fc] 40)).grownBy w6 (some bb)):=aC;obtain⟨y6,z6,aF,-⟩:=Gx ai;subst aF;have iM:=(Mc.alloc (show Mc s w.heap.size k op (.slice a1 t.length c1) (.slice a2 ns.length c2) (.slice a3 cs.length c3) (.slice a4 kids.length c4) from abA) _).grownO bH yAb;have fO:=(Mc.alloc (show Mc s (w.heap.size+1) 0 0 (.slice none 0 0) (.slice none 0 0) (.slice none 0 0) (.slice none 0 0) from abA) _).grownO bH yAb;clear ai aC bQ aV L q1 T U S N B F z D C A M J K R X O p6 Y p8 p9 Z aa;obtain⟨ac,L,q1,T,U,S,N,M,J,K,R,X,O⟩:=iM;obtain⟨af,B,F,z,D,C,A,p6,Y,p8,p9,Z,aa⟩:=fO))
     have ae:Ac (λb=>Fr Q w.heap.size (w.heap.size+2) b/\b<i.heap.size) i w3:=(Ac.of_below (Aa _ _)).trans (Ac.of_grown dJ (λb hb e=>by simp only[A65] at e;exact absurd hb.2 omz));have dH:∀b,b<i.heap.size->Fr Q w.heap.size (w.heap.size+2) b->Fr Q w.heap.size (w.heap.size+2) b/\b<i.heap.size:=λb hb h=>⟨h,hb⟩
     have bT:∀b,b<w3.heap.size->(Fr Q w.heap.size (w.heap.size+2) b/\b<i.heap.size)->Fr Q w.heap.size (w.heap.size+2) b/\b≠bb:=λb _ h=>⟨h.1,by have:=h.2;omega⟩
     have qP:RowOf 2 (Ls (λb=>Fr Q w.heap.size (w.heap.size+2) b/\b≠bb) w3) xs cs:=ar.imp λ_ _ _ h=>h.mono bT
     have bp:i.heap.size+1<=w3.heap.size:=by have:=dJ.size;simpa using this
     have ap:Ac (λb=>Fr Q w.heap.size (w.heap.size+2) b/\b≠bb) w3 s:=(Ez (Gq HQ omz d) (λb _ h=>h.1)).trans (Ez (Gq HQ omz y) (λb _ h=>h.1));have I:Ac (λb=>Fr Q w.heap.size (w.heap.size+2) b/\b≠bb) w3 (s.alloc (.cells #[.int .i64 dW, .slice fa an.length fc] 40)):=ap.trans (Ac.of_below (Aa _ _));have nU:=Aci (R':=(Fr Q w.heap.size (w.heap.size+2))) (v:=.slice (some ⟨bb,0,none⟩) cs.length cc) (n:=⟨dW,an⟩) (qP.imp λ_ _ _ h=>h.keep I) ⟨_,rfl,((Eo wU).mono (λb _ hb=>by have:=d.size;exact⟨Or.inr omz,omz⟩)).keep (Ac.of_below (Aa _ _))⟩ rfl bH (λb hb e=>hb.2 yBg) (λb hb=>hb.1);have e6:cs.length+1=(cs++[(⟨dW,an⟩:Stil.Elem)]).length:=spz
     have aL:Dk (Fr Q w.heap.size (w.heap.size+2)) w6 (.slice y6 (cs.length+1) z6) (cs++[⟨dW,an⟩]):=by
      have ho:=rG.out;rw[e6] at ho ⊢;exact Ja ho nU (λb hb=>Or.inr yCg)
     have aj:Ac (λb=>Fr Q w.heap.size (w.heap.size+2) b/\b≠bb) (s.alloc (.cells #[.int .i64 dW, .slice fa an.length fc] 40)) w6:=Ac.of_grown bH (λb hb e=>hb.2 yCc);have aM:=((((((aA.mono dH).keep ae).mono bT).keep I).keep aj)).mono λb _ h=>h.1
     have qQ:=((((((dO.mono dH).keep ae).mono bT).keep I).keep aj)).mono λb _ h=>h.1
     have bc:=((((((mV.mono dH).keep ae).mono bT).keep I).keep aj)).mono λb _ h=>h.1
     have lI:H5 w6 g (P+90):=Fg (Et (Cb al _) bH yAc) omz;have jA:=Jk (D5 (Dx (Dx bU d) y) _) bH yAc;refine bodyPost_ret (by simp[results,results46,go_sem,B,F,z,D,C,A];rfl) rfl ?_;refine⟨⟨⟨k,⟨op,t⟩,ns⟩,cs++[⟨dW,an⟩],kids⟩,_,_,_,_,rfl,Ce.mono (aM.keep kfA) (Gp _),Dv.mono (qQ.keep kfA) (Gp _),Dk.mono (aL.keep kfA) (Gp _),Es.mono (bc.keep kfA) (Gp _),?_,?_,rlA,glA⟩
     ·refine(Gy _ _ _).2 ⟨HT.parts.1,λx hx=>?_,HT.parts.2.2⟩
      rcases List.mem_append.1 hx with h | h
      ·exact HT.parts.2.1 x h
      ·rw[List.mem_singleton.1 h];exact⟨uU,jm,by show an.length<=100000;omega⟩
     ·have:=iQ.out
      rw[Fe];simp only[Fq,A52,A6g,A78,A53,A54,A6k,A66,A7b,A8b,N7] at this ⊢;omega
    ·go_wp2_with (first | (at_builtin;refine Qn rfl _ _ rfl (Fr Q w.heap.size (w.heap.size+2)) i kids (.slice a4 kids.length c4) rfl rfl rfl mV omz ?_;intro bb cc w3 xs ag ak dS fJ V;have au:=hid ag;have ar:=hid ak;have dJ:Hid ((i.alloc (.cells #[] 46)).grownBy w3 (some i.heap.size)):=V;have iO:=(mM.alloc _).grownO V yAb;have iL:=(mJ.alloc _).grownO V yAb;have bK:H5 w3 g (P+2):=Et (Cb dL _) V yAc;have bU:=Jk (D5 kM _) V yAc;clear ag ak V L q1 T U S N B F z D C A M J K R X O p6 Y p8 p9 Z aa;obtain⟨ac,L,q1,T,U,S,N,M,J,K,R,X,O⟩:=iO;obtain⟨af,B,F,z,D,C,A,p6,Y,p8,p9,Z,aa⟩:=iL) | (at_builtin;refine wpList_append_own_at _ rfl _ _ 23 rfl i.heap.size 46 ia (.agg #[.int .i64 0, .int .i64 0, .slice none 0 0, .slice none 0 0, .slice none 0 0, .slice none 0 0]) 6 112 underlying23 bE gJ gI gG rfl dcz _ _ _ rfl (au.alloc _) _ _ _ [.int .i64 0, .int .i64 0, .slice none 0 0, .slice none 0 0, .slice none 0 0, .slice none 0 0] rfl rfl yBb yAf yAe omz yBf ?_;intro v' w6 ai aC bQ aV;have rG:=hid ai;have bH:Hid ((w3.alloc (.cells #[.int .i64 0, .int .i64 0, .slice none 0 0, .slice none 0 0, .slice none 0 0, .slice none 0 0] 46)).grownBy w6 (some bb)):=aC;obtain⟨y6,z6,aF,-⟩:=Gx ai;subst aF;have iM:=(Mc.alloc (show Mc w3 w.heap.size k op (.slice a1 t.length c1) (.slice a2 ns.length c2) (.slice a3 cs.length c3) (.slice a4 kids.length c4) from abA) _).grownO bH yAb;have fO:=(Mc.alloc (show Mc w3 (w.heap.size+1) 0 0 (.slice none 0 0) (.slice none 0 0) (.slice none 0 0) (.slice none 0 0) from abA) _).grownO bH yAb;clear ai aC bQ aV L q1 T U S N B F z D C A M J K R X O p6 Y p8 p9 Z aa;obtain⟨ac,L,q1,T,U,S,N,M,J,K,R,X,O⟩:=iM;obtain⟨af,B,F,z,D,C,A,p6,Y,p8,p9,Z,aa⟩:=fO))
     have ae:Ac (λb=>Fr Q w.heap.size (w.heap.size+2) b/\b<i.heap.size) i w3:=(Ac.of_below (Aa _ _)).trans (Ac.of_grown dJ (λb hb e=>by simp only[A65] at e;exact absurd hb.2 omz));have dH:∀b,b<i.heap.size->Fr Q w.heap.size (w.heap.size+2) b->Fr Q w.heap.size (w.heap.size+2) b/\b<i.heap.size:=λb hb h=>⟨h,hb⟩
     have bT:∀b,b<w3.heap.size->(Fr Q w.heap.size (w.heap.size+2) b/\b<i.heap.size)->Fr Q w.heap.size (w.heap.size+2) b/\b≠bb:=λb _ h=>⟨h.1,by have:=h.2;omega⟩
     have qP:RowOf 6 (Ot (λb=>Fr Q w.heap.size (w.heap.size+2) b/\b≠bb) w3) xs kids:=ar.imp λ_ _ _ h=>h.mono bT
     have bp:i.heap.size+1<=w3.heap.size:=by have:=dJ.size;simpa using this
     have ap:Ac (λb=>Fr Q w.heap.size (w.heap.size+2) b/\b≠bb) w3 w3:=Ac.refl _ _;have I:Ac (λb=>Fr Q w.heap.size (w.heap.size+2) b/\b≠bb) w3 (w3.alloc (.cells #[.int .i64 0, .int .i64 0, .slice none 0 0, .slice none 0 0, .slice none 0 0, .slice none 0 0] 46)):=ap.trans (Ac.of_below (Aa _ _));have nU:=Afc (R':=(Fr Q w.heap.size (w.heap.size+2))) (v:=.slice (some ⟨bb,0,none⟩) kids.length cc) (n:=⟨⟨0,⟨0,[]⟩,[]⟩,[],[]⟩) (qP.imp λ_ _ _ h=>h.keep I) ⟨_,_,_,_,rfl,Qz _ _,I5 _ _,Xi _ _,Q7 _ _⟩ rfl bH (λb hb e=>hb.2 yBg) (λb hb=>hb.1);have e6:kids.length+1=(kids++[(⟨⟨0,⟨0,[]⟩,[]⟩,[],[]⟩:Stil.Arm)]).length:=spz
     have aL:Es (Fr Q w.heap.size (w.heap.size+2)) w6 (.slice y6 (kids.length+1) z6) (kids++[⟨⟨0,⟨0,[]⟩,[]⟩,[],[]⟩]):=by
      have ho:=rG.out;rw[e6] at ho ⊢;exact Fb ho nU (λb hb=>Or.inr yCg)
     have aj:Ac (λb=>Fr Q w.heap.size (w.heap.size+2) b/\b≠bb) (w3.alloc (.cells #[.int .i64 0, .int .i64 0, .slice none 0 0, .slice none 0 0, .slice none 0 0, .slice none 0 0] 46)) w6:=Ac.of_grown bH (λb hb e=>hb.2 yCc);have aM:=((((((aA.mono dH).keep ae).mono bT).keep I).keep aj)).mono λb _ h=>h.1
     have qQ:=((((((dO.mono dH).keep ae).mono bT).keep I).keep aj)).mono λb _ h=>h.1
     have bC:=((((((aG.mono dH).keep ae).mono bT).keep I).keep aj)).mono λb _ h=>h.1
     have lI:H5 w6 g (P+90):=Fg (Et (Cb bK _) bH yAc) omz;have jA:=Jk (D5 bU _) bH yAc;refine bodyPost_ret (by simp[results,results46,go_sem,B,F,z,D,C,A];rfl) rfl ?_;refine⟨⟨⟨k,⟨op,t⟩,ns⟩,cs,kids++[⟨⟨0,⟨0,[]⟩,[]⟩,[],[]⟩]⟩,_,_,_,_,rfl,Ce.mono (aM.keep kfA) (Gp _),Dv.mono (qQ.keep kfA) (Gp _),Dk.mono (bC.keep kfA) (Gp _),Es.mono (aL.keep kfA) (Gp _),?_,?_,rlA,glA⟩
     ·refine(Gy _ _ _).2 ⟨HT.parts.1,HT.parts.2.1,λx hx=>?_⟩
      rcases List.mem_append.1 hx with h | h
      ·exact HT.parts.2.2 x h
      ·rw[List.mem_singleton.1 h];exact(Gy _ _ _).2 ⟨Ws,λ_ h=>yAi,λ_ h=>yAi⟩
     ·have:=iQ.out
      rw[Fe];simp only[A52,A6g,A78,A53,A54,A6k,A66,A7b,A8b];have e9:F5 ⟨⟨0,⟨0,[]⟩,[]⟩,[],[]⟩=0:=by rw[Fe,Ee];simp[Fq]
      rw[e9];omega
    ·have bN:H6 ⟨k,⟨op,t⟩,ns⟩<=aW:=by have:=iQ.out;omega
     have y8:Hid (Calls prog 78 #[.pointer (some ⟨g,0,none⟩), .agg #[.int .i64 k, .int .i64 op, .slice a1 t.length c1, .slice a2 ns.length c2]] i λe w'=>Ayv (Fr Q w.heap.size (w.heap.size+2)) e i w' g (P+2+10*H6 ⟨k,⟨op,t⟩,ns⟩+60) (H6 ⟨k,⟨op,t⟩,ns⟩+20)):=
      Aj0 ⟨k,⟨op,t⟩,ns⟩ _ g (P+2) i _ _ (λb hb=>by rcases hb with h | h;exact HQ b h.1;omega) aA dO HT.parts.1 omz dL omz
     go_wp2_with (go_at_call 78;refine(y8.out).mono ?_;rintro e f ⟨ab,yh,bG,rfl,fK,jG,pG,pX,al,d⟩;have rP:=hid fK;have jE:=hid jG;obtain⟨y1,z1,rfl,-⟩:=fK;obtain⟨y2,z2,rfl,-⟩:=jG;have ac:w.heap.size<f.heap.size:=A51 ltA d.size;have af:=A51 ltA d.size;obtain⟨L,M,q1,J,T,K,U,R,S,X,N,O,B,p6,F,Y,z,p8,D,p9,C,Z,A,aa⟩:f.cell? ⟨w.heap.size,0,none⟩=some (.int .i64 k)/\f.frozen? ⟨w.heap.size,0,none⟩=false/\f.cell? ⟨w.heap.size,1,none⟩=some (.int .i64 op)/\f.frozen? ⟨w.heap.size,1,none⟩=false/\f.cell? ⟨w.heap.size,2,none⟩=some (.slice a1 t.length c1)/\f.frozen? ⟨w.heap.size,2,none⟩=false/\f.cell? ⟨w.heap.size,3,none⟩=some (.slice a2 ns.length c2)/\f.frozen? ⟨w.heap.size,3,none⟩=false/\f.cell? ⟨w.heap.size,4,none⟩=some (.slice a3 cs.length c3)/\f.frozen? ⟨w.heap.size,4,none⟩=false/\f.cell? ⟨w.heap.size,5,none⟩=some (.slice a4 kids.length c4)/\f.frozen? ⟨w.heap.size,5,none⟩=false/\f.cell? ⟨(w.heap.size+1),0,none⟩=some (.int .i64 0)/\f.frozen? ⟨(w.heap.size+1),0,none⟩=false/\f.cell? ⟨(w.heap.size+1),1,none⟩=some (.int .i64 0)/\f.frozen? ⟨(w.heap.size+1),1,none⟩=false/\f.cell? ⟨(w.heap.size+1),2,none⟩=some (.slice none 0 0)/\f.frozen? ⟨(w.heap.size+1),2,none⟩=false/\f.cell? ⟨(w.heap.size+1),3,none⟩=some (.slice none 0 0)/\f.frozen? ⟨(w.heap.size+1),3,none⟩=false/\f.cell? ⟨(w.heap.size+1),4,none⟩=some (.slice none 0 0)/\f.frozen? ⟨(w.heap.size+1),4,none⟩=false/\f.cell? ⟨(w.heap.size+1),5,none⟩=some (.slice none 0 0)/\f.frozen? ⟨(w.heap.size+1),5,none⟩=false:=⟨gcA d,gfA d,gcA d,gfA d,gcA d,gfA d,gcA d,gfA d,gcA d,gfA d,gcA d,gfA d,gcA d,gfA d,gcA d,gfA d,gcA d,gfA d,gcA d,gfA d,gcA d,gfA d,gcA d,gfA d⟩)
     have ao:∀b,b<f.heap.size->Fr (Fr Q w.heap.size (w.heap.size+2)) i.heap.size i.heap.size b->Fr Q w.heap.size (w.heap.size+2) b:=λb _ h=>by
      rcases h with h | h
      ·exact h.1
      ·exact Or.inr omz
     have ap:Ac (Fr Q w.heap.size (w.heap.size+2)) i f:=Gq HQ omz d;refine bodyPost_ret (by simp[results,results46,go_sem,B,F,z,D,C,A];rfl) rfl ?_;refine⟨⟨ab,cs,kids⟩,_,_,_,_,rfl,Ce.mono ((rP.mono ao).keep kfA) (Gp _),Dv.mono ((jE.mono ao).keep kfA) (Gp _),Dk.mono ((aG.keep ap).keep kfA) (Gp _),Es.mono ((mV.keep ap).keep kfA) (Gp _),(Gy _ _ _).2 ⟨pG,HT.parts.2⟩,?_,rlA,glA⟩;have:=iQ.out
     rw[Fe];omega
end Go.Proofs.YtnpfcnolmkanfaaGreatDoor
