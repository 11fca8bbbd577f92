import Derived.Test.YtifcnfeppdbjdaaGreatDoorGm
set_option maxHeartbeats 4000000
set_option maxRecDepth 100000
namespace Go.Proofs.YtifcnfeppdbjdaaGreatDoor
open Tryz Stil Go.RowKit Go.Sort Go.BigFrame
theorem Aul (k:Int)(m:Ak):(Qx k m).map Ak.net=Cc k [m.net]:=by
 rw[O8,Ak.net_eq];unfold Qx;simp only;split
 ·rfl
 ·rw[GU,Ak.net_eq]
theorem tW (k:Int)(m:Ak):(Gv (Qx k m)).Sublist m.vals:=by
 unfold Qx;split
 ·rw[Ak.vals_eq]
  exact List.Sublist.cons _ (List.Sublist.cons _ (Ek _))
 ·rw[Md];exact Ek _
theorem Ww (k:Int)(B base:Nat)(b:List Ak)(a:Option Addr)(cap:Nat)(w:World)(aj:w.cell? (AK B 0)=some (AB k))(hB:B<w.heap.size)(ag:N8 w base (AE a b.length cap) b)(hl:Stil.sizes (b.map Ak.net)<=999999)(an:base<=w.heap.size):
  Calls prog 142 #[AE a b.length cap,AG, .func (.func 144) #[] #[AH B]] w λe K=>∃(a:Option Addr) (c:Nat) (f:List Ak),e=.returned (AE a f.length c)/\f.map Ak.net=Cc k (b.map Ak.net)/\N8 K base (AE a f.length c) f/\AO w K/\(Gv f).Sublist (Gv b)/\∀q,(Value.slice a f.length c).ownBlock=some q->w.heap.size<=q:=by
 have P:=AV ag;have l9:=AV hl;have ao:b.length<=1000000:=by
  have G:=Js (b.map Ak.net);rw[CW] at G;omega
 clear ag hl;go_enter func142,ntmps142
 go_wp2
 go_loopw [1,11] (λd i wr=>∃(j:Nat) (f:List Ak) (t:Option Addr) (s:Nat),j<=b.length/\i=AB j/\d=AE t f.length s/\f.map Ak.net=Cc k ((b.take j).map Ak.net)/\N8 wr base (AE t f.length s) f/\(Gv f).Sublist (Gv (b.take j))/\(∀q,(Value.slice t f.length s).ownBlock=some q->w.heap.size<=q)/\AO w wr) (λ_ i _=>b.length - (intOf i).toNat)
 case atStart=>exact⟨0,[],none,0,AQ,rfl,rfl,rfl,N8.nil _ _,Ek _,(λq T=>by cases T),Below.refl _ _⟩
 case round=>
  obtain⟨j,f,t,s,hj,rfl,rfl,C,ac,D,af,r⟩:=hrel;have U:=AV C;have aU:=AV ac;have Y:=AV D;have X:=AV af;clear C ac D af;by_cases V:j<b.length
  ·obtain⟨g,c,hv,_,E,_,F⟩:=Cb P.1 AQ
   obtain⟨a1,O,a3,a4⟩:=O6 b j V;have x0:=(r.cell (p:=(AK g (j*4))) E).trans (F _ _ a1);have x1:=(r.cell (p:=(AK g (j*4+1))) E).trans (F _ _ O);have x2:=(r.cell (p:=(AK g (j*4+2))) E).trans (F _ _ a3);have x3:=(r.cell (p:=(AK g (j*4+3))) E).trans (F _ _ a4);have N:=P.one j V;have I:=AV (D2 V);have R:=(Jw _ _ _).1 N.1;obtain⟨y,x,hd⟩:=Ah R.1;obtain⟨z,v,aa⟩:=Ah R.2.1;have L:f.length+b[j].kids.length+1<=1000000:=by
    have G:=congrArg List.length U.out;rw[CW] at G;have Z:=Js (Cc k ((b.take j).map Ak.net));have h3:=Ld k ((b.take j).map Ak.net);have h4:=WJ (b.map Ak.net) (j+1);rw[<-List.map_take,I.out,CU,Uw] at h4;have h5:Stil.sizes ([b[j]].map Ak.net)=Af b[j].net:=by simp[Stil.sizes]
    have h6:=Eg b[j].net;have h7:=Js b[j].net.kids;have h8:b[j].net.kids.length=b[j].kids.length:=by rw[Ak.net_eq];simp
    have:=l9.out
    omega
   have S:(Value.slice t f.length s::(Gv f++b[j].vals)).Pairwise Aside:=by
    have ae:(Gv f++b[j].vals).Sublist (Gv b):=by
     have G:(Gv f++b[j].vals).Sublist (Gv (b.take (j+1))):=by
      rw[I.out,Q8,Md];exact List.Sublist.append Y (Ek _)
     refine G.trans ?_;have Z:=Q8 (b.take (j+1)) (b.drop (j+1));rw[IG] at Z;rw[Z];exact List.sublist_append_left _ _
    rw[EQ];refine⟨λak hy=>(Ho (n:=w.heap.size) (λq T=>(P.lt ak (CQ _ (ae.subset hy)) q T).2) X.out).symm,List.Pairwise.sublist ae (List.pairwise_cons.1 P.2.2).2⟩
   have H:Hid ((Gv (f++Qx k b[j])).Sublist (Gv (b.take (j+1)))):=by
    show List.Sublist _ _
    rw[I.out,Q8,Q8,Md];exact List.Sublist.append Y (tW k _)
   have J:Hid ((f++Qx k b[j]).map Ak.net=Cc k ((b.take (j+1)).map Ak.net)):=by
    show _=_
    rw[I.out,CU,CU,Me,U.out,Aul];rfl
   obtain⟨m,hm⟩:=AA (b[j])
   rw[<-hm] at x0 x1 x2 x3 N hd aa L S H J;clear hm R I a1 O a3 a4 F;obtain⟨u,A,o,zg,zf,l⟩:=m;simp only at x0 x1 x2 x3 hd aa L;subst hd;subst aa;simp only[Value.slice.injEq] at hv;obtain⟨rfl,_,rfl⟩:=hv;have HI:Hid (∀W,AO wr W->Calls prog 144 #[AE t f.length s, .agg #[AB u,AB A,AE y o.length x,AE z l.length v],AH B] W λe K=>∃(a:Option Addr) (c:Nat),e=.returned (AE a (f.length+(Qx k ⟨u,A,o,AE y o.length x,AE z l.length v,l⟩).length) c)/\N8 K base (AE a (f.length+(Qx k ⟨u,A,o,AE y o.length x,AE z l.length v,l⟩).length) c) (f++Qx k ⟨u,A,o,AE y o.length x,AE z l.length v,l⟩)/\Below w.heap.size W K/\∀j,(Value.slice a (f.length+(Qx k ⟨u,A,o,AE y o.length x,AE z l.length v,l⟩).length) c).ownBlock=some j->w.heap.size<=j):=by
    intro W Q;have M:=r.trans (Q.mono r.size);exact lS k B base w.heap.size t s f u A o y x z v l W ((M.cell (p:=(AK B 0)) hB).trans aj) (CB hB M.size) (aU.below Q) ((N.below r).below Q) S L (CJ an M.size) M.size X.out
   obtain⟨ab,hO⟩:=AA (Qx k ⟨u,A,o,AE y o.length x,AE z l.length v,l⟩)
   rw[<-hO] at HI H J;have ap:=CB E r.size;clear hO N S L E
   go_wp2_with (go_at_call 144;refine(HI _ AW).mono ?_;rintro e w2 ⟨O,c2,rfl,iF,ah,al⟩;have ai:=(show AO w _ from r.trans ((show AO wr _ from AW).mono r.size)).trans ah)
   refine⟨⟨j+1,f++ab,O,c2,AQ,by go_num,by rw[CM],J.out,by rw[CM];exact iF,H.out,by rw[CM];exact al,ai⟩,by simp[intOf];omega⟩
  ·obtain rfl:j=b.length:=by omega
   have C:=U.out;rw[Gk] at C;have J:=AV C;have D:=Y.out;rw[Gk] at D;have H:=AV D;clear C D
   go_wp2
   go_ret;exact⟨t,s,f,rfl,J.out,aU.out,r,H.out,X.out⟩
theorem Ls.setO {w:World}{base:Nat}{m:Ak}(h:Ls w base m){a:Addr}(b:∀x∈m.vals,x.ownBlock≠some a.block)(u:Value):Ls (w.setCell a u) base m:=⟨MOk.map m h.1 (λ_ _ _ _ _ c d=>ownsRow_setCell_other d (b _ c) u),h.2⟩
theorem Ls.setO4 {w:World}{base b g e d j:Nat}{m:Ak}{k l f i:Value}(h:Ls w base m)(c:∀x∈m.vals,x.ownBlock≠some b):Ls ((((w.setCell (AK b g) k).setCell (AK b e) l).setCell (AK b d) f).setCell (AK b j) i) base m:=
 Ls.setO (Ls.setO (Ls.setO (Ls.setO h (a:=(AK b g)) c k) (a:=(AK b e)) c l) (a:=(AK b d)) c f) (a:=(AK b j)) c i
theorem vj (k:Int)(base:Nat)(i:List Ak)(a:Option Addr)(cap:Nat)(w:World)(C:N8 w base (AE a i.length cap) i)(hl:Stil.sizes (i.map Ak.net)<=999999)(ac:base<=w.heap.size):
  Calls prog 124 #[AB k,AE a i.length cap] w λe R=>Rq R base (Gj k (Cc k (i.map Ak.net))) e/\AO w R:=by
 have B:=AV (λW ab h t h2=>Ww k ab base i a cap W t h2 (C.below h) hl (CJ ac h.size));obtain⟨F,hF⟩:=AA (Cc k (i.map Ak.net))
 rw[<-hF] at B ⊢;have nC:=AV (λx hx q hq=>(C.lt x (CQ _ hx) q hq).2);clear C hl hF;go_enter func124,ntmps124;go_upto_region 2 with(go_at_call 142;refine(B _ _ AW (by simp[go_sem]) Ax).mono ?_;rintro e b ⟨z,s,d,rfl,K,L,D,hsub,hvl⟩;have u:=AV K;have r:=AV L;have y:Hid (∀x∈(Value.slice z d.length s)::Gv d,x.ownBlock≠some (w.heap.size+1)):=yCg;clear K L hsub hvl)
 obtain⟨j,o⟩:=Ef D;have ag:w.heap.size+1<b.heap.size:=CB AU D.size;have kd:b.cell? (AL w 0)=some (AB k):=by rw[j _ _ Ax];simp[go_sem]
 have O:b.cell? (AK (w.heap.size+1) 0)=some (AB 0):=by rw[j _ _ AU];simp[go_sem]
 have z1:b.cell? (AK (w.heap.size+1) 1)=some (AB 0):=by rw[j _ _ AU];simp[go_sem]
 have X:b.cell? (AK (w.heap.size+1) 2)=some AG:=by rw[j _ _ AU];simp[go_sem]
 have I:b.cell? (AK (w.heap.size+1) 3)=some AG:=by rw[j _ _ AU];simp[go_sem]
 have f0:b.frozen? (AK (w.heap.size+1) 0)=false:=by rw[o _ _ AU];simp[go_sem]
 have f1:b.frozen? (AK (w.heap.size+1) 1)=false:=by rw[o _ _ AU];simp[go_sem]
 have f2:b.frozen? (AK (w.heap.size+1) 2)=false:=by rw[o _ _ AU];simp[go_sem]
 have f3:b.frozen? (AK (w.heap.size+1) 3)=false:=by rw[o _ _ AU];simp[go_sem]
 have ae:AO w b:=AW;clear j o D B nC;by_cases t:d.length=1
 ·obtain⟨m,rfl⟩:=List.length_eq_one_iff.1 t
  have f:=r.one 0 AU;simp only[EP] at f;obtain⟨g,c,hv,_,ah,_,l⟩:=Cb r.1 AU;obtain⟨a1,a2,a3,a4⟩:=O6 [m] 0 AU;have Z:=l _ _ a1;have U:=l _ _ a2;have Q:=l _ _ a3;have V:=l _ _ a4;simp only[EP,FG,CV] at Z U Q V;have A:=(Jw _ _ _).1 f.1;obtain⟨J,S,hd⟩:=Ah A.1;obtain⟨N,T,aa⟩:=Ah A.2.1;simp only[Value.slice.injEq] at hv;obtain⟨rfl,_,rfl⟩:=hv;have H:Hid (Gj k F=m.net):=by show _=_;rw[<-u.out];rfl
  have E:=AV (λx hx=>y x (CQ _ (by rw[Md];exact hx)));clear y u;obtain⟨P,aJ,Y,zg,zf,M⟩:=m;simp only at hd aa Z U Q V;subst hd;subst aa;have G:=AV f;clear f A l r;simp only[ED]
  go_wp2
  refine bodyPost_ret (v:=.agg #[AB P,AB aJ,AE J Y.length S,AE N M.length T]) (by simp[results,results124,go_sem,O,z1,X,I]) rfl ⟨⟨P,aJ,Y,J,S,N,T,M,rfl,?_,H.symm⟩,AW⟩;exact Ls.setO4 G E.out
 ·have H:Hid (Gj k F=⟨k,⟨0,[]⟩,d.map Ak.net⟩):=by
   show _=_
   rw[<-u.out];unfold Gj;rw[dif_neg (by simpa using t)]
  have f:=r.net k 0 [] (World.ownsRow_nil _ _ _ _) (λx _=>Py x);have G:=AV f;have E:Hid (∀x∈(Ak.mk k 0 [] AG (AE z d.length s) d).vals,x.ownBlock≠some (w.heap.size+1)):=by
   intro x hx;rw[Ak.vals_eq] at hx;rcases List.mem_cons.1 hx with rfl | hx
   ·intro e;cases e
   ·exact y x hx
  have af:((d.length:Int)==1)=false:=by rw[CS];omega
  have jv:¬((d.length:Int)=1):=AQ
  clear f r y u
  go_wp2
  refine bodyPost_ret (v:=.agg #[AB k,AB 0,AG,AE z d.length s]) (by simp[results,results124,go_sem,O,z1,X,I]) rfl ⟨⟨k,0,[],none,0,z,s,d,rfl,?_,by rw[Ak.net_eq,H.out]⟩,AW⟩;exact Ls.setO4 G E.out
end Go.Proofs.YtifcnfeppdbjdaaGreatDoor
set_option maxHeartbeats 4000000
set_option maxRecDepth 100000
namespace Go.Proofs.YtifcnfeppdbjdaaGreatDoor
open Tryz Stil Go.RowKit Go.Sort Go.BigFrame
theorem ly (x:Stil.B9)(B base lo:Nat)(j:Option Addr)(i:Nat)(b:List Ak)(r q:Value)(w:World)(L:∀W,AO w W->Calls prog 84 #[.agg #[AB x.kind,AB x.one.op,r,q]] W λe g=>Rq g W.heap.size (Ap x) e/\AO W g)
  (Y:Dk w r x.one.args) (U:Gn w q x.kids) (af:w.cell? (AK B 0)=some (.func (.func 84) #[] #[])) (hB:B<w.heap.size) (J:N8 w base (AE j b.length i) b) (hl:b.length+1<=1000000) (aa:base<=w.heap.size) (Q:lo<=w.heap.size) (E:∀k,(Value.slice j b.length i).ownBlock=some k->lo<=k):
  Calls prog 143 #[AE j b.length i, .agg #[AB x.kind,AB x.one.op,r,q],AH B] w λe g=>∃(a:Option Addr) (c:Nat) (m:Ak),e=.returned (AE a (b.length+1) c)/\m.net=Ap x/\N8 g base (AE a (b.length+1) c) (b++[m])/\Below lo w g/\∀k,(Value.slice a (b.length+1) c).ownBlock=some k->lo<=k:=by
 have F:=AV L;have I:=AV J;have X:=AV E;obtain⟨p0,r0,rfl,dL⟩:=Y;obtain⟨p1,r1,rfl,V⟩:=U;clear dL V L J E;obtain⟨N,H⟩:=AA (Ap x)
 rw[<-H] at F ⊢;clear H;go_enter func143,ntmps143
 go_wp2_with (first | (go_at_call 84;refine(F _ AW).mono ?_;rintro e w1 ⟨⟨t,D,d,l,z,v,u,f,rfl,M,K⟩,ae⟩;have C:AO w w1:=AW;have ac:=C.size;have A:Hid (Ls w1 w.heap.size ⟨t,D,d,AE l d.length z,AE v f.length u,f⟩):=M.le AU;have Z:=AV K;clear M K) | (at_builtin;refine Ru rfl _ _ rfl base lo j i b [Ak.mk t D d (AE l d.length z) (AE v f.length u) f] _ 1 rfl rfl ((I.below C).below (Aa _ _)) (λ_=>⟨_,rfl,by exact RZ AU⟩) (λm s=>by rw[List.mem_singleton.1 s];exact(A.1.le aa).below (Aa _ _)) (I.apart (w1:=w1) (b1:=w.heap.size) (λm s=>by rw[List.mem_singleton.1 s];exact A.1) (CG _) (by rw[Md];exact A.2)) (by simp only[ED];exact hl) Bw Bw X.out ?_;intro y o R O P G;have T:Hid (N8 R base (AE y (b.length+1) o) (b++[Ak.mk t D d (AE l d.length z) (AE v f.length u) f])):=O;have S:Hid (∀k,(Value.slice y (b.length+1) o).ownBlock=some k->lo<=k):=G;clear O G;have ab:=(((Bd C _).mono Q)).trans P))
 go_ret;exact⟨y,o,_,rfl,Z.out,T.out,ab,S.out⟩
theorem zR {p:Prop}(h:p:=by
 obtain rfl:j=es.length:=by omega
 have hmn:=aO.out;rw[Gk] at hmn;have dI:=AV hmn;clear hmn
 go_wp2
 go_ret;exact⟨ra,rc,ms,rfl,dI.out,aU.out,hb⟩):p:=h
theorem Avh (es:List Stil.B9)(F:∀x∈es,∀(q g:Value) (w:World),Dk w q x.one.args->Gn w g x.kids->Calls prog 84 #[.agg #[AB x.kind,AB x.one.op,q,g]] w λe f=>Rq f w.heap.size (Ap x) e/\AO w f)
  (B:Nat) (v:Value) (w:World) (aa:Gn w v es) (hl:es.length<=999999) (G:w.cell? (AK B 0)=some (.func (.func 84) #[] #[])) (J:B<w.heap.size):
  Calls prog 142 #[v,AG, .func (.func 143) #[] #[AH B]] w λe f=>∃(a:Option Addr) (c:Nat) (ms:List Ak),e=.returned (AE a ms.length c)/\ms.map Ak.net=es.map Ap/\N8 f w.heap.size (AE a ms.length c) ms/\AO w f:=by
 obtain⟨a,cap,rfl,L⟩:=aa;have N:=AV L;have Y:=AV F;have M:=AV G;clear L F G;go_enter func142,ntmps142
 go_wp2
 go_loopw [1,11] (λd i wr=>∃(j:Nat) (ms:List Ak) (ra:Option Addr) (rc:Nat),j<=es.length/\i=AB j/\d=AE ra ms.length rc/\ms.map Ak.net=(es.take j).map Ap/\N8 wr w.heap.size (AE ra ms.length rc) ms/\AO w wr) (λ_ i _=>es.length - (intOf i).toNat)
 case atStart=>exact⟨0,[],none,0,AQ,rfl,rfl,rfl,N8.nil _ _,Below.refl _ _⟩
 case round=>
  obtain⟨j,ms,ra,rc,hj,rfl,rfl,hmn,C,hb⟩:=hrel;have aO:=AV hmn;have aU:=AV C;clear hmn C;by_cases u:j<es.length
  ·have Q:ms.length=j:=by
    have U:=congrArg List.length aO.out;rw[CW,CW,FY] at U;omega
   obtain⟨b,o,rfl,y,H⟩:=N j u;obtain⟨O,x1,q,g,x2,x3,t,r⟩:=(Un.below hb _ _ _ H y).open;have I:=AV (D2 u);have A:Hid (∀W,AO wr W->Calls prog 143 #[AE ra ms.length rc, .agg #[AB es[j].kind,AB es[j].one.op,q,g],AH B] W λe f=>∃(a:Option Addr) (c:Nat) (m:Ak),e=.returned (AE a (ms.length+1) c)/\m.net=Ap es[j]/\N8 f w.heap.size (AE a (ms.length+1) c) (ms++[m])/\Below w.heap.size W f/\∀k,(Value.slice a (ms.length+1) c).ownBlock=some k->w.heap.size<=k):=by
    intro W l;have s:=hb.trans (l.mono hb.size);exact ly es[j] B w.heap.size w.heap.size ra rc ms q g W (λV z=>Y es[j] (CN u) q g V ((t.below l).below z) ((r.below l).below z)) (t.below l) (r.below l) ((s.cell (p:=(AK B 0)) J).trans M.out) (CB J s.size) (aU.below l) AQ s.size s.size (λk hk=>(aU.1.lt k hk).1)
   obtain⟨x,D⟩:=AA (es[j])
   rw[<-D] at A O x1 t r I;obtain⟨p0,r0,rfl,dL⟩:=t;obtain⟨p1,r1,rfl,T⟩:=r;have ac:=CB y hb.size;clear D H dL T Q y
   go_wp2_with (go_at_call 143;refine(A _ AW).mono ?_;rintro e w2 ⟨Z,P,m,rfl,E,K,R,ab⟩;have X:=(show AO w _ from hb.trans ((show AO wr _ from AW).mono hb.size)).trans R;have dO:=AV E;have S:=AV K;clear E K ab)
   refine⟨⟨j+1,ms++[m],Z,P,AQ,by go_num,AU,?_,by rw[CM];exact S.out,X⟩,by simp[intOf];omega⟩;rw[I.out,CU,CU,aO.out,GU,GU,dO.out]
  ·exact zR
theorem Avb (es:List Stil.B9)(m:∀x∈es,∀(i g:Value) (w:World),Dk w i x.one.args->Gn w g x.kids->Calls prog 84 #[.agg #[AB x.kind,AB x.one.op,i,g]] w λe d=>Rq d w.heap.size (Ap x) e/\AO w d)
  (v:Value) (w:World) (o:Gn w v es) (hl:es.length<=999999):
  Calls prog 123 #[v, .func (.func 84) #[] #[]] w λe d=>∃(a:Option Addr) (c:Nat) (b:List Ak),e=.returned (AE a b.length c)/\b.map Ak.net=es.map Ap/\N8 d w.heap.size (AE a b.length c) b/\AO w d:=by
 have q:=AV (λW B h t y=>Avh es m B v W (o.below h) hl t y);obtain⟨A,C,rfl,z⟩:=o;clear z m;go_enter func123,ntmps123
 go_wp2_with (go_at_call 142;refine(q _ _ AW (by simp[go_sem]) AU).mono ?_;rintro e s ⟨l,f,b,rfl,j,k,D⟩;have u:=AV j;have r:Hid (N8 s _ (AE l b.length f) b):=k;clear j k)
 go_ret;exact⟨l,f,b,rfl,u.out,r.le AU,AW⟩
set_option maxHeartbeats 2000000 in
set_option maxRecDepth 100000 in
theorem Azr (n:Stil.B9):Dw n->Af n<=999999->∀(E G:Value) (w:World),Dk w E n.one.args->Gn w G n.kids->Calls prog 84 #[.agg #[AB n.kind,AB n.one.op,E,G]] w λe A=>Rq A w.heap.size (Ap n) e/\AO w A:=by
 induction n using Gf with
 | h k e kids ih=>
  intro aj ab E G w O R;obtain⟨_,he,hl,hk⟩:=(Lc _ _ _).1 aj;obtain⟨ae,ai⟩:=V0 ab;simp only at O R;have aa:kids.length<=999999:=by
   have J:=Js (kids.map Ap);rw[CW] at J;omega
  have Y:=AV (λW h=>Avb kids (λx g=>ih x g (hk x g) (ai x g)) G W (R.below h) aa);have H2:=AV (λW h=>Wm e.op E e.args W (O.below h) he.2.1);have T:=AV ae;obtain⟨p0,r0,rfl,dL⟩:=O;obtain⟨p1,r1,rfl,lM⟩:=R;clear ih aj he hl hk ab ae ai dL lM aa;by_cases B:k=2\/k=3
  ·have z:Hid (Ap ⟨k,e,kids⟩=Gj k (Cc k (kids.map Ap))):=by show _=_;rw[Jq,if_pos B]
   rw[z.out];have HB:Hid (∀W base r a cap,N8 W base (AE a r.length cap) r->r.map Ak.net=kids.map Ap->base<=W.heap.size->Calls prog 124 #[AB k,AE a r.length cap] W λe A=>Rq A base (Gj k (Cc k (kids.map Ap))) e/\AO W A):=by
    intro W base r a cap J h2 h3;have:=vj k base r a cap W J (by rw[h2];exact T.out) h3
    rwa [h2] at this
   obtain⟨af,hN⟩:=AA (Gj k (Cc k (kids.map Ap)))
   rw[<-hN] at HB ⊢;clear z hN T H2;rcases B with rfl | rfl
   all_goals
    go_enter func84,ntmps84
    go_wp2_with (first | (go_at_call 123;refine(Y _ AW).mono ?_;rintro e b ⟨t,o,i,rfl,m,u,l⟩;obtain⟨f,q⟩:=Ef l;have P:=AV m;have F:Hid (N8 b _ (AE t i.length o) i):=u;clear m u;have s:w.heap.size<b.heap.size:=CB Ax l.size;have d:w.heap.size+1<b.heap.size:=CB AU l.size) | (go_at_call 124;refine(HB _ _ _ _ _ F P (l.size)).mono ?_;rintro e w3 ⟨⟨K,Z,H,Q,N,S,L,D,rfl,y,m⟩,ag⟩;obtain⟨C,ao⟩:=Ef ag;have aw:=CB d ag.size;have aT:Hid (Ls w3 (w.heap.size+2) ⟨K,Z,H,AE Q H.length N,AE S D.length L,D⟩):=y.le AU;have dI:=AV m;clear y m))
    have b0:w3.cell? (AK (w.heap.size+1) 0)=some (AB 0):=by rw[C _ _ d,f _ _ AU];simp[go_sem]
    have b1:w3.cell? (AK (w.heap.size+1) 1)=some (AB 0):=by rw[C _ _ d,f _ _ AU];simp[go_sem]
    have b2:w3.cell? (AK (w.heap.size+1) 2)=some AG:=by rw[C _ _ d,f _ _ AU];simp[go_sem]
    have b3:w3.cell? (AK (w.heap.size+1) 3)=some AG:=by rw[C _ _ d,f _ _ AU];simp[go_sem]
    refine bodyPost_ret (v:=.agg #[AB K,AB Z,AE Q H.length N,AE S D.length L]) (by simp[results,results84,go_sem,b0,b1,b2,b3]) rfl ⟨⟨K,Z,H,Q,N,S,L,D,rfl,?_,dI.out⟩,AW⟩;refine Ls.le (base:=w.heap.size+2) ?_ AQ;exact Ls.setO4 aT (λx g e=>by have:=(aT.1.lt _ x g _ e).1;omega)
  ·have z:Hid (Ap ⟨k,e,kids⟩=⟨k,e,kids.map Ap⟩):=by show _=_;rw[Jq,if_neg B]
   rw[z.out];have ar:(k==2)=false:=by rw[CS];omega
   have ax:(k==3)=false:=by rw[CS];omega
   obtain⟨ks,ah⟩:=AA (kids.map Ap)
   rw[<-ah] at Y ⊢;clear z T ah B;go_enter func84,ntmps84
   go_wp2_with (first | (go_at_call 123;refine(Y _ AW).mono ?_;rintro e b ⟨t,o,i,rfl,m,u,l⟩;obtain⟨f,q⟩:=Ef l;have P:=AV m;have F:Hid (N8 b _ (AE t i.length o) i):=u;clear m u;have s:w.heap.size<b.heap.size:=CB Ax l.size;have d:w.heap.size+1<b.heap.size:=CB AU l.size))
   have q0:b.cell? (AL w 0)=some (AB k):=by rw[f _ _ Ax];simp[go_sem]
   have q1:b.cell? (AL w 1)=some (AB e.op):=by rw[f _ _ Ax];simp[go_sem]
   have q2:b.cell? (AL w 2)=some (AE p0 e.args.length r0):=by rw[f _ _ Ax];simp[go_sem]
   have q3:b.cell? (AL w 3)=some (AE p1 kids.length r1):=by rw[f _ _ Ax];simp[go_sem]
   have y7:b.cell? (AK (w.heap.size+1) 0)=some (AB 0):=by rw[f _ _ AU];simp[go_sem]
   have yx:b.cell? (AK (w.heap.size+1) 1)=some (AB 0):=by rw[f _ _ AU];simp[go_sem]
   have yw:b.cell? (AK (w.heap.size+1) 2)=some AG:=by rw[f _ _ AU];simp[go_sem]
   have yu:b.cell? (AK (w.heap.size+1) 3)=some AG:=by rw[f _ _ AU];simp[go_sem]
   have v0:b.frozen? (AK (w.heap.size+1) 0)=false:=by rw[q _ _ AU];simp[go_sem]
   have v1:b.frozen? (AK (w.heap.size+1) 1)=false:=by rw[q _ _ AU];simp[go_sem]
   have v2:b.frozen? (AK (w.heap.size+1) 2)=false:=by rw[q _ _ AU];simp[go_sem]
   have v3:b.frozen? (AK (w.heap.size+1) 3)=false:=by rw[q _ _ AU];simp[go_sem]
   have I:AO w b:=AW;have o7:Hid (N8 b (w.heap.size+2) (AE t i.length o) i):=F.le AU;have ak:w.heap.size+2<=b.heap.size:=AQ
   clear f q F l
   go_region_law (go_simp;go_at_call 82;refine(H2 _ (by exact I.drew)).mono ?_;rintro e w2 ⟨ap,rfl,U,ac⟩;obtain⟨M,V,al⟩:=Ah U;subst al;have c:=((Below.refl b.heap.size b).drew).trans ac;have rX:Hid (w2.ownsRow b.heap.size 55 3 (AE M e.args.length V) e.args.length (Au e.args)):=U;clear U ac;have au:=CB s c.size;have ay:=CB d c.size;have y0:=(c.cell (p:=(AL w 0)) s).trans q0;have y1:=(c.cell (p:=(AL w 1)) s).trans q1;have y2:=(c.cell (p:=(AL w 2)) s).trans q2;have y3:=(c.cell (p:=(AL w 3)) s).trans q3;have z0:=(c.cell (p:=(AK (w.heap.size+1) 0)) d).trans y7;have z1:=(c.cell (p:=(AK (w.heap.size+1) 1)) d).trans yx;have z2:=(c.cell (p:=(AK (w.heap.size+1) 2)) d).trans yw;have z3:=(c.cell (p:=(AK (w.heap.size+1) 3)) d).trans yu;have f0:=(c.frozen (p:=(AK (w.heap.size+1) 0)) d).trans v0;have f1:=(c.frozen (p:=(AK (w.heap.size+1) 1)) d).trans v1;have f2:=(c.frozen (p:=(AK (w.heap.size+1) 2)) d).trans v2;have f3:=(c.frozen (p:=(AK (w.heap.size+1) 3)) d).trans v3)
   all_goals
    try go_wp2
    refine bodyPost_ret (v:=.agg #[AB k,AB e.op,AE M e.args.length V,AE t i.length o]) (by simp[results,results84,go_sem,z0,z1,z2,z3]) rfl ⟨⟨k,e.op,e.args,M,V,t,o,i,rfl,?_,by rw[Ak.net_eq,P.out]⟩,?_⟩
    ·refine Ls.le (base:=w.heap.size+2) ?_ AQ
     have y:=(o7.below c).net k e.op e.args (Joins.ownsRow_le rX ak) (λx g=>(Ho (n:=b.heap.size) (λj X=>(o7.lt x g j X).2) (λj X=>(rX.lt j X).1)).symm);exact Ls.setO4 y (λx g e=>by have:=(y.1.lt _ x g _ e).1;omega)
    ·have an:=I.trans (c.mono I.size)
     exact AW
