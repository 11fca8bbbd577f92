import Derived.Test.YtmnnkedjoecehaaGreatDoorGm
set_option linter.defProp false
set_option maxHeartbeats 4000000
set_option maxRecDepth 100000
namespace Go.Proofs.YtmnnkedjoecehaaGreatDoor
open Tryz Stil Go.RowKit Go.Sort Go.BigFrame
def zF (k:Int)(m:Ap):(Rh k m).map Ap.net=Ce k [m.net]:=by
 rw[Pm,Ap.net_eq];unfold Rh;simp only;split
 ·rfl
 ·rw[G3,Ap.net_eq]
def uz (k:Int)(m:Ap):(Gp (Rh k m)).Sublist m.vals:=by
 unfold Rh;split
 ·rw[Ap.vals_eq]
  exact List.Sublist.cons _ (List.Sublist.cons _ (E7 _))
 ·rw[Nb];exact E7 _
def XS (k:Int)(B base:Nat)(b:List Ap)(a:Option Addr)(cap:Nat)(w:World)(ah:w.cell? (AK B 0)=some (AB k))(hB:B<w.heap.size)(ae:Oc w base (AE a b.length cap) b)(hl:Stil.sizes (b.map Ap.net)<=999999)(ag:base<=w.heap.size):
  Calls prog 146 #[AE a b.length cap,AG, .func (.func 148) #[] #[AH B]] w λe H=>∃(a:Option Addr) (c:Nat) (f:List Ap),e=.returned (AE a f.length c)/\f.map Ap.net=Ce k (b.map Ap.net)/\Oc H base (AE a f.length c) f/\AO w H/\(Gp f).Sublist (Gp b)/\∀q,(Value.slice a f.length c).ownBlock=some q->w.heap.size<=q:=by
 have P:=AV ae;have ou:=AV hl;have an:b.length<=1000000:=by
  have F:=Jl (b.map Ap.net);rw[CW] at F;omega
 clear ae hl;go_enter func146,ntmps146
 go_wp2
 go_loopw [1,11] (λd i wr=>∃(j:Nat) (f:List Ap) (t:Option Addr) (s:Nat),j<=b.length/\i=AB j/\d=AE t f.length s/\f.map Ap.net=Ce k ((b.take j).map Ap.net)/\Oc wr base (AE t f.length s) f/\(Gp f).Sublist (Gp (b.take j))/\(∀q,(Value.slice t f.length s).ownBlock=some q->w.heap.size<=q)/\AO w wr) (λ_ i _=>b.length - (intOf i).toNat)
 case atStart=>exact⟨0,[],none,0,AQ,rfl,rfl,rfl,Oc.nil _ _,E7 _,(λq Z=>by cases Z),Below.refl _ _⟩
 case round=>
  obtain⟨j,f,t,s,hj,rfl,rfl,C,af,E,ab,r⟩:=hrel;have S:=AV C;have aU:=AV af;have yE:=AV E;have U:=AV ab;clear C af E ab;by_cases R:j<b.length
  ·obtain⟨g,c,hv,_,D,_,J⟩:=Bg P.1 AQ
   obtain⟨a1,L,a3,a4⟩:=Ph b j R;have x0:=(r.cell (p:=(AK g (j*4))) D).trans (J _ _ a1);have x1:=(r.cell (p:=(AK g (j*4+1))) D).trans (J _ _ L);have x2:=(r.cell (p:=(AK g (j*4+2))) D).trans (J _ _ a3);have x3:=(r.cell (p:=(AK g (j*4+3))) D).trans (J _ _ a4);have M:=P.one j R;have G:=AV (EB R);have V:=(Jt _ _ _).1 M.1;obtain⟨y,x,hd⟩:=Af V.1;obtain⟨z,u,aa⟩:=Af V.2.1;have N:f.length+b[j].kids.length+1<=1000000:=by
    have F:=congrArg List.length S.out;rw[CW] at F;have Y:=Jl (Ce k ((b.take j).map Ap.net));have h3:=Le k ((b.take j).map Ap.net);have h4:=Wb (b.map Ap.net) (j+1);rw[<-List.map_take,G.out,CU,U5] at h4;have h5:Stil.sizes ([b[j]].map Ap.net)=Ai b[j].net:=by simp[Stil.sizes]
    have h6:=Ej b[j].net;have h7:=Jl b[j].net.kids;have h8:b[j].net.kids.length=b[j].kids.length:=by rw[Ap.net_eq];simp
    have:=ou.out
    omega
   have X:(Value.slice t f.length s::(Gp f++b[j].vals)).Pairwise Aside:=by
    have ac:(Gp f++b[j].vals).Sublist (Gp b):=by
     have F:(Gp f++b[j].vals).Sublist (Gp (b.take (j+1))):=by
      rw[G.out,Rl,Nb];exact List.Sublist.append yE (E7 _)
     refine F.trans ?_;have Y:=Rl (b.take (j+1)) (b.drop (j+1));rw[IA] at Y;rw[Y];exact List.sublist_append_left _ _
    rw[DX];refine⟨λaj hy=>(He (n:=w.heap.size) (λq Z=>(P.lt aj (CN _ (ac.subset hy)) q Z).2) U.out).symm,List.Pairwise.sublist ac (List.pairwise_cons.1 P.2.2).2⟩
   have K:Hid ((Gp (f++Rh k b[j])).Sublist (Gp (b.take (j+1)))):=by
    show List.Sublist _ _
    rw[G.out,Rl,Rl,Nb];exact List.Sublist.append yE (uz k _)
   have I:Hid ((f++Rh k b[j]).map Ap.net=Ce k ((b.take (j+1)).map Ap.net)):=by
    show _=_
    rw[G.out,CU,CU,Nc,S.out,zF];rfl
   obtain⟨m,hm⟩:=AA (b[j])
   rw[<-hm] at x0 x1 x2 x3 M hd aa N X K I;clear hm V G a1 L a3 a4 J;obtain⟨A,v,l,ap,ar,o⟩:=m;simp only at x0 x1 x2 x3 hd aa N;subst hd;subst aa;simp only[Value.slice.injEq] at hv;obtain⟨rfl,_,rfl⟩:=hv;have HI:Hid (∀W,AO wr W->Calls prog 148 #[AE t f.length s, .agg #[AB A,AB v,AE y l.length x,AE z o.length u],AH B] W λe H=>∃(a:Option Addr) (c:Nat),e=.returned (AE a (f.length+(Rh k ⟨A,v,l,AE y l.length x,AE z o.length u,o⟩).length) c)/\Oc H base (AE a (f.length+(Rh k ⟨A,v,l,AE y l.length x,AE z o.length u,o⟩).length) c) (f++Rh k ⟨A,v,l,AE y l.length x,AE z o.length u,o⟩)/\Below w.heap.size W H/\∀j,(Value.slice a (f.length+(Rh k ⟨A,v,l,AE y l.length x,AE z o.length u,o⟩).length) c).ownBlock=some j->w.heap.size<=j):=by
    intro W T;have Q:=r.trans (T.mono r.size);exact lR k B base w.heap.size t s f A v l y x z u o W ((Q.cell (p:=(AK B 0)) hB).trans ah) (CB hB Q.size) (aU.below T) ((M.below r).below T) X N (CM ag Q.size) Q.size U.out
   obtain⟨O,hO⟩:=AA (Rh k ⟨A,v,l,AE y l.length x,AE z o.length u,o⟩)
   rw[<-hO] at HI K I;have ao:=CB D r.size;clear hO M X N D
   go_wp2_with (go_at_call 148;refine(HI _ AW).mono ?_;rintro e w2 ⟨L,c2,rfl,iG,al,ai⟩;have ak:=(show AO w _ from r.trans ((show AO wr _ from AW).mono r.size)).trans al)
   refine⟨⟨j+1,f++O,L,c2,AQ,by go_num,by rw[CO],I.out,by rw[CO];exact iG,K.out,by rw[CO];exact ai,ak⟩,by simp[intOf];omega⟩
  ·obtain rfl:j=b.length:=by omega
   have C:=S.out;rw[IV] at C;have I:=AV C;have E:=yE.out;rw[IV] at E;have K:=AV E;clear C E
   go_wp2
   go_ret;exact⟨t,s,f,rfl,I.out,aU.out,r,K.out,U.out⟩
def Lt.setO {w:World}{base:Nat}{m:Ap}(h:Lt w base m){a:Addr}(b:∀x∈m.vals,x.ownBlock≠some a.block)(u:Value):Lt (w.setCell a u) base m:=⟨MOk.map m h.1 (λ_ _ _ _ _ d c=>ownsRow_setCell_other c (b _ d) u),h.2⟩
def Lt.setO4 {w:World}{base b j f g e:Nat}{m:Ap}{l d i k:Value}(h:Lt w base m)(c:∀x∈m.vals,x.ownBlock≠some b):Lt ((((w.setCell (AK b j) l).setCell (AK b f) d).setCell (AK b g) i).setCell (AK b e) k) base m:=
 Lt.setO (Lt.setO (Lt.setO (Lt.setO h (a:=(AK b j)) c l) (a:=(AK b f)) c d) (a:=(AK b g)) c i) (a:=(AK b e)) c k
def vi (k:Int)(base:Nat)(i:List Ap)(a:Option Addr)(cap:Nat)(w:World)(D:Oc w base (AE a i.length cap) i)(hl:Stil.sizes (i.map Ap.net)<=999999)(aa:base<=w.heap.size):
  Calls prog 130 #[AB k,AE a i.length cap] w λe O=>Si O base (F8 k (Ce k (i.map Ap.net))) e/\AO w O:=by
 have C:=AV (λW ab h s h2=>XS k ab base i a cap W s h2 (D.below h) hl (CM aa h.size));obtain⟨F,hF⟩:=AA (Ce k (i.map Ap.net))
 rw[<-hF] at C ⊢;have nG:=AV (λx hx q hq=>(D.lt x (CN _ hx) q hq).2);clear D hl hF;go_enter func130,ntmps130;go_upto_region 2 with(go_at_call 146;refine(C _ _ AW (by simp[go_sem]) Ax).mono ?_;rintro e b ⟨z,y,d,rfl,T,Y,G,hsub,hvl⟩;have t:=AV T;have o:=AV Y;have u:Hid (∀x∈(Value.slice z d.length y)::Gp d,x.ownBlock≠some (w.heap.size+1)):=yCi;clear T Y hsub hvl)
 obtain⟨j,r⟩:=En G;have af:w.heap.size+1<b.heap.size:=CB AU G.size;have kd:b.cell? (AL w 0)=some (AB k):=by rw[j _ _ Ax];simp[go_sem]
 have R:b.cell? (AK (w.heap.size+1) 0)=some (AB 0):=by rw[j _ _ AU];simp[go_sem]
 have P:b.cell? (AK (w.heap.size+1) 1)=some (AB 0):=by rw[j _ _ AU];simp[go_sem]
 have z2:b.cell? (AK (w.heap.size+1) 2)=some AG:=by rw[j _ _ AU];simp[go_sem]
 have z3:b.cell? (AK (w.heap.size+1) 3)=some AG:=by rw[j _ _ AU];simp[go_sem]
 have f0:b.frozen? (AK (w.heap.size+1) 0)=false:=by rw[r _ _ AU];simp[go_sem]
 have f1:b.frozen? (AK (w.heap.size+1) 1)=false:=by rw[r _ _ AU];simp[go_sem]
 have f2:b.frozen? (AK (w.heap.size+1) 2)=false:=by rw[r _ _ AU];simp[go_sem]
 have f3:b.frozen? (AK (w.heap.size+1) 3)=false:=by rw[r _ _ AU];simp[go_sem]
 have ac:AO w b:=AW;clear j r G C nG;by_cases s:d.length=1
 ·obtain⟨m,rfl⟩:=List.length_eq_one_iff.1 s
  have f:=o.one 0 AU;simp only[EO] at f;obtain⟨g,c,S,_,ah,_,l⟩:=Bg o.1 AU;obtain⟨a1,a2,a3,a4⟩:=Ph [m] 0 AU;have y0:=l _ _ a1;have J:=l _ _ a2;have M:=l _ _ a3;have I:=l _ _ a4;simp only[EO,FQ,CV] at y0 J M I;have H:=(Jt _ _ _).1 f.1;obtain⟨K,U,hd⟩:=Af H.1;obtain⟨d3,Q,X⟩:=Af H.2.1;simp only[Value.slice.injEq] at S;obtain⟨rfl,_,rfl⟩:=S;have A:Hid (F8 k F=m.net):=by show _=_;rw[<-t.out];rfl
  have E:=AV (λx hx=>u x (CN _ (by rw[Nb];exact hx)));clear u t;obtain⟨Z,N,L,ag,ai,V⟩:=m;simp only at hd X y0 J M I;subst hd;subst X;have B:=AV f;clear f H l o;simp only[EF]
  go_wp2
  refine bodyPost_ret (v:=.agg #[AB Z,AB N,AE K L.length U,AE d3 V.length Q]) (by simp[results,results130,go_sem,R,P,z2,z3]) rfl ⟨⟨Z,N,L,K,U,d3,Q,V,rfl,?_,A.symm⟩,AW⟩;exact Lt.setO4 B E.out
 ·have A:Hid (F8 k F=⟨k,⟨0,[]⟩,d.map Ap.net⟩):=by
   show _=_
   rw[<-t.out];unfold F8;rw[dif_neg (by simpa using s)]
  have f:=o.net k 0 [] (World.ownsRow_nil _ _ _ _) (λx _=>P9 x);have B:=AV f;have E:Hid (∀x∈(Ap.mk k 0 [] AG (AE z d.length y) d).vals,x.ownBlock≠some (w.heap.size+1)):=by
   intro x hx;rw[Ap.vals_eq] at hx;rcases List.mem_cons.1 hx with rfl | hx
   ·intro e;cases e
   ·exact u x hx
  have ae:((d.length:Int)==1)=false:=by rw[CS];omega
  have l7:¬((d.length:Int)=1):=AQ
  clear f o u t
  go_wp2
  refine bodyPost_ret (v:=.agg #[AB k,AB 0,AG,AE z d.length y]) (by simp[results,results130,go_sem,R,P,z2,z3]) rfl ⟨⟨k,0,[],none,0,z,y,d,rfl,?_,by rw[Ap.net_eq,A.out]⟩,AW⟩;exact Lt.setO4 B E.out
end Go.Proofs.YtmnnkedjoecehaaGreatDoor
namespace Go.Proofs.YtmnnkedjoecehaaGreatDoor
open Tryz Stil Go.RowKit Go.Sort Go.BigFrame
def ly (x:Stil.B8)(B base lo:Nat)(j:Option Addr)(i:Nat)(b:List Ap)(q l:Value)(w:World)(I:∀W,AO w W->Calls prog 92 #[.agg #[AB x.kind,AB x.one.op,q,l]] W λe g=>Si g W.heap.size (Au x) e/\AO W g)
  (P:Dj w q x.one.args) (S:Gg w l x.kids) (ae:w.cell? (AK B 0)=some (.func (.func 92) #[] #[])) (hB:B<w.heap.size) (O:Oc w base (AE j b.length i) b) (hl:b.length+1<=1000000) (R:base<=w.heap.size) (T:lo<=w.heap.size) (F:∀k,(Value.slice j b.length i).ownBlock=some k->lo<=k):
  Calls prog 147 #[AE j b.length i, .agg #[AB x.kind,AB x.one.op,q,l],AH B] w λe g=>∃(a:Option Addr) (c:Nat) (m:Ap),e=.returned (AE a (b.length+1) c)/\m.net=Au x/\Oc g base (AE a (b.length+1) c) (b++[m])/\Below lo w g/\∀k,(Value.slice a (b.length+1) c).ownBlock=some k->lo<=k:=by
 have L:=AV I;have G:=AV O;have X:=AV F;obtain⟨p0,r0,rfl,V⟩:=P;obtain⟨p1,r1,rfl,Z⟩:=S;clear V Z I O F;obtain⟨N,J⟩:=AA (Au x)
 rw[<-J] at L ⊢;clear J;go_enter func147,ntmps147
 go_wp2_with (first | (go_at_call 92;refine(L _ AW).mono ?_;rintro e w1 ⟨⟨y,D,f,v,t,z,o,d,rfl,E,M⟩,ab⟩;have C:AO w w1:=AW;have ac:=C.size;have u:Hid (Lt w1 w.heap.size ⟨y,D,f,AE v f.length t,AE z d.length o,d⟩):=E.le AU;have aO:=AV M;clear E M) | (at_builtin;refine Sl rfl _ _ rfl base lo j i b [Ap.mk y D f (AE v f.length t) (AE z d.length o) d] _ 1 rfl rfl ((G.below C).below (Aa _ _)) (λ_=>⟨_,rfl,by exact Rm AU⟩) (λm s=>by rw[List.mem_singleton.1 s];exact(u.1.le R).below (Aa _ _)) (G.apart (w1:=w1) (b1:=w.heap.size) (λm s=>by rw[List.mem_singleton.1 s];exact u.1) (CG _) (by rw[Nb];exact u.2)) (by simp only[EF];exact hl) Bn Bn X.out ?_;intro r A Y H U K;have iU:Hid (Oc Y base (AE r (b.length+1) A) (b++[Ap.mk y D f (AE v f.length t) (AE z d.length o) d])):=H;have Q:Hid (∀k,(Value.slice r (b.length+1) A).ownBlock=some k->lo<=k):=K;clear H K;have aa:=(((Bi C _).mono T)).trans U))
 go_ret;exact⟨r,A,_,rfl,aO.out,iU.out,aa,Q.out⟩
def zR {p:Prop}(h:p:=by
 obtain rfl:j=es.length:=by omega
 have hmn:=aO.out;rw[IV] at hmn;have dI:=AV hmn;clear hmn
 go_wp2
 go_ret;exact⟨ra,rc,ms,rfl,dI.out,aU.out,hb⟩):p:=h
def Avp (es:List Stil.B8)(J:∀x∈es,∀(l g:Value) (w:World),Dj w l x.one.args->Gg w g x.kids->Calls prog 92 #[.agg #[AB x.kind,AB x.one.op,l,g]] w λe f=>Si f w.heap.size (Au x) e/\AO w f)
  (B:Nat) (v:Value) (w:World) (U:Gg w v es) (hl:es.length<=999999) (G:w.cell? (AK B 0)=some (.func (.func 92) #[] #[])) (H:B<w.heap.size):
  Calls prog 146 #[v,AG, .func (.func 147) #[] #[AH B]] w λe f=>∃(a:Option Addr) (c:Nat) (ms:List Ap),e=.returned (AE a ms.length c)/\ms.map Ap.net=es.map Au/\Oc f w.heap.size (AE a ms.length c) ms/\AO w f:=by
 obtain⟨a,cap,rfl,K⟩:=U;have R:=AV K;have IH:=AV J;have T:=AV G;clear K J G;go_enter func146,ntmps146
 go_wp2
 go_loopw [1,11] (λd i wr=>∃(j:Nat) (ms:List Ap) (ra:Option Addr) (rc:Nat),j<=es.length/\i=AB j/\d=AE ra ms.length rc/\ms.map Ap.net=(es.take j).map Au/\Oc wr w.heap.size (AE ra ms.length rc) ms/\AO w wr) (λ_ i _=>es.length - (intOf i).toNat)
 case atStart=>exact⟨0,[],none,0,AQ,rfl,rfl,rfl,Oc.nil _ _,Below.refl _ _⟩
 case round=>
  obtain⟨j,ms,ra,rc,hj,rfl,rfl,hmn,I,hb⟩:=hrel;have aO:=AV hmn;have aU:=AV I;clear hmn I;by_cases y:j<es.length
  ·have S:ms.length=j:=by
    have N:=congrArg List.length aO.out;rw[CW,CW,FP] at N;omega
   obtain⟨b,o,rfl,u,z⟩:=R j y;obtain⟨x0,M,l,g,x2,x3,r,s⟩:=(Uz.below hb _ _ _ z u).open;have F:=AV (EB y);have D:Hid (∀W,AO wr W->Calls prog 147 #[AE ra ms.length rc, .agg #[AB es[j].kind,AB es[j].one.op,l,g],AH B] W λe f=>∃(a:Option Addr) (c:Nat) (m:Ap),e=.returned (AE a (ms.length+1) c)/\m.net=Au es[j]/\Oc f w.heap.size (AE a (ms.length+1) c) (ms++[m])/\Below w.heap.size W f/\∀k,(Value.slice a (ms.length+1) c).ownBlock=some k->w.heap.size<=k):=by
    intro W q;have t:=hb.trans (q.mono hb.size);exact ly es[j] B w.heap.size w.heap.size ra rc ms l g W (λV A=>IH es[j] (CJ y) l g V ((r.below q).below A) ((s.below q).below A)) (r.below q) (s.below q) ((t.cell (p:=(AK B 0)) H).trans T.out) (CB H t.size) (aU.below q) AQ t.size t.size (λk X=>(aU.1.lt k X).1)
   obtain⟨x,L⟩:=AA (es[j])
   rw[<-L] at D x0 M r s F;obtain⟨p0,r0,rfl,dL⟩:=r;obtain⟨p1,r1,rfl,lU⟩:=s;have aa:=CB u hb.size;clear L z dL lU S u
   go_wp2_with (go_at_call 147;refine(D _ AW).mono ?_;rintro e w2 ⟨O,c2,m,rfl,E,C,Y,P⟩;have Q:=(show AO w _ from hb.trans ((show AO wr _ from AW).mono hb.size)).trans Y;have dP:=AV E;have Z:=AV C;clear E C P)
   refine⟨⟨j+1,ms++[m],O,c2,AQ,by go_num,AU,?_,by rw[CO];exact Z.out,Q⟩,by simp[intOf];omega⟩;rw[F.out,CU,CU,aO.out,G3,G3,dP.out]
  ·exact zR
def Avj (es:List Stil.B8)(k:∀x∈es,∀(g f:Value) (w:World),Dj w g x.one.args->Gg w f x.kids->Calls prog 92 #[.agg #[AB x.kind,AB x.one.op,g,f]] w λe d=>Si d w.heap.size (Au x) e/\AO w d)
  (v:Value) (w:World) (i:Gg w v es) (hl:es.length<=999999):
  Calls prog 129 #[v, .func (.func 92) #[] #[]] w λe d=>∃(a:Option Addr) (c:Nat) (b:List Ap),e=.returned (AE a b.length c)/\b.map Ap.net=es.map Au/\Oc d w.heap.size (AE a b.length c) b/\AO w d:=by
 have u:=AV (λW B h r q=>Avp es k B v W (i.below h) hl r q);obtain⟨A,D,rfl,y⟩:=i;clear y k;go_enter func129,ntmps129
 go_wp2_with (go_at_call 146;refine(u _ _ AW (by simp[go_sem]) AU).mono ?_;rintro e t ⟨o,l,b,rfl,m,j,C⟩;have z:=AV m;have s:Hid (Oc t _ (AE o b.length l) b):=j;clear m j)
 go_ret;exact⟨o,l,b,rfl,z.out,s.le AU,AW⟩
def Azz (n:Stil.B8):Dz n->Ai n<=999999->∀(F B:Value) (w:World),Dj w F n.one.args->Gg w B n.kids->Calls prog 92 #[.agg #[AB n.kind,AB n.one.op,F,B]] w λe y=>Si y w.heap.size (Au n) e/\AO w y:=by
 induction n using Fp with
 | h k e kids ih=>
  intro ah ab F B w T N;obtain⟨_,he,hl,hk⟩:=(Lc _ _ _).1 ah;obtain⟨aa,ae⟩:=XJ ab;simp only at T N;have af:kids.length<=999999:=by
   have M:=Jl (kids.map Au);rw[CW] at M;omega
  have R:=AV (λW h=>Avj kids (λx l=>ih x l (hk x l) (ae x l)) B W (N.below h) af);have H2:=AV (λW h=>OG e.op F e.args W (T.below h) he.2.1);have Q:=AV aa;obtain⟨p0,r0,rfl,dL⟩:=T;obtain⟨p1,r1,rfl,lU⟩:=N;clear ih ah he hl hk ab aa ae dL lU af;by_cases D:k=2\/k=3
  ·have z:Hid (Au ⟨k,e,kids⟩=F8 k (Ce k (kids.map Au))):=by show _=_;rw[Jj,if_pos D]
   rw[z.out];have HB:Hid (∀W base r a cap,Oc W base (AE a r.length cap) r->r.map Ap.net=kids.map Au->base<=W.heap.size->Calls prog 130 #[AB k,AE a r.length cap] W λe y=>Si y base (F8 k (Ce k (kids.map Au))) e/\AO W y):=by
    intro W base r a cap M h2 h3;have:=vi k base r a cap W M (by rw[h2];exact Q.out) h3
    rwa [h2] at this
   obtain⟨ai,hN⟩:=AA (F8 k (Ce k (kids.map Au)))
   rw[<-hN] at HB ⊢;clear z hN Q H2;rcases D with rfl | rfl
   all_goals
    go_enter func92,ntmps92
    go_wp2_with (first | (go_at_call 129;refine(R _ AW).mono ?_;rintro e b ⟨s,q,g,rfl,m,A,i⟩;obtain⟨f,t⟩:=En i;have O:=AV m;have H:Hid (Oc b _ (AE s g.length q) g):=A;clear m A;have o:w.heap.size<b.heap.size:=CB Ax i.size;have d:w.heap.size+1<b.heap.size:=CB AU i.size) | (go_at_call 130;refine(HB _ _ _ _ _ H O (i.size)).mono ?_;rintro e w3 ⟨⟨Y,P,E,V,U,X,J,G,rfl,u,m⟩,ac⟩;obtain⟨C,aC⟩:=En ac;have aA:=CB d ac.size;have aT:Hid (Lt w3 (w.heap.size+2) ⟨Y,P,E,AE V E.length U,AE X G.length J,G⟩):=u.le AU;have dI:=AV m;clear u m))
    have b0:w3.cell? (AK (w.heap.size+1) 0)=some (AB 0):=by rw[C _ _ d,f _ _ AU];simp[go_sem]
    have b1:w3.cell? (AK (w.heap.size+1) 1)=some (AB 0):=by rw[C _ _ d,f _ _ AU];simp[go_sem]
    have b2:w3.cell? (AK (w.heap.size+1) 2)=some AG:=by rw[C _ _ d,f _ _ AU];simp[go_sem]
    have b3:w3.cell? (AK (w.heap.size+1) 3)=some AG:=by rw[C _ _ d,f _ _ AU];simp[go_sem]
    refine bodyPost_ret (v:=.agg #[AB Y,AB P,AE V E.length U,AE X G.length J]) (by simp[results,results92,go_sem,b0,b1,b2,b3]) rfl ⟨⟨Y,P,E,V,U,X,J,G,rfl,?_,dI.out⟩,AW⟩;refine Lt.le (base:=w.heap.size+2) ?_ AQ;exact Lt.setO4 aT (λx l e=>by have:=(aT.1.lt _ x l _ e).1;omega)
  ·have z:Hid (Au ⟨k,e,kids⟩=⟨k,e,kids.map Au⟩):=by show _=_;rw[Jj,if_neg D]
   rw[z.out];have ay:(k==2)=false:=by rw[CS];omega
   have ax:(k==3)=false:=by rw[CS];omega
   obtain⟨ks,aj⟩:=AA (kids.map Au)
   rw[<-aj] at R ⊢;clear z Q aj D;go_enter func92,ntmps92
   go_wp2_with (first | (go_at_call 129;refine(R _ AW).mono ?_;rintro e b ⟨s,q,g,rfl,m,A,i⟩;obtain⟨f,t⟩:=En i;have O:=AV m;have H:Hid (Oc b _ (AE s g.length q) g):=A;clear m A;have o:w.heap.size<b.heap.size:=CB Ax i.size;have d:w.heap.size+1<b.heap.size:=CB AU i.size))
   have q0:b.cell? (AL w 0)=some (AB k):=by rw[f _ _ Ax];simp[go_sem]
   have q1:b.cell? (AL w 1)=some (AB e.op):=by rw[f _ _ Ax];simp[go_sem]
   have q2:b.cell? (AL w 2)=some (AE p0 e.args.length r0):=by rw[f _ _ Ax];simp[go_sem]
   have q3:b.cell? (AL w 3)=some (AE p1 kids.length r1):=by rw[f _ _ Ax];simp[go_sem]
   have ap:b.cell? (AK (w.heap.size+1) 0)=some (AB 0):=by rw[f _ _ AU];simp[go_sem]
   have ao:b.cell? (AK (w.heap.size+1) 1)=some (AB 0):=by rw[f _ _ AU];simp[go_sem]
   have ak:b.cell? (AK (w.heap.size+1) 2)=some AG:=by rw[f _ _ AU];simp[go_sem]
   have an:b.cell? (AK (w.heap.size+1) 3)=some AG:=by rw[f _ _ AU];simp[go_sem]
   have v0:b.frozen? (AK (w.heap.size+1) 0)=false:=by rw[t _ _ AU];simp[go_sem]
   have v1:b.frozen? (AK (w.heap.size+1) 1)=false:=by rw[t _ _ AU];simp[go_sem]
   have v2:b.frozen? (AK (w.heap.size+1) 2)=false:=by rw[t _ _ AU];simp[go_sem]
   have v3:b.frozen? (AK (w.heap.size+1) 3)=false:=by rw[t _ _ AU];simp[go_sem]
   have L:AO w b:=AW;have qi:Hid (Oc b (w.heap.size+2) (AE s g.length q) g):=H.le AU;have al:w.heap.size+2<=b.heap.size:=AQ
   clear f t H i
   go_region_law (go_simp;go_at_call 20;refine(H2 _ (by exact L.drew)).mono ?_;rintro e w2 ⟨az,rfl,Z,ag⟩;obtain⟨I,S,ar⟩:=Af Z;subst ar;have c:=((Below.refl b.heap.size b).drew).trans ag;have rY:Hid (w2.ownsRow b.heap.size 111 3 (AE I e.args.length S) e.args.length (Ar e.args)):=Z;clear Z ag;have aw:=CB o c.size;have au:=CB d c.size;have y0:=(c.cell (p:=(AL w 0)) o).trans q0;have y1:=(c.cell (p:=(AL w 1)) o).trans q1;have y2:=(c.cell (p:=(AL w 2)) o).trans q2;have y3:=(c.cell (p:=(AL w 3)) o).trans q3;have z0:=(c.cell (p:=(AK (w.heap.size+1) 0)) d).trans ap;have z1:=(c.cell (p:=(AK (w.heap.size+1) 1)) d).trans ao;have z2:=(c.cell (p:=(AK (w.heap.size+1) 2)) d).trans ak;have z3:=(c.cell (p:=(AK (w.heap.size+1) 3)) d).trans an;have f0:=(c.frozen (p:=(AK (w.heap.size+1) 0)) d).trans v0;have f1:=(c.frozen (p:=(AK (w.heap.size+1) 1)) d).trans v1;have f2:=(c.frozen (p:=(AK (w.heap.size+1) 2)) d).trans v2;have f3:=(c.frozen (p:=(AK (w.heap.size+1) 3)) d).trans v3)
   all_goals
    try go_wp2
    refine bodyPost_ret (v:=.agg #[AB k,AB e.op,AE I e.args.length S,AE s g.length q]) (by simp[results,results92,go_sem,z0,z1,z2,z3]) rfl ⟨⟨k,e.op,e.args,I,S,s,q,g,rfl,?_,by rw[Ap.net_eq,O.out]⟩,?_⟩
    ·refine Lt.le (base:=w.heap.size+2) ?_ AQ
     have u:=(qi.below c).net k e.op e.args (Joins.ownsRow_le rY al) (λx l=>(He (n:=b.heap.size) (λj K=>(qi.lt x l j K).2) (λj K=>(rY.lt j K).1)).symm);exact Lt.setO4 u (λx l e=>by have:=(u.1.lt _ x l _ e).1;omega)
    ·have aB:=L.trans (c.mono L.size)
     exact AW
