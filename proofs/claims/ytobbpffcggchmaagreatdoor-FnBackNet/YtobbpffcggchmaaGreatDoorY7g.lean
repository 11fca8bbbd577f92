import Derived.Test.YtobbpffcggchmaaGreatDoorGr
set_option maxHeartbeats 4000000
set_option maxRecDepth 100000
namespace Go.Proofs.YtobbpffcggchmaaGreatDoor
open Tryz
open Stil
open Go.RowKit Go.Sort Go.BigFrame
theorem Asq (k:Int)(m:Ah):(Qg k m).map Ah.net=Dh k [m.net]:=by
 rw[Oe,Ah.net_eq];unfold Qg;simp only;split
 ·rfl
 ·rw[Ba0,Ah.net_eq]
theorem Aob (k:Int)(m:Ah):(Bq (Qg k m)).Sublist m.vals:=by
 unfold Qg;split
 ·rw[Ah.vals_eq]
  exact List.Sublist.cons _ (List.Sublist.cons _ (Bao _))
 ·rw[Dt];exact Bao _
theorem Ahq (k:Int)(B base:Nat)(b:List Ah)(a:Option Addr)(cap:Nat)(w:World)(ai:w.cell? ⟨B,0,none⟩=some (.int .i64 k))(hB:B<w.heap.size)(ae:Gq w base (.slice a b.length cap) b)(hl:Stil.sizes (b.map Ah.net)<=999999)(aj:base<=w.heap.size):
  Calls prog 120 #[.slice a b.length cap, .slice none 0 0, .func (.func 122) #[] #[.pointer (some ⟨B,0,none⟩)]] w λe I=>∃(a:Option Addr) (c:Nat) (f:List Ah),e=.returned (.slice a f.length c)/\f.map Ah.net=Dh k (b.map Ah.net)/\Gq I base (.slice a f.length c) f/\Below w.heap.size w I/\(Bq f).Sublist (Bq b)/\∀q,(Value.slice a f.length c).ownBlock=some q->w.heap.size<=q:=by
 have L:=hid ae;have iY:=hid hl;have ao:b.length<=1000000:=by
  have K:=Fz (b.map Ah.net);rw[A9j] at K;omega
 clear ae hl;go_enter func120,ntmps120
 go_wp2
 go_loopw [1,11] (λd i wr=>∃(j:Nat) (f:List Ah) (s:Option Addr) (t:Nat),j<=b.length/\i=.int .i64 j/\d=.slice s f.length t/\f.map Ah.net=Dh k ((b.take j).map Ah.net)/\Gq wr base (.slice s f.length t) f/\(Bq f).Sublist (Bq (b.take j))/\(∀q,(Value.slice s f.length t).ownBlock=some q->w.heap.size<=q)/\Below w.heap.size w wr) (λ_ i _=>b.length - (intOf i).toNat)
 case atStart=>exact⟨0,[],none,0,omz,rfl,rfl,rfl,Gq.nil _ _,Bao _,(λq T=>by cases T),Below.refl _ _⟩
 case round=>
  obtain⟨j,f,s,t,hj,rfl,rfl,E,ag,D,af,r⟩:=hrel;have V:=hid E;have aU:=hid ag;have Y:=hid D;have S:=hid af;clear E ag D af;by_cases U:j<b.length
  ·obtain⟨g,c,hv,_,C,_,H⟩:=Cf L.1 omz
   obtain⟨a1,N,a3,a4⟩:=Gx b j U;have x0:=(r.cell (p:=⟨g,j*4,none⟩) C).trans (H _ _ a1);have x1:=(r.cell (p:=⟨g,j*4+1,none⟩) C).trans (H _ _ N);have x2:=(r.cell (p:=⟨g,j*4+2,none⟩) C).trans (H _ _ a3);have x3:=(r.cell (p:=⟨g,j*4+3,none⟩) C).trans (H _ _ a4);have Q:=L.one j U;have J:=hid (A9m U);have ab:=(Ee _ _ _).1 Q.1;obtain⟨z,A,hd⟩:=Ac ab.1;obtain⟨y,u,aa⟩:=Ac ab.2.1;have P:f.length+b[j].kids.length+1<=1000000:=by
    have K:=congrArg List.length V.out;rw[A9j] at K;have Z:=Fz (Dh k ((b.take j).map Ah.net));have h3:=Nk k ((b.take j).map Ah.net);have h4:=Ar6 (b.map Ah.net) (j+1);rw[<-List.map_take,J.out,A9h,H6] at h4;have h5:Stil.sizes ([b[j]].map Ah.net)=Aj b[j].net:=by simp[Stil.sizes]
    have h6:=D9 b[j].net;have h7:=Fz b[j].net.kids;have h8:b[j].net.kids.length=b[j].kids.length:=by rw[Ah.net_eq];simp
    have:=iY.out
    omega
   have R:(Value.slice s f.length t::(Bq f++b[j].vals)).Pairwise Aside:=by
    have ac:(Bq f++b[j].vals).Sublist (Bq b):=by
     have K:(Bq f++b[j].vals).Sublist (Bq (b.take (j+1))):=by
      rw[J.out,Cb,Dt];exact List.Sublist.append Y (Bao _)
     refine K.trans ?_;have Z:=Cb (b.take (j+1)) (b.drop (j+1));rw[Bbu] at Z;rw[Z];exact List.sublist_append_left _ _
    rw[A9p];refine⟨λal hy=>(Eg (n:=w.heap.size) (λq T=>(L.lt al (A87 _ (ac.subset hy)) q T).2) S.out).symm,List.Pairwise.sublist ac (List.pairwise_cons.1 L.2.2).2⟩
   have F:Hid ((Bq (f++Qg k b[j])).Sublist (Bq (b.take (j+1)))):=by
    show List.Sublist _ _
    rw[J.out,Cb,Cb,Dt];exact List.Sublist.append Y (Aob k _)
   have G:Hid ((f++Qg k b[j]).map Ah.net=Dh k ((b.take (j+1)).map Ah.net)):=by
    show _=_
    rw[J.out,A9h,A9h,Ky,V.out,Asq];rfl
   obtain⟨m,hm⟩:∃m,m=b[j]:=⟨_,rfl⟩
   rw[<-hm] at x0 x1 x2 x3 Q hd aa P R F G;clear hm ab J a1 N a3 a4 H;obtain⟨v,x,l,yZ,yY,o⟩:=m;simp only at x0 x1 x2 x3 hd aa P;subst hd;subst aa;simp only[Value.slice.injEq] at hv;obtain⟨rfl,_,rfl⟩:=hv;have HI:Hid (∀W,Below wr.heap.size wr W->Calls prog 122 #[.slice s f.length t, .agg #[.int .i64 v, .int .i64 x, .slice z l.length A, .slice y o.length u], .pointer (some ⟨B,0,none⟩)] W λe I=>∃(a:Option Addr) (c:Nat),e=.returned (.slice a (f.length+(Qg k ⟨v,x,l, .slice z l.length A, .slice y o.length u,o⟩).length) c)/\Gq I base (.slice a (f.length+(Qg k ⟨v,x,l, .slice z l.length A, .slice y o.length u,o⟩).length) c) (f++Qg k ⟨v,x,l, .slice z l.length A, .slice y o.length u,o⟩)/\Below w.heap.size W I/\∀j,(Value.slice a (f.length+(Qg k ⟨v,x,l, .slice z l.length A, .slice y o.length u,o⟩).length) c).ownBlock=some j->w.heap.size<=j):=by
    intro W X;have M:=r.trans (X.mono r.size);exact A5k k B base w.heap.size s t f v x l z A y u o W ((M.cell (p:=⟨B,0,none⟩) hB).trans ai) (A82 hB M.size) (aU.below X) ((Q.below r).below X) R P (A9f aj M.size) M.size S.out
   obtain⟨O,hO⟩:∃O,O=Qg k ⟨v,x,l, .slice z l.length A, .slice y o.length u,o⟩:=⟨_,rfl⟩
   rw[<-hO] at HI F G;have ap:=A82 C r.size;clear hO Q R P C
   go_wp2_with (go_at_call 122;refine(HI _ blA).mono ?_;rintro e w2 ⟨N,c2,rfl,fO,an,ah⟩;have ak:=(show Below w.heap.size w _ from r.trans ((show Below wr.heap.size wr _ from blA).mono r.size)).trans an)
   refine⟨⟨j+1,f++O,N,c2,omz,by go_num,by rw[A83],G.out,by rw[A83];exact fO,F.out,by rw[A83];exact ah,ak⟩,by simp[intOf];omega⟩
  ·obtain rfl:j=b.length:=by omega
   have E:=V.out;rw[Ba6] at E;have G:=hid E;have D:=Y.out;rw[Ba6] at D;have F:=hid D;clear E D
   go_wp2
   go_ret;exact⟨s,t,f,rfl,G.out,aU.out,r,F.out,S.out⟩
theorem I7.setO {w:World}{base:Nat}{m:Ah}(h:I7 w base m){a:Addr}(b:∀x∈m.vals,x.ownBlock≠some a.block)(u:Value):I7 (w.setCell a u) base m:=⟨MOk.map m h.1 (λ_ _ _ _ _ d c=>ownsRow_setCell_other c (b _ d) u),h.2⟩
theorem I7.setO4 {w:World}{base b o1 o2 o3 o4:Nat}{m:Ah}{u1 u2 u3 u4:Value}(h:I7 w base m)(c:∀x∈m.vals,x.ownBlock≠some b):I7 ((((w.setCell ⟨b,o1,none⟩ u1).setCell ⟨b,o2,none⟩ u2).setCell ⟨b,o3,none⟩ u3).setCell ⟨b,o4,none⟩ u4) base m:=
 I7.setO (I7.setO (I7.setO (I7.setO h (a:=⟨b,o1,none⟩) c u1) (a:=⟨b,o2,none⟩) c u2) (a:=⟨b,o3,none⟩) c u3) (a:=⟨b,o4,none⟩) c u4
theorem Aov (k:Int)(base:Nat)(f:List Ah)(a:Option Addr)(cap:Nat)(w:World)(E:Gq w base (.slice a f.length cap) f)(hl:Stil.sizes (f.map Ah.net)<=999999)(ac:base<=w.heap.size):
  Calls prog 113 #[.int .i64 k, .slice a f.length cap] w λe T=>Afm T base (Gj k (Dh k (f.map Ah.net))) e/\Below w.heap.size w T:=by
 have B:=hid (λW ab h z h2=>Ahq k ab base f a cap W z h2 (E.below h) hl (A9f ac h.size));obtain⟨F,hF⟩:∃F,F=Dh k (f.map Ah.net):=⟨_,rfl⟩
 rw[<-hF] at B ⊢;have iD:=hid (λx hx q hq=>(E.lt x (A87 _ hx) q hq).2);clear E hl hF;go_enter func113,ntmps113;go_upto_region 2 with(go_at_call 120;refine(B _ _ blA (by simp[go_sem]) yAb).mono ?_;rintro e b ⟨s,y,d,rfl,U,aa,C,hsub,hvl⟩;have t:=hid U;have r:=hid aa;have u:Hid (∀x∈(Value.slice s d.length y)::Bq d,x.ownBlock≠some (w.heap.size+1)):=yBh;clear U aa hsub hvl)
 obtain⟨j,l⟩:=Eh C;have ah:w.heap.size+1<b.heap.size:=A82 spz C.size;have kd:b.cell? ⟨w.heap.size,0,none⟩=some (.int .i64 k):=by rw[j _ _ yAb];simp[go_sem]
 have J:b.cell? ⟨w.heap.size+1,0,none⟩=some (.int .i64 0):=by rw[j _ _ spz];simp[go_sem]
 have z1:b.cell? ⟨w.heap.size+1,1,none⟩=some (.int .i64 0):=by rw[j _ _ spz];simp[go_sem]
 have z2:b.cell? ⟨w.heap.size+1,2,none⟩=some (.slice none 0 0):=by rw[j _ _ spz];simp[go_sem]
 have L:b.cell? ⟨w.heap.size+1,3,none⟩=some (.slice none 0 0):=by rw[j _ _ spz];simp[go_sem]
 have f0:b.frozen? ⟨w.heap.size+1,0,none⟩=false:=by rw[l _ _ spz];simp[go_sem]
 have f1:b.frozen? ⟨w.heap.size+1,1,none⟩=false:=by rw[l _ _ spz];simp[go_sem]
 have f2:b.frozen? ⟨w.heap.size+1,2,none⟩=false:=by rw[l _ _ spz];simp[go_sem]
 have f3:b.frozen? ⟨w.heap.size+1,3,none⟩=false:=by rw[l _ _ spz];simp[go_sem]
 have ag:Below w.heap.size w b:=blA;clear j l C B iD;by_cases z:d.length=1
 ·obtain⟨m,rfl⟩:=List.length_eq_one_iff.1 z
  have i:=r.one 0 spz;simp only[Bab] at i;obtain⟨g,c,P,_,ae,_,o⟩:=Cf r.1 spz;obtain⟨a1,a2,a3,a4⟩:=Gx [m] 0 spz;have I:=o _ _ a1;have O:=o _ _ a2;have Q:=o _ _ a3;have Y:=o _ _ a4;simp only[Bab,Bbd,A9c] at I O Q Y;have H:=(Ee _ _ _).1 i.1;obtain⟨X,d2,hd⟩:=Ac H.1;obtain⟨M,S,V⟩:=Ac H.2.1;simp only[Value.slice.injEq] at P;obtain⟨rfl,_,rfl⟩:=P;have D:Hid (Gj k F=m.net):=by show _=_;rw[<-t.out];rfl
  have G:=hid (λx hx=>u x (A87 _ (by rw[Dt];exact hx)));clear u t;obtain⟨K,R,N,yZ,yY,Z⟩:=m;simp only at hd V I O Q Y;subst hd;subst V;have A:=hid i;clear i H o r;simp only[A93]
  go_wp2
  refine bodyPost_ret (v:=.agg #[.int .i64 K, .int .i64 R, .slice X N.length d2, .slice M Z.length S]) (by simp[results,results113,go_sem,J,z1,z2,L]) rfl ⟨⟨K,R,N,X,d2,M,S,Z,rfl,?_,D.symm⟩,blA⟩;exact I7.setO4 A G.out
 ·have D:Hid (Gj k F=⟨k,⟨0,[]⟩,d.map Ah.net⟩):=by
   show _=_
   rw[<-t.out];unfold Gj;rw[dif_neg (by simpa using z)]
  have i:=r.net k 0 [] (World.ownsRow_nil _ _ _ _) (λx _=>Le x);have A:=hid i;have G:Hid (∀x∈(Ah.mk k 0 [] (.slice none 0 0) (.slice s d.length y) d).vals,x.ownBlock≠some (w.heap.size+1)):=by
   intro x hx;rw[Ah.vals_eq] at hx;rcases List.mem_cons.1 hx with rfl | hx
   ·intro e;cases e
   ·exact u x hx
  have af:((d.length:Int)==1)=false:=by rw[A95];omega
  have qh:¬((d.length:Int)=1):=omz
  clear i r u t
  go_wp2
  refine bodyPost_ret (v:=.agg #[.int .i64 k, .int .i64 0, .slice none 0 0, .slice s d.length y]) (by simp[results,results113,go_sem,J,z1,z2,L]) rfl ⟨⟨k,0,[],none,0,s,y,d,rfl,?_,by rw[Ah.net_eq,D.out]⟩,blA⟩;exact I7.setO4 A G.out
end Go.Proofs.YtobbpffcggchmaaGreatDoor
set_option maxHeartbeats 4000000
set_option maxRecDepth 100000
namespace Go.Proofs.YtobbpffcggchmaaGreatDoor
open Tryz
open Stil
open Go.RowKit Go.Sort Go.BigFrame
theorem A5q (x:Stil.Net)(B base lo:Nat)(j:Option Addr)(i:Nat)(b:List Ah)(o y:Value)(w:World)(M:∀W,Below w.heap.size w W->Calls prog 96 #[.agg #[.int .i64 x.kind, .int .i64 x.one.op,o,y]] W λe g=>Afm g W.heap.size (Ci x) e/\Below W.heap.size W g)
  (X:A7 w o x.one.args) (Z:D8 w y x.kids) (ae:w.cell? ⟨B,0,none⟩=some (.func (.func 96) #[] #[])) (hB:B<w.heap.size) (L:Gq w base (.slice j b.length i) b) (hl:b.length+1<=1000000) (aa:base<=w.heap.size) (V:lo<=w.heap.size) (E:∀k,(Value.slice j b.length i).ownBlock=some k->lo<=k):
  Calls prog 121 #[.slice j b.length i, .agg #[.int .i64 x.kind, .int .i64 x.one.op,o,y], .pointer (some ⟨B,0,none⟩)] w λe g=>∃(a:Option Addr) (c:Nat) (m:Ah),e=.returned (.slice a (b.length+1) c)/\m.net=Ci x/\Gq g base (.slice a (b.length+1) c) (b++[m])/\Below lo w g/\∀k,(Value.slice a (b.length+1) c).ownBlock=some k->lo<=k:=by
 have O:=hid M;have F:=hid L;have Q:=hid E;obtain⟨p0,r0,rfl,R⟩:=X;obtain⟨p1,r1,rfl,nS⟩:=Z;clear R nS M L E;obtain⟨N,K⟩:∃N,N=Ci x:=⟨_,rfl⟩
 rw[<-K] at O ⊢;clear K;go_enter func121,ntmps121
 go_wp2_with (first | (go_at_call 96;refine(O _ blA).mono ?_;rintro e w1 ⟨⟨l,q,d,A,t,v,D,f,rfl,I,G⟩,ab⟩;have r:Below w.heap.size w w1:=blA;have ac:=r.size;have u:Hid (I7 w1 w.heap.size ⟨l,q,d, .slice A d.length t, .slice v f.length D,f⟩):=I.le spz;have Y:=hid G;clear I G) | (at_builtin;refine Ip rfl _ _ rfl base lo j i b [Ah.mk l q d (.slice A d.length t) (.slice v f.length D) f] _ 1 rfl rfl ((F.below r).below (Aa _ _)) (λ_=>⟨_,rfl,by exact Az4 spz⟩) (λm C=>by rw[List.mem_singleton.1 C];exact(u.1.le aa).below (Aa _ _)) (F.apart (w1:=w1) (b1:=w.heap.size) (λm C=>by rw[List.mem_singleton.1 C];exact u.1) (A88 _) (by rw[Dt];exact u.2)) (by simp only[A93];exact hl) yBd yBd Q.out ?_;intro z s w6 H S J;have P:Hid (Gq w6 base (.slice z (b.length+1) s) (b++[Ah.mk l q d (.slice A d.length t) (.slice v f.length D) f])):=H;have T:Hid (∀k,(Value.slice z (b.length+1) s).ownBlock=some k->lo<=k):=J;clear H J;have U:=(((Be r _).mono V)).trans S))
 go_ret;exact⟨z,s,_,rfl,Y.out,P.out,U,T.out⟩
theorem zi0 {p:Prop}(h:p:=by
 obtain rfl:j=es.length:=by omega
 have hmn:=aQ.out;rw[Ba6] at hmn;have dU:=hid hmn;clear hmn
 go_wp2
 go_ret;exact⟨ra,rc,ms,rfl,dU.out,aU.out,hb⟩):p:=h
theorem Ato (es:List Stil.Net)(J:∀x∈es,∀(l g:Value) (w:World),A7 w l x.one.args->D8 w g x.kids->Calls prog 96 #[.agg #[.int .i64 x.kind, .int .i64 x.one.op,l,g]] w λe f=>Afm f w.heap.size (Ci x) e/\Below w.heap.size w f)
  (B:Nat) (v:Value) (w:World) (P:D8 w v es) (hl:es.length<=999999) (I:w.cell? ⟨B,0,none⟩=some (.func (.func 96) #[] #[])) (E:B<w.heap.size):
  Calls prog 120 #[v, .slice none 0 0, .func (.func 121) #[] #[.pointer (some ⟨B,0,none⟩)]] w λe f=>∃(a:Option Addr) (c:Nat) (ms:List Ah),e=.returned (.slice a ms.length c)/\ms.map Ah.net=es.map Ci/\Gq f w.heap.size (.slice a ms.length c) ms/\Below w.heap.size w f:=by
 obtain⟨a,cap,rfl,z⟩:=P;have N:=hid z;have X:=hid J;have Z:=hid I;clear z J I;go_enter func120,ntmps120
 go_wp2
 go_loopw [1,11] (λd i wr=>∃(j:Nat) (ms:List Ah) (ra:Option Addr) (rc:Nat),j<=es.length/\i=.int .i64 j/\d=.slice ra ms.length rc/\ms.map Ah.net=(es.take j).map Ci/\Gq wr w.heap.size (.slice ra ms.length rc) ms/\Below w.heap.size w wr) (λ_ i _=>es.length - (intOf i).toNat)
 case atStart=>exact⟨0,[],none,0,omz,rfl,rfl,rfl,Gq.nil _ _,Below.refl _ _⟩
 case round=>
  obtain⟨j,ms,ra,rc,hj,rfl,rfl,hmn,H,hb⟩:=hrel;have aQ:=hid hmn;have aU:=hid H;clear hmn H;by_cases y:j<es.length
  ·have S:ms.length=j:=by
    have h1:=congrArg List.length aQ.out;rw[A9j,A9j,Ba7] at h1;omega
   obtain⟨b,o,rfl,u,L⟩:=N j y;obtain⟨x0,U,l,g,x2,x3,s,t⟩:=(Oz.below hb _ _ _ L u).open;have F:=hid (A9m y);have D:Hid (∀W,Below wr.heap.size wr W->Calls prog 121 #[.slice ra ms.length rc, .agg #[.int .i64 es[j].kind, .int .i64 es[j].one.op,l,g], .pointer (some ⟨B,0,none⟩)] W λe f=>∃(a:Option Addr) (c:Nat) (m:Ah),e=.returned (.slice a (ms.length+1) c)/\m.net=Ci es[j]/\Gq f w.heap.size (.slice a (ms.length+1) c) (ms++[m])/\Below w.heap.size W f/\∀k,(Value.slice a (ms.length+1) c).ownBlock=some k->w.heap.size<=k):=by
    intro W q;have r:=hb.trans (q.mono hb.size);exact A5q es[j] B w.heap.size w.heap.size ra rc ms l g W (λV C=>X es[j] (A9a y) l g V ((s.below q).below C) ((t.below q).below C)) (s.below q) (t.below q) ((r.cell (p:=⟨B,0,none⟩) E).trans Z.out) (A82 E r.size) (aU.below q) omz r.size r.size (λk T=>(aU.1.lt k T).1)
   obtain⟨x,A⟩:∃x,x=es[j]:=⟨_,rfl⟩
   rw[<-A] at D x0 U s t F;obtain⟨p0,r0,rfl,O⟩:=s;obtain⟨p1,r1,rfl,R⟩:=t;have ac:=A82 u hb.size;clear A L O R S u
   go_wp2_with (go_at_call 121;refine(D _ blA).mono ?_;rintro e w2 ⟨a2,c2,m,rfl,G,K,aa,Y⟩;have Q:=(show Below w.heap.size w _ from hb.trans ((show Below wr.heap.size wr _ from blA).mono hb.size)).trans aa;have M:=hid G;have ab:=hid K;clear G K Y)
   refine⟨⟨j+1,ms++[m],a2,c2,omz,by go_num,spz,?_,by rw[A83];exact ab.out,Q⟩,by simp[intOf];omega⟩;rw[F.out,A9h,A9h,aQ.out,Ba0,Ba0,M.out]
  ·exact zi0
theorem Atk (es:List Stil.Net)(m:∀x∈es,∀(f l:Value) (w:World),A7 w f x.one.args->D8 w l x.kids->Calls prog 96 #[.agg #[.int .i64 x.kind, .int .i64 x.one.op,f,l]] w λe d=>Afm d w.heap.size (Ci x) e/\Below w.heap.size w d)
  (v:Value) (w:World) (i:D8 w v es) (hl:es.length<=999999):
  Calls prog 112 #[v, .func (.func 96) #[] #[]] w λe d=>∃(a:Option Addr) (c:Nat) (b:List Ah),e=.returned (.slice a b.length c)/\b.map Ah.net=es.map Ci/\Gq d w.heap.size (.slice a b.length c) b/\Below w.heap.size w d:=by
 have s:=hid (λW B h z y=>Ato es m B v W (i.below h) hl z y);obtain⟨A,D,rfl,r⟩:=i;clear r m;go_enter func112,ntmps112
 go_wp2_with (go_at_call 120;refine(s _ _ blA (by simp[go_sem]) spz).mono ?_;rintro e t ⟨o,j,b,rfl,g,k,C⟩;have u:=hid g;have q:Hid (Gq t _ (.slice o b.length j) b):=k;clear g k)
 go_ret;exact⟨o,j,b,rfl,u.out,q.le spz,blA⟩
set_option maxHeartbeats 2000000 in
set_option maxRecDepth 100000 in
theorem Ay3 (n:Stil.Net):Cj n->Aj n<=999999->∀(F D:Value) (w:World),A7 w F n.one.args->D8 w D n.kids->Calls prog 96 #[.agg #[.int .i64 n.kind, .int .i64 n.one.op,F,D]] w λe y=>Afm y w.heap.size (Ci n) e/\Below w.heap.size w y:=by
 induction n using Et with
 | h k e kids ih=>
  intro ab ag F D w O Q;obtain⟨_,he,hl,hk⟩:=(Gt _ _ _).1 ab;obtain⟨ah,af⟩:=Atd ag;simp only at O Q;have ac:kids.length<=999999:=by
   have Z:=Fz (kids.map Ci);rw[A9j] at Z;omega
  have K:=hid (λW h=>Atk kids (λx l=>ih x l (hk x l) (af x l)) D W (Q.below h) ac);have H2:=hid (λW h=>Oc e.op F e.args W (O.below h) he.2.1);have I:=hid ah;obtain⟨p0,r0,rfl,fM⟩:=O;obtain⟨p1,r1,rfl,nS⟩:=Q;clear ih ab he hl hk ag ah af fM nS ac;by_cases B:k=2\/k=3
  ·have u:Hid (Ci ⟨k,e,kids⟩=Gj k (Dh k (kids.map Ci))):=by show _=_;rw[J4,if_pos B]
   rw[u.out];have HB:Hid (∀W base s a cap,Gq W base (.slice a s.length cap) s->s.map Ah.net=kids.map Ci->base<=W.heap.size->Calls prog 113 #[.int .i64 k, .slice a s.length cap] W λe y=>Afm y base (Gj k (Dh k (kids.map Ci))) e/\Below W.heap.size W y):=by
    intro W base s a cap Z h2 h3;have:=Aov k base s a cap W Z (by rw[h2];exact I.out) h3
    rwa [h2] at this
   obtain⟨aa,hN⟩:∃aa,aa=Gj k (Dh k (kids.map Ci)):=⟨_,rfl⟩
   rw[<-hN] at HB ⊢;clear u hN I H2;rcases B with rfl | rfl
   all_goals
    go_enter func96,ntmps96
    go_wp2_with (first | (go_at_call 112;refine(K _ blA).mono ?_;rintro e b ⟨q,t,g,rfl,m,A,i⟩;obtain⟨f,r⟩:=Eh i;have P:=hid m;have G:Hid (Gq b _ (.slice q g.length t) g):=A;clear m A;have o:w.heap.size<b.heap.size:=A82 yAb i.size;have d:w.heap.size+1<b.heap.size:=A82 spz i.size) | (go_at_call 113;refine(HB _ _ _ _ _ G P (i.size)).mono ?_;rintro e w3 ⟨⟨M,R,E,U,X,T,L,H,rfl,z,m⟩,ai⟩;obtain⟨C,aw⟩:=Eh ai;have ay:=A82 d ai.size;have bG:Hid (I7 w3 (w.heap.size+2) ⟨M,R,E, .slice U E.length X, .slice T H.length L,H⟩):=z.le spz;have dU:=hid m;clear z m))
    have b0:w3.cell? ⟨w.heap.size+1,0,none⟩=some (.int .i64 0):=by rw[C _ _ d,f _ _ spz];simp[go_sem]
    have b1:w3.cell? ⟨w.heap.size+1,1,none⟩=some (.int .i64 0):=by rw[C _ _ d,f _ _ spz];simp[go_sem]
    have b2:w3.cell? ⟨w.heap.size+1,2,none⟩=some (.slice none 0 0):=by rw[C _ _ d,f _ _ spz];simp[go_sem]
    have b3:w3.cell? ⟨w.heap.size+1,3,none⟩=some (.slice none 0 0):=by rw[C _ _ d,f _ _ spz];simp[go_sem]
    refine bodyPost_ret (v:=.agg #[.int .i64 M, .int .i64 R, .slice U E.length X, .slice T H.length L]) (by simp[results,results96,go_sem,b0,b1,b2,b3]) rfl ⟨⟨M,R,E,U,X,T,L,H,rfl,?_,dU.out⟩,blA⟩;refine I7.le (base:=w.heap.size+2) ?_ omz;exact I7.setO4 bG (λx l e=>by have:=(bG.1.lt _ x l _ e).1;omega)
  ·have u:Hid (Ci ⟨k,e,kids⟩=⟨k,e,kids.map Ci⟩):=by show _=_;rw[J4,if_neg B]
   rw[u.out];have aD:(k==2)=false:=by rw[A95];omega
   have aB:(k==3)=false:=by rw[A95];omega
   obtain⟨ks,ae⟩:∃ks,ks=kids.map Ci:=⟨_,rfl⟩
   rw[<-ae] at K ⊢;clear u I ae B;go_enter func96,ntmps96
   go_wp2_with (first | (go_at_call 112;refine(K _ blA).mono ?_;rintro e b ⟨q,t,g,rfl,m,A,i⟩;obtain⟨f,r⟩:=Eh i;have P:=hid m;have G:Hid (Gq b _ (.slice q g.length t) g):=A;clear m A;have o:w.heap.size<b.heap.size:=A82 yAb i.size;have d:w.heap.size+1<b.heap.size:=A82 spz i.size))
   have q0:b.cell? ⟨w.heap.size,0,none⟩=some (.int .i64 k):=by rw[f _ _ yAb];simp[go_sem]
   have q1:b.cell? ⟨w.heap.size,1,none⟩=some (.int .i64 e.op):=by rw[f _ _ yAb];simp[go_sem]
   have q2:b.cell? ⟨w.heap.size,2,none⟩=some (.slice p0 e.args.length r0):=by rw[f _ _ yAb];simp[go_sem]
   have q3:b.cell? ⟨w.heap.size,3,none⟩=some (.slice p1 kids.length r1):=by rw[f _ _ yAb];simp[go_sem]
   have al:b.cell? ⟨w.heap.size+1,0,none⟩=some (.int .i64 0):=by rw[f _ _ spz];simp[go_sem]
   have ar:b.cell? ⟨w.heap.size+1,1,none⟩=some (.int .i64 0):=by rw[f _ _ spz];simp[go_sem]
   have ak:b.cell? ⟨w.heap.size+1,2,none⟩=some (.slice none 0 0):=by rw[f _ _ spz];simp[go_sem]
   have an:b.cell? ⟨w.heap.size+1,3,none⟩=some (.slice none 0 0):=by rw[f _ _ spz];simp[go_sem]
   have v0:b.frozen? ⟨w.heap.size+1,0,none⟩=false:=by rw[r _ _ spz];simp[go_sem]
   have v1:b.frozen? ⟨w.heap.size+1,1,none⟩=false:=by rw[r _ _ spz];simp[go_sem]
   have v2:b.frozen? ⟨w.heap.size+1,2,none⟩=false:=by rw[r _ _ spz];simp[go_sem]
   have v3:b.frozen? ⟨w.heap.size+1,3,none⟩=false:=by rw[r _ _ spz];simp[go_sem]
   have V:Below w.heap.size w b:=blA;have yE:Hid (Gq b (w.heap.size+2) (.slice q g.length t) g):=G.le spz;have ao:w.heap.size+2<=b.heap.size:=omz
   clear f r G i
   go_region_law (go_simp;go_at_call 76;refine(H2 _ (by exact V.drew)).mono ?_;rintro e w2 ⟨au,rfl,J,aj⟩;obtain⟨N,S,ap⟩:=Ac J;subst ap;have c:=((Below.refl b.heap.size b).drew).trans aj;have qQ:Hid (w2.ownsRow b.heap.size 34 3 (.slice N e.args.length S) e.args.length (Am e.args)):=J;clear J aj;have az:=A82 o c.size;have ax:=A82 d c.size;have y0:=(c.cell (p:=⟨w.heap.size,0,none⟩) o).trans q0;have y1:=(c.cell (p:=⟨w.heap.size,1,none⟩) o).trans q1;have y2:=(c.cell (p:=⟨w.heap.size,2,none⟩) o).trans q2;have y3:=(c.cell (p:=⟨w.heap.size,3,none⟩) o).trans q3;have z0:=(c.cell (p:=⟨w.heap.size+1,0,none⟩) d).trans al;have z1:=(c.cell (p:=⟨w.heap.size+1,1,none⟩) d).trans ar;have z2:=(c.cell (p:=⟨w.heap.size+1,2,none⟩) d).trans ak;have z3:=(c.cell (p:=⟨w.heap.size+1,3,none⟩) d).trans an;have f0:=(c.frozen (p:=⟨w.heap.size+1,0,none⟩) d).trans v0;have f1:=(c.frozen (p:=⟨w.heap.size+1,1,none⟩) d).trans v1;have f2:=(c.frozen (p:=⟨w.heap.size+1,2,none⟩) d).trans v2;have f3:=(c.frozen (p:=⟨w.heap.size+1,3,none⟩) d).trans v3)
   all_goals
    try go_wp2
    refine bodyPost_ret (v:=.agg #[.int .i64 k, .int .i64 e.op, .slice N e.args.length S, .slice q g.length t]) (by simp[results,results96,go_sem,z0,z1,z2,z3]) rfl ⟨⟨k,e.op,e.args,N,S,q,t,g,rfl,?_,by rw[Ah.net_eq,P.out]⟩,?_⟩
    ·refine I7.le (base:=w.heap.size+2) ?_ omz
     have z:=(yE.below c).net k e.op e.args (Joins.ownsRow_le qQ ao) (λx l=>(Eg (n:=b.heap.size) (λj Y=>(yE.lt x l j Y).2) (λj Y=>(qQ.lt j Y).1)).symm);exact I7.setO4 z (λx l e=>by have:=(z.1.lt _ x l _ e).1;omega)
    ·have aA:=V.trans (c.mono V.size)
     exact blA
end Go.Proofs.YtobbpffcggchmaaGreatDoor
