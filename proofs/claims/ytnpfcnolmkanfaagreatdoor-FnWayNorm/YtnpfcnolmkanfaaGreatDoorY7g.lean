import Derived.Test.YtnpfcnolmkanfaaGreatDoorGm
set_option maxHeartbeats 4000000
set_option maxRecDepth 100000
namespace Go.Proofs.YtnpfcnolmkanfaaGreatDoor
open Tryz
open Stil
open Go.RowKit Go.Sort Go.BigFrame
theorem Ara (k:Int)(m:Aq):(Py k m).map Aq.net=Bz k [m.net]:=by
 rw[Nz,Aq.net_eq];unfold Py;simp only;split
 ·rfl
 ·rw[A7x,Aq.net_eq]
theorem Anm (k:Int)(m:Aq):(Fp (Py k m)).Sublist m.vals:=by
 unfold Py;split
 ·rw[Aq.vals_eq]
  exact List.Sublist.cons _ (List.Sublist.cons _ (A7m _))
 ·rw[Kt];exact A7m _
theorem Ag9 (k:Int)(B base:Nat)(b:List Aq)(a:Option Addr)(cap:Nat)(w:World)(ai:w.cell? ⟨B,0,none⟩=some (.int .i64 k))(hB:B<w.heap.size)(af:L9 w base (.slice a b.length cap) b)(hl:Stil.sizes (b.map Aq.net)<=999999)(ag:base<=w.heap.size):
  Calls prog 110 #[.slice a b.length cap, .slice none 0 0, .func (.func 112) #[] #[.pointer (some ⟨B,0,none⟩)]] w λe F=>∃(a:Option Addr) (c:Nat) (f:List Aq),e=.returned (.slice a f.length c)/\f.map Aq.net=Bz k (b.map Aq.net)/\L9 F base (.slice a f.length c) f/\Below w.heap.size w F/\(Fp f).Sublist (Fp b)/\∀q,(Value.slice a f.length c).ownBlock=some q->w.heap.size<=q:=by
 have P:=hid af;have zY:=hid hl;have ao:b.length<=1000000:=by
  have H:=Ku (b.map Aq.net);rw[A6i] at H;omega
 clear af hl;go_enter func110,ntmps110
 go_wp2
 go_loopw [1,11] (λd i wr=>∃(j:Nat) (f:List Aq) (s:Option Addr) (t:Nat),j<=b.length/\i=.int .i64 j/\d=.slice s f.length t/\f.map Aq.net=Bz k ((b.take j).map Aq.net)/\L9 wr base (.slice s f.length t) f/\(Fp f).Sublist (Fp (b.take j))/\(∀q,(Value.slice s f.length t).ownBlock=some q->w.heap.size<=q)/\Below w.heap.size w wr) (λ_ i _=>b.length - (intOf i).toNat)
 case atStart=>exact⟨0,[],none,0,omz,rfl,rfl,rfl,L9.nil _ _,A7m _,(λq Z=>by cases Z),Below.refl _ _⟩
 case round=>
  obtain⟨j,f,s,t,hj,rfl,rfl,D,ab,E,ac,r⟩:=hrel;have X:=hid D;have aW:=hid ab;have T:=hid E;have jP:=hid ac;clear D ab E ac;by_cases V:j<b.length
  ·obtain⟨g,c,hv,_,C,_,K⟩:=Bo P.1 omz
   obtain⟨a1,Q,a3,a4⟩:=Nv b j V;have x0:=(r.cell (p:=⟨g,j*4,none⟩) C).trans (K _ _ a1);have x1:=(r.cell (p:=⟨g,j*4+1,none⟩) C).trans (K _ _ Q);have x2:=(r.cell (p:=⟨g,j*4+2,none⟩) C).trans (K _ _ a3);have x3:=(r.cell (p:=⟨g,j*4+3,none⟩) C).trans (K _ _ a4);have M:=P.one j V;have I:=hid (A6l V);have Y:=(Jb _ _ _).1 M.1;obtain⟨y,v,hd⟩:=Aj Y.1;obtain⟨z,x,aa⟩:=Aj Y.2.1;have L:f.length+b[j].kids.length+1<=1000000:=by
    have H:=congrArg List.length X.out;rw[A6i] at H;have U:=Ku (Bz k ((b.take j).map Aq.net));have h3:=Jw k ((b.take j).map Aq.net);have h4:=Agi (b.map Aq.net) (j+1);rw[<-List.map_take,I.out,A6g,Sv] at h4;have h5:Stil.sizes ([b[j]].map Aq.net)=Am b[j].net:=by simp[Stil.sizes]
    have h6:=Ep b[j].net;have h7:=Ku b[j].net.kids;have h8:b[j].net.kids.length=b[j].kids.length:=by rw[Aq.net_eq];simp
    have:=zY.out
    omega
   have S:(Value.slice s f.length t::(Fp f++b[j].vals)).Pairwise Aside:=by
    have ae:(Fp f++b[j].vals).Sublist (Fp b):=by
     have H:(Fp f++b[j].vals).Sublist (Fp (b.take (j+1))):=by
      rw[I.out,P6,Kt];exact List.Sublist.append T (A7m _)
     refine H.trans ?_;have U:=P6 (b.take (j+1)) (b.drop (j+1));rw[A8r] at U;rw[U];exact List.sublist_append_left _ _
    rw[A6o];refine⟨λal hy=>(Ij (n:=w.heap.size) (λq Z=>(P.lt al (A56 _ (ae.subset hy)) q Z).2) jP.out).symm,List.Pairwise.sublist ae (List.pairwise_cons.1 P.2.2).2⟩
   have J:Hid ((Fp (f++Py k b[j])).Sublist (Fp (b.take (j+1)))):=by
    show List.Sublist _ _
    rw[I.out,P6,P6,Kt];exact List.Sublist.append T (Anm k _)
   have G:Hid ((f++Py k b[j]).map Aq.net=Bz k ((b.take (j+1)).map Aq.net)):=by
    show _=_
    rw[I.out,A6g,A6g,Kv,X.out,Ara];rfl
   obtain⟨m,hm⟩:∃m,m=b[j]:=⟨_,rfl⟩
   rw[<-hm] at x0 x1 x2 x3 M hd aa L S J G;clear hm Y I a1 Q a3 a4 K;obtain⟨u,A,o,oz,ou,l⟩:=m;simp only at x0 x1 x2 x3 hd aa L;subst hd;subst aa;simp only[Value.slice.injEq] at hv;obtain⟨rfl,_,rfl⟩:=hv;have HI:Hid (∀W,Below wr.heap.size wr W->Calls prog 112 #[.slice s f.length t, .agg #[.int .i64 u, .int .i64 A, .slice y o.length v, .slice z l.length x], .pointer (some ⟨B,0,none⟩)] W λe F=>∃(a:Option Addr) (c:Nat),e=.returned (.slice a (f.length+(Py k ⟨u,A,o, .slice y o.length v, .slice z l.length x,l⟩).length) c)/\L9 F base (.slice a (f.length+(Py k ⟨u,A,o, .slice y o.length v, .slice z l.length x,l⟩).length) c) (f++Py k ⟨u,A,o, .slice y o.length v, .slice z l.length x,l⟩)/\Below w.heap.size W F/\∀j,(Value.slice a (f.length+(Py k ⟨u,A,o, .slice y o.length v, .slice z l.length x,l⟩).length) c).ownBlock=some j->w.heap.size<=j):=by
    intro W R;have N:=r.trans (R.mono r.size);exact A24 k B base w.heap.size s t f u A o y v z x l W ((N.cell (p:=⟨B,0,none⟩) hB).trans ai) (A51 hB N.size) (aW.below R) ((M.below r).below R) S L (A6e ag N.size) N.size jP.out
   obtain⟨O,hO⟩:∃O,O=Py k ⟨u,A,o, .slice y o.length v, .slice z l.length x,l⟩:=⟨_,rfl⟩
   rw[<-hO] at HI J G;have an:=A51 C r.size;clear hO M S L C
   go_wp2_with (go_at_call 112;refine(HI _ blA).mono ?_;rintro e w2 ⟨Q,c2,rfl,gB,aj,ah⟩;have ak:=(show Below w.heap.size w _ from r.trans ((show Below wr.heap.size wr _ from blA).mono r.size)).trans aj)
   refine⟨⟨j+1,f++O,Q,c2,omz,by go_num,by rw[A52],G.out,by rw[A52];exact gB,J.out,by rw[A52];exact ah,ak⟩,by simp[intOf];omega⟩
  ·obtain rfl:j=b.length:=by omega
   have D:=X.out;rw[A73] at D;have G:=hid D;have E:=T.out;rw[A73] at E;have J:=hid E;clear D E
   go_wp2
   go_ret;exact⟨s,t,f,rfl,G.out,aW.out,r,J.out,jP.out⟩
theorem J7.setO {w:World}{base:Nat}{m:Aq}(h:J7 w base m){a:Addr}(d:∀x∈m.vals,x.ownBlock≠some a.block)(u:Value):J7 (w.setCell a u) base m:=⟨MOk.map m h.1 (λ_ _ _ _ _ b c=>ownsRow_setCell_other c (d _ b) u),h.2⟩
theorem J7.setO4 {w:World}{base b d f g l:Nat}{m:Aq}{e j i k:Value}(h:J7 w base m)(c:∀x∈m.vals,x.ownBlock≠some b):J7 ((((w.setCell ⟨b,d,none⟩ e).setCell ⟨b,f,none⟩ j).setCell ⟨b,g,none⟩ i).setCell ⟨b,l,none⟩ k) base m:=
 J7.setO (J7.setO (J7.setO (J7.setO h (a:=⟨b,d,none⟩) c e) (a:=⟨b,f,none⟩) c j) (a:=⟨b,g,none⟩) c i) (a:=⟨b,l,none⟩) c k
theorem An4 (k:Int)(base:Nat)(i:List Aq)(a:Option Addr)(cap:Nat)(w:World)(G:L9 w base (.slice a i.length cap) i)(hl:Stil.sizes (i.map Aq.net)<=999999)(ab:base<=w.heap.size):
  Calls prog 97 #[.int .i64 k, .slice a i.length cap] w λe P=>Qi P base (E5 k (Bz k (i.map Aq.net))) e/\Below w.heap.size w P:=by
 have H:=hid (λW ac h y h2=>Ag9 k ac base i a cap W y h2 (G.below h) hl (A6e ab h.size));obtain⟨F,hF⟩:∃F,F=Bz k (i.map Aq.net):=⟨_,rfl⟩
 rw[<-hF] at H ⊢;have lF:=hid (λx hx q hq=>(G.lt x (A56 _ hx) q hq).2);clear G hl hF;go_enter func97,ntmps97;go_upto_region 2 with(go_at_call 110;refine(H _ _ blA (by simp[go_sem]) yAd).mono ?_;rintro e b ⟨t,z,d,rfl,R,J,D,hsub,hvl⟩;have s:=hid R;have r:=hid J;have u:Hid (∀x∈(Value.slice t d.length z)::Fp d,x.ownBlock≠some (w.heap.size+1)):=yCe;clear R J hsub hvl)
 obtain⟨j,l⟩:=D7 D;have ah:w.heap.size+1<b.heap.size:=A51 spz D.size;have kd:b.cell? ⟨w.heap.size,0,none⟩=some (.int .i64 k):=by rw[j _ _ yAd];simp[go_sem]
 have M:b.cell? ⟨w.heap.size+1,0,none⟩=some (.int .i64 0):=by rw[j _ _ spz];simp[go_sem]
 have K:b.cell? ⟨w.heap.size+1,1,none⟩=some (.int .i64 0):=by rw[j _ _ spz];simp[go_sem]
 have Q:b.cell? ⟨w.heap.size+1,2,none⟩=some (.slice none 0 0):=by rw[j _ _ spz];simp[go_sem]
 have I:b.cell? ⟨w.heap.size+1,3,none⟩=some (.slice none 0 0):=by rw[j _ _ spz];simp[go_sem]
 have f0:b.frozen? ⟨w.heap.size+1,0,none⟩=false:=by rw[l _ _ spz];simp[go_sem]
 have f1:b.frozen? ⟨w.heap.size+1,1,none⟩=false:=by rw[l _ _ spz];simp[go_sem]
 have f2:b.frozen? ⟨w.heap.size+1,2,none⟩=false:=by rw[l _ _ spz];simp[go_sem]
 have f3:b.frozen? ⟨w.heap.size+1,3,none⟩=false:=by rw[l _ _ spz];simp[go_sem]
 have af:Below w.heap.size w b:=blA;clear j l D H lF;by_cases y:d.length=1
 ·obtain⟨m,rfl⟩:=List.length_eq_one_iff.1 y
  have f:=r.one 0 spz;simp only[A7a] at f;obtain⟨g,c,O,_,ae,_,o⟩:=Bo r.1 spz;obtain⟨a1,a2,a3,a4⟩:=Nv [m] 0 spz;have N:=o _ _ a1;have T:=o _ _ a2;have X:=o _ _ a3;have S:=o _ _ a4;simp only[A7a,A8a,A6b] at N T X S;have C:=(Jb _ _ _).1 f.1;obtain⟨Y,d2,hd⟩:=Aj C.1;obtain⟨V,d4,aa⟩:=Aj C.2.1;simp only[Value.slice.injEq] at O;obtain⟨rfl,_,rfl⟩:=O;have A:Hid (E5 k F=m.net):=by show _=_;rw[<-s.out];rfl
  have B:=hid (λx hx=>u x (A56 _ (by rw[Kt];exact hx)));clear u s;obtain⟨L,aK,Z,oz,ou,U⟩:=m;simp only at hd aa N T X S;subst hd;subst aa;have E:=hid f;clear f C o r;simp only[A62]
  go_wp2
  refine bodyPost_ret (v:=.agg #[.int .i64 L, .int .i64 aK, .slice Y Z.length d2, .slice V U.length d4]) (by simp[results,results97,go_sem,M,K,Q,I]) rfl ⟨⟨L,aK,Z,Y,d2,V,d4,U,rfl,?_,A.symm⟩,blA⟩;exact J7.setO4 E B.out
 ·have A:Hid (E5 k F=⟨k,⟨0,[]⟩,d.map Aq.net⟩):=by
   show _=_
   rw[<-s.out];unfold E5;rw[dif_neg (by simpa using y)]
  have f:=r.net k 0 [] (World.ownsRow_nil _ _ _ _) (λx _=>Qe x);have E:=hid f;have B:Hid (∀x∈(Aq.mk k 0 [] (.slice none 0 0) (.slice t d.length z) d).vals,x.ownBlock≠some (w.heap.size+1)):=by
   intro x hx;rw[Aq.vals_eq] at hx;rcases List.mem_cons.1 hx with rfl | hx
   ·intro e;cases e
   ·exact u x hx
  have ag:((d.length:Int)==1)=false:=by rw[A64];omega
  have zO:¬((d.length:Int)=1):=omz
  clear f r u s
  go_wp2
  refine bodyPost_ret (v:=.agg #[.int .i64 k, .int .i64 0, .slice none 0 0, .slice t d.length z]) (by simp[results,results97,go_sem,M,K,Q,I]) rfl ⟨⟨k,0,[],none,0,t,z,d,rfl,?_,by rw[Aq.net_eq,A.out]⟩,blA⟩;exact J7.setO4 E B.out
end Go.Proofs.YtnpfcnolmkanfaaGreatDoor
set_option maxHeartbeats 4000000
set_option maxRecDepth 100000
namespace Go.Proofs.YtnpfcnolmkanfaaGreatDoor
open Tryz
open Stil
open Go.RowKit Go.Sort Go.BigFrame
theorem A28 (x:Stil.Net)(B base lo:Nat)(i:Option Addr)(j:Nat)(b:List Aq)(C r:Value)(w:World)(J:∀W,Below w.heap.size w W->Calls prog 70 #[.agg #[.int .i64 x.kind, .int .i64 x.one.op,C,r]] W λe g=>Qi g W.heap.size (Au x) e/\Below W.heap.size W g)
  (Q:Dh w C x.one.args) (Y:E8 w r x.kids) (af:w.cell? ⟨B,0,none⟩=some (.func (.func 70) #[] #[])) (hB:B<w.heap.size) (F:L9 w base (.slice i b.length j) b) (hl:b.length+1<=1000000) (S:base<=w.heap.size) (ab:lo<=w.heap.size) (H:∀k,(Value.slice i b.length j).ownBlock=some k->lo<=k):
  Calls prog 111 #[.slice i b.length j, .agg #[.int .i64 x.kind, .int .i64 x.one.op,C,r], .pointer (some ⟨B,0,none⟩)] w λe g=>∃(a:Option Addr) (c:Nat) (m:Aq),e=.returned (.slice a (b.length+1) c)/\m.net=Au x/\L9 g base (.slice a (b.length+1) c) (b++[m])/\Below lo w g/\∀k,(Value.slice a (b.length+1) c).ownBlock=some k->lo<=k:=by
 have K:=hid J;have O:=hid F;have R:=hid H;obtain⟨p0,r0,rfl,Z⟩:=Q;obtain⟨p1,r1,rfl,P⟩:=Y;clear Z P J F H;obtain⟨N,M⟩:∃N,N=Au x:=⟨_,rfl⟩
 rw[<-M] at K ⊢;clear M;go_enter func111,ntmps111
 go_wp2_with (first | (go_at_call 70;refine(K _ blA).mono ?_;rintro e w1 ⟨⟨t,v,f,A,y,s,z,d,rfl,I,E⟩,ag⟩;have q:Below w.heap.size w w1:=blA;have ae:=q.size;have l:Hid (J7 w1 w.heap.size ⟨t,v,f, .slice A f.length y, .slice s d.length z,d⟩):=I.le spz;have X:=hid E;clear I E) | (at_builtin;refine Ql rfl _ _ rfl base lo i j b [Aq.mk t v f (.slice A f.length y) (.slice s d.length z) d] _ 1 rfl rfl ((O.below q).below (Aa _ _)) (λ_=>⟨_,rfl,by exact Ayb spz⟩) (λm D=>by rw[List.mem_singleton.1 D];exact(l.1.le S).below (Aa _ _)) (O.apart (w1:=w1) (b1:=w.heap.size) (λm D=>by rw[List.mem_singleton.1 D];exact l.1) (A57 _) (by rw[Kt];exact l.2)) (by simp only[A62];exact hl) yBd yBd R.out ?_;intro u o V G aa L;have U:Hid (L9 V base (.slice u (b.length+1) o) (b++[Aq.mk t v f (.slice A f.length y) (.slice s d.length z) d])):=G;have T:Hid (∀k,(Value.slice u (b.length+1) o).ownBlock=some k->lo<=k):=L;clear G L;have ac:=(((Cc q _).mono ab)).trans aa))
 go_ret;exact⟨u,o,_,rfl,X.out,U.out,ac,T.out⟩
theorem zR {p:Prop}(h:p:=by
 obtain rfl:j=es.length:=by omega
 have hmn:=aQ.out;rw[A73] at hmn;have dD:=hid hmn;clear hmn
 go_wp2
 go_ret;exact⟨ra,rc,ms,rfl,dD.out,aW.out,hb⟩):p:=h
theorem Ar7 (es:List Stil.Net)(C:∀x∈es,∀(q l:Value) (w:World),Dh w q x.one.args->E8 w l x.kids->Calls prog 70 #[.agg #[.int .i64 x.kind, .int .i64 x.one.op,q,l]] w λe f=>Qi f w.heap.size (Au x) e/\Below w.heap.size w f)
  (B:Nat) (v:Value) (w:World) (O:E8 w v es) (hl:es.length<=999999) (D:w.cell? ⟨B,0,none⟩=some (.func (.func 70) #[] #[])) (G:B<w.heap.size):
  Calls prog 110 #[v, .slice none 0 0, .func (.func 111) #[] #[.pointer (some ⟨B,0,none⟩)]] w λe f=>∃(a:Option Addr) (c:Nat) (ms:List Aq),e=.returned (.slice a ms.length c)/\ms.map Aq.net=es.map Au/\L9 f w.heap.size (.slice a ms.length c) ms/\Below w.heap.size w f:=by
 obtain⟨a,cap,rfl,J⟩:=O;have M:=hid J;have T:=hid C;have Q:=hid D;clear J C D;go_enter func110,ntmps110
 go_wp2
 go_loopw [1,11] (λd i wr=>∃(j:Nat) (ms:List Aq) (ra:Option Addr) (rc:Nat),j<=es.length/\i=.int .i64 j/\d=.slice ra ms.length rc/\ms.map Aq.net=(es.take j).map Au/\L9 wr w.heap.size (.slice ra ms.length rc) ms/\Below w.heap.size w wr) (λ_ i _=>es.length - (intOf i).toNat)
 case atStart=>exact⟨0,[],none,0,omz,rfl,rfl,rfl,L9.nil _ _,Below.refl _ _⟩
 case round=>
  obtain⟨j,ms,ra,rc,hj,rfl,rfl,hmn,z,hb⟩:=hrel;have aQ:=hid hmn;have aW:=hid z;clear hmn z;by_cases u:j<es.length
  ·have U:ms.length=j:=by
    have R:=congrArg List.length aQ.out;rw[A6i,A6i,A74] at R;omega
   obtain⟨b,o,rfl,y,K⟩:=M j u;obtain⟨S,X,q,l,x2,x3,r,t⟩:=(Sj.below hb _ _ _ K y).open;have E:=hid (A6l u);have F:Hid (∀W,Below wr.heap.size wr W->Calls prog 111 #[.slice ra ms.length rc, .agg #[.int .i64 es[j].kind, .int .i64 es[j].one.op,q,l], .pointer (some ⟨B,0,none⟩)] W λe f=>∃(a:Option Addr) (c:Nat) (m:Aq),e=.returned (.slice a (ms.length+1) c)/\m.net=Au es[j]/\L9 f w.heap.size (.slice a (ms.length+1) c) (ms++[m])/\Below w.heap.size W f/\∀k,(Value.slice a (ms.length+1) c).ownBlock=some k->w.heap.size<=k):=by
    intro W g;have s:=hb.trans (g.mono hb.size);exact A28 es[j] B w.heap.size w.heap.size ra rc ms q l W (λab I=>T es[j] (A59 u) q l ab ((r.below g).below I) ((t.below g).below I)) (r.below g) (t.below g) ((s.cell (p:=⟨B,0,none⟩) G).trans Q.out) (A51 G s.size) (aW.below g) omz s.size s.size (λk hk=>(aW.1.lt k hk).1)
   obtain⟨x,H⟩:∃x,x=es[j]:=⟨_,rfl⟩
   rw[<-H] at F S X r t E;obtain⟨p0,r0,rfl,dK⟩:=r;obtain⟨p1,r1,rfl,N⟩:=t;have ac:=A51 y hb.size;clear H K dK N U y
   go_wp2_with (go_at_call 111;refine(F _ blA).mono ?_;rintro e w2 ⟨a2,Z,m,rfl,L,A,V,P⟩;have Y:=(show Below w.heap.size w _ from hb.trans ((show Below wr.heap.size wr _ from blA).mono hb.size)).trans V;have dO:=hid L;have aa:=hid A;clear L A P)
   refine⟨⟨j+1,ms++[m],a2,Z,omz,by go_num,spz,?_,by rw[A52];exact aa.out,Y⟩,by simp[intOf];omega⟩;rw[E.out,A6g,A6g,aQ.out,A7x,A7x,dO.out]
  ·exact zR
theorem Ar2 (es:List Stil.Net)(l:∀x∈es,∀(o g:Value) (w:World),Dh w o x.one.args->E8 w g x.kids->Calls prog 70 #[.agg #[.int .i64 x.kind, .int .i64 x.one.op,o,g]] w λe d=>Qi d w.heap.size (Au x) e/\Below w.heap.size w d)
  (v:Value) (w:World) (j:E8 w v es) (hl:es.length<=999999):
  Calls prog 96 #[v, .func (.func 70) #[] #[]] w λe d=>∃(a:Option Addr) (c:Nat) (b:List Aq),e=.returned (.slice a b.length c)/\b.map Aq.net=es.map Au/\L9 d w.heap.size (.slice a b.length c) b/\Below w.heap.size w d:=by
 have q:=hid (λW B h t z=>Ar7 es l B v W (j.below h) hl t z);obtain⟨A,D,rfl,s⟩:=j;clear s l;go_enter func96,ntmps96
 go_wp2_with (go_at_call 110;refine(q _ _ blA (by simp[go_sem]) spz).mono ?_;rintro e u ⟨k,m,b,rfl,f,i,C⟩;have r:=hid f;have y:Hid (L9 u _ (.slice k b.length m) b):=i;clear f i)
 go_ret;exact⟨k,m,b,rfl,r.out,y.le spz,blA⟩
set_option maxHeartbeats 2000000 in
set_option maxRecDepth 100000 in
theorem Aw9 (n:Stil.Net):Dt n->Am n<=999999->∀(G F:Value) (w:World),Dh w G n.one.args->E8 w F n.kids->Calls prog 70 #[.agg #[.int .i64 n.kind, .int .i64 n.one.op,G,F]] w λe A=>Qi A w.heap.size (Au n) e/\Below w.heap.size w A:=by
 induction n using Gf with
 | h k e kids ih=>
  intro ac aa G F w I Y;obtain⟨_,he,hl,hk⟩:=(Lh _ _ _).1 ac;obtain⟨ag,ai⟩:=Ag0 aa;simp only at I Y;have ae:kids.length<=999999:=by
   have R:=Ku (kids.map Au);rw[A6i] at R;omega
  have P:=hid (λW h=>Ar2 kids (λx g=>ih x g (hk x g) (ai x g)) F W (Y.below h) ae);have H2:=hid (λW h=>Ag7 e.op G e.args W (I.below h) he.2.1);have K:=hid ag;obtain⟨p0,r0,rfl,dK⟩:=I;obtain⟨p1,r1,rfl,kD⟩:=Y;clear ih ac he hl hk aa ag ai dK kD ae;by_cases B:k=2\/k=3
  ·have z:Hid (Au ⟨k,e,kids⟩=E5 k (Bz k (kids.map Au))):=by show _=_;rw[Iu,if_pos B]
   rw[z.out];have HB:Hid (∀W base q a cap,L9 W base (.slice a q.length cap) q->q.map Aq.net=kids.map Au->base<=W.heap.size->Calls prog 97 #[.int .i64 k, .slice a q.length cap] W λe A=>Qi A base (E5 k (Bz k (kids.map Au))) e/\Below W.heap.size W A):=by
    intro W base q a cap R h2 h3;have:=An4 k base q a cap W R (by rw[h2];exact K.out) h3
    rwa [h2] at this
   obtain⟨ah,hN⟩:∃ah,ah=E5 k (Bz k (kids.map Au)):=⟨_,rfl⟩
   rw[<-hN] at HB ⊢;clear z hN K H2;rcases B with rfl | rfl
   all_goals
    go_enter func70,ntmps70
    go_wp2_with (first | (go_at_call 96;refine(P _ blA).mono ?_;rintro e b ⟨s,t,i,rfl,m,u,l⟩;obtain⟨f,r⟩:=D7 l;have N:=hid m;have H:Hid (L9 b _ (.slice s i.length t) i):=u;clear m u;have o:w.heap.size<b.heap.size:=A51 yAd l.size;have d:w.heap.size+1<b.heap.size:=A51 spz l.size) | (go_at_call 97;refine(HB _ _ _ _ _ H N (l.size)).mono ?_;rintro e w3 ⟨⟨J,Z,E,T,O,X,S,D,rfl,y,m⟩,aj⟩;obtain⟨C,au⟩:=D7 aj;have an:=A51 d aj.size;have aU:Hid (J7 w3 (w.heap.size+2) ⟨J,Z,E, .slice T E.length O, .slice X D.length S,D⟩):=y.le spz;have dD:=hid m;clear y m))
    have b0:w3.cell? ⟨w.heap.size+1,0,none⟩=some (.int .i64 0):=by rw[C _ _ d,f _ _ spz];simp[go_sem]
    have b1:w3.cell? ⟨w.heap.size+1,1,none⟩=some (.int .i64 0):=by rw[C _ _ d,f _ _ spz];simp[go_sem]
    have b2:w3.cell? ⟨w.heap.size+1,2,none⟩=some (.slice none 0 0):=by rw[C _ _ d,f _ _ spz];simp[go_sem]
    have b3:w3.cell? ⟨w.heap.size+1,3,none⟩=some (.slice none 0 0):=by rw[C _ _ d,f _ _ spz];simp[go_sem]
    refine bodyPost_ret (v:=.agg #[.int .i64 J, .int .i64 Z, .slice T E.length O, .slice X D.length S]) (by simp[results,results70,go_sem,b0,b1,b2,b3]) rfl ⟨⟨J,Z,E,T,O,X,S,D,rfl,?_,dD.out⟩,blA⟩;refine J7.le (base:=w.heap.size+2) ?_ omz;exact J7.setO4 aU (λx g e=>by have:=(aU.1.lt _ x g _ e).1;omega)
  ·have z:Hid (Au ⟨k,e,kids⟩=⟨k,e,kids.map Au⟩):=by show _=_;rw[Iu,if_neg B]
   rw[z.out];have ap:(k==2)=false:=by rw[A64];omega
   have az:(k==3)=false:=by rw[A64];omega
   obtain⟨ks,ab⟩:∃ks,ks=kids.map Au:=⟨_,rfl⟩
   rw[<-ab] at P ⊢;clear z K ab B;go_enter func70,ntmps70
   go_wp2_with (first | (go_at_call 96;refine(P _ blA).mono ?_;rintro e b ⟨s,t,i,rfl,m,u,l⟩;obtain⟨f,r⟩:=D7 l;have N:=hid m;have H:Hid (L9 b _ (.slice s i.length t) i):=u;clear m u;have o:w.heap.size<b.heap.size:=A51 yAd l.size;have d:w.heap.size+1<b.heap.size:=A51 spz l.size))
   have q0:b.cell? ⟨w.heap.size,0,none⟩=some (.int .i64 k):=by rw[f _ _ yAd];simp[go_sem]
   have q1:b.cell? ⟨w.heap.size,1,none⟩=some (.int .i64 e.op):=by rw[f _ _ yAd];simp[go_sem]
   have q2:b.cell? ⟨w.heap.size,2,none⟩=some (.slice p0 e.args.length r0):=by rw[f _ _ yAd];simp[go_sem]
   have q3:b.cell? ⟨w.heap.size,3,none⟩=some (.slice p1 kids.length r1):=by rw[f _ _ yAd];simp[go_sem]
   have ny:b.cell? ⟨w.heap.size+1,0,none⟩=some (.int .i64 0):=by rw[f _ _ spz];simp[go_sem]
   have ni:b.cell? ⟨w.heap.size+1,1,none⟩=some (.int .i64 0):=by rw[f _ _ spz];simp[go_sem]
   have ng:b.cell? ⟨w.heap.size+1,2,none⟩=some (.slice none 0 0):=by rw[f _ _ spz];simp[go_sem]
   have mr:b.cell? ⟨w.heap.size+1,3,none⟩=some (.slice none 0 0):=by rw[f _ _ spz];simp[go_sem]
   have v0:b.frozen? ⟨w.heap.size+1,0,none⟩=false:=by rw[r _ _ spz];simp[go_sem]
   have v1:b.frozen? ⟨w.heap.size+1,1,none⟩=false:=by rw[r _ _ spz];simp[go_sem]
   have v2:b.frozen? ⟨w.heap.size+1,2,none⟩=false:=by rw[r _ _ spz];simp[go_sem]
   have v3:b.frozen? ⟨w.heap.size+1,3,none⟩=false:=by rw[r _ _ spz];simp[go_sem]
   have M:Below w.heap.size w b:=blA;have ay:Hid (L9 b (w.heap.size+2) (.slice s i.length t) i):=H.le spz;have al:w.heap.size+2<=b.heap.size:=omz
   clear f r H l
   go_region_law (go_simp;go_at_call 68;refine(H2 _ (by exact M.drew)).mono ?_;rintro e w2 ⟨ar,rfl,L,af⟩;obtain⟨V,Q,ak⟩:=Aj L;subst ak;have c:=((Below.refl b.heap.size b).drew).trans af;have pM:Hid (w2.ownsRow b.heap.size 92 3 (.slice V e.args.length Q) e.args.length (Be e.args)):=L;clear L af;have aw:=A51 o c.size;have ax:=A51 d c.size;have y0:=(c.cell (p:=⟨w.heap.size,0,none⟩) o).trans q0;have y1:=(c.cell (p:=⟨w.heap.size,1,none⟩) o).trans q1;have y2:=(c.cell (p:=⟨w.heap.size,2,none⟩) o).trans q2;have y3:=(c.cell (p:=⟨w.heap.size,3,none⟩) o).trans q3;have z0:=(c.cell (p:=⟨w.heap.size+1,0,none⟩) d).trans ny;have z1:=(c.cell (p:=⟨w.heap.size+1,1,none⟩) d).trans ni;have z2:=(c.cell (p:=⟨w.heap.size+1,2,none⟩) d).trans ng;have z3:=(c.cell (p:=⟨w.heap.size+1,3,none⟩) d).trans mr;have f0:=(c.frozen (p:=⟨w.heap.size+1,0,none⟩) d).trans v0;have f1:=(c.frozen (p:=⟨w.heap.size+1,1,none⟩) d).trans v1;have f2:=(c.frozen (p:=⟨w.heap.size+1,2,none⟩) d).trans v2;have f3:=(c.frozen (p:=⟨w.heap.size+1,3,none⟩) d).trans v3)
   all_goals
    try go_wp2
    refine bodyPost_ret (v:=.agg #[.int .i64 k, .int .i64 e.op, .slice V e.args.length Q, .slice s i.length t]) (by simp[results,results70,go_sem,z0,z1,z2,z3]) rfl ⟨⟨k,e.op,e.args,V,Q,s,t,i,rfl,?_,by rw[Aq.net_eq,N.out]⟩,?_⟩
    ·refine J7.le (base:=w.heap.size+2) ?_ omz
     have y:=(ay.below c).net k e.op e.args (Joins.ownsRow_le pM al) (λx g=>(Ij (n:=b.heap.size) (λj U=>(ay.lt x g j U).2) (λj U=>(pM.lt j U).1)).symm);exact J7.setO4 y (λx g e=>by have:=(y.1.lt _ x g _ e).1;omega)
    ·have ao:=M.trans (c.mono M.size)
     exact blA
end Go.Proofs.YtnpfcnolmkanfaaGreatDoor
