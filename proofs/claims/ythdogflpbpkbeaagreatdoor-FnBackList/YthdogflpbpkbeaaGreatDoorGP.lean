import Derived.Test.YthdogflpbpkbeaaGreatDoorW13
import Derived.Test.YthdogflpbpkbeaaGreatDoorM51
import Derived.OpenVars
import Derived.LaidMore
import Derived.Lay
import Derived.Deep.DeepHandedRow
set_option linter.defProp false
set_option maxHeartbeats 4000000
set_option maxRecDepth 100000
namespace Go.Proofs.YthdogflpbpkbeaaGreatDoor
open Tryz Go.RowKit Go.Sort Go.BigFrame
section
variable {L g P:Nat}{w:AU}{bs:Γ}{ts:List Nk}{i op:Int}{v u c d:AW}{p q r s b:Nat}
def StL.set4{o1 o2 o3 o4:Nat}{x1 x2 x3 x4:AW}(h:StL L g P w bs ts)(a:b∈bs):StL L g P ((((w.setCell (AK b o1) x1).setCell (AK b o2) x2).setCell (AK b o3) x3).setCell (AK b o4) x4) bs ts:=(((h.set a).set a).set a).set a
def StL.drop(h:StL L g P w (b::bs) ts):StL L g P w bs ts:=h.sub (λ_ h=>Da _ h) λ_ h=>h
def StL.un{x y:Nk}(h:StL L g P w bs (x::y::ts)):StL L g P w bs (x::ts):=h.sub (λ_ h=>h) λ_z a=>(BD.1 a).elim (λh=>h ▸ E6 ..) λh=>Da _ (Da _ h)
def StL.grew{k t:Nat}{cs:Θ}(h:StL L g P w bs ((k,s,cs)::ts))(a:s<=t):StL L g P w bs ((k,t,cs)::ts):=(h.add (y:=(k,t,cs)) λ_S hS=>(hS _ (E6 ..)).grew a).un
theorem StL.contact(h:StL L g P w bs ((2,q,[AB op,v])::ts))(hi:Sm i):StL L g P w bs ((4,1,[AB i,AB op,v,AG])::ts):=(h.add λ_S hS=>let ⟨a,e⟩:=(hS _ (E6 ..)).el;ClT.mkN hi a e (SlT.nil (s:=0)) Nat.one_pos).un
theorem StL.K(h:StL L g P w bs ((14,r,[u])::ts))(hi:Sm i)(hr:r<s):StL L g P w bs ((4,s,[AB i,AB 0,AG,u])::ts):=(h.add λS hS=>ClT.mkN hi BX SlT.nil (ClT.sl (k:=4) (hS _ (E6 ..))) hr).un
end
section
variable {av kv:AW}{k op:Int}
def Lx{p:Prop}(h:p):Hid p:=h
def HQ(w:AU)(b:Nat)(k op:Int)(av kv:AW):Prop:=b<w.heap.size/\w.cell? (AK b 0)=some (AB k)/\w.cell? (AK b 1)=some (AB op)/\w.cell? (AK b 2)=some av/\w.cell? (AK b 3)=some kv/\w.frozen? (AK b 0)=false/\w.frozen? (AK b 1)=false/\w.frozen? (AK b 2)=false/\w.frozen? (AK b 3)=false
def C2{W:AU}{b:Nat}(h:HQ W b k op av kv:=by refine⟨CV,CJ,CJ,CJ,CJ,CS,CS,CS,CS⟩):HQ W b k op av kv:=h
def HQ.G{w w':AU}{b:Nat}{r:ε}(h:HQ w b k op av kv)(hg:w.grownBy w' r)(hr:r≠some b):HQ w' b k op av kv:=by obtain⟨j,m,n,z,l,t,A,x,y⟩:=h;have f:∀o,w'.c (AK b o)=w.c (AK b o):=λo=>BE (hg.block b j λe=>hr e.symm);have a:∀o,w'.f (AK b o)=w.f (AK b o):=λo=>World.frozen?_of_block (hg.block b j λe=>hr e.symm);exact⟨DO j hg.size,(f 0).tr m,(f 1).tr n,(f 2).tr z,(f 3).tr l,(a 0).tr t,(a 1).tr A,(a 2).tr x,(a 3).tr y⟩
theorem Oh{w:AU}{base s n:Nat}{e:AZ}{v:AW}{xs:Θ}(h:w.ownsRow base e s v n xs):∃a c,v=AE a n c/\n<=c:=by
 rcases h.2 with⟨m,f⟩|⟨g,cap,cur,j,x,o,l,t⟩
 .exact⟨none,0,by rw[m,f],by rw[f];exact DN _⟩
 exact⟨_,cap,j,l⟩
def NtL(L g P N:Nat)(w:AU)(bs:Γ)(ts:List Nk)(e:Ending)(w':AU):Prop:=∃i op a n c j f h,e=.returned (.agg #[AB i,AB op,AE a n c,AE j f h])/\StL L g P w' bs ((4,N,[AB i,AB op,AE a n c,AE j f h])::ts)/\w.grownBy w' (some g)
abbrev NtR:=NtL 50000
theorem k9(g P:Nat)(w:AU)(bs:Γ)(ts:List Nk)(h:St g P w bs ts)(K:P<=100000000):
  Calls prog 104 #[AH g,AB 0] w (NtR g (P+50) 1 w bs ts):=by have M:=Je h.rd;have hS:=h.box (.cells #[AB 0,AB 0,AG,AG] 63);clear h;go_enter func104,ntmps104;go_wp2_with(first|(go_at_call_of 15 (Value.int IntKind.i64 7);refine(E8 g _ _ _ ((hS).rd) BS BS BS).mo ?_;rintro e C⟨x,rfl,J,N,t,f⟩;have hS:=(hS).go t f;obtain⟨E,j,A,q1,G,y,D,l,H⟩:JE C w.heap.size:=JS;have I:=E5 (show w.grownBy _ (some g) from B0) f;clear t f)|(go_at_call 42;refine(Hz g _ _ (hS).rd BS).mo ?_;rintro e z m;obtain⟨op,a,n,c,rfl,hS,f⟩:=(hS).el m BX;obtain⟨E,j,A,q1,G,y,D,l,H⟩:JE z w.heap.size:=JS;have I:=E5 (show w.grownBy _ (some g) from B0) f;clear m f));refine BH (by simp[results,results104,go_sem,j,q1,y,l];rfl) rfl ?_;exact⟨_,_,_,_,_,_,_,_,rfl,((hS.set4 Av).drop.contact BX).mo BS,B0⟩
def K5:Nat->Nat
 |0=>50
 |m+1=>3*K5 m+50
def Lq:Nat->Nat
 |0=>1
 |m+1=>3*Lq m+1
theorem k7(c N:Nat)(d:Int)(hd:0<=d)(ih:∀(T:Int)(g P:Nat)(w:AU)(bs:Γ)(ts:List Nk),T=d->St g P w bs ts->P+c<=100000000->Calls prog 104 #[AH g,AB T] w (NtR g (P+c) N w bs ts))
  (g P:Nat) (w:AU) (bs:Γ) (ts:List Nk) (ag:d<=100) (h:St g P w bs ts) (hP:P+(3*c+50)<=100000000):
  Calls prog 104 #[AH g,AB (d+1)] w (NtR g (P+(3*c+50)) (3*N+1) w bs ts):=by
 have hg:=Je h.rd;have ac:∀b∈bs,b<w.heap.size:=λb K=>(h.lt K).2;have IH:=BZ ih;have hS:=h.box (.cells #[AB 0,AB 0,AG,AG] 63);have ah:decide (d+1<=0)=false:=xCp;clear h ih;go_enter func104,ntmps104;go_upto_if 37 with(first|(go_at_call_of 15 (Value.int IntKind.i64 7);refine(E8 g _ _ _ ((hS).rd) BS BS BS).mo ?_;rintro e H⟨k,rfl,ao,aw,G,f⟩;have hS:=(hS).go G f;obtain⟨x,l,C,q1,E,m,I,t,J⟩:JE H w.heap.size:=JS;have A:=E5 (show w.grownBy _ (some g) from B0) f;clear G f)|(go_at_call 42;refine(Hz g _ _ (hS).rd BS).mo ?_;rintro e wb ho;obtain⟨op,a,n,c,rfl,hS,f⟩:=(hS).el ho BX;obtain⟨x,l,C,q1,E,m,I,t,J⟩:JE wb w.heap.size:=JS;have A:=E5 (show w.grownBy _ (some g) from B0) f;clear ho f)|(go_at_call 104;refine(IH _ g _ _ _ _ yCg hS BS).mo ?_;rintro e wd⟨i1,o1,a1,n1,c1,a2,n2,c2,rfl,hS,f⟩;obtain⟨x,l,C,q1,E,m,I,t,J⟩:JE wd w.heap.size:=JS;have A:=E5 (show w.grownBy _ (some g) from B0) f;clear f)|(go_at_call_of 15 (Value.int IntKind.i64 2);refine(E8 g _ _ _ ((hS.box _).rd) BS BS BS).mo ?_;rintro e wc⟨ar,rfl,af,an,G,f⟩;have hS:=(hS.box _).go G f;obtain⟨x,l,C,q1,E,m,I,t,J⟩:JE wc w.heap.size:=JS;obtain⟨X,V,Y,R,O,Z,p6,U,S⟩:Dm wc H.heap.size (AB (2+k % 2)) (AB 0) AG AG:=qb4;have A:=E5 (show w.grownBy _ (some g) from B0) f;clear G f)|(go_at_call_of 15 (Value.int IntKind.i64 8);refine(E8 g _ _ _ ((hS).rd) BS BS BS).mo ?_;rintro e we⟨aj,rfl,x,X,G,f⟩;have hS:=(hS).go G f;obtain⟨x,l,C,q1,E,m,I,t,J⟩:JE we w.heap.size:=JS;obtain⟨X,V,Y,R,O,Z,p6,U,S⟩:Dm we H.heap.size (AB (2+k % 2)) (AB 0) AG AG:=qb4;have A:=E5 (show w.grownBy _ (some g) from B0) f;clear G f))
 .refine BH (by simp[results,results104,go_sem,l,q1,m,t];rfl) rfl ?_;exact⟨_,_,_,_,_,_,_,_,rfl,(((hS.set4 Av).drop.contact BX).mo BS).grew BS,B0⟩
 .refine BH (by simp[results,results104,go_sem,l,q1,m,t,x];rfl) rfl ?_;refine⟨_,_,_,_,_,_,_,_,rfl,?_,B0⟩;exact(((hS.set4 Av).lit1 #[AB i1,AB o1,AE a1 n1 c1,AE a2 n2 c2] 63 BX rfl BU).drop.K BX BS).mo BS
 go_cut [7] (λsm wq=>∃M:Nat,sm=AB M/\M<=3/\St g (P+3) wq (H.heap.size::w.heap.size::bs) ts/\w.grownBy wq (some g)/\HQ wq w.heap.size 0 0 AG AG/\HQ wq H.heap.size (2+k % 2) 0 AG AG);case first=>go_wp2;{go_meet;exact⟨1,rfl,BS,hS.mo BS,B0,C2,C2⟩};go_meet;obtain⟨yn,rfl⟩:=Hh af;exact⟨2+yn,by go_num,BS,hS.mo BS,B0,C2,C2⟩
 case rest=>
  clear l q1 m t V R Z U C E I J Y O p6 S hS A;obtain⟨M,rfl,ak,hS,A,y,z⟩:=hcut;go_wp2;go_loopw [8] (λi wr=>∃(j:G1)(v:AW),j.length<=M/\i=AB j.length/\tot j<=j.length*N/\HQ wr w.heap.size 0 0 AG AG/\HQ wr H.heap.size (2+k % 2) 0 AG v/\wr.ownsRow (H.heap.size+1) 63 4 v j.length (flat j)/\St g (P+3+j.length*c) wr (ob v++H.heap.size::w.heap.size::bs) (rowT 4 j++ts)/\w.grownBy wr (some g)) (λi _=>M - (intOf i).toNat);case atStart=>exact⟨[],_,BU,rfl,EH _,y,z,BJ _ _ _ _,hS.mo BS,A⟩
  case round=>obtain⟨j,v,hj,rfl,ad,y,z,D,hS,A⟩:=hrel;have⟨x,l,q1,m,t,C,E,I,J⟩:=id y;have⟨X,V,R,Z,U,Y,O,p6,S⟩:=id z;obtain⟨ap,ai,rfl,-⟩:=Oh D;by_cases au:j.length<M;{have aa:(j.length+1)*c<=3*c:=KB c BS;rw[JA]at aa;go_upto_region 13 with fail;go_region_law(first|(refine Gj rfl rfl (StL.push _ kd4 hS D BS BS) rfl rfl ?_;rintro v' w6⟨ab,ae,aF,-⟩;obtain⟨oL,oJ,rfl,-⟩:=Oh ab;have y:=(HQ.G y aF (λe=>by have:=(D.lt _ e).1;omega));have z:=(HQ.G z aF (λe=>by have:=(D.lt _ e).1;omega));have⟨x,l,q1,m,t,C,E,I,J⟩:=id y;have⟨X,V,R,Z,U,Y,O,p6,S⟩:=id z)|(go_simp;go_at_call 104;refine(IH _ g _ _ _ _ yCg hS.drew BS).mo ?_;rintro e w5⟨i1,o1,a1,n1,c1,a2,n2,c2,rfl,hS,Q⟩;have f:wr.grownBy w5 (some g):=⟨Q.os,Q.tape,Q.output,Q.size,Q.block⟩;have D:=Gn D f BS;have y:=y.G f B1;have z:=z.G f B1;have⟨x,l,q1,m,t,C,E,I,J⟩:=id y;have⟨X,V,R,Z,U,Y,O,p6,S⟩:=id z));(all_goals go_wp2);all_goals refine⟨⟨_,_,?_,?_,?_,C2,C2,ownsRow_setCell_below (by rwa[DV]) (EQ _) _,(ae.set BU).mo ?_,OC (EO BS) (Zo (E5 A f) aF (λk hk=>by have:=(D.lt _ hk).1;omega)) _⟩,?_⟩;{simp;omega};{simp};{simp only[tot,D4,KE,DV,DZ,FI,FO,M1,DT,DW,Nat.add_mul]at ad⊢;omega};{simp only[DV,DT,DW,Nat.add_mul];omega};simp[intOf];omega};go_wp2;have aa:j.length*c<=3*c:=KB c BS;have al:j.length*N<=3*N:=KB N BS;refine BH (by simp[results,results104,go_sem,l,q1,m,t];rfl) rfl ?_;refine⟨_,_,_,_,_,_,_,_,rfl,?_,B0⟩;have hI:=hS.ice (s:=3*N) D (λb K=>by simp only[EN]at K;rcases K with rfl|rfl|K;omega;omega;have:=ac b K;omega) BS BS;exact((hI.drop.set4 Av).drop.K BS BS).mo BS
theorem kx(m:Nat):∀(d:Int)(g P:Nat)(w:AU)(bs:Γ)(ts:List Nk),m<=100->d=m->St g P w bs ts->P+K5 m<=100000000->Calls prog 104 #[AH g,AB d] w (NtR g (P+K5 m) (Lq m) w bs ts):=by
 have e:∀m,K5 (m+1)=3*K5 m+50:=λ_=>rfl;have f:∀m,Lq (m+1)=3*Lq m+1:=λ_=>rfl;induction m with
 |zero=>intro d g P w bs ts _ hd h a;obtain rfl:d=0:=hd;exact k9 g P w bs ts h (DU (Nat.le_add_right _ _) a)
 |succ m n=>intro d g P w bs ts j hd h a;obtain rfl:d=(m:Int)+1:=hd;rw[e]at a⊢;rw[f];exact k7 _ _ _ (Int.natCast_nonneg m) (λl g P w bs ts hd=>n l g P w bs ts (Nat.le_of_succ_le j) hd) g P w bs ts BS h a
theorem Aub(n g P:Nat)(w:AU)(bs:Γ)(ts:List Nk)(hn:n<=300)(h:St g P w bs ts)(hP:P<=100000000):
  Calls prog 52 #[AH g,AB n] w (NtR g (P+6020) 700 w bs ts):=by
 have hg:=Je h.rd;have hS:=h.box (.cells #[AB 0,AB 0,AG,AG] 63);clear h;go_enter func52,ntmps52;go_wp2_with(go_at_call 42;refine(Hz g _ _ (hS).rd BS).mo ?_;rintro e I D;obtain⟨op,aa,Z,Y,rfl,hS,z⟩:=(hS).el D BX;obtain⟨Q,E,M,q1,S,J,O,H,V⟩:JE I w.heap.size:=JS;have hG:=E5 (show w.grownBy _ (some g) from B0) z;clear D z);go_loopw [6] (λi wr=>∃(j:Nat)(C o1:Int)(y:Δ)(f A:Nat)(m:Δ)(l x:Nat),1<=j/\(j<=n\/j=1)/\i=AB j/\HQ wr w.heap.size 0 0 AG AG/\HQ wr I.heap.size C o1 (AE y f A) (AE m l x)/\St g (P+20*j) wr (I.heap.size::w.heap.size::bs) ((4,2*j,[AB C,AB o1,AE y f A,AE m l x])::ts)/\w.grownBy wr (some g)) (λi _=>n - (intOf i).toNat);case atStart=>exact⟨1,1,op,aa,Z,Y,none,0,0,DN _,BS,rfl,C2,C2,(((hS.box _).contact BX).grew BX).mo BS,B0⟩
 case round=>obtain⟨j,C,o1,y,f,A,m,l,x,ae,ac,rfl,R,U,hS,hG⟩:=hrel;have⟨Q,E,q1,J,H,M,S,O,V⟩:=id R;have⟨ab,q4,q5,q6,q7,p4,p5,p6,p7⟩:=id U;have af:j<=300:=BS;by_cases ad:j<n;{go_upto_region 5 with fail;go_region_with(go_at_call 42;refine(Hz g _ _ hS.drew.rd BS).mo ?_;rintro e G D;obtain⟨o2,T,K,N,rfl,hS,t⟩:=hS.drew.el D BX;have z:wr.grownBy G (some g):=⟨t.os,t.tape,t.output,t.size,t.block⟩;have⟨Q,E,q1,J,H,M,S,O,V⟩:=R.G z B1;have⟨ab,q4,q5,q6,q7,p4,p5,p6,p7⟩:=U.G z B1);(all_goals go_wp2);all_goals have hK:Sm (2+(j:Int) % 2):=BS;have X:=λx1 x2 x3 x4=>(((hS.contact (i:=1) BX).set4 (o1:=0) (o2:=1) (o3:=2) (o4:=3) (x1:=x1) (x2:=x2) (x3:=x3) (x4:=x4) Av).lit (s:=2*j+1) (n:=G.heap.size) [(1,[AB 1,AB o2,AE T K N,AG]),(2*j,[AB C,AB o1,AE y f A,AE m l x])] #[AB 1,AB o2,AE T K N,AG,AB C,AB o1,AE y f A,AE m l x] 63 BX BU rfl (by simp[tot];omega) BU BU).un.un.K (s:=2*(j+1)) hK BS;exact⟨⟨j+1,2+(j:Int) % 2,0,none,0,0,some (AL G 0),2,2,BS,BS,by go_num,C2,C2,(X _ _ _ _).mo BS,B0⟩,xAb⟩};go_wp2;refine BH (by simp[results,results52,go_sem,E,q1,J,H];rfl) rfl ?_;exact⟨_,_,_,_,_,_,_,_,rfl,(((hS.set4 (Ax Av)).drop.drop).mo BS).grew BS,B0⟩
end
variable {av cv kv nv:AW}{k op:Int}
def HZ(w:AU)(b:Nat)(k op:Int)(av nv cv kv:AW):Prop:=b<w.heap.size/\w.cell? ⟨b,0,none⟩=some (.int .i64 k)/\w.cell? ⟨b,1,none⟩=some (.int .i64 op)/\w.cell? ⟨b,2,none⟩=some av/\w.cell? ⟨b,3,none⟩=some nv/\w.cell? ⟨b,4,none⟩=some cv/\w.cell? ⟨b,5,none⟩=some kv/\w.frozen? ⟨b,0,none⟩=false/\w.frozen? ⟨b,1,none⟩=false/\w.frozen? ⟨b,2,none⟩=false/\w.frozen? ⟨b,3,none⟩=false/\w.frozen? ⟨b,4,none⟩=false/\w.frozen? ⟨b,5,none⟩=false
def CO{W:AU}{b:Nat}(h:HZ W b k op av nv cv kv:=by refine⟨CV,CJ,CJ,CJ,CJ,CJ,CJ,CS,CS,CS,CS,CS,CS⟩):HZ W b k op av nv cv kv:=h
theorem HZ.G{w w':AU}{b:Nat}{r:ε}(h:HZ w b k op av nv cv kv)(hg:w.grownBy w' r)(hr:r≠some b):HZ w' b k op av nv cv kv:=by
 obtain⟨j,l⟩:=h;have e:w'.heap[b]?=w.heap[b]?:=hg.block b j (λx=>hr x.symm);have f:∀o,w'.cell? (AK b o)=w.cell? (AK b o):=λo=>by unfold World.cell?;rw[e]
 have a:∀o,w'.frozen? (AK b o)=w.frozen? (AK b o):=λo=>by unfold World.frozen?;rw[e]
 refine⟨DO j hg.size,?_⟩;rwa[f,f,f,f,f,f,a,a,a,a,a,a]
section
variable {L g P:Nat}{w:AU}{bs:Γ}{ts:List Nk}{i op:Int}{v u c d:AW}{p q r s b:Nat}
def StL.set6{o1 o2 o3 o4 o5 o6:Nat}{x1 x2 x3 x4 x5 x6:AW}(h:StL L g P w bs ts)(a:b∈bs):StL L g P ((((((w.setCell (AK b o1) x1).setCell (AK b o2) x2).setCell (AK b o3) x3).setCell (AK b o4) x4).setCell (AK b o5) x5).setCell (AK b o6) x6) bs ts:=((h.set4 a).set a).set a
def StL.A (h:StL L g P w bs ((16,r,[d])::(4,p,[AB i,AB op,v,u])::(12,q,[c])::ts))(m:p+q+r<s):StL L g P w bs ((6,s,[AB i,AB op,v,u,c,d])::ts):=(h.add (y:=(6,s,_)) λS hS=>by
 have⟨t,f,j,l,e,a⟩:=(hS (4,p,[AB i,AB op,v,u]) (Ax Av)).nt;replace a:t<p:=a;show ClT S 6 s [AB i,AB op,v,u,c,d]
 exact ClT.mkA f j l e (show SlT S 2 q c from ClT.sl (hS (12,q,[c]) (Ax (Ax Av)))) (show SlT S 6 r d from ClT.sl (hS (16,r,[d]) Av)) BS).un.un.un
end
def ArL(L g P N:Nat)(w:AU)(bs:Γ)(ts:List Nk)(e:Ending)(w':AU):Prop:=∃i op a n c y j l m h x f t o,e=.returned (.agg #[AB i,AB op,AE a n c,AE y j l,AE m h x,AE f t o])/\StL L g P w' bs ((6,N,[AB i,AB op,AE a n c,AE y j l,AE m h x,AE f t o])::ts)/\w.grownBy w' (some g)
abbrev ArR:=ArL 50000
def KF:Nat->Nat
 |0=>1000
 |m+1=>3*KF m+1000
def LZ:Nat->Nat
 |0=>20
 |m+1=>3*LZ m+20
def AcT(w e:AU)(g Q:Nat)(bs:Γ)(ts:List Nk)(m:Nat):Prop:=∃(i op:Int)(l:Δ)(f o:Nat)(n:Δ)(j h:Nat)(a:G1)(v:AW),HZ e w.heap.size 0 0 AG AG AG AG/\HZ e (w.heap.size+1) i op (AE l f o) (AE n j h) v AG/\e.ownsRow (w.heap.size+2) 60 2 v a.length (flat a)/\(a=[]->v=AG)/\a.length<=m/\tot a<=m/\St g Q e (ob v++(w.heap.size+1)::w.heap.size::bs) (rowT 2 a++(4,13,[AB i,AB op,AE l f o,AE n j h])::ts)/\w.grownBy e (some g)
def AkT(w e:AU)(g Q:Nat)(bs:Γ)(ts:List Nk)(m N:Nat):Prop:=∃(i op:Int)(o:Δ)(l y:Nat)(x:Δ)(t n:Nat)(h:Δ)(f j:Nat)(a:G1)(v:AW),HZ e w.heap.size 0 0 AG AG AG AG/\HZ e (w.heap.size+1) i op (AE o l y) (AE x t n) (AE h f j) v/\e.ownsRow (w.heap.size+2) 66 6 v a.length (flat a)/\(f=0->h=none/\j=0)/\a.length<=m/\tot a<=m*N/\St g Q e (ob v++(w.heap.size+1)::w.heap.size::bs) (rowT 6 a++(4,13,[AB i,AB op,AE o l y,AE x t n])::(12,2,[AE h f j])::ts)/\w.grownBy e (some g)
theorem AkT.mono{w e:AU}{g Q R:Nat}{bs:Γ}{ts:List Nk}{m n N:Nat}(h:AkT w e g Q bs ts m N)(K:Q<=R)(a:m<=n):AkT w e g R bs ts n N:=by obtain⟨i,op,H,f,O,z,x,D,I,l,y,G,v,j,o,C,E,t,M,J,A⟩:=h;exact⟨i,op,H,f,O,z,x,D,I,l,y,G,v,j,o,C,E,DU t a,DU M (KB _ a),J.mo K,A⟩
abbrev AkT.mo:=@AkT.mono
def zCa{p:Prop}(h:p:=by go_wp2;refine BH (by simp[results,results54,go_sem,q0,q1,q2,q3,q4,q5];rfl) rfl ?_;exact⟨_,_,_,_,_,_,_,_,_,_,_,_,_,_,rfl,hfin _ (P+740+3*C) 2 _ _ _ BS BS (hS.set6 (Ax Av)),B0⟩):p:=h
theorem dr(C N:Nat)(d:Int)(aE:0<=d)(aG:d<=100)(ih:0<d->∀(d':Int)(root:Bool)(g P:Nat)(w:AU)(bs:Γ)(ts:List Nk),d'=d - 1->St g P w bs ts->P+C<=100000000->Calls prog 54 #[AH g,AB d',.bool root] w (ArR g (P+C) N w bs ts))
  (root:Bool) (g P:Nat) (w:AU) (bs:Γ) (ts:List Nk) (h:St g P w bs ts) (hP:P+(3*C+1000)<=100000000):
  Calls prog 54 #[AH g,AB d,.bool root] w (ArR g (P+(3*C+1000)) (3*N+20) w bs ts):=by
 have hg:=Je h.rd;have ap:∀b∈(w.heap.size+1)::w.heap.size::bs,b<w.heap.size+2:=λb hb=>by simp only[EN]at hb;rcases hb with rfl|rfl|hb;{omega};{omega};have:=(h.lt hb).2;omega
 have IH:=BZ ih;have au:=(h.box (.cells #[AB 0,AB 0,AG,AG,AG,AG] 66)).box (.cells #[AB 0,AB 0,AG,AG,AG,AG] 66);have hS:St g P ((w.alloc (.cells #[AB 0,AB 0,AG,AG,AG,AG] 66)).alloc (.cells #[AB 0,AB 0,AG,AG,AG,AG] 66)) ((w.heap.size+1)::w.heap.size::bs) ts:=by rwa[BG]at au
 clear h ih au;go_enter func54,ntmps54;go_upto_region 2 with fail;go_cut [16] (λc wq=>∃b:Bool,c=.bool b/\St g (P+1) wq ((w.heap.size+1)::w.heap.size::bs) ts/\w.grownBy wq (some g)/\HZ wq w.heap.size 0 0 AG AG AG AG/\HZ wq (w.heap.size+1) 0 0 AG AG AG AG);case first=>cases root;{go_wp2_with (go_at_call_of 15 (Value.int IntKind.i64 3);refine(E8 g _ _ _ ((hS).rd) BS BS BS).mo ?_;rintro e wa⟨x,rfl,ak,ax,ai,m⟩;have hS:=(hS).go ai m;obtain⟨ad,q0,S,q1,U,q2,X,q3,p3,q4,Z,q5,T⟩:Im wa w.heap.size:=JC;obtain⟨ae,q6,p6,q7,p7,q8,p8,q9,p9,Y,aa,V,ab⟩:Im wa ((w.heap.size+1)):=JC;have t:=E5 (show w.grownBy _ (some g) from B0) m;clear ai m);go_meet;exact⟨decide (0<x),rfl,hS,t,CO,CO⟩};go_wp2;go_meet;exact⟨true,rfl,hS.mo BS,B0,CO,CO⟩
 case rest=>
  clear hS;obtain⟨b,rfl,hS,t,⟨ad,q0,q1,q2,q3,q4,q5,S,U,X,p3,Z,T⟩,⟨ae,q6,q7,q8,q9,Y,V,p6,p7,p8,p9,aa,ab⟩⟩:=hcut;have aL:K5 2=650:=rfl;have dB:Lq 2=13:=rfl;go_upto_if 16 with fail;go_cut [] (λwq=>AcT w wq g (P+651) bs ts 0);case first=>go_wp2_with(go_at_call 104;refine(kx 2 _ g _ _ _ _ BS rfl hS BS).mo ?_;rintro e wb⟨A,H,E,G,I,K,D,M,rfl,hS,m⟩;obtain⟨ad,q0,S,q1,U,q2,X,q3,p3,q4,Z,q5,T⟩:Im wb w.heap.size:=JC;obtain⟨ae,q6,p6,q7,p7,q8,p8,q9,p9,Y,aa,V,ab⟩:Im wb ((w.heap.size+1)):=JC;have t:=E5 (show w.grownBy _ (some g) from B0) m;clear m);{go_meet;exact⟨A,H,E,G,I,K,D,M,[],_,CO,CO,BJ _ _ _ _,λ_=>rfl,DN _,DN _,((hS.set4 Av).mo BS),B0⟩};go_meet;exact⟨0,0,none,0,0,none,0,0,[],_,CO,CO,BJ _ _ _ _,λ_=>rfl,DN _,DN _,(hS.add (y:=(4,13,_)) λaM _=>ClT.mkN BX BX SlT.nil (SlT.nil (s:=0)) BX).mo BS,B0⟩
  case rest=>
   clear q0 q1 q2 q3 q4 q5 q6 q7 q8 q9 Y V S U X p3 Z T p6 p7 p8 p9 aa ab hS t;go_wp2_with(go_at_call 15;obtain⟨A,H,E,G,I,K,D,M,css,v,l,f,n,ah,af,ac,hS,t⟩:=hcut;refine(E8 g _ _ _ hS.rd BS BS BS).mo ?_;rintro e w3⟨x,rfl,ak,ax,bZ,aZ⟩);have⟨x2,sH⟩:=Hh ak;subst sH;have aC:x2<=2:=BS;have an:AcT w w3 g (P+652+40*(2 - x2)) bs ts (2 - x2):=⟨A,H,E,G,I,K,D,M,css,v,l.G aZ B1,f.G aZ B1,Gn n aZ BS,ah,BS,BS,(hS.go bZ aZ).mo BS,E5 t aZ⟩;clear l f n ah af ac hS t bZ;go_loopw [8] (λi wr=>∃j:Nat,j<=2/\i=AB j/\AcT w wr g (P+652+40*(2 - j)) bs ts (2 - j)) (λi _=>(intOf i).toNat);case atStart=>exact⟨x2,aC,rfl,an⟩
   case round=>
    clear an;obtain⟨j,hj,rfl,A,H,E,G,I,K,D,M,css,v,l,f,n,ah,af,ac,hS,t⟩:=hrel;have⟨ad,q0,q1,q2,q3,q4,q5,S,U,X,p3,Z,T⟩:=id l;have⟨ae,q6,q7,q8,q9,Y,V,p6,p7,p8,p9,aa,ab⟩:=id f;obtain⟨R,O,rfl,an⟩:=Oh n;by_cases aD:0<j;{have rJ:=Lx ah;clear ah;go_upto_region 7 with fail;go_region_law(first|(refine Gj rfl rfl (StL.push _ kd2 hS n BS BS) rfl rfl ?_;rintro v' w6⟨ag,al,aF,-⟩;obtain⟨oL,oJ,rfl,-⟩:=Oh ag;have l:=l.G aF (λe=>by have:=(n.lt _ e).1;omega);have f:=f.G aF (λe=>by have:=(n.lt _ e).1;omega);have⟨ad,q0,q1,q2,q3,q4,q5,S,U,X,p3,Z,T⟩:=id l;have⟨ae,q6,q7,q8,q9,Y,V,p6,p7,p8,p9,aa,ab⟩:=id f)|(go_simp;go_at_call 43;refine(Qp g _ _ hS.drew.rd BS).mo ?_;rintro e w5 ho;obtain⟨o3,a4,n4,c4,rfl,hS,z⟩:=hS.drew.el ho BX;have m:wr.grownBy w5 (some g):=⟨z.os,z.tape,z.output,z.size,z.block⟩;have n:=Gn n m BS;have l:=l.G m B1;have f:=f.G m B1;have⟨ad,q0,q1,q2,q3,q4,q5,S,U,X,p3,Z,T⟩:=id l;have⟨ae,q6,q7,q8,q9,Y,V,p6,p7,p8,p9,aa,ab⟩:=id f));(all_goals go_wp2);all_goals obtain⟨jj,rfl⟩:∃jj,j=jj+1:=⟨j - 1,BS⟩;refine⟨⟨jj,BS,by go_num,A,H,E,G,I,K,D,M,_,AE oL (css.length+1) oJ,CO,CO,ownsRow_setCell_below (by rwa[DV]) (EQ _) _,λh=>absurd h BU,?_,?_,(al.set BU).mo BS,OC BU (Zo (E5 t m) aF (λk hk=>by have:=(n.lt _ hk).1;omega)) _⟩,by simp[intOf]⟩;{simp;omega};simp only[tot,D4,KE,DZ,FI,FO,M1]at ac⊢;omega};have rJ:=Lx ah;have hI:=(hS.ice (s:=2) n ap BS BS);(have hS:St g (P+732) wr ((w.heap.size+1)::w.heap.size::bs) ((4,13,[AB A,AB H,AE E G I,AE K D M])::(12,2,[AE R css.length O])::ts):=(hI.sub (λ_ h=>h) (λx hx=>by simp only[EN]at hx⊢;rcases hx with h|h|h;exact .inr (.inl h);exact .inl h;exact .inr (.inr h))).mo BS;have Q:css.length=0->R=none/\O=0:=λe=>by have:=rJ (BL.1 e);rw[e]at this;cases this;exact⟨rfl,rfl⟩);have⟨J,az⟩:=AA css.length;rw[<-az]at hS Q f Y an;have aj:AkT w wr g (P+732) bs ts 0 N:=⟨A,H,E,G,I,K,D,M,R,J,O,[],_,l,f,BJ _ _ _ _,Q,DN _,EH _,hS,t⟩;clear ah rJ hI n af ac az l f hS t Q an q0 q1 q2 q3 q4 q5 q6 q7 q8 q9 Y V S U X p3 Z T p6 p7 p8 p9 aa ab ad ae;go_upto_region 8 with fail;go_cut [39] (λc wq=>∃b:Bool,c=.bool b/\(b=true->0<d)/\AkT w wq g (P+733) bs ts 0 N);case first=>by_cases ar:0<d;{obtain⟨A,H,E,G,I,K,D,M,R,J,O,css,v,l,f,n,Q,af,ac,hS,t⟩:=aj;have⟨ad,q0,q1,q2,q3,q4,q5,S,U,X,p3,Z,T⟩:=id l;go_wp2_with(go_at_call 15;refine(E8 g _ _ _ hS.rd BS BS BS).mo ?_;rintro e wk⟨x,rfl,ak,ax,ai,m⟩);go_meet;exact⟨x==0,rfl,λ_=>ar,A,H,E,G,I,K,D,M,R,J,O,css,v,l.G m B1,f.G m B1,Gn n m BS,Q,af,ac,(hS.go ai m).mo BS,E5 t m⟩};go_wp2;go_meet;exact⟨false,rfl,λh=>CQ,aj.mo BS (DN _)⟩
    case rest=>
     clear aj;obtain⟨b,rfl,aA,aw⟩:=hcut;go_upto_if 39 with fail;go_cut [] (λwq=>AkT w wq g (P+740+3*C) bs ts 3 N);case first=>
      cases b;{go_wp2;go_meet;exact aw.mo BS BS};have ar:=aA rfl;go_wp2_with(go_at_call 15;obtain⟨A,H,E,G,I,K,D,M,R,J,O,css,v,l,f,n,Q,af,ac,hS,t⟩:=aw;refine(E8 g _ _ _ hS.rd BS BS BS).mo ?_;rintro e wk⟨x,rfl,ak,ax,ai,m⟩);have⟨x2,sH⟩:=Hh ak;subst sH;have aj:AkT w wk g (P+740+0*C) bs ts 0 N:=⟨A,H,E,G,I,K,D,M,R,J,O,css,v,l.G m B1,f.G m B1,Gn n m BS,Q,af,ac,(hS.go ai m).mo BS,E5 t m⟩;clear l f n Q af ac hS t ai m;go_loopw [9] (λi wr=>∃j k:Nat,k+j=1+x2/\i=AB j/\AkT w wr g (P+740+k*C) bs ts k N) (λi _=>(intOf i).toNat);case atStart=>exact⟨1+x2,0,BS,by go_num,aj⟩
      case round=>clear aj;obtain⟨j,k,aI,rfl,A,H,E,G,I,K,D,M,R,J,O,css,v,l,f,n,Q,af,ac,hS,t⟩:=hrel;have aB:k*C<=3*C:=KB _ BS;have⟨ad,q0,q1,q2,q3,q4,q5,S,U,X,p3,Z,T⟩:=id l;have⟨ae,q6,q7,q8,q9,Y,V,p6,p7,p8,p9,aa,ab⟩:=id f;obtain⟨a4,c4,rfl,-⟩:=Oh n;by_cases aD:0<j;{have aB:(k+1)*C<=3*C:=KB _ BS;rw[JA]at aB;have jv:=Lx Q;clear Q;go_upto_region 12 with fail;go_region_law(first|(refine Gj rfl rfl (StL.push _ kd6 hS n BS BS) rfl rfl ?_;rintro v' w6⟨ag,al,aF,-⟩;obtain⟨oL,oJ,rfl,-⟩:=Oh ag;have l:=l.G aF (λe=>by have:=(n.lt _ e).1;omega);have f:=f.G aF (λe=>by have:=(n.lt _ e).1;omega);have⟨ad,q0,q1,q2,q3,q4,q5,S,U,X,p3,Z,T⟩:=id l;have⟨ae,q6,q7,q8,q9,Y,V,p6,p7,p8,p9,aa,ab⟩:=id f)|(go_simp;go_at_call 54;refine(IH ar _ _ g _ _ _ _ yCg hS.drew BS).mo ?_;rintro e w5⟨i5,o5,b1,m1,d1,b2,m2,d2,b3,m3,d3,b4,m4,d4,rfl,hS,z⟩;have m:wr.grownBy w5 (some g):=⟨z.os,z.tape,z.output,z.size,z.block⟩;have n:=Gn n m BS;have l:=l.G m B1;have f:=f.G m B1;have⟨ad,q0,q1,q2,q3,q4,q5,S,U,X,p3,Z,T⟩:=id l;have⟨ae,q6,q7,q8,q9,Y,V,p6,p7,p8,p9,aa,ab⟩:=id f));(all_goals go_wp2);all_goals refine⟨⟨j - 1,k+1,BS,by go_num,A,H,E,G,I,K,D,M,R,J,O,_,AE oL (css.length+1) oJ,CO,CO,ownsRow_setCell_below (by rwa[DV]) (EQ _) _,jv.out,?_,?_,(al.set BU).mo (by rw[JA];omega),OC BU (Zo (E5 t m) aF (λk hk=>by have:=(n.lt _ hk).1;omega)) _⟩,xAb⟩;{simp;omega};simp only[tot,D4,KE,DZ,FI,FO,M1,JA]at ac⊢;omega};have aH:k*N<=3*N:=KB _ BS;go_wp2;go_meet;exact⟨A,H,E,G,I,K,D,M,R,J,O,css,_,l,f,n,Q,BS,BS,hS.mo BS,t⟩
     case rest=>clear aw aA;obtain⟨A,H,E,G,I,K,D,M,R,J,O,css,v,l,f,n,Q,af,ac,hS,t⟩:=hcut;have⟨ad,q0,q1,q2,q3,q4,q5,S,U,X,p3,Z,T⟩:=id l;have⟨ae,q6,q7,q8,q9,Y,V,p6,p7,p8,p9,aa,ab⟩:=id f;obtain⟨a4,c4,rfl,-⟩:=Oh n;replace hS:=hS.ice (s:=3*N) n ap BS BS;have⟨n4,ay⟩:=AA css.length;rw[<-ay]at f hS V;clear n af ac ay css;have hfin:∀(W:AU)(ao q:Nat)(R:Δ)(J O:Nat),ao<=P+(3*C+1000)->q<=2->St g ao W ((w.heap.size+1)::w.heap.size::bs) ((16,3*N,[AE a4 n4 c4])::(4,13,[AB A,AB H,AE E G I,AE K D M])::(12,q,[AE R J O])::ts)->St g (P+(3*C+1000)) W bs ((6,3*N+20,[AB A,AB H,AE E G I,AE K D M,AE R J O,AE a4 n4 c4])::ts):=λW ao q R J O hQ hq h=>((h.drop.drop).A BS).mo hQ;by_cases h3:J=0;{have⟨e1,e2⟩:=Q h3;clear Q;subst h3 e1 e2;by_cases h4:n4=0;{subst h4;go_upto_region 14 with fail;go_region_law(first|(refine Gj rfl rfl (StL.push (css:=[]) (v:=AG) (bs:=(w.heap.size+1)::w.heap.size::bs) _ kd2 hS (BJ _ (w.heap.size+2) _ _) BS BU) rfl rfl ?_;rintro v' w6⟨ag,al,aF,-⟩;obtain⟨oL,oJ,rfl,-⟩:=Oh ag;have l:=l.G aF yEe;have f:=f.G aF yEe;have⟨ad,q0,q1,q2,q3,q4,q5,S,U,X,p3,Z,T⟩:=id l;have⟨ae,q6,q7,q8,q9,Y,V,p6,p7,p8,p9,aa,ab⟩:=id f)|(go_simp;go_at_call 43;refine(Qp g _ _ hS.drew.rd BS).mo ?_;rintro e w5 ho;obtain⟨o3,a5,n5,c5,rfl,hS,z⟩:=hS.drew.el ho BX;have m:wc.grownBy w5 (some g):=⟨z.os,z.tape,z.output,z.size,z.block⟩;have l:=l.G m B1;have f:=f.G m B1;have⟨ad,q0,q1,q2,q3,q4,q5,S,U,X,p3,Z,T⟩:=id l;have⟨ae,q6,q7,q8,q9,Y,V,p6,p7,p8,p9,aa,ab⟩:=id f));(all_goals go_wp2);all_goals have hI:=StL.ice (s:=1) al ag ap (by simp[tot]) BU;refine BH (by simp[results,results54,go_sem,q0,q1,q2,q3,q4,q5];rfl) rfl ?_;have aK:w.grownBy w6 (some g):=Zo (E5 t m) aF (λk hk=>by simp[Value.ownBlock]at hk);refine⟨_,_,_,_,_,_,_,_,_,_,_,_,_,_,rfl,hfin _ _ 1 _ _ _ BS BS (((hI.set Av).set6 (Ax Av)).sub (λ_ h=>h) (λx hx=>?_)),B0⟩;simp only[EN]at hx⊢;rcases hx with h|h|h|h;{exact .inr (.inl h)};{exact .inr (.inr (.inl h))};{exact .inl h};exact .inr (.inr (.inr (.inr h)))};have aN:((n4:Int)==0)=false:=(by rw[DX];omega);exact zCa};have aJ:((J:Int)==0)=false:=(by rw[DX];omega);exact zCa
theorem lA(m:Nat):∀(d:Int)(root:Bool)(g P:Nat)(w:AU)(bs:Γ)(ts:List Nk),m<=100->d=m->St g P w bs ts->P+KF (m+1)<=100000000->Calls prog 54 #[AH g,AB d,.bool root] w (ArR g (P+KF (m+1)) (LZ (m+1)) w bs ts):=by have e:∀m,KF (m+1)=3*KF m+1000:=λ_=>rfl;have f:∀m,LZ (m+1)=3*LZ m+20:=λ_=>rfl;induction m with|zero=>intro d root g P w bs ts _ hd h a;rw[e]at a⊢;rw[f];exact dr _ _ d BS BS (λh=>by omega) root g P w bs ts h a|succ m j=>intro d root g P w bs ts l hd h a;rw[e]at a⊢;rw[f];exact dr _ _ d BS BS (λ_ d root g P w bs ts hd=>j d root g P w bs ts BS BS) root g P w bs ts h a
section
variable {L g P:Nat}{w:AU}{bs:Γ}{ts:List Nk}{i op:Int}{v u c d:AW}{p q r s b:Nat}
theorem StL.leaf (h:StL L g P w bs ((12,1,[c])::(2,q,[AB op,v])::ts)):StL L g P w bs ((6,3,[AB 1,AB op,v,AG,c,AG])::ts):=(h.add (y:=(6,3,_)) λS hS=>by
  have⟨a,e⟩:=ClT.el (hS (2,q,[AB op,v]) (Ax Av))
  exact ClT.mkA BX a e (SlT.nil (s:=0)) (ClT.sl (k:=2) (hS (12,1,[c]) Av)) (SlT.nil (s:=0)) (show 0+1+0+1<3 by decide)).un.un
theorem StL.wrap(h:StL L g P w bs ((16,r,[d])::ts)):StL L g P w bs ((6,r+2,[AB 0,AB 0,AG,AG,AG,d])::ts):=(h.add (y:=(6,r+2,_)) λS hS=>ClT.mkA BX BX SlT.nil (SlT.nil (s:=0)) (SlT.nil (s:=0)) (ClT.sl (k:=6) (hS (16,r,[d]) Av)) (show 0+0+r+1<r+2 by omega)).un
def StL.renet {f e:Int}{v0 l:AW}(h:StL L g P w bs ((2,q,[AB op,v])::(6,s,[AB f,AB e,v0,l,c,d])::ts)):StL L g P w bs ((6,s,[AB 1,AB op,v,AG,c,d])::ts):=(h.add (y:=(6,s,_)) λS hS=>by
  have⟨o,t⟩:=ClT.el (hS (2,q,[AB op,v]) Av);have⟨z,a,j,_,_,_,_,n,x,m⟩:=ClT.am (hS (6,s,[AB f,AB e,v0,l,c,d]) (Ax Av));replace m:z+a+j+1<s:=m
  exact ClT.mkA BX o t (SlT.nil (s:=0)) n x (show 0+a+j+1<s by omega)).un.un
end
def FkT(w a:AU)(B g Q s:Nat)(bs:Γ)(ts:List Nk):Prop:=∃(i o:Int)(l:Δ)(e A:Nat)(z:Δ)(x h:Nat)(m:Δ)(j y:Nat)(f:Δ)(t n:Nat),HZ a w.heap.size 0 0 AG AG AG AG/\HZ a B i o (AE l e A) (AE z x h) (AE m j y) (AE f t n)/\St g Q a (B::w.heap.size::bs) ((6,s,[AB i,AB o,AE l e A,AE z x h,AE m j y,AE f t n])::ts)/\w.grownBy a (some g)
theorem Auc(n g P:Nat)(w:AU)(bs:Γ)(ts:List Nk)(hn:n<=20)(h:St g P w bs ts)(hP:P<=100000000):
    Calls prog 53 #[AH g,AB n] w (ArR g (P+5000) 200 w bs ts):=by
 have hg:=Je h.rd;have hS:=h.box (.cells #[AB 0,AB 0,AG,AG,AG,AG] 66);clear h;go_enter func53,ntmps53;go_wp2_with(first|(go_at_call 42;refine(Hz g _ _ (hS).rd BS).mo ?_;rintro ae wa f;obtain⟨op,aa,na,ca,rfl,hS,e⟩:=(hS).el f BX;obtain⟨Z,C,R,q1,p1,J,p2,M,p3,H,p4,D,S⟩:Im wa w.heap.size:=JC;have m:=E5 (show w.grownBy _ (some g) from B0) e;clear f e)|(go_at_call 43;refine(Qp g _ _ (hS).rd BS).mo ?_;rintro ae wb f;obtain⟨mG,z,y,A,rfl,hS,e⟩:=(hS).el f BX;obtain⟨Z,C,R,q1,p1,J,p2,M,p3,H,p4,D,S⟩:Im wb w.heap.size:=JC;have m:=E5 (show w.grownBy _ (some g) from B0) e;clear f e));have ag:FkT w ((wb.alloc (.cells #[AB mG,AE z y A] 60)).alloc (.cells #[AB 1,AB op,AE aa na ca,AG,AE (some (AL wb 0)) 1 1,AG] 66)) (wb.heap.size+1) g (P+60) 3 bs ts:=by have hL:=(((hS.lit1 (n:=wb.heap.size) #[AB mG,AE z y A] 60 BX rfl rfl).leaf).box (.cells #[AB 1,AB op,AE aa na ca,AG,AE (some (AL wb 0)) 1 1,AG] 66)).mo (Q:=P+60) BS;rw[BG]at hL;exact⟨1,op,aa,na,ca,none,0,0,_,1,1,none,0,0,CO,CO,hL,B0⟩
 have⟨B,af⟩:=AA (wb.heap.size+1);have aj:w.heap.size<B:=BS;rw[<-af]at ag;rw[<-af];clear af hS m;go_loopw [6] (λi wr=>∃j:Nat,j<=n/\i=AB j/\FkT w wr B g (P+60+100*j) (3+5*j) bs ts) (λi _=>n - (intOf i).toNat);case atStart=>exact⟨0,BS,rfl,ag⟩
 case round=>
  clear ag;obtain⟨j,hj,rfl,V,o1,a1,n1,c1,z,y,A,O,K,E,G,I,N,t,l,hS,m⟩:=hrel;have⟨ac,q6,Y,q8,q9,ad,ab,p6,U,p8,p9,T,X⟩:=id l;by_cases ak:j<n
  . go_upto_region 5 with fail
    go_cut [] (λwq=>FkT w wq B g (P+120+100*j) (8+5*j) bs ts)
    case first=>
     go_region_law(first|(go_simp;go_at_call 42;refine(Hz g _ _ hS.drew.rd BS).mo ?_;rintro ae w5 f;obtain⟨o3,b3,m3,d3,rfl,hS,aO⟩:=hS.drew.el f BX;have e:wr.grownBy w5 (some g):=⟨aO.os,aO.tape,aO.output,aO.size,aO.block⟩;have t:=t.G e B1;have l:=l.G e B1;have m:=E5 m e;have⟨ac,q6,Y,q8,q9,ad,ab,p6,U,p8,p9,T,X⟩:=id l)|(go_simp;go_at_call 43;refine(Qp g _ _ hS.rd BS).mo ?_;rintro ae w6 f;obtain⟨o4,b4,m4,d4,rfl,hS,e⟩:=hS.el f BX;have t:=t.G e B1;have l:=l.G e B1;have m:=E5 m e;have⟨ac,q6,Y,q8,q9,ad,ab,p6,U,p8,p9,T,X⟩:=id l))
     all_goals go_wp2
     all_goals go_meet
     all_goals
      have⟨Z,C,q1,J,M,H,D,R,p1,p2,p3,p4,S⟩:=id t;have hL:=λx1 x2 x3 x4 x5 x6=>((((hS.set6 (o1:=0) (o2:=1) (o3:=2) (o4:=3) (o5:=4) (o6:=5) (x1:=x1) (x2:=x2) (x3:=x3) (x4:=x4) (x5:=x5) (x6:=x6) Av).lit1 (n:=w6.heap.size) #[AB o4,AE b4 m4 d4] 60 BX rfl BU).leaf).lit (s:=6+5*j) (n:=w6.heap.size+1) [(3+5*j,[AB V,AB o1,AE a1 n1 c1,AE z y A,AE O K E,AE G I N]),(3,[AB 1,AB o3,AE b3 m3 d3,AG,AE (some (AL w6 0)) 1 1,AG])] #[AB V,AB o1,AE a1 n1 c1,AE z y A,AE O K E,AE G I N,AB 1,AB o3,AE b3 m3 d3,AG,AE (some (AL w6 0)) 1 1,AG] 66 BX BU rfl (by simp[tot];omega) BU BU).un.un.wrap
      exact⟨0,0,none,0,0,none,0,0,none,0,0,some (AK (w6.heap.size+1) 0),2,2,CO,CO,((hL _ _ _ _ _ _).mo BS).grew BS,B0⟩
    case rest=>
      clear t l hS m q6 Y q8 q9 ad ab p6 U p8 p9 T X ac;obtain⟨V,o1,a1,n1,c1,z,y,A,O,K,E,G,I,N,t,l,hS,m⟩:=hcut;have⟨Z,C,q1,J,M,H,D,R,p1,p2,p3,p4,S⟩:=id t;have⟨ac,q6,Y,q8,q9,ad,ab,p6,U,p8,p9,T,X⟩:=id l;clear t l
      go_wp2_with(first|(go_at_call_of 15 (Value.int IntKind.i64 2);refine(E8 g _ _ _ ((hS).rd) BS BS BS).mo ?_;rintro ae wd⟨x,rfl,ai,al,ah,e⟩;have hS:=(hS).go ah e;obtain⟨Z,C,R,q1,p1,J,p2,M,p3,H,p4,D,S⟩:Im wd w.heap.size:=JC;obtain⟨ac,q6,p6,Y,U,q8,p8,q9,p9,ad,T,ab,X⟩:EB wd B (AB V) (AB o1) (AE a1 n1 c1) (AE z y A) (AE O K E) (AE G I N):=qb6;have m:=E5 (show w.grownBy _ (some g) from B0) e;clear ah e)|(go_at_call 42;refine(Hz g _ _ (hS).rd BS).mo ?_;rintro ae we f;obtain⟨nX,ea,en,ec,rfl,hS,e⟩:=(hS).el f BX;obtain⟨Z,C,R,q1,p1,J,p2,M,p3,H,p4,D,S⟩:Im we w.heap.size:=JC;obtain⟨ac,q6,p6,Y,U,q8,p8,q9,p9,ad,T,ab,X⟩:EB we B (AB V) (AB o1) (AE a1 n1 c1) (AE z y A) (AE O K E) (AE G I N):=qb6;have m:=E5 (show w.grownBy _ (some g) from B0) e;clear f e))
      . exact⟨⟨j+1,BS,by go_num,1,nX,ea,en,ec,none,0,0,O,K,E,G,I,N,CO,CO,((hS.renet.set4 Av).mo BS).grew BS,B0⟩,xAb⟩
      . exact⟨⟨j+1,BS,by go_num,V,o1,a1,n1,c1,z,y,A,O,K,E,G,I,N,CO,CO,(hS.mo BS).grew BS,B0⟩,xAb⟩
  . obtain rfl:j=n:=by omega
    have⟨Z,C,q1,J,M,H,D,R,p1,p2,p3,p4,S⟩:=id t;clear t l
    go_wp2_with(go_at_call 42;refine(Hz g _ _ (hS).rd BS).mo ?_;rintro ae we f;obtain⟨nX,ea,en,ec,rfl,hS,e⟩:=(hS).el f BX;obtain⟨Z,C,R,q1,p1,J,p2,M,p3,H,p4,D,S⟩:Im we w.heap.size:=JC;obtain⟨ac,q6,p6,Y,U,q8,p8,q9,p9,ad,T,ab,X⟩:EB we B (AB V) (AB o1) (AE a1 n1 c1) (AE z y A) (AE O K E) (AE G I N):=qb6;have m:=E5 (show w.grownBy _ (some g) from B0) e;clear f e)
    refine BH (by simp[results,results53,go_sem,C,q1,J,M,H,D];rfl) rfl ?_;exact⟨_,_,_,_,_,_,_,_,_,_,_,_,_,_,rfl,(((hS.renet.set4 Av).set6 (Ax Av)).drop.drop.mo BS).grew BS,B0⟩
end Go.Proofs.YthdogflpbpkbeaaGreatDoor
namespace Stil
variable {B F:Nat}{k:Int}
theorem Lp.costs:∀{l:AP}{s:Pt}{j:Ω}{f:AP},Lp l j f->E7 s l->FH B F s l->s.bits=1->
  ∃a,E7 a f/\FH B F a f/\a.bits=1/\a.forks=s.forks/\(j≠[]->a.seen=true)/\(j=[]->a=s/\f=l)/\Dt j=false
 |[],_,_,_,h,_,_,_=>h.elim
 |i::r,s,j,f,h,t,z,x=>by
  have⟨H,D⟩:=t.cons;rw[Lp]at h;by_cases m:i.code=10
  .rw[BR m]at h
   obtain⟨E,rfl,h⟩:=h;obtain⟨_,_,I⟩:=z;have o:(next s i.code).bits=1/\(next s i.code).forks=s.forks/\(next s i.code).seen=true:=by
    unfold next
    rw[BQ BS];simp[m,x]
   have⟨a,K,G,M,J,C,A,N⟩:=Lp.costs h D I o.1;refine⟨a,K,G,M,by rw[J,o.2.1],λ_=>?_,λe=>(by cases e),?_⟩
   .by_cases y:E=[]
    .rw[(A y).1];exact o.2.2
    .exact C y
   .have n:=(Iu H).1
    unfold Jz at n;rw[BQ BS,BQ BS,BR m]at n;rw[VS,n,N];rfl
  .rw[BQ m]at h
   obtain⟨rfl,rfl⟩:=h;exact⟨s,t,z,x,rfl,λh=>absurd rfl h,λ_=>⟨rfl,rfl⟩,rfl⟩
structure Pl(B F:Nat)(f:Int)(a:DL):Prop where
 norm:Ig a
 right:Cb a=0
 bits:Bq a<=B
 forks:f+forks a<=F
structure MW(B F:Nat)(f:Int)(r:List Ar)(s:Pt):Prop where
 runs:E7 s r
 tops:FH B F s r
 bits:s.bits=1
 forks:s.forks=f
 seen:s.seen=true
 ends:Ym r
def wK(a:DL):Ig a->Et a:=by refine Fz (λa=>Ig a->Et a) ?_ a;intro n c kids f h;have⟨j,l,_⟩:=(J6 _ _ _).1 h;exact(Ee _ _ _).2 ⟨j,λx e=>f x e (l x e)⟩
def jo{a:DL}(h:Ig a):1<=Bq a:=(P0 a (wK a h) 0).lo1
def QS{a:DL}(h:Ig a):Gs a.N (Bq a)=max (Bq a) (IJ a.N):=by unfold Gs IJ;rw[<-I5,Nat.max_eq_left (jo h)]
def gJ(B F:Nat)(P:AP->DL->AP->Prop):Prop:=
 ∀l a r s,P l a r->E7 s l->FH B F s l->s.bits=1->0<=s.forks->s.forks<=(F:Int)->s.seen=true->(s.coil=false\/Dx l<7)->
  ∃e,MW B F s.forks r e/\Pl B F s.forks a/\IJ a.N<=B/\(Bc a.N).length+(Bz a).length+r.length<=l.length/\(Dx l<7->fine a.N)
theorem Ip.costs{n:Nat}{P:AP->DL->AP->Prop}(I:gJ B F P){f:Int}(R:0<=f):∀{A:Ek}{i:Ar}{l r:AP}{s:Pt}(j:Nat),Ip P A (i::l) r->E7 s (i::l)->FH B F s (i::l)->s.bits=1->
  ((i.code=7/\s.forks=f)\/(i.code≠7/\s.forks=f+1/\s.seen=true))->
  ∃D,MW B F f r D/\(∀k∈A,Ig k/\Cb k=0)/\A8 1 (A.map (λk=>Gs k.N (Bq k)))<=max 1 B/\f+Ny A<=F/\(D8 n j A).length+r.length<=(i::l).length/\(∀k,A=[k]->i.code=9)
 |[],_,_,_,_,_,h,_,_,_,_=>by simp[Ip]at h
 |k::t,i,l,r,s,j,h,Q,Z,H,hi=>by
  have⟨h0,K⟩:=Q.cons;obtain⟨_,M,N⟩:=Z;rw[Ip]at h;have aa:=Zb n j;by_cases G:t=[]
  .subst G
   rw[BR rfl]at h;obtain⟨O,h⟩:=h;have C:s.forks=f+1/\s.seen=true:=by
    rcases hi with⟨h,_⟩|⟨_,h⟩
    .omega
    .exact h
   have x:(next s i.code).bits=1/\(next s i.code).forks=f/\(next s i.code).seen=true/\(next s i.code).coil=false:=by
    rw[O];unfold next
    simp[H,C.1,C.2]
   have⟨D,e,a,T,Y,_⟩:=I l k r _ h K N x.1 BS M x.2.2.1 (.inl x.2.2.2);rw[x.2.1]at e a;refine⟨D,e,λy o=>by rw[BB.1 o];exact⟨a.norm,a.right⟩,?_,a.forks,?_,λ_ _=>O⟩
   .show max 1 (Gs k.N (Bq k))<=max 1 B
    have:=QS a.norm
    have:=a.bits
    omega
   .rw[D8,D8,EZ]
    unfold H5 G2;rw[DV,DV,DT];omega
  .rw[BQ G]at h
   obtain⟨zI,m,h,hF⟩:=h;have x:(next s i.code).bits=1/\(next s i.code).forks=f+1/\(next s i.code).seen=true/\(next s i.code).coil=false:=by
    rcases hi with⟨J,C⟩|⟨J,C,U⟩
    .rw[J]
     unfold next
     simp[H,C]
    .have S:i.code=8:=zI.resolve_left J
     rw[S];unfold next
     simp[H,C,U]
   have⟨s1,e,a,T,Y,_⟩:=I l k m _ h K N x.1 BS M x.2.2.1 (.inl x.2.2.2);rw[x.2.1]at e a;obtain⟨z,E,rfl⟩:∃z E,m=z::E:=by
    cases m with
    |nil=>
     have:=e.ends
     unfold Ym at this;simp[Dx]at this
    |cons z E=>exact⟨z,E,rfl⟩
   have ab:z.code=8\/z.code=9\/z.code=11:=e.ends;have⟨D,V,d2,d3,d4,d5,d6⟩:=Ip.costs (n:=n) I R (j+1) hF e.runs e.tops e.bits (.inr ⟨BS,e.forks,e.seen⟩);have X:Ny (k::t)=max (forks k+1) (Ny t):=by
    cases t with
    |nil=>exact absurd rfl G
    |cons y t=>rfl
   refine⟨D,V,λy o=>?_,?_,?_,?_,λy o=>?_⟩
   .rcases BD.1 o with rfl|o
    .exact⟨a.norm,a.right⟩
    .exact d2 y o
   .rw[DZ,Jn]
    have:=QS a.norm
    have:=a.bits
    omega
   .rw[X]
    have:=a.forks
    omega
   .rw[D8]
    unfold H5 G2;rw[DV,DV,DV,DT];omega
   .injection o with _ o
    exact absurd o G
def netCost(kid:Bool)(n:DK):Nat:=if kid=true then(Bc n).length else(Cf n).length
theorem StR.netCost{kid:Bool}{c:Nat}{n:DK}(h:StR kid B [n] c):c=Stil.netCost kid n/\Gu n/\(kid=false->fine n/\Ak n<=B)/\(kid=true->IJ n<=B):=by
 unfold Stil.netCost;cases kid with
 |true=>have⟨a,e,f⟩:=StR.base.1 h;exact⟨by rwa[BR rfl],a,λh=>CQ,λ_=>f⟩|false=>have⟨a,e,l,f,m⟩:=h.pop (λj=>by have:=j.1;cases this);have o:l=0:=f.2;simp only[DW]at e;exact⟨by rw[BQ BX];omega,.inr a,λ_=>⟨a,BS⟩,λh=>CQ⟩
def kL(h:1<=B):StR true B [Ha] 0:=StR.base.2 ⟨.inl rfl,rfl,h⟩
theorem SH{n:DK}{cs:Ω}{kids:Ek}(h1:Gu n)(e:Dt cs=false)(f:kids=[]->cs≠[]):C9 ⟨n,cs,kids⟩=0:=by
 unfold C9;simp only;rw[BQ,BQ (by rw[e];decide),BQ]
 .intro h;exact f (BL.1 h.2) (BL.1 h.1)
 rintro⟨a,b⟩;rcases h1 with h|h
 .rw[h]at a;cases a
 have:=h.2.2;omega
theorem dV(Z:1<=B):∀{f:Nat}{kid:Bool}{G:Ξ}{l:AP}{a:DL}{r:AP}{s:Pt}{c:Nat},Wl f G l a r->E7 s l->FH B F s l->s.bits=(G.length:Int)->s.bits<=(B:Int)->0<=s.forks->s.forks<=(F:Int)->(kid=true->s.seen=true/\G≠[])->StR kid B G c->(s.coil=false\/Dx l<7)->
  ∃e,MW B F s.forks r e/\Pl B F s.forks a/\(kid=false->fine a.N/\Ak a.N<=B)/\(kid=true->IJ a.N<=B)/\netCost kid a.N+(Bz a).length+r.length<=c+l.length/\(kid=true->Dx l<7->fine a.N)
 |0,_,_,_,_,_,_,_,h,_,_,_,_,_,_,_,_,_=>h.elim
 |f+1,kid,G,l,a,r,s,c,h,Y,ht,O,hB,ad,al,y,ai,V=>by
  obtain⟨l1,J,T,N,h3⟩:=h;have⟨s1,c1,a1,a2,a3,a4,a5,a6,a7,a8,a9⟩:=T.costs Y ht O hB y ai;have⟨n1,A,n3,n4⟩:=a6.netCost;have⟨s2,M,b2,U,b4,b5,R,H⟩:=N.costs a1 a2 a3;have qm:=T.suffix;have af:=N.suffix.2.2;have S:s2.forks=s.forks:=by rw[b4,a4]
  have hP:gJ B F (Wl f [Ha]):=by
   intro l a r s h Y ht O ab pI hs V;have⟨e,z,o,X,K,C,e6⟩:=dV Z (kid:=true) h Y ht (by rw[O];rfl) BS ab pI (λ_=>⟨hs,BU⟩) (kL Z) V;refine⟨e,z,o,K rfl,?_,e6 rfl⟩;unfold Stil.netCost at C;rw[BR rfl]at C;omega
  obtain⟨an,t,kids⟩:=a;simp only at T N h3 n1 A n3 n4 a6 a8 b5 R H af⊢;have fin:∀e,MW B F s.forks r e->Ig ⟨an,t,kids⟩->Cb ⟨an,t,kids⟩=0->Bq ⟨an,t,kids⟩<=B->s.forks+forks ⟨an,t,kids⟩<=F->(D8 kids.length 0 kids).length+r.length<=J.length->
    ∃e,MW B F s.forks r e/\Pl B F s.forks ⟨an,t,kids⟩/\(kid=false->fine an/\Ak an<=B)/\(kid=true->IJ an<=B)/\Stil.netCost kid an+(Bz ⟨an,t,kids⟩).length+r.length<=c+l.length/\(kid=true->Dx l<7->fine an):=by
   intro e z o X K C e6;refine⟨e,z,⟨o,X,K,C⟩,n3,n4,?_,λh h7=>a8 h (.inr h7)⟩;have aj:(G9 t).length=t.length:=by simp[G9]
   rw[Nl,DV];omega
  rcases h3 with⟨Q,rfl,rfl⟩|⟨ak,D,b,rfl,ag⟩|⟨D,hF⟩
  .have E:t≠[]:=by
    intro aa;have⟨z,o⟩:=R aa;have ah:r≠[]:=by rintro rfl;simp[Dx]at Q
    obtain⟨i,I,rfl⟩:∃i I,r=i::I:=by
     cases r with
     |nil=>exact absurd rfl ah
     |cons i I=>exact⟨i,I,rfl⟩
    have h8:=(Iu M.cons.1).2.2.2.2.2.2.2.2;exact h8 ⟨Q,by rw[z];exact a9 V⟩
   refine fin s2 ⟨M,b2,U,S,b5 E,Q⟩ ((J6 _ _ _).2 ⟨A,(λx j=>by cases j),(λk y=>by cases y)⟩) (I4.2 ⟨SH A H (λ_=>E),(λx j=>by cases j)⟩) ?_ ?_ ?_
   .rwa[Oq]
   .rw[cS]
    show s.forks+0<=_
    omega
   .show 0+_<=_
    omega
  .have E:t≠[]:=by
    intro aa;have:=(R aa).2
    rw[this]at D;have:=qm.2
    omega
   have⟨e,z,o,X,K,C⟩:=hP J b r s2 ag M b2 U BS BS (b5 E) (.inr D);rw[S]at z o;have ac:=C D;refine fin e z ((J6 _ _ _).2 ⟨A,λx j=>by rw[BB.1 j];exact o.norm,λk y=>?_⟩) (I4.2 ⟨SH A H (λh=>by cases h),λx j=>by rw[BB.1 j];exact o.right⟩) ?_ ?_ ?_
   .injection y with y
    subst y;rintro(h|h)
    .exact E h
    .rw[Yl ac]at h;cases h
   .rw[Oq]
    show max 1 (Gs b.N (Bq b))<=B
    have:=QS o.norm
    have:=o.bits
    omega
   .rw[Uy,Vw]
    exact o.forks
   .have el:D8 [b].length 0 [b]=Bc b.N++Bz b:=by
     show(([]:AP)++(Bc b.N++Bz b))++[]=_
     rw[ED,EZ]
    rw[el,DV];omega
  .obtain⟨i,m,rfl⟩:∃i m,J=i::m:=by
    cases J with
    |nil=>simp[Dx]at D
    |cons i m=>exact⟨i,m,rfl⟩
   have um:i.code=7:=D;have⟨e,d1,d2,d3,d4,d5,d6⟩:=Ip.costs (n:=kids.length) hP ad 0 hF M b2 U (.inl ⟨um,S⟩);have ae:kids≠[]:=by rintro rfl;simp[Ip]at hF
   refine fin e d1 ((J6 _ _ _).2 ⟨A,λx j=>(d2 x j).1,λk y=>?_⟩) (I4.2 ⟨SH A H (λh=>absurd h ae),λx j=>(d2 x j).2⟩) ?_ ?_ d5
   .have:=d6 k y
    omega
   .rw[Oq]
    omega
   .rw[Uy,Vw]
    exact d4
theorem step_next{s:Pt}{i:Ar}(g:s.good)(h:wrong s i=0):step (s.bits,s.forks) i.code=((next s i.code).bits,(next s i.code).forks):=by
 have⟨_,a,_,n,_,_,_,o,_⟩:=Iu h;by_cases e:i.code=11
 .have m:needs i.code=1:=by rw[e];rfl
  have l:s.bits=1:=BS;have j:s.forks=0:=by have:=g.2.2.1;omega
  rw[e,l,j];rfl
 unfold step next
 rw[BQ e];simp only;refine Prod.ext ?_ rfl;show(if i.code=1 then s.bits+1 else if i.code=4\/i.code=5\/i.code=11 then s.bits - 1 else s.bits)=if i.code=1 then s.bits+1 else if i.code=4\/i.code=5 then s.bits - 1 else s.bits
 by_cases a:i.code=1
 .rw[BR a,BR a]
 rw[BQ a,BQ a];by_cases f:i.code=4\/i.code=5
 .rw[BR BS,BR f]
 rw[BQ BS,BQ f]
theorem eS:∀(t:List (Int × Int))(p x:Int × Int),x∈t->x.1<=(Fq p t).1/\x.2<=(Fq p t).2
 |[],_,_,h=>by cases h
 |s::r,p,x,h=>by
  rw[Fq];rcases BD.1 h with rfl|h
  .have a:x.1<=(if p.1<x.1 then x.1 else p.1)/\x.2<=(if p.2<x.2 then x.2 else p.2):=by
    refine⟨?_,?_⟩
    .split<;>omega
    .split<;>omega
   have:=S8 r (if p.1<x.1 then x.1 else p.1,if p.2<x.2 then x.2 else p.2)
   exact⟨Int.le_trans a.1 this.1,Int.le_trans a.2 this.2⟩
  .exact eS r _ x h
theorem YN:∀(l:AP)(s t:Pt),s.good->run s l=some t->(∀x∈Dz (s.bits,s.forks) l,x.1<=(B:Int)/\x.2<=(F:Int))->FH B F s l
 |[],_,_,_,_,_=>trivial
 |i::r,s,t,g,h,a=>by
  rw[run]at h;split at h
  .cases h
  .have f:wrong s i=0:=by have:=Om s i;omega
   have m:=step_next g f;rw[Dz,m]at a;have e:=a _ E6;exact⟨e.1,e.2,YN r (next s i.code) t (Vu g f) h (λx j=>a x (Da _ j))⟩
theorem FH.split:∀{l m:AP}{s t:Pt},FH B F s (l++m)->run s l=some t->FH B F s l/\FH B F t m
 |[],_,_,_,h,e=>by injection e with e;subst e;exact⟨trivial,h⟩
 |i::r,m,s,t,h,e=>by
  rw[run]at e;split at e
  .cases e
  .obtain⟨f,j,n⟩:=h
   have⟨a,b⟩:=FH.split n e;exact⟨⟨f,j,a⟩,b⟩
def nh{r:AP}(h:Az r=(0,0)):run pt0 r=some pt0/\r.length<=1000:=by
 have⟨e,t,a,f⟩:=Ua.1 (by rw[h]:(Az r).1=0);have g:=lJ r pt0 t J2 a;have:t.bits=0:=by have:=g.1;omega
 rw[g.2.2.2.2 this]at a;exact⟨a,e⟩
theorem ZB:∀(f:List (AP)),(∀c∈f,run pt0 c=some pt0)->FH B F pt0 f.flatten->∀c∈f,FH B F pt0 c
 |[],_,_,c,e=>by cases e
 |x::f,h,j,c,e=>by
  rw[ER]at j;have⟨a,b⟩:=j.split (h x BU);rcases BD.1 e with rfl|e
  .exact a
  .exact ZB f (λy l=>h y (Da _ l)) b c e
theorem Aum(j:1<=B){c:AP}{x:DL}{i:Ar}(h:Wl 1001 [] c x [i])(hr:run pt0 c=some pt0)(l:FH B F pt0 c):Ig x/\Cb x=0/\fine x.N/\Hm x<=B/\forks x<=F/\(Ed x).length<=c.length:=by have⟨o,n,a,m,_,e,_⟩:=dV j (kid:=false) (c:=0) h ⟨J2,pt0,hr,BX⟩ l rfl (by show(0:Int)<=B;omega) BX (by show(0:Int)<=F;omega) (λh=>by cases h) ⟨rfl,rfl⟩ (.inl rfl);have⟨f,t⟩:=m rfl;have z:=a.bits;have y:(0:Int)+forks x<=F:=a.forks;unfold netCost at e;rw[BQ BX]at e;refine⟨a.norm,a.right,f,by unfold Hm;omega,BS,?_⟩;unfold Ed;rw[DV,DV];simp only[FV]at e⊢;omega
theorem eB(l:1<=B):∀{f:List (AP)}{a:Ek},UpR f a->(∀c∈f,run pt0 c=some pt0/\FH B F pt0 c)->(∀x∈a,Ig x/\Cb x=0/\fine x.N/\Hm x<=B/\forks x<=F)/\((a.map Ed).flatten).length<=f.flatten.length
 |[],_,h,_=>by rw[h];exact⟨(λx C=>by cases C),BU⟩
 |c::f,_,⟨x,a,i,e,n,o⟩,h=>by
  subst e;have⟨D,z,E,A,m,H⟩:=Aum l n (h c BU).1 (h c BU).2;have⟨G,I⟩:=eB l o (λc t=>h c (by simp[t]));refine⟨λy j=>?_,?_⟩
  .rcases BD.1 j with rfl|j
   .exact⟨D,z,E,A,m⟩
   .exact G y j
  .rw[DZ,ER,ER,DV,DV]
   omega
def Wb{xs:Ek}(a:(Am xs).1=0)(h:∀x∈xs,Ig x):Ai xs=xs:=by unfold Ai;rw[BR a];have:xs.map D6=xs.map id:=LN (λx e=>WJ x (h x e));rw[this,List.map_id]
theorem UF{l:AP}{xs:Ek}(h:(Az l).1=0)(n:UpR (Ej l) xs):(∀x∈xs,Ig x/\Cb x=0/\fine x.N)/\
  ((Am xs).1=0->Ai xs=xs/\(G7 xs:Int)<=(Hf l).1/\(Fg xs:Int)<=(Hf l).2/\(Ei xs).length<=l.length):=by
 have⟨U,t,E,_⟩:=Ua.1 h;have⟨y,K⟩:=Y0 h;have⟨S,R,J⟩:=cL h;by_cases C:l.l=0
 .have f:l=[]:=BL.1 C;have G:Ej l=[]:=by rw[f];rfl
  rw[G]at n;have a:xs=[]:=n;subst a;refine⟨(λx a=>by cases a),λj=>⟨Wb j (λx a=>by cases a),?_,?_,?_⟩⟩;{rw[f];decide};{rw[f];decide};exact EH _
 have Q:=J.resolve_left C;obtain⟨B,O⟩:∃B:Nat,(Hf l).1=(B:Int):=⟨(Hf l).1.toNat,BS⟩;have T:0<=(Hf l).2:=(S8 (He l) (0,0)).2;obtain⟨F,hF⟩:∃F:Nat,(Hf l).2=(F:Int):=⟨(Hf l).2.toNat,BS⟩;have H:FH B F pt0 l:=by
  refine YN l pt0 t J2 E (λx a=>?_);have e:He l=Dz (0,0) l:=by unfold He;rw[BQ BS]
  have:=eS (He l) (0,0) x (by rwa[e]);have M:x.1<=(Hf l).1:=this.1;have N:x.2<=(Hf l).2:=this.2;omega
 have A:∀c∈Ej l,run pt0 c=some pt0:=λc j=>(nh (K c j).1).1;have I:=ZB (B:=B) (F:=F) (Ej l) A (by rwa[y]);have⟨m,D⟩:=eB (B:=B) (F:=F) BS n (λc j=>⟨A c j,I c j⟩);refine⟨λx a=>⟨(m x a).1,(m x a).2.1,(m x a).2.2.1⟩,λj=>?_⟩;have f:=Wb j (λx a=>(m x a).1);refine⟨f,?_,?_,?_⟩
 .have:G7 xs<=B:=by
   unfold G7;rw[f];refine Yh _ _ _ (EH _) (λz o=>?_);obtain⟨x,a,rfl⟩:=BM.1 o;exact(m x a).2.2.2.1
  omega
 .have:Fg xs<=F:=by
   unfold Fg;rw[f];refine Yh _ _ _ (EH _) (λz o=>?_);obtain⟨x,a,rfl⟩:=BM.1 o;exact(m x a).2.2.2.2
  omega
 unfold Ei;rw[f];rwa[y]at D
def ZV{l:AP}{xs:Ek}(h:(Az l).1=0)(m:UpR (Ej l) xs)(a:∀x∈xs,Ba x)(j:(Am xs).1=0):
  G7 xs<=16/\Fg xs<=8/\Az (Ei xs)=(0,0)/\Hf (Ei xs)=hts (G7 xs) (Fg xs)/\UpR (Ej (Ei xs)) xs/\FT xs=(xs,0):=by have⟨_,o⟩:=UF h m;have⟨n,y,A,_⟩:=o j;have⟨t,z,_⟩:=cL h;have e:G7 xs<=16:=BS;have f:Fg xs<=8:=BS;have hu:=kS a j e f;rw[n]at hu;exact⟨e,f,YC a e f,Auy a,hu.1,hu.2⟩
def Gm(l:Ek):AP × Int:=if 0<(Am l).1 then([],1) else if 16<G7 l\/8<Fg l then([],2) else(Ei l,0)
def UO{l:Ek}(h:(Am l).1=0)(a:G7 l<=16)(e:Fg l<=8):Gm l=(Ei l,0):=by unfold Gm;rw[BQ BS,BQ BS]
theorem qX{l:Ek}(h:(Gm l).2=0):(Am l).1=0/\G7 l<=16/\Fg l<=8:=by
 unfold Gm at h;split at h
 .simp at h
 rename_i a;split at h
 .simp at h
 have:=(Qk l).1;exact⟨BS,BS,BS⟩
theorem Vr(h:i64 k):(Gh k).fits:=⟨h,by unfold i64;simp[Gh],xCv,λd hd=>by cases hd⟩
theorem cY{n:DK}(f:k=2\/k=3)(e:Ci n)(h:∀x∈Cf n,x.fits):∀x∈Dq k n,x.fits:=by
 intro x a;unfold Dq TD at a;split at a
 .rw[BB.1 a];exact⟨xCf,(Ea e).2.1⟩
 rcases BI.1 a with a|a
 .exact h x a
 rw[BB.1 a];exact Vr yCh
theorem Vn(n:DK):Ap n=0->Ci n->∀x∈Cf n,x.fits:=by
 refine Gp (λn=>Ap n=0->Ci n->∀x∈Cf n,x.fits) ?_ n;intro k e kids o t A x a;have f:=(G6 _ _ _).1 A;have j:=N8 t;simp only at j;rcases F8 t with⟨rfl,rfl⟩|⟨G,C,_⟩|⟨rfl,_,y,rfl,_⟩
 .rw[L6]at a;rw[BB.1 a];exact⟨xCf,f.2.1⟩
 .cases kids with|nil=>simp at C|cons y r=>rw[Jh e y r BS BS]at a;rcases BI.1 a with a|a;{exact o y BU (j y BU) (f.2.2.2 y BU) x a};have⟨l,D,E⟩:=List.mem_flatten.1 a;obtain⟨z,m,rfl⟩:=BM.1 D;exact cY BS (f.2.2.2 z (by simp[m])) (o z (by simp[m]) (j z (by simp[m])) (f.2.2.2 z (by simp[m]))) x E
 rw[L8]at a;rcases BI.1 a with a|a
 .exact o y BU (j y BU) (f.2.2.2 y BU) x a
 rw[BB.1 a];exact Vr yCh
theorem sE{n:DK}(h:Gu n)(f:Ci n):∀x∈Bc n,x.fits:=by
 intro x o;have⟨l,t,z⟩:=List.mem_flatten.1 o;obtain⟨y,a,rfl⟩:=BM.1 t;have e:Ap y=0/\Ci y:=by unfold Bv at a;split at a;{cases a};rename_i m;have j:=h.resolve_left m;split at a;{exact⟨N8 j.2.2 y a,(Ea f).2.2.2 y a⟩};rw[BB.1 a];exact⟨j.2.2,f⟩
 exact cY (.inl rfl) e.2 (Vn y e.1 e.2) x z
theorem sn(a:DL):Et a->Ba a->∀x∈Bz a,x.fits:=by
 refine Fz (λa=>Et a->Ba a->∀x∈Bz a,x.fits) ?_ a;intro n K kids E z A x f;have⟨_,o⟩:=(Ee _ _ _).1 z;have⟨_,_,C,_,m⟩:=(Ep _ _ _).1 A;rw[Wv]at f;rcases BI.1 f with f|f
 .obtain⟨c,t,rfl⟩:=BM.1 f;exact⟨xCf,C c t⟩
 have⟨l,H,e⟩:=List.mem_flatten.1 f;obtain⟨i,hi,rfl⟩:=List.mem_iff_getElem.1 H;simp only[List.length_mapIdx]at hi;simp only[List.getElem_mapIdx,H5,G2,FZ]at e;have j:=DY hi;rcases e with e|e|e
 .unfold En at e;split at e;{cases e};split at e;{rw[BB.1 e];exact Vr yCh};split at e<;>(rw[BB.1 e];exact Vr yCh)
 .have D:=o _ j;have G:=m _ j;generalize kids[i]=y at*;obtain⟨M,J,I⟩:=y;exact sE ((Ee _ _ _).1 D).1 ((Ep _ _ _).1 G).1 x e
 exact E _ j (o _ j) (m _ j) x e
theorem YE{l:Ek}(j:∀x∈l,Ba x):∀x∈Ei l,x.fits:=by
 intro x A;have⟨r,t,m⟩:=List.mem_flatten.1 A;obtain⟨a,e,rfl⟩:=BM.1 t;by_cases o:(Am l).1=0
 .have f:=(Oz j o).1 a e;have n:=(Kt j).1 a e;have z:=f.N;have y:=f.fineA;clear f;unfold Ed at m;rcases BI.1 m with h|h;{exact Vn _ z.2.2 (Io n).1 x h};rcases BI.1 h with h|h;{exact sn a y n x h};rw[BB.1 h];exact Vr yCh
 rw[show Ai l=[] by unfold Ai;rw[BQ o]]at e;cases e
end Stil
namespace Go.Proofs.YthdogflpbpkbeaaGreatDoor
open Tryz Go.ChangeShapes Go.WideShapes Go.ChangeAt Go.RowKit
variable {W:AU}{fuel:Nat}{v:AW}
def Bbe:prog.cellsOf 3=1:=BW
theorem lt_of_cell{b o:Nat}(h:W.cell? (AK b o)=some v):b<W.heap.size:=by
 unfold World.cell? at h;cases a:W.heap[b]? with
 |none=>simp[a]at h|some x=>exact(BF.1 a).1
open Go.Sort Go.BigFrame
open Stil
theorem TA{P:AY}:∀{l:List (String × DataW Unit)}{j:List MemPlace},DataW.LaidVars P W l j->∀{n:String}{d:DataW Unit},(n,d)∈l->
  ∃g t a fuel p,P.globalNamed n=some g/\(P.globals[g]?).map (·.type)=some t/\W.var? P n=some a/\DataW.trod (λ_=>()) P W 0 (λ_=>true) false fuel t a.toList=some (d,p)
 |[],_,_,_,_,f=>absurd f BU
 |(C,D)::r,j,⟨g,t,a,fuel,p,q,o,x,y,z,A,_⟩,n,d,f=>by
  rcases BD.1 f with e|m
  .obtain⟨rfl,rfl⟩:=gb e
   exact⟨g,t,a,fuel,p,o,x,y,z⟩
  .exact TA A m
def OP(k:Nat):DataW Unit:=.agg [.lit (.string (Q9 k).data.toList),.lit (.int .i64 (Jb k)),.lit (.bool (Zm k)),.lit (.bool (Qq k)),.lit (.bool (U4 k))]
def VL:prog.globalNamed "loop.example/stilway/impl.devRows" =some 2:=BW
def i9:(prog.globals[2]?).map (·.type)=some 253:=BW
def Bbd:prog.cellsOf 247=5:=BW
def PW:prog.cellsOf 4=1:=BW
def T9:prog.cellsOf 9=1:=BW
theorem fK{s:ByteArray}{b:ByteArray}(h:s.data.toList=b.data.toList):s=b:=by cases s;cases b;simp at h;rw[h]
theorem xl{cs:δ}{p:List MemPlace}(hv:W.var? prog "loop.example/stilway/impl.devRows" =some cs)
  (hd:DataW.trod (λ_=>()) prog W 0 (λ_=>true) false fuel 253 cs.toList=some (.agg ((List.range 14).map OP),p)):Eh W:=by
 have V:=λj=>World.var?_cell VL hv j;have⟨E,m,_,ex,ad,hl,ac⟩:=DataW.trod_array underlying253 hd;have X:=DataW.agg.inj (gb ex).1;have J:∀k:Nat,k<14->W.cell? (AK 2 (k*5))=some (.string (Q9 k))/\W.cell? (AK 2 (k*5+1))=some (AB (Jb k))/\W.cell? (AK 2 (k*5+2))=some (.bool (Zm k))/\W.cell? (AK 2 (k*5+3))=some (.bool (Qq k))/\W.cell? (AK 2 (k*5+4))=some (.bool (U4 k)):=by
  intro k O;have N:k<E.l:=BS;have M:=ac k O;rw[Bbd,FA N]at M;have Q:E[k].1=OP k:=by have:=congrArg (λl=>l[k]?) X;simp only[PD,FA N,MZ]at this;rw[FA (by simpa using O)]at this;simpa using(E1 this).symm
  have⟨z,n,_,Y,ae,aa,a⟩:=DataW.trod_struct underlying247 M;have G:z.map (·.1)=[.lit (.string (Q9 k).data.toList),.lit (.int .i64 (Jb k)),.lit (.bool (Zm k)),.lit (.bool (Qq k)),.lit (.bool (U4 k))]:=by have A:=congrArg Prod.fst Y;rw[Q,OP]at A;exact(DataW.agg.inj A).symm
  obtain⟨o,f,t,x,e,rfl⟩:∃o f t x e,z=[o,f,t,x,e]:=by match z,aa with|[o,f,t,x,e],_=>exact⟨_,_,_,_,_,rfl⟩
  simp only[DZ,FI,List.cons.injEq,Hj]at G;obtain⟨H,K,C,I,D⟩:=G;have g0:DataW.trod (λ_=>()) prog W 0 (λ_=>true) false n 9 (List.take 1 (List.drop 0 (List.take 5 (List.drop (k*5) cs.toList))))=some o:=by have h:DataW.trod (λ_=>()) prog W 0 (λ_=>true) false n 9 (List.take (prog.cellsOf 9) (List.drop 0 (List.take 5 (List.drop (k*5) cs.toList))))=some o:=a 0 _ rfl;rwa[T9]at h
  have T:DataW.trod (λ_=>()) prog W 0 (λ_=>true) false n 3 (List.take 1 (List.drop 1 (List.take 5 (List.drop (k*5) cs.toList))))=some f:=by have h:DataW.trod (λ_=>()) prog W 0 (λ_=>true) false n 3 (List.take (prog.cellsOf 3) (List.drop 1 (List.take 5 (List.drop (k*5) cs.toList))))=some f:=a 1 _ rfl;rwa[Bbe]at h
  have g2:DataW.trod (λ_=>()) prog W 0 (λ_=>true) false n 4 (List.take 1 (List.drop 2 (List.take 5 (List.drop (k*5) cs.toList))))=some t:=by have h:DataW.trod (λ_=>()) prog W 0 (λ_=>true) false n 4 (List.take (prog.cellsOf 4) (List.drop 2 (List.take 5 (List.drop (k*5) cs.toList))))=some t:=a 2 _ rfl;rwa[PW]at h
  have g3:DataW.trod (λ_=>()) prog W 0 (λ_=>true) false n 4 (List.take 1 (List.drop 3 (List.take 5 (List.drop (k*5) cs.toList))))=some x:=by have h:DataW.trod (λ_=>()) prog W 0 (λ_=>true) false n 4 (List.take (prog.cellsOf 4) (List.drop 3 (List.take 5 (List.drop (k*5) cs.toList))))=some x:=a 3 _ rfl;rwa[PW]at h
  have g4:DataW.trod (λ_=>()) prog W 0 (λ_=>true) false n 4 (List.take 1 (List.drop 4 (List.take 5 (List.drop (k*5) cs.toList))))=some e:=by have h:DataW.trod (λ_=>()) prog W 0 (λ_=>true) false n 4 (List.take (prog.cellsOf 4) (List.drop 4 (List.take 5 (List.drop (k*5) cs.toList))))=some e:=a 4 _ rfl;rwa[PW]at h
  have⟨s0,a0,b0,_⟩:=DataW.trod_string underlying9 g0;have⟨s1,a1,b1,_⟩:=DataW.trod_int underlying3 T;have⟨s2,Z,S⟩:=DataW.trod_bool underlying4 g2;have⟨s3,a3,R⟩:=DataW.trod_bool underlying4 g3;have⟨s4,a4,U⟩:=DataW.trod_bool underlying4 g4;subst b0 b1 S R U;simp only[DataW.lit.injEq,Lit.string.injEq,Lit.int.injEq,Lit.bool.injEq,true_and]at H K C I D;have ab:=fK H;subst ab K C I D;have y:∀(j:Nat)(v:AW),j<5->List.take 1 (List.drop j (List.take 5 (List.drop (k*5) cs.toList)))=[v]->W.cell? (AK 2 (k*5+j))=some v:=by intro j v hj h;rw[V];have:=congrArg (λl=>l[0]?) h;simpa[Bdj,Bdk,hj]using this
  exact⟨y 0 _ BS a0,y 1 _ BS a1,y 2 _ BS Z,y 3 _ BS a3,y 4 _ BS a4⟩
 refine⟨?_,J⟩;have:=(J 0 BS).1;exact lt_of_cell this
theorem vG{l:List (String × DataW Unit)}(h:laidMet prog l W)(j:("loop.example/stilway/impl.devRows",DataW.agg ((List.range 14).map OP))∈l):Eh W:=by obtain⟨x,n,_,_⟩:=h;have⟨g,t,o,fuel,p,e,f,m,a⟩:=TA n j;obtain rfl:=E1 (VL.symm.tr e);obtain rfl:=E1 (i9.symm.tr f);exact xl m a
def cU8:prog.cellsOf 5=1:=BW
def wf_u8{n:Int}(h:(Lit.int .u8 n).wf=true):0<=n/\n<256:=by have:=h;simp[Lit.wf,IntKind.min,IntKind.max,IntKind.signed,IntKind.bits]at this;omega
theorem uE{H:Type}{enc:AZ × AW->H}{x:DataW H × List MemPlace}(h:DataW.trod enc prog W 0 (λ_=>true) true fuel 22 [v]=some x):BytesAt W v:=by
 rcases Deep.open_slice underlying22 h with⟨l,_⟩|⟨a,len,cap,m,n,D,R,l,_,K,I,C,_,J⟩
 .obtain rfl:v=.slice none 0 0:=by simpa using l
  exact⟨none,0,0,rfl,DN _,BS,λi h=>absurd h BU⟩
 obtain rfl:v=.slice (some a) len cap:=by simpa using l
 have Q:len<=m:=by rw[C];split<;>omega
 have each:∀i,i<len->∃z:Int,W.c (a.add (i*1))=some (.int .u8 z)/\0<=z/\z<256:=by intro i hi;have⟨N,f,t⟩:=J i BS;rw[cU8]at f;have⟨_,O,E⟩:=World.cells?_some f;have⟨z,e,_,M⟩:=DataW.trod_int underlying5 t;have j:=E 0 BS;rw[Addr.add_add]at j;rw[e]at j;refine⟨z,xCn,wf_u8 M⟩
 obtain⟨b,o,sp⟩:=a;refine⟨_,len,cap,rfl,K,DU I BX,λi hi=>?_⟩;have⟨z,e,f⟩:=each i hi;have A:sp=none:=by have⟨y,G,_⟩:=each 0 BS;simpa[Addr.add]using World.cell?_spot G
 subst A;rw[Addr.add_lit,Nat.mul_one]at e;exact⟨b,o,z,rfl,lt_of_cell e,e,f⟩
