import Derived.Test.YtgnkpbhknkinoaaGreatDoorGy
import Derived.Test.YtgnkpbhknkinoaaGreatDoorGJ
import Derived.Test.YtgnkpbhknkinoaaGreatDoorGO
import Derived.Test.YtgnkpbhknkinoaaGreatDoorGL
set_option linter.defProp false
set_option maxHeartbeats 4000000
set_option maxRecDepth 100000
namespace Go.Proofs.YtgnkpbhknkinoaaGreatDoor
open Tryz Go.RowKit Go.Sort Go.BigFrame
section
variable {L g P:Nat}{w:AU}{bs:List Nat}{ts:List Nh}{i op:Int}{v u c d:AW}{p q r s b:Nat}
def StL.set4{o1 o2 o3 o4:Nat}{x1 x2 x3 x4:AW}(h:StL L g P w bs ts)(a:b∈bs):StL L g P ((((w.setCell (AK b o1) x1).setCell (AK b o2) x2).setCell (AK b o3) x3).setCell (AK b o4) x4) bs ts:=(((h.set a).set a).set a).set a
def StL.drop(h:StL L g P w (b::bs) ts):StL L g P w bs ts:=h.sub (λ_ h=>DY _ h) λ_ h=>h
def StL.un{x y:Nh}(h:StL L g P w bs (x::y::ts)):StL L g P w bs (x::ts):=h.sub (λ_ h=>h) λ_z a=>(BD.1 a).elim (λh=>h ▸ E1 ..) λh=>DY _ (DY _ h)
def StL.grew{k t:Nat}{cs:List AW}(h:StL L g P w bs ((k,s,cs)::ts))(a:s<=t):StL L g P w bs ((k,t,cs)::ts):=(h.add (y:=(k,t,cs)) λ_S hS=>(hS _ (E1 ..)).grew a).un
theorem StL.contact(h:StL L g P w bs ((2,q,[AB op,v])::ts))(hi:Sm i):StL L g P w bs ((4,1,[AB i,AB op,v,AG])::ts):=(h.add λ_S hS=>let ⟨a,e⟩:=(hS _ (E1 ..)).el;ClT.mkN hi a e (SlT.nil (s:=0)) Nat.one_pos).un
theorem StL.K(h:StL L g P w bs ((14,r,[u])::ts))(hi:Sm i)(hr:r<s):StL L g P w bs ((4,s,[AB i,AB 0,AG,u])::ts):=(h.add λS hS=>ClT.mkN hi BZ SlT.nil (ClT.sl (k:=4) (hS _ (E1 ..))) hr).un
end
section
variable {av kv:AW}{k op:Int}
def LV{p:Prop}(h:p):Hid p:=h
def G2(w:AU)(b:Nat)(k op:Int)(av kv:AW):Prop:=b<w.heap.size/\w.cell? (AK b 0)=some (AB k)/\w.cell? (AK b 1)=some (AB op)/\w.cell? (AK b 2)=some av/\w.cell? (AK b 3)=some kv/\w.frozen? (AK b 0)=false/\w.frozen? (AK b 1)=false/\w.frozen? (AK b 2)=false/\w.frozen? (AK b 3)=false
def C0{W:AU}{b:Nat}(h:G2 W b k op av kv:=by refine⟨CN,?_,?_,?_,?_,?_,?_,?_,?_⟩<;>first|(exact CU;done)|(repeat(first|with_reducible assumption|with_reducible refine L9.tr ?_|with_reducible refine Oz.tr ?_|with_reducible refine(Hl CN).tr ?_|(simp[go_sem];done)))):G2 W b k op av kv:=h
def G2.G{w w':AU}{b:Nat}{r:Option Nat}(h:G2 w b k op av kv)(hg:w.grownBy w' r)(hr:r≠some b):G2 w' b k op av kv:=by obtain⟨j,l,y,t,z,A,x,m,n⟩:=h;have a:∀o,w'.c (AK b o)=w.c (AK b o):=λo=>BE (hg.block b j λe=>hr e.symm);have f:∀o,w'.f (AK b o)=w.f (AK b o):=λo=>World.frozen?_of_block (hg.block b j λe=>hr e.symm);exact⟨DL j hg.size,(a 0).tr l,(a 1).tr y,(a 2).tr t,(a 3).tr z,(f 0).tr A,(f 1).tr x,(f 2).tr m,(f 3).tr n⟩
theorem Ob{w:AU}{base s n:Nat}{e:AZ}{v:AW}{xs:List AW}(h:w.ownsRow base e s v n xs):∃a c,v=AE a n c/\n<=c:=by
 rcases h.2 with⟨j,f⟩|⟨g,cap,cur,l,x,o,m,t⟩
 .exact⟨none,0,by rw[j,f],by rw[f];exact DK _⟩
 exact⟨_,cap,l,m⟩
def NtL(L g P N:Nat)(w:AU)(bs:List Nat)(ts:List Nh)(e:Ending)(w':AU):Prop:=∃i op a n c h f j,e=.returned (.agg #[AB i,AB op,AE a n c,AE h f j])/\StL L g P w' bs ((4,N,[AB i,AB op,AE a n c,AE h f j])::ts)/\w.grownBy w' (some g)
abbrev NtR:=NtL 50000
theorem ip(g P:Nat)(w:AU)(bs:List Nat)(ts:List Nh)(h:St g P w bs ts)(J:P<=100000000):
  Calls prog 80 #[AH g,AB 0] w (NtR g (P+50) 1 w bs ts):=by have K:=Jb h.rd;have hS:=h.box (.cells #[AB 0,AB 0,AG,AG] 56);clear h;go_enter func80,ntmps80;go_wp2_with(first|(go_at_call_of 10 (Value.int IntKind.i64 7);refine(Ew g _ _ _ ((hS).rd) BS BS BS).mo ?_;rintro e D⟨x,rfl,H,I,t,f⟩;have hS:=(hS).go t f;obtain⟨B,m,A,q1,F,l,z,j,E⟩:JB D w.heap.size:=JM;have G:=Eu (show w.grownBy _ (some g) from Br) f;clear t f)|(go_at_call 33;refine(Hr g _ _ (hS).rd BS).mo ?_;rintro e C y;obtain⟨op,a,n,c,rfl,hS,f⟩:=(hS).el y BZ;obtain⟨B,m,A,q1,F,l,z,j,E⟩:JB C w.heap.size:=JM;have G:=Eu (show w.grownBy _ (some g) from Br) f;clear y f));refine BH (by simp[results,results80,go_sem,m,q1,l,j];rfl) rfl ?_;exact⟨_,_,_,_,_,_,_,_,rfl,((hS.set4 Av).drop.contact BZ).mo BS,Br⟩
def K0:Nat->Nat
 |0=>50
 |m+1=>3*K0 m+50
def LU:Nat->Nat
 |0=>1
 |m+1=>3*LU m+1
theorem ik(c N:Nat)(d:Int)(hd:0<=d)(ih:∀(U:Int)(g P:Nat)(w:AU)(bs:List Nat)(ts:List Nh),U=d->St g P w bs ts->P+c<=100000000->Calls prog 80 #[AH g,AB U] w (NtR g (P+c) N w bs ts))
  (g P:Nat) (w:AU) (bs:List Nat) (ts:List Nh) (ar:d<=100) (h:St g P w bs ts) (hP:P+(3*c+50)<=100000000):
  Calls prog 80 #[AH g,AB (d+1)] w (NtR g (P+(3*c+50)) (3*N+1) w bs ts):=by
 have hg:=Jb h.rd;have ae:∀b∈bs,b<w.heap.size:=λb J=>(h.lt J).2;have IH:=BX ih;have hS:=h.box (.cells #[AB 0,AB 0,AG,AG] 56);have ao:decide (d+1<=0)=false:=xCl;clear h ih;go_enter func80,ntmps80;go_upto_if 37 with(first|(go_at_call_of 10 (Value.int IntKind.i64 7);refine(Ew g _ _ _ ((hS).rd) BS BS BS).mo ?_;rintro e F⟨k,rfl,ah,ap,E,f⟩;have hS:=(hS).go E f;obtain⟨A,m,D,q1,H,l,C,t,G⟩:JB F w.heap.size:=JM;have z:=Eu (show w.grownBy _ (some g) from Br) f;clear E f)|(go_at_call 33;refine(Hr g _ _ (hS).rd BS).mo ?_;rintro e wb ho;obtain⟨op,a,n,c,rfl,hS,f⟩:=(hS).el ho BZ;obtain⟨A,m,D,q1,H,l,C,t,G⟩:JB wb w.heap.size:=JM;have z:=Eu (show w.grownBy _ (some g) from Br) f;clear ho f)|(go_at_call 80;refine(IH _ g _ _ _ _ yCf hS BS).mo ?_;rintro e wd⟨i1,o1,a1,n1,c1,a2,n2,c2,rfl,hS,f⟩;obtain⟨A,m,D,q1,H,l,C,t,G⟩:JB wd w.heap.size:=JM;have z:=Eu (show w.grownBy _ (some g) from Br) f;clear f)|(go_at_call_of 10 (Value.int IntKind.i64 2);refine(Ew g _ _ _ ((hS.box _).rd) BS BS BS).mo ?_;rintro e wc⟨ai,rfl,ac,an,E,f⟩;have hS:=(hS.box _).go E f;obtain⟨A,m,D,q1,H,l,C,t,G⟩:JB wc w.heap.size:=JM;obtain⟨M,V,R,Y,K,T,X,S,O⟩:Da wc F.heap.size (AB (2+k % 2)) (AB 0) AG AG:=qb4;have z:=Eu (show w.grownBy _ (some g) from Br) f;clear E f)|(go_at_call_of 10 (Value.int IntKind.i64 8);refine(Ew g _ _ _ ((hS).rd) BS BS BS).mo ?_;rintro e we⟨al,rfl,A,M,E,f⟩;have hS:=(hS).go E f;obtain⟨A,m,D,q1,H,l,C,t,G⟩:JB we w.heap.size:=JM;obtain⟨M,V,R,Y,K,T,X,S,O⟩:Da we F.heap.size (AB (2+k % 2)) (AB 0) AG AG:=qb4;have z:=Eu (show w.grownBy _ (some g) from Br) f;clear E f))
 .refine BH (by simp[results,results80,go_sem,m,q1,l,t];rfl) rfl ?_;exact⟨_,_,_,_,_,_,_,_,rfl,(((hS.set4 Av).drop.contact BZ).mo BS).grew BS,Br⟩
 .refine BH (by simp[results,results80,go_sem,m,q1,l,t,A];rfl) rfl ?_;refine⟨_,_,_,_,_,_,_,_,rfl,?_,Br⟩;exact(((hS.set4 Av).lit1 #[AB i1,AB o1,AE a1 n1 c1,AE a2 n2 c2] 56 BZ rfl BU).drop.K BZ BS).mo BS
 go_cut [7] (λsm Z=>∃I:Nat,sm=AB I/\I<=3/\St g (P+3) Z (F.heap.size::w.heap.size::bs) ts/\w.grownBy Z (some g)/\G2 Z w.heap.size 0 0 AG AG/\G2 Z F.heap.size (2+k % 2) 0 AG AG);case first=>go_wp2;{go_meet;exact⟨1,rfl,BS,hS.mo BS,Br,C0,C0⟩};go_meet;obtain⟨yn,rfl⟩:=G4 ac;exact⟨2+yn,by go_num,BS,hS.mo BS,Br,C0,C0⟩
 case rest=>
  clear m q1 l t V Y T S D H C G R K X O hS z;obtain⟨I,rfl,ak,hS,z,x,y⟩:=hcut;go_wp2;go_loopw [8] (λi wr=>∃(j:Ge)(v:AW),j.length<=I/\i=AB j.length/\tot j<=j.length*N/\G2 wr w.heap.size 0 0 AG AG/\G2 wr F.heap.size (2+k % 2) 0 AG v/\wr.ownsRow (F.heap.size+1) 56 4 v j.length (flat j)/\St g (P+3+j.length*c) wr (ob v++F.heap.size::w.heap.size::bs) (rowT 4 j++ts)/\w.grownBy wr (some g)) (λi _=>I - (intOf i).toNat);case atStart=>exact⟨[],_,BU,rfl,EI _,x,y,BJ _ _ _ _,hS.mo BS,z⟩
  case round=>obtain⟨j,v,hj,rfl,af,x,y,B,hS,z⟩:=hrel;have⟨A,m,q1,l,t,D,H,C,G⟩:=id x;have⟨M,V,Y,T,S,R,K,X,O⟩:=id y;obtain⟨aj,au,rfl,-⟩:=Ob B;by_cases ag:j.length<I;{have aa:(j.length+1)*c<=3*c:=J1 c BS;rw[Ix]at aa;go_upto_region 13 with fail;go_region_law(first|(refine Gf rfl rfl (StL.push _ kd4 hS B BS BS) rfl rfl ?_;rintro v' w6⟨ab,ad,aC,-⟩;obtain⟨qU,qG,rfl,-⟩:=Ob ab;have x:=(G2.G x aC (λe=>by have:=(B.lt _ e).1;omega));have y:=(G2.G y aC (λe=>by have:=(B.lt _ e).1;omega));have⟨A,m,q1,l,t,D,H,C,G⟩:=id x;have⟨M,V,Y,T,S,R,K,X,O⟩:=id y)|(go_simp;go_at_call 80;refine(IH _ g _ _ _ _ yCf hS.drew BS).mo ?_;rintro e w5⟨i1,o1,a1,n1,c1,a2,n2,c2,rfl,hS,Q⟩;have f:wr.grownBy w5 (some g):=⟨Q.os,Q.tape,Q.output,Q.size,Q.block⟩;have B:=Gi B f BS;have x:=x.G f Bw;have y:=y.G f Bw;have⟨A,m,q1,l,t,D,H,C,G⟩:=id x;have⟨M,V,Y,T,S,R,K,X,O⟩:=id y));(all_goals go_wp2);all_goals refine⟨⟨_,_,?_,?_,?_,C0,C0,ownsRow_setCell_below (by rwa[DT]) (EO _) _,(ad.set BU).mo ?_,OD (EL BS) (JE (Eu z f) aC (λk hk=>by have:=(B.lt _ hk).1;omega)) _⟩,?_⟩;{simp;omega};{simp};{simp only[tot,D2,KB,DT,DX,FD,FK,MU,DO,DU,Nat.add_mul]at af⊢;omega};{simp only[DT,DO,DU,Nat.add_mul];omega};simp[intOf];omega};go_wp2;have aa:j.length*c<=3*c:=J1 c BS;have aw:j.length*N<=3*N:=J1 N BS;refine BH (by simp[results,results80,go_sem,m,q1,l,t];rfl) rfl ?_;refine⟨_,_,_,_,_,_,_,_,rfl,?_,Br⟩;have hI:=hS.ice (s:=3*N) B (λb J=>by simp only[EK]at J;rcases J with rfl|rfl|J;omega;omega;have:=ae b J;omega) BS BS;exact((hI.drop.set4 Av).drop.K BS BS).mo BS
theorem ij(m:Nat):∀(d:Int)(g P:Nat)(w:AU)(bs:List Nat)(ts:List Nh),m<=100->d=m->St g P w bs ts->P+K0 m<=100000000->Calls prog 80 #[AH g,AB d] w (NtR g (P+K0 m) (LU m) w bs ts):=by
 have e:∀m,K0 (m+1)=3*K0 m+50:=λ_=>rfl;have f:∀m,LU (m+1)=3*LU m+1:=λ_=>rfl;induction m with
 |zero=>intro d g P w bs ts _ hd h a;obtain rfl:d=0:=hd;exact ip g P w bs ts h (DR (Nat.le_add_right _ _) a)
 |succ m n=>intro d g P w bs ts l hd h a;obtain rfl:d=(m:Int)+1:=hd;rw[e]at a⊢;rw[f];exact ik _ _ _ (Int.natCast_nonneg m) (λj g P w bs ts hd=>n j g P w bs ts (Nat.le_of_succ_le l) hd) g P w bs ts BS h a
theorem yq(n g P:Nat)(w:AU)(bs:List Nat)(ts:List Nh)(hn:n<=300)(h:St g P w bs ts)(hP:P<=100000000):
  Calls prog 43 #[AH g,AB n] w (NtR g (P+6020) 700 w bs ts):=by
 have hg:=Jb h.rd;have hS:=h.box (.cells #[AB 0,AB 0,AG,AG] 56);clear h;go_enter func43,ntmps43;go_wp2_with(go_at_call 33;refine(Hr g _ _ (hS).rd BS).mo ?_;rintro e G C;obtain⟨op,aa,na,V,rfl,hS,y⟩:=(hS).el C BZ;obtain⟨N,F,M,q1,S,E,I,D,R⟩:JB G w.heap.size:=JM;have hG:=Eu (show w.grownBy _ (some g) from Br) y;clear C y);go_loopw [6] (λi wr=>∃(j:Nat)(f o1:Int)(l:Option Ab)(A B:Nat)(z:Option Ab)(m x:Nat),1<=j/\(j<=n\/j=1)/\i=AB j/\G2 wr w.heap.size 0 0 AG AG/\G2 wr G.heap.size f o1 (AE l A B) (AE z m x)/\St g (P+20*j) wr (G.heap.size::w.heap.size::bs) ((4,2*j,[AB f,AB o1,AE l A B,AE z m x])::ts)/\w.grownBy wr (some g)) (λi _=>n - (intOf i).toNat);case atStart=>exact⟨1,1,op,aa,na,V,none,0,0,DK _,BS,rfl,C0,C0,(((hS.box _).contact BZ).grew BZ).mo BS,Br⟩
 case round=>obtain⟨j,f,o1,l,A,B,z,m,x,ae,ad,rfl,J,Q,hS,hG⟩:=hrel;have⟨N,F,q1,E,D,M,S,I,R⟩:=id J;have⟨U,q4,q5,Y,X,p4,p5,p6,p7⟩:=id Q;have ac:j<=300:=BS;by_cases ab:j<n;{go_upto_region 5 with fail;go_region_with(go_at_call 33;refine(Hr g _ _ hS.drew.rd BS).mo ?_;rintro e H C;obtain⟨o2,K,O,T,rfl,hS,t⟩:=hS.drew.el C BZ;have y:wr.grownBy H (some g):=⟨t.os,t.tape,t.output,t.size,t.block⟩;have⟨N,F,q1,E,D,M,S,I,R⟩:=J.G y Bw;have⟨U,q4,q5,Y,X,p4,p5,p6,p7⟩:=Q.G y Bw);(all_goals go_wp2);all_goals have Z:Sm (2+(j:Int) % 2):=BS;have hL:=λx1 x2 x3 x4=>(((hS.contact (i:=1) BZ).set4 (o1:=0) (o2:=1) (o3:=2) (o4:=3) (x1:=x1) (x2:=x2) (x3:=x3) (x4:=x4) Av).lit (s:=2*j+1) (n:=H.heap.size) [(1,[AB 1,AB o2,AE K O T,AG]),(2*j,[AB f,AB o1,AE l A B,AE z m x])] #[AB 1,AB o2,AE K O T,AG,AB f,AB o1,AE l A B,AE z m x] 56 BZ BU rfl (by simp[tot];omega) BU BU).un.un.K (s:=2*(j+1)) Z BS;exact⟨⟨j+1,2+(j:Int) % 2,0,none,0,0,some (AL H 0),2,2,BS,BS,by go_num,C0,C0,(hL _ _ _ _).mo BS,Br⟩,EX⟩};go_wp2;refine BH (by simp[results,results43,go_sem,F,q1,E,D];rfl) rfl ?_;exact⟨_,_,_,_,_,_,_,_,rfl,(((hS.set4 (Ax Av)).drop.drop).mo BS).grew BS,Br⟩
end
section
variable {av cv kv nv:AW}{k op:Int}
def G3(w:World)(b:Nat)(k op:Int)(av nv cv kv:Value):Prop:=b<w.heap.size/\w.cell? ⟨b,0,none⟩=some (.int .i64 k)/\w.cell? ⟨b,1,none⟩=some (.int .i64 op)/\w.cell? ⟨b,2,none⟩=some av/\w.cell? ⟨b,3,none⟩=some nv/\w.cell? ⟨b,4,none⟩=some cv/\w.cell? ⟨b,5,none⟩=some kv/\w.frozen? ⟨b,0,none⟩=false/\w.frozen? ⟨b,1,none⟩=false/\w.frozen? ⟨b,2,none⟩=false/\w.frozen? ⟨b,3,none⟩=false/\w.frozen? ⟨b,4,none⟩=false/\w.frozen? ⟨b,5,none⟩=false
def CO{W:World}{b:Nat}(h:G3 W b k op av nv cv kv:=by refine⟨CN,?_,?_,?_,?_,?_,?_,?_,?_,?_,?_,?_,?_⟩<;>first|(exact CU;done)|(repeat(first|with_reducible assumption|with_reducible refine L9.trans ?_|with_reducible refine Oz.trans ?_|with_reducible refine(Hl CN).trans ?_|(simp[go_sem];done)))):G3 W b k op av nv cv kv:=h
theorem G3.G{w w':AU}{b:Nat}{r:Option Nat}(h:G3 w b k op av nv cv kv)(hg:w.grownBy w' r)(hr:r≠some b):G3 w' b k op av nv cv kv:=by
 obtain⟨j,l⟩:=h;have e:w'.heap[b]?=w.heap[b]?:=hg.block b j (λx=>hr x.symm);have f:∀o,w'.cell? (AK b o)=w.cell? (AK b o):=λo=>by unfold World.cell?;rw[e]
 have a:∀o,w'.frozen? (AK b o)=w.frozen? (AK b o):=λo=>by unfold World.frozen?;rw[e]
 refine⟨DL j hg.size,?_⟩;rwa[f,f,f,f,f,f,a,a,a,a,a,a]
section
variable {L g P:Nat}{w:AU}{bs:List Nat}{ts:List Nh}{i op:Int}{v u c d:AW}{p q r s b:Nat}
def StL.set6{o1 o2 o3 o4 o5 o6:Nat}{x1 x2 x3 x4 x5 x6:AW}(h:StL L g P w bs ts)(a:b∈bs):StL L g P ((((((w.setCell (AK b o1) x1).setCell (AK b o2) x2).setCell (AK b o3) x3).setCell (AK b o4) x4).setCell (AK b o5) x5).setCell (AK b o6) x6) bs ts:=((h.set4 a).set a).set a
def StL.A (h:StL L g P w bs ((16,r,[d])::(4,p,[AB i,AB op,v,u])::(12,q,[c])::ts))(m:p+q+r<s):StL L g P w bs ((6,s,[AB i,AB op,v,u,c,d])::ts):=(h.add (y:=(6,s,_)) λS hS=>by
 have⟨t,e,f,l,j,a⟩:=(hS (4,p,[AB i,AB op,v,u]) (Ax Av)).nt;replace a:t<p:=a;show ClT S 6 s [AB i,AB op,v,u,c,d]
 exact ClT.mkA e f l j (show SlT S 2 q c from ClT.sl (hS (12,q,[c]) (Ax (Ax Av)))) (show SlT S 6 r d from ClT.sl (hS (16,r,[d]) Av)) BS).un.un.un
end
def ArL(L g P N:Nat)(w:AU)(bs:List Nat)(ts:List Nh)(e:Ending)(w':AU):Prop:=∃i op a n c m h t x j o y l f,e=.returned (.agg #[AB i,AB op,AE a n c,AE m h t,AE x j o,AE y l f])/\StL L g P w' bs ((6,N,[AB i,AB op,AE a n c,AE m h t,AE x j o,AE y l f])::ts)/\w.grownBy w' (some g)
abbrev ArR:=ArL 50000
def KF:Nat->Nat
 |0=>1000
 |m+1=>3*KF m+1000
def LW:Nat->Nat
 |0=>20
 |m+1=>3*LW m+20
def AcT(w e:AU)(g Q:Nat)(bs:List Nat)(ts:List Nh)(m:Nat):Prop:=∃(i op:Int)(l:Option Ab)(h o:Nat)(n:Option Ab)(f j:Nat)(a:Ge)(v:AW),G3 e w.heap.size 0 0 AG AG AG AG/\G3 e (w.heap.size+1) i op (AE l h o) (AE n f j) v AG/\e.ownsRow (w.heap.size+2) 53 2 v a.length (flat a)/\(a=[]->v=AG)/\a.length<=m/\tot a<=m/\St g Q e (ob v++(w.heap.size+1)::w.heap.size::bs) (rowT 2 a++(4,13,[AB i,AB op,AE l h o,AE n f j])::ts)/\w.grownBy e (some g)
def AkT(w e:AU)(g Q:Nat)(bs:List Nat)(ts:List Nh)(m N:Nat):Prop:=∃(i op:Int)(x:Option Ab)(t y:Nat)(o:Option Ab)(l n:Nat)(j:Option Ab)(f h:Nat)(a:Ge)(v:AW),G3 e w.heap.size 0 0 AG AG AG AG/\G3 e (w.heap.size+1) i op (AE x t y) (AE o l n) (AE j f h) v/\e.ownsRow (w.heap.size+2) 59 6 v a.length (flat a)/\(f=0->j=none/\h=0)/\a.length<=m/\tot a<=m*N/\St g Q e (ob v++(w.heap.size+1)::w.heap.size::bs) (rowT 6 a++(4,13,[AB i,AB op,AE x t y,AE o l n])::(12,2,[AE j f h])::ts)/\w.grownBy e (some g)
theorem AkT.mono{w e:AU}{g Q R:Nat}{bs:List Nat}{ts:List Nh}{m n N:Nat}(h:AkT w e g Q bs ts m N)(j:Q<=R)(a:m<=n):AkT w e g R bs ts n N:=by obtain⟨i,op,t,H,K,F,A,C,x,D,I,f,v,z,o,G,J,y,l,B,E⟩:=h;exact⟨i,op,t,H,K,F,A,C,x,D,I,f,v,z,o,G,J,DR y a,DR l (J1 _ a),B.mo j,E⟩
abbrev AkT.mo:=@AkT.mono
def zAa{p:Prop}(h:p:=by go_wp2;refine BH (by simp[results,results45,go_sem,q0,q1,q2,q3,q4,q5];rfl) rfl ?_;exact⟨_,_,_,_,_,_,_,_,_,_,_,_,_,_,rfl,hfin _ (P+740+3*C) 2 _ _ _ BS BS (hS.set6 (Ax Av)),Br⟩):p:=h
theorem dO(C N:Nat)(d:Int)(aK:0<=d)(aN:d<=100)(ih:0<d->∀(d':Int)(root:Bool)(g P:Nat)(w:World)(bs:List Nat)(ts:List Nh),d'=d - 1->St g P w bs ts->P+C<=100000000->Calls prog 45 #[.pointer (some ⟨g,0,none⟩),.int .i64 d',.bool root] w (ArR g (P+C) N w bs ts))
  (root:Bool) (g P:Nat) (w:World) (bs:List Nat) (ts:List Nh) (h:St g P w bs ts) (hP:P+(3*C+1000)<=100000000):
  Calls prog 45 #[.pointer (some ⟨g,0,none⟩),.int .i64 d,.bool root] w (ArR g (P+(3*C+1000)) (3*N+20) w bs ts):=by
 have hg:=Jb h.rd;have aw:∀b∈(w.heap.size+1)::w.heap.size::bs,b<w.heap.size+2:=λb hb=>by simp only[EK]at hb;rcases hb with rfl|rfl|hb;{omega};{omega};have:=(h.lt hb).2;omega
 have IH:Hid (0<d->∀(d':Int)(root:Bool)(g P:Nat)(w:World)(bs:List Nat)(ts:List Nh),d'=d - 1->St g P w bs ts->P+C<=100000000->Calls prog 45 #[.pointer (some ⟨g,0,none⟩),.int .i64 d',.bool root] w (ArR g (P+C) N w bs ts)):=ih;have ao:=(h.box (.cells #[.int .i64 0,.int .i64 0,.slice none 0 0,.slice none 0 0,.slice none 0 0,.slice none 0 0] 59)).box (.cells #[.int .i64 0,.int .i64 0,.slice none 0 0,.slice none 0 0,.slice none 0 0,.slice none 0 0] 59);have hS:St g P ((w.alloc (.cells #[.int .i64 0,.int .i64 0,.slice none 0 0,.slice none 0 0,.slice none 0 0,.slice none 0 0] 59)).alloc (.cells #[.int .i64 0,.int .i64 0,.slice none 0 0,.slice none 0 0,.slice none 0 0,.slice none 0 0] 59)) ((w.heap.size+1)::w.heap.size::bs) ts:=by rw[World.size_alloc]at ao;exact ao
 clear h ih ao;go_enter func45,ntmps45;go_upto_region 2 with fail;go_cut [16] (λc wq=>∃b:Bool,c=.bool b/\St g (P+1) wq ((w.heap.size+1)::w.heap.size::bs) ts/\w.grownBy wq (some g)/\G3 wq w.heap.size 0 0 (.slice none 0 0) (.slice none 0 0) (.slice none 0 0) (.slice none 0 0)/\G3 wq (w.heap.size+1) 0 0 (.slice none 0 0) (.slice none 0 0) (.slice none 0 0) (.slice none 0 0));case first=>cases root;{go_wp2_with (go_at_call_of 10 (Value.int IntKind.i64 3);refine(Ew g _ _ _ ((hS).rd) BS BS BS).mono ?_;rintro e wa⟨x,rfl,ak,ax,ai,m⟩;have hS:=(hS).go ai m;obtain⟨ab,q0,T,q1,Y,q2,Q,q3,X,q4,U,q5,R⟩:IW wa w.heap.size:=I6;obtain⟨ae,q6,p6,q7,p7,Z,p8,q9,p9,S,aa,V,ac⟩:IW wa ((w.heap.size+1)):=I6;have t:=Eu (show w.grownBy _ (some g) from Br) m;clear ai m);go_meet;exact⟨decide (0<x),rfl,hS,t,CO,CO⟩};go_wp2;go_meet;exact⟨true,rfl,hS.mono BS,Br,CO,CO⟩
 case rest=>
  clear hS;obtain⟨b,rfl,hS,t,⟨ab,q0,q1,q2,q3,q4,q5,T,Y,Q,X,U,R⟩,⟨ae,q6,q7,Z,q9,S,V,p6,p7,p8,p9,aa,ac⟩⟩:=hcut;have aG:K0 2=650:=rfl;have bZ:LU 2=13:=rfl;go_upto_if 16 with fail;go_cut [] (λwq=>AcT w wq g (P+651) bs ts 0);case first=>go_wp2_with(go_at_call 80;refine(ij 2 _ g _ _ _ _ BS rfl hS BS).mono ?_;rintro e wb⟨I,z,G,A,J,F,B,H,rfl,hS,m⟩;obtain⟨ab,q0,T,q1,Y,q2,Q,q3,X,q4,U,q5,R⟩:IW wb w.heap.size:=I6;obtain⟨ae,q6,p6,q7,p7,Z,p8,q9,p9,S,aa,V,ac⟩:IW wb ((w.heap.size+1)):=I6;have t:=Eu (show w.grownBy _ (some g) from Br) m;clear m);{go_meet;exact⟨I,z,G,A,J,F,B,H,[],_,CO,CO,World.ownsRow_nil _ _ _ _,λ_=>rfl,DK _,DK _,((hS.set4 (.head _)).mono BS),Br⟩};go_meet;exact⟨0,0,none,0,0,none,0,0,[],_,CO,CO,World.ownsRow_nil _ _ _ _,λ_=>rfl,DK _,DK _,(hS.add (y:=(4,13,_)) λaL _=>ClT.mkN BZ BZ SlT.nil (SlT.nil (s:=0)) BZ).mono BS,Br⟩
  case rest=>
   clear q0 q1 q2 q3 q4 q5 q6 q7 Z q9 S V T Y Q X U R p6 p7 p8 p9 aa ac hS t;go_wp2_with(go_at_call 10;obtain⟨I,z,G,A,J,F,B,H,css,v,l,f,n,ah,af,ad,hS,t⟩:=hcut;refine(Ew g _ _ _ hS.rd BS BS BS).mono ?_;rintro e w3⟨x,rfl,ak,ax,bU,aU⟩);obtain⟨x2,rX⟩:=G4 ak;subst rX;have aE:x2<=2:=BS;have an:AcT w w3 g (P+652+40*(2 - x2)) bs ts (2 - x2):=⟨I,z,G,A,J,F,B,H,css,v,l.G aU Bw,f.G aU Bw,Gi n aU BS,ah,BS,BS,(hS.go bU aU).mono BS,Eu t aU⟩;clear l f n ah af ad hS t bU;go_loopw [8] (λi wr=>∃j:Nat,j<=2/\i=.int .i64 j/\AcT w wr g (P+652+40*(2 - j)) bs ts (2 - j)) (λi _=>(intOf i).toNat);case atStart=>exact⟨x2,aE,rfl,an⟩
   case round=>
    clear an;obtain⟨j,hj,rfl,I,z,G,A,J,F,B,H,css,v,l,f,n,ah,af,ad,hS,t⟩:=hrel;obtain⟨ab,q0,q1,q2,q3,q4,q5,T,Y,Q,X,U,R⟩:=id l;obtain⟨ae,q6,q7,Z,q9,S,V,p6,p7,p8,p9,aa,ac⟩:=id f;obtain⟨K,O,rfl,an⟩:=Ob n;by_cases aD:0<j;{have rC:=LV ah;clear ah;go_upto_region 7 with fail;go_region_law(first|(refine Gf rfl rfl (StL.push _ kd2 hS n BS BS) rfl rfl ?_;rintro v' w6⟨ag,al,aC,-⟩;obtain⟨qU,qG,rfl,-⟩:=Ob ag;have l:=l.G aC (λe=>by have:=(n.lt _ e).1;omega);have f:=f.G aC (λe=>by have:=(n.lt _ e).1;omega);obtain⟨ab,q0,q1,q2,q3,q4,q5,T,Y,Q,X,U,R⟩:=id l;obtain⟨ae,q6,q7,Z,q9,S,V,p6,p7,p8,p9,aa,ac⟩:=id f)|(go_simp;go_at_call 34;refine(Ql g _ _ hS.drew.rd BS).mono ?_;rintro e w5 ho;obtain⟨o3,a4,n4,c4,rfl,hS,D⟩:=hS.drew.el ho BZ;have m:wr.grownBy w5 (some g):=⟨D.os,D.tape,D.output,D.size,D.block⟩;have n:=Gi n m BS;have l:=l.G m Bw;have f:=f.G m Bw;obtain⟨ab,q0,q1,q2,q3,q4,q5,T,Y,Q,X,U,R⟩:=id l;obtain⟨ae,q6,q7,Z,q9,S,V,p6,p7,p8,p9,aa,ac⟩:=id f));(all_goals go_wp2);all_goals obtain⟨jj,rfl⟩:∃jj,j=jj+1:=⟨j - 1,BS⟩;refine⟨⟨jj,BS,by go_num,I,z,G,A,J,F,B,H,_,.slice qU (css.length+1) qG,CO,CO,ownsRow_setCell_below (by rw[DT];exact ag) (EO _) _,λh=>absurd h BU,?_,?_,(al.set BU).mono BS,OD BU (JE (Eu t m) aC (λk hk=>by have:=(n.lt _ hk).1;omega)) _⟩,by simp[intOf]⟩;{simp;omega};simp only[tot,D2,KB,DX,FD,FK,MU]at ad⊢;omega};have rC:=LV ah;have hI:=(hS.ice (s:=2) n aw BS BS);(have hS:St g (P+732) wr ((w.heap.size+1)::w.heap.size::bs) ((4,13,[.int .i64 I,.int .i64 z,.slice G A J,.slice F B H])::(12,2,[.slice K css.length O])::ts):=(hI.sub (λ_ h=>h) (λx hx=>by simp only[EK]at hx⊢;rcases hx with h|h|h;exact .inr (.inl h);exact .inl h;exact .inr (.inr h))).mono BS;have M:css.length=0->K=none/\O=0:=λe=>by have:=rC (List.length_eq_zero_iff.1 e);rw[e]at this;cases this;exact⟨rfl,rfl⟩);obtain⟨E,aA⟩:∃E,E=css.length:=⟨_,rfl⟩;rw[<-aA]at hS M f S an;have aj:AkT w wr g (P+732) bs ts 0 N:=⟨I,z,G,A,J,F,B,H,K,E,O,[],_,l,f,World.ownsRow_nil _ _ _ _,M,DK _,EI _,hS,t⟩;clear ah rC hI n af ad aA l f hS t M an q0 q1 q2 q3 q4 q5 q6 q7 Z q9 S V T Y Q X U R p6 p7 p8 p9 aa ac ab ae;go_upto_region 8 with fail;go_cut [39] (λc wq=>∃b:Bool,c=.bool b/\(b=true->0<d)/\AkT w wq g (P+733) bs ts 0 N);case first=>by_cases ap:0<d;{obtain⟨I,z,G,A,J,F,B,H,K,E,O,css,v,l,f,n,M,af,ad,hS,t⟩:=aj;obtain⟨ab,q0,q1,q2,q3,q4,q5,T,Y,Q,X,U,R⟩:=id l;go_wp2_with(go_at_call 10;refine(Ew g _ _ _ hS.rd BS BS BS).mono ?_;rintro e wk⟨x,rfl,ak,ax,ai,m⟩);go_meet;exact⟨x==0,rfl,λ_=>ap,I,z,G,A,J,F,B,H,K,E,O,css,v,l.G m Bw,f.G m Bw,Gi n m BS,M,af,ad,(hS.go ai m).mono BS,Eu t m⟩};go_wp2;go_meet;exact⟨false,rfl,λh=>CQ,aj.mono BS (DK _)⟩
    case rest=>
     clear aj;obtain⟨b,rfl,ay,au⟩:=hcut;go_upto_if 39 with fail;go_cut [] (λwq=>AkT w wq g (P+740+3*C) bs ts 3 N);case first=>
      cases b;{go_wp2;go_meet;exact au.mono BS BS};have ap:=ay rfl;go_wp2_with(go_at_call 10;obtain⟨I,z,G,A,J,F,B,H,K,E,O,css,v,l,f,n,M,af,ad,hS,t⟩:=au;refine(Ew g _ _ _ hS.rd BS BS BS).mono ?_;rintro e wk⟨x,rfl,ak,ax,ai,m⟩);obtain⟨x2,rX⟩:=G4 ak;subst rX;have aj:AkT w wk g (P+740+0*C) bs ts 0 N:=⟨I,z,G,A,J,F,B,H,K,E,O,css,v,l.G m Bw,f.G m Bw,Gi n m BS,M,af,ad,(hS.go ai m).mono BS,Eu t m⟩;clear l f n M af ad hS t ai m;go_loopw [9] (λi wr=>∃j k:Nat,k+j=1+x2/\i=.int .i64 j/\AkT w wr g (P+740+k*C) bs ts k N) (λi _=>(intOf i).toNat);case atStart=>exact⟨1+x2,0,BS,by go_num,aj⟩
      case round=>clear aj;obtain⟨j,k,aF,rfl,I,z,G,A,J,F,B,H,K,E,O,css,v,l,f,n,M,af,ad,hS,t⟩:=hrel;have az:k*C<=3*C:=J1 _ BS;obtain⟨ab,q0,q1,q2,q3,q4,q5,T,Y,Q,X,U,R⟩:=id l;obtain⟨ae,q6,q7,Z,q9,S,V,p6,p7,p8,p9,aa,ac⟩:=id f;obtain⟨a4,c4,rfl,-⟩:=Ob n;by_cases aD:0<j;{have az:(k+1)*C<=3*C:=J1 _ BS;rw[Ix]at az;have ja:=LV M;clear M;go_upto_region 12 with fail;go_region_law(first|(refine Gf rfl rfl (StL.push _ kd6 hS n BS BS) rfl rfl ?_;rintro v' w6⟨ag,al,aC,-⟩;obtain⟨qU,qG,rfl,-⟩:=Ob ag;have l:=l.G aC (λe=>by have:=(n.lt _ e).1;omega);have f:=f.G aC (λe=>by have:=(n.lt _ e).1;omega);obtain⟨ab,q0,q1,q2,q3,q4,q5,T,Y,Q,X,U,R⟩:=id l;obtain⟨ae,q6,q7,Z,q9,S,V,p6,p7,p8,p9,aa,ac⟩:=id f)|(go_simp;go_at_call 45;refine(IH ap _ _ g _ _ _ _ yCf hS.drew BS).mono ?_;rintro e w5⟨i5,o5,b1,m1,d1,b2,m2,d2,b3,m3,d3,b4,m4,d4,rfl,hS,D⟩;have m:wr.grownBy w5 (some g):=⟨D.os,D.tape,D.output,D.size,D.block⟩;have n:=Gi n m BS;have l:=l.G m Bw;have f:=f.G m Bw;obtain⟨ab,q0,q1,q2,q3,q4,q5,T,Y,Q,X,U,R⟩:=id l;obtain⟨ae,q6,q7,Z,q9,S,V,p6,p7,p8,p9,aa,ac⟩:=id f));(all_goals go_wp2);all_goals refine⟨⟨j - 1,k+1,BS,by go_num,I,z,G,A,J,F,B,H,K,E,O,_,.slice qU (css.length+1) qG,CO,CO,ownsRow_setCell_below (by rw[DT];exact ag) (EO _) _,ja.out,?_,?_,(al.set BU).mono (by rw[Ix];omega),OD BU (JE (Eu t m) aC (λk hk=>by have:=(n.lt _ hk).1;omega)) _⟩,EX⟩;{simp;omega};simp only[tot,D2,KB,DX,FD,FK,MU,Ix]at ad⊢;omega};have aO:k*N<=3*N:=J1 _ BS;go_wp2;go_meet;exact⟨I,z,G,A,J,F,B,H,K,E,O,css,_,l,f,n,M,BS,BS,hS.mono BS,t⟩
     case rest=>clear au ay;obtain⟨I,z,G,A,J,F,B,H,K,E,O,css,v,l,f,n,M,af,ad,hS,t⟩:=hcut;obtain⟨ab,q0,q1,q2,q3,q4,q5,T,Y,Q,X,U,R⟩:=id l;obtain⟨ae,q6,q7,Z,q9,S,V,p6,p7,p8,p9,aa,ac⟩:=id f;obtain⟨a4,c4,rfl,-⟩:=Ob n;replace hS:=hS.ice (s:=3*N) n aw BS BS;obtain⟨n4,aB⟩:∃n4,n4=css.length:=⟨_,rfl⟩;rw[<-aB]at f hS V;clear n af ad aB css;have hfin:∀(W:World)(ar q:Nat)(K:Option Addr)(E O:Nat),ar<=P+(3*C+1000)->q<=2->St g ar W ((w.heap.size+1)::w.heap.size::bs) ((16,3*N,[.slice a4 n4 c4])::(4,13,[.int .i64 I,.int .i64 z,.slice G A J,.slice F B H])::(12,q,[.slice K E O])::ts)->St g (P+(3*C+1000)) W bs ((6,3*N+20,[.int .i64 I,.int .i64 z,.slice G A J,.slice F B H,.slice K E O,.slice a4 n4 c4])::ts):=λW ar q K E O hQ hq h=>((h.drop.drop).A BS).mono hQ;by_cases h3:E=0;{obtain⟨e1,e2⟩:=M h3;clear M;subst h3 e1 e2;by_cases h4:n4=0;{subst h4;go_upto_region 14 with fail;go_region_law(first|(refine Gf rfl rfl (StL.push (css:=[]) (v:=.slice none 0 0) (bs:=(w.heap.size+1)::w.heap.size::bs) _ kd2 hS (World.ownsRow_nil _ (w.heap.size+2) _ _) BS BU) rfl rfl ?_;rintro v' w6⟨ag,al,aC,-⟩;obtain⟨qU,qG,rfl,-⟩:=Ob ag;have l:=l.G aC yEc;have f:=f.G aC yEc;obtain⟨ab,q0,q1,q2,q3,q4,q5,T,Y,Q,X,U,R⟩:=id l;obtain⟨ae,q6,q7,Z,q9,S,V,p6,p7,p8,p9,aa,ac⟩:=id f)|(go_simp;go_at_call 34;refine(Ql g _ _ hS.drew.rd BS).mono ?_;rintro e w5 ho;obtain⟨o3,a5,n5,c5,rfl,hS,D⟩:=hS.drew.el ho BZ;have m:wc.grownBy w5 (some g):=⟨D.os,D.tape,D.output,D.size,D.block⟩;have l:=l.G m Bw;have f:=f.G m Bw;obtain⟨ab,q0,q1,q2,q3,q4,q5,T,Y,Q,X,U,R⟩:=id l;obtain⟨ae,q6,q7,Z,q9,S,V,p6,p7,p8,p9,aa,ac⟩:=id f));(all_goals go_wp2);all_goals have hI:=StL.ice (s:=1) al ag aw (by simp[tot]) BU;refine bodyPost_ret (by simp[results,results45,go_sem,q0,q1,q2,q3,q4,q5];rfl) rfl ?_;have aI:w.grownBy w6 (some g):=JE (Eu t m) aC (λk hk=>by simp[Value.ownBlock]at hk);refine⟨_,_,_,_,_,_,_,_,_,_,_,_,_,_,rfl,hfin _ _ 1 _ _ _ BS BS (((hI.set (.head _)).set6 (.tail _ (.head _))).sub (λ_ h=>h) (λx hx=>?_)),Br⟩;simp only[EK]at hx⊢;rcases hx with h|h|h|h;{exact .inr (.inl h)};{exact .inr (.inr (.inl h))};{exact .inl h};exact .inr (.inr (.inr (.inr h)))};have aM:((n4:Int)==0)=false:=(by rw[DV];omega);exact zAa};have aJ:((E:Int)==0)=false:=(by rw[DV];omega);exact zAa
theorem iq(m:Nat):∀(d:Int)(root:Bool)(g P:Nat)(w:AU)(bs:List Nat)(ts:List Nh),m<=100->d=m->St g P w bs ts->P+KF (m+1)<=100000000->Calls prog 45 #[AH g,AB d,.bool root] w (ArR g (P+KF (m+1)) (LW (m+1)) w bs ts):=by have e:∀m,KF (m+1)=3*KF m+1000:=λ_=>rfl;have f:∀m,LW (m+1)=3*LW m+20:=λ_=>rfl;induction m with|zero=>intro d root g P w bs ts _ hd h a;rw[e]at a⊢;rw[f];exact dO _ _ d BS BS (λh=>by omega) root g P w bs ts h a|succ m j=>intro d root g P w bs ts l hd h a;rw[e]at a⊢;rw[f];exact dO _ _ d BS BS (λ_ d root g P w bs ts hd=>j d root g P w bs ts BS BS) root g P w bs ts h a
end
def He(w:AU):Prop:=1<w.heap.size/\∀k:Nat,k<12->w.cell? (AK 1 k)=some (.string ⟨(Stil.listWords.getD k []).toArray⟩)
def He.below{w w':AU}(h:He w)(a:AO w w'):He w':=
 ⟨DL h.1 a.size,λk e=>by rw[a.cell (p:=(AK 1 k)) h.1];exact h.2 k e⟩
def sP(c:Int)(w:AU)(h:c<0\/12<=c):
  Calls prog 185 #[AB c] w λe a=>e=.returned (.string ⟨#[]⟩)/\a=w:=by go_enter func185,ntmps185;go_wp2;all_goals first|(exfalso;omega)|(go_ret;exact⟨rfl,rfl⟩)
def Au3(k:Nat)(w:AU)(a:He w)(h:k<12):
  Calls prog 185 #[AB k] w λe j=>e=.returned (.string ⟨(Stil.listWords.getD k []).toArray⟩)/\j=w:=by have l:=a.2 k h;obtain⟨s,f⟩:∃s:ByteArray,s=⟨(Stil.listWords.getD k []).toArray⟩:=⟨_,rfl⟩;rw[<-f]at l⊢;clear f a;go_enter func185,ntmps185;go_wp2;go_ret;exact⟨rfl,rfl⟩
section
open Stil
def kh(i:Stil.Aw)(av:AW)(w:AU)(hr:Ee w)(M:He w)(E:Ar w av i.O.args)(D:i.fits):
  Calls prog 173 #[.agg #[AB i.code,AB i.O.op,av]] w (AN w (.bool (Ju i))):=by
 obtain⟨c,op,j⟩:=i;simp only at E D⊢;have Q:j.length<=1048576:=D.2.2.1;have z:=BX (λW(A:AO w W)=>XA op av j W (hr.below A) (E.below A) D.2.2.2 BS);have y:=BX (λW(A:AO w W)=>ZI op av j W (hr.below A) (E.below A) D.2.2.2 BS);have l:=BX (λW(A:AO w W)(k:Nat)(S:k<12)=>Au3 k W (M.below A) S);have f:Hid (Ju ⟨c,op,j⟩=if c<1\/11<c then false else if c<=3 then Dc op j else if c=10 then F7 op j else(op==0 && j.length==0)):=rfl;obtain⟨T,O,rfl,_⟩:=E;have⟨R,H⟩:=AA (Ju ⟨c,op,j⟩);obtain⟨q1,G⟩:∃q,q=Dc op j:=⟨_,rfl⟩;obtain⟨U,I⟩:∃q,q=F7 op j:=⟨_,rfl⟩;have⟨C,J⟩:=AA j.length;rw[<-H]at f⊢;rw[<-G]at f z;rw[<-I]at f y;rw[<-J]at f z y Q⊢;have o:Hid (∀W,Calls prog 164 #[.agg #[AB op,AE T C O]] W (AN W (.bool (op==0 && C==0)))):=λW=>P2 _ _ _ _ _ BS;clear H G I D J hr M;by_cases K:c<0\/11<c
 .have a:Hid (R=false):=by show _=_;rw[f.out,BR BS]
  have Y:(c==1)=false:=xAf;have X:(c==2)=false:=xAf;have V:(c==3)=false:=xAf;have Z:(c==10)=false:=xAf;have N:Hid (c<0\/12<=c):=by show _\/_;omega
  clear f z y l K;go_enter func173,ntmps173;go_wp2_with(go_at_call 185;refine(sP _ _ N.out).mo ?_;rintro e m⟨rfl,rfl⟩);go_ret;exact⟨Ad a.symm,BV⟩
 have F:c=0\/c=1\/c=2\/c=3\/c=10\/c=4\/c=5\/c=6\/c=7\/c=8\/c=9\/c=11:=by omega
 clear K;rcases F with rfl|rfl|rfl|rfl|rfl|F
 .have a:Hid (R=false):=by show _=_;rw[f.out,BR BS]
  clear f z y o;go_enter func173,ntmps173;go_wp2_with(go_at_call 185;refine(l _ BV 0 BS).mo ?_;rintro e m⟨rfl,rfl⟩;simp only[Stil.listWords,List.getD_cons_zero]);go_ret;exact⟨Ad a.symm,BV⟩
 iterate 3
  .have a:Hid (R=q1):=by show _=_;rw[f.out,BQ BS,BR BS]
   clear f l y o;go_enter func173,ntmps173
   go_wp2_with(go_at_call 184;refine(z _ BV).mo ?_;rintro e m⟨rfl,x⟩)
   go_ret;exact⟨Ad a.symm,BV⟩
 .have a:Hid (R=U):=by show _=_;rw[f.out,BQ BS,BQ BS,BR rfl]
  clear f l z o;go_enter func173,ntmps173;go_wp2_with(go_at_call 180;refine(y _ BV).mo ?_;rintro e m⟨rfl,x⟩);go_ret;exact⟨Ad a.symm,BV⟩
 have a:Hid (R=(op==0 && C==0)):=by show _=_;rw[f.out,BQ BS,BQ BS,BQ BS]
 clear f z y;rcases F with rfl|rfl|rfl|rfl|rfl|rfl|rfl
 .go_enter func173,ntmps173;go_wp2_with(first|(go_at_call 185;refine(l _ BV 4 BS).mo ?_;rintro e m⟨rfl,rfl⟩;simp only[Stil.listWords,List.getD_cons_succ,List.getD_cons_zero])|(go_at_call 164;refine(o _).mo ?_;rintro e B⟨rfl,x⟩));go_ret;exact⟨Ad a.symm,BV⟩
 .go_enter func173,ntmps173;go_wp2_with(first|(go_at_call 185;refine(l _ BV 5 BS).mo ?_;rintro e m⟨rfl,rfl⟩;simp only[Stil.listWords,List.getD_cons_succ,List.getD_cons_zero])|(go_at_call 164;refine(o _).mo ?_;rintro e B⟨rfl,x⟩));go_ret;exact⟨Ad a.symm,BV⟩
 .go_enter func173,ntmps173;go_wp2_with(first|(go_at_call 185;refine(l _ BV 6 BS).mo ?_;rintro e m⟨rfl,rfl⟩;simp only[Stil.listWords,List.getD_cons_succ,List.getD_cons_zero])|(go_at_call 164;refine(o _).mo ?_;rintro e B⟨rfl,x⟩));go_ret;exact⟨Ad a.symm,BV⟩
 .go_enter func173,ntmps173;go_wp2_with(first|(go_at_call 185;refine(l _ BV 7 BS).mo ?_;rintro e m⟨rfl,rfl⟩;simp only[Stil.listWords,List.getD_cons_succ,List.getD_cons_zero])|(go_at_call 164;refine(o _).mo ?_;rintro e B⟨rfl,x⟩));go_ret;exact⟨Ad a.symm,BV⟩
 .go_enter func173,ntmps173;go_wp2_with(first|(go_at_call 185;refine(l _ BV 8 BS).mo ?_;rintro e m⟨rfl,rfl⟩;simp only[Stil.listWords,List.getD_cons_succ,List.getD_cons_zero])|(go_at_call 164;refine(o _).mo ?_;rintro e B⟨rfl,x⟩));go_ret;exact⟨Ad a.symm,BV⟩
 .go_enter func173,ntmps173;go_wp2_with(first|(go_at_call 185;refine(l _ BV 9 BS).mo ?_;rintro e m⟨rfl,rfl⟩;simp only[Stil.listWords,List.getD_cons_succ,List.getD_cons_zero])|(go_at_call 164;refine(o _).mo ?_;rintro e B⟨rfl,x⟩));go_ret;exact⟨Ad a.symm,BV⟩
 go_enter func173,ntmps173;go_wp2_with(first|(go_at_call 185;refine(l _ BV 11 BS).mo ?_;rintro e m⟨rfl,rfl⟩;simp only[Stil.listWords,List.getD_cons_succ,List.getD_cons_zero])|(go_at_call 164;refine(o _).mo ?_;rintro e B⟨rfl,x⟩));go_ret;exact⟨Ad a.symm,BV⟩
def nG(b f:Int)(m a:Bool)(i:Stil.Aw)(av:AW)(w:AU)(hr:Ee w)(t:He w)(o:Ar w av i.O.args)(x:i.fits):
  Calls prog 143 #[.agg #[AB b,AB f,.bool m,.bool a],.agg #[AB i.code,AB i.O.op,av]] w (AN w (.bool (Stil.rule 0 ⟨b,f,m,a⟩ i))):=by have z:=BX (λW(l:AO w W)=>kh i av W (hr.below l) (t.below l) (o.below l) x);have y:Hid (Stil.rule 0 ⟨b,f,m,a⟩ i=!Ju i):=rfl;obtain⟨D,A,rfl,_⟩:=o;clear hr t x;go_enter func143,ntmps143;go_wp2_with(go_at_call 173;refine(z _ BV).mo ?_;rintro e B⟨rfl,C⟩);go_ret;exact⟨Ad y.symm,BV⟩
def vY(c:Int)(w:AU):
  Calls prog 174 #[AB c] w λe f=>e=.returned (AB (Stil.needs c))/\f=w:=by
 have⟨R,a⟩:=AA (Stil.needs c);have h:=BX a;rw[<-a];clear a;go_enter func174,ntmps174;go_wp2;all_goals go_ret
 all_goals refine⟨Fg ?_,rfl⟩
 all_goals(rw[h.out];go_light;(try simp only[E0,DV] at*);simp[Stil.needs, *];try omega)
def nF(b f:Int)(j a:Bool)(i:Stil.Aw)(p:Option Ab)(n cap:Nat)(w:AU):
  Calls prog 144 #[.agg #[AB b,AB f,.bool j,.bool a],.agg #[AB i.code,AB i.O.op,AE p n cap]] w (AN w (.bool (Stil.rule 1 ⟨b,f,j,a⟩ i))):=by
 obtain⟨c,op,z⟩:=i;simp only;have⟨R,l⟩:=AA (Stil.rule 1 ⟨b,f,j,a⟩ ⟨c,op,z⟩);have x:Hid (R=decide (b<Stil.needs c)):=l;have⟨t,o⟩:=AA (Stil.needs c);have y:Hid (∀W,Calls prog 174 #[AB c] W λe m=>e=.returned (AB t)/\m=W):=by rw[o];exact λW=>vY c W
 rw[<-o]at x;rw[<-l];clear l o;cases j<;>cases a
 all_goals (
  go_enter func144,ntmps144
  go_upto_region 1 with fail
  go_region_with(go_at_call 174;refine(y _).mo ?_;rintro e A⟨rfl,rfl⟩)
  all_goals(try go_wp2)
  all_goals go_ret
  all_goals refine⟨Ad ?_,BV⟩
  all_goals (rw[x.out]))
def nE(b f:Int)(j a:Bool)(i:Stil.Aw)(p:Option Ab)(n cap:Nat)(w:AU):
  Calls prog 145 #[.agg #[AB b,AB f,.bool j,.bool a],.agg #[AB i.code,AB i.O.op,AE p n cap]] w (AN w (.bool (Stil.rule 2 ⟨b,f,j,a⟩ i))):=by
 obtain⟨c,op,m⟩:=i;simp only;have⟨R,l⟩:=AA (Stil.rule 2 ⟨b,f,j,a⟩ ⟨c,op,m⟩);have t:=BX l;rw[<-l];clear l;cases j<;>cases a
 all_goals (
  go_enter func145,ntmps145
  go_wp2
  all_goals go_ret
  all_goals refine⟨Ad ?_,BV⟩
  all_goals (rw[t.out];go_light;(try simp only[E0,DV] at*);rw[E6];simp[Stil.rule, *];try omega))
def nB(b f:Int)(j a:Bool)(i:Stil.Aw)(p:Option Ab)(n cap:Nat)(w:AU):
  Calls prog 146 #[.agg #[AB b,AB f,.bool j,.bool a],.agg #[AB i.code,AB i.O.op,AE p n cap]] w (AN w (.bool (Stil.rule 3 ⟨b,f,j,a⟩ i))):=by
 obtain⟨c,op,m⟩:=i;simp only;have⟨R,l⟩:=AA (Stil.rule 3 ⟨b,f,j,a⟩ ⟨c,op,m⟩);have t:=BX l;rw[<-l];clear l;cases j<;>cases a
 all_goals (
  go_enter func146,ntmps146
  go_wp2
  all_goals go_ret
  all_goals refine⟨Ad ?_,BV⟩
  all_goals (rw[t.out];go_light;(try simp only[E0,DV] at*);rw[E6];simp[Stil.rule, *];try omega))
def nA(b f:Int)(j a:Bool)(i:Stil.Aw)(p:Option Ab)(n cap:Nat)(w:AU):
  Calls prog 147 #[.agg #[AB b,AB f,.bool j,.bool a],.agg #[AB i.code,AB i.O.op,AE p n cap]] w (AN w (.bool (Stil.rule 4 ⟨b,f,j,a⟩ i))):=by
 obtain⟨c,op,m⟩:=i;simp only;have⟨R,l⟩:=AA (Stil.rule 4 ⟨b,f,j,a⟩ ⟨c,op,m⟩);have t:=BX l;rw[<-l];clear l;cases j<;>cases a
 all_goals (
  go_enter func147,ntmps147
  go_wp2
  all_goals go_ret
  all_goals refine⟨Ad ?_,BV⟩
  all_goals (rw[t.out];go_light;(try simp only[E0,DV] at*);rw[E6];simp[Stil.rule, *];try omega))
def m9(b f:Int)(j a:Bool)(i:Stil.Aw)(p:Option Ab)(n cap:Nat)(w:AU):
  Calls prog 148 #[.agg #[AB b,AB f,.bool j,.bool a],.agg #[AB i.code,AB i.O.op,AE p n cap]] w (AN w (.bool (Stil.rule 5 ⟨b,f,j,a⟩ i))):=by
 obtain⟨c,op,m⟩:=i;simp only;have⟨R,l⟩:=AA (Stil.rule 5 ⟨b,f,j,a⟩ ⟨c,op,m⟩);have t:=BX l;rw[<-l];clear l;cases j<;>cases a
 all_goals (
  go_enter func148,ntmps148
  go_wp2
  all_goals go_ret
  all_goals refine⟨Ad ?_,BV⟩
  all_goals (rw[t.out];go_light;(try simp only[E0,DV] at*);rw[E6];simp[Stil.rule, *];try omega))
def m8(b f:Int)(j a:Bool)(i:Stil.Aw)(p:Option Ab)(n cap:Nat)(w:AU):
  Calls prog 149 #[.agg #[AB b,AB f,.bool j,.bool a],.agg #[AB i.code,AB i.O.op,AE p n cap]] w (AN w (.bool (Stil.rule 6 ⟨b,f,j,a⟩ i))):=by
 obtain⟨c,op,m⟩:=i;simp only;have⟨R,l⟩:=AA (Stil.rule 6 ⟨b,f,j,a⟩ ⟨c,op,m⟩);have t:=BX l;rw[<-l];clear l;cases j<;>cases a
 all_goals (
  go_enter func149,ntmps149
  go_wp2
  all_goals go_ret
  all_goals refine⟨Ad ?_,BV⟩
  all_goals (rw[t.out];go_light;(try simp only[E0,DV] at*);rw[E6];simp[Stil.rule, *];try omega))
end
open Stil
def Azk(s:Stil.Pt)(c:Int)(w:AU)(g:s.good):
  Calls prog 111 #[.agg #[AB s.bits,AB s.forks,.bool s.seen,.bool s.coil],AB c] w (AN w (.agg #[AB (Stil.behind s c).bits,AB (Stil.behind s c).forks,.bool (Stil.behind s c).seen,.bool (Stil.behind s c).coil])):=by
 obtain⟨b,f,a,j⟩:=s;obtain⟨z,F,B,D,_⟩:=g;simp only at z F B D⊢;have t:Hid (∀W,Calls prog 150 #[.agg #[AB b,AB f],AB c] W (AN W (.agg #[AB (Stil.behind ⟨b,f,a,j⟩ c).bits,AB (Stil.behind ⟨b,f,a,j⟩ c).forks]))):=λW=>Auy b f c W BS BS BS BS;have E:Hid ((Stil.behind ⟨b,f,a,j⟩ c).seen=(decide (c≠11) && (a || c==10 || c==7))):=rfl;have o:Hid ((Stil.behind ⟨b,f,a,j⟩ c).coil=(c==10)):=rfl;obtain⟨x,A⟩:∃x:Int,x=(Stil.behind ⟨b,f,a,j⟩ c).bits:=⟨_,rfl⟩;obtain⟨y,C⟩:∃y:Int,y=(Stil.behind ⟨b,f,a,j⟩ c).forks:=⟨_,rfl⟩;rw[<-A,<-C]at t⊢;obtain⟨u,hu⟩:∃u:Bool,u=(Stil.behind ⟨b,f,a,j⟩ c).seen:=⟨_,rfl⟩;obtain⟨v,m⟩:∃v:Bool,v=(Stil.behind ⟨b,f,a,j⟩ c).coil:=⟨_,rfl⟩;rw[<-hu]at E⊢;rw[<-m]at o⊢;clear A C hu m z F B D;cases a
 all_goals (
  go_enter func111,ntmps111
  go_wp2_with (go_at_call 150;refine(t _).mono ?_;rintro e H ⟨rfl,G⟩;have K:w.heap.size<H.heap.size:=DL DC G.size;have⟨I,J⟩:=F8 G))
 all_goals refine BH (by simp[results,results111,go_sem,I];rfl) rfl ⟨?_,BV⟩
 all_goals(rw[E.out,o.out];go_light;(try simp only[E0,DV,bne_iff_ne,bne_eq_false_iff_eq] at*);simp[*])
def JX(k:Nat):Nat:=[143,144,145,146,147,148,149].getD k 0
def U9(w:AU)(g:Nat):Prop:=g<w.heap.size/\∀k:Nat,k<7->w.cell? (AK g (k*2))=some (AB (k+2:Nat))/\w.cell? (AK g (k*2+1))=some (.func (.func (JX k)) #[] #[])
def U9.below{w w':AU}{g:Nat}(h:U9 w g)(a:AO w w'):U9 w' g:=
 ⟨DL h.1 a.size,λk e=>⟨(a.cell (p:=(AK g (k*2))) h.1).tr (h.2 k e).1,(a.cell (p:=(AK g (k*2+1))) h.1).tr (h.2 k e).2⟩⟩
def wJ(w:AU):Calls prog 110 #[] w λe a=>∃g,e=.returned (AE (some (AK g 0)) 7 7)/\U9 a g/\AO w a:=by go_enter func110,ntmps110;go_wp2;go_ret;refine⟨w.z,rfl,⟨BU,λk j=>?_⟩,BV⟩;have f:k=0\/k=1\/k=2\/k=3\/k=4\/k=5\/k=6:=BS;rcases f with rfl|rfl|rfl|rfl|rfl|rfl|rfl;all_goals simp[go_sem,JX]
def rY(w:AU):Calls prog 83 #[.nilIface] w (AN w (.agg #[AB 0,AB 0])):=by go_enter func83,ntmps83;go_wp2;refine BH (v:=.agg #[AB 0,AB 0]) (by simp[results,results83,go_sem]) rfl ⟨rfl,BV⟩
def Aux(c k:Int)(w:AU):Calls prog 83 #[.iface 44 (.agg #[AB c,AB k])] w (AN w (.agg #[AB c,AB k])):=by
 have f:∀(v:AW)(w:AU),(Instr.typeAssert (.iface 44 v) 20 44 false).run prog w=.ok v w:=λ_ _=>by kernel_rfl
 go_enter func83,ntmps83;go_wp2;refine BH (v:=.agg #[AB c,AB k]) (by simp[results,results83,go_sem]) rfl ⟨rfl,BV⟩
def endOf(R:Int × Nat):Ending:=if 0<R.1 then .panicked [{v:=.iface 44 (.agg #[AB R.1,AB R.2]),recovered:=false}] else .returned (.tuple #[])
def Atx(s:Stil.Pt)(x:Stil.Aw)(p:Option Ab)(cap:Nat)(w:AU)(hr:Ee w)(j:He w)(m:Ar w (AE p x.O.args.length cap) x.O.args)(l:x.fits)(k:Nat)(n:k<7):
  Calls prog (JX k) #[.agg #[AB s.bits,AB s.forks,.bool s.seen,.bool s.coil],.agg #[AB x.code,AB x.O.op,AE p x.O.args.length cap]] w (AN w (.bool (Stil.rule k s x))):=by
 have f:k=0\/k=1\/k=2\/k=3\/k=4\/k=5\/k=6:=BS;rcases f with rfl|rfl|rfl|rfl|rfl|rfl|rfl
 .exact nG s.bits s.forks s.seen s.coil x _ w hr j m l
 .exact nF s.bits s.forks s.seen s.coil x _ _ _ w
 .exact nE s.bits s.forks s.seen s.coil x _ _ _ w
 .exact nB s.bits s.forks s.seen s.coil x _ _ _ w
 .exact nA s.bits s.forks s.seen s.coil x _ _ _ w
 .exact m9 s.bits s.forks s.seen s.coil x _ _ _ w
 exact m8 s.bits s.forks s.seen s.coil x _ _ _ w
def dz(k:Nat)(e:k<7)(args:Array AW)(W:AU):Sem.run prog (callFunc (JX k) args) W=.ok (.enter (JX k) args) W:=by
 have a:k=0\/k=1\/k=2\/k=3\/k=4\/k=5\/k=6:=BS;rcases a with rfl|rfl|rfl|rfl|rfl|rfl|rfl
 .exact(show Sem.run prog (callFunc 143 args) W=.ok (.enter 143 args) W by kernel_rfl)
 .exact(show Sem.run prog (callFunc 144 args) W=.ok (.enter 144 args) W by kernel_rfl)
 .exact(show Sem.run prog (callFunc 145 args) W=.ok (.enter 145 args) W by kernel_rfl)
 .exact(show Sem.run prog (callFunc 146 args) W=.ok (.enter 146 args) W by kernel_rfl)
 .exact(show Sem.run prog (callFunc 147 args) W=.ok (.enter 147 args) W by kernel_rfl)
 .exact(show Sem.run prog (callFunc 148 args) W=.ok (.enter 148 args) W by kernel_rfl)
 exact(show Sem.run prog (callFunc 149 args) W=.ok (.enter 149 args) W by kernel_rfl)
def U9.set{w:AU}{g b o:Nat}(h:U9 w g)(a:g≠b)(v:AW):U9 (w.setCell (AK b o) v) g:=
 ⟨DL h.1 (Jh _ _ _),λk e=>⟨(Ea a).tr (h.2 k e).1,(Ea a).tr (h.2 k e).2⟩⟩
def Azg(l:List Stil.Aw)(v:AW)(w:AU)(hr:Ee w)(hw:He w)(ax:Gn w v l)(hl:l.length<=1048576)(aj:∀x∈l,x.fits):
  Calls prog 84 #[v] w λe B=>e=endOf (Be l)/\AO w B:=by
 have HF:=BX aj;have ay:Hid (∀W,AO w W->Ee W/\He W):=λW h=>⟨hr.below h,hw.below h⟩;obtain⟨a,cap,rfl,hc⟩:=ax;have HC:=BX hc;have⟨z,I⟩:=AA l.length;have dN:=BX I;have J:Hid (Be l=if 1000<z then(1,0) else Fz Stil.pt0 0 l):=by show _=_;rw[I];rfl
 rw[<-I]at hl⊢;have⟨R,hR⟩:=AA (Be l);rw[<-hR]at J⊢;clear hc aj I hR hr hw;by_cases h1:1000<z
 .have t:Hid (R=(1,0)):=by show _=_;rw[J.out,BR h1]
  go_enter func84,ntmps84;go_wp2;exact⟨rfl,by rw[t.out];rfl,BP _ _⟩
 have t:Hid (R=Fz Stil.pt0 0 l):=by show _=_;rw[J.out,BQ h1]
 clear J;go_enter func84,ntmps84;go_wp2_with(go_at_call 110;refine(wJ _).mono ?_;rintro e F⟨g,rfl,D,af⟩);go_loopw [16] (λi wr=>∃(j:Nat)(s:Stil.Pt),j<=z/\i=AB j/\s.good/\R=Fz s j (l.drop j)/\GU wr F.heap.size s/\U9 wr g/\AO w wr) (λi _=>z - (intOf i).toNat);case atStart=>refine⟨0,Stil.pt0,BS,rfl,JZ,by rw[t.out];rfl,?_,?_,?_⟩;{refine⟨BU,?_,?_,?_,?_,?_,?_,?_,?_⟩;all_goals simp[go_sem,Stil.pt0]};{exact D.below (Aa _ _)};exact BV
 case round=>
  have aH:g<F.heap.size:=D.1;have N:w.heap.size<=F.heap.size:=af.size;clear t D af;obtain⟨j,s,hj,rfl,hg,ak,ac,D,y⟩:=hrel;have U:=BX ak;have E:=BX hg;have ag:=BX ac;have al:=BX D;clear ak hg;by_cases aF:j<z
  .have ab:j<l.length:=(by have:=dN.out;omega);(obtain⟨b,o,rfl,aD,hn⟩:=HC j ab;have⟨x0,x1,mD,x2,ad⟩:=hn.below y aD;have X:Hid (R=if 0<Stil.wrong s l[j] then(Stil.wrong s l[j],j) else Fz (Stil.next s l[j].code) (j+1) (l.drop (j+1))):=by show _=_;rw[U.out,VC l s j ab]);have T:Hid (∀p cap,mD=.slice p l[j].O.args.length cap->∀k,k<7->∀W,AO wr W->Calls prog (JX k) #[.agg #[AB s.bits,AB s.forks,.bool s.seen,.bool s.coil],.agg #[AB l[j].code,AB l[j].O.op,.slice p l[j].O.args.length cap]] W (AN W (.bool (Stil.rule k s l[j])))):=(by intro p cap hk k C W hW;subst hk;have h2:=ay W (y.trans (hW.mono y.size));exact Atx s l[j] p cap W h2.1 h2.2 (ad.below hW) (HF _ (DW ab)) k C);have⟨x,hx⟩:=AA (l[j]);rw[<-hx]at X T x0 x1 ad;obtain⟨G,H,rfl,_⟩:=ad;have an:=T G H rfl;have ao:=BX an;clear hx hn U T an ac D;obtain⟨f,aA⟩:∃f:AU,f=wr:=⟨wr,rfl⟩;subst aA;go_wp2;go_loopw [23] (λi2 wr=>∃k:Nat,k<=7/\i2=AB k/\(∀q,q<k->Stil.rule q s x=false)/\Below (f.heap.size+1) (f.alloc (.cells #[AB x.code,AB x.O.op,AE G x.O.args.length H] 77)) wr) (λi _=>7 - (intOf i).toNat);case atStart=>exact⟨0,BS,rfl,λq h=>absurd h BS,by simpa using BP _ _⟩
   case round=>(obtain⟨k,hk,rfl,ai,A⟩:=hrel;have jY:=BX ai;have m:AO f wr:=(Aa _ _).trans (A.mono BS);have⟨ar,p0,p1,p2,p3,z0,z1,z2,z3⟩:=ag.below m;have hz:f.heap.size<wr.heap.size:=by have:=A.size;simp at this;omega);have c0:wr.cell? (AL f 0)=some (AB x.code):=B0 A;have f0:wr.frozen? (AL f 0)=false:=B1 A;have c1:wr.cell? (AL f 1)=some (AB x.O.op):=B0 A;have f1:wr.frozen? (AL f 1)=false:=B1 A;have c2:wr.cell? (AL f 2)=some (AE G x.O.args.length H):=B0 A;have f2:wr.frozen? (AL f 2)=false:=B1 A;clear ai;by_cases C:k<7;{have⟨aG,ae⟩:=al.below m;have⟨m0,m1⟩:=ae k C;have Y:=BX (ao k C);have⟨O,Z⟩:=AA (Stil.rule k s x);rw[<-Z]at Y;have qX:=BX Z.symm;clear ae Z;cases O;{have aE:=dz k C;go_wp2_with(refine(Y _ (m.trans ((Aa _ _).mono m.size))).mono ?_;rintro e w4⟨rfl,K⟩);(have iR:Hid (∀q,q<k+1->Stil.rule q s x=false):=λq hq=>if h:q=k then by rw[h];exact qX else jY q BS);exact⟨⟨k+1,BS,by go_num,iR.out,A.trans (((Aa _ _).trans (K.mono BU)).mono hz)⟩,EX⟩};have aE:=dz k C;have t:Hid (R=((k:Int)+2,j)):=(by have az:=vL E k C jY qX.out;show _=_;rw[X.out,az,BR BS];simp);go_wp2_with(refine(Y _ (m.trans ((Aa _ _).mono m.size))).mono ?_;rintro e w4⟨rfl,K⟩;have v0:w4.cell? (AL wr 0)=some (AB ((k:Int)+2)):=(B0 K));refine⟨rfl,?_,y.trans ((m.trans (((Aa _ _).trans (K.mono BU)).mono m.size)).mono y.size)⟩;rw[t.out];unfold endOf;rw[BR (by show(0:Int)<(k:Int)+2;omega)]};(obtain rfl:k=7:=by omega);have M:Stil.wrong s x=0:=ya E jY.out;have t:Hid (R=Fz (Stil.next s x.code) (j+1) (l.drop (j+1))):=(by show _=_;rw[X.out,M,BQ BS]);have ap:Hid (Stil.next s x.code).good:=Vp E M;have aw:Hid (∀W,Calls prog 111 #[.agg #[AB s.bits,AB s.forks,.bool s.seen,.bool s.coil],AB x.code] W (AN W (.agg #[AB (Stil.next s x.code).bits,AB (Stil.next s x.code).forks,.bool (Stil.next s x.code).seen,.bool (Stil.next s x.code).coil]))):=(by intro W;have:=Azk s x.code W E.out;rwa [Stil.behind_next E.out M]at this);clear M;go_wp2_with(go_at_call 111;refine(aw _).mono ?_;rintro e V⟨rfl,aa⟩;have aB:GU V F.heap.size s:=(ag.below m).below aa;obtain⟨lq,g0,g1,g2,g3,y0,y1,y2,y3⟩:=aB);have au:AO w V:=y.trans ((m.trans (aa.mono m.size)).mono y.size);have bf:U9 V g:=(al.below m).below aa;have Q:g≠F.heap.size:=BS;exact⟨⟨j+1,Stil.next s x.code,BS,by go_num,ap.out,t.out,GU.stored ⟨lq,g0,g1,g2,g3,y0,y1,y2,y3⟩ _,(((bf.set Q _).set Q _).set Q _).set Q _,(((au.setCell N _).setCell N _).setCell N _).setCell N _⟩,EX⟩
  obtain rfl:j=z:=by omega
  have t:Hid (R=if 0<s.bits then(9,j) else(0,0)):=by show _=_;rw[U.out,VZ l s j yDd]
  obtain⟨ar,p0,p1,p2,p3,z0,z1,z2,z3⟩:=ac;by_cases ah:0<s.bits;{have S:Hid (R=(9,j)):=(by show _=_;rw[t.out,BR ah]);go_wp2;exact⟨rfl,by rw[S.out];rfl,y⟩};have S:Hid (R=(0,0)):=by show _=_;rw[t.out,BQ ah]
  have aC:s=Stil.pt0:=(Az5 E.out).2 BS;subst aC;simp only[Stil.pt0]at p0 p1 p2 p3;go_wp2;go_end0;exact⟨by rw[S.out];rfl,y⟩
def OP(w:AU)(b:Nat):Prop:=b<w.heap.size/\(∃u,w.cell? (AK b 0)=some u)/\(∃u,w.cell? (AK b 1)=some u)/\w.frozen? (AK b 0)=false/\w.frozen? (AK b 1)=false
def catch_panicking(p:Nat)(c k:Int)(w:AU)(o:OP w p):
  CallsD prog 82 #[AH p] (.panicking [{v:=.iface 44 (.agg #[AB c,AB k]),recovered:=false}]) w λe j m=>
   e=.returned (.tuple #[])/\j=.panicking [{v:=.iface 44 (.agg #[AB c,AB k]),recovered:=true}]/\∃a,AO w a/\m=(a.setCell (AK p 0) (AB c)).setCell (AK p 1) (AB k):=by obtain⟨h,⟨y,l⟩,⟨C,A⟩,n,B⟩:=o;refine callsD_of_wpS func82 rfl λE F hu=>?_;apply wpS_region;simp[wpOpsS,go_sem,recoverD,hu,ntmps82];refine(Aux c k _).mo ?_;rintro e a⟨rfl,f⟩;have t:a.c (AK p 0)=some y:=(f.cell (p:=(AK p 0)) h).tr l;have x:a.c (AK p 1)=some C:=(f.cell (p:=(AK p 1)) h).tr A;have z:a.f (AK p 0)=false:=(f.frozen (p:=(AK p 0)) h).tr n;have D:a.f (AK p 1)=false:=(f.frozen (p:=(AK p 1)) h).tr B;simp[go_sem,t,x,z,D,bodyPostS,results,results82];exact⟨a,f,rfl⟩
def catch_idle(p:Nat)(w:AU)(t:OP w p):
  CallsD prog 82 #[AH p] .returning w λe j m=>
   e=.returned (.tuple #[])/\j=.returning/\∃a,AO w a/\m=(a.setCell (AK p 0) (AB 0)).setCell (AK p 1) (AB 0):=by obtain⟨h,⟨x,l⟩,⟨A,y⟩,o,z⟩:=t;refine callsD_of_wpS func82 rfl λn B hu=>?_;apply wpS_region;simp[wpOpsS,go_sem,recoverD,hu,ntmps82];refine(rY _).mo ?_;rintro e a⟨rfl,f⟩;have C:a.c (AK p 0)=some x:=(f.cell (p:=(AK p 0)) h).tr l;have D:a.c (AK p 1)=some A:=(f.cell (p:=(AK p 1)) h).tr y;have E:a.f (AK p 0)=false:=(f.frozen (p:=(AK p 0)) h).tr o;have F:a.f (AK p 1)=false:=(f.frozen (p:=(AK p 1)) h).tr z;cases n;simp_all[go_sem,bodyPostS,results,results82];exact⟨a,f,rfl⟩
def WU(l:List Stil.Aw)(v:AW)(w:AU)(hr:Ee w)(Z:He w)(aa:Gn w v l)(hl:l.length<=1048576)(T:∀x∈l,x.fits):
  Calls prog 47 #[v] w λe K=>e=.returned (.agg #[.int .i64 (Be l).1,.int .i64 (Be l).2])/\Below w.heap.size w K:=by
 have B:Hid (∀W,Below w.heap.size w W->Calls prog 84 #[v] W λe K=>e=endOf (Be l)/\Below W.heap.size W K):=λW h=>Azg l v W (hr.below h) (Z.below h) (aa.below h) hl T;have ac:∀(X:Fn)(first cap:Array AW)(w:AU),(Instr.makeFunc X first cap).run prog w=.ok (.func X first cap) w:=λ_ _ _ _=>rfl;obtain⟨a,cap,rfl,_⟩:=aa;obtain⟨m,G⟩:∃m,m=(Be l).1:=⟨_,rfl⟩;obtain⟨y,F⟩:∃y,y=(Be l).2:=⟨_,rfl⟩;have R:Hid (endOf (Be l)=endOf (m,y)):=by show _=_;rw[G,F]
 have J:Hid (¬0<m->m=0/\y=0):=by show _->_;rw[G,F];exact Nw l
 rw[R.out]at B;rw[<-G,<-F];clear hr Z T G F R;by_cases t:0<m
 .have C:Hid (endOf (m,y)=.panicked [{v:=.iface 44 (.agg #[.int .i64 m,.int .i64 y]),recovered:=false}]):=by show _=_;unfold endOf;rw[BR t]
  rw[C.out]at B;clear C J;go_enter_defers func47,ntmps47;go_wp2_with(go_at_call 84;refine(B _ BV).mono ?_;rintro e j⟨rfl,hb⟩);have D:w.heap.size<j.heap.size:=DL BU hb.size;have E:OP j w.heap.size:=⟨D,⟨_,by rw[hb.cell (p:=⟨w.heap.size,0,none⟩) BU];simp[go_sem];rfl⟩,⟨_,by rw[hb.cell (p:=⟨w.heap.size,1,none⟩) BU];simp[go_sem];rfl⟩,B1 hb,B1 hb⟩;refine leaves_cons (f:=82) (args:=#[.pointer (some ⟨w.heap.size,0,none⟩)]) BU AP ?_;refine(catch_panicking w.heap.size m y _ E).mono ?_;rintro e u' ab⟨rfl,rfl,z,A,rfl⟩;obtain⟨_,⟨O,t⟩,⟨Q,h1⟩,_,_⟩:=E;have M:z.cell? ⟨w.heap.size,0,none⟩=some O:=(A.cell (p:=⟨w.heap.size,0,none⟩) D).trans t;have N:z.cell? ⟨w.heap.size,1,none⟩=some Q:=(A.cell (p:=⟨w.heap.size,1,none⟩) D).trans h1;simp[Leaves,settle,results,results47,go_sem,M,N];have I:Below w.heap.size w z:=(Aa _ _).trans ((hb.trans (A.mono hb.size)).mono BU);exact(I.setCell (DK _) _).setCell (DK _) _
 obtain⟨rfl,rfl⟩:=J t;have C:Hid (endOf (0,0)=.returned (.tuple #[])):=by show _=_;unfold endOf;rw[BQ BZ]
 rw[C.out]at B;clear C J t;go_enter_defers func47,ntmps47;go_wp2_with(go_at_call 84;refine(B _ BV).mono ?_;rintro e j⟨rfl,hb⟩;have V:j.cell? ⟨w.heap.size,0,none⟩=some (.int .i64 0):=(B0 hb);have q1:j.cell? ⟨w.heap.size,1,none⟩=some (.int .i64 0):=(B0 hb);have S:j.frozen? ⟨w.heap.size,0,none⟩=false:=(B1 hb);have U:j.frozen? ⟨w.heap.size,1,none⟩=false:=(B1 hb));have D:w.heap.size<j.heap.size:=DL BU hb.size;refine leaves_cons (f:=82) (args:=#[.pointer (some ⟨w.heap.size,0,none⟩)]) BU AP ?_;obtain⟨W,o⟩:∃W,W=(j.setCell ⟨w.heap.size,0,none⟩ (.int .i64 0)).setCell ⟨w.heap.size,1,none⟩ (.int .i64 0):=⟨_,rfl⟩;have H:w.heap.size<W.heap.size:=by rw[o];exact DL D (DR (Jh _ _ _) (Jh _ _ _))
 have E:OP W w.heap.size:=by refine⟨H,⟨.int .i64 0,?_⟩,⟨.int .i64 0,?_⟩,?_,?_⟩;{rw[o];exact(Ci BS).trans (E8 V)};{rw[o];exact E8 ((Ci BS).trans q1)};{rw[o];exact Mc.trans (Mc.trans S)};rw[o];exact Mc.trans (Mc.trans U)
 have Y:Below w.heap.size w W:=by rw[o];exact(((Aa _ _).trans (hb.mono BU)).setCell (DK _) _).setCell (DK _) _
 rw[<-o];clear o V q1 S U;refine(catch_idle w.heap.size _ E).mono ?_;rintro e u' ab⟨rfl,rfl,z,A,rfl⟩;obtain⟨_,⟨O,t⟩,⟨Q,h1⟩,_,_⟩:=E;have M:z.cell? ⟨w.heap.size,0,none⟩=some O:=(A.cell (p:=⟨w.heap.size,0,none⟩) H).trans t;have N:z.cell? ⟨w.heap.size,1,none⟩=some Q:=(A.cell (p:=⟨w.heap.size,1,none⟩) H).trans h1;simp[Leaves,settle,results,results47,go_sem,M,N];have I:Below w.heap.size w z:=Y.trans (A.mono Y.size);exact(I.setCell (DK _) _).setCell (DK _) _
