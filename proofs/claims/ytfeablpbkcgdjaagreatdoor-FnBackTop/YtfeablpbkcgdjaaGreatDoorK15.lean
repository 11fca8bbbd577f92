import Derived.Test.YtfeablpbkcgdjaaGreatDoorT10
import Derived.Test.YtfeablpbkcgdjaaGreatDoorD7c
import Derived.Test.YtfeablpbkcgdjaaGreatDoorG4
set_option linter.defProp false
set_option maxHeartbeats 4000000
set_option maxRecDepth 100000
namespace Go.Proofs.YtfeablpbkcgdjaaGreatDoor
open Tryz Go.RowKit Go.Sort Go.BigFrame
section
variable {L g P:Nat}{w:World}{bs:List Nat}{ts:List Ia}{i op:Int}{v u c d:Value}{p q r s b:Nat}
def StL.set4 {o1 o2 o3 o4:Nat}{x1 x2 x3 x4:Value}(h:StL L g P w bs ts)(a:b∈bs):StL L g P ((((w.setCell ⟨b,o1,none⟩ x1).setCell ⟨b,o2,none⟩ x2).setCell ⟨b,o3,none⟩ x3).setCell ⟨b,o4,none⟩ x4) bs ts:=(((h.set a).set a).set a).set a
def StL.drop (h:StL L g P w (b::bs) ts):StL L g P w bs ts:=h.sub (λ_ h=>CH _ h) λ_ h=>h
def StL.un {x y:Ia}(h:StL L g P w bs (x::y::ts)):StL L g P w bs (x::ts):=h.sub (λ_ h=>h) λ_z a=>(List.mem_cons.1 a).elim (λh=>h ▸ DX ..) λh=>CH _ (CH _ h)
def StL.grew {k t:Nat}{cs:List Value}(h:StL L g P w bs ((k,s,cs)::ts))(a:s<=t):StL L g P w bs ((k,t,cs)::ts):=(h.add (y:=(k,t,cs)) λ_S hS=>(hS _ (DX ..)).grew a).un
theorem StL.contact (h:StL L g P w bs ((2,q,[.int .i64 op,v])::ts))(hi:Sm i):StL L g P w bs ((4,1,[.int .i64 i, .int .i64 op,v, .slice none 0 0])::ts):=(h.add λ_S hS=>let ⟨e,a⟩:=(hS _ (DX ..)).el;ClT.mkN hi e a (SlT.nil (s:=0)) Nat.one_pos).un
theorem StL.kids (h:StL L g P w bs ((14,r,[u])::ts))(hi:Sm i)(hr:r<s):StL L g P w bs ((4,s,[.int .i64 i, .int .i64 0, .slice none 0 0,u])::ts):=(h.add λS hS=>ClT.mkN hi AZ SlT.nil (ClT.sl (k:=4) (hS _ (DX ..))) hr).un
end
section
variable {av kv:Value}{k op:Int}
def DU {p:Prop}(h:p):Hid p:=h
def EP (w:World)(b:Nat)(k op:Int)(av kv:Value):Prop:=b<w.heap.size/\w.cell? ⟨b,0,none⟩=some (.int .i64 k)/\w.cell? ⟨b,1,none⟩=some (.int .i64 op)/\w.cell? ⟨b,2,none⟩=some av/\w.cell? ⟨b,3,none⟩=some kv/\w.frozen? ⟨b,0,none⟩=false/\w.frozen? ⟨b,1,none⟩=false/\w.frozen? ⟨b,2,none⟩=false/\w.frozen? ⟨b,3,none⟩=false
def BP {W:World}{b:Nat}(h:EP W b k op av kv:=by refine⟨BH,?_,?_,?_,?_,?_,?_,?_,?_⟩<;>first | (exact BN;done) | (repeat (first | with_reducible assumption | with_reducible refine Jv.trans ?_ | with_reducible refine Nc.trans ?_ | with_reducible refine(Gp BH).trans ?_ | (simp[go_sem];done)))):EP W b k op av kv:=h
theorem EP.grownO {w w':World}{b:Nat}{r:Option Nat}(h:EP w b k op av kv)(hg:w.grownBy w' r)(hr:r≠some b):EP w' b k op av kv:=by
 obtain⟨j,x,z,n,m,A,t,y,l⟩:=h;have f:∀o,w'.cell? ⟨b,o,none⟩=w.cell? ⟨b,o,none⟩:=λo=>World.cell?_of_block (hg.block b j λe=>hr e.symm)
 have a:∀o,w'.frozen? ⟨b,o,none⟩=w.frozen? ⟨b,o,none⟩:=λo=>World.frozen?_of_block (hg.block b j λe=>hr e.symm)
 exact⟨B8 j hg.size,(f 0).trans x,(f 1).trans z,(f 2).trans n,(f 3).trans m,(a 0).trans A,(a 1).trans t,(a 2).trans y,(a 3).trans l⟩
theorem G8 {w:World}{base s n:Nat}{e:TypeId}{v:Value}{xs:List Value}(h:w.ownsRow base e s v n xs):∃a c,v=.slice a n c/\n<=c:=by
 rcases h.2 with⟨l,f⟩ | ⟨g,cap,cur,m,t,y,j,x⟩
 .exact⟨none,0,by rw[l,f],by rw[f];exact B7 _⟩
 .exact⟨_,cap,m,j⟩
def NtL (L g P N:Nat)(w:World)(bs:List Nat)(ts:List Ia)(e:Ending)(w':World):Prop:=∃i op a n c j h f,e=.returned (.agg #[.int .i64 i, .int .i64 op, .slice a n c, .slice j h f])/\StL L g P w' bs ((4,N,[.int .i64 i, .int .i64 op, .slice a n c, .slice j h f])::ts)/\w.grownBy w' (some g)
abbrev NtR:=NtL 50000
theorem zY (g P:Nat)(w:World)(bs:List Nat)(ts:List Ia)(h:St g P w bs ts)(H:P<=100000000):
  Calls prog 91 #[.pointer (some ⟨g,0,none⟩), .int .i64 0] w (NtR g (P+50) 1 w bs ts):=by
 have K:=Tf h.rd;have hS:=h.box (.cells #[.int .i64 0, .int .i64 0, .slice none 0 0, .slice none 0 0] 54);clear h;go_enter func91,ntmps91
 go_wp2_with (first | (go_at_call_of 33 (Value.int IntKind.i64 7);refine(Fe g _ _ _ ((hS).rd) AU AU AU).mono ?_;rintro e A ⟨x,rfl,I,J,t,f⟩;have hS:=(hS).go t f;obtain⟨B,y,C,q1,E,l,G,j,z⟩:E9 A w.heap.size:=FG;have F:=Bl (show w.grownBy _ (some g) from Av) f;clear t f) | (go_at_call 61;refine(Hy g _ _ (hS).rd AU).mono ?_;rintro e D m;obtain⟨op,a,n,c,rfl,hS,f⟩:=(hS).el m AZ;obtain⟨B,y,C,q1,E,l,G,j,z⟩:E9 D w.heap.size:=FG;have F:=Bl (show w.grownBy _ (some g) from Av) f;clear m f))
 refine bodyPost_ret (by simp[results,results91,go_sem,y,q1,l,j];rfl) rfl ?_;exact⟨_,_,_,_,_,_,_,_,rfl,((hS.set4 (.head _)).drop.contact AZ).mono AU,Av⟩
def I6:Nat->Nat
 | 0=>50
 | m+1=>3*I6 m+50
def JU:Nat->Nat
 | 0=>1
 | m+1=>3*JU m+1
theorem zQ (c N:Nat)(d:Int)(hd:0<=d)(ih:∀(Y:Int) (g P:Nat) (w:World) (bs:List Nat) (ts:List Ia),Y=d->St g P w bs ts->P+c<=100000000->Calls prog 91 #[.pointer (some ⟨g,0,none⟩), .int .i64 Y] w (NtR g (P+c) N w bs ts))
  (g P:Nat) (w:World) (bs:List Nat) (ts:List Ia) (an:d<=100) (h:St g P w bs ts) (hP:P+(3*c+50)<=100000000):
  Calls prog 91 #[.pointer (some ⟨g,0,none⟩), .int .i64 (d+1)] w (NtR g (P+(3*c+50)) (3*N+1) w bs ts):=by
 have hg:=Tf h.rd;have ae:∀b∈bs,b<w.heap.size:=λb I=>(h.lt I).2
 have IH:Hid (∀(Y:Int) (g P:Nat) (w:World) (bs:List Nat) (ts:List Ia),Y=d->St g P w bs ts->P+c<=100000000->Calls prog 91 #[.pointer (some ⟨g,0,none⟩), .int .i64 Y] w (NtR g (P+c) N w bs ts)):=ih;have hS:=h.box (.cells #[.int .i64 0, .int .i64 0, .slice none 0 0, .slice none 0 0] 54);have au:decide (d+1<=0)=false:=by rw[ES];omega
 clear h ih;go_enter func91,ntmps91;go_upto_if 37 with(first | (go_at_call_of 33 (Value.int IntKind.i64 7);refine(Fe g _ _ _ ((hS).rd) AU AU AU).mono ?_;rintro e D ⟨k,rfl,al,ap,E,f⟩;have hS:=(hS).go E f;obtain⟨x,m,F,q1,B,t,H,l,C⟩:E9 D w.heap.size:=FG;have A:=Bl (show w.grownBy _ (some g) from Av) f;clear E f) | (go_at_call 61;refine(Hy g _ _ (hS).rd AU).mono ?_;rintro e wb ho;obtain⟨op,a,n,c,rfl,hS,f⟩:=(hS).el ho AZ;obtain⟨x,m,F,q1,B,t,H,l,C⟩:E9 wb w.heap.size:=FG;have A:=Bl (show w.grownBy _ (some g) from Av) f;clear ho f) | (go_at_call 91;refine(IH _ g _ _ _ _ yCb hS AU).mono ?_;rintro e wd ⟨i1,o1,a1,n1,c1,a2,n2,c2,rfl,hS,f⟩;obtain⟨x,m,F,q1,B,t,H,l,C⟩:E9 wd w.heap.size:=FG;have A:=Bl (show w.grownBy _ (some g) from Av) f;clear f) | (go_at_call_of 33 (Value.int IntKind.i64 2);refine(Fe g _ _ _ ((hS.box _).rd) AU AU AU).mono ?_;rintro e wc ⟨ai,rfl,ad,af,E,f⟩;have hS:=(hS.box _).go E f;obtain⟨x,m,F,q1,B,t,H,l,C⟩:E9 wc w.heap.size:=FG;obtain⟨U,X,R,Q,K,T,V,O,M⟩:CW wc D.heap.size (.int .i64 (2+k % 2)) (.int .i64 0) (.slice none 0 0) (.slice none 0 0):=qb4;have A:=Bl (show w.grownBy _ (some g) from Av) f;clear E f) | (go_at_call_of 33 (Value.int IntKind.i64 8);refine(Fe g _ _ _ ((hS).rd) AU AU AU).mono ?_;rintro e we ⟨aj,rfl,x,U,E,f⟩;have hS:=(hS).go E f;obtain⟨x,m,F,q1,B,t,H,l,C⟩:E9 we w.heap.size:=FG;obtain⟨U,X,R,Q,K,T,V,O,M⟩:CW we D.heap.size (.int .i64 (2+k % 2)) (.int .i64 0) (.slice none 0 0) (.slice none 0 0):=qb4;have A:=Bl (show w.grownBy _ (some g) from Av) f;clear E f))
 .refine bodyPost_ret (by simp[results,results91,go_sem,m,q1,t,l];rfl) rfl ?_
  exact⟨_,_,_,_,_,_,_,_,rfl,(((hS.set4 (.head _)).drop.contact AZ).mono AU).grew AU,Av⟩
 .refine bodyPost_ret (by simp[results,results91,go_sem,m,q1,t,l,x];rfl) rfl ?_
  refine⟨_,_,_,_,_,_,_,_,rfl,?_,Av⟩;exact(((hS.set4 (.head _)).lit1 #[.int .i64 i1, .int .i64 o1, .slice a1 n1 c1, .slice a2 n2 c2] 54 AZ rfl AW).drop.kids AZ AU).mono AU
 .go_cut [7] (λsm Z=>∃J:Nat,sm=.int .i64 J/\J<=3/\St g (P+3) Z (D.heap.size::w.heap.size::bs) ts/\w.grownBy Z (some g)/\EP Z w.heap.size 0 0 (.slice none 0 0) (.slice none 0 0)/\EP Z D.heap.size (2+k % 2) 0 (.slice none 0 0) (.slice none 0 0))
  case first=>
   go_wp2
   .go_meet
    exact⟨1,rfl,AU,hS.mono AU,Av,BP,BP⟩
   .go_meet
    obtain⟨yn,rfl⟩:=FN ad;exact⟨2+yn,by go_num,AU,hS.mono AU,Av,BP,BP⟩
  case rest=>
   clear m q1 t l X Q T O F B H C R K V M hS A;obtain⟨J,rfl,ak,hS,A,z,y⟩:=hcut
   go_wp2
   go_loopw [8] (λi wr=>∃(j:DC) (v:Value),j.length<=J/\i=.int .i64 j.length/\tot j<=j.length*N/\EP wr w.heap.size 0 0 (.slice none 0 0) (.slice none 0 0)/\EP wr D.heap.size (2+k % 2) 0 (.slice none 0 0) v/\wr.ownsRow (D.heap.size+1) 54 4 v j.length (flat j)/\St g (P+3+j.length*c) wr (ob v++D.heap.size::w.heap.size::bs) (rowT 4 j++ts)/\w.grownBy wr (some g)) (λi _=>J - (intOf i).toNat)
   case atStart=>exact⟨[],_,AW,rfl,DK _,z,y,World.ownsRow_nil _ _ _ _,hS.mono AU,A⟩
   case round=>
    obtain⟨j,v,hj,rfl,ab,z,y,G,hS,A⟩:=hrel;obtain⟨x,m,q1,t,l,F,B,H,C⟩:=id z;obtain⟨U,X,Q,T,O,R,K,V,M⟩:=id y;obtain⟨ag,ah,rfl,-⟩:=G8 G;by_cases ao:j.length<J
    .have aa:(j.length+1)*c<=3*c:=JC c AU
     rw[FP] at aa;go_upto_region 13 with fail
     go_region_law (first | (refine I9 rfl rfl (StL.push _ kd4 hS G AU AU) rfl rfl ?_;rintro v' w6 ⟨hown6,ac,aC,-⟩;obtain⟨iI,gZ,rfl,-⟩:=G8 hown6;have z:=(EP.grownO z aC (λe=>by have:=(G.lt _ e).1;omega));have y:=(EP.grownO y aC (λe=>by have:=(G.lt _ e).1;omega));obtain⟨x,m,q1,t,l,F,B,H,C⟩:=id z;obtain⟨U,X,Q,T,O,R,K,V,M⟩:=id y) | (go_simp;go_at_call 91;refine(IH _ g _ _ _ _ yCb hS.drew AU).mono ?_;rintro e w5 ⟨i1,o1,a1,n1,c1,a2,n2,c2,rfl,hS,S⟩;have f:wr.grownBy w5 (some g):=⟨S.os,S.tape,S.output,S.size,S.block⟩;have G:=Cf G f AU;have z:=z.grownO f Ax;have y:=y.grownO f Ax;obtain⟨x,m,q1,t,l,F,B,H,C⟩:=id z;obtain⟨U,X,Q,T,O,R,K,V,M⟩:=id y))
     all_goals go_wp2
     all_goals
      refine⟨⟨_,_,?_,?_,?_,BP,BP,ownsRow_setCell_below BX (DN _) _,(ac.set AW).mono ?_,KX (GK AU) (Ih (Bl A f) aC (λk hk=>by have:=(G.lt _ hk).1;omega)) _⟩,?_⟩
      .simp;omega
      .simp
      .simp only[tot,CX,FX,CO,CN,EB,Da,IV,CC,CM,Nat.add_mul] at ab ⊢
       omega
      .simp only[CO,CC,CM,Nat.add_mul]
       omega
      .simp[intOf];omega
    .go_wp2
     have aa:j.length*c<=3*c:=JC c AU;have ar:j.length*N<=3*N:=JC N AU;refine bodyPost_ret (by simp[results,results91,go_sem,m,q1,t,l];rfl) rfl ?_;refine⟨_,_,_,_,_,_,_,_,rfl,?_,Av⟩;have hI:=hS.ice (s:=3*N) G (λb I=>by simp only[C2] at I;rcases I with rfl | rfl | I;omega;omega;have:=ae b I;omega) AU AU;exact((hI.drop.set4 (.head _)).drop.kids AU AU).mono AU
theorem zK (m:Nat):∀(d:Int) (g P:Nat) (w:World) (bs:List Nat) (ts:List Ia),m<=100->d=m->St g P w bs ts->P+I6 m<=100000000->Calls prog 91 #[.pointer (some ⟨g,0,none⟩), .int .i64 d] w (NtR g (P+I6 m) (JU m) w bs ts):=by
 have e:∀m,I6 (m+1)=3*I6 m+50:=λ_=>rfl
 have f:∀m,JU (m+1)=3*JU m+1:=λ_=>rfl
 induction m with
 | zero=>
  intro d g P w bs ts _ hd h a;obtain rfl:d=0:=hd;exact zY g P w bs ts h (CB (Nat.le_add_right _ _) a)
 | succ m n=>
  intro d g P w bs ts j hd h a;obtain rfl:d=(m:Int)+1:=hd;rw[e] at a ⊢;rw[f];exact zQ _ _ _ (Int.natCast_nonneg m) (λl g P w bs ts hd=>n l g P w bs ts (Nat.le_of_succ_le j) hd) g P w bs ts AU h a
theorem ot (n g P:Nat)(w:World)(bs:List Nat)(ts:List Ia)(hn:n<=300)(h:St g P w bs ts)(hP:P<=100000000):
  Calls prog 56 #[.pointer (some ⟨g,0,none⟩), .int .i64 n] w (NtR g (P+6020) 700 w bs ts):=by
 have hg:=Tf h.rd;have hS:=h.box (.cells #[.int .i64 0, .int .i64 0, .slice none 0 0, .slice none 0 0] 54);clear h;go_enter func56,ntmps56
 go_wp2_with (go_at_call 61;refine(Hy g _ _ (hS).rd AU).mono ?_;rintro ac D B;obtain⟨op,aa,V,ca,rfl,hS,m⟩:=(hS).el B AZ;obtain⟨K,G,M,q1,N,E,S,C,H⟩:E9 D w.heap.size:=FG;have hG:=Bl (show w.grownBy _ (some g) from Av) m;clear B m)
 go_loopw [6] (λi wr=>∃(j:Nat) (A o1:Int) (z:Option Addr) (f x:Nat) (t:Option Addr) (y l:Nat),1<=j/\(j<=n\/j=1)/\i=.int .i64 j/\EP wr w.heap.size 0 0 (.slice none 0 0) (.slice none 0 0)/\EP wr D.heap.size A o1 (.slice z f x) (.slice t y l)/\St g (P+20*j) wr (D.heap.size::w.heap.size::bs) ((4,2*j,[.int .i64 A, .int .i64 o1, .slice z f x, .slice t y l])::ts)/\w.grownBy wr (some g)) (λi _=>n - (intOf i).toNat)
 case atStart=>exact⟨1,1,op,aa,V,ca,none,0,0,B7 _,AU,rfl,BP,BP,(((hS.box _).contact AZ).grew AZ).mono AU,Av⟩
 case round=>
  obtain⟨j,A,o1,z,f,x,t,y,l,af,ad,rfl,J,Q,hS,hG⟩:=hrel;obtain⟨K,G,q1,E,C,M,N,S,H⟩:=id J;obtain⟨ab,q4,q5,q6,q7,X,T,Y,p7⟩:=id Q;have jo:j<=300:=AU
  by_cases ae:j<n
  .go_upto_region 5 with fail
   go_region_with (go_at_call 61;refine(Hy g _ _ hS.drew.rd AU).mono ?_;rintro ac F B;obtain⟨o2,R,I,O,rfl,hS,e⟩:=hS.drew.el B AZ;have m:wr.grownBy F (some g):=⟨e.os,e.tape,e.output,e.size,e.block⟩;obtain⟨K,G,q1,E,C,M,N,S,H⟩:=J.grownO m Ax;obtain⟨ab,q4,q5,q6,q7,X,T,Y,p7⟩:=Q.grownO m Ax)
   all_goals go_wp2
   all_goals
    have U:Sm (2+(j:Int) % 2):=AU
    have Z:=λx1 x2 x3 x4=>(((hS.contact (i:=1) AZ).set4 (o1:=0) (o2:=1) (o3:=2) (o4:=3) (x1:=x1) (x2:=x2) (x3:=x3) (x4:=x4) (.head _)).lit (s:=2*j+1) (n:=F.heap.size) [(1,[.int .i64 1, .int .i64 o2, .slice R I O, .slice none 0 0]),(2*j,[.int .i64 A, .int .i64 o1, .slice z f x, .slice t y l])] #[.int .i64 1, .int .i64 o2, .slice R I O, .slice none 0 0, .int .i64 A, .int .i64 o1, .slice z f x, .slice t y l] 54 AZ AW rfl (by simp[tot];omega) AW AW).un.un.kids (s:=2*(j+1)) U AU
    exact⟨⟨j+1,2+(j:Int) % 2,0,none,0,0,some ⟨F.heap.size,0,none⟩,2,2,AU,AU,by go_num,BP,BP,(Z _ _ _ _).mono AU,Av⟩,by simp[intOf];omega⟩
  .go_wp2
   refine bodyPost_ret (by simp[results,results56,go_sem,G,q1,E,C];rfl) rfl ?_;exact⟨_,_,_,_,_,_,_,_,rfl,(((hS.set4 (.tail _ (.head _))).drop.drop).mono AU).grew AU,Av⟩
end
section
open Stil
variable {o:Nat}{v:Value}{w':World}
def Zd (w:World)(v:Value)(ds:List Stil.B9):Prop:=Qh (λ_=>True) w v ds
def N8 (w:World)(v:Value)(ns:List Stil.B1):Prop:=Yo (λ_=>True) w v ns
def IE (w:World)(v:Value)(es:List Stil.Elem):Prop:=N7 (λ_=>True) w v es
def Tu (w:World)(v:Value)(l:List Stil.B5):Prop:=Qi (λ_=>True) w v l
def Hh (w:World)(b o:Nat)(n:Stil.B1):Prop:=Qd (λ_=>True) w b o n
def IU (w:World)(b o:Nat)(n:Stil.B5):Prop:=U0 (λ_=>True) w b o n
def Zd.below {w:World}{ds:List Stil.B9}(h:Zd w v ds)(a:Below w.heap.size w w'):Zd w' v ds:=Qh.keep h (Kz.of_below a)
def N8.below {w:World}{ds:List Stil.B1}(h:N8 w v ds)(a:Below w.heap.size w w'):N8 w' v ds:=Yo.keep h (Kz.of_below a)
def IE.below {w:World}{ds:List Stil.Elem}(h:IE w v ds)(a:Below w.heap.size w w'):IE w' v ds:=N7.keep h (Kz.of_below a)
def Tu.below {w:World}{ds:List Stil.B5}(h:Tu w v ds)(a:Below w.heap.size w w'):Tu w' v ds:=Qi.keep h (Kz.of_below a)
def Hh.below {w:World}(a:Below w.heap.size w w')(n:Stil.B1)(b o:Nat)(h:Hh w b o n)(hl:b<w.heap.size):Hh w' b o n:=Qd.keep (Kz.of_below a) n b o h trivial hl
def IU.below {w:World}(a:Below w.heap.size w w')(n:Stil.B5)(b o:Nat)(h:IU w b o n)(hl:b<w.heap.size):IU w' b o n:=U0.keep (Kz.of_below a) n b o h trivial hl
def Zd.at {w:World}{ds:List Stil.B9}(h:Zd w v ds):Ak w v ds:=Qh.at h
def N8.at {w:World}{ds:List Stil.B1}(h:N8 w v ds):Eo w v ds:=Yo.at h
def Zd.shape {w:World}{ds:List Stil.B9}(h:Zd w v ds):∃a cap,v=.slice a ds.length cap/\ds.length<=cap:=by
 obtain⟨a,cap,f,e,_⟩:=h;exact⟨a,cap,f,e.1⟩
def IE.shape {w:World}{ds:List Stil.Elem}(h:IE w v ds):∃a cap,v=.slice a ds.length cap/\ds.length<=cap:=by
 obtain⟨a,cap,f,e,_⟩:=h;exact⟨a,cap,f,e.1⟩
def zJa {p:Prop}(h:p:=by
 obtain⟨a,cap,h1,h2,h3⟩:=h;exact⟨a,cap,h1,h2,λi hi=>by obtain⟨b,o,e,_,hl,hn⟩:=h3 i hi;exact⟨b,o,e,hl,hn⟩⟩):p:=h
def N8.shape {w:World}{ns:List Stil.B1}(h:N8 w v ns):∃a cap,v=.slice a ns.length cap/\E4 a ns.length cap/\∀i (h:i<ns.length),∃b o,a=some ⟨b,o,none⟩/\b<w.heap.size/\Hh w b (o+i*4) ns[i]:=by
 exact zJa
def Tu.shape {w:World}{ns:List Stil.B5}(h:Tu w v ns):∃a cap,v=.slice a ns.length cap/\E4 a ns.length cap/\∀i (h:i<ns.length),∃b o,a=some ⟨b,o,none⟩/\b<w.heap.size/\IU w b (o+i*6) ns[i]:=by
 exact zJa
def Hh.open {w:World}{b:Nat}{n:Stil.B1}(h:Hh w b o n):w.cell? ⟨b,o,none⟩=some (.int .i64 n.kind)/\w.cell? ⟨b,o+1,none⟩=some (.int .i64 n.one.op)/\
   ∃av kv,w.cell? ⟨b,o+2,none⟩=some av/\w.cell? ⟨b,o+3,none⟩=some kv/\Zd w av n.one.args/\N8 w kv n.kids:=by
 obtain⟨m,j,⟨av,a,e⟩,⟨kv,l,f⟩⟩:=(LR _ _ _ _ _).1 h;exact⟨m,j,av,kv,a,l,e,f⟩
def IU.open {w:World}{b:Nat}{n:Stil.B5}(h:IU w b o n):Hh w b o n.net/\∃cv kv,w.cell? ⟨b,o+4,none⟩=some cv/\w.cell? ⟨b,o+5,none⟩=some kv/\IE w cv n.coils/\Tu w kv n.kids:=by
 obtain⟨l,⟨cv,e,a⟩,⟨kv,j,f⟩⟩:=(V2 _ _ _ _ _).1 h;exact⟨l,cv,kv,e,j,a,f⟩
theorem Tu.take {w:World}{a:Option Addr}{c n:Nat}{l:List Stil.B5}(h:Tu w (.slice a l.length c) l)(j:n<=l.length):Tu w (.slice a n c) (l.take n):=by
 obtain⟨C,B,e,m,A⟩:=h;simp only[Value.slice.injEq,true_and] at e;obtain⟨rfl,rfl⟩:=e;have f:(l.take n).length=n:=by rw[Fo,Nat.min_eq_left j]
 refine⟨a,c,by rw[f],⟨by rw[f];exact CB j m.1,m.2⟩,λi hi=>?_⟩;rw[f] at hi;obtain⟨b,o,y,z,t,x⟩:=A i AU;exact⟨b,o,y,z,t,by rw[List.getElem_take];exact x⟩
def E3 (F:Nat)(x:Stil.B5)(f:Nat):Prop:=∀(av nv cv kv:Value) (w:World),Zd w av x.net.one.args->N8 w nv x.net.kids->IE w cv x.coils->Tu w kv x.kids->Calls prog F #[.agg #[.int .i64 x.net.kind, .int .i64 x.net.one.op,av,nv,cv,kv]] w λe w'=>e=.returned (.int .i64 f)/\Below w.heap.size w w'
def FQ (F:Nat)(x:Stil.B1)(f:Nat):Prop:=∀(av nv:Value) (w:World),Zd w av x.one.args->N8 w nv x.kids->Calls prog F #[.agg #[.int .i64 x.kind, .int .i64 x.one.op,av,nv]] w λe w'=>e=.returned (.int .i64 f)/\Below w.heap.size w w'
def zDa {p:Prop}(h:p:=by
 go_wp2_with (refine(IH _ AX).mono ?_;rintro e w1 ⟨rfl,hb1⟩)
 all_goals go_ret
 all_goals refine⟨Fa ?_,AX⟩
 all_goals (congr 1;omega)):p:=h
theorem YN (x:Stil.B5)(f F B m:Nat)(av nv cv kv:Value)(w:World)(K:∀args w,(callFunc F args).run prog w=.ok (.enter F args) w)(y:E3 F x f)
  (j:Zd w av x.net.one.args) (a:N8 w nv x.net.kids) (l:IE w cv x.coils) (t:Tu w kv x.kids) (G:w.cell? ⟨B,0,none⟩=some (.func (.func F) #[] #[])) (C:B<w.heap.size):
  Calls prog 66 #[.int .i64 m, .agg #[.int .i64 x.net.kind, .int .i64 x.net.one.op,av,nv,cv,kv], .pointer (some ⟨B,0,none⟩)] w λe w'=>e=.returned (.int .i64 (max m f:Nat))/\Below w.heap.size w w':=by
 have IH:=Ab (λW h=>y av nv cv kv W (j.below h) (a.below h) (l.below h) (t.below h));obtain⟨D,z,rfl,_⟩:=j.shape;obtain⟨H,I,rfl,_,_⟩:=a.shape;obtain⟨M,E,rfl,_⟩:=l.shape;obtain⟨A,J,rfl,_,_⟩:=t.shape;clear y;go_enter func66,ntmps66
 exact zDa
def zd0 {p:Prop}(h:p:=by
 obtain rfl:j=es.length:=by omega
 have hmn:=HM.out;rw[EC yCg] at hmn;have dV:=Ab hmn;clear hmn
 go_wp2
 go_ret;exact⟨Fa yEj,hb⟩):p:=h
theorem ZN (es:List Stil.B5)(f:Stil.B5->Nat)(F:Nat)(V:∀args w,(callFunc F args).run prog w=.ok (.enter F args) w)(U:∀x∈es,E3 F x (f x))
  (B l:Nat) (v:Value) (w:World) (N:Tu w v es) (hl:es.length<=999999) (M:w.cell? ⟨B,0,none⟩=some (.func (.func F) #[] #[])) (K:B<w.heap.size):
  Calls prog 65 #[v, .int .i64 l, .func (.func 66) #[] #[.pointer (some ⟨B,0,none⟩)]] w λe w'=>e=.returned (.int .i64 (Bg l (es.map f)))/\Below w.heap.size w w':=by
 obtain⟨a,cap,rfl,X,T⟩:=N.shape;have HA:=Ab T;have IH:=Ab U;have gY:=Ab M;have HE:=Ab V;clear T U M V X N;go_enter func65,ntmps65
 go_wp2
 go_loopw [1,11] (λd i wr=>∃(j m:Nat),j<=es.length/\i=.int .i64 j/\d=.int .i64 m/\m=Bg l ((es.map f).take j)/\Below w.heap.size w wr) (λ_ i _=>es.length - (intOf i).toNat)
 case atStart=>exact⟨0,l,AU,rfl,rfl,rfl,Below.refl _ _⟩
 case round=>
  obtain⟨j,m,hj,rfl,rfl,R,hb⟩:=hrel;have HM:=Ab R;clear R;by_cases hlt:j<es.length
  .obtain⟨b,o,rfl,A,Q⟩:=HA j hlt
   obtain⟨O,cv,kv,x4,x5,E,G⟩:=(IU.below hb _ _ _ Q A).open;obtain⟨x0,x1,av,nv,x2,x3,y,C⟩:=O.open;have z:Hid (Bg l ((es.map f).take (j+1))=max (Bg l ((es.map f).take j)) (f es[j])):=by
    show _=_
    rw[Jt yDa,EU]
   have D:Hid (∀W,Below wr.heap.size wr W->Calls prog 66 #[.int .i64 m, .agg #[.int .i64 es[j].net.kind, .int .i64 es[j].net.one.op,av,nv,cv,kv], .pointer (some ⟨B,0,none⟩)] W λe w'=>e=.returned (.int .i64 (max m (f es[j]):Nat))/\Below W.heap.size W w'):=by
    intro W t;have J:=hb.trans (t.mono hb.size);exact YN es[j] (f es[j]) F B m av nv cv kv W HE (IH es[j] (CG hlt)) (y.below t) (C.below t) (E.below t) (G.below t) ((J.cell (p:=⟨B,0,none⟩) K).trans gY.out) (B8 K J.size)
   obtain⟨x,S⟩:∃x,x=es[j]:=⟨_,rfl⟩
   rw[<-S] at D x0 x1 y C E G z;obtain⟨p0,r0,rfl,fA⟩:=y.shape;obtain⟨p1,r1,rfl,Y,_⟩:=C.shape;obtain⟨p2,r2,rfl,nX⟩:=E.shape;obtain⟨p3,r3,rfl,yR,_⟩:=G.shape;obtain⟨H,I⟩:∃H,H=f x:=⟨_,rfl⟩
   rw[<-I] at D z;have ab:=B8 A hb.size;clear fA Y nX yR O S Q A I
   go_wp2_with (go_at_call 66;refine(D _ AX).mono ?_;rintro e w2 ⟨rfl,aa⟩;have Z:=(show Below w.heap.size w _ from hb.trans ((show Below wr.heap.size wr _ from AX).mono hb.size)).trans (aa.mono yCj))
   refine⟨⟨j+1,max m H,AU,by go_num,rfl,?_,Z⟩,by simp[intOf];omega⟩;rw[z.out,<-HM.out]
  .exact zd0
theorem Lx (es:List Stil.B5)(f:Stil.B5->Nat)(F:Nat)(m:∀args w,(callFunc F args).run prog w=.ok (.enter F args) w)(j:∀x∈es,E3 F x (f x))
  (a:Nat) (v:Value) (w:World) (l:Tu w v es) (hl:es.length<=999999):
  Calls prog 36 #[v, .int .i64 a, .func (.func F) #[] #[]] w λe w'=>e=.returned (.int .i64 (Bg a (es.map f)))/\Below w.heap.size w w':=by
 have y:=Ab (λW B h z A=>ZN es f F m j B a v W (l.below h) hl z A);obtain⟨G,D,rfl,t,_⟩:=l.shape;clear t j m;go_enter func36,ntmps36
 go_wp2_with (go_at_call 65;refine(y _ _ AX (by simp[go_sem]) AW).mono ?_;rintro e C ⟨rfl,E⟩)
 go_ret;exact⟨rfl,AX⟩
theorem YM (x:Stil.B1)(f F B m:Nat)(av nv:Value)(w:World)(E:∀args w,(callFunc F args).run prog w=.ok (.enter F args) w)(a:FQ F x f)
  (l:Zd w av x.one.args) (j:N8 w nv x.kids) (t:w.cell? ⟨B,0,none⟩=some (.func (.func F) #[] #[])) (C:B<w.heap.size):
  Calls prog 141 #[.int .i64 m, .agg #[.int .i64 x.kind, .int .i64 x.one.op,av,nv], .pointer (some ⟨B,0,none⟩)] w λe w'=>e=.returned (.int .i64 (max m f:Nat))/\Below w.heap.size w w':=by
 have IH:=Ab (λW h=>a av nv W (l.below h) (j.below h));obtain⟨D,y,rfl,_⟩:=l.shape;obtain⟨z,A,rfl,_,_⟩:=j.shape;clear a;go_enter func141,ntmps141
 exact zDa
theorem ZM (es:List Stil.B1)(f:Stil.B1->Nat)(F:Nat)(S:∀args w,(callFunc F args).run prog w=.ok (.enter F args) w)(R:∀x∈es,FQ F x (f x))
  (B l:Nat) (v:Value) (w:World) (Q:N8 w v es) (hl:es.length<=999999) (N:w.cell? ⟨B,0,none⟩=some (.func (.func F) #[] #[])) (K:B<w.heap.size):
  Calls prog 140 #[v, .int .i64 l, .func (.func 141) #[] #[.pointer (some ⟨B,0,none⟩)]] w λe w'=>e=.returned (.int .i64 (Bg l (es.map f)))/\Below w.heap.size w w':=by
 obtain⟨a,cap,rfl,U,O⟩:=Q.shape;have X:=Ab O;have IH:=Ab R;have Y:=Ab N;have HE:=Ab S;clear O R N S U Q;go_enter func140,ntmps140
 go_wp2
 go_loopw [1,11] (λd i wr=>∃(j m:Nat),j<=es.length/\i=.int .i64 j/\d=.int .i64 m/\m=Bg l ((es.map f).take j)/\Below w.heap.size w wr) (λ_ i _=>es.length - (intOf i).toNat)
 case atStart=>exact⟨0,l,AU,rfl,rfl,rfl,Below.refl _ _⟩
 case round=>
  obtain⟨j,m,hj,rfl,rfl,J,hb⟩:=hrel;have HM:=Ab J;clear J;by_cases hlt:j<es.length
  .obtain⟨b,o,rfl,C,G⟩:=X j hlt
   obtain⟨x0,x1,av,nv,x2,x3,z,t⟩:=(Hh.below hb _ _ _ G C).open;have A:Hid (Bg l ((es.map f).take (j+1))=max (Bg l ((es.map f).take j)) (f es[j])):=by
    show _=_
    rw[Jt yDa,EU]
   have y:Hid (∀W,Below wr.heap.size wr W->Calls prog 141 #[.int .i64 m, .agg #[.int .i64 es[j].kind, .int .i64 es[j].one.op,av,nv], .pointer (some ⟨B,0,none⟩)] W λe w'=>e=.returned (.int .i64 (max m (f es[j]):Nat))/\Below W.heap.size W w'):=by
    intro W E;have I:=hb.trans (E.mono hb.size);exact YM es[j] (f es[j]) F B m av nv W HE (IH es[j] (CG hlt)) (z.below E) (t.below E) ((I.cell (p:=⟨B,0,none⟩) K).trans Y.out) (B8 K I.size)
   obtain⟨x,M⟩:∃x,x=es[j]:=⟨_,rfl⟩
   rw[<-M] at y x0 x1 z t A;obtain⟨p0,r0,rfl,T⟩:=z.shape;obtain⟨p1,r1,rfl,V,_⟩:=t.shape;obtain⟨D,H⟩:∃D,D=f x:=⟨_,rfl⟩
   rw[<-H] at y A;have ab:=B8 C hb.size;clear T V M G C H
   go_wp2_with (go_at_call 141;refine(y _ AX).mono ?_;rintro e w2 ⟨rfl,aa⟩;have Z:=(show Below w.heap.size w _ from hb.trans ((show Below wr.heap.size wr _ from AX).mono hb.size)).trans (aa.mono yCj))
   refine⟨⟨j+1,max m D,AU,by go_num,rfl,?_,Z⟩,by simp[intOf];omega⟩;rw[A.out,<-HM.out]
  .exact zd0
theorem XZ (es:List Stil.B1)(f:Stil.B1->Nat)(F:Nat)(m:∀args w,(callFunc F args).run prog w=.ok (.enter F args) w)(j:∀x∈es,FQ F x (f x))
  (a:Nat) (v:Value) (w:World) (l:N8 w v es) (hl:es.length<=999999):
  Calls prog 108 #[v, .int .i64 a, .func (.func F) #[] #[]] w λe w'=>e=.returned (.int .i64 (Bg a (es.map f)))/\Below w.heap.size w w':=by
 have y:=Ab (λW B h z A=>ZM es f F m j B a v W (l.below h) hl z A);obtain⟨G,D,rfl,t,_⟩:=l.shape;clear t j m;go_enter func108,ntmps108
 go_wp2_with (go_at_call 140;refine(y _ _ AX (by simp[go_sem]) AW).mono ?_;rintro e C ⟨rfl,E⟩)
 go_ret;exact⟨rfl,AX⟩
theorem N2:(prog.info? 66).map (λi=>(i.zero,i.size,i.bytes))=some (some (.agg #[.int .i64 0, .int .i64 0, .slice none 0 0]),3,40):=AY
end
variable {av cv kv nv:Value}{k op:Int}
def EG (w:World)(b:Nat)(k op:Int)(av nv cv kv:Value):Prop:=b<w.heap.size/\w.cell? ⟨b,0,none⟩=some (.int .i64 k)/\w.cell? ⟨b,1,none⟩=some (.int .i64 op)/\w.cell? ⟨b,2,none⟩=some av/\w.cell? ⟨b,3,none⟩=some nv/\w.cell? ⟨b,4,none⟩=some cv/\w.cell? ⟨b,5,none⟩=some kv/\w.frozen? ⟨b,0,none⟩=false/\w.frozen? ⟨b,1,none⟩=false/\w.frozen? ⟨b,2,none⟩=false/\w.frozen? ⟨b,3,none⟩=false/\w.frozen? ⟨b,4,none⟩=false/\w.frozen? ⟨b,5,none⟩=false
def BF {W:World}{b:Nat}(h:EG W b k op av nv cv kv:=by refine⟨BH,?_,?_,?_,?_,?_,?_,?_,?_,?_,?_,?_,?_⟩<;>first | (exact BN;done) | (repeat (first | with_reducible assumption | with_reducible refine Jv.trans ?_ | with_reducible refine Nc.trans ?_ | with_reducible refine(Gp BH).trans ?_ | (simp[go_sem];done)))):EG W b k op av nv cv kv:=h
theorem EG.grownO {w w':World}{b:Nat}{r:Option Nat}(h:EG w b k op av nv cv kv)(hg:w.grownBy w' r)(hr:r≠some b):EG w' b k op av nv cv kv:=by
 obtain⟨j,l⟩:=h;have e:w'.heap[b]?=w.heap[b]?:=hg.block b j (λx=>hr x.symm);have f:∀o,w'.cell? ⟨b,o,none⟩=w.cell? ⟨b,o,none⟩:=λo=>by unfold World.cell?;rw[e]
 have a:∀o,w'.frozen? ⟨b,o,none⟩=w.frozen? ⟨b,o,none⟩:=λo=>by unfold World.frozen?;rw[e]
 refine⟨B8 j hg.size,?_⟩;rw[f,f,f,f,f,f,a,a,a,a,a,a];exact l
section
variable {L g P:Nat}{w:World}{bs:List Nat}{ts:List Ia}{i op:Int}{v u c d:Value}{p q r s b:Nat}
def StL.set6 {o1 o2 o3 o4 o5 o6:Nat}{x1 x2 x3 x4 x5 x6:Value}(h:StL L g P w bs ts)(a:b∈bs):StL L g P ((((((w.setCell ⟨b,o1,none⟩ x1).setCell ⟨b,o2,none⟩ x2).setCell ⟨b,o3,none⟩ x3).setCell ⟨b,o4,none⟩ x4).setCell ⟨b,o5,none⟩ x5).setCell ⟨b,o6,none⟩ x6) bs ts:=((h.set4 a).set a).set a
theorem StL.arm (h:StL L g P w bs ((16,r,[d])::(4,p,[.int .i64 i, .int .i64 op,v,u])::(12,q,[c])::ts))(m:p+q+r<s):StL L g P w bs ((6,s,[.int .i64 i, .int .i64 op,v,u,c,d])::ts):=(h.add (y:=(6,s,_)) λS hS=>by
 obtain⟨t,l,j,e,f,a⟩:=(hS (4,p,[.int .i64 i, .int .i64 op,v,u]) (.tail _ (.head _))).nt;replace a:t<p:=a;show ClT S 6 s [.int .i64 i, .int .i64 op,v,u,c,d]
 exact ClT.mkA l j e f (show SlT S 2 q c from ClT.sl (hS (12,q,[c]) (.tail _ (.tail _ (.head _))))) (show SlT S 6 r d from ClT.sl (hS (16,r,[d]) (.head _))) AU).un.un.un
end
def ArL (L g P N:Nat)(w:World)(bs:List Nat)(ts:List Ia)(e:Ending)(w':World):Prop:=∃i op a n c z x f j l t h m y,e=.returned (.agg #[.int .i64 i, .int .i64 op, .slice a n c, .slice z x f, .slice j l t, .slice h m y])/\StL L g P w' bs ((6,N,[.int .i64 i, .int .i64 op, .slice a n c, .slice z x f, .slice j l t, .slice h m y])::ts)/\w.grownBy w' (some g)
abbrev ArR:=ArL 50000
def IP:Nat->Nat
 | 0=>1000
 | m+1=>3*IP m+1000
def JV:Nat->Nat
 | 0=>20
 | m+1=>3*JV m+20
def AcT (w e:World)(g Q:Nat)(bs:List Nat)(ts:List Ia)(m:Nat):Prop:=∃(i op:Int) (l:Option Addr) (t h:Nat) (f:Option Addr) (n j:Nat) (a:DC) (v:Value),EG e w.heap.size 0 0 (.slice none 0 0) (.slice none 0 0) (.slice none 0 0) (.slice none 0 0)/\EG e (w.heap.size+1) i op (.slice l t h) (.slice f n j) v (.slice none 0 0)/\e.ownsRow (w.heap.size+2) 51 2 v a.length (flat a)/\(a=[]->v=.slice none 0 0)/\a.length<=m/\tot a<=m/\St g Q e (ob v++(w.heap.size+1)::w.heap.size::bs) (rowT 2 a++(4,13,[.int .i64 i, .int .i64 op, .slice l t h, .slice f n j])::ts)/\w.grownBy e (some g)
def AkT (w a:World)(g Q:Nat)(bs:List Nat)(ts:List Ia)(m N:Nat):Prop:=∃(i op:Int) (z:Option Addr) (x n:Nat) (l:Option Addr) (t y:Nat) (f:Option Addr) (h j:Nat) (e:DC) (v:Value),EG a w.heap.size 0 0 (.slice none 0 0) (.slice none 0 0) (.slice none 0 0) (.slice none 0 0)/\EG a (w.heap.size+1) i op (.slice z x n) (.slice l t y) (.slice f h j) v/\a.ownsRow (w.heap.size+2) 60 6 v e.length (flat e)/\(h=0->f=none/\j=0)/\e.length<=m/\tot e<=m*N/\St g Q a (ob v++(w.heap.size+1)::w.heap.size::bs) (rowT 6 e++(4,13,[.int .i64 i, .int .i64 op, .slice z x n, .slice l t y])::(12,2,[.slice f h j])::ts)/\w.grownBy a (some g)
theorem AkT.mono {w e:World}{g Q R:Nat}{bs:List Nat}{ts:List Ia}{m n N:Nat}(h:AkT w e g Q bs ts m N)(I:Q<=R)(a:m<=n):AkT w e g R bs ts n N:=by
 obtain⟨i,op,K,l,E,B,G,y,F,t,J,M,v,H,z,f,j,A,D,x,C⟩:=h;exact⟨i,op,K,l,E,B,G,y,F,t,J,M,v,H,z,f,j,CB A a,CB D (JC _ a),x.mono I,C⟩
abbrev AkT.mo:=@AkT.mono
def zva {p:Prop}(h:p:=by
 go_wp2
 refine bodyPost_ret (by simp[results,results60,go_sem,q0,q1,q2,q3,q4,q5];rfl) rfl ?_;exact⟨_,_,_,_,_,_,_,_,_,_,_,_,_,_,rfl,hfin _ (P+740+3*C) 2 _ _ _ AU AU (hS.set6 (.tail _ (.head _))),Av⟩):p:=h
theorem WX (C N:Nat)(d:Int)(aM:0<=d)(aI:d<=100)(ih:0<d->∀(d':Int) (root:Bool) (g P:Nat) (w:World) (bs:List Nat) (ts:List Ia),d'=d - 1->St g P w bs ts->P+C<=100000000->Calls prog 60 #[.pointer (some ⟨g,0,none⟩), .int .i64 d', .bool root] w (ArR g (P+C) N w bs ts))
  (root:Bool) (g P:Nat) (w:World) (bs:List Nat) (ts:List Ia) (h:St g P w bs ts) (hP:P+(3*C+1000)<=100000000):
  Calls prog 60 #[.pointer (some ⟨g,0,none⟩), .int .i64 d, .bool root] w (ArR g (P+(3*C+1000)) (3*N+20) w bs ts):=by
 have hg:=Tf h.rd;have ar:∀b∈(w.heap.size+1)::w.heap.size::bs,b<w.heap.size+2:=λb hb=>by
  simp only[C2] at hb;rcases hb with rfl | rfl | hb
  .omega
  .omega
  .have:=(h.lt hb).2;omega
 have IH:Hid (0<d->∀(d':Int) (root:Bool) (g P:Nat) (w:World) (bs:List Nat) (ts:List Ia),d'=d - 1->St g P w bs ts->P+C<=100000000->Calls prog 60 #[.pointer (some ⟨g,0,none⟩), .int .i64 d', .bool root] w (ArR g (P+C) N w bs ts)):=ih;have au:=(h.box (.cells #[.int .i64 0, .int .i64 0, .slice none 0 0, .slice none 0 0, .slice none 0 0, .slice none 0 0] 60)).box (.cells #[.int .i64 0, .int .i64 0, .slice none 0 0, .slice none 0 0, .slice none 0 0, .slice none 0 0] 60);have hS:St g P ((w.alloc (.cells #[.int .i64 0, .int .i64 0, .slice none 0 0, .slice none 0 0, .slice none 0 0, .slice none 0 0] 60)).alloc (.cells #[.int .i64 0, .int .i64 0, .slice none 0 0, .slice none 0 0, .slice none 0 0, .slice none 0 0] 60)) ((w.heap.size+1)::w.heap.size::bs) ts:=by rw[World.size_alloc] at au;exact au
 clear h ih au;go_enter func60,ntmps60;go_upto_region 2 with fail
 go_cut [16] (λc wq=>∃b:Bool,c=.bool b/\St g (P+1) wq ((w.heap.size+1)::w.heap.size::bs) ts/\w.grownBy wq (some g)/\EG wq w.heap.size 0 0 (.slice none 0 0) (.slice none 0 0) (.slice none 0 0) (.slice none 0 0)/\EG wq (w.heap.size+1) 0 0 (.slice none 0 0) (.slice none 0 0) (.slice none 0 0) (.slice none 0 0))
 case first=>
  cases root
  .go_wp2_with (go_at_call_of 33 (Value.int IntKind.i64 3);refine(Fe g _ _ _ ((hS).rd) AU AU AU).mono ?_;rintro e wa ⟨x,rfl,ai,ao,af,m⟩;have hS:=(hS).go af m;obtain⟨Z,q0,V,q1,R,q2,Y,q3,T,q4,U,q5,Q⟩:E7 wa w.heap.size:=FD;obtain⟨ad,q6,p6,q7,p7,q8,p8,q9,p9,S,aa,X,ac⟩:E7 wa ((w.heap.size+1)):=FD;have t:=Bl (show w.grownBy _ (some g) from Av) m;clear af m)
   go_meet;exact⟨decide (0<x),rfl,hS,t,BF,BF⟩
  .go_wp2
   go_meet;exact⟨true,rfl,hS.mono AU,Av,BF,BF⟩
 case rest=>
  clear hS;obtain⟨b,rfl,hS,t,⟨Z,q0,q1,q2,q3,q4,q5,V,R,Y,T,U,Q⟩,⟨ad,q6,q7,q8,q9,S,X,p6,p7,p8,p9,aa,ac⟩⟩:=hcut;have aK:I6 2=650:=rfl;have aY:JU 2=13:=rfl;go_upto_if 16 with fail
  go_cut [] (λwq=>AcT w wq g (P+651) bs ts 0)
  case first=>
   go_wp2_with (go_at_call 91;refine(zK 2 _ g _ _ _ _ AU rfl hS AU).mono ?_;rintro e wb ⟨F,G,I,z,D,J,E,B,rfl,hS,m⟩;obtain⟨Z,q0,V,q1,R,q2,Y,q3,T,q4,U,q5,Q⟩:E7 wb w.heap.size:=FD;obtain⟨ad,q6,p6,q7,p7,q8,p8,q9,p9,S,aa,X,ac⟩:E7 wb ((w.heap.size+1)):=FD;have t:=Bl (show w.grownBy _ (some g) from Av) m;clear m)
   .go_meet
    exact⟨F,G,I,z,D,J,E,B,[],_,BF,BF,World.ownsRow_nil _ _ _ _,λ_=>rfl,B7 _,B7 _,((hS.set4 (.head _)).mono AU),Av⟩
   .go_meet
    exact⟨0,0,none,0,0,none,0,0,[],_,BF,BF,World.ownsRow_nil _ _ _ _,λ_=>rfl,B7 _,B7 _,(hS.add (y:=(4,13,_)) λaF _=>ClT.mkN AZ AZ SlT.nil (SlT.nil (s:=0)) AZ).mono AU,Av⟩
  case rest=>
   clear q0 q1 q2 q3 q4 q5 q6 q7 q8 q9 S X V R Y T U Q p6 p7 p8 p9 aa ac hS t
   go_wp2_with (go_at_call 33;obtain⟨F,G,I,z,D,J,E,B,css,v,l,f,n,ag,ae,ab,hS,t⟩:=hcut;refine(Fe g _ _ _ hS.rd AU AU AU).mono ?_;rintro e w3 ⟨x,rfl,ai,ao,sZ,dQ⟩)
   obtain⟨x2,nY⟩:=FN ai;subst nY;have aA:x2<=2:=AU
   have aj:AcT w w3 g (P+652+40*(2 - x2)) bs ts (2 - x2):=⟨F,G,I,z,D,J,E,B,css,v,l.grownO dQ Ax,f.grownO dQ Ax,Cf n dQ AU,ag,AU,AU,(hS.go sZ dQ).mono AU,Bl t dQ⟩
   clear l f n ag ae ab hS t sZ;go_loopw [8] (λi wr=>∃j:Nat,j<=2/\i=.int .i64 j/\AcT w wr g (P+652+40*(2 - j)) bs ts (2 - j)) (λi _=>(intOf i).toNat)
   case atStart=>exact⟨x2,aA,rfl,aj⟩
   case round=>
    clear aj;obtain⟨j,hj,rfl,F,G,I,z,D,J,E,B,css,v,l,f,n,ag,ae,ab,hS,t⟩:=hrel;obtain⟨Z,q0,q1,q2,q3,q4,q5,V,R,Y,T,U,Q⟩:=id l;obtain⟨ad,q6,q7,q8,q9,S,X,p6,p7,p8,p9,aa,ac⟩:=id f;obtain⟨K,M,rfl,aj⟩:=G8 n;by_cases aB:0<j
    .have nG:=DU ag
     clear ag;go_upto_region 7 with fail
     go_region_law (first | (refine I9 rfl rfl (StL.push _ kd2 hS n AU AU) rfl rfl ?_;rintro v' w6 ⟨hown6,ak,aC,-⟩;obtain⟨iI,gZ,rfl,-⟩:=G8 hown6;have l:=l.grownO aC (λe=>by have:=(n.lt _ e).1;omega);have f:=f.grownO aC (λe=>by have:=(n.lt _ e).1;omega);obtain⟨Z,q0,q1,q2,q3,q4,q5,V,R,Y,T,U,Q⟩:=id l;obtain⟨ad,q6,q7,q8,q9,S,X,p6,p7,p8,p9,aa,ac⟩:=id f) | (go_simp;go_at_call 58;refine(Ql g _ _ hS.drew.rd AU).mono ?_;rintro e w5 ho;obtain⟨o3,a4,n4,c4,rfl,hS,H⟩:=hS.drew.el ho AZ;have m:wr.grownBy w5 (some g):=⟨H.os,H.tape,H.output,H.size,H.block⟩;have n:=Cf n m AU;have l:=l.grownO m Ax;have f:=f.grownO m Ax;obtain⟨Z,q0,q1,q2,q3,q4,q5,V,R,Y,T,U,Q⟩:=id l;obtain⟨ad,q6,q7,q8,q9,S,X,p6,p7,p8,p9,aa,ac⟩:=id f))
     all_goals go_wp2
     all_goals
      obtain⟨jj,rfl⟩:∃jj,j=jj+1:=⟨j - 1,AU⟩
      refine⟨⟨jj,AU,by go_num,F,G,I,z,D,J,E,B,_, .slice iI (css.length+1) gZ,BF,BF,ownsRow_setCell_below BX (DN _) _,λh=>absurd h AW,?_,?_,(ak.set AW).mono AU,KX AW (Ih (Bl t m) aC (λk hk=>by have:=(n.lt _ hk).1;omega)) _⟩,by simp[intOf]⟩
      .simp;omega
      .simp only[tot,CX,FX,CN,EB,Da,IV] at ab ⊢
       omega
    .have nG:=DU ag
     have hI:=(hS.ice (s:=2) n ar AU AU)
     have hS:St g (P+732) wr ((w.heap.size+1)::w.heap.size::bs) ((4,13,[.int .i64 F, .int .i64 G, .slice I z D, .slice J E B])::(12,2,[.slice K css.length M])::ts):=(hI.sub (λ_ h=>h) (λx hx=>by simp only[C2] at hx ⊢;rcases hx with h | h | h;exact .inr (.inl h);exact .inl h;exact .inr (.inr h))).mono AU;have O:css.length=0->K=none/\M=0:=λe=>by
      have:=nG (List.length_eq_zero_iff.1 e)
      rw[e] at this;cases this;exact⟨rfl,rfl⟩
     obtain⟨A,aw⟩:∃A,A=css.length:=⟨_,rfl⟩
     rw[<-aw] at hS O f S aj;have ah:AkT w wr g (P+732) bs ts 0 N:=⟨F,G,I,z,D,J,E,B,K,A,M,[],_,l,f,World.ownsRow_nil _ _ _ _,O,B7 _,DK _,hS,t⟩
     clear ag nG hI n ae ab aw l f hS t O aj q0 q1 q2 q3 q4 q5 q6 q7 q8 q9 S X V R Y T U Q p6 p7 p8 p9 aa ac Z ad;go_upto_region 8 with fail
     go_cut [39] (λc wq=>∃b:Bool,c=.bool b/\(b=true->0<d)/\AkT w wq g (P+733) bs ts 0 N)
     case first=>
      by_cases ap:0<d
      .obtain⟨F,G,I,z,D,J,E,B,K,A,M,css,v,l,f,n,O,ae,ab,hS,t⟩:=ah
       obtain⟨Z,q0,q1,q2,q3,q4,q5,V,R,Y,T,U,Q⟩:=id l
       go_wp2_with (go_at_call 33;refine(Fe g _ _ _ hS.rd AU AU AU).mono ?_;rintro e wk ⟨x,rfl,ai,ao,af,m⟩)
       go_meet;exact⟨x==0,rfl,λ_=>ap,F,G,I,z,D,J,E,B,K,A,M,css,v,l.grownO m Ax,f.grownO m Ax,Cf n m AU,O,ae,ab,(hS.go af m).mono AU,Bl t m⟩
      .go_wp2
       go_meet;exact⟨false,rfl,λh=>BM,ah.mono AU (B7 _)⟩
     case rest=>
      clear ah;obtain⟨b,rfl,ax,al⟩:=hcut;go_upto_if 39 with fail
      go_cut [] (λwq=>AkT w wq g (P+740+3*C) bs ts 3 N)
      case first=>
       cases b
       .go_wp2
        go_meet;exact al.mono AU AU
       .have ap:=ax rfl
        go_wp2_with (go_at_call 33;obtain⟨F,G,I,z,D,J,E,B,K,A,M,css,v,l,f,n,O,ae,ab,hS,t⟩:=al;refine(Fe g _ _ _ hS.rd AU AU AU).mono ?_;rintro e wk ⟨x,rfl,ai,ao,af,m⟩)
        obtain⟨x2,nY⟩:=FN ai;subst nY;have ah:AkT w wk g (P+740+0*C) bs ts 0 N:=⟨F,G,I,z,D,J,E,B,K,A,M,css,v,l.grownO m Ax,f.grownO m Ax,Cf n m AU,O,ae,ab,(hS.go af m).mono AU,Bl t m⟩
        clear l f n O ae ab hS t af m;go_loopw [9] (λi wr=>∃j k:Nat,k+j=1+x2/\i=.int .i64 j/\AkT w wr g (P+740+k*C) bs ts k N) (λi _=>(intOf i).toNat)
        case atStart=>exact⟨1+x2,0,AU,by go_num,ah⟩
        case round=>
         clear ah;obtain⟨j,k,aD,rfl,F,G,I,z,D,J,E,B,K,A,M,css,v,l,f,n,O,ae,ab,hS,t⟩:=hrel;have ay:k*C<=3*C:=JC _ AU;obtain⟨Z,q0,q1,q2,q3,q4,q5,V,R,Y,T,U,Q⟩:=id l;obtain⟨ad,q6,q7,q8,q9,S,X,p6,p7,p8,p9,aa,ac⟩:=id f;obtain⟨a4,c4,rfl,-⟩:=G8 n;by_cases aB:0<j
         .have ay:(k+1)*C<=3*C:=JC _ AU
          rw[FP] at ay;have xU:=DU O;clear O;go_upto_region 12 with fail
          go_region_law (first | (refine I9 rfl rfl (StL.push _ kd6 hS n AU AU) rfl rfl ?_;rintro v' w6 ⟨hown6,ak,aC,-⟩;obtain⟨iI,gZ,rfl,-⟩:=G8 hown6;have l:=l.grownO aC (λe=>by have:=(n.lt _ e).1;omega);have f:=f.grownO aC (λe=>by have:=(n.lt _ e).1;omega);obtain⟨Z,q0,q1,q2,q3,q4,q5,V,R,Y,T,U,Q⟩:=id l;obtain⟨ad,q6,q7,q8,q9,S,X,p6,p7,p8,p9,aa,ac⟩:=id f) | (go_simp;go_at_call 60;refine(IH ap _ _ g _ _ _ _ yCb hS.drew AU).mono ?_;rintro e w5 ⟨i5,o5,b1,m1,d1,b2,m2,d2,b3,m3,d3,b4,m4,d4,rfl,hS,H⟩;have m:wr.grownBy w5 (some g):=⟨H.os,H.tape,H.output,H.size,H.block⟩;have n:=Cf n m AU;have l:=l.grownO m Ax;have f:=f.grownO m Ax;obtain⟨Z,q0,q1,q2,q3,q4,q5,V,R,Y,T,U,Q⟩:=id l;obtain⟨ad,q6,q7,q8,q9,S,X,p6,p7,p8,p9,aa,ac⟩:=id f))
          all_goals go_wp2
          all_goals
           refine⟨⟨j - 1,k+1,AU,by go_num,F,G,I,z,D,J,E,B,K,A,M,_, .slice iI (css.length+1) gZ,BF,BF,ownsRow_setCell_below BX (DN _) _,xU.out,?_,?_,(ak.set AW).mono (by rw[FP];omega),KX AW (Ih (Bl t m) aC (λk hk=>by have:=(n.lt _ hk).1;omega)) _⟩,by simp[intOf];omega⟩
           .simp;omega
           .simp only[tot,CX,FX,CN,EB,Da,IV,FP] at ab ⊢
            omega
         .have aL:k*N<=3*N:=JC _ AU
          go_wp2
          go_meet;exact⟨F,G,I,z,D,J,E,B,K,A,M,css,_,l,f,n,O,AU,AU,hS.mono AU,t⟩
      case rest=>
       clear al ax;obtain⟨F,G,I,z,D,J,E,B,K,A,M,css,v,l,f,n,O,ae,ab,hS,t⟩:=hcut;obtain⟨Z,q0,q1,q2,q3,q4,q5,V,R,Y,T,U,Q⟩:=id l;obtain⟨ad,q6,q7,q8,q9,S,X,p6,p7,p8,p9,aa,ac⟩:=id f;obtain⟨a4,c4,rfl,-⟩:=G8 n;replace hS:=hS.ice (s:=3*N) n ar AU AU;obtain⟨n4,az⟩:∃n4,n4=css.length:=⟨_,rfl⟩
       rw[<-az] at f hS X;clear n ae ab az css;have hfin:∀(W:World) (an q:Nat) (K:Option Addr) (A M:Nat),an<=P+(3*C+1000)->q<=2->St g an W ((w.heap.size+1)::w.heap.size::bs) ((16,3*N,[.slice a4 n4 c4])::(4,13,[.int .i64 F, .int .i64 G, .slice I z D, .slice J E B])::(12,q,[.slice K A M])::ts)->St g (P+(3*C+1000)) W bs ((6,3*N+20,[.int .i64 F, .int .i64 G, .slice I z D, .slice J E B, .slice K A M, .slice a4 n4 c4])::ts):=λW an q K A M hQ hq h=>((h.drop.drop).arm AU).mono hQ
       by_cases h3:A=0
       .obtain⟨e1,e2⟩:=O h3
        clear O;subst h3 e1 e2;by_cases h4:n4=0
        .subst h4
         go_upto_region 14 with fail
         go_region_law (first | (refine I9 rfl rfl (StL.push (css:=[]) (v:=.slice none 0 0) (bs:=(w.heap.size+1)::w.heap.size::bs) _ kd2 hS (World.ownsRow_nil _ (w.heap.size+2) _ _) AU AW) rfl rfl ?_;rintro v' w6 ⟨hown6,ak,aC,-⟩;obtain⟨iI,gZ,rfl,-⟩:=G8 hown6;have l:=l.grownO aC yDi;have f:=f.grownO aC yDi;obtain⟨Z,q0,q1,q2,q3,q4,q5,V,R,Y,T,U,Q⟩:=id l;obtain⟨ad,q6,q7,q8,q9,S,X,p6,p7,p8,p9,aa,ac⟩:=id f) | (go_simp;go_at_call 58;refine(Ql g _ _ hS.drew.rd AU).mono ?_;rintro e w5 ho;obtain⟨o3,a5,n5,c5,rfl,hS,H⟩:=hS.drew.el ho AZ;have m:wc.grownBy w5 (some g):=⟨H.os,H.tape,H.output,H.size,H.block⟩;have l:=l.grownO m Ax;have f:=f.grownO m Ax;obtain⟨Z,q0,q1,q2,q3,q4,q5,V,R,Y,T,U,Q⟩:=id l;obtain⟨ad,q6,q7,q8,q9,S,X,p6,p7,p8,p9,aa,ac⟩:=id f))
         all_goals go_wp2
         all_goals
          have hI:=StL.ice (s:=1) ak hown6 ar (by simp[tot]) AW;refine bodyPost_ret (by simp[results,results60,go_sem,q0,q1,q2,q3,q4,q5];rfl) rfl ?_;have aJ:w.grownBy w6 (some g):=Ih (Bl t m) aC (λk hk=>by simp[Value.ownBlock] at hk);refine⟨_,_,_,_,_,_,_,_,_,_,_,_,_,_,rfl,hfin _ _ 1 _ _ _ AU AU (((hI.set (.head _)).set6 (.tail _ (.head _))).sub (λ_ h=>h) (λx hx=>?_)),Av⟩;simp only[C2] at hx ⊢;rcases hx with h | h | h | h
          .exact .inr (.inl h)
          .exact .inr (.inr (.inl h))
          .exact .inl h
          .exact .inr (.inr (.inr (.inr h)))
        .have aE:((n4:Int)==0)=false:=by rw[CJ];omega
         exact zva
       .have aH:((A:Int)==0)=false:=by rw[CJ];omega
        exact zva
theorem Azz (m:Nat):∀(d:Int) (root:Bool) (g P:Nat) (w:World) (bs:List Nat) (ts:List Ia),m<=100->d=m->St g P w bs ts->P+IP (m+1)<=100000000->Calls prog 60 #[.pointer (some ⟨g,0,none⟩), .int .i64 d, .bool root] w (ArR g (P+IP (m+1)) (JV (m+1)) w bs ts):=by
 have e:∀m,IP (m+1)=3*IP m+1000:=λ_=>rfl
 have f:∀m,JV (m+1)=3*JV m+20:=λ_=>rfl
 induction m with
 | zero=>
  intro d root g P w bs ts _ hd h a;rw[e] at a ⊢;rw[f];exact WX _ _ d AU AU (λh=>by omega) root g P w bs ts h a
 | succ m j=>
  intro d root g P w bs ts l hd h a;rw[e] at a ⊢;rw[f];exact WX _ _ d AU AU (λ_ d root g P w bs ts hd=>j d root g P w bs ts AU AU) root g P w bs ts h a
