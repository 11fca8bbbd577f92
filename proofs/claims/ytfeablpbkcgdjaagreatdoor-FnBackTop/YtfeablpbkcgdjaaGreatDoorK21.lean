import Derived.Test.YtfeablpbkcgdjaaGreatDoorGt
import Derived.Test.YtfeablpbkcgdjaaGreatDoorGP
import Derived.Test.YtfeablpbkcgdjaaGreatDoorBT1
set_option maxHeartbeats 8000000
set_option maxRecDepth 100000
namespace Go.Proofs.YtfeablpbkcgdjaaGreatDoor
open Tryz Go.RowKit Go.Sort Go.BigFrame
section
variable {L g P:Nat}{w:World}{bs:List Nat}{ts:List Ia}{i op:Int}{v u c d:Value}{p q r s b:Nat}
theorem StL.leaf (h:StL L g P w bs ((12,1,[c])::(2,q,[.int .i64 op,v])::ts)):StL L g P w bs ((6,3,[.int .i64 1, .int .i64 op,v, .slice none 0 0,c, .slice none 0 0])::ts):=(h.add (y:=(6,3,_)) λS hS=>by
  obtain⟨f,e⟩:=ClT.el (hS (2,q,[.int .i64 op,v]) (.tail _ (.head _)))
  exact ClT.mkA AZ f e (SlT.nil (s:=0)) (ClT.sl (k:=2) (hS (12,1,[c]) (.head _))) (SlT.nil (s:=0)) (show 0+1+0+1<3 by decide)).un.un
theorem StL.wrap (h:StL L g P w bs ((16,r,[d])::ts)):StL L g P w bs ((6,r+2,[.int .i64 0, .int .i64 0, .slice none 0 0, .slice none 0 0, .slice none 0 0,d])::ts):=(h.add (y:=(6,r+2,_)) λS hS=>ClT.mkA AZ AZ SlT.nil (SlT.nil (s:=0)) (SlT.nil (s:=0)) (ClT.sl (k:=6) (hS (16,r,[d]) (.head _))) (show 0+0+r+1<r+2 by omega)).un
theorem StL.renet {l e:Int}{v0 j:Value}(h:StL L g P w bs ((2,q,[.int .i64 op,v])::(6,s,[.int .i64 l, .int .i64 e,v0,j,c,d])::ts)):StL L g P w bs ((6,s,[.int .i64 1, .int .i64 op,v, .slice none 0 0,c,d])::ts):=(h.add (y:=(6,s,_)) λS hS=>by
  obtain⟨C,B⟩:=ClT.el (hS (2,q,[.int .i64 op,v]) (.head _));obtain⟨z,t,m,_,_,_,_,A,x,f⟩:=ClT.am (hS (6,s,[.int .i64 l, .int .i64 e,v0,j,c,d]) (.tail _ (.head _)));replace f:z+t+m+1<s:=f
  exact ClT.mkA AZ C B (SlT.nil (s:=0)) A x (show 0+t+m+1<s by omega)).un.un
end
def FkT (w e:World)(B g Q s:Nat)(bs:List Nat)(ts:List Ia):Prop:=∃(i o:Int) (D:Option Addr) (t j:Nat) (f:Option Addr) (m A:Nat) (l:Option Addr) (x z:Nat) (h:Option Addr) (y C:Nat),EG e w.heap.size 0 0 (.slice none 0 0) (.slice none 0 0) (.slice none 0 0) (.slice none 0 0)/\EG e B i o (.slice D t j) (.slice f m A) (.slice l x z) (.slice h y C)/\St g Q e (B::w.heap.size::bs) ((6,s,[.int .i64 i, .int .i64 o, .slice D t j, .slice f m A, .slice l x z, .slice h y C])::ts)/\w.grownBy e (some g)
theorem ov (n g P:Nat)(w:World)(bs:List Nat)(ts:List Ia)(hn:n<=20)(h:St g P w bs ts)(hP:P<=100000000):
    Calls prog 59 #[.pointer (some ⟨g,0,none⟩), .int .i64 n] w (ArR g (P+5000) 200 w bs ts):=by
  have hg:=Tf h.rd;have hS:=h.box (.cells #[.int .i64 0, .int .i64 0, .slice none 0 0, .slice none 0 0, .slice none 0 0, .slice none 0 0] 60);clear h;go_enter func59,ntmps59
  go_wp2_with (first | (go_at_call 61;refine(Hy g _ _ (hS).rd AU).mono ?_;rintro af wa f;obtain⟨op,aa,na,ca,rfl,hS,e⟩:=(hS).el f AZ;obtain⟨S,J,p0,q1,V,M,p2,I,Y,N,Z,E,O⟩:E7 wa w.heap.size:=FD;have m:=Bl (show w.grownBy _ (some g) from Av) e;clear f e) | (go_at_call 58;refine(Ql g _ _ (hS).rd AU).mono ?_;rintro af wb f;obtain⟨iw,A,z,y,rfl,hS,e⟩:=(hS).el f AZ;obtain⟨S,J,p0,q1,V,M,p2,I,Y,N,Z,E,O⟩:E7 wb w.heap.size:=FD;have m:=Bl (show w.grownBy _ (some g) from Av) e;clear f e))
  have ah:FkT w ((wb.alloc (.cells #[.int .i64 iw, .slice A z y] 51)).alloc (.cells #[.int .i64 1, .int .i64 op, .slice aa na ca, .slice none 0 0, .slice (some ⟨wb.heap.size,0,none⟩) 1 1, .slice none 0 0] 60)) (wb.heap.size+1) g (P+60) 3 bs ts:=by
    have hL:=(((hS.lit1 (n:=wb.heap.size) #[.int .i64 iw, .slice A z y] 51 AZ rfl rfl).leaf).box (.cells #[.int .i64 1, .int .i64 op, .slice aa na ca, .slice none 0 0, .slice (some ⟨wb.heap.size,0,none⟩) 1 1, .slice none 0 0] 60)).mono (Q:=P+60) AU;rw[World.size_alloc] at hL;exact⟨1,op,aa,na,ca,none,0,0,_,1,1,none,0,0,BF,BF,hL,Av⟩
  obtain⟨B,ag⟩:∃B,B=wb.heap.size+1:=⟨_,rfl⟩
  have an:w.heap.size<B:=AU
  rw[<-ag] at ah;rw[<-ag];clear ag hS m;go_loopw [6] (λi wr=>∃j:Nat,j<=n/\i=.int .i64 j/\FkT w wr B g (P+60+100*j) (3+5*j) bs ts) (λi _=>n - (intOf i).toNat)
  case atStart=>exact⟨0,AU,rfl,ah⟩
  case round=>
    clear ah;obtain⟨j,hj,rfl,i1,o1,a1,R,c1,A,z,y,D,C,F,K,G,H,t,l,hS,m⟩:=hrel;obtain⟨ad,q6,U,q8,q9,X,ae,p6,T,p8,p9,ab,ac⟩:=id l;by_cases al:j<n
    . go_upto_region 5 with fail
      go_cut [] (λwq=>FkT w wq B g (P+120+100*j) (8+5*j) bs ts)
      case first=>
       go_region_law (first | (go_simp;go_at_call 61;refine(Hy g _ _ hS.drew.rd AU).mono ?_;rintro af w5 f;obtain⟨o3,b3,m3,d3,rfl,hS,aG⟩:=hS.drew.el f AZ;have e:wr.grownBy w5 (some g):=⟨aG.os,aG.tape,aG.output,aG.size,aG.block⟩;have t:=t.grownO e Ax;have l:=l.grownO e Ax;have m:=Bl m e;obtain⟨ad,q6,U,q8,q9,X,ae,p6,T,p8,p9,ab,ac⟩:=id l) | (go_simp;go_at_call 58;refine(Ql g _ _ hS.rd AU).mono ?_;rintro af w6 f;obtain⟨o4,b4,m4,d4,rfl,hS,e⟩:=hS.el f AZ;have t:=t.grownO e Ax;have l:=l.grownO e Ax;have m:=Bl m e;obtain⟨ad,q6,U,q8,q9,X,ae,p6,T,p8,p9,ab,ac⟩:=id l))
       all_goals go_wp2
       all_goals go_meet
       all_goals
        obtain⟨S,J,q1,M,I,N,E,p0,V,p2,Y,Z,O⟩:=id t;have hL:=λx1 x2 x3 x4 x5 x6=>((((hS.set6 (o1:=0) (o2:=1) (o3:=2) (o4:=3) (o5:=4) (o6:=5) (x1:=x1) (x2:=x2) (x3:=x3) (x4:=x4) (x5:=x5) (x6:=x6) (.head _)).lit1 (n:=w6.heap.size) #[.int .i64 o4, .slice b4 m4 d4] 51 AZ rfl AW).leaf).lit (s:=6+5*j) (n:=w6.heap.size+1) [(3+5*j,[.int .i64 i1, .int .i64 o1, .slice a1 R c1, .slice A z y, .slice D C F, .slice K G H]),(3,[.int .i64 1, .int .i64 o3, .slice b3 m3 d3, .slice none 0 0, .slice (some ⟨w6.heap.size,0,none⟩) 1 1, .slice none 0 0])] #[.int .i64 i1, .int .i64 o1, .slice a1 R c1, .slice A z y, .slice D C F, .slice K G H, .int .i64 1, .int .i64 o3, .slice b3 m3 d3, .slice none 0 0, .slice (some ⟨w6.heap.size,0,none⟩) 1 1, .slice none 0 0] 60 AZ AW rfl (by simp[tot];omega) AW AW).un.un.wrap
        exact⟨0,0,none,0,0,none,0,0,none,0,0,some ⟨w6.heap.size+1,0,none⟩,2,2,⟨BH,BN,BN,BN,BN,BN,BN,ffA,ffA,ffA,ffA,ffA,ffA⟩,⟨BH,BN,BN,BN,BN,BN,BN,ffA,ffA,ffA,ffA,ffA,ffA⟩,((hL _ _ _ _ _ _).mono AU).grew AU,Av⟩
      case rest=>
        clear t l hS m q6 U q8 q9 X ae p6 T p8 p9 ab ac ad;obtain⟨i1,o1,a1,R,c1,A,z,y,D,C,F,K,G,H,t,l,hS,m⟩:=hcut;obtain⟨S,J,q1,M,I,N,E,p0,V,p2,Y,Z,O⟩:=id t;obtain⟨ad,q6,U,q8,q9,X,ae,p6,T,p8,p9,ab,ac⟩:=id l;clear t l
        go_wp2_with (first | (go_at_call_of 33 (Value.int IntKind.i64 2);refine(Fe g _ _ _ ((hS).rd) AU AU AU).mono ?_;rintro af wd ⟨x,rfl,aj,ak,ai,e⟩;have hS:=(hS).go ai e;obtain⟨S,J,p0,q1,V,M,p2,I,Y,N,Z,E,O⟩:E7 wd w.heap.size:=FD;obtain⟨ad,q6,p6,U,T,q8,p8,q9,p9,X,ab,ae,ac⟩:CU wd B (.int .i64 i1) (.int .i64 o1) (.slice a1 R c1) (.slice A z y) (.slice D C F) (.slice K G H):=qb6;have m:=Bl (show w.grownBy _ (some g) from Av) e;clear ai e) | (go_at_call 61;refine(Hy g _ _ (hS).rd AU).mono ?_;rintro af we f;obtain⟨aP,ea,en,ec,rfl,hS,e⟩:=(hS).el f AZ;obtain⟨S,J,p0,q1,V,M,p2,I,Y,N,Z,E,O⟩:E7 we w.heap.size:=FD;obtain⟨ad,q6,p6,U,T,q8,p8,q9,p9,X,ab,ae,ac⟩:CU we B (.int .i64 i1) (.int .i64 o1) (.slice a1 R c1) (.slice A z y) (.slice D C F) (.slice K G H):=qb6;have m:=Bl (show w.grownBy _ (some g) from Av) e;clear f e))
        . exact⟨⟨j+1,AU,by go_num,1,aP,ea,en,ec,none,0,0,D,C,F,K,G,H,BF,BF,((hS.renet.set4 (.head _)).mono AU).grew AU,Av⟩,by simp[intOf];omega⟩
        . exact⟨⟨j+1,AU,by go_num,i1,o1,a1,R,c1,A,z,y,D,C,F,K,G,H,BF,BF,(hS.mono AU).grew AU,Av⟩,by simp[intOf];omega⟩
    . obtain rfl:j=n:=by omega
      obtain⟨S,J,q1,M,I,N,E,p0,V,p2,Y,Z,O⟩:=id t;clear t l
      go_wp2_with (go_at_call 61;refine(Hy g _ _ (hS).rd AU).mono ?_;rintro af we f;obtain⟨aP,ea,en,ec,rfl,hS,e⟩:=(hS).el f AZ;obtain⟨S,J,p0,q1,V,M,p2,I,Y,N,Z,E,O⟩:E7 we w.heap.size:=FD;obtain⟨ad,q6,p6,U,T,q8,p8,q9,p9,X,ab,ae,ac⟩:CU we B (.int .i64 i1) (.int .i64 o1) (.slice a1 R c1) (.slice A z y) (.slice D C F) (.slice K G H):=qb6;have m:=Bl (show w.grownBy _ (some g) from Av) e;clear f e)
      refine bodyPost_ret (by simp[results,results59,go_sem,J,q1,M,I,N,E];rfl) rfl ?_;exact⟨_,_,_,_,_,_,_,_,_,_,_,_,_,_,rfl,(((hS.renet.set4 (.head _)).set6 (.tail _ (.head _))).drop.drop.mono AU).grew AU,Av⟩
section
open Go.ChangeShapes Go.WideShapes Go.ChangeAt
theorem X2:prog.globalNamed "loop.example/stilway/impl.listWords" =some 1:=AY
theorem nj:(prog.globals[1]?).map (·.type)=some 224:=AY
theorem iS {W:World}{l:List (String × DataW Unit)}(h:laidMet prog l W)(J:("loop.example/stilway/impl.listWords",DataW.agg (Stil.listWords.map λx=>DataW.lit (Lit.string x)))∈l):Hl W:=by
 obtain⟨V,D,_,_⟩:=h;obtain⟨g,t,U,fuel,p,Q,K,E,F⟩:=PI D J;obtain rfl:=DT (X2.symm.trans Q);obtain rfl:=DT (nj.symm.trans K);have S:=λj=>World.var?_cell X2 E j
 obtain⟨f,m,_,O,T,D,I⟩:=DataW.trod_array underlying224 F;have M:(Stil.listWords.map λx=>DataW.lit (H:=Unit) (Lit.string x))=f.map (·.1):=DataW.agg.inj (RF O).1;have z:∀k:Nat,k<12->W.cell? ⟨1,k,none⟩=some (.string ⟨(Stil.listWords.getD k []).toArray⟩):=by
  intro k B;have A:k<f.length:=AU
  have C:=I k B;rw[YF,D1 A,Nat.mul_one] at C;obtain⟨s,N,G,_⟩:=DataW.trod_string underlying9 C;have y:k<Stil.listWords.length:=B;have e:f[k].1=.lit (.string (Stil.listWords.getD k [])):=by
   have:=congrArg (λl=>l[k]?) M
   simp only[LI,D1 A,Jx] at this;rw[D1 y] at this;rw[<-DT this,List.getD,D1 y];rfl
  rw[G] at e;simp only[DataW.lit.injEq,Lit.string.injEq] at e;have R:s=⟨(Stil.listWords.getD k []).toArray⟩:=XB (by rw[e]);rw[S,<-R];have:=congrArg (λl=>l[0]?) N
  simpa[fk,fl] using this
 exact⟨lt_of_cell (z 0 AU),z⟩
open Stil
section
variable {a:Option Addr}{k n:Nat}
variable {L g P:Nat}{w:World}{bs:List Nat}{ts:List Ia}{i op:Int}{v u c d:Value}{p q r s b:Nat}
theorem StL.coiled {us:List Ia}(h:StL L g P w bs us)(f:(4,p,[.int .i64 i, .int .i64 op,v,u])∈us)(m:(12,q,[c])∈us)(A:∀x∈ts,x∈us)(C:p+q<s):StL L g P w bs ((6,s,[.int .i64 i, .int .i64 op,v,u,c, .slice none 0 0])::ts):=h.mk (y:=(6,s,_)) (λS hS=>by
 obtain⟨t,B,z,j,l,e⟩:=ClT.nt (hS _ f);replace e:t<p:=e
 exact ClT.mkA B z j l (ClT.sl (k:=2) (hS _ m)) (SlT.nil (s:=0)) (show t+q+0+1<s by omega)) A
theorem StL.cut {c m:Nat}(h:StL L g P w bs ((k+10,s,[.slice a n c])::ts))(e:m<=n):StL L g P w bs ((k+10,s,[.slice a m c])::ts):=h.mk (y:=(k+10,s,_)) (λS hS=>by
 obtain⟨E,C,D,A,l,f,t,j⟩:=ClT.sl (hS (k+10,s,[.slice a n c]) (.head _));cases A
 exact SlT.cl ⟨a,m,c,rfl,CB e l,CB e f,t,λh=>let ⟨b,o,B,r,x,y,z⟩:=j (B8 h e);⟨b,o,B,r,x,CB e y,z⟩⟩) (λ_ h=>.tail _ h)
theorem StL.cap {c:Nat}(h:StL L g P w bs ((k+10,s,[.slice a n c])::ts)):n<=c:=by
 obtain⟨S,_,_,_,e⟩:=h;obtain⟨t,m,l,j,f,_⟩:=ClT.sl (e (k+10,s,[.slice a n c]) (.head _));cases j;exact f
end
def LaL (L g P N:Nat)(w:World)(bs:List Nat)(ts:List Ia)(e:Ending)(w':World):Prop:=∃a n c,e=.returned (.slice a n c)/\StL L g P w' bs ((16,N,[.slice a n c])::ts)/\w.grownBy w' (some g)
def lenV:Value->Nat
 | .slice _ n _=>n
 | _=>0
def LaT (w f:World)(v:Value)(g Q k:Nat)(bs:List Nat)(ts:List Ia):Prop:=∃e:DC,e.length=k/\f.ownsRow w.heap.size 60 6 v e.length (flat e)/\tot e<=e.length*800/\St g Q f (ob v++bs) (rowT 6 e++ts)/\w.grownBy f (some g)
theorem mH (g P:Nat)(w:World)(bs:List Nat)(ts:List Ia)(h:St g P w bs ts)(hP:P<=1000000):
  Calls prog 32 #[.pointer (some ⟨g,0,none⟩)] w (LaL 50000 g (P+200000) 4000 w bs ts):=by
 have hg:=Tf h.rd;have J:∀b∈bs,b<w.heap.size:=λb hb=>(h.lt hb).2
 have t:(w.alloc (.cells #[] 60)).ownsRow w.heap.size 60 6 (.slice (some ⟨w.heap.size,0,none⟩) 0 0) 0 []:=by
  have:=World.ownsRow_lit (base:=w.heap.size) (e:=60) (size:=6) w #[] 0 AU BI rfl
  simpa using this
 have hS:=h.box (.cells #[] 60);clear h;go_enter func32,ntmps32;go_upto_region 3 with(go_at_call_of 33 (Value.int IntKind.i64 24);refine(Fe g _ _ _ hS.rd AU AU AU).mono ?_;rintro e wa ⟨x,rfl,ar,ad,z,f⟩;have R:=f.size;rw[World.size_alloc] at R;replace hS:=hS.go z f;replace t:=Cf t f AU;have y:=Bl (show w.grownBy _ (some g) from Av) f;clear z f)
 by_cases B:x=0
 .subst B
  go_wp2_with (first | (go_at_call_of 57 (6:Nat);refine(Zr g _ _ _ [9,15,16,17,18,30] _ (hS.alloc _).rd AU (Dh (by simp[F5,go_sem])) AW BQ AW AW).mono ?_;rintro e K ⟨x,rfl,B,z,f⟩;simp only[C2,EJ,EK] at B;obtain⟨m,rfl⟩:∃m:Nat,x=m:=⟨x.toNat,AU⟩;replace hS:=(hS.alloc _).go z f;have H:=f.size;rw[World.size_alloc] at H;replace t:=Cf (t.alloc _) f AU;have y:=Bl (show w.grownBy _ (some g) from Av) f;clear z f) | (go_at_call 56;refine(ot m g _ _ _ _ AU hS AU).mono ?_;rintro e wd ⟨Q,T,M,I,F,V,O,N,rfl,hS,f⟩;have ah:=f.size;replace t:=Cf t f AU;have y:=Bl (show w.grownBy _ (some g) from Av) f;clear f) | (go_at_call 58;refine(Ql g _ _ hS.rd AU).mono ?_;rintro e we ho;obtain⟨op,a,n,c,rfl,hS,f⟩:=hS.el ho AZ;have aA:=f.size;replace t:=Cf t f AU;have y:=Bl (show w.grownBy _ (some g) from Av) f;clear ho f) | (at_builtin;refine Bd rfl rfl (StL.push (v:=(.slice (some ⟨w.heap.size,0,none⟩) 0 0)) (css:=[]) (bs:=bs) (ts:=ts) _ kd6 ((hS.lit1 (n:=we.heap.size) #[.int .i64 op, .slice a n c] 51 AZ rfl rfl).coiled (p:=700) (q:=1) (s:=702) AW AW (λx B=>.tail _ (.tail _ B)) AZ) (t.alloc _) yBd AW) rfl (by rw[World.size_alloc];rfl) ?_;rintro v' w6 ⟨A,G,C,-⟩;obtain⟨iI,X,rfl,-⟩:=G8 A))
  go_ret;exact⟨_,_,_,rfl,((G.ice (s:=702) A J (by simp[tot]) AW).mono AU).grew AZ,Ih (Xy y _) C (λk E=>(t.lt _ E).1)⟩
 .by_cases ad:x=1
  .subst ad
   go_wp2_with (first | (go_at_call_of 57 (5:Nat);refine(Zr g _ _ _ [5,7,8,9,12] _ (hS.alloc _).rd AU (Dh (by simp[F5,go_sem])) AW BQ AW AW).mono ?_;rintro e K ⟨x,rfl,B,z,f⟩;simp only[C2,EJ,EK] at B;obtain⟨m,rfl⟩:∃m:Nat,x=m:=⟨x.toNat,AU⟩;replace hS:=(hS.alloc _).go z f;have H:=f.size;rw[World.size_alloc] at H;replace t:=Cf (t.alloc _) f AU;have y:=Bl (show w.grownBy _ (some g) from Av) f;clear z f) | (go_at_call 59;refine(ov m g _ _ _ _ AU hS AU).mono ?_;rintro e wd ⟨Q,T,M,I,F,V,O,N,a3,Z,c3,a4,n4,c4,rfl,hS,f⟩;have ah:=f.size;replace t:=Cf t f AU;have y:=Bl (show w.grownBy _ (some g) from Av) f;clear f) | (at_builtin;refine Bd rfl rfl (StL.push (v:=(.slice (some ⟨w.heap.size,0,none⟩) 0 0)) (css:=[]) (bs:=bs) (ts:=ts) _ kd6 hS t AU AW) rfl rfl ?_;rintro v' w6 ⟨A,G,C,-⟩;obtain⟨iI,X,rfl,-⟩:=G8 A))
   go_ret;exact⟨_,_,_,rfl,((G.ice (s:=200) A J (by simp[tot]) AW).mono AU).grew AZ,Ih y C (λk E=>(t.lt _ E).1)⟩
  .by_cases aj:x=2
   .subst aj
    go_wp2
    go_ret;exact⟨_,_,_,rfl,((StL.ice (v:=(.slice (some ⟨w.heap.size,0,none⟩) 0 0)) (css:=[]) (ts:=ts) (s:=0) hS t J (B7 _) AW).mono AU).grew AZ,y⟩
   .go_wp2_with (go_at_call_of 33 (Value.int IntKind.i64 4);refine(Fe g _ _ _ hS.rd AU AU AU).mono ?_;rintro e K ⟨ax,rfl,al,ao,z,f⟩;have H:=f.size;replace hS:=hS.go z f;replace t:=Cf t f AU;have y:=Bl (show w.grownBy _ (some g) from Av) f;clear z f)
    obtain⟨y2,an⟩:=FN al;subst an;have ag:LaT w K (.slice (some ⟨w.heap.size,0,none⟩) 0 0) g (P+100+0*40000) 0 bs ts:=⟨[],rfl,t,B7 _,hS.mono AU,y⟩
    have ac:w.heap.size<=K.heap.size:=AU
    clear t hS y R H;have xI:IP 3=40000:=rfl;have ai:JV 3=800:=rfl;go_loopw [3,4] (λo i wr=>∃j k:Nat,k+j=1+y2/\i=.int .i64 j/\w.heap.size<=wr.heap.size/\LaT w wr o g (P+100+k*40000) k bs ts) (λ_ i _=>(intOf i).toNat)
    case atStart=>exact⟨1+y2,0,AU,by go_num,ac,ag⟩
    case round=>
     clear ag ac;obtain⟨j,k,av,rfl,aB,css,rfl,t,ae,hS,y⟩:=hrel;obtain⟨a0,c0,rfl,-⟩:=G8 t;by_cases aD:0<j
     .have Y:=DU (Azz 2 2 true g _ wr _ _ AU rfl hS (by show _+IP 3<=_;omega))
      simp only[Nat.reduceAdd,xI,ai] at Y
      go_wp2_with (first | (go_at_call 60;refine Y.mono ?_;rintro e wd ⟨Q,T,M,I,F,V,O,N,a3,Z,c3,a4,n4,c4,rfl,hS,f⟩;have ah:=f.size;have t:=Cf t f AU;have y:=Bl y f;clear f) | (at_builtin;refine Bd rfl rfl (StL.push (v:=(.slice a0 css.length c0)) (css:=css) (bs:=bs) (ts:=ts) _ kd6 hS t AU AU) rfl rfl ?_;rintro v' w6 ⟨A,G,C,-⟩;obtain⟨iI,X,rfl,-⟩:=G8 A))
      have fA:=C.size;refine⟨⟨j - 1,css.length+1,AU,by go_num,AU,css++[(800,[.int .i64 Q, .int .i64 T, .slice M I F, .slice V O N, .slice a3 Z c3, .slice a4 n4 c4])],AW,by rw[CO];exact A,?_,G.mono AU,Ih y C (λk E=>(t.lt _ E).1)⟩,by simp[intOf];omega⟩;simp only[tot,CX,FX,CO,CN,EB,Da,IV,CC,CM] at ae ⊢;omega
     .have aE:¬(0:Int)<j:=by omega
      have ab:∃a n c,Value.slice a0 css.length c0=.slice a n c/\St g (P+170000) wr bs ((16,4000,[.slice a n c])::ts)/\w.grownBy wr (some g):=⟨_,_,_,rfl,((hS.ice (s:=4000) t J AU AU).mono AU),y⟩
      clear t hS y ae
      go_wp2
      go_loopw [3] (λo wq=>∃a n c,o=.slice a n c/\St g (P+170000) wq bs ((16,4000,[.slice a n c])::ts)/\w.grownBy wq (some g)) (λo _=>lenV o)
      case atStart=>exact ab
      case round=>
       clear ab;obtain⟨M,I,F,rfl,hS,y⟩:=hrel;have au:=hS.cap (k:=6);obtain⟨l,a',c',hv,af,aa,aF,hts⟩:=hS.arms AZ (.head _);cases hv;have U:=DU (M4 l _ wr af AU aa);obtain⟨S,uU⟩:∃S,S=Bc l:=⟨_,rfl⟩
       rw[<-uU] at U hts;clear af aa uU;by_cases az:l.length=0
       .have R:decide (0<(l.length:Int))=false:=by rw[ES];omega
        go_wp2
        go_ret;exact⟨_,_,_,rfl,hS.mono AU,y⟩
       .have ap:0<(l.length:Int):=by omega
        have aG:(0:Int)<=(l.length:Int) - 1:=AU
        have aH:(l.length:Int) - 1<=F:=AU
        have aw:((l.length:Int) - 1).toNat=l.length - 1:=AU
        by_cases ay:400<S
        .have ak:(400:Int)<S:=by omega
         go_wp2_with (go_at_call 41;refine U.mono ?_;rintro e w5 ⟨rfl,D⟩)
         refine⟨⟨_,l.length - 1,_,rfl,(hS.bel D).cut (k:=6) AU,Bl y (grown_below D _)⟩,?_⟩;show l.length - 1<l.length
         omega
        .have ak:¬(400:Int)<S:=by omega
         go_wp2_with (go_at_call 41;refine U.mono ?_;rintro e w5 ⟨rfl,D⟩)
         go_ret;exact⟨_,_,_,rfl,(hS.bel D).mono AU,Bl y (grown_below D _)⟩
def KW (F:FuncId)(x:Stil.B1)(L:List Stil.Dj):Prop:=∀(e f:Value) (w:World) (bs:List Nat) (ts:List (List Tr × List Value)),Sv w bs ts->Ak w e x.one.args->Eo w f x.kids->Calls prog F #[.agg #[.int .i64 x.kind, .int .i64 x.one.op,e,f]] w (FI Wj 3 66 L w bs ts)
def QL (k:Int)(x:Stil.B1)(L:List Stil.Dj):Prop:=∀(e f:Value) (w:World) (bs:List Nat) (ts:List (List Tr × List Value)),Sv w bs ts->Ak w e x.one.args->Eo w f x.kids->Calls prog 78 #[.int .i64 k, .agg #[.int .i64 x.kind, .int .i64 x.one.op,e,f]] w (FI Wj 3 66 L w bs ts)
theorem zKa {p:Prop}(h:p:=by
 go_wp2_with (go_at_call 77;refine(HC _ AX _ _ hS).mono ?_;rintro e w1 ⟨a1,c1,rfl,hS,hb1⟩)
 go_ret;exact kg hS AX):p:=h
theorem XK (k:Int)(m:k=2\/k=3)(x:Stil.B1)(N:x.one.args.length<=1048576)(H:(C9 x).length<=900000)(D:x.kind≠1->KW 47 x (C9 x)):QL k x (D5 k x):=by
 intro y E w bs ts h j A;have HC:=Ci (λW (h:Below w.heap.size w W) C B t=>OS x.one N y W C B t (j.below h));have hS:=h.alloc (.cells #[.int .i64 x.kind, .int .i64 x.one.op,y,E] 54);by_cases f:x.kind=1
 .rw[Ju k x f]
  rw[f] at hS ⊢;obtain⟨S,K,rfl,-⟩:=j;obtain⟨O,I,rfl,-⟩:=A;clear f D h;rcases m with rfl | rfl
  all_goals
   go_enter func78,ntmps78
   exact zKa
 .rw[Ik k x f]
  have F:=Ci (λW (h:Below w.heap.size w W) C B t=>D f y E W C B t (j.below h) (A.below h));have Y:(x.kind==1)=false:=by rw[CJ];exact f
  obtain⟨L,G⟩:∃L,L=C9 x:=⟨_,rfl⟩
  rw[<-G] at F H ⊢;obtain⟨S,K,rfl,-⟩:=j;obtain⟨O,I,rfl,-⟩:=A;clear D h G HC;rcases m with rfl | rfl
  all_goals
   go_enter func78,ntmps78
   go_wp2_with (first | (go_at_call 47;refine(F _ AX _ _ hS).mono ?_;rintro e w1 ⟨a1,c1,Z,rfl,l,hS,hb1⟩;have z:Below w.heap.size w w1:=AX;replace l:=Joins.ownsRow_le (base':=w.heap.size) l AW) | (at_builtin;go_loud (refine Bd rfl rfl (K5 _ hS l z.size AU) rfl rfl ?_;rintro X V ⟨R,M,J,rfl,T,Q,U⟩)))
   go_ret;exact⟨R,M,J,AW,T,Q,z.grown U z.size (λk m=>(l.lt _ m).1)⟩
theorem za0 {p:Prop}(h:p:=by
 obtain rfl:j=m:=by omega
 have hL:=HL.out;rw[EC (by rw[<-lX.out];exact B7 _)] at hL;have HL2:=Ci hL;obtain⟨_,q0,p0,q1,p1,q2,p2,q3,p3⟩:=hb0;clear HL hL
 go_wp2
 go_ret;rw[<-HL2.out];exact⟨ra,rc,xs,rfl,Joins.ownsRow_le hown (IX _),hS,hB⟩):p:=h
theorem zGa {p:Prop}(h:p:=by
 refine⟨⟨j+1,L++M,a3,c3,zs,HJ.out,by go_num,aF.symm,hl2,by rw[CO],hb0,hown3,hS3,hB3⟩,?_⟩;have hj3:=HJ.out;clear HJ;simp[intOf];omega):p:=h
theorem QA (n:Stil.B1):Stil.shp n->Bi n->Ac n<=1000->KW 47 n (C9 n):=by
 induction n using Fv with
 | h k e kids U=>
  intro K Z l av nv w bs ts h t A;simp only at t A;have D:=b9 K;simp only at D;have J:=VL K;have C:=OY _ K;have B:=(Gn _ _ _).1 Z;rw[Cj] at l C;simp only at l C;have F:∀x∈kids,Ac x<=1000:=λx hx=>by have:Ac x<=Stil.sizes kids:=Em Ac kids x hx;omega
  have an:kids.length<=1000:=by have:=He kids;omega
  have hS:=h.alloc (.cells #[.int .i64 k, .int .i64 e.op,av,nv] 54);by_cases h1:k=1
  .subst h1
   rw[Lu];have HC:=Ci (λW (h:Below w.heap.size w W) O R l=>OS e B.2.1.2.1 av W O R l (t.below h));obtain⟨Y,n0,rfl,-⟩:=t;obtain⟨s1,E,rfl,-⟩:=A;clear U F D J Z B C K l h;go_enter func47,ntmps47
   exact zKa
  .have aj:kids≠[]:=by
    rcases J with⟨h,_⟩ | ⟨_,h,_⟩ | ⟨_,_,x,h,_⟩
    .exact absurd h h1
    .intro h0;rw[h0] at h;simp at h
    .intro h0;rw[h0] at h;cases h
   obtain⟨x,r,rfl⟩:=LM aj;have dP:=Ci (λW (h:Below w.heap.size w W)=>A.below h);obtain⟨Y,n0,rfl,-⟩:=t;obtain⟨s1,E,rfl,H⟩:=A;obtain⟨b,o,rfl,ar,z⟩:=H 0 AW;simp only[FM,ER,GI] at z;obtain⟨N,S,dU,dW,x2,x3,cO,dH⟩:=z.open;have T:=Ci (λW (h:Below w.heap.size w W) O R l=>U x AW (D x AW) (B.2.2.2 x AW) (F x AW) dU dW W O R l (cO.below h) (dH.below h));have aa:∀y∈x::r,(C9 y).length<=900000:=λy f=>by have:=OY y (D y f);have:=F y f;omega
   have ah:=aa x AW;obtain⟨s2,n2,rfl,-⟩:=cO;obtain⟨s3,n3,rfl,-⟩:=dH;by_cases h4:k=4
   .subst h4
    obtain rfl:r=[]:=by
     rcases J with⟨h,_⟩ | ⟨h,_,_⟩ | ⟨_,_,aA,h,_⟩
     .omega
     .omega
     .simp only[List.cons.injEq] at h;exact h.2
    rw[L6];obtain⟨X,Q⟩:∃X,X=C9 x:=⟨_,rfl⟩
    rw[<-Q] at T ah ⊢;simp only[CC,CM,Cd];clear H z U F K D J l dP Z B C aa Q h;go_enter func47,ntmps47
    go_wp2_with (first | (go_at_call 47;refine(T _ AX _ _ hS).mono ?_;rintro e w1 ⟨a1,c1,xs,rfl,hown,hS,hb1⟩;have ab:Below w.heap.size w w1:=AX;replace hown:=Joins.ownsRow_le (base':=w.heap.size) hown AW) | (at_builtin;go_loud (refine Bd rfl rfl (K5 _ hS hown ab.size AU) rfl rfl ?_;rintro v2 w2 ⟨a2,c2,zs,rfl,ad,al,au⟩)))
    go_ret;exact⟨a2,c2,zs,AW,ad,al,ab.grown au ab.size (λk hk=>(hown.lt _ hk).1)⟩
   .have dJ:k=2\/k=3:=by
     rcases J with⟨h,_⟩ | ⟨h,_,_⟩ | ⟨h,_⟩<;>omega
    have HY:=Ci (λy (f:y∈r)=>XK k dJ y ((Dw (B.2.2.2 y (CH _ f))).2.1.2.1) (aa y (CH _ f)) λ_=>U y (CH _ f) (D y (CH _ f)) (B.2.2.2 y (CH _ f)) (F y (CH _ f)));have az:(k==1)=false:=by rw[CJ];exact h1
    have uA:(k==4)=false:=by rw[CJ];exact h4
    have ae:=Jr (k:=k) e x r h1 h4;have bV:Hid (∀j,(C9 x++((r.take j).map (D5 k)).flatten).length<=900000):=by
     intro j;rw[ae] at C;have h2:((r.take j).map (D5 k)).flatten.length<=(r.map (D5 k)).flatten.length:=by
      conv=>rhs;rw[<-Ft j r,CX,ET,CO]
      omega
     rw[CO] at C ⊢;omega
    rw[ae];obtain⟨X,Q⟩:∃X,X=C9 x:=⟨_,rfl⟩
    rw[<-Q] at T bV ⊢;simp only[CC] at hS ⊢;obtain⟨m,hm⟩:∃m,m=r.length:=⟨_,rfl⟩
    have lX:=Ci hm;rw[<-hm] at hS ⊢;have ax:m<=999:=by simp only[CC] at an;omega
    clear H z U F hm K D J l Z B C aa ae ah Q h;have ay:(0:Int)<(m:Int)+1:=AU
    have hA:=hS;clear hS;go_enter func47,ntmps47
    go_wp2_with (go_at_call 47;refine(T _ AX _ _ hA).mono ?_;rintro e w1 ⟨a1,c1,xs,rfl,hown,hS,hb1⟩;obtain⟨ak,q0,p0,q1,p1,q2,p2,q3,p3⟩:CW w1 w.heap.size (.int .i64 k) (.int .i64 e.op) (.slice Y e.args.length n0) (.slice (some ⟨b,o,none⟩) (m+1) E):=qB4)
    have bM:RowKit.Below w.heap.size w w1:=AX;have hb0:CW w1 w.heap.size (.int .i64 k) (.int .i64 e.op) (.slice Y e.args.length n0) (.slice (some ⟨b,o,none⟩) (m+1) E):=qN4;replace hown:=Joins.ownsRow_le (base':=w.heap.size+1) hown AW;clear q0 q1 q2 q3 p0 p1 p2 p3 ak hb1 N S x2 x3 T hA;go_loopw [3,4] (λd i wr=>∃(j:Nat) (L:List Stil.Dj) (ra:Option Addr) (rc:Nat) (xs:List Value),j<=m/\i=.int .i64 ((j:Int)+1)/\Hid (L=X++((r.take j).map (D5 k)).flatten)/\L.length<=900000/\d=.slice ra L.length rc/\CW wr w.heap.size (.int .i64 k) (.int .i64 e.op) (.slice Y e.args.length n0) (.slice (some ⟨b,o,none⟩) (m+1) E)/\wr.ownsRow (w.heap.size+1) 66 3 (.slice ra L.length rc) L.length xs/\Sv wr (ob (.slice ra L.length rc)++bs) ((Qx L,xs)::ts)/\Below w.heap.size w wr) (λ_ i _=>m+1 - (intOf i).toNat)
    case atStart=>exact⟨0,X,a1,c1,xs,AU,rfl,by show _=_;simp,by simpa using bV 0,rfl,hb0,hown,hS,bM⟩
    case round=>
     clear hb0 hown hS bM;obtain⟨j,L,ra,rc,xs,hj,rfl,HL,iG,rfl,hb0,hown,hS,hB⟩:=hrel;by_cases ap:j<m
     .have ag:j<r.length:=by have:=lX.out;omega
      obtain⟨pa,pc,af,H⟩:=dP wr hB;simp only[CC,Value.slice.injEq,true_and] at af;obtain⟨rfl,-,rfl⟩:=af;obtain⟨b2,o2,uH,aH,z⟩:=H (j+1) yDj;simp only[EQ,Addr.mk.injEq,F3] at uH;obtain⟨rfl,rfl⟩:=uH;simp only[J0] at z;obtain⟨N,S,av,nv,x2,x3,t,A⟩:=z.open;have HI:=Ci (λW (h:Below wr.heap.size wr W) O R l=>HY r[j] (CG ag) av nv W O R l (t.below h) (A.below h));have aF:Hid (X++((r.take (j+1)).map (D5 k)).flatten=L++D5 k r[j]):=by
       show _=_
       rw[HL.out,DO ag,CX,ET];simp
      have hl2:=bV (j+1);rw[aF.out] at hl2;obtain⟨M,hM⟩:∃M,M=D5 k r[j]:=⟨_,rfl⟩
      rw[<-hM] at HI aF hl2;obtain⟨y,f⟩:∃y,y=r[j]:=⟨_,rfl⟩
      rw[<-f] at HI N S t A;obtain⟨u0,m0,rfl,-⟩:=t;obtain⟨u1,m1,rfl,-⟩:=A;have aC:(0:Int)<=(j:Int)+1:=AU
      have aw:(j:Int)+1<(m:Int)+1:=AU
      have aD:((j:Int)+1).toNat=j+1:=AU
      have ao:L.length+M.length<=2000000:=by rw[CO] at hl2;omega
      have fZ:Hid (∀V:World,(∀c,c<=w.heap.size->V.heap[c]?=wr.heap[c]?)->(V.cell? ⟨w.heap.size,0,none⟩=some (.int .i64 k)/\V.cell? ⟨w.heap.size,3,none⟩=some (.slice (some ⟨b,o,none⟩) (m+1) E)/\V.cell? ⟨b,o+(j+1)*4,none⟩=some (.int .i64 y.kind)/\V.cell? ⟨b,o+(j+1)*4+1,none⟩=some (.int .i64 y.one.op)/\V.cell? ⟨b,o+(j+1)*4+2,none⟩=some (.slice u0 y.one.args.length m0)/\V.cell? ⟨b,o+(j+1)*4+3,none⟩=some (.slice u1 y.kids.length m1))):=λV hV=>by
       obtain⟨_,q0,_,_,_,_,_,q3,_⟩:=id hb0;have e1:=hV b (GK ar);have e0:=hV _ (B7 _);exact⟨(World.cell?_of_block (a:=⟨w.heap.size,0,none⟩) e0).trans q0,(World.cell?_of_block (a:=⟨w.heap.size,3,none⟩) e0).trans q3,(World.cell?_of_block (a:=⟨b,_,none⟩) e1).trans N,(World.cell?_of_block (a:=⟨b,_,none⟩) e1).trans S,(World.cell?_of_block (a:=⟨b,_,none⟩) e1).trans x2,(World.cell?_of_block (a:=⟨b,_,none⟩) e1).trans x3⟩
      obtain⟨g0,g1,g2,g3,g4,g5⟩:=fZ wr (λ_ _=>rfl);have HJ:Hid (j+1<=m):=ap;have hz:=hb0.1;clear f hM z H HL N S x2 x3 bV dP HY aH;go_upto_region 10 with fail
      go_region_held3 (λI=>(I.cell? ⟨w.heap.size,0,none⟩=some (.int .i64 k)/\I.cell? ⟨w.heap.size,3,none⟩=some (.slice (some ⟨b,o,none⟩) (m+1) E)/\I.cell? ⟨b,o+(j+1)*4,none⟩=some (.int .i64 y.kind)/\I.cell? ⟨b,o+(j+1)*4+1,none⟩=some (.int .i64 y.one.op)/\I.cell? ⟨b,o+(j+1)*4+2,none⟩=some (.slice u0 y.one.args.length m0)/\I.cell? ⟨b,o+(j+1)*4+3,none⟩=some (.slice u1 y.kids.length m1))) (first | with_reducible assumption | with_reducible exact⟨Dx.trans g0,Dx.trans g1,Dx.trans g2,Dx.trans g3,Dx.trans g4,Dx.trans g5⟩ | skip) (first | (refine I9 rfl rfl (Ut _ hS hown ad BS ao) rfl rfl ?_;rintro v3 w3 ⟨a3,c3,zs,rfl,hown3,hS3,ac⟩;have y8:=fZ.out w3 (λc hc=>(ac.block c BS (λe=>by have:=(hown.lt _ e.symm).1;omega)).trans (G.block c BS));replace hb0:=(hb0.bel G).gr ac (λe=>by have:=(hown.lt _ e).1;omega);have hB3:=(Au hB G).grown ac BS (λk hk=>by have:=(hown.lt _ hk).1;omega)) | (go_simp;go_at_call 78;refine(HI.out _ ((Below.refl _ _).drew) _ _ hS.drew).mono ?_;rintro e w2 ⟨a2,c2,ys,rfl,ad,hS,ai⟩;have G:Below wr.heap.size wr w2:=((Below.refl wr.heap.size wr).drew).trans ai;have aB:=G.size;have y9:=fZ.out w2 (λc hc=>G.block c BS);replace hown:=ownsRow_below hown G))
      all_goals
       go_wp2
       exact zGa
     .exact za0
theorem etG:prog.globalNamed "errors.errorType" =some 0:=AY
theorem fL:(prog.cutTypes.find? (·.1== "internal/reflectlite.rtype")).map (·.2)=some 176:=AY
theorem eM:((List.range prog.types.size).filter λt=>prog.rowNamed t [101,114,114,111,114])=[44]:=AY
theorem nu {W:World}(h:handlesMet prog [("errors.errorType",DataW.iface "internal/reflectlite.rtype" (.agg [.ptr (.lit (.string [101,114,114,111,114]))]))] W):En W:=by
 obtain⟨name,u,x,B,j,m,z,e⟩:=h _ (List.mem_singleton.2 rfl);have A:=(DT B).symm;subst A;obtain rfl:=DT (fL.symm.trans j);have f:x∈(List.range prog.types.size).filter λt=>prog.rowNamed t [101,114,114,111,114]:=List.mem_filter.2 ⟨List.mem_range.2 m,z⟩
 rw[eM] at f;obtain rfl:=List.mem_singleton.1 f;have y:typeHandle prog 44=.pointer (some ⟨4,44,none⟩):=AY
 rw[y] at e;have l:=World.var?_cell etG e 0;unfold En;simpa using l
section
variable {L g P:Nat}{w:World}{bs:List Nat}{ts:List Ia}{i op:Int}{v u c d:Value}{p q r s b:Nat}
theorem StL.armOf (h:StL L g P w bs ((6,s,[.int .i64 i, .int .i64 op,v,u,c,d])::ts)):∃p q r,p+q+r+1<s/\Sm i/\Sm op/\StL L g P w bs ((16,r,[d])::(12,q,[c])::(14,p,[u])::(13,0,[v])::ts):=by
 obtain⟨S,D,t,l,e⟩:=h;obtain⟨p,q,r,A,j,B,z,C,m,y⟩:=ClT.am (e (6,s,[.int .i64 i, .int .i64 op,v,u,c,d]) (.head _));exact⟨p,q,r,y,A,j,S,D,t,l,List.forall_mem_cons.2 ⟨m.cl,List.forall_mem_cons.2 ⟨C.cl,List.forall_mem_cons.2 ⟨z.cl,List.forall_mem_cons.2 ⟨B.cl,λx f=>e x (.tail _ f)⟩⟩⟩⟩⟩
theorem StL.mkArm {us:List Ia}(h:StL L g P w bs us)(hd:(16,r,[d])∈us)(e:(12,q,[c])∈us)(hu:(14,p,[u])∈us)(f:(13,0,[v])∈us)(j:∀x∈ts,x∈us)(hi:Sm i)(m:Sm op)(l:p+q+r+1<s):StL L g P w bs ((6,s,[.int .i64 i, .int .i64 op,v,u,c,d])::ts):=h.mk (y:=(6,s,_)) (λ_S hS=>ClT.mkA hi m (ClT.sl (k:=3) (hS _ f)) (ClT.sl (k:=4) (hS _ hu)) (ClT.sl (k:=2) (hS _ e)) (ClT.sl (k:=6) (hS _ hd)) l) j
theorem StL.arm6 {s:Nat}{c:List Value}(h:StL L g P w bs ((6,s,c)::ts)):∃i op a n k z f t b m l e y x,c=[.int .i64 i, .int .i64 op, .slice a n k, .slice z f t, .slice b m l, .slice e y x]:=by
 obtain⟨S,_,_,_,A⟩:=h;rcases A (6,s,c) (.head _) with⟨h,_⟩ | ⟨h,_⟩ | ⟨h,_⟩ | ⟨_,i,op,v,p,u,q,c,r,d,rfl,_,_,⟨a,n,k,rfl,_⟩,⟨z,f,t,rfl,_⟩,⟨b,m,l,rfl,_⟩,⟨e,y,x,rfl,_⟩,_⟩ | ⟨j,u,h,_⟩
 .cases h
 .cases h
 .cases h
 .exact⟨i,op,a,n,k,z,f,t,b,m,l,e,y,x,rfl⟩
 .replace h:6=j+10:=h
  omega
end
theorem iu (s:Nat):∀(g P:Nat) (w:World) (bs:List Nat) (ts:List Ia) (k op:Int) (a1:Option Addr) (n1 c1:Nat) (a2:Option Addr) (n2 c2:Nat) (a3:Option Addr) (n3 c3:Nat) (a4:Option Addr) (K c4:Nat),St g P w bs ((6,s,[.int .i64 k, .int .i64 op, .slice a1 n1 c1, .slice a2 n2 c2, .slice a3 n3 c3, .slice a4 K c4])::ts)->P+10*s+100<=100000000->
  Calls prog 62 #[.pointer (some ⟨g,0,none⟩), .agg #[.int .i64 k, .int .i64 op, .slice a1 n1 c1, .slice a2 n2 c2, .slice a3 n3 c3, .slice a4 K c4]] w (ArL 50001 g (P+10*s+100) (s+40) w bs ts):=by
 induction s using Nat.strongRecOn with
 | ind s ih=>
  intro g P w bs ts k op a1 n1 c1 a2 n2 c2 a3 n3 c3 a4 K c4 h hP;have hg:=Tf h.rd;have an:∀b∈(w.heap.size+1)::w.heap.size::bs,b<w.heap.size+2:=λb hb=>by
   simp only[C2] at hb;rcases hb with rfl | rfl | hb
   .omega
   .omega
   .have:=(h.lt hb).2;omega
  obtain⟨p,q,r,aM,hk,ai,h⟩:=h.armOf;have IH:=DU ih;have az:∀(W:World) (au p' q' r':Nat) (us:List Ia) (k op:Int) (v u c d:Value),StL 50001 g au W ((w.heap.size+1)::w.heap.size::bs) us->(16,r',[d])∈us->(12,q',[c])∈us->(14,p',[u])∈us->(13,0,[v])∈us->(∀x∈ts,x∈us)->au<=P+10*s+100->p'+q'+r'+1<s+40->Sm k->Sm op->StL 50001 g (P+10*s+100) W bs ((6,s+40,[.int .i64 k, .int .i64 op,v,u,c,d])::ts):=λW au p' q' r' us k op v u c d h h1 h2 h3 h4 h5 hQ hr hk ho=>(h.drop.drop.mkArm h1 h2 h3 h4 h5 hk ho hr).mono hQ
  have HF:=DU az;have ay:=(h.box (.cells #[.int .i64 k, .int .i64 op, .slice a1 n1 c1, .slice a2 n2 c2, .slice a3 n3 c3, .slice a4 K c4] 60)).box (.cells #[.int .i64 0, .int .i64 0, .slice none 0 0, .slice none 0 0, .slice none 0 0, .slice none 0 0] 60);have hS:St g P ((w.alloc (.cells #[.int .i64 k, .int .i64 op, .slice a1 n1 c1, .slice a2 n2 c2, .slice a3 n3 c3, .slice a4 K c4] 60)).alloc (.cells #[.int .i64 0, .int .i64 0, .slice none 0 0, .slice none 0 0, .slice none 0 0, .slice none 0 0] 60)) ((w.heap.size+1)::w.heap.size::bs) ((16,r,[.slice a4 K c4])::(12,q,[.slice a3 n3 c3])::(14,p,[.slice a2 n2 c2])::(13,0,[.slice a1 n1 c1])::ts):=by rw[World.size_alloc] at ay;exact ay
  clear h ih az ay;go_enter func62,ntmps62;go_upto_region 1 with fail
  go_cut [15] (λc wq=>∃b:Bool,c=.bool b/\(b=true->0<K)/\EG wq w.heap.size k op (.slice a1 n1 c1) (.slice a2 n2 c2) (.slice a3 n3 c3) (.slice a4 K c4)/\EG wq (w.heap.size+1) 0 0 (.slice none 0 0) (.slice none 0 0) (.slice none 0 0) (.slice none 0 0)/\St g (P+1) wq ((w.heap.size+1)::w.heap.size::bs) ((16,r,[.slice a4 K c4])::(12,q,[.slice a3 n3 c3])::(14,p,[.slice a2 n2 c2])::(13,0,[.slice a1 n1 c1])::ts)/\w.grownBy wq (some g))
  case first=>
   by_cases aA:0<K
   .go_wp2_with (go_at_call_of 33 (Value.int IntKind.i64 3);refine(Fe g _ _ _ ((hS).rd) AU AU AU).mono ?_;rintro e wa ⟨x,rfl,aj,al,ag,z⟩;have hS:=(hS).go ag z;obtain⟨aa,q0,U,q1,R,q2,p2,Y,S,q4,T,Q,N⟩:CU wa w.heap.size (.int .i64 k) (.int .i64 op) (.slice a1 n1 c1) (.slice a2 n2 c2) (.slice a3 n3 c3) (.slice a4 K c4):=qb6;obtain⟨ab,E,p6,A,O,D,p8,C,V,B,X,F,Z⟩:E7 wa ((w.heap.size+1)):=FD;have t:=Bl (show w.grownBy _ (some g) from Av) z;clear ag z)
    go_meet;exact⟨decide (0<x),rfl,λ_=>aA,BF,BF,hS,t⟩
   .have aL:decide (0<(K:Int))=false:=by rw[ES];omega
    go_wp2
    go_meet;exact⟨false,rfl,λh=>BM,BF,BF,hS.mono AU,Av⟩
  case rest=>
   clear hS;obtain⟨b,rfl,ap,l,f,hS,t⟩:=hcut;obtain⟨aa,q0,q1,q2,Y,q4,Q,U,R,p2,S,T,N⟩:=id l;obtain⟨ab,E,A,D,C,B,F,p6,O,p8,V,X,Z⟩:=id f;cases b with
   | true=>
    have aA:0<K:=ap rfl;clear ap;go_upto_region 3 with(at_builtin;refine Bd rfl rfl (StL.copy _ kd6 hS (.head _) AZ) rfl rfl ?_;rintro v' w3 ⟨css,m,cc,rfl,rfl,htt,G,hS,J,aw,gV⟩;clear q0 q1 q2 Y q4 Q E A D C B F U R p2 S T N p6 O p8 V X Z)
    replace l:=l.grownO J AW;replace f:=f.grownO J AW;replace t:=Ih t J (λj e=>by cases e);clear J;go_upto_region 4 with(go_at_call_of 33 (css.length:Nat);refine(Fe g _ _ _ hS.rd AU AU AU).mono ?_;rintro e w4 ⟨x,rfl,aj,al,jV,bD⟩;obtain⟨j,rfl⟩:=FN aj;have hj:j<css.length:=AU;clear aj al)
    replace hS:=hS.go jV bD;replace G:=Cf G bD AU;replace l:=l.grownO bD Ax;replace f:=f.grownO bD Ax;replace t:=Bl t bD;clear jV bD;have ae:=LU hS G AZ hj;have aE:css[j].1<=tot css:=KN (CG hj);replace hS:=hS.kid hj;obtain⟨i4,o4,e1,m1,d1,e2,m2,d2,e3,m3,d3,e4,m4,d4,he⟩:=hS.arm6;have aF:=DU (λ(x:Nat × List Value) (I:x.1<=css[j].1+40)=>Lo (x:=x) hj I);rw[he] at ae hS;have HI:=DU (IH css[j].1 AU g _ w4 _ _ _ _ _ _ _ _ _ _ _ _ _ _ _ _ hS AU);obtain⟨ak,hX⟩:∃ak,ak=css[j].1:=⟨_,rfl⟩
    rw[<-hX] at HI aF aE hS;obtain⟨r0,r1,r2,r3,r4,r5⟩:w4.cell? ⟨m,j*6,none⟩=some (.int .i64 i4)/\w4.cell? ⟨m,j*6+1,none⟩=some (.int .i64 o4)/\w4.cell? ⟨m,j*6+2,none⟩=some (.slice e1 m1 d1)/\w4.cell? ⟨m,j*6+3,none⟩=some (.slice e2 m2 d2)/\w4.cell? ⟨m,j*6+4,none⟩=some (.slice e3 m3 d3)/\w4.cell? ⟨m,j*6+5,none⟩=some (.slice e4 m4 d4):=⟨ae 0 _ rfl,ae 1 _ rfl,ae 2 _ rfl,ae 3 _ rfl,ae 4 _ rfl,ae 5 _ rfl⟩
    have aW:m<w4.heap.size:=(hS.lt (.head _)).2;clear ae he hX IH;go_upto_region 5 with(go_at_call 62;refine HI.mono ?_;rintro e H ⟨i5,o5,f1,k1,l1,f2,k2,l2,f3,k3,l3,f4,k4,l4,rfl,ar,ac⟩;have ah:=Cf G ac AU;obtain⟨s0,s1,s2,s3,s4,s5,t0,t1,t2,t3,t4,t5⟩:=(⟨ah.frozenAt (j*6),ah.frozenAt (j*6+1),ah.frozenAt (j*6+2),ah.frozenAt (j*6+3),ah.frozenAt (j*6+4),ah.frozenAt (j*6+5),(Df ac aW AU).trans r0,(Df ac aW AU).trans r1,(Df ac aW AU).trans r2,(Df ac aW AU).trans r3,(Df ac aW AU).trans r4,(Df ac aW AU).trans r5⟩:H.frozen? ⟨m,j*6,none⟩=false/\H.frozen? ⟨m,j*6+1,none⟩=false/\H.frozen? ⟨m,j*6+2,none⟩=false/\H.frozen? ⟨m,j*6+3,none⟩=false/\H.frozen? ⟨m,j*6+4,none⟩=false/\H.frozen? ⟨m,j*6+5,none⟩=false/\H.cell? ⟨m,j*6,none⟩=_/\H.cell? ⟨m,j*6+1,none⟩=_/\H.cell? ⟨m,j*6+2,none⟩=_/\H.cell? ⟨m,j*6+3,none⟩=_/\H.cell? ⟨m,j*6+4,none⟩=_/\H.cell? ⟨m,j*6+5,none⟩=_);clear r0 r1 r2 r3 r4 r5)
    obtain⟨W,hW⟩:∃W,W=EF H m (j*6) [.int .i64 i5, .int .i64 o5, .slice f1 k1 l1, .slice f2 k2 l2, .slice f3 k3 l3, .slice f4 k4 l4]:=⟨_,rfl⟩
    have ao:H.grownBy W (some m):=by rw[hW];exact Uh _ _ _
    have ad:=ar.put (k:=6) (x:=(ak+40,[.int .i64 i5, .int .i64 o5, .slice f1 k1 l1, .slice f2 k2 l2, .slice f3 k3 l3, .slice f4 k4 l4])) (css:=css) (o:=j*6) (i:=j) (.head _);have ax:=OT (x:=(ak+40,[.int .i64 i5, .int .i64 o5, .slice f1 k1 l1, .slice f2 k2 l2, .slice f3 k3 l3, .slice f4 k4 l4])) ar.tl ah AZ hj rfl;rw[<-hW] at ad ax;have uP:((((((H.setCell ⟨m,j*6,none⟩ (.int .i64 i5)).setCell ⟨m,j*6+1,none⟩ (.int .i64 o5)).setCell ⟨m,j*6+2,none⟩ (.slice f1 k1 l1)).setCell ⟨m,j*6+3,none⟩ (.slice f2 k2 l2)).setCell ⟨m,j*6+4,none⟩ (.slice f3 k3 l3)).setCell ⟨m,j*6+5,none⟩ (.slice f4 k4 l4))=W:=hW.symm;rw[uP];have hI:=StL.ice (s:=r+40) (bs:=(w.heap.size+1)::w.heap.size::bs) ad (v:=.slice (some ⟨m,0,none⟩) css.length cc) ax (λb hb=>by have:=an b hb;omega) (by have:=aF (ak+40,[.int .i64 i5, .int .i64 o5, .slice f1 k1 l1, .slice f2 k2 l2, .slice f3 k3 l3, .slice f4 k4 l4]) (B7 _);omega) (by rw[Gk];omega);obtain⟨aa,q0,q1,q2,Y,q4,Q,U,R,p2,S,T,N⟩:=(l.grownO ac Ax).grownO ao Ax;obtain⟨ab,E,A,D,C,B,F,p6,O,p8,V,X,Z⟩:=(f.grownO ac Ax).grownO ao Ax;have af:w.grownBy W (some g):=Ih (Bl t ac) ao (λj e=>by cases e;omega);clear hW uP ax ad ao ac ah G ar hS s0 s1 s2 s3 s4 s5 t0 t1 t2 t3 t4 t5 HI aF l f t
    go_wp2
    refine bodyPost_ret (by simp[results,results62,go_sem,E,A,D,C,B,F];rfl) rfl ?_;exact⟨_,_,_,_,_,_,_,_,_,_,_,_,_,_,rfl,HF _ _ p q (r+40) _ _ _ _ _ _ _ ((hI.set (.tail _ (.head _))).set6 (.head _)) AW AW AW AW (λx I=>by simp[I]) AU AU hk ai,Av⟩
   | false=>
    clear ap IH l f;go_upto_region 9 with(go_at_call_of 33 (Value.int IntKind.i64 6);refine(Fe g _ _ _ ((hS).rd) AU AU AU).mono ?_;rintro e w2 ⟨x,rfl,aj,al,ag,z⟩;have hS:=(hS).go ag z;obtain⟨aa,q0,U,q1,R,q2,p2,Y,S,q4,T,Q,N⟩:CU w2 w.heap.size (.int .i64 k) (.int .i64 op) (.slice a1 n1 c1) (.slice a2 n2 c2) (.slice a3 n3 c3) (.slice a4 K c4):=qb6;obtain⟨ab,E,p6,A,O,D,p8,C,V,B,X,F,Z⟩:E7 w2 ((w.heap.size+1)):=FD;have t:=Bl (show w.grownBy _ (some g) from Av) z;clear ag z)
    have I:x=0\/x=1\/x=2\/x=3\/x=4\/x=5:=AU
    clear aj al;have l:EG w2 w.heap.size k op (.slice a1 n1 c1) (.slice a2 n2 c2) (.slice a3 n3 c3) (.slice a4 K c4):=⟨aa,q0,q1,q2,Y,q4,Q,U,R,p2,S,T,N⟩
    have f:EG w2 (w.heap.size+1) 0 0 (.slice none 0 0) (.slice none 0 0) (.slice none 0 0) (.slice none 0 0):=⟨ab,E,A,D,C,B,F,p6,O,p8,V,X,Z⟩
    rcases I with rfl | rfl | rfl | rfl | rfl | rfl
    .clear l f
     go_wp2
     refine bodyPost_ret (by simp[results,results62,go_sem,E,A,D,C,B,F];rfl) rfl ?_;exact⟨_,_,_,_,_,_,_,_,_,_,_,_,_,_,rfl,HF _ _ 0 q r _ _ _ _ _ _ _ (((((((hS.more1 (M:=50001) AZ).nils (k:=4)).nils (k:=3).set (.tail _ (.head _))).set (.tail _ (.head _))).set (.tail _ (.head _))).set (.tail _ (.head _))).set6 (.head _)) AW AW AW AW (λx I=>by simp[I]) AU AU AZ AZ,Av⟩
    .clear l f
     go_wp2_with (go_at_call_of 33 (Value.int IntKind.i64 2);refine(Fe g _ _ _ ((hS.set (.tail _ (.head _))).rd) AU AU AU).mono ?_;rintro e w4 ⟨y,rfl,aN,aK,ag,z⟩;have hS:=(hS.set (.tail _ (.head _))).go ag z;obtain⟨aa,q0,U,q1,R,q2,p2,Y,S,q4,T,Q,N⟩:CU w4 w.heap.size (.int .i64 k) (.int .i64 op) (.slice a1 n1 c1) (.slice a2 n2 c2) (.slice none 0 0) (.slice a4 K c4):=qb6;obtain⟨ab,E,p6,A,O,D,p8,C,V,B,X,F,Z⟩:E7 w4 ((w.heap.size+1)):=FD;have t:=Bl (show w.grownBy _ (some g) from Av) z;clear ag z)
     .refine bodyPost_ret (by simp[results,results62,go_sem,E,A,D,C,B,F];rfl) rfl ?_
      exact⟨_,_,_,_,_,_,_,_,_,_,_,_,_,_,rfl,HF _ _ p 0 0 _ _ _ _ _ _ _ ((((hS.more1 (M:=50001) AZ).nils (k:=2)).nils (k:=6).set (.tail _ (.head _))).set6 (.head _)) AW AW AW AW (λx I=>by simp[I]) AU AU hk ai,Av⟩
     .refine bodyPost_ret (by simp[results,results62,go_sem,E,A,D,C,B,F];rfl) rfl ?_
      exact⟨_,_,_,_,_,_,_,_,_,_,_,_,_,_,rfl,HF _ _ p 0 r _ _ _ _ _ _ _ ((hS.more1 (M:=50001) AZ).nils (k:=2).set6 (.head _)) AW AW AW AW (λx I=>by simp[I]) AU AU hk ai,Av⟩
    .go_wp2_with (first | (go_at_call 61;refine(Hy g _ _ hS.rd AU).mono ?_;rintro e H ho;obtain⟨aP,ea,en,ec,rfl,hS,z⟩:=hS.el ho AZ;replace G:=Cf G z AU;replace l:=l.grownO z Ax;replace f:=f.grownO z Ax;replace t:=Bl t z;obtain⟨aa,q0,q1,q2,Y,q4,Q,U,R,p2,S,T,N⟩:=id l;obtain⟨ab,E,A,D,C,B,F,p6,O,p8,V,X,Z⟩:=id f) | (at_builtin;refine Bd rfl rfl (StL.push (v:=.slice (some ⟨m,0,none⟩) css.length cc) (bs:=(w.heap.size+1)::w.heap.size::bs) (css:=css) _ kd2 hS G yBe AU) rfl rfl ?_;rintro v' w6 ⟨hown6,ad,aC,-⟩;obtain⟨iI,gZ,rfl,-⟩:=G8 hown6;replace l:=l.grownO aC BW;replace f:=f.grownO aC BW;replace t:=Ih t aC (λj e=>by have:=(G.lt _ e).1;omega);obtain⟨aa,q0,q1,q2,Y,q4,Q,U,R,p2,S,T,N⟩:=id l;obtain⟨ab,E,A,D,C,B,F,p6,O,p8,V,X,Z⟩:=id f) | (at_builtin;refine Bd rfl rfl (StL.copy _ kd2 hS (.tail _ (.head _)) AZ) rfl rfl ?_;rintro v' w3 ⟨css,m,cc,rfl,rfl,htt,G,hS,J,aw,gV⟩;replace l:=l.grownO J AW;replace f:=f.grownO J AW;replace t:=Ih t J (λj e=>by cases e);clear J;obtain⟨aa,q0,q1,q2,Y,q4,Q,U,R,p2,S,T,N⟩:=id l;obtain⟨ab,E,A,D,C,B,F,p6,O,p8,V,X,Z⟩:=id f))
     refine bodyPost_ret (by simp[results,results62,go_sem,E,A,D,C,B,F];rfl) rfl ?_;have hI:=(ad.more1 (M:=50001) AZ).ice (s:=q+1) (bs:=(w.heap.size+1)::w.heap.size::bs) (css:=css++[(1,[.int .i64 aP, .slice ea en ec])]) BX (λb hb=>by have:=an b hb;omega) yAh Ax;exact⟨_,_,_,_,_,_,_,_,_,_,_,_,_,_,rfl,HF _ _ p (q+1) r _ _ _ _ _ _ _ ((hI.set (.tail _ (.head _))).set6 (.head _)) AW AW AW AW (λx I=>by simp[I]) AU AU hk ai,Av⟩
    .go_wp2_with (first | (go_at_call 58;refine(Ql g _ _ hS.rd AU).mono ?_;rintro e H ho;obtain⟨aP,ea,en,ec,rfl,hS,z⟩:=hS.el ho AZ;replace G:=Cf G z AU;replace l:=l.grownO z Ax;replace f:=f.grownO z Ax;replace t:=Bl t z;obtain⟨aa,q0,q1,q2,Y,q4,Q,U,R,p2,S,T,N⟩:=id l;obtain⟨ab,E,A,D,C,B,F,p6,O,p8,V,X,Z⟩:=id f) | (go_at_call 93;obtain⟨ds,aB,aD,aH⟩:=hS.devs (v:=.slice ea en ec) (λaI hS=>(ClT.el (hS (2,1,[.int .i64 aP, .slice ea en ec]) (.head _))).2);refine(VF g _ aP _ ds _ hS.rd AU hS.elOf.1 aB aD aH).mono ?_;rintro e w7 ho;obtain⟨aJ,ga,gn,gc,rfl,hS,z⟩:=(hS.tl.more1 (M:=50001) AZ).el ho AU;clear aB aD;replace G:=Cf G z AU;replace l:=l.grownO z Ax;replace f:=f.grownO z Ax;replace t:=Bl t z;obtain⟨aa,q0,q1,q2,Y,q4,Q,U,R,p2,S,T,N⟩:=id l;obtain⟨ab,E,A,D,C,B,F,p6,O,p8,V,X,Z⟩:=id f) | (at_builtin;refine Bd rfl rfl (StL.push (v:=.slice (some ⟨m,0,none⟩) css.length cc) (bs:=(w.heap.size+1)::w.heap.size::bs) (css:=css) _ kd2 hS G yBe AU) rfl rfl ?_;rintro v' w6 ⟨hown6,ad,aC,-⟩;obtain⟨iI,gZ,rfl,-⟩:=G8 hown6;replace l:=l.grownO aC BW;replace f:=f.grownO aC BW;replace t:=Ih t aC (λj e=>by have:=(G.lt _ e).1;omega);obtain⟨aa,q0,q1,q2,Y,q4,Q,U,R,p2,S,T,N⟩:=id l;obtain⟨ab,E,A,D,C,B,F,p6,O,p8,V,X,Z⟩:=id f) | (at_builtin;refine Bd rfl rfl (StL.copy _ kd2 hS (.tail _ (.head _)) AZ) rfl rfl ?_;rintro v' w3 ⟨css,m,cc,rfl,rfl,htt,G,hS,J,aw,gV⟩;replace l:=l.grownO J AW;replace f:=f.grownO J AW;replace t:=Ih t J (λj e=>by cases e);clear J;obtain⟨aa,q0,q1,q2,Y,q4,Q,U,R,p2,S,T,N⟩:=id l;obtain⟨ab,E,A,D,C,B,F,p6,O,p8,V,X,Z⟩:=id f))
     refine bodyPost_ret (by simp[results,results62,go_sem,E,A,D,C,B,F];rfl) rfl ?_;have hI:=ad.ice (s:=q+1) (bs:=(w.heap.size+1)::w.heap.size::bs) (css:=css++[(1,[.int .i64 aJ, .slice ga gn gc])]) BX (λb hb=>by have:=an b hb;omega) yAh Ax;exact⟨_,_,_,_,_,_,_,_,_,_,_,_,_,_,rfl,HF _ _ p (q+1) r _ _ _ _ _ _ _ ((hI.set (.tail _ (.head _))).set6 (.head _)) AW AW AW AW (λx I=>by simp[I]) AU AU hk ai,Av⟩
    .go_wp2_with (first | (at_builtin;refine Bd rfl rfl (StL.push (v:=.slice (some ⟨m,0,none⟩) css.length cc) (bs:=(w.heap.size+1)::w.heap.size::bs) (css:=css) _ kd6 (hS.add (y:=(6,2,[.int .i64 0, .int .i64 0, .slice none 0 0, .slice none 0 0, .slice none 0 0, .slice none 0 0])) λaI _=>ClT.mkA AZ AZ SlT.nil (SlT.nil (s:=0)) (SlT.nil (s:=0)) (SlT.nil (s:=0)) AZ) G yBe AU) rfl rfl ?_;rintro v' w6 ⟨hown6,ad,aC,-⟩;obtain⟨iI,gZ,rfl,-⟩:=G8 hown6;replace l:=l.grownO aC BW;replace f:=f.grownO aC BW;replace t:=Ih t aC (λj e=>by have:=(G.lt _ e).1;omega);obtain⟨aa,q0,q1,q2,Y,q4,Q,U,R,p2,S,T,N⟩:=id l;obtain⟨ab,E,A,D,C,B,F,p6,O,p8,V,X,Z⟩:=id f) | (at_builtin;refine Bd rfl rfl (StL.copy _ kd6 hS (.head _) AZ) rfl rfl ?_;rintro v' w3 ⟨css,m,cc,rfl,rfl,htt,G,hS,J,aw,gV⟩;replace l:=l.grownO J AW;replace f:=f.grownO J AW;replace t:=Ih t J (λj e=>by cases e);clear J;obtain⟨aa,q0,q1,q2,Y,q4,Q,U,R,p2,S,T,N⟩:=id l;obtain⟨ab,E,A,D,C,B,F,p6,O,p8,V,X,Z⟩:=id f))
     refine bodyPost_ret (by simp[results,results62,go_sem,E,A,D,C,B,F];rfl) rfl ?_;have hI:=(ad.more1 (M:=50001) AZ).ice (s:=r+2) (bs:=(w.heap.size+1)::w.heap.size::bs) (css:=css++[(2,[.int .i64 0, .int .i64 0, .slice none 0 0, .slice none 0 0, .slice none 0 0, .slice none 0 0])]) BX (λb hb=>by have:=an b hb;omega) yAh Ax;exact⟨_,_,_,_,_,_,_,_,_,_,_,_,_,_,rfl,HF _ _ p q (r+2) _ _ _ _ _ _ _ ((hI.set (.tail _ (.head _))).set6 (.head _)) AW AW AW AW (λx I=>by simp[I]) AU AU hk ai,Av⟩
    .clear l f
     have HN:=DU (hS.mkNet (i:=k) (op:=op) (s:=p+1) (u:=.slice a2 n2 c2) (v:=.slice a1 n1 c1) (ts:=(16,r,[.slice a4 K c4])::(12,q,[.slice a3 n3 c3])::(14,p,[.slice a2 n2 c2])::(13,0,[.slice a1 n1 c1])::ts) AW AW (λ_ h=>h) hk ai (DN p))
     go_wp2_with (go_at_call 94;refine(ir (p+1) g _ _ _ _ _ _ _ _ _ _ _ _ HN AU).mono ?_;rintro e H ⟨i5,o5,f1,k1,l1,f2,k2,l2,rfl,hS,z⟩;obtain⟨aa,q0,U,q1,R,q2,p2,Y,S,q4,T,Q,N⟩:CU H w.heap.size (.int .i64 k) (.int .i64 op) (.slice a1 n1 c1) (.slice a2 n2 c2) (.slice a3 n3 c3) (.slice a4 K c4):=qb6;obtain⟨ab,E,p6,A,O,D,p8,C,V,B,X,F,Z⟩:E7 H ((w.heap.size+1)):=FD;replace t:=Bl t z)
     obtain⟨r5,tC,aG,wZ,hS⟩:=hS.netOf;refine bodyPost_ret (by simp[results,results62,go_sem,E,A,D,C,B,F];rfl) rfl ?_;exact⟨_,_,_,_,_,_,_,_,_,_,_,_,_,_,rfl,HF _ _ r5 q r _ _ _ _ _ _ _ (((((hS.set (.tail _ (.head _))).set (.tail _ (.head _))).set (.tail _ (.head _))).set (.tail _ (.head _))).set6 (.head _)) AW AW AW AW (λx I=>by simp[I]) AU AU aG wZ,Av⟩
end
open Stil
variable {g i k o q:Nat}{r:Option Nat}{v:Value}{w':World}
theorem NK {w:World}{base:Nat}{e:TypeId}{size:Nat}{n:Nat}{xs:List Value}(h:w.ownsRow base e size v n xs)(hg:w.grownBy w' r)(hr:∀k,v.ownBlock=some k->r≠some k):w'.ownsRow base e size v n xs:=by
 refine⟨h.1,?_⟩;rcases h.2 with t | ⟨k,cap,cur,j,m,x,l⟩
 .exact Or.inl t
 .have f:v.ownBlock=some k:=by rw[j];rfl
  exact Or.inr ⟨k,cap,cur,j,m,by rw[hg.block k (h.lt k f).2 (λe=>hr k f e.symm)];exact x,l⟩
theorem kl {w:World}{b:Nat}{op:Int}(h:We w b op v)(hg:w.grownBy w' r)(hr:r≠some b):We w' b op v:=by
 obtain⟨l,m⟩:=h;have e:=hg.block b l (λx=>hr x.symm);have j:∀o,w'.cell? ⟨b,o,none⟩=w.cell? ⟨b,o,none⟩:=λo=>by unfold World.cell?;rw[e]
 have f:∀o,w'.frozen? ⟨b,o,none⟩=w.frozen? ⟨b,o,none⟩:=λo=>by unfold World.frozen?;rw[e]
 refine⟨B8 l hg.size,?_⟩;rw[j,j,f,f];exact m
theorem vj {S:FK}{css:DC}(j:k<10)(h:∀x∈css,ClT S k x.1 x.2)(hi:i<css.length)(A:o<k)(u:Value):(flat css).set (i*k+o) u=flat (css.set i (q,css[i].2.set o u)):=by
 induction css generalizing i with
 | nil=>cases hi
 | cons y l m=>
  obtain⟨f,_⟩:=(h y AW).cells j;have e:∀(z:Nat × List Value) (l:DC),flat (z::l)=z.2++flat l:=λz l=>by simp[flat]
  cases i with
  | zero=>rw[List.set_cons_zero,e,e,ER,Cd,List.set_append_left _ _ AU];rfl
  | succ i=>rw[List.set_cons_succ,e,e,List.set_append_right _ _ (by rw[f,FP];omega),f,FP,show i*k+k+o - k=i*k+o by omega,m (λx t=>h x (CH _ t)) Bn];rfl
theorem yg {L P B e b c:Nat}{w:World}{bs:List Nat}{us:List Ia}{css:DC}{u:Value}(h:StL L g P w bs us)(A:∀x∈css,(k,x.1,x.2)∈us)(m:w.ownsRow B e k (.slice (some ⟨b,0,none⟩) css.length c) css.length (flat css))(l:k<10)(hi:i<css.length)(z:o<k):(w.setCell ⟨b,i*k+o,none⟩ u).ownsRow B e k (.slice (some ⟨b,0,none⟩) css.length c) (css.set i (q,css[i].2.set o u)).length (flat (css.set i (q,css[i].2.set o u)))/\∀x,css[i].2[o]?=some x->w.cell? ⟨b,i*k+o,none⟩=some x:=by
 obtain⟨S,_,_,_,t⟩:=h;have j:∀x∈css,ClT S k x.1 x.2:=λx f=>t _ (A x f)
 refine⟨?_,λx f=>?_⟩
 .rw[Gk,<-vj l j hi z]
  exact(m.stored (i*k+o) u).1
 .obtain⟨E,D,C,_,_,_,y⟩:=G7 m AU
  cases C;exact y _ _ (PN l j hi f)
theorem ou (g P N:Nat)(w:World)(bs:List Nat)(ts:List Ia)(a1:Option Addr)(n1 c1:Nat)(h:St g P w bs ((16,N,[.slice a1 n1 c1])::ts))(hN:N<=20000)(hP:P<=2000000):
  Calls prog 34 #[.pointer (some ⟨g,0,none⟩), .slice a1 n1 c1] w (LaL 51000 g (P+300000) (N+2000) w bs ts):=by
 have hg:=Tf h.rd;have ao:∀b∈bs,b<w.heap.size:=λb O=>(h.lt O).2
 have hS:=h;clear h;have aw:∀(L Q q:Nat) (W:World) (css:DC) (v:Value) (us:List Ia) (xs:List Nat),StL L g Q W (ob v++(xs++bs)) (rowT 6 css++us)->L<=51000->W.ownsRow w.heap.size 60 6 v css.length (flat css)->(∀x∈ts,x∈us)->css.length<=51000->tot css<=N+2000->Q<=P+300000->StL 51000 g (P+300000) W bs ((16,N+2000,[v])::ts):=λL Q q W css v us xs h hL ho ht hl hs hQ=>(((h.sub (cs:=ob v++bs) (us:=rowT 6 css++ts) (λb O=>by simp only[Dm] at O ⊢;rcases O with h | h;exact .inl h;exact .inr (.inr h)) (λx K=>(List.mem_append.1 K).elim (λh=>Hi _ h) λh=>DZ _ (ht x h))).more1 hL).ice ho ao hs hl).mono hQ
 have HF:=DU aw;clear aw;go_enter func34,ntmps34;go_upto_region 2 with(at_builtin;refine Bd rfl rfl (StL.copy _ kd6 hS (.head _) AZ) rfl rfl ?_;rintro v' w3 ⟨css,z,cc,rfl,rfl,htt,l,hS,A,aM,gV⟩)
 replace A:w.grownBy w3 (some g):=Ih (Uj _ _) A (λj e=>by cases e);by_cases aB:css.length=0
 .have hz:((css.length:Int)==0)=true:=by rw[D3];omega
  have HL:=DU aB;clear aB
  go_wp2_with (at_builtin;refine Bd rfl rfl (StL.push (v:=(.slice (some ⟨z,0,none⟩) css.length cc)) (bs:=bs) (css:=css) _ kd6 (hS.add (y:=(6,2,[.int .i64 0, .int .i64 0, .slice none 0 0, .slice none 0 0, .slice none 0 0, .slice none 0 0])) λae _=>ClT.mkA AZ AZ SlT.nil (SlT.nil (s:=0)) (SlT.nil (s:=0)) (SlT.nil (s:=0)) AZ) l (by have:=A.size;omega) (by have:=HL.out;omega)) rfl rfl ?_;rintro v' G ⟨hown6,ab,aC,-⟩;obtain⟨iI,gZ,rfl,-⟩:=G8 hown6)
  go_ret;exact⟨_,_,_,rfl,HF 50000 _ 0 _ (css++[(2,[.int .i64 0, .int .i64 0, .slice none 0 0, .slice none 0 0, .slice none 0 0, .slice none 0 0])]) _ _ [] ab AZ BX (λx K=>.tail _ K) (by have:=HL.out;simp;omega) yAh AU,Ih A aC (λk hk=>(l.lt _ hk).1)⟩
 have aZ:((css.length:Int)==0)=false:=by rw[CJ];omega
 go_upto_region 5 with(go_at_call_of 33 (Value.int IntKind.i64 10);refine(Fe g _ _ _ hS.rd AU AU AU).mono ?_;rintro e w4 ⟨x,rfl,ar,az,R,t⟩;replace hS:=hS.go R t;replace l:=Cf l t AU;replace A:=Bl A t;clear R t)
 by_cases an:x=0
 .subst an
  go_wp2_with (first | (go_at_call 61;refine(Hy g _ _ hS.rd AU).mono ?_;rintro e V ho;obtain⟨C,D,F,E,rfl,hS,t⟩:=hS.el ho AZ;replace l:=Cf l t AU;replace A:=Bl A t;clear ho t) | (go_at_call 58;refine(Ql g _ _ hS.rd AU).mono ?_;rintro e G ho;obtain⟨vM,fa,fn,fc,rfl,hS,t⟩:=hS.el ho AZ;replace l:=Cf l t AU;replace A:=Bl A t;clear ho t))
  obtain⟨B,hB⟩:∃B,B=G.heap.size+1:=⟨_,rfl⟩
  have zS:z<G.heap.size:=(hS.lt (.head _)).2;have ak:∃(m:Nat) (J:DC),m<=J.length/\m<=41/\J.length<=50000/\tot J<=N+3*m/\((G.alloc (.cells #[.int .i64 vM, .slice fa fn fc] 51)).alloc (.cells #[.int .i64 1, .int .i64 C, .slice D F E, .slice none 0 0, .slice (some ⟨G.heap.size,0,none⟩) 1 1, .slice none 0 0] 60)).ownsRow w.heap.size 60 6 (.slice (some ⟨z,0,none⟩) css.length cc) J.length (flat J)/\EG ((G.alloc (.cells #[.int .i64 vM, .slice fa fn fc] 51)).alloc (.cells #[.int .i64 1, .int .i64 C, .slice D F E, .slice none 0 0, .slice (some ⟨G.heap.size,0,none⟩) 1 1, .slice none 0 0] 60)) B 1 C (.slice D F E) (.slice none 0 0) (.slice (some ⟨G.heap.size,0,none⟩) 1 1) (.slice none 0 0)/\(Value.slice (some ⟨z,0,none⟩) css.length cc).ownBlock≠some B/\St g (P+200+m) ((G.alloc (.cells #[.int .i64 vM, .slice fa fn fc] 51)).alloc (.cells #[.int .i64 1, .int .i64 C, .slice D F E, .slice none 0 0, .slice (some ⟨G.heap.size,0,none⟩) 1 1, .slice none 0 0] 60)) (ob (.slice (some ⟨z,0,none⟩) css.length cc)++([B]++bs)) (rowT 6 J++((6,3,[.int .i64 1, .int .i64 C, .slice D F E, .slice none 0 0, .slice (some ⟨G.heap.size,0,none⟩) 1 1, .slice none 0 0])::ts))/\w.grownBy ((G.alloc (.cells #[.int .i64 vM, .slice fa fn fc] 51)).alloc (.cells #[.int .i64 1, .int .i64 C, .slice D F E, .slice none 0 0, .slice (some ⟨G.heap.size,0,none⟩) 1 1, .slice none 0 0] 60)) (some g):=by
   have hL:=(((hS.lit1 (n:=G.heap.size) #[.int .i64 vM, .slice fa fn fc] 51 AZ rfl rfl).leaf).box (.cells #[.int .i64 1, .int .i64 C, .slice D F E, .slice none 0 0, .slice (some ⟨G.heap.size,0,none⟩) 1 1, .slice none 0 0] 60)).mono (Q:=P+200+0) AU;rw[World.size_alloc,<-hB] at hL;refine⟨0,css,DK _,AU,gV,htt,(l.alloc _).alloc _,by rw[hB];exact BF,?_,hL.sub (λb O=>?_) (λx K=>?_),Av⟩
   .intro e
    have:z=B:=by simpa[Value.ownBlock] using e
    omega
   .simp only[ob,Value.ownBlock,Option.toList,Dm,C2,EJ,EK] at O ⊢
    rcases O with h | h | h
    .exact .inr (.inl h)
    .exact .inl h
    .exact .inr (.inr h)
   .simp only[Dm,C2] at K ⊢
    rcases K with h | h | h
    .exact .inr (.inl h)
    .exact .inl h
    .exact .inr (.inr (.inr h))
  rw[<-hB];have a3:g<B:=by have:=(hS.lt (.head _)).1;omega
  clear hS l A htt hB zS;go_loopw [5] (λo X=>∃(m:Nat) (J:DC),m<=J.length/\m<=41/\J.length<=50000/\tot J<=N+3*m/\X.ownsRow w.heap.size 60 6 o J.length (flat J)/\EG X B 1 C (.slice D F E) (.slice none 0 0) (.slice (some ⟨G.heap.size,0,none⟩) 1 1) (.slice none 0 0)/\o.ownBlock≠some B/\St g (P+200+m) X (ob o++([B]++bs)) (rowT 6 J++((6,3,[.int .i64 1, .int .i64 C, .slice D F E, .slice none 0 0, .slice (some ⟨G.heap.size,0,none⟩) 1 1, .slice none 0 0])::ts))/\w.grownBy X (some g)) (λo _=>41 - lenV o)
  case atStart=>exact ak
  case round=>
   clear ak;obtain⟨m,J,aQ,aT,aH,htt,l,Y,ah,hS,A⟩:=hrel;obtain⟨o1,Z,rfl,-⟩:=G8 l;have yw:=Y.1;have aK:=A.size
   go_wp2_with (first | (go_at_call_of 33 (Value.int IntKind.i64 2);refine(Fe g _ _ _ hS.rd AU AU AU).mono ?_;rintro e I ⟨y,rfl,ad,ag,R,t⟩;have hS:=hS.go R t;have l:=Cf l t AU;have A:=Bl A t;have vz:=t.size;have Y:=Y.grownO t Ax;obtain⟨aL,q0,q1,q2,q3,q4,q5,p0,p1,p2,p3,p4,p5⟩:=id Y) | (at_builtin;refine Bd rfl rfl (StL.push (v:=.slice o1 J.length Z) (bs:=[B]++bs) (css:=J) (ts:=(6,3,[.int .i64 1, .int .i64 C, .slice D F E, .slice none 0 0, .slice (some ⟨G.heap.size,0,none⟩) 1 1, .slice none 0 0])::ts) _ kd6 (hS.add (y:=(6,3,[.int .i64 1, .int .i64 C, .slice D F E, .slice none 0 0, .slice (some ⟨G.heap.size,0,none⟩) 1 1, .slice none 0 0])) λae hS=>hS (6,3,[.int .i64 1, .int .i64 C, .slice D F E, .slice none 0 0, .slice (some ⟨G.heap.size,0,none⟩) 1 1, .slice none 0 0]) AW) l AU AU) rfl rfl ?_;rintro v' w8 ⟨hown6,ab,aC,oU⟩;obtain⟨iI,gZ,rfl,-⟩:=G8 hown6;clear q0 q1 q2 q3 q4 q5 p0 p1 p2 p3 p4 p5))
   .refine⟨⟨m+1,J++[(3,[.int .i64 1, .int .i64 C, .slice D F E, .slice none 0 0, .slice (some ⟨G.heap.size,0,none⟩) 1 1, .slice none 0 0])],by simp;omega,AU,by simp;omega,by simp only[tot,CX,FX,CN,EB,Da,IV] at htt ⊢;omega,by rw[CO];exact hown6,Y.grownO aC ah,oU B Y.1 ah,ab.mono AU,Ih A aC (λk hk=>(l.lt _ hk).1)⟩,?_⟩
    show 41 - (J.length+1)<41 - J.length
    omega
   .go_ret
    exact⟨_,_,_,rfl,HF 50000 _ 0 _ J _ _ [B] hS AZ l (λx K=>.tail _ K) AU AU AU,A⟩
 by_cases aA:x=1
 .subst aA
  clear ar az an;go_upto_region 12 with(go_at_call_of 33 (css.length:Nat);refine(Fe g _ _ _ hS.rd AU AU AU).mono ?_;rintro e V ⟨y,rfl,ad,ag,R,t⟩;obtain⟨j,rfl⟩:=FN ad;have U:j<css.length:=AU;replace hS:=hS.go R t;replace l:=Cf l t AU;replace A:=Bl A t;clear ad ag R t)
  obtain⟨aG,a',c',hv,aD,ax,aN,hts⟩:=(StL.ice (v:=(.slice (some ⟨z,0,none⟩) css.length cc)) (bs:=bs) (s:=N) hS l ao htt gV).arms AZ (.head _);simp only[Value.slice.injEq] at hv;have pU:=DU (M4 aG _ V aD AU ax);obtain⟨ae,uU⟩:∃ae,ae=Bc aG:=⟨_,rfl⟩
  rw[<-uU] at pU hts;clear aD ax uU hv aN;go_upto_region 13 with(first | (go_at_call 41;refine pU.mono ?_;rintro e G ⟨rfl,ap⟩;have hS:=hS.bel ap;have l:=NK l (grown_below ap none) (λ_ _ h=>by cases h);have A:=Bl A (grown_below ap _)) | (go_at_call_of 33 (Value.int IntKind.i64 2);refine(Fe g _ _ _ hS.rd AU AU AU).mono ?_;rintro e I ⟨y,rfl,ad,ag,R,t⟩;have hS:=hS.go R t;have l:=Cf l t AU;have A:=Bl A t;clear R t))
  have S:=LU hS l AZ U;have au:css[j].1<=tot css:=KN (CG U);have hK:=hS.kid U;obtain⟨i4,o4,e1,m1,d1,e2,m2,d2,e3,m3,d3,e4,m4,d4,he⟩:=hK.arm6;rw[he] at S hK;have r4:I.cell? ⟨z,j*6+4,none⟩=some (.slice e3 m3 d3):=S 4 _ rfl;obtain⟨p',q',r',a2,aJ,xh,hK⟩:=hK.armOf;have aO:z<I.heap.size:=(hS.lt (.head _)).2;clear S pU hS;go_upto_region 14 with(at_builtin;refine Bd rfl rfl (StL.copy _ kd2 hK (.tail _ (.head _)) AZ) rfl rfl ?_;rintro v' w8 ⟨kJ,b2,aj,rfl,rfl,lC,T,hS,zL,aS,tV⟩)
  have l:=NK l zL (λ_ _ h=>by cases h);replace A:=Ih A zL (λj e=>by cases e);clear r4 zL
  go_wp2_with (go_at_call 58;refine(Ql g _ _ hS.rd AU).mono ?_;rintro e w9 ho;obtain⟨C,D,F,E,rfl,hS,t⟩:=hS.el ho AZ;replace l:=Cf l t AU;replace T:=Cf T t AU;replace A:=Bl A t;have yR:=t.size;clear ho t)
  obtain⟨B,hB⟩:∃B,B=w9.heap.size:=⟨_,rfl⟩
  have zT:b2<w9.heap.size:=(hS.lt (.head _)).2;have nX:=(T.lt b2 rfl).1;have ak:∃(H:DC) (m:Nat),(Value.int .i64 0)=.int .i64 m/\m<=401/\H.length<=50000+m/\tot H<=q'+m/\(w9.alloc (.cells #[.int .i64 C, .slice D F E] 51)).ownsRow I.heap.size 51 2 (.slice (some ⟨b2,0,none⟩) kJ.length aj) H.length (flat H)/\We (w9.alloc (.cells #[.int .i64 C, .slice D F E] 51)) B C (.slice D F E)/\(Value.slice (some ⟨b2,0,none⟩) kJ.length aj).ownBlock≠some B/\(w9.alloc (.cells #[.int .i64 C, .slice D F E] 51)).ownsRow w.heap.size 60 6 (.slice (some ⟨z,0,none⟩) css.length cc) css.length (flat css)/\St g (P+200) (w9.alloc (.cells #[.int .i64 C, .slice D F E] 51)) (ob (.slice (some ⟨b2,0,none⟩) kJ.length aj)++(z::B::bs)) (rowT 2 H++((2,1,[.int .i64 C, .slice D F E])::(16,r',[.slice e4 m4 d4])::(14,p',[.slice e2 m2 d2])::(13,0,[.slice e1 m1 d1])::(rowT 6 css++ts)))/\w.grownBy (w9.alloc (.cells #[.int .i64 C, .slice D F E] 51)) (some g)/\I.heap.size<=(w9.alloc (.cells #[.int .i64 C, .slice D F E] 51)).heap.size:=by
   have hL:=(hS.box (.cells #[.int .i64 C, .slice D F E] 51)).mono (Q:=P+200) AU;rw[<-hB] at hL;refine⟨kJ,0,rfl,AU,tV,lC,T.alloc _,?_,?_,l.alloc _,hL.sub (λb O=>?_) (λx K=>?_),Av,by rw[World.size_alloc];omega⟩
   .rw[hB]
    refine⟨AW,?_,?_,?_,?_⟩<;>simp[go_sem]
   .intro e
    have:b2=B:=by simpa[Value.ownBlock] using e
    omega
   .simp only[ob,Value.ownBlock,Option.toList,Dm,C2,EJ,EK] at O ⊢
    rcases O with h | h | h | h
    .exact .inr (.inl h)
    .exact .inr (.inr (.inl h))
    .exact .inl h
    .exact .inr (.inr (.inr h))
   .simp only[Dm,C2] at K ⊢
    rcases K with h | h | h | h | h | h | h
    .exact .inr (.inl h)
    .exact .inl h
    .exact .inr (.inr (.inl h))
    .exact .inr (.inr (.inr (.inr (.inl h))))
    .exact .inr (.inr (.inr (.inr (.inr (.inl h)))))
    .exact .inr (.inr (.inr (.inr (.inr (.inr (.inl h))))))
    .exact .inr (.inr (.inr (.inr (.inr (.inr (.inr (.inr h)))))))
  rw[<-hB];have aR:z<B:=AU
  clear hS l T A hB lC tV zT nX hK yR;go_loopw [9,11] (λc i X=>∃(H:DC) (m:Nat),i=.int .i64 m/\m<=401/\H.length<=50000+m/\tot H<=q'+m/\X.ownsRow I.heap.size 51 2 c H.length (flat H)/\We X B C (.slice D F E)/\c.ownBlock≠some B/\X.ownsRow w.heap.size 60 6 (.slice (some ⟨z,0,none⟩) css.length cc) css.length (flat css)/\St g (P+200) X (ob c++(z::B::bs)) (rowT 2 H++((2,1,[.int .i64 C, .slice D F E])::(16,r',[.slice e4 m4 d4])::(14,p',[.slice e2 m2 d2])::(13,0,[.slice e1 m1 d1])::(rowT 6 css++ts)))/\w.grownBy X (some g)/\I.heap.size<=X.heap.size) (λ_ i _=>401 - (intOf i).toNat)
  case atStart=>exact ak
  case round=>
   clear ak;obtain⟨H,m,rfl,hm,aH,lC,T,Y,ah,l,hS,A,aK⟩:=hrel;obtain⟨o1,Z,rfl,-⟩:=G8 T;have zD:∀k,(Value.slice o1 H.length Z).ownBlock=some k->z≠k:=λk hk=>by have:=(T.lt k hk).1;omega
   by_cases aY:(m:Int)<400 - ae+y
   .obtain⟨aL,q0,q1,p0,p1⟩:=id Y
    go_wp2_with (at_builtin;refine Bd rfl rfl (StL.push (v:=.slice o1 H.length Z) (bs:=z::B::bs) (css:=H) (ts:=(2,1,[.int .i64 C, .slice D F E])::(16,r',[.slice e4 m4 d4])::(14,p',[.slice e2 m2 d2])::(13,0,[.slice e1 m1 d1])::(rowT 6 css++ts)) _ kd2 (hS.add (y:=(2,1,[.int .i64 C, .slice D F E])) λae hS=>hS (2,1,[.int .i64 C, .slice D F E]) AW) T AU AU) rfl rfl ?_;rintro v' aU ⟨hown6,ab,aC,oU⟩)
    have fA:=aC.size;exact⟨⟨H++[(1,[.int .i64 C, .slice D F E])],m+1,by go_num,AU,by simp;omega,by simp only[tot,CX,FX,CN,EB,Da,IV] at lC ⊢;omega,by rw[CO];exact hown6,kl Y aC ah,oU B Y.1 ah,NK l aC (λk hk e=>zD k e (by simpa[Value.ownBlock] using hk)),ab,Ih A aC (λk hk=>by have:=(T.lt _ hk).1;omega),AU⟩,by simp[intOf];omega⟩
   .have f4:=l.frozenAt (j*6+4)
    obtain⟨hW,ay⟩:=yg (i:=j) (o:=4) (q:=css[j].1+401) (u:=.slice o1 H.length Z) hS (λx K=>by simp only[Dm,C2];exact .inr (.inr (.inr (.inr (.inr (.inl (E0 (f:=λx=>(6,x.1,x.2)) K))))))) l AZ U AZ;have r4:wr.cell? ⟨z,j*6+4,none⟩=some (.slice e3 kJ.length d3):=ay _ (by rw[he];rfl);rw[he] at hW;have hI:=((((hS.sub (cs:=ob (.slice o1 H.length Z)++z::bs) (λb O=>by simp only[Dm,C2] at O ⊢;rcases O with h | h | h;exact .inl h;exact .inr (.inl h);exact .inr (.inr (.inr h))) (λ_ h=>h)).more1 (M:=51000) AZ).ice (s:=q'+401) T (λb O=>by simp only[C2] at O;rcases O with rfl | O;omega;have:=ao b O;omega) AU AU).mkArm (p:=p') (q:=q'+401) (r:=r') (i:=i4) (op:=o4) (s:=css[j].1+401) (d:=.slice e4 m4 d4) (c:=.slice o1 H.length Z) (u:=.slice e2 m2 d2) (v:=.slice e1 m1 d1) (ts:=rowT 6 css++ts) AW AW AW AW (λx K=>by simp only[C2];exact .inr (.inr (.inr (.inr (.inr K))))) aJ xh AU)
    have yV:=Lo (x:=(css[j].1+401,[.int .i64 i4, .int .i64 o4, .slice e1 m1 d1, .slice e2 m2 d2, .slice o1 H.length Z, .slice e4 m4 d4])) U (q:=401) (B7 _);have HE:=DU (StL.rowset (k:=6) (i:=j) (x:=(css[j].1+401,[.int .i64 i4, .int .i64 o4, .slice e1 m1 d1, .slice e2 m2 d2, .slice o1 H.length Z, .slice e4 m4 d4])) (hI.set (o:=j*6+4) (x:=.slice o1 H.length Z) (.head _)));have HW:=DU hW;clear hI hW hS T ay
    go_wp2
    go_ret;exact⟨_,_,_,rfl,HF 51000 _ 0 _ _ _ _ [] HE AZ HW (λ_ h=>h) (by rw[Gk];omega) AU AU,KX aM A _⟩
 clear ar az;have a5:(x==0)=false:=by rw[CJ];exact an
 have aX:(x==1)=false:=by rw[CJ];exact aA
 go_upto_region 22 with(go_at_call_of 33 (css.length:Nat);refine(Fe g _ _ _ hS.rd AU AU AU).mono ?_;rintro e V ⟨y,rfl,ad,ag,R,t⟩;obtain⟨j,rfl⟩:=FN ad;have U:j<css.length:=AU;replace hS:=hS.go R t;replace l:=Cf l t AU;replace A:=Bl A t;clear ad ag R t)
 have S:=LU hS l AZ U;have au:css[j].1<=tot css:=KN (CG U);replace hS:=hS.kid U;obtain⟨i4,o4,e1,m1,d1,e2,m2,d2,e3,m3,d3,e4,m4,d4,he⟩:=hS.arm6;have aF:=DU (λ(x:Nat × List Value) (K:x.1<=css[j].1+40)=>Lo (x:=x) U K);rw[he] at S hS;have HI:=DU (iu css[j].1 g _ V _ _ _ _ _ _ _ _ _ _ _ _ _ _ _ _ hS AU);obtain⟨ai,hX⟩:∃ai,ai=css[j].1:=⟨_,rfl⟩
 rw[<-hX] at HI aF au hS;obtain⟨r0,r1,r2,r3,r4,r5⟩:V.cell? ⟨z,j*6,none⟩=some (.int .i64 i4)/\V.cell? ⟨z,j*6+1,none⟩=some (.int .i64 o4)/\V.cell? ⟨z,j*6+2,none⟩=some (.slice e1 m1 d1)/\V.cell? ⟨z,j*6+3,none⟩=some (.slice e2 m2 d2)/\V.cell? ⟨z,j*6+4,none⟩=some (.slice e3 m3 d3)/\V.cell? ⟨z,j*6+5,none⟩=some (.slice e4 m4 d4):=⟨S 0 _ rfl,S 1 _ rfl,S 2 _ rfl,S 3 _ rfl,S 4 _ rfl,S 5 _ rfl⟩
 have aW:z<V.heap.size:=(hS.lt (.head _)).2;clear S he hX;go_upto_region 23 with(go_at_call 62;refine HI.mono ?_;rintro e I ⟨i5,o5,f1,k1,l1,f2,k2,l2,f3,k3,l3,f4,k4,l4,rfl,al,aa⟩;have ac:=Cf l aa AU;obtain⟨s0,s1,s2,s3,s4,s5,t0,t1,t2,t3,t4,t5⟩:=(⟨ac.frozenAt (j*6),ac.frozenAt (j*6+1),ac.frozenAt (j*6+2),ac.frozenAt (j*6+3),ac.frozenAt (j*6+4),ac.frozenAt (j*6+5),(Df aa aW AU).trans r0,(Df aa aW AU).trans r1,(Df aa aW AU).trans r2,(Df aa aW AU).trans r3,(Df aa aW AU).trans r4,(Df aa aW AU).trans r5⟩:I.frozen? ⟨z,j*6,none⟩=false/\I.frozen? ⟨z,j*6+1,none⟩=false/\I.frozen? ⟨z,j*6+2,none⟩=false/\I.frozen? ⟨z,j*6+3,none⟩=false/\I.frozen? ⟨z,j*6+4,none⟩=false/\I.frozen? ⟨z,j*6+5,none⟩=false/\I.cell? ⟨z,j*6,none⟩=_/\I.cell? ⟨z,j*6+1,none⟩=_/\I.cell? ⟨z,j*6+2,none⟩=_/\I.cell? ⟨z,j*6+3,none⟩=_/\I.cell? ⟨z,j*6+4,none⟩=_/\I.cell? ⟨z,j*6+5,none⟩=_);clear r0 r1 r2 r3 r4 r5)
 have ab:=al.put (k:=6) (x:=(ai+40,[.int .i64 i5, .int .i64 o5, .slice f1 k1 l1, .slice f2 k2 l2, .slice f3 k3 l3, .slice f4 k4 l4])) (css:=css) (o:=j*6) (i:=j) (.head _);have aE:=OT (x:=(ai+40,[.int .i64 i5, .int .i64 o5, .slice f1 k1 l1, .slice f2 k2 l2, .slice f3 k3 l3, .slice f4 k4 l4])) al.tl ac AZ U rfl;have yV:=aF (ai+40,[.int .i64 i5, .int .i64 o5, .slice f1 k1 l1, .slice f2 k2 l2, .slice f3 k3 l3, .slice f4 k4 l4]) (B7 _);have HE:=DU ab;have HW:=DU aE;have af:=DU (Ih (Bl A aa) (Uh [.int .i64 i5, .int .i64 o5, .slice f1 k1 l1, .slice f2 k2 l2, .slice f3 k3 l3, .slice f4 k4 l4] I (j*6) (b:=z)) (λj e=>by cases e;omega));clear ab aE al hS l ac aF HI aa
 go_wp2
 go_ret;exact⟨_,_,_,rfl,HF 50001 _ 0 _ _ _ _ [] HE AZ HW (λx K=>.tail _ K) (by rw[Gk];omega) AU AU,af.out⟩
theorem yO (g P:Nat)(w:World)(bs:List Nat)(ts:List Ia)(h:St g P w bs ts)(m:P<=1000000):
  Calls prog 11 #[.pointer (some ⟨g,0,none⟩)] w (LaL 51000 g (P+600000) 6000 w bs ts):=by
 have G:=Tf h.rd;have hS:=h;clear h;go_enter func11,ntmps11
 go_wp2_with (first | (go_at_call 32;refine(mH g _ _ _ _ hS AU).mono ?_;rintro e A ⟨H,y,C,rfl,hS,f⟩) | (go_at_call_of 33 (Value.int IntKind.i64 16);refine(Fe g _ _ _ hS.rd AU AU AU).mono ?_;rintro e B ⟨x,rfl,t,E,l,j⟩;replace hS:=hS.go l j;replace f:=Bl f j;clear l j) | (go_at_call 34;refine(ou g _ _ _ _ _ _ _ _ hS AU AU).mono ?_;rintro e w3 ⟨D,z,F,rfl,hS,j⟩;replace f:=Bl f j))
 .go_ret
  exact⟨_,_,_,rfl,hS.mono AU,f⟩
 .go_ret
  exact⟨_,_,_,rfl,((hS.more1 AZ).mono AU).grew AZ,f⟩
theorem eW {w:World}(h:w.grownBy w' (some g))(hg:w.heap.size<=g):Below w.heap.size w w':=⟨h.os,h.tape,h.output,h.size,λk f=>h.block k f (by intro e;cases e;omega)⟩
def QZ (w:World)(e:Ending)(w':World):Prop:=∃(l:List Stil.B5) (a:Option Addr) (c:Nat),e=.returned (.slice a l.length c)/\Dc w' (.slice a l.length c) l/\((∀x∈l,Ba x)/\l.length<=1048576/\Bc l<=1000000000)/\Below w.heap.size w w'
theorem iM (u:Value)(w:World)(hu:BytesAt w u):
  Calls prog 4 #[u] w (QZ w):=by
 have j:=DU hu;obtain⟨I,A,F,rfl,-,-,-⟩:=hu;go_enter func4,ntmps4
 go_wp2_with (first | (go_at_call 12;refine(y6 _ _ j.out).mono ?_;rintro e G ⟨rfl,y,f⟩) | (go_at_call 11;refine(yO w.heap.size 0 _ [] [] ⟨(50000,λ_=>none),(λ_ _ _ _ _ h=>by cases h),⟨y,rfl,B7 _⟩,(λ_ h=>by cases h),(λ_ h=>by cases h)⟩ AU).mono ?_;rintro e E ⟨J,D,H,rfl,hS,x⟩))
 go_ret;obtain⟨l,a,c,t,z,m,B,C⟩:=hS.arms AZ (.head _);cases t;exact⟨l,_,_,rfl,z,⟨m,AU,AU⟩,eW (Bl (grown_below f _) x) (B7 _)⟩
