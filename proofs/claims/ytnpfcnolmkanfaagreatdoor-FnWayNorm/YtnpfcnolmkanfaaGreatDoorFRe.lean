import Derived.Test.YtnpfcnolmkanfaaGreatDoorHg
import Derived.Deep.RegionWith
import Derived.Shelf.Abstract
import Derived.Test.YtnpfcnolmkanfaaGreatDoorD9
import Derived.Test.YtnpfcnolmkanfaaGreatDoorD8
import Derived.Test.YtnpfcnolmkanfaaGreatDoorG4
import Derived.Test.YtnpfcnolmkanfaaGreatDoorGV
import Derived.Test.YtnpfcnolmkanfaaGreatDoorGY
import Derived.Test.YtnpfcnolmkanfaaGreatDoorM57
import Derived.Test.YtnpfcnolmkanfaaGreatDoorGl
import Derived.Test.YtnpfcnolmkanfaaGreatDoorGJ
import Derived.Test.YtnpfcnolmkanfaaGreatDoorGT
import Derived.ProofKit
import Derived.OpenShut
import Derived.OpenVars
import Derived.LaidMore
import Derived.Lay
import Derived.Deep.DeepHandedRow
import Derived.Lib.SmallJoins
import Derived.LaidHandle
set_option maxHeartbeats 4000000
set_option maxRecDepth 100000
namespace Go.Proofs.YtnpfcnolmkanfaaGreatDoor
open Tryz
open Go.RowKit Go.Sort Go.BigFrame
open Classical in
theorem An8 (c d:List Stil.Dev)(N H:Value)(w:World)(S:Dh w N c)(wM:Dh w H d)(hl:c.length<=1048576)(R:d.length<=1048576):
  Calls prog 62 #[N,H] w λr Z=>r=.returned (.bool (decide (c=d)))/\Below w.heap.size w Z:=by
 obtain⟨a,cap,rfl,u⟩:=S;obtain⟨b,ac,rfl,C⟩:=wM;by_cases E:c.length=d.length
 ·have P:Hid (∀i (h:i<c.length),∃b o,a=some ⟨b,o,none⟩/\b<w.heap.size/\Jc w b (o+i*3) c[i]):=u
  have T:Hid (∀i (h:i<d.length),∃D o,b=some ⟨D,o,none⟩/\D<w.heap.size/\Jc w D (o+i*3) d[i]):=C;clear u C;have U:((c.length:Int) !=(d.length:Int))=false:=by rw[bne_eq_false_iff_eq];omega
  have aa:c.length<=d.length:=omz
  have ab:d.length<=c.length:=omz
  clear E;go_enter func62,ntmps62
  go_wp2
  go_loopw [13] (λi wr=>∃k:Nat,k<=c.length/\i=.int .i64 k/\c.take k=d.take k/\Below w.heap.size w wr) (λi _=>c.length - (intOf i).toNat)
  case atStart=>exact⟨0,omz,rfl,spz,Below.refl _ _⟩
  case round=>
   obtain⟨k,R,rfl,K,g⟩:=hrel;have F:Hid (c.take k=d.take k):=K;clear K;by_cases G:k<c.length
   ·have L:k<d.length:=by omega
    obtain⟨b1,o1,rfl,Y,B⟩:=P k G;obtain⟨b2,o2,rfl,Q,z⟩:=T k L;obtain⟨I,M,J⟩:=B.below g Y;obtain⟨q,t,A⟩:=z.below g Q;by_cases j:c[k]=d[k]
    ·have s:Hid (c.take (k+1)=d.take (k+1)):=by
      show _=_
      rw[A6l G,A6l L,F.out,j]
     rw[<-j] at q t A;obtain⟨x,m⟩:∃x,x=c[k]:=⟨_,rfl⟩
     rw[<-m] at I M J q t A;clear m j B z
     go_wp2
     go_region
     all_goals go_wp2
     exact⟨⟨k+1,omz,by go_num,s.out,g.drew⟩,by simp[intOf];omega⟩
    ·have s:Hid (¬c=d):=by
      show ¬_
      intro h;subst h;exact j rfl
     obtain⟨x,m⟩:∃x,x=c[k]:=⟨_,rfl⟩
     obtain⟨y,v⟩:∃y,y=d[k]:=⟨_,rfl⟩
     rw[<-m] at I M J;rw[<-v] at q t A;rw[<-m,<-v] at j;have V:(x.kind==y.kind)=false\/(x.kind=y.kind/\(x.n==y.n)=false)\/(x.kind=y.kind/\x.n=y.n/\(x.p==y.p)=false):=by
      simp only[A64];by_cases f:x.kind=y.kind
      ·by_cases l:x.n=y.n
       ·exact .inr (.inr ⟨f,l,λO=>j ((A3f _ _).2 ⟨f,l,O⟩)⟩)
       ·exact .inr (.inl ⟨f,l⟩)
      ·exact .inl f
     clear m v j B z;rcases V with f | ⟨f,l⟩ | ⟨f,l,O⟩
     ·go_wp2
      go_region
      all_goals go_wp2
      go_ret;exact⟨Ap (by rw[A7y s.out]),g.drew⟩
     ·rw[<-f] at q
      clear f
      go_wp2
      go_region
      all_goals go_wp2
      go_ret;exact⟨Ap (by rw[A7y s.out]),g.drew⟩
     ·rw[<-f] at q
      rw[<-l] at t;clear f l
      go_wp2
      go_region
      all_goals go_wp2
      go_ret;exact⟨Ap (by rw[A7y s.out]),g.drew⟩
   ·go_wp2
    go_ret;have e:c=d:=by
     have:=F.out
     rwa [A6x omz,A6x omz] at this
    exact⟨Ap (by rw[A77 e]),g⟩
 ·have U:((c.length:Int) !=(d.length:Int))=true:=by rw[bne_iff_ne];omega
  have X:Hid (¬c=d):=by show ¬_;intro h;exact E (by rw[h])
  clear E u C;go_enter func62,ntmps62
  go_wp2
  go_ret;exact⟨Ap (by rw[A7y X.out]),blB⟩
open Classical in
theorem Ar9 (x y:Stil.Elem)(hx:x.fits)(m:y.fits):∀(d a:Value) (w:World),Dh w d x.args->Dh w a y.args->Calls prog 36 #[.agg #[.int .i64 x.op,d], .agg #[.int .i64 y.op,a]] w λe j=>e=.returned (.bool (decide (x=y)))/\Below w.heap.size w j:=by
 intro d a w g k;obtain⟨op,b⟩:=x;obtain⟨l,c⟩:=y;simp only at g k;have p:Hid (∀W,Below w.heap.size w W->Calls prog 62 #[d,a] W λr j=>r=.returned (.bool (decide (b=c)))/\Below W.heap.size W j):=λW o=>An8 b c d a W (g.below o) (k.below o) hx.2.1 m.2.1
 obtain⟨q,z,rfl,_⟩:=g;obtain⟨A,t,rfl,_⟩:=k;clear hx m;by_cases f:op=l
 ·subst f
  have i:Hid (decide ((⟨op,b⟩:Stil.Elem)=⟨op,c⟩)=decide (b=c)):=by show _=_;simp
  go_enter func36,ntmps36
  go_wp2_with (go_at_call 62;refine(p _ blA).mono ?_;rintro e v ⟨rfl,s⟩)
  go_ret;exact⟨Ap (by rw[i.out]),blA⟩
 ·have u:(op==l)=false:=by rw[A64];exact f
  have i:Hid (¬(⟨op,b⟩:Stil.Elem)=⟨l,c⟩):=by show ¬_;intro h;exact f (Stil.Elem.mk.inj h).1
  clear f;go_enter func36,ntmps36
  go_wp2
  go_ret;exact⟨Ap (by rw[A7y i.out]),blA⟩
theorem Tj {W:World}{ob:Obj}{c p:Nat}(h:c<W.heap.size):(W.alloc ob).cell? ⟨c,p,none⟩=W.cell? ⟨c,p,none⟩:=(Aa W ob).cell (p:=⟨c,p,none⟩) h
def BytesAt (w:World)(v:Value):Prop:=∃(a:Option Addr) (len cap:Nat),v=.slice a len cap/\len<=cap/\cap<=9223372036854775807/\∀i,i<len->∃b o z,a=some ⟨b,o,none⟩/\b<w.heap.size/\w.cell? ⟨b,o+i,none⟩=some (.int .u8 z)/\0<=z/\z<256
set_option maxHeartbeats 1000000 in
set_option maxRecDepth 100000 in
theorem Aze (v:Value)(w:World)(k:BytesAt w v):
  Calls prog 11 #[v] w λe g=>e=.returned (.pointer (some ⟨w.heap.size,0,none⟩))/\H5 g w.heap.size 0/\Below w.heap.size w g:=by
 obtain⟨a,len,cap,rfl,t,y,d⟩:=k;have f:Hid (∀i,i<len->∃b o z,a=some ⟨b,o,none⟩/\b<w.heap.size/\w.cell? ⟨b,o+i,none⟩=some (.int .u8 z)/\0<=z/\z<256):=d;clear d;have done:∀n c:Nat,n<=len->n<=2000->H5 (w.alloc (.cells #[.slice a n c, .int .i64 0] 61)) w.heap.size 0:=by
  intro n c u s;refine⟨a,n,c,0,by simp[go_sem],by simp[go_sem],by simp[go_sem],A57 _,s,λi hi=>?_⟩;obtain⟨b,o,z,r,j,m,q,l⟩:=f i omz;exact⟨b,o,z,r,j,by rw[(Aa w _).cell (p:=⟨b,o+i,none⟩) j];exact m,q,l⟩
 by_cases x:2000<len
 ·cases a with
  | none=>obtain⟨b,o,z,h,_⟩:=f 0 omz;cases h
  | some ad=>
   go_enter func11,ntmps11
   go_wp2
   go_ret;exact⟨rfl,done _ _ omz omz,Aa _ _⟩
 ·go_enter func11,ntmps11
  go_wp2
  go_ret;exact⟨rfl,done _ _ omz omz,Aa _ _⟩
open Stil
def Lad (w:World)(v:Value)(l:List Stil.Arm):Prop:=Ea w v l/\(∀x∈l,Cm x)/\l.length<=1048576/\Bv l<=1000000000/\(∀d,Ao6 d l<=4194304)
theorem Avb {α:Type}(f:α->Nat)(l:List α)(N:Nat)(h:∀x∈l,f x<=N):(l.map f).sum<=l.length*N:=by
 induction l with
 | nil=>simp
 | cons x r a=>
  have b:=h x spz;have c:=a (λy hy=>h y yDb);rw[A6k,A7b,A53,Nat.add_mul];omega
theorem A4v {w:World}{v:Value}{l:List Stil.Arm}{N k:Nat}(h:Ea w v l)(c:∀a∈l,Jd a/\F5 a<=N)(hl:l.length<=k)(i:N<=10000)(j:k<=300):Lad w v l:=by
 have e:=λx b=>Ahq x (Jd.wf x (c x b).1 (by have:=(c x b).2;omega)) (by have:=(c x b).2;omega)
 refine⟨h,e,omz,?_,λd=>?_⟩
 ·have f:Bv l<=l.length*20002:=Avb Aw l 20002 λx b=>by
   have:=Ahp x
   have:=(c x b).2
   omega
  have g:l.length*20002<=300*20002:=A7j _ omz;omega
 ·have f:Ao6 d l<=l.length*10000:=Avb (Zq d) l 10000 λx b=>by
   have:=Ats d x
   have:=(c x b).2
   omega
  have g:l.length*10000<=300*10000:=A7j _ omz;omega
theorem Azt {w:World}{base:Nat}{L:List Stil.Arm}{e:Ending}(h:Ao2 w base L e):∃(a:Option Addr) (c:Nat),e=.returned (.slice a L.length c)/\Ea w (.slice a L.length c) L:=by
 obtain⟨a,c,b,j,g,k⟩:=h;have f:b.length=L.length:=by rw[<-g,A6i]
 refine⟨a,c,by rw[j,f],?_⟩;have d:=(AOk.from _ (Abk k).1).2.2.2;have i:(Avs (.slice a b.length c) b).arm.kids=L:=by rw[Bj.arm_eq];exact g
 rw[i] at d;rw[<-f];exact d.at
end Go.Proofs.YtnpfcnolmkanfaaGreatDoor
set_option maxHeartbeats 4000000
set_option maxRecDepth 100000
namespace Go.Proofs.YtnpfcnolmkanfaaGreatDoor
open Tryz
open Go.RowKit Go.Sort Go.BigFrame
variable {W:World}{fuel:Nat}
open Classical in
theorem Ar6 (x y:Stil.Tq)(hx:x.fits)(m:y.fits):∀(g b:Value) (w:World),Dh w g x.one.args->Dh w b y.one.args->Calls prog 19 #[.agg #[.int .i64 x.code, .int .i64 x.one.op,g], .agg #[.int .i64 y.code, .int .i64 y.one.op,b]] w λe q=>e=.returned (.bool (decide (x=y)))/\Below w.heap.size w q:=by
 intro g b w i l;obtain⟨a,c⟩:=x;obtain⟨k,d⟩:=y;simp only at i l;have p:=hid (λW o=>Ar9 c d hx.2 m.2 g b W (i.below o) (l.below o));obtain⟨r,z,rfl,_⟩:=i;obtain⟨A,t,rfl,_⟩:=l;clear hx m;by_cases f:a=k
 ·subst f
  have j:Hid (decide ((⟨a,c⟩:Stil.Tq)=⟨a,d⟩)=decide (c=d)):=by show _=_;simp
  go_enter func19,ntmps19
  go_wp2_with (go_at_call 36;refine(p _ blA).mono ?_;rintro e v ⟨rfl,s⟩)
  go_ret;exact⟨Ap (by rw[j.out]),blA⟩
 ·have u:(a==k)=false:=by rw[A64];exact f
  have j:Hid (¬(⟨a,c⟩:Stil.Tq)=⟨k,d⟩):=by show ¬_;intro h;exact f (Stil.Tq.mk.inj h).1
  clear f;go_enter func19,ntmps19
  go_wp2
  go_ret;exact⟨Ap (by rw[A7y j.out]),blA⟩
open Classical in
theorem Ar8  (es c:List Stil.Tq)(r:∀x∈es,∀y∈c,∀(E t:Value) (w:World),Dh w E x.one.args->Dh w t y.one.args->Calls prog 19 #[.agg #[.int .i64 x.code, .int .i64 x.one.op,E], .agg #[.int .i64 y.code, .int .i64 y.one.op,t]] w λe C=>e=.returned (.bool (decide (x=y)))/\Below w.heap.size w C)(v u:Value)(w:World)(X:Hf w v es)(wM:Hf w u c)(hl:es.length<=1048576)(hm:c.length<=1048576):
  Calls prog 18 #[v,u, .func (.func 19) #[] #[]] w λe C=>e=.returned (.bool (decide (es=c)))/\Below w.heap.size w C:=by
 obtain⟨a,cap,rfl,D⟩:=X;obtain⟨a2,ak,rfl,q⟩:=wM;by_cases F:es.length=c.length
 ·have U:=hid D
  have Y:=hid q;have IH:=hid r;clear D q r;have ac:((es.length:Int) !=(c.length:Int))=false:=by rw[bne_eq_false_iff_eq];omega
  have ao:es.length<=c.length:=omz
  have aj:c.length<=es.length:=omz
  clear F;go_enter func18,ntmps18
  go_wp2
  go_loopw [17] (λi wr=>∃k:Nat,k<=es.length/\i=.int .i64 k/\es.take k=c.take k/\Below w.heap.size w wr) (λi _=>es.length - (intOf i).toNat)
  case atStart=>exact⟨0,omz,rfl,spz,Below.refl _ _⟩
  case round=>
   obtain⟨k,hk,rfl,L,d⟩:=hrel;have l:=hid L;clear L;by_cases z:k<es.length
   ·have s:k<c.length:=by omega
    obtain⟨b,o,rfl,T,S⟩:=U k z;have Q:=(S.below d T)
    obtain⟨b2,o2,rfl,I,R⟩:=Y k s;have M:=(R.below d I)
    obtain⟨x0,x1,E,x2,G⟩:=id Q;obtain⟨P,J,t,Z,N⟩:=id M;obtain⟨g,f⟩:∃g,decide (es[k]=c[k])=g:=⟨_,rfl⟩
    have j:=hid (λW K=>IH es[k] (A59 z) c[k] (A59 s) _ _ W (G.below K) (N.below K));have B:Hid (g=true->es.take (k+1)=c.take (k+1)):=by
     show _->_
     intro h;rw[h,decide_eq_true_iff] at f;rw[A6l z,A6l s,l.out,f]
    have A:Hid (g=false->¬es=c):=by
     show _->_
     intro h V;rw[h,A7o] at f;subst V;exact f rfl
    rw[f] at j;obtain⟨x,O⟩:∃x,x=es[k]:=⟨_,rfl⟩
    obtain⟨y,H⟩:∃y,y=c[k]:=⟨_,rfl⟩
    rw[<-O] at j x0 x1;rw[<-H] at j P J;clear O H f S Q R M l
    ·obtain⟨p0,r0,rfl,_⟩:=G
     obtain⟨ai,ah,rfl,_⟩:=N;have af:=d.size;have ap:=A51 T d.size;have m:=A51 I d.size;have al:=λob=>(Tj (ob:=ob) m).trans P
     have ag:=λob=>(Tj (ob:=ob) m).trans J
     have an:=λob=>(Tj (ob:=ob) m).trans Z
     cases g
     ·have aa:=hid (A rfl)
      clear A B
      go_wp2_with (go_at_call 19;refine(j _ blA).mono ?_;rintro e w2 ⟨rfl,ab⟩)
      go_ret;exact⟨Ap (by rw[A7y aa.out]),Du d blA⟩
     ·have ae:=hid (B rfl)
      clear A B
      go_wp2_with (go_at_call 19;refine(j _ blA).mono ?_;rintro e w2 ⟨rfl,ab⟩)
      exact⟨⟨k+1,omz,by go_num,ae.out,Du d blA⟩,by simp[intOf];omega⟩
   ·go_wp2
    go_ret;have e:es=c:=by
     have:=l.out
     rwa [A6x omz,A6x omz] at this
    exact⟨Ap (by rw[A77 e]),d⟩
 ·have ac:((es.length:Int) !=(c.length:Int))=true:=by rw[bne_iff_ne];omega
  have HN:Hid (¬es=c):=by show ¬_;intro h;exact F (by rw[h])
  clear F D q r;go_enter func18,ntmps18
  go_wp2
  go_ret;exact⟨Ap (by rw[A7y HN.out]),Below.refl _ _⟩
open Classical in
set_option maxHeartbeats 1000000 in
theorem Ar4 (es a:List Stil.Tq)(v u:Value)(w:World)(c:Hf w v es)(b:Hf w u a)(i:∀x∈es,x.fits)(hg:∀x∈a,x.fits)(hl:es.length<=1048576)(j:a.length<=1048576):
  Calls prog 8 #[v,u] w λe f=>e=.returned (.bool (decide (es=a)))/\Below w.heap.size w f:=by
 have H:=hid (λW h=>Ar8 es a (λx d y g=>Ar6 x y (i x d) (hg y g)) v u W (c.below h) (b.below h) hl j);obtain⟨o,p,rfl,-⟩:=c;obtain⟨l,k,rfl,-⟩:=b;go_enter func8,ntmps8
 go_wp2_with (go_at_call 18;refine(H _ blA).mono ?_;rintro e q ⟨rfl,m⟩)
 go_ret;exact⟨rfl,blA⟩
open Stil
open Go.ChangeShapes Go.WideShapes Go.ChangeAt
theorem Awv {P:Program}:∀{l:List (String × DataW Unit)} {c:List MemPlace},DataW.LaidVars P W l c->∀{n:String} {d:DataW Unit},(n,d)∈l->
  ∃g t a fuel p,P.globalNamed n=some g/\(P.globals[g]?).map (·.type)=some t/\W.var? P n=some a/\DataW.trod (λ_=>()) P W 0 (λ_=>true) false fuel t a.toList=some (d,p)
 | [],_,_,_,_,b=>absurd b spz
 | (u,s)::r,c,⟨g,t,a,fuel,p,q,j,o,m,k,f,_⟩,n,d,b=>by
  rcases List.mem_cons.1 b with e | i
  ·obtain⟨rfl,rfl⟩:=A8p e
   exact⟨g,t,a,fuel,p,j,o,m,k⟩
  ·exact Awv f i
def Apb (k:Nat):DataW Unit:=.agg [.lit (.string (P9 k).data.toList), .lit (.int .i64 (Ih k)), .lit (.bool (Yr k)), .lit (.bool (Pi k)), .lit (.bool (Tu k))]
theorem A41:prog.globalNamed "loop.example/stilway/impl.devRows" =some 1:=krz
theorem Axn:(prog.globals[1]?).map (·.type)=some 185:=krz
theorem A5z:prog.cellsOf 179=5:=krz
theorem A31:prog.cellsOf 4=1:=krz
theorem A30:prog.cellsOf 9=1:=krz
theorem A07 {s:ByteArray}{b:ByteArray}(h:s.data.toList=b.data.toList):s=b:=by
 cases s;cases b;simp at h;rw[h]
theorem Am9 {cs:Array Value}{p:List MemPlace}(I:W.var? prog "loop.example/stilway/impl.devRows" =some cs)
  (hd:DataW.trod (λ_=>()) prog W 0 (λ_=>true) false fuel 185 cs.toList=some (.agg ((List.range 14).map Apb),p)):Em W:=by
 have Z:=λj=>World.var?_cell A41 I j
 obtain⟨z,m,_,O,ab,hl,C⟩:=DataW.trod_array underlying185 hd;have V:=DataW.agg.inj (A8p O).1;have w:∀k:Nat,k<14->W.cell? ⟨1,k*5,none⟩=some (.string (P9 k))/\W.cell? ⟨1,k*5+1,none⟩=some (.int .i64 (Ih k))/\W.cell? ⟨1,k*5+2,none⟩=some (.bool (Yr k))/\W.cell? ⟨1,k*5+3,none⟩=some (.bool (Pi k))/\W.cell? ⟨1,k*5+4,none⟩=some (.bool (Tu k)):=by
  intro k r;have u:k<z.length:=omz
  have t:=C k r;rw[A5z,A6j u] at t;have G:z[k].1=Apb k:=by
   have:=congrArg (λl=>l[k]?) V
   simp only[A8j,A6j u,A8q] at this;rw[A6j (by simpa using r)] at this;simpa using(A67 this).symm
  obtain⟨i,n,_,U,aa,M,f⟩:=DataW.trod_struct underlying179 t;have x:i.map (·.1)=[.lit (.string (P9 k).data.toList), .lit (.int .i64 (Ih k)), .lit (.bool (Yr k)), .lit (.bool (Pi k)), .lit (.bool (Tu k))]:=by
   have y:=congrArg Prod.fst U;rw[G,Apb] at y;exact(DataW.agg.inj y).symm
  obtain⟨a,d,e,c,g,rfl⟩:∃a d e c g,i=[a,d,e,c,g]:=by
   match i,M with
   | [a,d,e,c,g],_=>exact⟨_,_,_,_,_,rfl⟩
  simp only[A6k,A66,List.cons.injEq,A8u] at x;obtain⟨B,q,A,o,s⟩:=x;have F:DataW.trod (λ_=>()) prog W 0 (λ_=>true) false n 9 (List.take 1 (List.drop 0 (List.take 5 (List.drop (k*5) cs.toList))))=some a:=by
   have h:DataW.trod (λ_=>()) prog W 0 (λ_=>true) false n 9 (List.take (prog.cellsOf 9) (List.drop 0 (List.take 5 (List.drop (k*5) cs.toList))))=some a:=f 0 _ rfl;rw[A30] at h;exact h
  have H:DataW.trod (λ_=>()) prog W 0 (λ_=>true) false n 3 (List.take 1 (List.drop 1 (List.take 5 (List.drop (k*5) cs.toList))))=some d:=by
   have h:DataW.trod (λ_=>()) prog W 0 (λ_=>true) false n 3 (List.take (prog.cellsOf 3) (List.drop 1 (List.take 5 (List.drop (k*5) cs.toList))))=some d:=f 1 _ rfl;rw[A50] at h;exact h
  have Y:DataW.trod (λ_=>()) prog W 0 (λ_=>true) false n 4 (List.take 1 (List.drop 2 (List.take 5 (List.drop (k*5) cs.toList))))=some e:=by
   have h:DataW.trod (λ_=>()) prog W 0 (λ_=>true) false n 4 (List.take (prog.cellsOf 4) (List.drop 2 (List.take 5 (List.drop (k*5) cs.toList))))=some e:=f 2 _ rfl;rw[A31] at h;exact h
  have D:DataW.trod (λ_=>()) prog W 0 (λ_=>true) false n 4 (List.take 1 (List.drop 3 (List.take 5 (List.drop (k*5) cs.toList))))=some c:=by
   have h:DataW.trod (λ_=>()) prog W 0 (λ_=>true) false n 4 (List.take (prog.cellsOf 4) (List.drop 3 (List.take 5 (List.drop (k*5) cs.toList))))=some c:=f 3 _ rfl;rw[A31] at h;exact h
  have g4:DataW.trod (λ_=>()) prog W 0 (λ_=>true) false n 4 (List.take 1 (List.drop 4 (List.take 5 (List.drop (k*5) cs.toList))))=some g:=by
   have h:DataW.trod (λ_=>()) prog W 0 (λ_=>true) false n 4 (List.take (prog.cellsOf 4) (List.drop 4 (List.take 5 (List.drop (k*5) cs.toList))))=some g:=f 4 _ rfl;rw[A31] at h;exact h
  obtain⟨s0,Q,J,_⟩:=DataW.trod_string underlying9 F;obtain⟨s1,X,P,_⟩:=DataW.trod_int underlying3 H;obtain⟨s2,T,S⟩:=DataW.trod_bool underlying4 Y;obtain⟨s3,E,N⟩:=DataW.trod_bool underlying4 D;obtain⟨s4,L,R⟩:=DataW.trod_bool underlying4 g4;subst J P S N R;simp only[DataW.lit.injEq,Lit.string.injEq,Lit.int.injEq,Lit.bool.injEq,true_and] at B q A o s;have K:=A07 B;subst K q A o s;have b:∀(j:Nat) (v:Value),j<5->List.take 1 (List.drop j (List.take 5 (List.drop (k*5) cs.toList)))=[v]->W.cell? ⟨1,k*5+j,none⟩=some v:=by
   intro j v hj h;rw[Z];have:=congrArg (λl=>l[0]?) h
   simpa[A71,A72,hj] using this
  exact⟨b 0 _ omz Q,b 1 _ omz X,b 2 _ omz T,b 3 _ omz E,b 4 _ omz L⟩
 refine⟨?_,w⟩;have:=(w 0 omz).1
 exact lt_of_cell this
theorem Aj5 {l:List (String × DataW Unit)}(h:laidMet prog l W)(e:("loop.example/stilway/impl.devRows",DataW.agg ((List.range 14).map Apb))∈l):Em W:=by
 obtain⟨i,d,_,_⟩:=h;obtain⟨g,t,j,fuel,p,a,f,c,b⟩:=Awv d e;obtain rfl:=A67 (A41.symm.trans a);obtain rfl:=A67 (Axn.symm.trans f);exact Am9 c b
theorem cU8:prog.cellsOf 5=1:=krz
theorem wf_u8 {n:Int}(h:(Lit.int .u8 n).wf=true):0<=n/\n<256:=by
 have:=h
 simp[Lit.wf,IntKind.min,IntKind.max,IntKind.signed,IntKind.bits] at this;omega
theorem Aji {H:Type}{enc:TypeId × Value->H}{v:Value}{x:DataW H × List MemPlace}(h:DataW.trod enc prog W 0 (λ_=>true) true fuel 22 [v]=some x):BytesAt W v:=by
 rcases Deep.open_slice underlying22 h with⟨e,_⟩ | ⟨a,len,cap,m,n,D,Pl,e,_,l,r,t,_,g⟩
 ·obtain rfl:v=.slice none 0 0:=by simpa using e
  exact⟨none,0,0,rfl,A57 _,omz,λi h=>absurd h spz⟩
 ·obtain rfl:v=.slice (some a) len cap:=by simpa using e
  have A:len<=m:=by rw[t];split<;>omega
  have each:∀i,i<len->∃z:Int,W.cell? (a.add (i*1))=some (.int .u8 z)/\0<=z/\z<256:=by
   intro i hi;obtain⟨w,d,u⟩:=g i omz;rw[cU8] at d;obtain⟨_,B,s⟩:=World.cells?_some d;obtain⟨z,c,_,q⟩:=DataW.trod_int underlying5 u;have f:=s 0 omz;rw[Addr.add_add] at f;rw[c] at f;refine⟨z,by simpa using f,wf_u8 q⟩
  obtain⟨b,o,sp⟩:=a;refine⟨_,len,cap,rfl,l,A6e r dcz,λi hi=>?_⟩;obtain⟨z,c,d⟩:=each i hi;have k:sp=none:=by
   obtain⟨y,j,_⟩:=each 0 omz;simpa[Addr.add] using World.cell?_spot j
  subst k;rw[Addr.add_lit,Nat.mul_one] at c;exact⟨b,o,z,rfl,lt_of_cell c,c,d⟩
theorem etG:prog.globalNamed "errors.errorType" =some 0:=krz
theorem A5y:(prog.cutTypes.find? (·.1== "internal/reflectlite.rtype")).map (·.2)=some 135:=krz
theorem A5q:((List.range prog.types.size).filter λt=>prog.rowNamed t [101,114,114,111,114])=[85]:=krz
theorem Aod (h:handlesMet prog [("errors.errorType",DataW.iface "internal/reflectlite.rtype" (.agg [.ptr (.lit (.string [101,114,114,111,114]))]))] W):En W:=by
 obtain⟨name,u,j,d,c,i,f,b⟩:=h _ (List.mem_singleton.2 rfl);have g:=(A67 d).symm;subst g;obtain rfl:=A67 (A5y.symm.trans c);have a:j∈(List.range prog.types.size).filter λt=>prog.rowNamed t [101,114,114,111,114]:=List.mem_filter.2 ⟨List.mem_range.2 i,f⟩
 rw[A5q] at a;obtain rfl:=List.mem_singleton.1 a;have e:typeHandle prog 85=.pointer (some ⟨3,85,none⟩):=krz
 rw[e] at b;have k:=World.var?_cell etG b 0;unfold En;simpa using k
end Go.Proofs.YtnpfcnolmkanfaaGreatDoor
