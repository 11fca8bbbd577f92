import Derived.Test.YtmnnkedjoecehaaGreatDoorD21
import Derived.Test.YtmnnkedjoecehaaGreatDoorCI6
import Derived.Test.YtmnnkedjoecehaaGreatDoorN7
set_option maxHeartbeats 40000000
set_option maxRecDepth 100000
namespace Go.Proofs.YtmnnkedjoecehaaGreatDoor
open Tryz Go.RowKit Go.Sort Go.BigFrame
theorem Y4 {W:World}{ob:Obj}{c p:Nat}(h:c<W.heap.size):(W.alloc ob).cell? (AK c p)=W.cell? (AK c p):=(Aa W ob).cell (p:=(AK c p)) h
open Classical in
theorem uR (d f:List Stil.CC)(H J:Value)(w:World)(S:Dj w H d)(R:Dj w J f)(hl:d.length<=1048576)(T:f.length<=1048576):
  Calls prog 73 #[H,J] w (AN w (.bool (decide (d=f)))):=by
 obtain⟨a,cap,rfl,z⟩:=S;obtain⟨b,ac,rfl,C⟩:=R;by_cases B:d.length=f.length
 ·have V:Hid (∀i (h:i<d.length),∃b o,a=some (AK b o)/\b<w.heap.size/\Ju w b (o+i*3) d[i]):=z
  have Y:Hid (∀i (h:i<f.length),∃E o,b=some (AK E o)/\E<w.heap.size/\Ju w E (o+i*3) f[i]):=C;clear z C;have U:((d.length:Int) !=(f.length:Int))=false:=by rw[bne_eq_false_iff_eq];omega
  have ab:d.length<=f.length:=AQ
  have ae:f.length<=d.length:=AQ
  clear B;go_enter func73,ntmps73
  go_wp2
  go_loopw [13] (λi wr=>∃k:Nat,k<=d.length/\i=AB k/\d.take k=f.take k/\AO w wr) (λi _=>d.length - (intOf i).toNat)
  case atStart=>exact⟨0,AQ,rfl,AU,Below.refl _ _⟩
  case round=>
   obtain⟨k,T,rfl,L,l⟩:=hrel;have O:Hid (d.take k=f.take k):=L;clear L;by_cases K:k<d.length
   ·have Q:k<f.length:=by omega
    obtain⟨b1,o1,rfl,aa,D⟩:=V k K;obtain⟨b2,o2,rfl,Z,A⟩:=Y k Q;have⟨P,I,N⟩:=D.below l aa;have⟨s,u,G⟩:=A.below l Z;by_cases m:d[k]=f[k]
    ·have t:Hid (d.take (k+1)=f.take (k+1)):=by
      show _=_
      rw[EB K,EB Q,O.out,m]
     rw[<-m] at s u G;have⟨x,q⟩:=AA (d[k])
     rw[<-q] at P I N s u G;clear q m D A
     go_wp2
     go_region
     all_goals go_wp2
     exact⟨⟨k+1,AQ,by go_num,t.out,l.drew⟩,by simp[intOf];omega⟩
    ·have t:Hid (¬d=f):=by
      show ¬_
      intro h;subst h;exact m rfl
     have⟨x,q⟩:=AA (d[k])
     have⟨y,F⟩:=AA (f[k])
     rw[<-q] at P I N;rw[<-F] at s u G;rw[<-q,<-F] at m;have X:(x.kind==y.kind)=false\/(x.kind=y.kind/\(x.n==y.n)=false)\/(x.kind=y.kind/\x.n=y.n/\(x.p==y.p)=false):=by
      simp only[CS];by_cases g:x.kind=y.kind
      ·by_cases j:x.n=y.n
       ·exact .inr (.inr ⟨g,j,λM=>m ((kf _ _).2 ⟨g,j,M⟩)⟩)
       ·exact .inr (.inl ⟨g,j⟩)
      ·exact .inl g
     clear q F m D A;rcases X with g | ⟨g,j⟩ | ⟨g,j,M⟩
     ·go_wp2
      go_region
      all_goals go_wp2
      go_ret;exact⟨Ae (by rw[Fo t.out]),l.drew⟩
     ·rw[<-g] at s
      clear g
      go_wp2
      go_region
      all_goals go_wp2
      go_ret;exact⟨Ae (by rw[Fo t.out]),l.drew⟩
     ·rw[<-g] at s
      rw[<-j] at u;clear g j
      go_wp2
      go_region
      all_goals go_wp2
      go_ret;exact⟨Ae (by rw[Fo t.out]),l.drew⟩
   ·go_wp2
    go_ret;have e:d=f:=by
     have:=O.out
     rwa [EC AQ,EC AQ] at this
    exact⟨Ae (by rw[JP e]),l⟩
 ·have U:((d.length:Int) !=(f.length:Int))=true:=by rw[bne_iff_ne];omega
  have HN:Hid (¬d=f):=by show ¬_;intro h;exact B (by rw[h])
  clear B z C;go_enter func73,ntmps73
  go_wp2
  go_ret;exact⟨Ae (by rw[Fo HN.out]),Ao⟩
open Classical in
theorem Avr (x y:Stil.Elem)(hx:x.fits)(q:y.fits):∀(a b:Value) (w:World),Dj w a x.args->Dj w b y.args->Calls prog 44 #[.agg #[AB x.op,a], .agg #[AB y.op,b]] w (AN w (.bool (decide (x=y)))):=by
 intro a b w j m;obtain⟨op,f⟩:=x;obtain⟨l,d⟩:=y;simp only at j m;have s:Hid (∀W,AO w W->Calls prog 73 #[a,b] W (AN W (.bool (decide (f=d))))):=λW p=>uR f d a b W (j.below p) (m.below p) hx.2.1 q.2.1
 obtain⟨z,B,rfl,_⟩:=j;obtain⟨C,u,rfl,_⟩:=m;clear hx q;by_cases g:op=l
 ·subst g
  have k:Hid (decide ((⟨op,f⟩:Stil.Elem)=⟨op,d⟩)=decide (f=d)):=by show _=_;simp
  go_enter func44,ntmps44
  go_wp2_with (go_at_call 73;refine(s _ AW).mono ?_;rintro e A ⟨rfl,t⟩)
  go_ret;exact⟨Ae (by rw[k.out]),AW⟩
 ·have D:(op==l)=false:=by rw[CS];exact g
  have k:Hid (¬(⟨op,f⟩:Stil.Elem)=⟨l,d⟩):=by show ¬_;intro h;exact g (Stil.Elem.mk.inj h).1
  clear g;go_enter func44,ntmps44
  go_wp2
  go_ret;exact⟨Ae (by rw[Fo k.out]),AW⟩
end Go.Proofs.YtmnnkedjoecehaaGreatDoor
namespace Go.Proofs.YtmnnkedjoecehaaGreatDoor
open Tryz Go.RowKit Go.Sort Go.BigFrame
variable {c i n o:Nat}{v:Value}{w':World}
open Classical in
theorem Avo (x y:Stil.Gf)(hx:x.fits)(r:y.fits):∀(b d:Value) (w:World),Dj w b x.one.args->Dj w d y.one.args->Calls prog 22 #[.agg #[AB x.code,AB x.one.op,b], .agg #[AB y.code,AB y.one.op,d]] w (AN w (.bool (decide (x=y)))):=by
 intro b d w k p;obtain⟨a,f⟩:=x;obtain⟨l,g⟩:=y;simp only at k p;have s:=AV (λW q=>Avr f g hx.2 r.2 b d W (k.below q) (p.below q));obtain⟨z,B,rfl,_⟩:=k;obtain⟨C,u,rfl,_⟩:=p;clear hx r;by_cases j:a=l
 ·subst j
  have m:Hid (decide ((⟨a,f⟩:Stil.Gf)=⟨a,g⟩)=decide (f=g)):=by show _=_;simp
  go_enter func22,ntmps22
  go_wp2_with (go_at_call 44;refine(s _ AW).mono ?_;rintro e A ⟨rfl,t⟩)
  go_ret;exact⟨Ae (by rw[m.out]),AW⟩
 ·have D:(a==l)=false:=by rw[CS];exact j
  have m:Hid (¬(⟨a,f⟩:Stil.Gf)=⟨l,g⟩):=by show ¬_;intro h;exact j (Stil.Gf.mk.inj h).1
  clear j;go_enter func22,ntmps22
  go_wp2
  go_ret;exact⟨Ae (by rw[Fo m.out]),AW⟩
open Classical in
theorem Avq  (es d:List Stil.Gf)(B:∀x∈es,∀y∈d,∀(m q:Value) (w:World),Dj w m x.one.args->Dj w q y.one.args->Calls prog 22 #[.agg #[AB x.code,AB x.one.op,m], .agg #[AB y.code,AB y.one.op,q]] w (AN w (.bool (decide (x=y)))))(v u:Value)(w:World)(aa:H8 w v es)(V:H8 w u d)(hl:es.length<=1048576)(hm:d.length<=1048576):
  Calls prog 21 #[v,u, .func (.func 22) #[] #[]] w (AN w (.bool (decide (es=d)))):=by
 obtain⟨a,cap,rfl,F⟩:=aa;obtain⟨a2,ag,rfl,t⟩:=V;by_cases s:es.length=d.length
 ·have Y:=AV F
  have Z:=AV t;have IH:=AV B;clear F t B;have ac:((es.length:Int) !=(d.length:Int))=false:=by rw[bne_eq_false_iff_eq];omega
  have af:es.length<=d.length:=AQ
  have aj:d.length<=es.length:=AQ
  clear s;go_enter func21,ntmps21
  go_wp2
  go_loopw [17] (λi wr=>∃k:Nat,k<=es.length/\i=AB k/\es.take k=d.take k/\AO w wr) (λi _=>es.length - (intOf i).toNat)
  case atStart=>exact⟨0,AQ,rfl,AU,Below.refl _ _⟩
  case round=>
   obtain⟨k,hk,rfl,K,f⟩:=hrel;have z:=AV K;clear K;by_cases r:k<es.length
   ·have A:k<d.length:=by omega
    obtain⟨b,o,rfl,H,G⟩:=Y k r;have M:=(G.below f H)
    obtain⟨b2,o2,rfl,S,R⟩:=Z k A;have J:=(R.below f S)
    have⟨x0,U,m,x2,I⟩:=id M;have⟨P,L,q,y2,O⟩:=id J;obtain⟨l,g⟩:∃l,decide (es[k]=d[k])=l:=⟨_,rfl⟩
    have j:=AV (λW N=>IH es[k] (CJ r) d[k] (CJ A) _ _ W (I.below N) (O.below N));have D:Hid (l=true->es.take (k+1)=d.take (k+1)):=by
     show _->_
     intro h;rw[h,decide_eq_true_iff] at g;rw[EB r,EB A,z.out,g]
    have E:Hid (l=false->¬es=d):=by
     show _->_
     intro h he;rw[h,Ft] at g;subst he;exact g rfl
    rw[g] at j;have⟨x,Q⟩:=AA (es[k])
    have⟨y,T⟩:=AA (d[k])
    rw[<-Q] at j x0 U;rw[<-T] at j P L;clear Q T g G M R J z
    ·obtain⟨p0,r0,rfl,_⟩:=I
     obtain⟨ap,ah,rfl,_⟩:=O;have an:=f.size;have ao:=CB H f.size;have C:=CB S f.size;have al:=λob=>(Y4 (ob:=ob) C).trans P
     have ak:=λob=>(Y4 (ob:=ob) C).trans L
     have ai:=λob=>(Y4 (ob:=ob) C).trans y2
     cases l
     ·have X:=AV (E rfl)
      clear E D
      go_wp2_with (go_at_call 22;refine(j _ AW).mono ?_;rintro e w2 ⟨rfl,ab⟩)
      go_ret;exact⟨Ae (by rw[Fo X.out]),Bh f AW⟩
     ·have ae:=AV (D rfl)
      clear E D
      go_wp2_with (go_at_call 22;refine(j _ AW).mono ?_;rintro e w2 ⟨rfl,ab⟩)
      exact⟨⟨k+1,AQ,by go_num,ae.out,Bh f AW⟩,by simp[intOf];omega⟩
   ·go_wp2
    go_ret;have e:es=d:=by
     have:=z.out
     rwa [EC AQ,EC AQ] at this
    exact⟨Ae (by rw[JP e]),f⟩
 ·have ac:((es.length:Int) !=(d.length:Int))=true:=by rw[bne_iff_ne];omega
  have HN:Hid (¬es=d):=by show ¬_;intro h;exact s (by rw[h])
  clear s F t B;go_enter func21,ntmps21
  go_wp2
  go_ret;exact⟨Ae (by rw[Fo HN.out]),Below.refl _ _⟩
open Classical in
theorem Avm (es a:List Stil.Gf)(v u:Value)(w:World)(d:H8 w v es)(b:H8 w u a)(k:∀x∈es,x.fits)(hg:∀x∈a,x.fits)(hl:es.length<=1048576)(g:a.length<=1048576):
  Calls prog 8 #[v,u] w (AN w (.bool (decide (es=a)))):=by
 have H:=AV (λW h=>Avq es a (λx f y j=>Avo x y (k x f) (hg y j)) v u W (d.below h) (b.below h) hl g);obtain⟨s,p,rfl,-⟩:=d;obtain⟨m,q,rfl,-⟩:=b;go_enter func8,ntmps8
 go_wp2_with (go_at_call 21;refine(H _ AW).mono ?_;rintro e r ⟨rfl,l⟩)
 go_ret;exact⟨rfl,AW⟩
theorem j8 (g P:Nat)(w:World)(hr:Ij w g P)(L:P<=1000000):
  Calls prog 9 #[AH g] w λe w'=>S1 e w w' g (P+400000) 6000 104:=by
 have O:=V8 hr;go_enter func9,ntmps9;go_upto_region 2 with(go_at_call 23;refine(wN g _ _ Av AQ).mono ?_;rintro e M ⟨l,v,rfl,f,s,I,H,k⟩;obtain⟨J,F,rfl,-⟩:=id f)
 have A:=AV f;have j:=AV s;clear f s;have R:=k.size
 go_wp2_with (first | (go_at_call_of 24 (Value.int IntKind.i64 16);refine(Fv g _ _ _ H AQ AQ AQ).mono ?_;rintro e m ⟨x,rfl,N,S,q,d⟩;have K:=d.size;have t:=AV (A.keep (Ac.of_grown d (λb u e=>(by simp only[C0] at e;omega))));have z:Hid (Calls prog 25 #[AH g,AE J l.length F] m λe w'=>SH (λb=>w.heap.size<=b) e m w' g (P+60000+1+300000) 6000 104):=Ax5 _ g (P+60000+1) 4000 4 m _ l (λb u=>AQ) t j I AQ AQ q AQ) | (go_at_call 25;refine z.mono ?_;rintro e w3 ⟨G,Q,rfl,D,C,B,E,y⟩))
 ·go_ret
  refine⟨G,_,rfl,D.mono λb _ h=>?_,C,B,Gl E AQ,Ed (Ed k d) y⟩;rcases h with h | h
  ·exact h.1
  ·omega
 ·go_ret
  exact⟨l,_,rfl,t.out,λa r=>⟨(j a r).1,by have:=(j a r).2;omega⟩,AQ,Gl q AQ,Ed k d⟩
theorem nQ {w:World}{g:Nat}(h:w.grownBy w' (some g))(hg:w.heap.size<=g):AO w w':=⟨h.os,h.tape,h.output,h.size,λk a=>h.block k a (by intro e;cases e;omega)⟩
open Stil
def SG (N k:Nat)(w:World)(e:Ending)(w':World):Prop:=∃(l:List Stil.B9) (a:Option Addr) (c:Nat),e=.returned (AE a l.length c)/\l.length<=c/\E8 w' (AE a l.length c) l/\(∀a∈l,Jw a/\Gt a<=N)/\l.length<=k/\AO w w'
theorem pS (u:Value)(w:World)(hu:BytesAt w u):
  Calls prog 4 #[u] w λe w'=>SG 6000 104 w e w':=by
 have d:Hid (BytesAt w u):=hu;obtain⟨r,t,s,rfl,-,-,-⟩:=hu;go_enter func4,ntmps4
 go_wp2_with (first | (go_at_call 10;refine(gp _ _ d.out).mono ?_;rintro e x ⟨rfl,g,m⟩) | (go_at_call 9;refine(j8 w.heap.size 0 _ g AQ).mono ?_;rintro e y ⟨l,v,rfl,b,k,q,z,j⟩))
 go_ret;obtain⟨a,c,rfl,f,-⟩:=id b;exact⟨l,a,c,rfl,f.1,b.at,k,q,nQ (Ed (grown_below m _) j) (CG _)⟩
open Go.Co
theorem Ii.blw {w:World}(h:Ii w)(a:CZ w.heap.size w w'):Ii w':=by
 have e:Ii {w' with tape:=w.tape,drawn:=0}=Ii w':=AX
 exact e ▸ h.below (a.tape 0)
theorem kX (l:List Stil.B9):(Gq l).1=[]\/(Gq l).1=Ho l:=by
 unfold Gq;split
 ·exact .inl rfl
 ·split
  ·exact .inl rfl
  ·exact .inr rfl
theorem ZQ {l:List Stil.B9}(a:∀x∈l,Dh x):(∀x∈(Gq l).1,x.fits)/\(Gq l).1.length<=800:=by
 rcases kX l with h | h<;>rw[h]
 ·exact⟨(λx b=>by cases b),DZ _⟩
 ·exact⟨yv a,Xi a⟩
abbrev y9:Value:=undef
def RgF (X q:Value)(i:Int)(a:Act):Prop:=∃x0 r x4 x5 W S e f w b l C s j k R ai ah Q Y g D K B T ab ae M aa uV V m L x af I h p ac O F J z t G E P H zx N aj u y zq zo zn Z zk zi U zg d ag A:Value,a=⟨#[x0,r, .bool false,X,x4,x5,W,S,q,AB i,e,f,w,b,l,C,s,j,k,R,ai,ah,Q,Y,g,D,K,B,T,ab,ae,M,aa,uV,V,m,L,x,af,I,h,p,ac,O,F,J,z,t,G,E,P,H,zx,N,aj,u,y,zq,zo,zn,Z,zk,zi,U,zg,d,ag,A],[]⟩
def FO (w:World)(v:Value)(L:List (List Stil.Gf)):Prop:=∃a cap,v=AE a L.length cap/\∀i (h:i<L.length),∃b o,a=some ⟨b,o,none⟩/\b<w.heap.size/\∃d,w.cell? ⟨b,o+i,none⟩=some d/\H8 w d L[i]
theorem FO.below {w:World}{L:List (List Stil.Gf)}(h:FO w v L)(d:AO w w'):FO w' v L:=by
 obtain⟨a,cap,g,l⟩:=h;refine⟨a,cap,g,λi hi=>?_⟩;have⟨b,o,k,e,m,f,j⟩:=l i hi;exact⟨b,o,k,CB e d.size,m,(d.cell (p:=(AK b (o+i))) e).trans f,j.below d⟩
theorem FO.blw {w:World}{L:List (List Stil.Gf)}(h:FO w v L)(a:CZ w.heap.size w w'):FO w' v L:=by
 have e:FO {w' with tape:=w.tape,drawn:=0} v L=FO w' v L:=AX
 exact e ▸ h.below (a.tape 0)
theorem Tp.tr {a b c:World}(h:Tp a b)(k:Tp b c):Tp a c:=by
 obtain⟨g,d,rfl⟩:=h;obtain⟨f,e,rfl⟩:=k;exact⟨f,e,rfl⟩
theorem jr {w:World}{b:Nat}{l:List Stil.B9}(h:E8 w (AE (some (AK b o)) n c) l)(hi:i<l.length)(p:Nat):E8 w (AE (some (AK b (o+i*6))) 1 p) [l[i]]:=by
 obtain⟨a,cap,d,m⟩:=h;cases d;refine⟨_,_,rfl,λj f=>?_⟩;obtain rfl:j=0:=by simpa using f
 have⟨q,r,e,k,g⟩:=m i hi;cases e;exact⟨b,o+i*6,rfl,k,by simpa using g⟩
theorem mT (w:World){b:Nat}(h:i<n)(j:n<=c):(Instr.sliceAt 23 (AE (some (AK b o)) n c) (some (AB i)) (some (AB (i+1))) none).run prog w=.ok (AE (some (AK b (o+i*6))) 1 (c - i)) w:=by
 have e:(i:Int)+1<=(c:Int):=AQ
 have d:((i:Int)+1).toNat=i+1:=AQ
 have g:c≠i:=AQ
 rw[run_sliceAt_slice _ _ _ _ _ _ AX,run_slice_lh _ _ _ _ _ AX _ _ _ _ AQ AQ e];have f:(sizeOf (prog.elem 23)).run prog w=.ok 6 w:=AX
 rw[f];simp only[Result.andThen,sliced,d,Int.toNat_natCast,if_neg g,IX,Addr.add];rw[Nat.add_sub_cancel_left];by_cases a:i*6=0
 ·rw[if_pos a,a];rfl
 ·rw[if_neg a]
theorem mj (w:World){b:Nat}(h:i<n)(e:n<=c):(Instr.sliceAt 23 (AE (some (AK b o)) n c) (some (AB i)) (some (AB (i+1))) none).events prog w #[]=#[]:=by
 have hu:prog.underlying 23=some (.slice (prog.elem 23)):=AX
 have d:(i:Int)+1<=(c:Int):=AQ
 have a:(0:Int)<=(i:Int)+1:=AQ
 simp only[Instr.sliceAt,Instr.slice,Instr.sliceBounds,Instr.sliceBound,asIntOf];simp[run_underlying hu,d,a]
theorem SY (w:World){b:Nat}{a:Operand->Value}{op:Oper}{x l k:Operand}(h:i<n)(d:n<=c)(j:op.op=.slice 23 x (some l) (some k) none)(hx:a x=.slice (some (AK b o)) n c)(hl:a l=AB i)(f:a k=AB (i+1)):(execOp a op).run prog w=.ok (.value (.slice (some (AK b (o+i*6))) 1 (c - i))) w/\(execOp a op).events prog w #[]=#[]:=by
 simp only[execOp,j,Option.map,hx,hl,f];have g:=mT w (b:=b) (o:=o) h d;have e:=mj w (b:=b) (o:=o) h d;constructor
 ·simp[g]
 ·simp[e]
theorem gl {l:List Stil.B9}{x:Stil.B9}(h:x∈l):Aw [x]<=Aw l:=by
 induction l with
 | nil=>cases h
 | cons y l a=>
  unfold Aw at*;rw[CQ,DO];rcases List.mem_cons.1 h with rfl | h
  ·simp
  ·exact CM (a h) (Nat.le_add_left _ _)
theorem zs0 {p:Prop}(h:p:=by
 rintro a' w' todo ⟨τ,d,_,hd,ht,hb⟩
 exact Go.Co.Comes.stop ⟨_,rfl,rfl,hd,rfl,rfl,ht,hb.os,hb.out,hb.size,hb.block⟩):p:=h
open Classical in
theorem sk (HD:∀u w,BytesAt w u->Calls prog 4 #[u] w λe w'=>SG 6000 104 w e w')(u:Value)(w:World)(O:Ep w)(ab:Ff w)(ah:Ii w)(hu:BytesAt w u):
  Go.Co.Comes prog (Go.Conc.G (Frame.enter prog 3 #[u] .normal) []) w (TJ 3 w):=by
 have fG:=Go.Conc.resultsC_tmp (P:=prog) (fn:=Tryz.f3) rfl;have ax:Hid (∀τ d,BytesAt {w with tape:=τ,drawn:=d} u):=fun τ d=>by
  have e:BytesAt {w with tape:=τ,drawn:=d} u=BytesAt w u:=AX
  exact e ▸ hu
 obtain⟨ua,ul,uc,rfl,-,-,-⟩:=hu;by_cases bT:1048576<ul
 ·refine fl okP (v:=.bool true) (Post:=λw'=>CZ w.heap.size w w') (fun τ d=>?_) ?_
  ·obtain⟨W,r⟩:∃W:World,W={w with tape:=τ,drawn:=d}:=⟨_,rfl⟩
   rw[<-r];have fZ:Hid (CZ w.heap.size w W):=by subst r;exact⟨rfl,rfl,CG _,λ_ _=>rfl⟩
   clear r O ab;go_enter func3,ntmps3
   go_wp2
   go_ret;exact⟨rfl,fZ.out⟩
  ·intro fr w' W hl hf ⟨τ,d,hp⟩
   refine Go.Co.Comes.stop ⟨fr,rfl,hl.1,hl.2.1,hl.2.2.1,hf,?_,hp.os,hp.out,hp.size,hp.block⟩;have⟨fn,aH,hr⟩:=hl.2.2.2;rw[hf,func3] at aH;cases aH;have:=(fG fr.tmps W).1
   rw[hr] at this;injection this with h3
   exact h3.symm
 have ag:∃c0 c1 s r4 d,Tryz.f3.body=some (IC [c0,c1,s] (.seq r4 d)):=⟨_,_,_,_,_,rfl⟩
 obtain⟨c0,c1,s,r4,d,ag⟩:=ag;rw[Go.Co.enter_at #[AE ua ul uc] func3 ag];simp only[ntmps3,Cd,CH,CP,Nat.reduceAdd,Nat.reduceSub,DK,DL,DJ,DN,C5,C4];unfold Tryz.f3 at ag;simp only[IC] at ag;cases ag;obtain⟨RA,yH⟩:∃RA:Act->World->Prop,Hid (RA=(λa' W=>∃(aE aM aD aK aG:Value) (l:List Stil.B9) (A:Option Addr) (s:Nat),a'=⟨#[AE ua ul uc,y9, .bool false,AE A l.length s,y9,y9,y9,y9,y9,y9,y9,y9,aE,aM,aD,aK,aG,y9,y9,y9,y9,y9,y9,y9,y9,y9,y9,y9,y9,y9,y9,y9,y9,y9,y9,y9,y9,y9,y9,y9,y9,y9,y9,y9,y9,y9,y9,y9,y9,y9,y9,y9,y9,y9,y9,y9,y9,y9,y9,y9,y9,y9,y9,y9,y9,y9,y9,y9],[]⟩/\l.length<=s/\E8 W (AE A l.length s) l/\((∀x∈l,Dh x)/\l.length<=1048576/\Aw l<=1000000000)/\CZ w.heap.size w W)):=⟨_,rfl⟩
 refine OQ okP [_,_,_] (R:=RA) ?_ ?_
 ·intro τ y
  obtain⟨W,r⟩:∃W:World,W={w with tape:=τ,drawn:=y}:=⟨_,rfl⟩
  rw[<-r];have fZ:Hid (∀j,AO W j->CZ w.heap.size w j):=by
   intro j h;subst r;exact⟨h.os,h.output,h.size,h.block⟩
  have bM:Hid (Calls prog 4 #[AE ua ul uc] W λe w'=>∃(l:List Stil.B9) (a:Option Addr) (c:Nat),e=.returned (AE a l.length c)/\l.length<=c/\E8 w' (AE a l.length c) l/\((∀x∈l,Dh x)/\l.length<=1048576/\Aw l<=1000000000)/\AO W w'):=by
   refine(HD _ _ (r ▸ ax.out τ y)).mono ?_;rintro e w1 ⟨l,a1,c1,rfl,J,bo,aF,S,az⟩;have hs:=PS aF;have:l.length*(2+2*6000)<=104*(2+2*6000):=E6 _ S;exact⟨l,a1,c1,rfl,J,bo,⟨PT aF AQ,AQ,AQ⟩,az⟩
  clear r O ab ah ax HD fG;refine Qv ?_
  go_wp2
  refine Qv ?_
  go_wp2
  refine Qv ?_
  go_wp2_with (go_at_call 4;refine bM.mono ?_;rintro e w1 ⟨l,a1,c1,rfl,J,a7,kR,az⟩)
  refine QM ?_;rw[yH.out];exact⟨_,_,_,_,_,l,a1,c1,rfl,J,a7,kR,fZ _ az⟩
 intro a' W1 ao;rw[yH.out] at ao;clear yH RA ax HD;obtain⟨τ,y,aE,aM,aD,aK,aG,l,A,s,rfl,J,ak,⟨I,S,Y⟩,D⟩:=ao;have e1:E8 {W1 with tape:=τ,drawn:=y} (AE A l.length s) l=E8 W1 (AE A l.length s) l:=AX
 replace ak:=e1 ▸ ak;replace D:CZ w.heap.size w W1:=⟨D.os,D.out,D.size,D.block⟩
 clear e1;have⟨N,aa⟩:=AA ((Gq l).2)
 have⟨H,vN⟩:=AA ((Gq l).1)
 have⟨T,xP⟩:=ZQ I;rw[<-vN] at T xP;refine cR λ_ t=>?_
 simp only[Cd,CH,CP,Nat.reduceAdd,CV,List.range,List.range.loop];refine cP t (AE A l.length s) λ_ t=>?_
 try walk_nrm
 refine cC t #[AE A l.length s] func5 (Post:=λaj w'=>(∃g,aj=.tuple #[g,AB N]/\H8 w' g H)/\CZ W1.heap.size W1 w') (λj t=>(YP l _ j (O.blw (D.trans t.blw)) (ab.blw (D.trans t.blw)) (ak.blw t.blw) S Y I).mono λaj w' ⟨g,ms,au,ap,hO,hb⟩=>⟨⟨g,by rw[aa];exact au,by rw[vN] at T xP ⊢;exact hO.insts ap T xP⟩,t.lw hb⟩) λgt W2 hp=>?_
 obtain⟨⟨g,rfl,ae⟩,aJ⟩:=hp;obtain⟨ga,gc,rfl,-⟩:=id ae;clear t;have t:=Tp.refl W2;try walk_nrm
 refine cP t (.tuple #[AE ga H.length gc,AB N]) λ_ t=>?_
 try walk_nrm
 refine cP t (AE ga H.length gc) λ_ t=>?_
 try walk_nrm
 refine cP t (AB N) λ_ t=>?_
 try walk_nrm
 refine cP t (AE ga H.length gc) λ_ t=>?_
 try walk_nrm
 refine cP t (AB N) λ_ t=>?_
 try walk_nrm
 refine cN t λX t=>?_
 have ay:CZ W1.heap.size W1 X:=aJ.trans t.blw;have E:CZ w.heap.size w X:=D.trans (ay.le D.size);have V:=ak.blw ay;have jm:=ae.blw t.blw;clear t aJ ay ae ak D;try simp only[Act.put]
 by_cases hc:N=0
 ·have h0:(Gq l).2=0:=by rw[<-aa];exact hc
  have⟨hR,hD⟩:=yP I h0;rw[<-vN] at hR;subst hc;have⟨L,hL⟩:=AA (l.map (λa=>Ea (Bo a)))
  have lQ:L.length=l.length:=by rw[hL,CW]
  have ar:∀i (hi:i<l.length),Gq [l[i]]=(L[i]'AQ,0):=by intro i hi;rw[hD i hi];simp[hL]
  rw[<-hL] at hR;clear hD hL;obtain⟨RB,kY⟩:∃RB:Act->World->Prop,Hid (RB=λa' W=>(∃U pc,RgF (AE A l.length s) (AE U L.length pc) 0 (a'.put (some 9) (AB 0))/\FO W (AE U L.length pc) L)/\CZ X.heap.size X W):=⟨_,rfl⟩
  refine OQ okP [_,_,_,_,_] (R:=RB) ?_ ?_
  ·intro τ y
   obtain⟨W,r⟩:∃W:World,W={X with tape:=τ,drawn:=y}:=⟨_,rfl⟩
   rw[<-r];have z:Tp X W:=⟨τ,y,r⟩
   have HB:Hid (∀j,AO W j->CZ X.heap.size X j):=by
    intro j h;subst r;exact⟨h.os,h.output,h.size,h.block⟩
   have an:=V.blw z.blw;have jo:=jm.blw z.blw;have af:CZ w.heap.size w W:=E.trans z.blw;have aw:Hid (∀j,AO W j->Calls prog 6 #[AE A l.length s] j λe w'=>∃a n c,e=.returned (.tuple #[AE a n c,AB 0])/\AO j w'):=λj h=>(YB l _ j (an.below h) S Y I).mono λe w' ⟨a,c,ms,he,_,_,hb⟩=>⟨a,_,c,by rw[h0] at he;exact he,hb⟩
   have aA:Hid (∀j,AO W j->Calls prog 7 #[AE ga H.length gc] j λe w'=>∃a c,e=.returned (AE a L.length c)/\FO w' (AE a L.length c) L/\AO j w'):=λj h=>by
    have:=vb H _ j ((O.blw af).below h) ((ah.blw af).below h) (jo.below h) AQ T
    rw[hR] at this;refine this.mono λe w' ⟨a,c,bX,rs,he,bR,hb⟩=>⟨a,c,he,?_,hb⟩
    have⟨a',c',hv,hq⟩:=bR.2.2.2.2.2.1;exact⟨a',c',hv,λi hi=>by have⟨b,o,h1,_,h2,rv,h3,h4⟩:=hq i hi;exact⟨b,o,h1,h2,rv,h3,h4.at⟩⟩
   have aU:((L.length:Int) !=(l.length:Int))=false:=by rw[lQ];simp
   clear r z E V jm an jo af aa vN T xP O ab ah I S Y fG h0 hR ar;have⟨m,hm⟩:=AA L.length
   rw[<-hm] at aA kY aU;clear lQ hm;refine Qv ?_
   go_wp2_with (go_at_call 6;refine(aw _ AW).mono ?_;rintro e w4 ⟨a4,n4,c4,rfl,bq⟩)
   refine Qv ?_
   go_wp2
   refine Qv ?_
   go_wp2
   refine Qv ?_
   go_wp2_with (go_at_call 7;refine(aA _ AW).mono ?_;rintro e w5 ⟨a5,c5,rfl,bh,bW⟩)
   refine Qv ?_
   go_wp2
   refine QM ?_;rw[kY.out];exact⟨⟨a5,c5,⟨_,_,_,_,_,_,_,_,_,_,_,_,_,_,_,_,_,_,_,_,_,_,_,_,_,_,_,_,_,_,_,_,_,_,_,_,_,_,_,_,_,_,_,_,_,_,_,_,_,_,_,_,_,_,_,_,_,_,_,_,_,_,_,_,rfl⟩,bh⟩,HB _ AW⟩
  intro a' W0 ao;rw[kY.out] at ao;clear kY RB;obtain⟨τ,y,⟨U,pc,hF,C⟩,B⟩:=ao;have eP:FO {W0 with tape:=τ,drawn:=y} (AE U L.length pc) L=FO W0 (AE U L.length pc) L:=AX
  replace C:=eP ▸ C;replace B:CZ X.heap.size X W0:=⟨B.os,B.out,B.size,B.block⟩
  clear eP;refine Go.Co.P7 okP λ_ q=>?_
  have t0:=(Tp.refl W0).al q;refine cR λ_ t=>?_
  simp only[Cd,CH,CP,CV,List.range,List.range.loop];refine cP t (AB 0) (λ_ t=>?_) (hr:=λ_=>rfl);refine cN t λ_ t=>?_
  refine VO okP λaP q=>?_
  replace t0:=t0.tr (t.al q);refine Av9 okP (λn a w=>∃i:Nat,n=l.length - i/\i<=l.length/\RgF (AE A l.length s) (AE U L.length pc) i a/\CZ X.heap.size X w/\FO w (AE U L.length pc) L) ?_ l.length ⟨0,AQ,AQ,hF,B.trans t0.blw,C.blw t0.blw⟩ ?_
  ·rintro n a w w' ⟨i,h1,h2,h3,h4,h5⟩ q
   have t:=(Tp.refl w).al q;exact⟨i,h1,h2,h3,h4.trans t.blw,h5.blw t.blw⟩
  clear hF C B t0 t;rintro n _ aW ⟨i,rfl,hi,⟨_,_,_,_,_,_,_,_,_,_,_,_,_,_,_,_,_,_,_,_,_,_,_,_,_,_,_,_,_,_,_,_,_,_,_,_,_,_,_,_,_,_,_,_,_,_,_,_,_,_,_,_,_,_,_,_,_,_,_,_,_,_,_,_,rfl⟩,B,C⟩ IH;refine Go.Co.P7 okP λ_ q=>?_
  have t1:=(Tp.refl aW).al q;refine cR λ_ t=>?_
  simp only[Cd,CH,CP,Nat.reduceAdd,CV,List.range,List.range.loop];refine cP t (AB i) λ_ t=>?_
  try walk_nrm
  refine cP t (AE A l.length s) λ_ t=>?_
  try walk_nrm
  refine cP t (AB l.length) λ_ t=>?_
  try walk_nrm
  by_cases ac:i<l.length
  ·have bO:(i:Int)<(l.length:Int):=by omega
   refine cP t (.bool true) λ_ t=>?_
   try walk_nrm
   refine cN t λ_ t=>?_
   refine XZ okP (t:=true) rfl λ_ q=>?_
   replace t:=t.al q;rw[if_pos rfl];refine Av8 okP λ_ q=>?_
   replace t:=t.al q;refine Go.Co.P7 okP λ_ q=>?_
   replace t:=t.al q;refine VO okP λK q=>?_
   replace t:=t1.tr (t.al q);have hY:=B.trans t.blw;have aB:=V.blw hY;have zI:CZ w.heap.size w K:=E.trans (hY.le E.size);replace C:=C.blw t.blw;obtain⟨b,o,rfl⟩:∃b o,A=some (AK b o):=by
    obtain⟨a,cap,hv,hc⟩:=V;cases hv;have⟨b,o,e,_⟩:=hc i ac;exact⟨b,o,e⟩
   have av:∀x∈[l[i]],Dh x:=λx hx=>by rw[List.mem_singleton.1 hx];exact I _ (CJ ac)
   have aI:Aw [l[i]]<=1000000000:=CM (gl (CJ ac)) Y;have ai:=ar i ac;have zG:(∀x∈L[i]'AQ,x.fits)/\(L[i]'AQ).length<=800:=by
    have:=ZQ av
    rw[ai] at this;exact this
   have⟨M,hM⟩:=AA (L[i]'AQ)
   rw[<-hM] at ai zG;have bP:IntKind.i64.wrap ((i:Int)+1)=(i:Int)+1:=by rw[IntKind.wrap_i64];omega
   refine cR λ_ t=>?_
   simp only[Cd,CH,CP,Nat.reduceAdd,CV,List.range,List.range.loop];refine cP t (AE (some (AK b o)) l.length s) λ_ t=>?_
   try walk_nrm
   refine cP t (AB i) λ_ t=>?_
   try walk_nrm
   refine cP t (AB i) λ_ t=>?_
   try walk_nrm
   refine cP t (AB (i+1)) (λ_ t=>?_) (hr:=λ_=>by simp;go_simp);try walk_nrm
   refine cP t (AE (some (AK b (o+i*6))) 1 (s - i)) (λ_ t=>?_) (hr:=λW=>(SY W ac J rfl rfl rfl rfl).1) (he:=λW=>(SY W ac J rfl rfl rfl rfl).2);try walk_nrm
   refine cC t #[AE (some (AK b (o+i*6))) 1 (s - i)] func5 (Post:=λaj w'=>(∃g,aj=.tuple #[g,AB 0]/\H8 w' g M)/\CZ K.heap.size K w') (λj t=>(YP [l[i]] _ j (O.blw (zI.trans t.blw)) (ab.blw (zI.trans t.blw)) ((jr aB ac _).blw t.blw) AU aI av).mono λaj w' ⟨g,ms,au,ap,hO,hb⟩=>⟨⟨g,by rw[ai] at au;exact au,by rw[ai] at ap;exact hO.insts ap zG.1 zG.2⟩,t.lw hb⟩) λgt Wc hp=>?_
   obtain⟨⟨g,rfl,ae⟩,aL⟩:=hp;obtain⟨qa,qc,rfl,-⟩:=id ae;clear t;have t:=Tp.refl Wc;try walk_nrm
   refine cP t (.tuple #[AE qa M.length qc,AB 0]) (λ_ t=>?_) (hr:=λ_=>rfl);try walk_nrm
   refine cP t (AE qa M.length qc) (λ_ t=>?_) (hr:=λ_=>rfl);try walk_nrm
   refine cP t (AB 0) (λ_ t=>?_) (hr:=λ_=>rfl);try walk_nrm
   refine cP t (AE qa M.length qc) (λ_ t=>?_) (hr:=λ_=>rfl);try walk_nrm
   refine cP t (AB 0) (λ_ t=>?_) (hr:=λ_=>rfl);try walk_nrm
   refine cN t λZ t=>?_
   have hZ:CZ K.heap.size K Z:=aL.trans t.blw;have aO:=C.blw hZ;have aN:=ae.blw t.blw;clear t;try simp only[Act.put]
   refine L0 okP (Q:=λe a w'=>e=.normal/\RgF (AE (some (AK b o)) l.length s) (AE U L.length pc) i a/\CZ Z.heap.size Z w') (λe a w h=>.inl h.1) (fun τ y=>?_) ?_ ?_
   ·obtain⟨W,r⟩:∃W:World,W={Z with tape:=τ,drawn:=y}:=⟨_,rfl⟩
    rw[<-r];have z:Tp Z W:=⟨τ,y,r⟩
    have⟨bZ,b0,hv,hq⟩:=aO.blw z.blw;cases hv;obtain⟨pb,po,rfl,bV,rv,bS,wU⟩:=hq i AQ;rw[<-hM] at wU;have jo:=aN.blw z.blw;obtain⟨ra,rc,rfl,-⟩:=id wU;have iV:Hid (∀j,AO W j->Calls prog 8 #[AE qa M.length qc,AE ra M.length rc] j (AN j (.bool true))):=λj h=>by
     have:=Avm M M _ _ j (jo.below h) (wU.below h) zG.1 zG.1 AQ AQ
     simpa using this
    have HB:Hid (∀j,AO W j->CZ Z.heap.size Z j):=λj h=>z.lw (CZ.of h)
    have bY:(i:Int)<(L.length:Int):=AQ
    clear r z hq jo wU aN aO hZ aL ae ai zG aI av C zI aB hY IH bP hM B V jm E ar lQ hR aa h0 vN T xP O ab ah I S Y fG J
    go_wp2_with (go_at_call 8;refine(iV _ AW).mono ?_;rintro e w9 ⟨rfl,tC⟩)
    exact⟨⟨_,_,_,_,_,_,_,_,_,_,_,_,_,_,_,_,_,_,_,_,_,_,_,_,_,_,_,_,_,_,_,_,_,_,_,_,_,_,_,_,_,_,_,_,_,_,_,_,_,_,_,_,_,_,_,_,_,_,_,_,_,_,_,_,rfl⟩,HB _ AW⟩
   ·rintro a' Z2 ⟨τ,y,-,⟨_,_,_,_,_,_,_,_,_,_,_,_,_,_,_,_,_,_,_,_,_,_,_,_,_,_,_,_,_,_,_,_,_,_,_,_,_,_,_,_,_,_,_,_,_,_,_,_,_,_,_,_,_,_,_,_,_,_,_,_,_,_,_,_,rfl⟩,hb⟩
    replace hb:CZ Z.heap.size Z Z2:=⟨hb.os,hb.out,hb.size,hb.block⟩
    refine Jn okP (λ_=>Go.Conc.stepG_inBlock) λ_ q=>?_
    have t:=(Tp.refl Z2).al q;refine Pn okP λ_ q=>?_
    replace t:=t.al q;simp only[Cd,CH,CP,Nat.reduceAdd,CV,List.range,List.range.loop];refine cP t (AB i) (λ_ t=>?_) (hr:=λ_=>rfl);try walk_nrm
    refine cP t (AB (i+1)) (λ_ t=>?_) (hr:=λ_=>by simp;go_simp);try walk_nrm
    refine cP t (AB (i+1)) (λ_ t=>?_) (hr:=λ_=>rfl);try walk_nrm
    refine cN t λaP t=>?_
    have hV:=hZ.trans ((hb.trans t.blw).le hZ.size);exact IH (l.length - (i+1)) _ _ AQ ⟨i+1,rfl,AQ,⟨_,_,_,_,_,_,_,_,_,_,_,_,_,_,_,_,_,_,_,_,_,_,_,_,_,_,_,_,_,_,_,_,_,_,_,_,_,_,_,_,_,_,_,_,_,_,_,_,_,_,_,_,_,_,_,_,_,_,_,_,_,_,_,_,rfl⟩,hY.trans (hV.le hY.size),C.blw hV⟩
   ·rintro a' w' todo ⟨τ,d,h,_⟩
    cases h
  ·have bO:decide ((i:Int)<(l.length:Int))=false:=by rw[Ft];omega
   refine cP t (.bool false) λ_ t=>?_
   try walk_nrm
   refine cN t λ_ t=>?_
   refine XZ okP (t:=false) rfl λ_ q=>?_
   replace t:=t.al q;rw[if_neg AY];refine Awa okP rfl λK q=>?_
   replace t:=t1.tr (t.al q);have zI:CZ w.heap.size w K:=E.trans ((B.trans t.blw).le E.size);refine L0 okP (Q:=λe a w'=>e=.ret/\a.defers=[]/\a.tmps.getD 2 undef=.bool true/\CZ w.heap.size w w') (λe a w h=>.inr h.1) (fun τ y=>?_) ?_ ?_
   ·obtain⟨W,r⟩:∃W:World,W={K with tape:=τ,drawn:=y}:=⟨_,rfl⟩
    rw[<-r];have z:Tp K W:=⟨τ,y,r⟩
    have HB:Hid (CZ w.heap.size w W):=zI.trans z.blw;clear r z zI IH C B V jm E ar lQ hR aa h0 vN T xP O ab ah I S Y fG J
    go_wp2
    exact HB.out
   ·rintro a' w' ⟨τ,d,h,_⟩
    cases h
   ·exact zs0
 ·have bG:0<N/\H.length=0:=by
   revert hc
   rw[aa,vN];unfold Gq;split
   ·intro _;exact⟨AY,rfl⟩
   ·split
    ·intro _;exact⟨AY,rfl⟩
    ·intro h;exact absurd rfl h
  obtain⟨bU,aC⟩:=bG;refine L0 okP (Q:=λe a w'=>e=.ret/\a.defers=[]/\a.tmps.getD 2 undef=.bool true/\CZ w.heap.size w w') (λe a w h=>.inr h.1) (fun τ y=>?_) ?_ ?_
  ·obtain⟨W,r⟩:∃W:World,W={X with tape:=τ,drawn:=y}:=⟨_,rfl⟩
   rw[<-r];have z:Tp X W:=⟨τ,y,r⟩
   have af:CZ w.heap.size w W:=E.trans z.blw;have an:=V.blw z.blw;have HB:Hid (∀j,AO W j->CZ w.heap.size w j):=λj h=>af.trans ((CZ.of h).le af.size)
   have aw:Hid (∀j,AO W j->Calls prog 6 #[AE A l.length s] j λe w'=>∃a n c,e=.returned (.tuple #[AE a n c,AB N])/\AO j w'):=λj h=>(YB l _ j (an.below h) S Y I).mono λe w' ⟨a,c,ms,he,_,_,hb⟩=>⟨a,_,c,by rw[aa];exact he,hb⟩
   have e1:((H.length:Int)==0)=true:=by rw[aC];rfl
   clear r z af an V jm E aa vN T xP O ab ah I S Y fG J hc aC
   go_wp2_with (go_at_call 6;refine(aw _ AW).mono ?_;rintro e w4 ⟨a4,n4,c4,rfl,bq⟩)
   exact HB _ AW
  ·rintro a' w' ⟨τ,d,h,_⟩
   cases h
  ·exact zs0
