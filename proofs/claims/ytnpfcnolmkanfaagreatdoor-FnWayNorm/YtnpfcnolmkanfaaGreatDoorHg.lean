import Derived.Test.YtnpfcnolmkanfaaGreatDoorGT
import Derived.Deep.DeepCutAuto
import Derived.Deep.RegionWith
set_option maxHeartbeats 4000000
set_option maxRecDepth 100000
namespace Go.Proofs.YtnpfcnolmkanfaaGreatDoor
open Tryz
open Stil
open Go.RowKit Go.Sort Go.BigFrame
theorem Qx (l:List Nat)(i:Nat)(h:i<l.length):(l.take (i+1)).sum=(l.take i).sum+l[i]:=by
 rw[A6l h,A78,A7b,A8b,A75]
theorem Jm:∀(l:List Nat) (i:Nat),(l.take i).sum<=l.sum
 | [],i=>by simp
 | x::r,0=>by simp
 | x::r,i+1=>by have:=Jm r i;simp;omega
theorem Avg (n:Stil.Net):∀(g d:Value) (w:World),Dh w g n.one.args->E8 w d n.kids->Am n<=1000000000->
  Calls prog 55 #[.agg #[.int .i64 n.kind, .int .i64 n.one.op,g,d]] w λe N=>e=.returned (.int .i64 (Am n))/\Below w.heap.size w N:=by
 induction n using Gf with
 | h k e kids t=>
  intro g d w m q H;have O:=hid t;clear t;have C:=hid (Oz k e kids);have I:(kids.map Am).sum<=1000000000:=by have:=C.out;omega
  obtain⟨a,cap,rfl,D⟩:=q;have K:Hid (∀i (h:i<kids.length),∃b o,a=some ⟨b,o,none⟩/\b<w.heap.size/\Sj w b (o+i*4) kids[i]):=D;obtain⟨aa,A,rfl,_⟩:=m;have ae:kids.length<=1000000000:=by
   have:∀l:List Stil.Net,l.length<=(l.map Am).sum:=by
    intro l;induction l with
    | nil=>simp
    | cons x r t=>simp only[A6k,A7b,A53];have:1<=Am x:=(by(obtain⟨_,_,_⟩:=x;rw[Oz];omega));omega
   have:=this kids;omega
  clear D H;go_enter func55,ntmps55
  go_wp2
  go_loopw [3,4] (λacc i wr=>∃j:Nat,j<=kids.length/\i=.int .i64 j/\acc=.int .i64 (1+((kids.map Am).take j).sum:Nat)/\Below (w.heap.size+1) (w.alloc (.cells #[.int .i64 k, .int .i64 e.op, .slice aa e.args.length A, .slice a kids.length cap] 43)) wr) (λ_ i _=>kids.length - (intOf i).toNat)
  case atStart=>exact⟨0,omz,rfl,spz,Below.refl _ _⟩
  case round=>
   obtain⟨j,hj,rfl,rfl,c⟩:=hrel;have L:w.heap.size<wr.heap.size:=by have:=c.size;simp at this;omega
   have c0:wr.cell? ⟨w.heap.size,0,none⟩=some (.int .i64 k):=clA c;have f0:wr.frozen? ⟨w.heap.size,0,none⟩=false:=frA c;have c1:wr.cell? ⟨w.heap.size,1,none⟩=some (.int .i64 e.op):=clA c;have f1:wr.frozen? ⟨w.heap.size,1,none⟩=false:=frA c;have Z:wr.cell? ⟨w.heap.size,2,none⟩=some (.slice aa e.args.length A):=clA c;have f2:wr.frozen? ⟨w.heap.size,2,none⟩=false:=frA c;have c3:wr.cell? ⟨w.heap.size,3,none⟩=some (.slice a kids.length cap):=clA c;have U:wr.frozen? ⟨w.heap.size,3,none⟩=false:=frA c;have B:=(Aa _ _).trans (c.mono omz);have G:=Jm (kids.map Am) j;by_cases hlt:j<kids.length
   ·obtain⟨b,o,rfl,R,E⟩:=K j hlt
    obtain⟨M,T,g,d,x2,Y,m,q⟩:=(Sj.below B _ _ _ E R).open;have f:=Qx (kids.map Am) j yBh;have J:=Jm (kids.map Am) (j+1);rw[A7q] at f;have u:=hid (λW F=>O kids[j] (A59 hlt) g d W (m.below F) (q.below F) omz);obtain⟨s,z⟩:∃s,s=Am kids[j]:=⟨_,rfl⟩
    obtain⟨x,y⟩:∃x,x=kids[j]:=⟨_,rfl⟩
    rw[<-z] at u f;rw[<-y] at u M T;obtain⟨ab,zT,rfl,_⟩:=m;obtain⟨a',X,rfl,_⟩:=q;generalize P:((kids.map Am).take j).sum=A1 at f G ⊢;have S:=hid f;have ac:A1+s<=1000000000:=omz
    clear z y E P f J G I
    go_wp2_with (go_at_call 55;refine(u _ blB).mono ?_;rintro e V ⟨rfl,Q⟩)
    refine⟨⟨j+1,omz,by go_num,?_,c.trans (Q.mono L)⟩,by simp[intOf];omega⟩;rw[S.out];congr 1;omega
   ·go_wp2
    go_ret;refine⟨Gz ?_,B⟩;rw[C.out,A6x yAd]
theorem Adv (n:Stil.Net)(i g:Value)(w:World)(l:Dh w i n.one.args)(k:E8 w g n.kids)(_h1:n.one.args.length<=9223372036854775807)(_h2:n.kids.length<=9223372036854775807):
  Calls prog 26 #[.agg #[.int .i64 n.kind, .int .i64 n.one.op,i,g]] w λe m=>e=.returned (.bool (Ar n))/\Below w.heap.size w m:=by
 obtain⟨aa,o,rfl,_⟩:=l;obtain⟨a,cap,rfl,_⟩:=k;obtain⟨d,b⟩:∃d,d=n.one.args.length:=⟨_,rfl⟩
 obtain⟨f,c⟩:∃f,f=n.kids.length:=⟨_,rfl⟩
 have j:Hid (Ar n=(n.kind==0 && n.one.op==0 && d==0 && f==0)):=by
  show _=_
  unfold Ar;rw[b,c]
 rw[<-b,<-c];rw[<-b] at _h1;rw[<-c] at _h2;clear b c;go_enter func26,ntmps26
 go_wp2
 all_goals go_ret
 all_goals (refine⟨Ap ?_,blB⟩)
 all_goals rw[j.out]
 all_goals go_light
 all_goals (rw[A7e];simp[*];try omega)
theorem La (x:Stil.Arm):1<=Aw x:=by obtain⟨_,_,_⟩:=x;rw[Rj];omega
theorem Abt {α:Type}(f:α->Nat)(a:∀x,1<=f x):∀l:List α,l.length<=(l.map f).sum
 | []=>by simp
 | x::r=>by have:=Abt f a r;have:=a x;simp only[A6k,A7b,A53];omega
theorem Avn (n:Stil.Arm):∀(q l y A:Value) (w:World),Dh w q n.net.one.args->E8 w l n.net.kids->Hz w y n.coils->Ea w A n.kids->Aw n<=1000000000->Cm n->
  Calls prog 33 #[.agg #[.int .i64 n.net.kind, .int .i64 n.net.one.op,q,l,y,A]] w λe S=>e=.returned (.int .i64 (Aw n))/\Below w.heap.size w S:=by
 induction n using Fz with
 | h n f kids ih=>
  intro q l y A w k m r u ag ac;simp only at k m r u;obtain⟨ab,an,_,aj,ae⟩:=(Gi _ _ _).1 ac;obtain⟨_,he,al,_⟩:=Ei ab;have ak:=he.2.1;have IH:=hid ih;have HF:=hid ae;clear ih ae ac he ab;obtain⟨ns,J⟩:∃ns,ns=if Ar n then 0 else Am n:=⟨_,rfl⟩
  have Q:Hid (Aw ⟨n,f,kids⟩=1+f.length+ns+(kids.map Aw).sum):=by show _=_;rw[Rj,J]
  have af:1+f.length+ns+(kids.map Aw).sum<=1000000000:=by have:=Q.out;omega
  have eX:=hid (λW d=>Adv n q l W (k.below d) (m.below d) omz omz);have dO:Hid (Ar n=false->∀W,Below w.heap.size w W->Calls prog 55 #[.agg #[.int .i64 n.kind, .int .i64 n.one.op,q,l]] W λe S=>e=.returned (.int .i64 ns)/\Below W.heap.size W S):=λh0 W d=>by
   have e0:ns=Am n:=by rw[J,h0];rfl
   rw[e0];exact Avg n q l W (k.below d) (m.below d) omz
  have lQ:Hid (Ar n=true->ns=0):=λh0=>by rw[J,h0];rfl
  obtain⟨a,cap,rfl,C⟩:=u;have HC:=hid C;obtain⟨aa,N,rfl,_⟩:=k;obtain⟨O,M,rfl,_⟩:=m;obtain⟨L,K,rfl,_⟩:=r;clear C ag J;cases P:Ar n
  ·go_enter func33,ntmps33
   go_wp2_with (first | (go_at_call 26;refine(eX _ blB).mono ?_;rw[P];rintro e w1 ⟨rfl,t⟩;obtain⟨C,T⟩:=D7 t) | (go_at_call 55;refine(dO P _ blB).mono ?_;rintro e w2 ⟨rfl,B⟩))
   go_loopw [3,4] (λacc i wr=>∃j:Nat,j<=kids.length/\i=.int .i64 j/\acc=.int .i64 (1+f.length+ns+((kids.map Aw).take j).sum:Nat)/\Below (w.heap.size+1) (w.alloc (.cells #[.int .i64 n.kind, .int .i64 n.one.op, .slice aa n.one.args.length N, .slice O n.kids.length M, .slice L f.length K, .slice a kids.length cap] 46)) wr) (λ_ i _=>kids.length - (intOf i).toNat)
   case atStart=>exact⟨0,omz,rfl,spz,(t.mono spz).trans (B.mono (by have:=t.size;simpa using this))⟩
   case round=>
    clear C T t B;obtain⟨j,hj,rfl,rfl,c⟩:=hrel;have hz:w.heap.size<wr.heap.size:=by have:=c.size;simp at this;omega
    have c0:wr.cell? ⟨w.heap.size,0,none⟩=some (.int .i64 n.kind):=clA c;have f0:wr.frozen? ⟨w.heap.size,0,none⟩=false:=frA c;have c1:wr.cell? ⟨w.heap.size,1,none⟩=some (.int .i64 n.one.op):=clA c;have f1:wr.frozen? ⟨w.heap.size,1,none⟩=false:=frA c;have c2:wr.cell? ⟨w.heap.size,2,none⟩=some (.slice aa n.one.args.length N):=clA c;have f2:wr.frozen? ⟨w.heap.size,2,none⟩=false:=frA c;have c3:wr.cell? ⟨w.heap.size,3,none⟩=some (.slice O n.kids.length M):=clA c;have f3:wr.frozen? ⟨w.heap.size,3,none⟩=false:=frA c;have c4:wr.cell? ⟨w.heap.size,4,none⟩=some (.slice L f.length K):=clA c;have f4:wr.frozen? ⟨w.heap.size,4,none⟩=false:=frA c;have c5:wr.cell? ⟨w.heap.size,5,none⟩=some (.slice a kids.length cap):=clA c;have f5:wr.frozen? ⟨w.heap.size,5,none⟩=false:=frA c;have I:=(Aa _ _).trans (c.mono omz);have D:=Jm (kids.map Aw) j;by_cases hlt:j<kids.length
    ·obtain⟨b,o,rfl,U,F⟩:=HC j hlt
     obtain⟨G,y,A,x4,x5,r,u⟩:=(Uz.below I _ _ _ F U).open;obtain⟨R,Z,q,l,x2,x3,k,m⟩:=G.open;have g:=Qx (kids.map Aw) j yBh;have V:=Jm (kids.map Aw) (j+1);rw[A7q] at g;have z:=hid (λW d=>IH kids[j] (A59 hlt) q l y A W (k.below d) (m.below d) (r.below d) (u.below d) omz (HF _ (A59 hlt)));obtain⟨s,H⟩:∃s,s=Aw kids[j]:=⟨_,rfl⟩
     obtain⟨x,E⟩:∃x,x=kids[j]:=⟨_,rfl⟩
     rw[<-H] at z g;rw[<-E] at z R Z;obtain⟨q1,q2,rfl,_⟩:=k;obtain⟨q3,q4,rfl,_⟩:=m;obtain⟨q5,q6,rfl,_⟩:=r;obtain⟨q7,q8,rfl,_⟩:=u;generalize X:((kids.map Aw).take j).sum=A1 at g D ⊢;have Y:=hid g;have ai:1+f.length+ns+A1+s<=1000000000:=omz
     clear H E F G X g V D af
     go_wp2_with (go_at_call 33;refine(z _ blB).mono ?_;rintro e w2 ⟨rfl,B⟩)
     refine⟨⟨j+1,omz,by go_num,?_,c.trans (B.mono hz)⟩,by simp[intOf];omega⟩;rw[Y.out];congr 1;omega
    ·go_wp2
     go_ret;refine⟨Gz ?_,I⟩;rw[Q.out,A6x yAd]
  ·have ah:=lQ P
   subst ah;go_enter func33,ntmps33
   go_wp2_with (first | (go_at_call 26;refine(eX _ blB).mono ?_;rw[P];rintro e w1 ⟨rfl,t⟩;obtain⟨C,T⟩:=D7 t))
   go_loopw [3,4] (λacc i wr=>∃j:Nat,j<=kids.length/\i=.int .i64 j/\acc=.int .i64 (1+f.length+0+((kids.map Aw).take j).sum:Nat)/\Below (w.heap.size+1) (w.alloc (.cells #[.int .i64 n.kind, .int .i64 n.one.op, .slice aa n.one.args.length N, .slice O n.kids.length M, .slice L f.length K, .slice a kids.length cap] 46)) wr) (λ_ i _=>kids.length - (intOf i).toNat)
   case atStart=>exact⟨0,omz,rfl,spz,t.mono spz⟩
   case round=>
    clear C T t;obtain⟨j,hj,rfl,rfl,c⟩:=hrel;have hz:w.heap.size<wr.heap.size:=by have:=c.size;simp at this;omega
    have c0:wr.cell? ⟨w.heap.size,0,none⟩=some (.int .i64 n.kind):=clA c;have f0:wr.frozen? ⟨w.heap.size,0,none⟩=false:=frA c;have c1:wr.cell? ⟨w.heap.size,1,none⟩=some (.int .i64 n.one.op):=clA c;have f1:wr.frozen? ⟨w.heap.size,1,none⟩=false:=frA c;have c2:wr.cell? ⟨w.heap.size,2,none⟩=some (.slice aa n.one.args.length N):=clA c;have f2:wr.frozen? ⟨w.heap.size,2,none⟩=false:=frA c;have c3:wr.cell? ⟨w.heap.size,3,none⟩=some (.slice O n.kids.length M):=clA c;have f3:wr.frozen? ⟨w.heap.size,3,none⟩=false:=frA c;have c4:wr.cell? ⟨w.heap.size,4,none⟩=some (.slice L f.length K):=clA c;have f4:wr.frozen? ⟨w.heap.size,4,none⟩=false:=frA c;have c5:wr.cell? ⟨w.heap.size,5,none⟩=some (.slice a kids.length cap):=clA c;have f5:wr.frozen? ⟨w.heap.size,5,none⟩=false:=frA c;have I:=(Aa _ _).trans (c.mono omz);have D:=Jm (kids.map Aw) j;by_cases hlt:j<kids.length
    ·obtain⟨b,o,rfl,U,F⟩:=HC j hlt
     obtain⟨G,y,A,x4,x5,r,u⟩:=(Uz.below I _ _ _ F U).open;obtain⟨R,Z,q,l,x2,x3,k,m⟩:=G.open;have g:=Qx (kids.map Aw) j yBh;have V:=Jm (kids.map Aw) (j+1);rw[A7q] at g;have z:=hid (λW d=>IH kids[j] (A59 hlt) q l y A W (k.below d) (m.below d) (r.below d) (u.below d) omz (HF _ (A59 hlt)));obtain⟨s,H⟩:∃s,s=Aw kids[j]:=⟨_,rfl⟩
     obtain⟨x,E⟩:∃x,x=kids[j]:=⟨_,rfl⟩
     rw[<-H] at z g;rw[<-E] at z R Z;obtain⟨q1,q2,rfl,_⟩:=k;obtain⟨q3,q4,rfl,_⟩:=m;obtain⟨q5,q6,rfl,_⟩:=r;obtain⟨q7,q8,rfl,_⟩:=u;generalize X:((kids.map Aw).take j).sum=A1 at g D ⊢;have Y:=hid g;have ai:1+f.length+0+A1+s<=1000000000:=omz
     clear H E F G X g V D af
     go_wp2_with (go_at_call 33;refine(z _ blB).mono ?_;rintro e w2 ⟨rfl,B⟩)
     refine⟨⟨j+1,omz,by go_num,?_,c.trans (B.mono hz)⟩,by simp[intOf];omega⟩;rw[Y.out];congr 1;omega
    ·go_wp2
     go_ret;refine⟨Gz ?_,I⟩;rw[Q.out,A6x yAd]
theorem Abi (l:List Stil.Arm)(d:Value)(w:World)(f:Ea w d l)(r:Bv l<=1000000000)(y:∀x∈l,Cm x):
  Calls prog 16 #[d] w λe L=>e=.returned (.int .i64 (Bv l))/\Below w.heap.size w L:=by
 obtain⟨a,cap,rfl,z⟩:=f;have I:=hid z;have F:=hid y;have J:Hid (Bv l=(l.map Aw).sum):=rfl;have E:(l.map Aw).sum<=1000000000:=r;have H:=Abt Aw La l;have ac:l.length<=1000000000:=omz
 clear z y r H;go_enter func16,ntmps16
 go_wp2
 go_loopw [3,4] (λacc i wr=>∃j:Nat,j<=l.length/\i=.int .i64 j/\acc=.int .i64 (((l.map Aw).take j).sum:Nat)/\Below w.heap.size w wr) (λ_ i _=>l.length - (intOf i).toNat)
 case atStart=>exact⟨0,omz,rfl,spz,Below.refl _ _⟩
 case round=>
  obtain⟨j,hj,rfl,rfl,v⟩:=hrel;have D:=Jm (l.map Aw) j;by_cases hlt:j<l.length
  ·obtain⟨b,o,rfl,P,A⟩:=I j hlt
   obtain⟨B,N,d,T,X,q,f⟩:=(Uz.below v _ _ _ A P).open;obtain⟨K,R,S,M,x2,V,t,C⟩:=B.open;have c:=Qx (l.map Aw) j yBh;have G:=Jm (l.map Aw) (j+1);rw[A7q] at c;have k:=hid (λW g=>Avn l[j] S M N d W (t.below g) (C.below g) (q.below g) (f.below g) omz (F _ (A59 hlt)));obtain⟨s,u⟩:∃s,s=Aw l[j]:=⟨_,rfl⟩
   obtain⟨x,m⟩:∃x,x=l[j]:=⟨_,rfl⟩
   rw[<-u] at k c;rw[<-m] at k K R;obtain⟨q1,Y,rfl,_⟩:=t;obtain⟨q3,q4,rfl,_⟩:=C;obtain⟨Z,q6,rfl,_⟩:=q;obtain⟨q7,q8,rfl,_⟩:=f;generalize O:((l.map Aw).take j).sum=A1 at c D ⊢;have Q:=hid c;have ab:A1+s<=1000000000:=omz
   clear u m A B O c G D E
   go_wp2_with (go_at_call 33;refine(k _ blB).mono ?_;rintro e U ⟨rfl,aa⟩)
   refine⟨⟨j+1,omz,by go_num,?_,blB⟩,by simp[intOf];omega⟩;rw[Q.out];rfl
  ·go_wp2
   go_ret;refine⟨Gz ?_,v⟩;rw[J.out,A6x yAd]
end Go.Proofs.YtnpfcnolmkanfaaGreatDoor
set_option maxHeartbeats 4000000
set_option maxRecDepth 100000
namespace Go.Proofs.YtnpfcnolmkanfaaGreatDoor
open Tryz
open Stil
open Go.RowKit Go.Sort Go.BigFrame
theorem Aqt (n:Stil.Net):∀(A C:Value) (w:World),Dh w A n.one.args->E8 w C n.kids->Dt n->
  Calls prog 34 #[.agg #[.int .i64 n.kind, .int .i64 n.one.op,A,C]] w λe w'=>e=.returned (.int .i64 (Az n))/\Below w.heap.size w w':=by
 induction n using Gf with
 | h k e kids U=>
  intro A C w z D V;simp only at z D;obtain⟨_,he,ak,Y⟩:=(Lh _ _ _).1 V;obtain⟨_,ao,ab⟩:=he;have HF:=hid Y;have IH:=hid U;have Q:=hid (λW G=>Am7 e.op A e.args W (z.below G) ab omz);clear U Y V;obtain⟨a,cap,rfl,hc⟩:=D;have HC:=hid hc;obtain⟨aa,J,rfl,_⟩:=z;have u:=hid (Oy k e kids);clear hc ab;obtain⟨d,ag⟩:∃d,d=e.args.length:=⟨_,rfl⟩
  obtain⟨c,S⟩:∃c,c=kids.length:=⟨_,rfl⟩
  have T:=hid S;rw[<-ag] at ao u Q ⊢;rw[<-S] at ak u ⊢;clear ag S;by_cases M:k=1
  ·subst M
   by_cases N:0<c
   ·have HX:Hid (Az ⟨1,e,kids⟩=2):=by show _=_;rw[u.out,if_pos rfl,if_pos N]
    go_enter func34,ntmps34
    go_wp2
    go_ret;exact⟨Gz yCi,blB⟩
   ·have ax:decide (0<(c:Int))=false:=by rw[A7o];omega
    cases I:Ae e.op e.args
    ·have HX:Hid (Az ⟨1,e,kids⟩=3):=by show _=_;rw[u.out,if_pos rfl,if_neg N,I];rfl
     go_enter func34,ntmps34
     go_wp2_with (go_at_call 56;refine(Q _ blB).mono ?_;rw[I];rintro e' w1 ⟨rfl,al⟩)
     go_ret;exact⟨Gz yCi,blB⟩
    ·have HX:Hid (Az ⟨1,e,kids⟩=0):=by show _=_;rw[u.out,if_pos rfl,if_neg N,I];rfl
     go_enter func34,ntmps34
     go_wp2_with (go_at_call 56;refine(Q _ blB).mono ?_;rw[I];rintro e' w1 ⟨rfl,al⟩)
     go_ret;exact⟨Gz yCi,blB⟩
  ·have au:(k==1)=false:=by rw[A64];exact M
   have E:Hid (Az ⟨k,e,kids⟩=if We k e.op d c then 2 else A8 (kids.map Az)):=by show _=_;rw[u.out,if_neg M]
   clear u M;go_enter func34,ntmps34;go_upto_region 7 with fail
   go_cut [0,53] (λs0 an wc=>s0=.agg #[.int .i64 k, .int .i64 e.op, .slice aa d J, .slice a c cap]/\an=.bool (We k e.op d c)/\wc=w.alloc (.cells #[.int .i64 k, .int .i64 e.op, .slice aa d J, .slice a c cap] 43))
   case first=>
    have l:Hid (We k e.op d c=(decide (k<2) || decide (4<k) || e.op !=0 || decide ((0:Int)<(d:Int)) || (c:Int)==0 || (k==4 && (c:Int) !=1))):=rfl;cases q:decide (k<2)
    ·cases r:decide (4<k)
     ·cases t:(e.op !=0)
      ·have g:Hid (e.op=0):=(by simpa using t:e.op=0)
       cases y:decide ((0:Int)<(d:Int))
       ·have m:Hid (d=0):=(by have:=of_decide_eq_false y;omega:d=0)
        cases B:((c:Int)==0)
        ·cases L:(k==4)
         ·(go_wp2_with fail;go_meet;exact⟨by first | rfl | simp[g.out,m.out],by rw[l.out,q,r,t,y,B,L];rfl,by first | rfl | simp[g.out,m.out]⟩)
         ·have F:Hid (k=4):=(by simpa using L:k=4)
          cases P:((c:Int) !=1)
          ·have H1:Hid (c=1):=(by have:=bne_eq_false_iff_eq.1 P;omega:c=1)
           (go_wp2_with fail;go_meet;exact⟨by first | rfl | simp[g.out,m.out,F.out,H1.out],by rw[l.out,q,r,t,y,B,L,P];rfl,by first | rfl | simp[g.out,m.out,F.out,H1.out]⟩)
          ·(go_wp2_with fail;go_meet;exact⟨by first | rfl | simp[g.out,m.out,F.out],by rw[l.out,q,r,t,y,B,L,P];rfl,by first | rfl | simp[g.out,m.out,F.out]⟩)
        ·have HL:Hid (c=0):=(by have:=beq_iff_eq.1 B;omega:c=0)
         (go_wp2_with fail;go_meet;exact⟨by first | rfl | simp[g.out,m.out,HL.out],by rw[l.out,q,r,t,y,B];rfl,by first | rfl | simp[g.out,m.out,HL.out]⟩)
       ·have p4:0<d:=(by have:=of_decide_eq_true y;omega:0<d)
        have p5:(0:Int)<(d:Int):=(by omega:(0:Int)<(d:Int))
        (go_wp2_with fail;go_meet;exact⟨by first | rfl | simp[g.out],by rw[l.out,q,r,t,y];rfl,by first | rfl | simp[g.out]⟩)
      ·(go_wp2_with fail;go_meet;exact⟨rrz,by rw[l.out,q,r,t];rfl,rrz⟩)
     ·(go_wp2_with fail;go_meet;exact⟨rrz,by rw[l.out,q,r];rfl,rrz⟩)
    ·(go_wp2_with fail;go_meet;exact⟨rrz,by rw[l.out,q];rfl,rrz⟩)
   case rest=>
    obtain⟨rfl,rfl,rfl⟩:=hcut;cases ae:We k e.op d c
    ·rw[ae] at E
     have ah:Hid (Az ⟨k,e,kids⟩=A8 (kids.map Az)):=E.out;clear E
     go_wp2
     go_loopw [3,4] (λi _ wr=>∃j:Nat,j<=c/\i=.int .i64 j/\A8 (kids.map Az)=A8 ((kids.drop j).map Az)/\Below (w.heap.size+1) (w.alloc (.cells #[.int .i64 k, .int .i64 e.op, .slice aa d J, .slice a c cap] 43)) wr) (λi _ _=>c - (intOf i).toNat)
     case atStart=>exact⟨0,omz,rfl,rfl,Below.refl _ _⟩
     case round=>
      obtain⟨j,hj,rfl,ac,f⟩:=hrel;have O:=hid ac;clear ac;have hz:w.heap.size<wr.heap.size:=by have:=f.size;simp at this;omega
      have c0:wr.cell? ⟨w.heap.size,0,none⟩=some (.int .i64 k):=clA f;have f0:wr.frozen? ⟨w.heap.size,0,none⟩=false:=frA f;have c1:wr.cell? ⟨w.heap.size,1,none⟩=some (.int .i64 e.op):=clA f;have f1:wr.frozen? ⟨w.heap.size,1,none⟩=false:=frA f;have c2:wr.cell? ⟨w.heap.size,2,none⟩=some (.slice aa d J):=clA f;have f2:wr.frozen? ⟨w.heap.size,2,none⟩=false:=frA f;have c3:wr.cell? ⟨w.heap.size,3,none⟩=some (.slice a c cap):=clA f;have f3:wr.frozen? ⟨w.heap.size,3,none⟩=false:=frA f;have af:=(Aa _ _).trans (f.mono omz);by_cases ar:j<c
      ·have H:j<kids.length:=by have:=T.out;omega
       obtain⟨b,o,rfl,aj,hn⟩:=HC j H;obtain⟨x0,x1,A,C,x2,x3,z,D⟩:=(Sj.below af _ _ _ hn aj).open;have K:=hid (λW G=>IH kids[j] (A59 H) A C W (z.below G) (D.below G) (HF _ (A59 H)));have R:Hid (A8 ((kids.drop j).map Az)=if 0<Az kids[j] then Az kids[j] else A8 ((kids.drop (j+1)).map Az)):=by
        show _=_
        rw[A7p H,A6k];rfl
       obtain⟨s,hs⟩:∃s,s=Az kids[j]:=⟨_,rfl⟩
       obtain⟨x,Z⟩:∃x,x=kids[j]:=⟨_,rfl⟩
       rw[<-hs] at K R;rw[<-Z] at K x0 x1;obtain⟨aw,zT,rfl,_⟩:=z;obtain⟨a',ap,rfl,_⟩:=D;clear hs Z hn;by_cases ai:0<s
       ·go_wp2_with (go_at_call 34;refine(K _ blB).mono ?_;rintro e w2 ⟨rfl,X⟩)
        go_ret;exact⟨Gz (by rw[ah.out,O.out,R.out,if_pos ai]),blB⟩
       ·go_wp2_with (go_at_call 34;refine(K _ blB).mono ?_;rintro e w2 ⟨rfl,X⟩)
        refine⟨⟨j+1,omz,by go_num,?_,f.trans (X.mono hz)⟩,by simp[intOf];omega⟩;rw[O.out,R.out,if_neg omz]
      ·go_wp2
       go_ret;refine⟨Gz ?_,af⟩;rw[ah.out,O.out,A7s (by have:=T.out;omega)];rfl
    ·rw[ae] at E
     go_wp2
     go_ret;exact⟨Gz (by rw[E.out];rfl),blB⟩
theorem Aqv (n:Stil.Arm):∀(root:Bool) (A y E J:Value) (w:World),Dh w A n.net.one.args->E8 w y n.net.kids->Hz w E n.coils->Ea w J n.kids->Cm n->
  Calls prog 17 #[.agg #[.int .i64 n.net.kind, .int .i64 n.net.one.op,A,y,E,J], .bool root] w λe w'=>e=.returned (.int .i64 (if root=true/\Ar n.net=true then 4 else Cf n))/\Below w.heap.size w w':=by
 induction n using Fz with
 | h n c kids ih=>
  intro root A y E J w G I Q aa au;simp only at G I Q aa;obtain⟨ae,ar,aj,aw,dV⟩:=Hq au;simp only at ae ar aj aw dV;have al:=Ei ae
  have IH:Hid (∀x∈kids,∀(A y E J:Value) (w:World),Dh w A x.net.one.args->E8 w y x.net.kids->Hz w E x.coils->Ea w J x.kids->
   Calls prog 17 #[.agg #[.int .i64 x.net.kind, .int .i64 x.net.one.op,A,y,E,J], .bool false] w λe w'=>e=.returned (.int .i64 (Cf x))/\Below w.heap.size w w'):=λx P A y E J w h1 h2 h3 h4=>(ih x P false A y E J w h1 h2 h3 h4 (dV x P)).mono λe w' ⟨he,hb⟩=>⟨by rw[he];simp,hb⟩
  have u:=hid (λW t=>Adv n A y W (G.below t) (I.below t) (by have:=al.2.1.2.1;omega) (by have:=al.2.2.1;omega));have jZ:=hid (λW t=>Aqt n A y W (G.below t) (I.below t) ae);have l7:=hid aj;have oM:Hid (∀i (h:i<c.length),∃b o,True/\b<w.heap.size/\Ame w b (o+i*2) c[i]/\∃cap,E=.slice (some ⟨b,o,none⟩) c.length cap):=by
   intro i hi;obtain⟨a,cap,hv,hc⟩:=Q;obtain⟨b,o,ha,hb,P⟩:=hc i hi;exact⟨b,o,trivial,hb,P,cap,by rw[hv,ha]⟩
  obtain⟨K,N,rfl,_⟩:=G;obtain⟨Y,T,rfl,_⟩:=I;obtain⟨V,X,rfl,aK⟩:=Q;obtain⟨Z,S,rfl,ap⟩:=aa;have vY:=hid aK;have aM:=hid ap;have HW:Hid (Cf ⟨n,c,kids⟩=if 0<Ci ⟨n,c,kids⟩ then Ci ⟨n,c,kids⟩ else A8 (kids.map Cf)):=Vo _;have C:Hid (Ci ⟨n,c,kids⟩=if Ar n=false/\0<Az n then Az n else if Dw c then 3 else if c.length=0/\kids.length=0 then 5 else 0):=rfl;have aQ:Hid (∀x∈kids,0<=Cf x/\Cf x<=5):=λx _=>Po x
  have aP:=Jv n;simp only;obtain⟨q,aG⟩:∃q,q=Ar n:=⟨_,rfl⟩
  obtain⟨D,aJ⟩:∃D,D=Az n:=⟨_,rfl⟩
  rw[<-aG] at u C ⊢;rw[<-aJ] at jZ C aP;obtain⟨g,ak⟩:∃g,g=c.length:=⟨_,rfl⟩
  obtain⟨k,an⟩:∃k,k=kids.length:=⟨_,rfl⟩
  have vO:=hid ak;have sJ:=hid an;rw[<-ak] at ar C ⊢;rw[<-an] at aw C ⊢;clear ih au ae aj dV aK ap al aG aJ ak an oM;obtain⟨R,r⟩:∃R,R=(if root=true/\q=true then 4 else Cf ⟨n,c,kids⟩):=⟨_,rfl⟩
  rw[<-r];have aO:(root=true/\q=true)\/(root=true/\q=false/\0<D)\/(root=false/\q=false/\0<D)\/(root=false/\q=false/\¬0<D)\/(root=false/\q=true)\/(root=true/\q=false/\¬0<D):=by
   cases root<;>cases q<;>by_cases h:0<D<;>simp[h]
  rcases aO with⟨rfl,rfl⟩ | ⟨rfl,rfl,B⟩ | ⟨rfl,rfl,B⟩ | ⟨hr,H,B⟩ | ⟨hr,H⟩ | ⟨hr,H,B⟩
  ·have HX:Hid (R=4):=by show _=_;rw[r];simp
   clear r;go_enter func17,ntmps17
   go_wp2_with (go_at_call 26;refine(u _ blA).mono ?_;rintro e w1 ⟨rfl,f⟩)
   go_ret;exact⟨Gz yCi,blA⟩
  ·have l:R=Cf ⟨n,c,kids⟩:=by rw[r];simp
   clear r;have kZ:=u;have HX:Hid (R=D):=by show _=_;rw[l,HW.out,C.out];simp[B]
   clear l;go_enter func17,ntmps17
   go_wp2_with (first | (go_at_call 26;refine(u _ blA).mono ?_;clear u;rintro e w0 ⟨rfl,z⟩;obtain⟨aB,aF⟩:=D7 z;have az:w.heap.size<w0.heap.size:=A51 spz z.size) | (go_at_call 26;refine(kZ _ blA).mono ?_;rintro e w1 ⟨rfl,f⟩;obtain⟨U,L⟩:=D7 f) | (go_at_call 34;refine(jZ _ blA).mono ?_;rintro e w2 ⟨rfl,M⟩))
   go_ret;exact⟨Gz yCi,blA⟩
  ·have l:R=Cf ⟨n,c,kids⟩:=by rw[r];simp
   clear r;have HX:Hid (R=D):=by show _=_;rw[l,HW.out,C.out];simp[B]
   clear l;go_enter func17,ntmps17
   go_wp2_with (first | (go_at_call 26;refine(u _ blA).mono ?_;rintro e w1 ⟨rfl,f⟩;obtain⟨U,L⟩:=D7 f) | (go_at_call 34;refine(jZ _ blA).mono ?_;rintro e w2 ⟨rfl,M⟩))
   go_ret;exact⟨Gz yCi,blA⟩
  all_goals first
   | (
     obtain rfl:root=false:=hr;obtain rfl:q=false:=H;have l:R=Cf ⟨n,c,kids⟩:=by rw[r];simp
     clear r;have ab:Hid (R=if Dw c then 3 else if g=0/\k=0 then 5 else A8 (kids.map Cf)):=by
      show _=_
      rw[l,HW.out,C.out];simp only[B,and_false,A7k];cases Dw c
      ·simp only[A58,A7k]
       split<;>simp
      ·simp
     clear l;go_enter func17,ntmps17
     go_wp2_with (first | (go_at_call 26;refine(u _ blA).mono ?_;rintro e w1 ⟨rfl,f⟩;obtain⟨U,L⟩:=D7 f) | (go_at_call 34;refine(jZ _ blA).mono ?_;rintro e w2 ⟨rfl,M⟩))
     have ag:Below (w.heap.size+1) (w.alloc (.cells #[.int .i64 n.kind, .int .i64 n.one.op, .slice K n.one.args.length N, .slice Y n.kids.length T, .slice V g X, .slice Z k S] 46)) w2:=by
      have h1:=f.size;simp only[World.size_alloc] at f h1;exact f.trans (M.mono h1)
     clear f M U L)
   | (
     obtain rfl:root=false:=hr;obtain rfl:q=true:=H;have l:R=Cf ⟨n,c,kids⟩:=by rw[r];simp
     clear r;have ab:Hid (R=if Dw c then 3 else if g=0/\k=0 then 5 else A8 (kids.map Cf)):=by
      show _=_
      rw[l,HW.out,C.out];simp only[Bool.true_eq_false,false_and,A7k];cases Dw c
      ·simp only[A58,A7k]
       split<;>simp
      ·simp
     clear l;go_enter func17,ntmps17
     go_wp2_with (go_at_call 26;refine(u _ blA).mono ?_;rintro e w1 ⟨rfl,f⟩;obtain⟨U,L⟩:=D7 f)
     have ag:Below (w.heap.size+1) (w.alloc (.cells #[.int .i64 n.kind, .int .i64 n.one.op, .slice K n.one.args.length N, .slice Y n.kids.length T, .slice V g X, .slice Z k S] 46)) w1:=by simpa using f
     clear f U L)
   | (
     obtain rfl:root=true:=hr;obtain rfl:q=false:=H;have l:R=Cf ⟨n,c,kids⟩:=by rw[r];simp
     clear r;have kZ:=u;have ab:Hid (R=if Dw c then 3 else if g=0/\k=0 then 5 else A8 (kids.map Cf)):=by
      show _=_
      rw[l,HW.out,C.out];simp only[B,and_false,A7k];cases Dw c
      ·simp only[A58,A7k]
       split<;>simp
      ·simp
     clear l;go_enter func17,ntmps17
     go_wp2_with (first | (go_at_call 26;refine(u _ blA).mono ?_;clear u;rintro e w0 ⟨rfl,z⟩;obtain⟨aB,aF⟩:=D7 z;have az:w.heap.size<w0.heap.size:=A51 spz z.size) | (go_at_call 26;refine(kZ _ blA).mono ?_;rintro e w1 ⟨rfl,f⟩;obtain⟨U,L⟩:=D7 f) | (go_at_call 34;refine(jZ _ blA).mono ?_;rintro e w2 ⟨rfl,M⟩))
     have ag:Below (w.heap.size+1) (w.alloc (.cells #[.int .i64 n.kind, .int .i64 n.one.op, .slice K n.one.args.length N, .slice Y n.kids.length T, .slice V g X, .slice Z k S] 46)) w2:=by
      have h0:=z.size;have h1:=f.size;simp only[World.size_alloc] at z h0;exact(z.trans (f.mono h0)).trans (M.mono (A6e h0 h1))
     clear z aB aF f M U L az)
  all_goals
   go_loopw [6] (λi wr=>∃m:Nat,m<=g/\i=.int .i64 m/\Dw c=Dw (c.drop m)/\Below (w.heap.size+1) (w.alloc (.cells #[.int .i64 n.kind, .int .i64 n.one.op, .slice K n.one.args.length N, .slice Y n.kids.length T, .slice V g X, .slice Z k S] 46)) wr) (λi _=>g - (intOf i).toNat)
   case atStart=>exact⟨0,omz,rfl,rfl,ag⟩
   case round=>
    clear ag;obtain⟨m,hm,rfl,aH,d⟩:=hrel;have dX:=hid aH;clear aH;have hz:w.heap.size<wr.heap.size:=by have:=d.size;simp at this;omega
    have c0:wr.cell? ⟨w.heap.size,0,none⟩=some (.int .i64 n.kind):=clA d;have f0:wr.frozen? ⟨w.heap.size,0,none⟩=false:=frA d;have c1:wr.cell? ⟨w.heap.size,1,none⟩=some (.int .i64 n.one.op):=clA d;have f1:wr.frozen? ⟨w.heap.size,1,none⟩=false:=frA d;have c2:wr.cell? ⟨w.heap.size,2,none⟩=some (.slice K n.one.args.length N):=clA d;have f2:wr.frozen? ⟨w.heap.size,2,none⟩=false:=frA d;have c3:wr.cell? ⟨w.heap.size,3,none⟩=some (.slice Y n.kids.length T):=clA d;have f3:wr.frozen? ⟨w.heap.size,3,none⟩=false:=frA d;have c4:wr.cell? ⟨w.heap.size,4,none⟩=some (.slice V g X):=clA d;have f4:wr.frozen? ⟨w.heap.size,4,none⟩=false:=frA d;have c5:wr.cell? ⟨w.heap.size,5,none⟩=some (.slice Z k S):=clA d;have f5:wr.frozen? ⟨w.heap.size,5,none⟩=false:=frA d;have ac:=(Aa _ _).trans (d.mono omz);by_cases aN:m<g
    ·have O:m<c.length:=by have:=vO.out;omega
     obtain⟨b,o,rfl,ai,ax⟩:=vY m O;obtain⟨x0,zS,x1,jJ⟩:=ax.below ac ai;have fH:=l7 _ (A59 O);have F:=hid (λW t=>Azh c[m].op zS c[m].args W (jJ.below t) fH.2.2 (by have:=fH.2.1;omega));have HD:Hid (Dw c=(!Ak c[m].op c[m].args || Dw (c.drop (m+1)))):=by show _=_;rw[dX.out,Vh _ _ O]
     obtain⟨ic,aA⟩:∃ic,ic=Ak c[m].op c[m].args:=⟨_,rfl⟩
     rw[<-aA] at F HD;obtain⟨aI,hy⟩:∃aI,aI=c[m]:=⟨_,rfl⟩
     rw[<-hy] at F x0;obtain⟨t1,t2,f1,_⟩:=jJ;rw[<-hy] at f1;subst f1;clear aA hy ax fH dX;cases ic
     ·have HX:Hid (R=3):=by show _=_;rw[ab.out,HD.out];rfl
      go_wp2_with (go_at_call 35;refine(F _ blA).mono ?_;rintro e w3 ⟨rfl,aE⟩)
      go_ret;exact⟨Gz yCi,blA⟩
     ·have HX:Hid (Dw c=Dw (c.drop (m+1))):=by show _=_;rw[HD.out];rfl
      go_wp2_with (go_at_call 35;refine(F _ blA).mono ?_;rintro e w3 ⟨rfl,aE⟩)
      exact⟨⟨m+1,omz,by go_num,HX.out,d.trans (aE.mono hz)⟩,by simp[intOf];omega⟩
    ·have ao:Dw c=false:=by rw[dX.out,A7s (by have:=vO.out;omega)];rfl
     have af:Hid (R=if g=0/\k=0 then 5 else A8 (kids.map Cf)):=by show _=_;rw[ab.out,ao];rfl
     clear ao dX ab;obtain⟨z,f⟩:True/\True:=⟨trivial,trivial⟩
     by_cases ah:g=0/\k=0
     ·have HX:Hid (R=5):=by show _=_;rw[af.out,if_pos ah]
      obtain⟨rfl,rfl⟩:=ah;clear af
      go_wp2
      go_ret;exact⟨Gz yCi,blA⟩
     ·have HX:Hid (R=A8 (kids.map Cf)):=by show _=_;rw[af.out,if_neg ah]
      clear af;have aL:((g:Int)==0)=false\/((k:Int)==0)=false:=by
       by_cases h:g=0
       ·right;rw[A64];omega
       ·left;rw[A64];omega
      clear ah;rcases aL with hq | hq<;>go_wp2
      all_goals (
       go_loopw [7] (λi wq=>∃j:Nat,j<=k/\i=.int .i64 j/\A8 (kids.map Cf)=A8 ((kids.drop j).map Cf)/\Below (w.heap.size+1) (w.alloc (.cells #[.int .i64 n.kind, .int .i64 n.one.op, .slice K n.one.args.length N, .slice Y n.kids.length T, .slice V g X, .slice Z k S] 46)) wq) (λi _=>k - (intOf i).toNat)
       case atStart=>exact⟨0,omz,rfl,rfl,d⟩
       case round=>
        clear c0 c1 c2 c3 c4 c5 f0 f1 f2 f3 f4 f5 hz d ac;obtain⟨j,hj,rfl,aC,d⟩:=hrel;have HP:=hid aC;clear aC;have hz:w.heap.size<wr.heap.size:=by have:=d.size;simp at this;omega
        have c0:wr.cell? ⟨w.heap.size,0,none⟩=some (.int .i64 n.kind):=clA d;have f0:wr.frozen? ⟨w.heap.size,0,none⟩=false:=frA d;have c1:wr.cell? ⟨w.heap.size,1,none⟩=some (.int .i64 n.one.op):=clA d;have f1:wr.frozen? ⟨w.heap.size,1,none⟩=false:=frA d;have c2:wr.cell? ⟨w.heap.size,2,none⟩=some (.slice K n.one.args.length N):=clA d;have f2:wr.frozen? ⟨w.heap.size,2,none⟩=false:=frA d;have c3:wr.cell? ⟨w.heap.size,3,none⟩=some (.slice Y n.kids.length T):=clA d;have f3:wr.frozen? ⟨w.heap.size,3,none⟩=false:=frA d;have c4:wr.cell? ⟨w.heap.size,4,none⟩=some (.slice V g X):=clA d;have f4:wr.frozen? ⟨w.heap.size,4,none⟩=false:=frA d;have c5:wr.cell? ⟨w.heap.size,5,none⟩=some (.slice Z k S):=clA d;have f5:wr.frozen? ⟨w.heap.size,5,none⟩=false:=frA d;have ac:=(Aa _ _).trans (d.mono omz);by_cases aN:j<k
        ·have O:j<kids.length:=by have:=sJ.out;omega
         obtain⟨b,o,rfl,ai,H⟩:=aM j O;obtain⟨ay,xR,xQ,x4,x5,Q,aa⟩:=(Uz.below ac _ _ _ H ai).open;obtain⟨x0,x1,xU,xP,x2,x3,G,I⟩:=ay.open;have F:=hid (λW t=>IH kids[j] (A59 O) xU xP xR xQ W (G.below t) (I.below t) (Q.below t) (aa.below t));have HS:Hid (A8 ((kids.drop j).map Cf)=if 0<Cf kids[j] then Cf kids[j] else A8 ((kids.drop (j+1)).map Cf)):=by
          show _=_
          rw[A7p O,A6k];rfl
         obtain⟨s,hs⟩:∃s,s=Cf kids[j]:=⟨_,rfl⟩
         obtain⟨x,P⟩:∃x,x=kids[j]:=⟨_,rfl⟩
         rw[<-hs] at F HS;rw[<-P] at F x0 x1 G I Q aa;obtain⟨t0,u0,rfl,_⟩:=G;obtain⟨t1,u1,rfl,_⟩:=I;obtain⟨t2,u2,rfl,_⟩:=Q;obtain⟨t3,u3,rfl,_⟩:=aa;clear hs P H ay;by_cases B:0<s
         ·go_wp2_with (go_at_call 17;refine(F _ blA).mono ?_;rintro e w4 ⟨rfl,aD⟩)
          go_ret;exact⟨Gz (by rw[HX.out,HP.out,HS.out,if_pos B]),blA⟩
         ·go_wp2_with (go_at_call 17;refine(F _ blA).mono ?_;rintro e w4 ⟨rfl,aD⟩)
          refine⟨⟨j+1,omz,by go_num,?_,d.trans (aD.mono hz)⟩,by simp[intOf];omega⟩;rw[HP.out,HS.out,if_neg omz]
        ·go_wp2
         go_ret;refine⟨Gz ?_,ac⟩
         rw[HX.out,HP.out,A7s (by have:=sJ.out;omega)];rfl)
theorem Am4 (n:Stil.Arm)(d a b c:Value)(w:World)(m:Dh w d n.net.one.args)(j:E8 w a n.net.kids)(h:Hz w b n.coils)(l:Ea w c n.kids)(g:Cm n):
  Calls prog 17 #[.agg #[.int .i64 n.net.kind, .int .i64 n.net.one.op,d,a,b,c], .bool true] w λe f=>e=.returned (.int .i64 (Ej n))/\Below w.heap.size w f:=
 (Aqv n true d a b c w m j h l g).mono λe f ⟨k,i⟩=>⟨by rw[k];simp[Ej],i⟩
theorem Adu (l:List Stil.Arm)(L:Value)(w:World)(t:Ea w L l)(hl:l.length<=1048576)(M:Bv l<=1000000000)(E:∀x∈l,Cm x):
  Calls prog 7 #[L] w λe w'=>e=.returned (.agg #[.int .i64 (Bf l).1, .int .i64 (Bf l).2])/\Below w.heap.size w w':=by
 have B:=hid (λW m=>Abi l L W (t.below m) M E);have HF:=hid E;obtain⟨a,cap,rfl,T⟩:=t;have HC:=hid T;obtain⟨k,y⟩:∃k,k=l.length:=⟨_,rfl⟩
 obtain⟨z,d⟩:∃z,z=Bv l:=⟨_,rfl⟩
 have P:=hid y;have u:Hid (Bf l=if 40<k\/400<z then(1,0) else D9 l 0):=by show _=_;rw[y,d];rfl
 rw[<-y] at hl B ⊢;rw[<-d] at B M;obtain⟨R,hR⟩:∃R,R=Bf l:=⟨_,rfl⟩
 rw[<-hR] at u ⊢;clear T E y d hR;by_cases h1:40<k
 ·have c:Hid (R=(1,0)):=by show _=_;rw[u.out,if_pos (.inl h1)]
  go_enter func7,ntmps7
  go_wp2
  refine bodyPost_ret (v:=.agg #[.int .i64 1, .int .i64 0]) (by simp[results,results7,go_sem]) rfl ⟨by rw[c.out];rfl,blA⟩
 ·by_cases h2:400<z
  ·have c:Hid (R=(1,0)):=by show _=_;rw[u.out,if_pos (.inr h2)]
   go_enter func7,ntmps7
   go_wp2_with (go_at_call 16;refine(B _ blA).mono ?_;rintro e q ⟨rfl,g⟩;have I:q.cell? ⟨w.heap.size,0,none⟩=some (.int .i64 0):=(clA g);have D:q.cell? ⟨w.heap.size,1,none⟩=some (.int .i64 0):=(clA g);have k0:q.frozen? ⟨w.heap.size,0,none⟩=false:=(frA g);have k1:q.frozen? ⟨w.heap.size,1,none⟩=false:=(frA g))
   refine bodyPost_ret (v:=.agg #[.int .i64 1, .int .i64 0]) (by simp[results,results7,go_sem,I,D]) rfl ⟨by rw[c.out];rfl,blA⟩
  ·have c:Hid (R=D9 l 0):=by show _=_;rw[u.out,if_neg omz]
   clear u;go_enter func7,ntmps7
   go_wp2_with (go_at_call 16;refine(B _ blA).mono ?_;rintro e q ⟨rfl,g⟩)
   have Y:Below (w.heap.size+1) (w.alloc (.cells #[.int .i64 0, .int .i64 0] 30)) q:=by simpa using g
   clear g;go_loopw [3] (λi wr=>∃j:Nat,j<=k/\i=.int .i64 j/\R=D9 (l.drop j) j/\Below (w.heap.size+1) (w.alloc (.cells #[.int .i64 0, .int .i64 0] 30)) wr) (λi _=>k - (intOf i).toNat)
   case atStart=>exact⟨0,omz,rfl,by rw[c.out];rfl,Y⟩
   case round=>
    clear Y c;obtain⟨j,hj,rfl,S,f⟩:=hrel;have F:=hid S;clear S;have d:w.heap.size<wr.heap.size:=by have:=f.size;simp at this;omega
    have Q:wr.cell? ⟨w.heap.size,0,none⟩=some (.int .i64 0):=clA f;have f0:wr.frozen? ⟨w.heap.size,0,none⟩=false:=frA f;have Z:wr.cell? ⟨w.heap.size,1,none⟩=some (.int .i64 0):=clA f;have f1:wr.frozen? ⟨w.heap.size,1,none⟩=false:=frA f;have ac:=(Aa _ _).trans (f.mono omz);by_cases ae:j<k
    ·have G:j<l.length:=by have:=P.out;omega
     obtain⟨b,o,rfl,aa,U⟩:=HC j G;obtain⟨V,xR,xQ,x4,x5,H,t⟩:=(Uz.below ac _ _ _ U aa).open;obtain⟨x0,x1,xU,xP,x2,x3,C,J⟩:=V.open;have A:=hid (λW m=>Am4 l[j] xU xP xR xQ W (C.below m) (J.below m) (H.below m) (t.below m) (HF _ (A59 G)));have K:Hid (R=if 0<Ej l[j] then(Ej l[j],j) else D9 (l.drop (j+1)) (j+1)):=by show _=_;rw[F.out,Y0 l j G]
     have ab:=Rq l[j];obtain⟨s,X⟩:∃s,s=Ej l[j]:=⟨_,rfl⟩
     obtain⟨x,O⟩:∃x,x=l[j]:=⟨_,rfl⟩
     rw[<-X] at A K ab;rw[<-O] at A x0 x1 C J H t;obtain⟨t0,u0,rfl,_⟩:=C;obtain⟨t1,u1,rfl,_⟩:=J;obtain⟨t2,u2,rfl,_⟩:=H;obtain⟨t3,u3,rfl,_⟩:=t;clear X O U V F;by_cases N:0<s
     ·have c:Hid (R=(s,j)):=by show _=_;rw[K.out,if_pos N]
      go_wp2_with (go_at_call 17;refine(A _ blA).mono ?_;rintro e w4 ⟨rfl,r⟩;have I:=(r.cell (p:=⟨w.heap.size,0,none⟩) d).trans Q;have D:=(r.cell (p:=⟨w.heap.size,1,none⟩) d).trans Z;have k0:=(r.frozen (p:=⟨w.heap.size,0,none⟩) d).trans f0;have k1:=(r.frozen (p:=⟨w.heap.size,1,none⟩) d).trans f1)
      refine bodyPost_ret (v:=.agg #[.int .i64 s, .int .i64 j]) (by simp[results,results7,go_sem,I,D]) rfl ⟨by rw[c.out],blA⟩
     ·have c:Hid (R=D9 (l.drop (j+1)) (j+1)):=by show _=_;rw[K.out,if_neg N]
      go_wp2_with (go_at_call 17;refine(A _ blA).mono ?_;rintro e w4 ⟨rfl,r⟩)
      exact⟨⟨j+1,omz,by go_num,c.out,f.trans (r.mono d)⟩,by simp[intOf];omega⟩
    ·have c:Hid (R=(0,0)):=by show _=_;rw[F.out,A7s (by have:=P.out;omega)];rfl
     go_wp2
     refine bodyPost_ret (v:=.agg #[.int .i64 0, .int .i64 0]) (by simp[results,results7,go_sem,Q,Z]) rfl ⟨by rw[c.out];rfl,blA⟩
end Go.Proofs.YtnpfcnolmkanfaaGreatDoor
