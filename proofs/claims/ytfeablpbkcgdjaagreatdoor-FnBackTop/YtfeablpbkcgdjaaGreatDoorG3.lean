import Derived.Test.YtfeablpbkcgdjaaGreatDoorNT6
import Derived.Test.YtfeablpbkcgdjaaGreatDoorGt
import Derived.Test.YtfeablpbkcgdjaaGreatDoorW15
set_option linter.defProp false
set_option maxHeartbeats 4000000
set_option maxRecDepth 100000
namespace Go.Proofs.YtfeablpbkcgdjaaGreatDoor
open Tryz Stil Go.RowKit Go.Sort Go.BigFrame
def fY (L:List Stil.B5)(w:World)(bs:List Nat)(ts:List (List Tr × List Value))(e:Ending)(w':World):Prop:=∃a c,e=.returned (.slice a L.length c)/\Sv w' bs (([sl (Io L)],[.slice a L.length c])::ts)/\Below w.heap.size w w'
def Yz (l:List Stil.B5)(a:Value)(w:World)(bs:List Nat)(ts:List (List Tr × List Value))(h:Sv w bs ts)(hr:Ed w)(hg:En w)(g:Dc w a l)(hl:l.length<=1048576)(t:Bc l<=1000000000)(c:∀x∈l,Ba x):
  Calls prog 37 #[a] w (fY (Af l) w bs ts):=by
 have b:=Ci (λW (h:Below w.heap.size w W)=>Xx l a W (hr.below h) (hg.below h) (g.below h) hl t c);have f:=Ci (λ(h0:(Am l).1=0) W s q k (h:Below w.heap.size w W)=>S5 l Dv (λx hx=>sA x (c x hx) yFe) a W s q k (g.below h) (by have:=(Jk h0).2.1;omega));obtain⟨v,u,rfl,-⟩:=g;by_cases h0:(Am l).1=0
 .rw[show Af l=l.map Dv from if_pos h0]
  have j:=Ci (f h0);obtain⟨L,i⟩:∃L,L=l.map Dv:=⟨_,rfl⟩
  rw[EN h0] at b;rw[<-i] at j ⊢;clear hr hg c f h0 i;go_enter func37,ntmps37
  go_wp2_with (first | (go_at_call 13;refine(b _ AX).mono ?_;rintro e r ⟨rfl,d⟩;replace h:=h.bel d) | (go_at_call 67;refine(j _ _ _ h AX).mono ?_;rintro e y ⟨o,m,z,rfl,hown,hS,A⟩))
  go_ret;exact⟨o,m,rfl,(hS.ice (.head _) yBi h.1).sub (λ_ h=>h) BB,AX⟩
 .rw[show Af l=[] from if_neg h0]
  rw[FO h0] at b;clear hr hg c f h0;go_enter func37,ntmps37
  go_wp2_with (go_at_call 13;refine(b _ AX).mono ?_;rintro e r ⟨rfl,d⟩;replace h:=h.bel d)
  go_ret;exact⟨none,0,rfl,h.snil,AX⟩
def YP (x:Stil.B5)(D:Ah x<=1000000)(o:E3 39 x (Stil.forks x)):E3 71 x (1+Stil.forks x):=by
 intro d b l c w g f i j;have m:Hid (∀W,Below w.heap.size w W->Calls prog 39 #[.agg #[.int .i64 x.net.kind, .int .i64 x.net.one.op,d,b,l,c]] W λe r=>e=.returned (.int .i64 (Stil.forks x))/\Below W.heap.size W r):=λW h=>o d b l c W (g.below h) (f.below h) (i.below h) (j.below h)
 have t:=WO x;obtain⟨k,a⟩:∃k,k=Stil.forks x:=⟨_,rfl⟩
 rw[<-a] at m t ⊢;obtain⟨A,v,rfl,q⟩:=g.shape;obtain⟨E,F,rfl,u,_⟩:=f.shape;obtain⟨H,B,rfl,s⟩:=i.shape;obtain⟨y,G,rfl,p,_⟩:=j.shape;clear o q u s p a;go_enter func71,ntmps71
 go_wp2_with (go_at_call 39;refine(m _ AX).mono ?_;rintro e C ⟨rfl,z⟩)
 go_ret;exact⟨Fa (by go_num),AX⟩
def sR (a:Stil.B5):Ah a<=1000000->E3 39 a (Stil.forks a):=by
 induction a using Fb with
 | h n cs kids t=>
  intro hs av nv cv kv w j q l f;simp only at j q l f;rw[Dp] at hs;have i:∀x∈kids,Ah x<=1000000:=λx hx=>by have:Ah x<=H5 kids:=Em Ah kids x hx;omega
  have B:kids.length<=999999:=by have:=Nu kids;omega
  obtain⟨p0,r0,rfl,v⟩:=j.shape;obtain⟨p1,r1,rfl,H,_⟩:=q.shape;obtain⟨p2,r2,rfl,E⟩:=l.shape;clear v H E hs;rcases List.eq_nil_or_concat kids with rfl | ⟨init,z,O⟩
  .rw[wm]
   obtain⟨S,d,rfl,D,_⟩:=f.shape;clear D t i B;go_enter func39,ntmps39
   go_wp2
   go_ret;exact⟨rfl,AX⟩
  .rw[List.concat_eq_append] at O
   subst O;have hE:∀args w,(callFunc 71 args).run prog w=.ok (.enter 71 args) w:=enters_of func71 AY rfl;have U:=f;obtain⟨S,d,rfl,Z,T⟩:=f.shape;have Q:=U;have N:(init++[z]).take init.length=init:=AW
   have V:init.length<=999999:=by simp only[CO,EZ] at B;omega
   have s:Hid (∀W,Below w.heap.size w W->Calls prog 36 #[.slice S init.length d, .int .i64 (Stil.forks z), .func (.func 71) #[] #[]] W λe L=>e=.returned (.int .i64 (Bg (Stil.forks z) (init.map (λk=>1+Stil.forks k))))/\Below W.heap.size W L):=by
    intro W h;refine Lx init (λk=>1+Stil.forks k) 71 hE (λx hx=>?_) _ _ W ?_ V
    .exact YP x (i x B0) (t x B0 (i x B0))
    .have:=(Q.below h).take (n:=init.length) AW
     rwa [N] at this
   obtain⟨b,o,rfl,g,I⟩:=T init.length AW;have hg:(init++[z])[init.length]'AW=z:=AW
   rw[hg] at I;obtain⟨ab,ac,aa,J,A,l,f⟩:=I.open;obtain⟨y,F,X,Y,G,M,j,q⟩:=ab.open;have HZ:Hid (∀W,Below w.heap.size w W->Calls prog 39 #[.agg #[.int .i64 z.net.kind, .int .i64 z.net.one.op,X,Y,ac,aa]] W λe L=>e=.returned (.int .i64 (Stil.forks z))/\Below W.heap.size W L):=λW h=>t z AW (i z AW) X Y ac aa W (j.below h) (q.below h) (l.below h) (f.below h)
   rw[sb];obtain⟨u,P⟩:∃u,u=Stil.forks z:=⟨_,rfl⟩
   rw[<-P] at s HZ ⊢;obtain⟨R,hR⟩:∃R,R=Bg u (init.map (λk=>1+Stil.forks k)):=⟨_,rfl⟩
   rw[<-hR] at s ⊢;have C:(init++[z]).length=init.length+1:=AW
   obtain⟨m,K⟩:∃m,m=init.length:=⟨_,rfl⟩
   rw[C];rw[<-K] at s y F G M J A V ⊢;obtain⟨q0,s0,rfl,v⟩:=j.shape;obtain⟨q1,s1,rfl,H,_⟩:=q.shape;obtain⟨q2,s2,rfl,E⟩:=l.shape;obtain⟨q3,s3,rfl,D,_⟩:=f.shape;have aj:(0:Int)<=(m:Int):=AU
   have af:(m:Int)<=(m:Int)+1:=AU
   have ak:(m:Int)<(m:Int)+1:=AU
   have ag:IntKind.i64.wrap ((m:Int)+1 - 1)=(m:Int):=by rw[IntKind.wrap_i64];omega
   have ai:m+1<=d:=by have:=Z.1;rw[C,<-K] at this;exact this
   have al:(m:Int)<=(d:Int):=AU
   have ah:m<=d:=AU
   clear v H E D Q U N T I ab hE P hR hg t i B C K Z;go_enter func39,ntmps39
   go_wp2
   obtain⟨W,r⟩:∃W,W=w.alloc (.cells #[.int .i64 n.kind, .int .i64 n.one.op, .slice p0 n.one.args.length r0, .slice p1 n.kids.length r1, .slice p2 cs.length r2, .slice (some ⟨b,o,none⟩) (m+1) d] 60):=⟨_,rfl⟩
   rw[<-r];have c:Below w.heap.size w W:=by rw[r];exact Aa _ _
   have y5:W.cell? ⟨w.heap.size,5,none⟩=some (.slice (some ⟨b,o,none⟩) (m+1) d):=by rw[r];simp[go_sem]
   have k0:=cell_regrown ((c.cell (p:=⟨b,o+m*6,none⟩) g).trans y);have k1:=cell_regrown ((c.cell (p:=⟨b,o+m*6+1,none⟩) g).trans F);have k2:=cell_regrown ((c.cell (p:=⟨b,o+m*6+2,none⟩) g).trans G);have k3:=cell_regrown ((c.cell (p:=⟨b,o+m*6+3,none⟩) g).trans M);have k4:=cell_regrown ((c.cell (p:=⟨b,o+m*6+4,none⟩) g).trans J);have k5:=cell_regrown ((c.cell (p:=⟨b,o+m*6+5,none⟩) g).trans A);have k6:=cell_regrown y5;clear r y5 y F G M J A;refine wp_region_quiet_below AY AY ?_;repeat (go_big_quiet_step ((first | exact Calls.regrown_of (HZ _ (H9 c _ _)) | exact Calls.regrown_of (s _ (H9 c _ _)))))
   refine wpQuiet_nil ?_;intro _ ad;obtain⟨⟨dq,osq⟩,ae⟩:=ad;subst ae
   go_wp2
   go_ret;exact⟨rfl,H9 c _ _⟩
def zpa {p:Prop}(h:p:=by
 go_wp2_with (first | (go_at_call 37;refine(HC _ AX).mono ?_;rintro e w1 ⟨a,c,rfl,uZ,hb1⟩;have HAT:Hid (Tu w1 (.slice a L.length c) L):=uZ.arms (.head _);clear uZ) | (go_at_call 36;refine(HM _ _ HAT.out).mono ?_;rintro e w2 ⟨rfl,hb2⟩))
 go_ret;exact⟨rfl,AX⟩):p:=h
def TV (l:List Stil.B5)(d:Value)(w:World)(hr:Ed w)(hg:En w)(q:Dc w d l)(hl:l.length<=1048576)(y:Bc l<=1000000000)(i:∀x∈l,Ba x):
  Calls prog 15 #[d] w λe f=>e=.returned (.int .i64 (F9 l))/\Below w.heap.size w f:=by
 have HC:=Ci (λW (h:Below w.heap.size w W)=>Yz l d W [] [] ⟨(λb u=>by cases u),λx g=>by cases g⟩ (hr.below h) (hg.below h) (q.below h) hl y i);obtain⟨m,r,s⟩:=Jb i;have j:Hid (F9 l=Bg 0 ((Af l).map Stil.forks)):=rfl;obtain⟨L,k⟩:∃L,L=Af l:=⟨_,rfl⟩
 rw[<-k] at HC m r s j;have t:∀args w,(callFunc 39 args).run prog w=.ok (.enter 39 args) w:=enters_of func39 AY rfl;have HM:Hid (∀W v,Tu W v L->Calls prog 36 #[v, .int .i64 0, .func (.func 39) #[] #[]] W λe f=>e=.returned (.int .i64 (Bg 0 (L.map Stil.forks)))/\Below W.heap.size W f):=λW v h=>Lx L Stil.forks 39 t (λx g=>sR x (by have:=Rk g;omega)) 0 v W h AU
 rw[j.out];obtain⟨R,o⟩:∃R,R=Bg 0 (L.map Stil.forks):=⟨_,rfl⟩
 rw[<-o] at HM ⊢;obtain⟨B,A,rfl,z⟩:=q;clear z hr hg i m r s j k t o;go_enter func15,ntmps15
 exact zpa
def Ub (a b:Nat)(w:World):Calls prog 43 #[.int .i64 a, .int .i64 b] w λe c=>e=.returned (.int .i64 (max a b:Nat))/\c=w:=by
 go_enter func43,ntmps43
 go_wp2
 all_goals go_ret
 all_goals refine⟨Fa ?_,rfl⟩
 all_goals (congr 1;omega)
def zqa {p:Prop}(h:p:=by
 go_wp2_with (first | (go_at_call 46;refine(HI _ AX).mono ?_;rintro e w2 ⟨rfl,hb2⟩) | (go_at_call 43;refine(HG _ _ _).mono ?_;rintro e w3 ⟨rfl,rfl⟩))
 refine⟨⟨j+1,max m fx,AU,by go_num,rfl,?_,Au hb hb2⟩,by simp[intOf];omega⟩;rw[aF.out,<-HM.out]):p:=h
def pQ (a:Stil.B5):Ah a<=1000000->E3 46 a (Stil.forks a):=by
 induction a using Fb with
 | h n cs kids Y=>
  intro T H u z G w g l k f;simp only at g l k f;rw[Dp] at T;have y:∀x∈kids,Ah x<=1000000:=λx c=>by have:Ah x<=H5 kids:=Em Ah kids x c;omega
  have af:kids.length<=999999:=by have:=Nu kids;omega
  have IH:=Ab (λx c=>Y x c (y x c));have ab:=Ab (λx c=>CB (WO x) (y x c));have dP:=Ab (λW (h:Below w.heap.size w W)=>f.below h);rw[X0];obtain⟨p0,r0,rfl,v⟩:=g.shape;obtain⟨p1,r1,rfl,F,_⟩:=l.shape;obtain⟨p2,r2,rfl,D⟩:=k.shape;obtain⟨N,M,rfl,A,_⟩:=f.shape;clear v F D A T Y y g l k f;obtain⟨q,C⟩:∃q,q=kids.map Stil.forks:=⟨_,rfl⟩
  have B:=Ab C;rw[<-C];clear C;go_enter func46,ntmps46
  go_wp2
  obtain⟨W,r⟩:∃W,W=w.alloc (.cells #[.int .i64 n.kind, .int .i64 n.one.op, .slice p0 n.one.args.length r0, .slice p1 n.kids.length r1, .slice p2 cs.length r2, .slice N kids.length M] 60):=⟨_,rfl⟩
  rw[<-r];have K:Below w.heap.size w W:=by rw[r];exact Aa _ _
  have jL:w.heap.size<W.heap.size:=by rw[r];simp
  have y5:W.cell? ⟨w.heap.size,5,none⟩=some (.slice N kids.length M):=by rw[r];simp[go_sem]
  clear r;go_loopw [3,5] (λd i wr=>∃(j m:Nat),j<=kids.length/\i=.int .i64 j/\d=.int .i64 m/\m=Bg 0 ((Stil.bump q).take j)/\Below W.heap.size W wr) (λ_ i _=>kids.length - (intOf i).toNat)
  case atStart=>exact⟨0,0,AU,rfl,rfl,rfl,Below.refl _ _⟩
  case round=>
   obtain⟨j,m,hj,rfl,rfl,U,hb⟩:=hrel;have HM:=Ab U;clear U;by_cases s:j<kids.length
   .have ad:=Au K hb
    obtain⟨pa,pc,J,_,O⟩:=(dP wr ad).shape;simp only[Value.slice.injEq,true_and] at J;obtain⟨rfl,rfl⟩:=J;obtain⟨b,o,rfl,ac,S⟩:=O j s;obtain⟨R,z,G,x4,x5,k,f⟩:=S.open;obtain⟨x0,x1,H,u,x2,x3,g,l⟩:=R.open;have HI:Hid (∀V,Below wr.heap.size wr V->Calls prog 46 #[.agg #[.int .i64 kids[j].net.kind, .int .i64 kids[j].net.one.op,H,u,z,G]] V λe I=>e=.returned (.int .i64 (Stil.forks kids[j]))/\Below V.heap.size V I):=λV h=>IH kids[j] (CG s) H u z G V (g.below h) (l.below h) (k.below h) (f.below h)
    have X:=ab kids[j] (CG s);have t:q.length=kids.length:=by rw[B.out,CP]
    have aF:Hid (Bg 0 ((Stil.bump q).take (j+1))=max (Bg 0 ((Stil.bump q).take j)) (if j+1<kids.length then Stil.forks kids[j]+1 else Stil.forks kids[j])):=by
     show _=_
     rw[Jt (by rw[KB,t];exact s),OO];have e1:q[j]'(by rw[t];exact s)=Stil.forks kids[j]:=by simp[B.out]
     rw[e1,t];rfl
    obtain⟨x,c⟩:∃x,x=kids[j]:=⟨_,rfl⟩
    rw[<-c] at HI aF X x0 x1 g l k f;obtain⟨fx,Q⟩:∃fx,fx=Stil.forks x:=⟨_,rfl⟩
    rw[<-Q] at HI aF X;obtain⟨q0,s0,rfl,v⟩:=g.shape;obtain⟨q1,s1,rfl,F,_⟩:=l.shape;obtain⟨q2,s2,rfl,D⟩:=k.shape;obtain⟨q3,s3,rfl,A,_⟩:=f.shape;have wQ:=(hb.cell (p:=⟨w.heap.size,5,none⟩) jL).trans y5;have ai:(0:Int)<=(j:Int):=AU
    have ae:(j:Int)<(kids.length:Int):=AU
    have ah:IntKind.i64.wrap ((kids.length:Int) - 1)=(kids.length:Int) - 1:=by rw[IntKind.wrap_i64];omega
    have ag:IntKind.i64.wrap ((fx:Int)+1)=(fx:Int)+1:=by rw[IntKind.wrap_i64];omega
    have P:(fx:Int)+1=((fx+1:Nat):Int):=AU
    have HG:=Ab Ub;have Z:Hid (∀(p:Nat) (V:World),Calls prog 43 #[.int .i64 p, .int .i64 ((fx:Int)+1)] V λe I=>e=.returned (.int .i64 (max p (fx+1):Nat))/\I=V):=λp V=>by rw[P];exact Ub p (fx+1) V
    clear v F D A c Q S R O t g l k f P ac;by_cases L:j+1<kids.length
    .rw[if_pos L] at aF
     have aa:(j:Int)<(kids.length:Int) - 1:=AU
     go_wp2_with (first | (go_at_call 46;refine(HI _ AX).mono ?_;rintro e w2 ⟨rfl,hb2⟩) | (go_at_call 43;refine(Z _ _).mono ?_;rintro e w3 ⟨rfl,rfl⟩))
     refine⟨⟨j+1,max m (fx+1),AU,by go_num,rfl,?_,Au hb hb2⟩,by simp[intOf];omega⟩;rw[aF.out,<-HM.out]
    .rw[if_neg L] at aF
     have aa:¬((j:Int)<(kids.length:Int) - 1):=AU
     exact zqa
   .obtain rfl:j=kids.length:=by omega
    have E:=HM.out;rw[EC (by rw[KB,B.out,CP];exact B7 _)] at E;have dV:=Ab E;clear E
    go_wp2
    go_ret;exact⟨Fa yEj,Au K hb⟩
def pS (l:List Stil.B5)(g:Value)(w:World)(k:Dc w g l)(hl:l.length<=1048576)(T:Bc l<=1000000000)(v:∀x∈l,Ba x):
  Calls prog 19 #[g] w λe f=>e=.returned (.int .i64 (F9 l))/\Below w.heap.size w f:=by
 have D:Hid (∀W,Below w.heap.size w W->Calls prog 9 #[g] W λe f=>(∃a c,e=.returned (.slice a (Af l).length c)/\Tu f (.slice a (Af l).length c) (Af l))/\Below W.heap.size W f):=λW h=>U9 l g W (k.below h) hl T v
 obtain⟨P,I,kG⟩:=Jb v;have z:Hid (F9 l=Bg 0 ((Af l).map Stil.forks)):=rfl;obtain⟨L,E⟩:∃L,L=Af l:=⟨_,rfl⟩
 rw[<-E] at D P I kG z;have IH:Hid (∀x∈L,E3 46 x (Stil.forks x)):=λx s=>pQ x (by have:=Rk s;omega)
 have HG:Hid (∀(p q:Nat) (V:World),Calls prog 43 #[.int .i64 p, .int .i64 q] V λe f=>e=.returned (.int .i64 (max p q:Nat))/\f=V):=Ub;rw[z.out];obtain⟨p0,r0,rfl,X⟩:=k;clear X v P I z E;go_enter func19,ntmps19
 go_wp2_with (go_at_call 9;refine(D _ AX).mono ?_;rintro e A ⟨⟨a,c,rfl,F⟩,S⟩;have U:Hid (Tu A (.slice a L.length c) L):=F;clear F)
 go_loopw [4,5] (λd i wr=>∃(j m:Nat),j<=L.length/\i=.int .i64 j/\d=.int .i64 m/\m=Bg 0 ((L.map Stil.forks).take j)/\Below A.heap.size A wr) (λ_ i _=>L.length - (intOf i).toNat)
 case atStart=>exact⟨0,0,AU,rfl,rfl,rfl,Below.refl _ _⟩
 case round=>
  obtain⟨j,m,hj,rfl,rfl,O,hb⟩:=hrel;have HM:Hid (m=Bg 0 ((L.map Stil.forks).take j)):=O;clear O;by_cases hlt:j<L.length
  .obtain⟨pa,pc,C,_,G⟩:=(U.below hb).shape
   simp only[Value.slice.injEq,true_and] at C;obtain⟨rfl,rfl⟩:=C;obtain⟨b,o,rfl,aa,M⟩:=G j hlt;obtain⟨K,H,g,x4,x5,t,k⟩:=M.open;obtain⟨R,x1,N,B,x2,x3,r,u⟩:=K.open;have HI:Hid (∀V,Below wr.heap.size wr V->Calls prog 46 #[.agg #[.int .i64 L[j].net.kind, .int .i64 L[j].net.one.op,N,B,H,g]] V λe f=>e=.returned (.int .i64 (Stil.forks L[j]))/\Below V.heap.size V f):=λV h=>IH L[j] (CG hlt) N B H g V (r.below h) (u.below h) (t.below h) (k.below h)
   have aF:Hid (Bg 0 ((L.map Stil.forks).take (j+1))=max (Bg 0 ((L.map Stil.forks).take j)) (Stil.forks L[j])):=by
    show _=_
    rw[Jt yDa,EU]
   obtain⟨x,s⟩:∃x,x=L[j]:=⟨_,rfl⟩
   rw[<-s] at HI aF R x1 r u t k;obtain⟨fx,J⟩:∃fx,fx=Stil.forks x:=⟨_,rfl⟩
   rw[<-J] at HI aF;obtain⟨q0,s0,rfl,Q⟩:=r.shape;obtain⟨q1,s1,rfl,ab,_⟩:=u.shape;obtain⟨q2,s2,rfl,Z⟩:=t.shape;obtain⟨q3,s3,rfl,Y,_⟩:=k.shape;have ad:(0:Int)<=(j:Int):=AU
   have ac:(j:Int)<(L.length:Int):=AU
   clear Q ab Z Y s J M K G r u t k aa
   exact zqa
  .obtain rfl:j=L.length:=by omega
   have y:=HM.out;rw[EC yCg] at y;have dV:Hid (m=Bg 0 (L.map Stil.forks)):=y;clear y
   go_wp2
   go_ret;exact⟨Fa yEj,Au S hb⟩
def UE (x:Stil.B1)(y:Ac x<=1000000)(q:FQ 44 x (Az x)):FQ 76 x (Cc x):=by
 intro l j w d c;have f:Hid (∀W,Below w.heap.size w W->Calls prog 44 #[.agg #[.int .i64 x.kind, .int .i64 x.one.op,l,j]] W λe s=>e=.returned (.int .i64 (Az x))/\Below W.heap.size W s):=λW h=>q l j W (d.below h) (c.below h)
 have t:=SB x;have a:Hid (Cc x=if x.kind=1 then 1 else 1+Az x):=rfl;obtain⟨b,m⟩:∃b,b=Az x:=⟨_,rfl⟩
 obtain⟨T,p⟩:∃T,T=Cc x:=⟨_,rfl⟩
 rw[<-m] at f t a;rw[<-p] at a ⊢;obtain⟨k,o⟩:∃k,k=x.kind:=⟨_,rfl⟩
 rw[<-o] at f a ⊢;obtain⟨A,v,rfl,r⟩:=d.shape;obtain⟨D,E,rfl,u,_⟩:=c.shape;clear q r u m p o d c;by_cases g:k=1
 .subst g
  have i:Hid (T=1):=by show _=_;rw[a.out];rfl
  clear a;go_enter func76,ntmps76
  go_wp2
  go_ret;exact⟨Fa (by rw[i.out];rfl),AX⟩
 .have i:Hid (T=1+b):=by show _=_;rw[a.out,if_neg g]
  have C:(k==1)=false:=by rw[CJ];exact g
  clear a;go_enter func76,ntmps76
  go_wp2_with (go_at_call 44;refine(f _ AX).mono ?_;rintro e B ⟨rfl,z⟩)
  go_ret;exact⟨Fa (by rw[i.out];go_num),AX⟩
def VE (n:Stil.B1):Aj n=0->Ac n<=1000000->FQ 44 n (Az n):=by
 induction n using Fv with
 | h k e kids F=>
  intro E C av N w f c;simp only at f c;have u:=Lc E;simp only at u;have B:=Fg E;rw[Cj] at C;simp only at C;have s:∀x∈kids,Ac x<=1000000:=λx hx=>by have:Ac x<=Stil.sizes kids:=Em Ac kids x hx;omega
  have J:kids.length<=999999:=by have:=He kids;omega
  obtain⟨p0,r0,rfl,A⟩:=f.shape;by_cases h1:k=1
  .subst h1
   rw[Xk];obtain⟨p1,r1,rfl,Y,_⟩:=c.shape;clear A Y F s J E u B C f c;go_enter func44,ntmps44
   go_wp2
   go_ret;exact⟨rfl,AX⟩
  .have ai:kids≠[]:=by
    rcases B with⟨h,_⟩ | ⟨_,h,_⟩ | ⟨_,_,x,h,_⟩
    .exact absurd h h1
    .intro P;rw[P] at h;simp at h
    .intro P;rw[P] at h;cases h
   obtain⟨x,r,rfl⟩:=LM ai;rw[Oy e x r h1];have dP:=Ab (λW (h:Below w.heap.size w W)=>c.below h);obtain⟨p1,r1,rfl,af,t⟩:=c.shape;obtain⟨b,o,rfl,S,l⟩:=t 0 AW;simp only[FM,ER,GI] at l;obtain⟨O,U,dU,dW,x2,x3,I,G⟩:=l.open;have L:Hid (∀W,Below w.heap.size w W->Calls prog 44 #[.agg #[.int .i64 x.kind, .int .i64 x.one.op,dU,dW]] W λe w'=>e=.returned (.int .i64 (Az x))/\Below W.heap.size W w'):=λW h=>F x AW (u x AW) (s x AW) dU dW W (I.below h) (G.below h)
   have HY:=Ab (λy q=>UE y (s y (CH _ q)) (F y (CH _ q) (u y (CH _ q)) (s y (CH _ q))));have HG:=Ab Ub;obtain⟨g,M⟩:∃g,g=Az x:=⟨_,rfl⟩
   rw[<-M] at L ⊢;obtain⟨q0,s0,rfl,ac⟩:=I.shape;obtain⟨q1,s1,rfl,ae,_⟩:=G.shape;have aj:r.length<=999998:=by simp only[CC] at J;omega
   have X:k=4->r=[]:=by
    intro Z;rcases B with⟨h,_⟩ | ⟨h,_,_⟩ | ⟨_,_,aw,h,_⟩
    .omega
    .omega
    .simp only[List.cons.injEq] at h;exact h.2
   simp only[CC];obtain⟨m,D⟩:∃m,m=r.length:=⟨_,rfl⟩
   have lX:=Ab D;rw[<-D] at aj ⊢;by_cases Z:k=4
   .subst Z
    have Q:=X rfl;have HR:Hid (Bg g (r.map Cc)=g):=by show _=_;rw[Q];rfl
    rw[HR.out];have ak:m=0:=by rw[D,Q];rfl
    subst ak;clear A ac ae t l M F s J D af f c I G E u B C Q X HY HG dP lX;go_enter func44,ntmps44
    go_wp2_with (go_at_call 44;refine(L _ AX).mono ?_;rintro e z ⟨rfl,H⟩)
    go_ret;exact⟨rfl,AX⟩
   .have ar:(k==1)=false:=by rw[CJ];exact h1
    have uA:(k==4)=false:=by rw[CJ];exact Z
    clear A ac ae t l M F s J D af f c I G E u B C X;have ao:(0:Int)<(m:Int)+1:=AU
    go_enter func44,ntmps44
    go_wp2_with (go_at_call 44;refine(L _ AX).mono ?_;rintro e z ⟨rfl,H⟩;have y3:z.cell? ⟨w.heap.size,3,none⟩=some (.slice (some ⟨b,o,none⟩) (m+1) r1):=(A3 H);have Y:w.heap.size<z.heap.size:=B8 AW H.size)
    have bM:Below w.heap.size w z:=AX;clear H O U x2 x3 S L;go_loopw [3,4] (λd i wr=>∃(j K:Nat),j<=m/\i=.int .i64 ((j:Int)+1)/\d=.int .i64 K/\K=Bg g ((r.map Cc).take j)/\Below z.heap.size z wr) (λ_ i _=>m+1 - (intOf i).toNat)
    case atStart=>exact⟨0,g,AU,rfl,rfl,rfl,Below.refl _ _⟩
    case round=>
     obtain⟨j,K,hj,rfl,rfl,ad,hb⟩:=hrel;have HM:=Ab ad;clear ad;have ah:=Au bM hb;have ax:=(hb.cell (p:=⟨w.heap.size,3,none⟩) Y).trans y3;by_cases az:j<m
     .have ab:j<r.length:=by have:=lX.out;omega
      obtain⟨pa,pc,aa,_,t⟩:=(dP wr ah).shape;simp only[CC,Value.slice.injEq,true_and] at aa;obtain⟨rfl,rfl⟩:=aa;obtain⟨b2,o2,uH,S,l⟩:=t (j+1) yDj;simp only[EQ,Addr.mk.injEq,F3] at uH;obtain⟨rfl,rfl⟩:=uH;simp only[J0] at l;obtain⟨O,U,av,N,x2,x3,f,c⟩:=l.open;have HI:Hid (∀V,Below wr.heap.size wr V->Calls prog 76 #[.agg #[.int .i64 r[j].kind, .int .i64 r[j].one.op,av,N]] V λe w'=>e=.returned (.int .i64 (Cc r[j]))/\Below V.heap.size V w'):=λV h=>HY r[j] (CG ab) av N V (f.below h) (c.below h)
      have T:Hid (Bg g ((r.map Cc).take (j+1))=max (Bg g ((r.map Cc).take j)) (Cc r[j])):=by
       show _=_
       rw[Jt (by rw[CP];exact ab),EU]
      obtain⟨y,q⟩:∃y,y=r[j]:=⟨_,rfl⟩
      rw[<-q] at HI T O U f c;obtain⟨fx,ag⟩:∃fx,fx=Cc y:=⟨_,rfl⟩
      rw[<-ag] at HI T;obtain⟨au,ay,rfl,A⟩:=f.shape;obtain⟨ap,aB,rfl,sO,_⟩:=c.shape;have aA:(0:Int)<=(j:Int)+1:=AU
      have an:(j:Int)+1<(m:Int)+1:=AU
      have aC:((j:Int)+1).toNat=j+1:=AU
      clear A sO q ag l t f c S
      go_wp2_with (first | (go_at_call 76;refine(HI _ AX).mono ?_;rintro e w2 ⟨rfl,al⟩) | (go_at_call 43;refine(HG _ _ _).mono ?_;rintro e w3 ⟨rfl,rfl⟩))
      refine⟨⟨j+1,max K fx,AU,by go_num,rfl,?_,Au hb al⟩,by simp[intOf];omega⟩;rw[T.out,<-HM.out]
     .obtain rfl:j=m:=by omega
      have R:=HM.out;rw[EC (by rw[CP,<-lX.out];exact B7 _)] at R;have dV:=Ab R;clear R
      go_wp2
      go_ret;exact⟨Fa yEj,ah⟩
def pO (a:Stil.B5):Ah a<=1000000->Ep a->E3 45 a (Bq a):=by
 induction a using Fb with
 | h n cs kids ih=>
  intro hs aw av M cv kv w t s C A;simp only at t s C A;rw[Dp] at hs;obtain⟨_,dI⟩:=(D8 _ _ _).1 aw;have ad:∀x∈kids,Ah x<=1000000:=λx g=>by have:Ah x<=H5 kids:=Em Ah kids x g;omega
  have aD:kids.length<=999999:=by have:=Nu kids;omega
  have IH:=Ab (λx g=>ih x g (ad x g) (dI x g));have kR:Hid (∀x∈kids,Gi x.net/\Stil.BG x.net<=999999):=by
   intro x g;have h1:=dI x g;have h2:=ad x g;obtain⟨xn,xc,xk⟩:=x;rw[Dp] at h2;exact⟨((D8 _ _ _).1 h1).1,by simp only;omega⟩
  have dP:=Ab (λW (h:Below w.heap.size w W)=>A.below h);have R:=Ab Ub;rw[U6];obtain⟨p0,r0,rfl,O⟩:=t.shape;obtain⟨p1,r1,rfl,Y,_⟩:=s.shape;obtain⟨p2,r2,rfl,ag⟩:=C.shape;obtain⟨p3,r3,rfl,af,_⟩:=A.shape;clear O Y ag af hs ih ad t s C A dI aw;go_enter func45,ntmps45
  go_wp2
  obtain⟨W,S⟩:∃W,W=w.alloc (.cells #[.int .i64 n.kind, .int .i64 n.one.op, .slice p0 n.one.args.length r0, .slice p1 n.kids.length r1, .slice p2 cs.length r2, .slice p3 kids.length r3] 60):=⟨_,rfl⟩
  rw[<-S];have ai:Below w.heap.size w W:=by rw[S];exact Aa _ _
  have jL:w.heap.size<W.heap.size:=by rw[S];simp
  have y5:W.cell? ⟨w.heap.size,5,none⟩=some (.slice p3 kids.length r3):=by rw[S];simp[go_sem]
  clear S;go_loopw [3,4] (λd i wr=>∃(j m:Nat),j<=kids.length/\i=.int .i64 j/\d=.int .i64 m/\m=Bg 1 ((kids.map (λk=>Gf k.net (Bq k))).take j)/\Below W.heap.size W wr) (λ_ i _=>kids.length - (intOf i).toNat)
  case atStart=>exact⟨0,1,AU,rfl,rfl,rfl,Below.refl _ _⟩
  case round=>
   obtain⟨j,m,hj,rfl,rfl,hm,D⟩:=hrel;have HM:=Ab hm;clear hm;by_cases hlt:j<kids.length
   .have aA:=Au ai D
    obtain⟨pa,pc,N,_,Q⟩:=(dP wr aA).shape;simp only[Value.slice.injEq,true_and] at N;obtain⟨rfl,rfl⟩:=N;obtain⟨b,o,rfl,f,hn⟩:=Q j hlt;obtain⟨ap,cv,kv,x4,x5,C,A⟩:=hn.open;obtain⟨P,x1,av,M,x2,x3,t,s⟩:=ap.open;have H:Hid (∀V,Below wr.heap.size wr V->Calls prog 45 #[.agg #[.int .i64 kids[j].net.kind, .int .i64 kids[j].net.one.op,av,M,cv,kv]] V λe w'=>e=.returned (.int .i64 (Bq kids[j]))/\Below V.heap.size V w'):=λV h=>IH kids[j] (CG hlt) av M cv kv V (t.below h) (s.below h) (C.below h) (A.below h)
    obtain⟨K,aa⟩:=kR kids[j] (CG hlt);have X:Hid (Bg 1 ((kids.map (λk=>Gf k.net (Bq k))).take (j+1))=max (Bg 1 ((kids.map (λk=>Gf k.net (Bq k))).take j)) (Gf kids[j].net (Bq kids[j]))):=by
     show _=_
     rw[Jt yDa,EU]
    obtain⟨x,g⟩:∃x,x=kids[j]:=⟨_,rfl⟩
    rw[<-g] at H X P x1 t s C A K aa;have iV:=Ab (λV (h:Below wr.heap.size wr V)=>s.below h);have J:Hid (∀y,y∈Bh x.net->FQ 76 y (Cc y)):=by
     intro y q;have h1:=LQ x.net y q;have h2:Aj y=0:=by
      unfold Bh at q;split at q
      .cases q
      .rename_i h3
       have h4:=K.resolve_left h3;split at q
       .exact Lc h4.2.2 y q
       .rw[List.mem_singleton.1 q];exact h4.2.2
     exact UE y AU (VE y h2 AU)
    have xW:Hid (∀V,Below wr.heap.size wr V->x.net∈Bh x.net->Calls prog 76 #[.agg #[.int .i64 x.net.kind, .int .i64 x.net.one.op,av,M]] V λe w'=>e=.returned (.int .i64 (Cc x.net))/\Below V.heap.size V w'):=λV h hm=>J x.net hm av M V (t.below h) (s.below h)
    obtain⟨c,au⟩:∃c,c=Bq x:=⟨_,rfl⟩
    rw[<-au] at H X;obtain⟨q0,s0,rfl,O⟩:=t.shape;obtain⟨q1,s1,rfl,Y,_⟩:=s.shape;obtain⟨q2,s2,rfl,ag⟩:=C.shape;obtain⟨q3,s3,rfl,af,_⟩:=A.shape;have wQ:=(D.cell (p:=⟨w.heap.size,5,none⟩) jL).trans y5;have aj:=B8 jL D.size;have aG:(0:Int)<=(j:Int):=AU
    have aB:(j:Int)<(kids.length:Int):=AU
    have wF:Hid (∀Z:List Nat,max m (Bg c Z)=max (Bg m Z) c):=by
     intro Z;rw[Yw Z c,Yw Z m];omega
    clear O Y ag af g au hn ap Q t s C A;by_cases z:Ai x.net=true
    .have ax:x.net.kind=0:=by rw[W9 z];rfl
     have I:Hid (max (Bg 1 ((kids.map (λk=>Gf k.net (Bq k))).take j)) (Gf x.net c)=max (Bg 1 ((kids.map (λk=>Gf k.net (Bq k))).take j)) c):=by
      show _=_
      have e:Bh x.net=[]:=if_pos z;unfold Gf;rw[e];rfl
     rw[ax] at H P;clear z K aa J xW wF iV
     go_wp2_with (first | (go_at_call 45;refine(H _ AX).mono ?_;rintro e w7 ⟨rfl,L⟩;have kD:Below wr.heap.size wr w7:=Au AX L) | (go_at_call 43;refine(R _ _ _).mono ?_;rintro e l ⟨rfl,rfl⟩))
     refine⟨⟨j+1,max m c,AU,by go_num,rfl,?_,Au D kD⟩,by simp[intOf];omega⟩;rw[X.out,I.out,<-HM.out]
    .have iR:=K.resolve_left z
     have ao:=vm iR;by_cases ac:x.net.kind=2
     .have G:Bh x.net=x.net.kids:=by unfold Bh;rw[if_neg z,if_pos ac]
      have I:Hid (max (Bg 1 ((kids.map (λk=>Gf k.net (Bq k))).take j)) (Gf x.net c)=max (Bg m (x.net.kids.map Cc)) c):=by
       show _=_
       rw[<-HM.out];unfold Gf;rw[G];exact wF _
      have dm:Hid (∀y,y∈x.net.kids->FQ 76 y (Cc y)):=by rw[G] at J;exact J.out
      have aH:x.net.kids.length<=999999:=by
       have e:Stil.BG x.net=Ac x.net:=if_neg z;have h1:=He x.net.kids;have h2:=Cj x.net;omega
      rw[ac] at H P;clear z K aa J xW wF iR ao G;obtain⟨B,az⟩:∃B:World,B=wr:=⟨wr,rfl⟩
      subst az
      go_wp2
      obtain⟨E,T⟩:∃E,E=B.alloc (.cells #[.int .i64 2, .int .i64 x.net.one.op, .slice q0 x.net.one.args.length s0, .slice q1 x.net.kids.length s1] 54):=⟨_,rfl⟩
      rw[<-T];have dR:Below B.heap.size B E:=by rw[T];exact Aa _ _
      have xy:B.heap.size<E.heap.size:=by rw[T];simp
      have v3:E.cell? ⟨B.heap.size,3,none⟩=some (.slice q1 x.net.kids.length s1):=by rw[T];simp[go_sem]
      clear T;go_loopw [3,6] (λd i wr=>∃(u U:Nat),u<=x.net.kids.length/\i=.int .i64 u/\d=.int .i64 U/\U=Bg m ((x.net.kids.map Cc).take u)/\Below E.heap.size E wr) (λ_ i _=>x.net.kids.length - (intOf i).toNat)
      case atStart=>exact⟨0,m,AU,rfl,rfl,rfl,Below.refl _ _⟩
      case round=>
       obtain⟨u,U,hu,rfl,rfl,an,ae⟩:=hrel;have dV:=Ab an;clear an;have r:=Au dR ae;have aJ:=(ae.cell (p:=⟨B.heap.size,3,none⟩) xy).trans v3;by_cases yU:u<x.net.kids.length
       .obtain⟨pa,pc,N,_,Q⟩:=(iV wr r).shape
        simp only[Value.slice.injEq,true_and] at N;obtain⟨rfl,rfl⟩:=N;obtain⟨bb,oo,rfl,y7,ar⟩:=Q u yU;obtain⟨e0,e1,ak,ja,e2,e3,jC,lD⟩:=ar.open;have HY:Hid (∀V,Below wr.heap.size wr V->Calls prog 76 #[.agg #[.int .i64 x.net.kids[u].kind, .int .i64 x.net.kids[u].one.op,ak,ja]] V λe w'=>e=.returned (.int .i64 (Cc x.net.kids[u]))/\Below V.heap.size V w'):=λV h=>dm _ (CG yU) ak ja V (jC.below h) (lD.below h)
        have ah:Hid (Bg m ((x.net.kids.map Cc).take (u+1))=max (Bg m ((x.net.kids.map Cc).take u)) (Cc x.net.kids[u])):=by
         show _=_
         rw[Jt (by rw[CP];exact yU),EU]
        obtain⟨y,q⟩:∃y,y=x.net.kids[u]:=⟨_,rfl⟩
        rw[<-q] at HY ah e0 e1 jC lD;obtain⟨fy,jr⟩:∃fy,fy=Cc y:=⟨_,rfl⟩
        rw[<-jr] at HY ah;obtain⟨g0,f0,rfl,O⟩:=jC.shape;obtain⟨g1,f1,rfl,Y,_⟩:=lD.shape;have aI:(0:Int)<=(u:Int):=AU
        have aC:(u:Int)<(x.net.kids.length:Int):=AU
        clear O Y q jr ar Q jC lD
        go_wp2_with (first | (go_at_call 76;refine(HY _ (by exact Below.refl _ _)).mono ?_;rintro e w6 ⟨rfl,ab⟩) | (go_at_call 43;refine(R _ _ _).mono ?_;rintro e l ⟨rfl,rfl⟩))
        refine⟨⟨u+1,max U fy,AU,by go_num,rfl,?_,Au ae ab⟩,by simp[intOf];omega⟩;rw[ah.out,<-dV.out]
       .obtain rfl:u=x.net.kids.length:=by omega
        have F:=dV.out;rw[EC yCg] at F;have ay:=Ab F;have z5:wr.cell? ⟨w.heap.size,5,none⟩=_:=(r.cell (p:=⟨w.heap.size,5,none⟩) aj).trans wQ;have z0:wr.cell? ⟨b,o+j*6,none⟩=_:=(r.cell (p:=⟨b,o+j*6,none⟩) f).trans P;have z1:wr.cell? ⟨b,o+j*6+1,none⟩=_:=(r.cell (p:=⟨b,o+j*6+1,none⟩) f).trans x1;have z2:wr.cell? ⟨b,o+j*6+2,none⟩=_:=(r.cell (p:=⟨b,o+j*6+2,none⟩) f).trans x2;have z3:wr.cell? ⟨b,o+j*6+3,none⟩=_:=(r.cell (p:=⟨b,o+j*6+3,none⟩) f).trans x3;have z4:wr.cell? ⟨b,o+j*6+4,none⟩=_:=(r.cell (p:=⟨b,o+j*6+4,none⟩) f).trans x4;have z6:wr.cell? ⟨b,o+j*6+5,none⟩=_:=(r.cell (p:=⟨b,o+j*6+5,none⟩) f).trans x5;clear F
        go_wp2_with (first | (go_at_call 45;refine(H _ (by exact r)).mono ?_;rintro e w7 ⟨rfl,L⟩;have kD:=Au r L) | (go_at_call 43;refine(R _ _ _).mono ?_;rintro e l ⟨rfl,rfl⟩))
        refine⟨⟨j+1,max U c,AU,by go_num,rfl,?_,Au D kD⟩,by simp[intOf];omega⟩;rw[X.out,I.out,<-ay.out]
     .have G:Bh x.net=[x.net]:=by unfold Bh;rw[if_neg z,if_neg ac]
      have I:Hid (max (Bg 1 ((kids.map (λk=>Gf k.net (Bq k))).take j)) (Gf x.net c)=max (max m (Cc x.net)) c):=by
       show _=_
       rw[<-HM.out];unfold Gf;rw[G];exact wF _
      have qm:=Ab (λV h=>xW V h (by rw[G];simp));obtain⟨tk,al⟩:∃tk,tk=Cc x.net:=⟨_,rfl⟩
      rw[<-al] at qm I;have yf:(x.net.kind==0)=false:=by rw[CJ];omega
      have aE:(x.net.kind==2)=false:=by rw[CJ];exact ac
      clear z K aa J xW wF iR ao G al iV;go_upto_region 14 with(first | (go_at_call 76;refine(qm _ (by exact Aa _ _)).mono ?_;rintro e w6 ⟨rfl,ab⟩;have v:=Au (Aa _ _) ab) | (go_at_call 43;refine(R _ _ _).mono ?_;rintro e l ⟨rfl,rfl⟩))
      have z5:l.cell? ⟨w.heap.size,5,none⟩=_:=(v.cell (p:=⟨w.heap.size,5,none⟩) aj).trans wQ;have z0:l.cell? ⟨b,o+j*6,none⟩=_:=(v.cell (p:=⟨b,o+j*6,none⟩) f).trans P;have z1:l.cell? ⟨b,o+j*6+1,none⟩=_:=(v.cell (p:=⟨b,o+j*6+1,none⟩) f).trans x1;have z2:l.cell? ⟨b,o+j*6+2,none⟩=_:=(v.cell (p:=⟨b,o+j*6+2,none⟩) f).trans x2;have z3:l.cell? ⟨b,o+j*6+3,none⟩=_:=(v.cell (p:=⟨b,o+j*6+3,none⟩) f).trans x3;have z4:l.cell? ⟨b,o+j*6+4,none⟩=_:=(v.cell (p:=⟨b,o+j*6+4,none⟩) f).trans x4;have z6:l.cell? ⟨b,o+j*6+5,none⟩=_:=(v.cell (p:=⟨b,o+j*6+5,none⟩) f).trans x5;clear ab
      go_wp2_with (first | (go_at_call 45;refine(H _ (by exact v)).mono ?_;rintro e w7 ⟨rfl,L⟩;have kD:=Au (by exact v) L) | (go_at_call 43;refine(R _ _ _).mono ?_;rintro e l ⟨rfl,rfl⟩))
      refine⟨⟨j+1,max m (max tk c),AU,by go_num,rfl,?_,Au D kD⟩,by simp[intOf];omega⟩;rw[X.out,I.out,Nat.max_assoc]
   .obtain rfl:j=kids.length:=by omega
    have F:=HM.out;rw[EC yCg] at F;have dV:=Ab F;clear F;have wQ:=(D.cell (p:=⟨w.heap.size,5,none⟩) jL).trans y5
    go_wp2
    go_ret;exact⟨Fa yEj,Au ai D⟩
def tw (l:List Stil.B5)(s:Value)(w:World)(t:Dc w s l)(hl:l.length<=1048576)(ah:Bc l<=1000000000)(G:∀x∈l,Ba x):
  Calls prog 18 #[s] w λe f=>e=.returned (.int .i64 (Hq l))/\Below w.heap.size w f:=by
 have Z:Hid (∀W,Below w.heap.size w W->Calls prog 9 #[s] W λe f=>(∃a c,e=.returned (.slice a (Af l).length c)/\Tu f (.slice a (Af l).length c) (Af l))/\Below W.heap.size W f):=λW h=>U9 l s W (t.below h) hl ah G
 obtain⟨fU,K,kG⟩:=Jb G;have E:=Ti l;have Q:Hid (Hq l=Bg 0 ((Af l).map Ig)):=rfl;obtain⟨L,hL⟩:∃L,L=Af l:=⟨_,rfl⟩
 rw[<-hL] at Z fU K kG Q E;have I:∀x∈L,Ah x<=400:=λx g=>CB (Rk g) K
 have IK:Hid (∀x∈L,E3 45 x (Bq x)):=λx g=>pO x (by have:=I x g;omega) (E x g).1
 have IB:Hid (∀x∈L,FQ 44 x.net (Az x.net)):=by
  intro x g;have h1:=I x g;obtain⟨h2,J⟩:=E x g;obtain⟨O,xc,xk⟩:=x;rw[Dp] at h1;simp only at J ⊢;have e:Stil.BG O=Ac O:=if_neg (by rw[J];exact Ek);exact VE O (((D8 _ _ _).1 h2).1.resolve_left (by rw[J];exact Ek)).2.2 AU
 have HG:Hid (∀(p q:Nat) (V:World),Calls prog 43 #[.int .i64 p, .int .i64 q] V λe f=>e=.returned (.int .i64 (max p q:Nat))/\f=V):=Ub;rw[Q.out];obtain⟨p0,r0,rfl,hz⟩:=t;clear hz G fU K Q hL E I;go_enter func18,ntmps18
 go_wp2_with (go_at_call 9;refine(Z _ AX).mono ?_;rintro e U ⟨⟨a,c,rfl,aa⟩,ag⟩;have ai:Hid (Tu U (.slice a L.length c) L):=aa;clear aa)
 go_loopw [4,5] (λd i wr=>∃(j m:Nat),j<=L.length/\i=.int .i64 j/\d=.int .i64 m/\m=Bg 0 ((L.map Ig).take j)/\Below U.heap.size U wr) (λ_ i _=>L.length - (intOf i).toNat)
 case atStart=>exact⟨0,0,AU,rfl,rfl,rfl,Below.refl _ _⟩
 case round=>
  obtain⟨j,m,hj,rfl,rfl,hm,N⟩:=hrel;have HM:Hid (m=Bg 0 ((L.map Ig).take j)):=hm;clear hm;by_cases hlt:j<L.length
  .obtain⟨pa,pc,X,_,ab⟩:=(ai.below N).shape
   simp only[Value.slice.injEq,true_and] at X;obtain⟨rfl,rfl⟩:=X;obtain⟨b,o,rfl,au,hn⟩:=ab j hlt;obtain⟨ac,cv,s,x4,x5,A,t⟩:=hn.open;obtain⟨H,R,D,z,x2,x3,u,y⟩:=ac.open;have T:Hid (∀V,Below wr.heap.size wr V->Calls prog 45 #[.agg #[.int .i64 L[j].net.kind, .int .i64 L[j].net.one.op,D,z,cv,s]] V λe f=>e=.returned (.int .i64 (Bq L[j]))/\Below V.heap.size V f):=λV h=>IK L[j] (CG hlt) D z cv s V (u.below h) (y.below h) (A.below h) (t.below h)
   have M:Hid (∀V,Below wr.heap.size wr V->Calls prog 44 #[.agg #[.int .i64 L[j].net.kind, .int .i64 L[j].net.one.op,D,z]] V λe f=>e=.returned (.int .i64 (Az L[j].net))/\Below V.heap.size V f):=λV h=>IB L[j] (CG hlt) D z V (u.below h) (y.below h)
   have v:Hid (Bg 0 ((L.map Ig).take (j+1))=max (Bg 0 ((L.map Ig).take j)) (max (Az L[j].net) (Bq L[j]))):=by
    show _=_
    rw[Jt yDa,EU];rfl
   obtain⟨x,g⟩:∃x,x=L[j]:=⟨_,rfl⟩
   rw[<-g] at T M v H R u y A t;obtain⟨r,ae⟩:∃r,r=Bq x:=⟨_,rfl⟩
   obtain⟨k,ad⟩:∃k,k=Az x.net:=⟨_,rfl⟩
   rw[<-ae] at T v;rw[<-ad] at M v;obtain⟨q0,s0,rfl,af⟩:=u.shape;obtain⟨q1,s1,rfl,ao,_⟩:=y.shape;obtain⟨q2,s2,rfl,ak⟩:=A.shape;obtain⟨q3,s3,rfl,aj,_⟩:=t.shape;have aw:(0:Int)<=(j:Int):=AU
   have ar:(j:Int)<(L.length:Int):=AU
   clear af ao ak aj g ae ad hn ac ab u y A t;go_upto_region 6 with fail
   have k0:=cell_regrown H;have k1:=cell_regrown R;have k2:=cell_regrown x2;have k3:=cell_regrown x3;have k4:=cell_regrown x4;have k5:=cell_regrown x5;have qx:Hid (∀V,Calls prog 43 #[.int .i64 k, .int .i64 r] V λe f=>e=.returned (.int .i64 (max k r:Nat))/\Below V.heap.size V f):=λV=>Tz (HG k r V)
   have F:Hid (∀V,Calls prog 43 #[.int .i64 m, .int .i64 (max k r:Nat)] V λe f=>e=.returned (.int .i64 (max m (max k r):Nat))/\Below V.heap.size V f):=λV=>Tz (HG m _ V)
   obtain⟨C,Y⟩:∃C,C=max k r:=⟨_,rfl⟩
   rw[<-Y] at qx F v;obtain⟨B,S⟩:∃B,B=max m C:=⟨_,rfl⟩
   rw[<-S] at F;have an:Hid (B=max m C):=S;clear H R x2 x3 x4 x5 Y S;refine wp_region_quiet_below AY AY ?_;repeat (go_big_quiet_step ((first | exact Calls.regrown_of (M _ (H9 (Below.refl _ _) _ _)) | exact Calls.regrown_of (T _ (H9 (Below.refl _ _) _ _)) | exact Calls.regrown_of (qx _) | exact Calls.regrown_of (F _))))
   refine wpQuiet_nil ?_;intro _ al;obtain⟨⟨dq,osq⟩,ap⟩:=al;subst ap
   go_wp2
   refine⟨⟨j+1,B,AU,by go_num,rfl,?_,H9 N _ _⟩,by simp[intOf];omega⟩;rw[v.out,<-HM.out,an.out]
  .obtain rfl:j=L.length:=by omega
   have P:=HM.out;rw[EC yCg] at P;have dV:Hid (m=Bg 0 (L.map Ig)):=P;clear P
   go_wp2
   go_ret;exact⟨Fa yEj,Au ag N⟩
