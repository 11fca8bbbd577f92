import Derived.Test.YtfeablpbkcgdjaaGreatDoorW14a
set_option linter.defProp false
set_option maxHeartbeats 4000000
set_option maxRecDepth 100000
namespace Go.Proofs.YtfeablpbkcgdjaaGreatDoor
open Tryz Go.RowKit Go.Sort Go.BigFrame
section
open Stil
def JW (x:Stil.Elem)(w:World)(bs:List Nat)(ts:List (List Tr × List Value))(e:Ending)(w':World):Prop:=∃a n,e=.returned (.agg #[.int .i64 x.op, .slice a x.args.length n])/\Sv w' bs (([sl (Hw x.args)],[.slice a x.args.length n])::ts)/\Below w.heap.size w w'
theorem OS (e:Stil.Elem)(D:e.args.length<=1048576)(t:Value)(w:World)(bs:List Nat)(ts:List (List Tr × List Value))(h:Sv w bs ts)(u:Ak w t e.args):Calls prog 77 #[.agg #[.int .i64 e.op,t]] w (JW e w bs ts):=by
 have F:=Ci (λW (h:Below w.heap.size w W)=>u.below h);obtain⟨i,g,rfl,-⟩:=u;go_enter func77,ntmps77;go_upto_region 1 with fail
 obtain⟨W,c⟩:∃W,W=(w.alloc (.cells #[.int .i64 e.op, .slice i e.args.length g] 51)).alloc (.cells #[.int .i64 0, .slice none 0 0] 51):=⟨_,rfl⟩
 rw[<-c];have d:EA W w.heap.size (.int .i64 e.op) (.slice i e.args.length g):=by rw[c];exact qN2
 have f:EA W (w.heap.size+1) (.int .i64 0) (.slice none 0 0):=by rw[c];exact qN2
 have hS:Sv W ((w.heap.size+1)::bs) ts:=by rw[c];simpa using(h.alloc _).box _
 have j:Below w.heap.size w W:=by rw[c];exact Ce (Aa _ _) _
 clear c h;obtain⟨C,O,E,q1,J⟩:=id d;obtain⟨x,q,Q,m,A⟩:=id f
 go_region_held3 (λy=>(y.cell? ⟨w.heap.size,0,none⟩=some (.int .i64 e.op)/\y.cell? ⟨w.heap.size,1,none⟩=some (.slice i e.args.length g))) (first | with_reducible assumption | (refine⟨?_,?_⟩<;>exact BN)) (go_loud (refine I9 rfl rfl (Sv.copyDevs (N:=W.heap.size) (B:=W.heap.size) _ (hS.box (.cells #[] 92)).drew (F.out _ (by exact(Ce j _).drew)) (by exact(World.ownsRow_lit W #[] 0 (B7 _) BI rfl).drew) (λb z=>hS.1 b z) (by simp) (CB D (by decide))) rfl rfl ?_;rintro S r ⟨P,K,rfl,H,I⟩;have l:Below W.heap.size W r:=(Aa W _).drew.grown I (by simp) (λk G=>by cases G;exact B7 _);replace d:=d.bel l;replace f:=f.bel l;obtain⟨C,O,E,q1,J⟩:=id d;obtain⟨x,q,Q,m,A⟩:=id f))
 all_goals
  try go_wp2
  refine bodyPost_ret (v:=.agg #[.int .i64 e.op, .slice P e.args.length K]) (by simp[results,results77,go_sem,q,m]) rfl ?_;exact⟨_,_,rfl,((H.set (.head _)).set (.head _)).sub (λ_ h=>.tail _ h) (λ_ h=>h),by have R:Below w.heap.size w r:=j.trans (l.mono j.size);exact AX⟩
theorem kg {x:Stil.Elem}{i:Int}{w W:World}{bs:List Nat}{ts:List (List Tr × List Value)}{a:Option Addr}{c:Nat}(h:Sv W bs (([sl (Hw x.args)],[.slice a x.args.length c])::ts))(b:Below w.heap.size w W):FI Wj 3 66 [⟨i,x⟩] w bs ts (.returned (.slice (some ⟨W.heap.size,0,none⟩) 1 1)) (W.alloc (.cells #[.int .i64 i, .int .i64 x.op, .slice a x.args.length c] 66)):=
 ⟨_,1,[.int .i64 i, .int .i64 x.op, .slice a x.args.length c],rfl,World.ownsRow_lit W _ 1 b.size BI rfl,((h.mkI (i:=i) (op:=x.op) (ds:=x.args) (.head _)).box _).sub (λ_ h=>h) (List.forall_mem_cons.2 ⟨.head _,λ_ h=>.tail _ (.tail _ h)⟩),Ce b _⟩
section
variable {w:World}{bs:List Nat}{ts:List (List Tr × List Value)}{B B2:Nat}{L M:List Stil.Dj}{xs ys:List Value}{v v2:Value}
def MR (w:World)(bs:List Nat)(ts:List (List Tr × List Value))(B:Nat)(v:Value)(K:List Stil.Dj)(c:Value)(w':World):Prop:=∃a n b,c=.slice a K.length n/\w'.ownsRow B 66 3 (.slice a K.length n) K.length b/\Sv w' (ob (.slice a K.length n)++bs) ((Qx K,b)::ts)/\w.grownBy w' v.ownBlock
theorem XH {x:Stil.Elem}{i:Int}{a:Option Addr}{c:Nat}(d:TypeId)(h:Sv w (ob v++bs) (([sl (Hw x.args)],[.slice a x.args.length c])::(Qx L,xs)::ts))(q:w.ownsRow B 66 3 v L.length xs)(p:B<=w.heap.size)(e:L.length<=1900000):
  ∃b w',(Builtin.append_ #[25,25] d #[v, .slice (some ⟨w.heap.size,0,none⟩) 1 1]).run prog (w.alloc (.cells #[.int .i64 i, .int .i64 x.op, .slice a x.args.length c] 66))=.ok b w'/\MR w bs ts B v (L++[⟨i,x⟩]) b w':=by
 obtain⟨b,w',k,n,l,m,g,j,o,-⟩:=Sv.pushM (f:=Wj) (x:=⟨i,x⟩) (c:=[.int .i64 i, .int .i64 x.op, .slice a x.args.length c]) d kdI (h.mkI (i:=i) (op:=x.op) (ds:=x.args) (.head _)) (.tail _ (.tail _ (.head _))) (.head _) (λ_=>rfl) q p e;exact⟨b,w',k,n,l,_,m,g,j.sub (λ_ h=>h) (List.forall_mem_cons.2 ⟨.head _,λ_ h=>.tail _ (.tail _ (.tail _ (.tail _ h)))⟩),o⟩
def K5 {i:Int}(b:TypeId)(h:Sv w (ob v++bs) ((Qx L,xs)::ts))(e:w.ownsRow B 66 3 v L.length xs)(d:B<=w.heap.size)(c:L.length<=1900000):
  ∃a w',(Builtin.append_ #[25,25] b #[v, .slice (some ⟨w.heap.size,0,none⟩) 1 1]).run prog (w.alloc (.cells #[.int .i64 i, .int .i64 0, .slice none 0 0] 66))=.ok a w'/\MR w bs ts B v (L++[Hg i]) a w':=
 XH (x:=⟨0,[]⟩) b h.snil e d c
theorem Ut (c:TypeId)(h:Sv w (ob v2++(ob v++bs)) ((Qx M,ys)::(Qx L,xs)::ts))(q:w.ownsRow B 66 3 v L.length xs)(g:w.ownsRow B2 66 3 v2 M.length ys)(p:B<=w.heap.size)(e:L.length+M.length<=2000000):
  ∃a w',(Builtin.append_ #[25,25] c #[v,v2]).run prog w=.ok a w'/\MR w bs ts B v (L++M) a w':=by
 obtain⟨a,w',k,n,l,m,i,j,o,-⟩:=Sv.appM (f:=Wj) (L:=L) (M:=M) (bs:=bs) c kdI (h.sub (λb d=>DZ _ d) (λ_ h=>h)) (.tail _ (.head _)) (.head _) (λ_=>rfl) (XJ (by rw[CP];exact g)) q p e;exact⟨a,w',k,n,l,_,m,i,j.sub (λ_ h=>h) (List.forall_mem_cons.2 ⟨.head _,λ_ h=>.tail _ (.tail _ (.tail _ h))⟩),o⟩
end
variable {bs:List Nat}
theorem Sv.copyDevs0 {w:World}{ts:List (List Tr × List Value)}{u:Value}{ds:List Stil.B9}(e:TypeId)(h:Sv w bs ts)(hd:Ak w u ds)(hl:ds.length<=1900000):
  ∃b w',(Builtin.append_ #[49,49] e #[.slice none 0 0,u]).run prog w=.ok b w'/\∃a n,b=.slice a ds.length n/\Sv w' bs (([sl (Hw ds)],[.slice a ds.length n])::ts)/\w.grownBy w' none:=by
 obtain⟨j,i⟩:=h.srcDevs hd;obtain⟨b,w',k,a,n,g,c,d,l,-⟩:=Sv.appM (B:=w.heap.size) (f:=MK) (L:=[]) (v:=.slice none 0 0) (bs:=bs) e kd3 i.nil (.head _) (.tail _ (.head _)) (λ_=>rfl) j (World.ownsRow_nil _ _ _ _) (B7 _) Ax;rw[C3] at g c d;exact⟨b,w',k,a,n,g,(d.ice (.head _) (by rw[CP];exact c) h.1).sub (λ_ h=>h) BB,l⟩
theorem Jc (e:Stil.Elem)(A:e.args.length<=1048576)(r:Value)(w:World)(bs:List Nat)(ts:List (List Tr × List Value))(h:Sv w bs ts)(t:Ak w r e.args):Calls prog 104 #[.agg #[.int .i64 e.op,r]] w (JW e w bs ts):=by
 have D:=Ci (λW (h:Below w.heap.size w W)=>t.below h);obtain⟨i,g,rfl,-⟩:=t;go_enter func104,ntmps104;go_upto_region 1 with fail
 obtain⟨W,c⟩:∃W,W=(w.alloc (.cells #[.int .i64 e.op, .slice i e.args.length g] 51)).alloc (.cells #[.int .i64 0, .slice none 0 0] 51):=⟨_,rfl⟩
 rw[<-c];have d:EA W w.heap.size (.int .i64 e.op) (.slice i e.args.length g):=by rw[c];exact qN2
 have f:EA W (w.heap.size+1) (.int .i64 0) (.slice none 0 0):=by rw[c];exact qN2
 have hS:Sv W ((w.heap.size+1)::bs) ts:=by rw[c];simpa using(h.alloc _).box _
 have j:Below w.heap.size w W:=by rw[c];exact Ce (Aa _ _) _
 clear c h;obtain⟨z,J,C,q1,H⟩:=id d;obtain⟨u,p,N,m,y⟩:=id f
 go_region_held3 (λx=>(x.cell? ⟨w.heap.size,0,none⟩=some (.int .i64 e.op)/\x.cell? ⟨w.heap.size,1,none⟩=some (.slice i e.args.length g))) (first | with_reducible assumption | (refine⟨?_,?_⟩<;>exact BN)) (go_loud (refine I9 rfl rfl (Sv.copyDevs0 _ hS.drew (D.out _ (by exact j.drew)) (CB A (by decide))) rfl rfl ?_;rintro P q ⟨K,I,rfl,F,G⟩;have l:Below W.heap.size W q:=(Below.refl W.heap.size W).drew.grown G (B7 _) (λk E=>by cases E);replace d:=d.bel l;replace f:=f.bel l;obtain⟨z,J,C,q1,H⟩:=id d;obtain⟨u,p,N,m,y⟩:=id f))
 all_goals
  try go_wp2
  refine bodyPost_ret (v:=.agg #[.int .i64 e.op, .slice K e.args.length I]) (by simp[results,results104,go_sem,p,m]) rfl ?_;exact⟨_,_,rfl,((F.set (.head _)).set (.head _)).sub (λ_ h=>.tail _ h) (λ_ h=>h),by have O:Below w.heap.size w q:=j.trans (l.mono j.size);exact AX⟩
def LG {α:Type}(f:α->Tr)(k e B:Nat)(v:Value)(K:List α)(w:World)(bs:List Nat)(ts:List (List Tr × List Value))(r:Ending)(w':World):Prop:=∃a n b,r=.returned (.slice a K.length n)/\w'.ownsRow B e k (.slice a K.length n) K.length b/\Sv w' (ob (.slice a K.length n)++bs) ((K.map f,b)::ts)/\w.grownBy w' v.ownBlock
def KG {a b c:World}{r:Option Nat}(h:Below a.heap.size a b)(k:b.grownBy c r):a.grownBy c r:=Oq (grown_below h r) k
theorem Sv.at {α:Type}{f:α->Tr}{k:Nat}{L:List α}{w:World}{ts:List (List Tr × List Value)}{a:Option Addr}{n:Nat}(h:Sv w bs ts)(h1:([sl (L.map f)],[.slice a L.length n])∈ts)(p:∀x,(f x).sz=k){i:Nat}(hi:i<L.length):∃b o c,a=some ⟨b,o,none⟩/\b<w.heap.size/\Sv w bs (([f L[i]],c)::ts)/\EL w b (o+i*k) c:=by
 obtain⟨t,r,e,_,d⟩:=(I4.1 (h.2 _ h1)).read (A:=λb o x=>∃c,TrC (λb=>b∉bs) w (f x) c/\EL w b o c) p λx _ b o c d m=>⟨c,d,m⟩
 cases e;obtain⟨b,o,q,_,g,c,j,l⟩:=d i hi;exact⟨b,o,c,q,g,⟨h.1,List.forall_mem_cons.2 ⟨X7.one.2 j,h.2⟩⟩,l⟩
end
theorem j6 (x y:Stil.Elem)(hx:∀(a:Value) (w:World) (bs:List Nat) (ts:List (List Tr × List Value)),Sv w bs ts->Ak w a x.args->Calls prog 104 #[.agg #[.int .i64 x.op,a]] w (JW y w bs ts))(B g:Nat)(L:List Stil.Elem)(xs:List Value)(d:Option Addr)(b:Nat)(a:Value)(w:World)(bs:List Nat)(ts:List (List Tr × List Value))(h:Sv w (ob (.slice d L.length b)++bs) ((L.map Qe,xs)::ts))(j:w.ownsRow g 51 2 (.slice d L.length b) L.length xs)(l:g<=w.heap.size)(k:Ak w a x.args)(K:w.cell? ⟨B,0,none⟩=some (.func (.func 104) #[] #[]))(I:B<w.heap.size)(hl:L.length<=1900000):
  Calls prog 135 #[.slice d L.length b, .agg #[.int .i64 x.op,a], .pointer (some ⟨B,0,none⟩)] w (LG Qe 2 51 g (.slice d L.length b) (L++[y]) w bs ts):=by
 have u:=Ci (λW (h:Below w.heap.size w W) A us o=>hx a W A us o (k.below h));clear hx;obtain⟨C,r,rfl,-⟩:=k;replace hS:=h.alloc (.cells #[.int .i64 x.op, .slice C x.args.length r] 51);clear h;go_enter func135,ntmps135
 go_wp2_with (first | (go_at_call 104;refine(u _ AX _ _ hS).mono ?_;rintro e D ⟨z,t,rfl,hS,N⟩;have i:Below w.heap.size w D:=AX;replace j:=ownsRow_below j i;replace hS:=hS.mkE (op:=y.op) (ds:=y.args) (.head _)) | (at_builtin;refine Bd rfl rfl (Sv.pushM (f:=Qe) (x:=y) (c:=[.int .i64 y.op, .slice z y.args.length t]) _ kd2 hS (.tail _ (.tail _ (.head _))) (.head _) (λ_=>rfl) j (CB l i.size) hl) rfl rfl ?_;rintro J H ⟨F,m,rfl,E,q,G,-⟩))
 go_ret;exact⟨F,m,_,AW,E,q.sub (λ_ h=>h) (List.forall_mem_cons.2 ⟨.head _,λ_ h=>(.tail _ (.tail _ (.tail _ (.tail _ h))))⟩),KG i G⟩
def zE {p:Prop}(h:p:=by
 obtain rfl:j=l.length:=by omega
 have hL:=HL.out;rw[IY] at hL;subst hL;clear HL
 go_wp2
 go_ret;exact⟨ra,rc,xs,rfl,hown,hS,hb⟩):p:=h
def zla {p:Prop}(h:p:=by
 exact⟨⟨j+1,L++[y],a2,c2,zs,AU,by go_num,AW,aF.symm,hl2,hown2,hS2,((show Below w.heap.size w _ from AX).grown hg2 yCj (λk hk=>(hown.lt k hk).1))⟩,by simp[intOf];omega⟩):p:=h
theorem mS (l:List Stil.Elem)(g:Stil.Elem->Stil.Elem)(H:∀x∈l,∀(c:Value) (w:World) (bs:List Nat) (ts:List (List Tr × List Value)),Sv w bs ts->Ak w c x.args->Calls prog 104 #[.agg #[.int .i64 x.op,c]] w (JW (g x) w bs ts))(B:Nat)(v:Value)(w:World)(bs:List Nat)(ts:List (List Tr × List Value))(h:Sv w bs ts)(O:F6 w v l)(hl:l.length<=999999)(A:w.cell? ⟨B,0,none⟩=some (.func (.func 104) #[] #[]))(z:B<w.heap.size):
  Calls prog 134 #[v, .slice none 0 0, .func (.func 135) #[] #[.pointer (some ⟨B,0,none⟩)]] w (FI Qe 2 51 (l.map g) w bs ts):=by
 obtain⟨a,cap,rfl,C⟩:=O;have G:=Ci C;have J:=Ci H;have E:=Ci A;clear C H A;go_enter func134,ntmps134
 go_wp2
 go_loopw [1,11] (λd i wr=>∃(j:Nat) (L:List Stil.Elem) (ra:Option Addr) (rc:Nat) (xs:List Value),j<=l.length/\i=.int .i64 j/\d=.slice ra L.length rc/\Hid (L=(l.take j).map g)/\L.length<=999999/\wr.ownsRow w.heap.size 51 2 (.slice ra L.length rc) L.length xs/\Sv wr (ob (.slice ra L.length rc)++bs) ((L.map Qe,xs)::ts)/\Below w.heap.size w wr) (λ_ i _=>l.length - (intOf i).toNat)
 case atStart=>exact⟨0,[],none,0,[],AU,rfl,rfl,rfl,AW,World.ownsRow_nil _ _ _ _,h.nil,Below.refl _ _⟩
 case round=>
  clear h;obtain⟨j,L,ra,rc,xs,T,rfl,rfl,HL,Q,hown,hS,hb⟩:=hrel;by_cases q:j<l.length
  .obtain⟨b,o,rfl,u,r⟩:=G j q
   obtain⟨N,c,S,m⟩:=r.below hb u;have aF:Hid ((l.take (j+1)).map g=L++[g l[j]]):=by show _=_;rw[HL.out,DO q,CX];rfl
   have hl2:(L++[g l[j]]).length<=999999:=by rw[<-aF.out,CP,Fo];omega
   have f:=J l[j] (CG q);obtain⟨y,t⟩:∃y,y=g l[j]:=⟨_,rfl⟩
   rw[<-t] at aF hl2 f;obtain⟨x,D⟩:∃x,x=l[j]:=⟨_,rfl⟩
   rw[<-D] at N m f;have I:=Ci (λW bs ts (h:Below wr.heap.size wr W) (hS:Sv W (ob (.slice ra L.length rc)++bs) ((L.map Qe,xs)::ts))=>j6 x y f B w.heap.size L xs ra rc c W bs ts hS (ownsRow_below hown h) (CB hb.size h.size) (m.below h) (((Au hb h).cell (p:=⟨B,0,none⟩) z).trans E.out) (B8 z (CB hb.size h.size)) AU);have P:b<wr.heap.size:=B8 u hb.size;clear f t D r HL;obtain⟨K,F,rfl,-⟩:=m;replace hS:=hS.alloc (.cells #[.int .i64 x.op, .slice K x.args.length F] 51)
   go_wp2_with (go_at_call 135;refine(I _ _ _ AX hS).mono ?_;rintro e R ⟨a2,c2,zs,rfl,hown2,hS2,hg2⟩)
   exact zla
  .exact zE
theorem j4 (l:List Stil.Elem)(g:Stil.Elem->Stil.Elem)(H:∀x∈l,∀(a:Value) (w:World) (bs:List Nat) (ts:List (List Tr × List Value)),Sv w bs ts->Ak w a x.args->Calls prog 104 #[.agg #[.int .i64 x.op,a]] w (JW (g x) w bs ts))(v:Value)(w:World)(bs:List Nat)(ts:List (List Tr × List Value))(h:Sv w bs ts)(b:F6 w v l)(hl:l.length<=999999):
  Calls prog 103 #[v, .func (.func 104) #[] #[]] w (FI Qe 2 51 (l.map g) w bs ts):=by
 have m:=Ci (λW B j us c (h:Below w.heap.size w W) o i=>mS l g H B v W j us c (b.below h) hl o i);obtain⟨t,q,rfl,-⟩:=b;replace hS:=h.alloc (.cells #[.func (.func 104) #[] #[]] 115);clear H h;go_enter func103,ntmps103
 go_wp2_with (go_at_call 134;refine(m _ _ _ _ hS AX (by simp[go_sem]) AW).mono ?_;rintro e u ⟨f,d,xs,rfl,k,hS,r⟩)
 go_ret;exact⟨f,d,xs,AW,Joins.ownsRow_le k AW,hS,AX⟩
def zCa {p:Prop}(h:p:=by
 go_ret;exact⟨a6,c6,_,AW,hown6,hS6.sub (λ_ h=>h) (List.forall_mem_cons.2 ⟨.head _,λ_ h=>(.tail _ (.tail _ (.tail _ h)))⟩),KG hbw aC⟩):p:=h
theorem mT (x y:Stil.B1)(hx:G4 106 x y)(B d:Nat)(L:List Stil.B1)(xs:List Value)(b:Option Addr)(a:Nat)(i g:Value)(w:World)(bs:List Nat)(ts:List (List Tr × List Value))(h:Sv w (ob (.slice b L.length a)++bs) ((L.map Ic,xs)::ts))(j:w.ownsRow d 54 4 (.slice b L.length a) L.length xs)(m:d<=w.heap.size)(k:Ak w i x.one.args)(l:Eo w g x.kids)(K:w.cell? ⟨B,0,none⟩=some (.func (.func 106) #[] #[]))(I:B<w.heap.size)(hl:L.length<=1900000):
  Calls prog 162 #[.slice b L.length a, .agg #[.int .i64 x.kind, .int .i64 x.one.op,i,g], .pointer (some ⟨B,0,none⟩)] w (LG Ic 4 54 d (.slice b L.length a) (L++[y]) w bs ts):=by
 have u:=Ci (λW (h:Below w.heap.size w W) C us o=>hx i g W C us o (k.below h) (l.below h));clear hx;obtain⟨D,r,rfl,-⟩:=k;obtain⟨z,q,rfl,-⟩:=l;replace hS:=h.alloc (.cells #[.int .i64 x.kind, .int .i64 x.one.op, .slice D x.one.args.length r, .slice z x.kids.length q] 54);clear h;go_enter func162,ntmps162
 go_wp2_with (first | (go_at_call 106;refine(u _ AX _ _ hS).mono ?_;rintro e E ⟨A,t,F,G,rfl,hS,N⟩;have hbw:Below w.heap.size w E:=AX;replace j:=ownsRow_below j hbw) | (at_builtin;refine Bd rfl rfl (Sv.pushM (f:=Ic) (x:=y) (c:=[.int .i64 y.kind, .int .i64 y.one.op, .slice A y.one.args.length t, .slice F y.kids.length G]) _ kd4 hS (.tail _ (.head _)) (.head _) Wl j (CB m hbw.size) hl) rfl rfl ?_;rintro J H ⟨a6,c6,rfl,hown6,hS6,aC,-⟩))
 exact zCa
theorem sP (l:List Stil.B1)(g:Stil.B1->Stil.B1)(H:∀x∈l,G4 106 x (g x))(B:Nat)(v:Value)(w:World)(bs:List Nat)(ts:List (List Tr × List Value))(h:Sv w bs ts)(T:Eo w v l)(hl:l.length<=999999)(A:w.cell? ⟨B,0,none⟩=some (.func (.func 106) #[] #[]))(z:B<w.heap.size):
  Calls prog 161 #[v, .slice none 0 0, .func (.func 162) #[] #[.pointer (some ⟨B,0,none⟩)]] w (FI Ic 4 54 (l.map g) w bs ts):=by
 obtain⟨a,cap,rfl,C⟩:=T;have K:=Ci C;have O:=Ci H;have I:=Ci A;clear C H A;go_enter func161,ntmps161
 go_wp2
 go_loopw [1,11] (λd i wr=>∃(j:Nat) (L:List Stil.B1) (ra:Option Addr) (rc:Nat) (xs:List Value),j<=l.length/\i=.int .i64 j/\d=.slice ra L.length rc/\Hid (L=(l.take j).map g)/\L.length<=999999/\wr.ownsRow w.heap.size 54 4 (.slice ra L.length rc) L.length xs/\Sv wr (ob (.slice ra L.length rc)++bs) ((L.map Ic,xs)::ts)/\Below w.heap.size w wr) (λ_ i _=>l.length - (intOf i).toNat)
 case atStart=>exact⟨0,[],none,0,[],AU,rfl,rfl,rfl,AW,World.ownsRow_nil _ _ _ _,h.nil,Below.refl _ _⟩
 case round=>
  clear h;obtain⟨j,L,ra,rc,xs,hj,rfl,rfl,HL,V,hown,hS,hb⟩:=hrel;by_cases m:j<l.length
  .obtain⟨b,o,rfl,u,r⟩:=K j m
   obtain⟨R,S,G,E,Z,Y,f,q⟩:=(N9.below hb _ _ _ r u).open;have aF:Hid ((l.take (j+1)).map g=L++[g l[j]]):=by show _=_;rw[HL.out,DO m,CX];rfl
   have hl2:(L++[g l[j]]).length<=999999:=by rw[<-aF.out,CP,Fo];omega
   have c:=O l[j] (CG m);obtain⟨y,t⟩:∃y,y=g l[j]:=⟨_,rfl⟩
   rw[<-t] at aF hl2 c;obtain⟨x,D⟩:∃x,x=l[j]:=⟨_,rfl⟩
   rw[<-D] at R S f q c;have N:=Ci (λW bs ts (h:Below wr.heap.size wr W) (hS:Sv W (ob (.slice ra L.length rc)++bs) ((L.map Ic,xs)::ts))=>mT x y c B w.heap.size L xs ra rc G E W bs ts hS (ownsRow_below hown h) (CB hb.size h.size) (f.below h) (q.below h) (((Au hb h).cell (p:=⟨B,0,none⟩) z).trans I.out) (B8 z (CB hb.size h.size)) AU);have U:b<wr.heap.size:=B8 u hb.size;clear c t D r HL;obtain⟨Q,J,rfl,-⟩:=f;obtain⟨P,F,rfl,-⟩:=q;replace hS:=hS.alloc (.cells #[.int .i64 x.kind, .int .i64 x.one.op, .slice Q x.one.args.length J, .slice P x.kids.length F] 54)
   go_wp2_with (go_at_call 162;refine(N _ _ _ AX hS).mono ?_;rintro e X ⟨a2,c2,zs,rfl,hown2,hS2,hg2⟩)
   exact zla
  .exact zE
theorem nJ (l:List Stil.B1)(g:Stil.B1->Stil.B1)(H:∀x∈l,G4 106 x (g x))(v:Value)(w:World)(bs:List Nat)(ts:List (List Tr × List Value))(h:Sv w bs ts)(a:Eo w v l)(hl:l.length<=999999):
  Calls prog 137 #[v, .func (.func 106) #[] #[]] w (FI Ic 4 54 (l.map g) w bs ts):=by
 have k:=Ci (λW B i us b (h:Below w.heap.size w W) m f=>sP l g H B v W i us b (a.below h) hl m f);obtain⟨r,o,rfl,-⟩:=a;replace hS:=h.alloc (.cells #[.func (.func 106) #[] #[]] 95);clear H h;go_enter func137,ntmps137
 go_wp2_with (go_at_call 161;refine(k _ _ _ _ hS AX (by simp[go_sem]) AW).mono ?_;rintro e t ⟨d,c,xs,rfl,j,hS,q⟩)
 go_ret;exact⟨d,c,xs,AW,Joins.ownsRow_le j AW,hS,AX⟩
theorem mU (x y:Stil.B5)(hx:K1 68 x y)(B g:Nat)(L:List Stil.B5)(xs:List Value)(b:Option Addr)(a:Nat)(j d k i:Value)(w:World)(bs:List Nat)(ts:List (List Tr × List Value))(h:Sv w (ob (.slice b L.length a)++bs) ((L.map J7,xs)::ts))(l:w.ownsRow g 60 6 (.slice b L.length a) L.length xs)(t:g<=w.heap.size)(o:Ak w j x.net.one.args)(m:Eo w d x.net.kids)(q:F6 w k x.coils)(r:Dc w i x.kids)(Z:w.cell? ⟨B,0,none⟩=some (.func (.func 68) #[] #[]))(X:B<w.heap.size)(hl:L.length<=1900000):
  Calls prog 102 #[.slice b L.length a, .agg #[.int .i64 x.net.kind, .int .i64 x.net.one.op,j,d,k,i], .pointer (some ⟨B,0,none⟩)] w (LG J7 6 60 g (.slice b L.length a) (L++[y]) w bs ts):=by
 have H:=Ci (λW (h:Below w.heap.size w W) K us z=>hx j d k i W K us z (o.below h) (m.below h) (q.below h) (r.below h));clear hx;obtain⟨N,E,rfl,-⟩:=o;obtain⟨I,C,rfl,-⟩:=m;obtain⟨F,Q,rfl,-⟩:=q;obtain⟨A,D,rfl,-⟩:=r;replace hS:=h.alloc (.cells #[.int .i64 x.net.kind, .int .i64 x.net.one.op, .slice N x.net.one.args.length E, .slice I x.net.kids.length C, .slice F x.coils.length Q, .slice A x.kids.length D] 60);clear h;go_enter func102,ntmps102
 go_wp2_with (first | (go_at_call 68;refine(H _ AX _ _ hS).mono ?_;rintro e O ⟨J,G,P,R,u,S,U,T,rfl,hS,aa⟩;have hbw:Below w.heap.size w O:=AX;replace l:=ownsRow_below l hbw) | (at_builtin;refine Bd rfl rfl (Sv.pushM (f:=J7) (x:=y) (c:=[.int .i64 y.net.kind, .int .i64 y.net.one.op, .slice J y.net.one.args.length G, .slice P y.net.kids.length R, .slice u y.coils.length S, .slice U y.kids.length T]) _ kd6 hS (.tail _ (.head _)) (.head _) Ya l (CB t hbw.size) hl) rfl rfl ?_;rintro Y V ⟨a6,c6,rfl,hown6,hS6,aC,-⟩))
 exact zCa
theorem sQ (l:List Stil.B5)(g:Stil.B5->Stil.B5)(H:∀x∈l,K1 68 x (g x))(B:Nat)(v:Value)(w:World)(bs:List Nat)(ts:List (List Tr × List Value))(h:Sv w bs ts)(Q:Dc w v l)(hl:l.length<=999999)(A:w.cell? ⟨B,0,none⟩=some (.func (.func 68) #[] #[]))(z:B<w.heap.size):
  Calls prog 101 #[v, .slice none 0 0, .func (.func 102) #[] #[.pointer (some ⟨B,0,none⟩)]] w (FI J7 6 60 (l.map g) w bs ts):=by
 obtain⟨a,cap,rfl,E⟩:=Q;have X:=Ci E;have Z:=Ci H;have J:=Ci A;clear E H A;go_enter func101,ntmps101
 go_wp2
 go_loopw [1,11] (λd i wr=>∃(j:Nat) (L:List Stil.B5) (ra:Option Addr) (rc:Nat) (xs:List Value),j<=l.length/\i=.int .i64 j/\d=.slice ra L.length rc/\Hid (L=(l.take j).map g)/\L.length<=999999/\wr.ownsRow w.heap.size 60 6 (.slice ra L.length rc) L.length xs/\Sv wr (ob (.slice ra L.length rc)++bs) ((L.map J7,xs)::ts)/\Below w.heap.size w wr) (λ_ i _=>l.length - (intOf i).toNat)
 case atStart=>exact⟨0,[],none,0,[],AU,rfl,rfl,rfl,AW,World.ownsRow_nil _ _ _ _,h.nil,Below.refl _ _⟩
 case round=>
  clear h;obtain⟨j,L,ra,rc,xs,hj,rfl,rfl,HL,iG,hown,hS,hb⟩:=hrel;by_cases f:j<l.length
  .obtain⟨b,o,rfl,u,D⟩:=X j f
   obtain⟨R,cv,S,x4,x5,q,r⟩:=(P5.below hb _ _ _ D u).open;obtain⟨O,P,U,F,x2,x3,e,m⟩:=R.open;have aF:Hid ((l.take (j+1)).map g=L++[g l[j]]):=by show _=_;rw[HL.out,DO f,CX];rfl
   have hl2:(L++[g l[j]]).length<=999999:=by rw[<-aF.out,CP,Fo];omega
   have c:=Z l[j] (CG f);obtain⟨y,t⟩:∃y,y=g l[j]:=⟨_,rfl⟩
   rw[<-t] at aF hl2 c;obtain⟨x,C⟩:∃x,x=l[j]:=⟨_,rfl⟩
   rw[<-C] at O P e m q r c;have Y:=Ci (λW bs ts (h:Below wr.heap.size wr W) (hS:Sv W (ob (.slice ra L.length rc)++bs) ((L.map J7,xs)::ts))=>mU x y c B w.heap.size L xs ra rc U F cv S W bs ts hS (ownsRow_below hown h) (CB hb.size h.size) (e.below h) (m.below h) (q.below h) (r.below h) (((Au hb h).cell (p:=⟨B,0,none⟩) z).trans J.out) (B8 z (CB hb.size h.size)) AU);have aa:b<wr.heap.size:=B8 u hb.size;clear c t C D HL;obtain⟨N,K,rfl,-⟩:=e;obtain⟨s1,G,rfl,-⟩:=m;obtain⟨V,n2,rfl,-⟩:=q;obtain⟨T,I,rfl,-⟩:=r;replace hS:=hS.alloc (.cells #[.int .i64 x.net.kind, .int .i64 x.net.one.op, .slice N x.net.one.args.length K, .slice s1 x.net.kids.length G, .slice V x.coils.length n2, .slice T x.kids.length I] 60)
   go_wp2_with (go_at_call 102;refine(Y _ _ _ AX hS).mono ?_;rintro ab w2 ⟨a2,c2,zs,rfl,hown2,hS2,hg2⟩)
   exact zla
  .exact zE
theorem S5 (l:List Stil.B5)(g:Stil.B5->Stil.B5)(H:∀x∈l,K1 68 x (g x))(v:Value)(w:World)(bs:List Nat)(ts:List (List Tr × List Value))(h:Sv w bs ts)(a:Dc w v l)(hl:l.length<=999999):
  Calls prog 67 #[v, .func (.func 68) #[] #[]] w (FI J7 6 60 (l.map g) w bs ts):=by
 have k:=Ci (λW B i us b (h:Below w.heap.size w W) m f=>sQ l g H B v W i us b (a.below h) hl m f);obtain⟨r,o,rfl,-⟩:=a;replace hS:=h.alloc (.cells #[.func (.func 68) #[] #[]] 63);clear H h;go_enter func67,ntmps67
 go_wp2_with (go_at_call 101;refine(k _ _ _ _ hS AX (by simp[go_sem]) AW).mono ?_;rintro e t ⟨d,c,xs,rfl,j,hS,q⟩)
 go_ret;exact⟨d,c,xs,AW,Joins.ownsRow_le j AW,hS,AX⟩
open Stil
theorem YL (k:Int)(m:Stil.B1)(B o:Nat)(L:List Stil.B1)(xs:List Value)(i f e:Option Addr)(g d b:Nat)(w:World)(bs:List Nat)(ts:List (List Tr × List Value))(h:Sv w (ob (.slice i L.length g)++bs) ((Jp L,xs)::([Ic m],[.int .i64 m.kind, .int .i64 m.one.op, .slice f m.one.args.length d, .slice e m.kids.length b])::ts))(l:w.ownsRow o 54 4 (.slice i L.length g) L.length xs)(y:o<=w.heap.size)(E:w.cell? ⟨B,0,none⟩=some (.int .i64 k))(D:B<w.heap.size)(hl:L.length+m.kids.length<=1900000):
  Calls prog 163 #[.slice i L.length g, .agg #[.int .i64 m.kind, .int .i64 m.one.op, .slice f m.one.args.length d, .slice e m.kids.length b], .pointer (some ⟨B,0,none⟩)] w (LG Ic 4 54 o (.slice i L.length g) (L++Dk k [m]) w bs ts):=by
 have a:=Aa w (.cells #[.int .i64 m.kind, .int .i64 m.one.op, .slice f m.one.args.length d, .slice e m.kids.length b] 54);have hS:=h.bel a;replace l:=ownsRow_below l a;rw[Nh];clear h;by_cases j:m.kind=k
 .rw[if_pos j]
  subst j;obtain⟨ys,C,hS⟩:=hS.kidsOf (.tail _ (.head _));go_enter func163,ntmps163
  go_wp2_with (at_builtin;go_loud (refine Bd rfl rfl (Sv.appM (M:=m.kids) _ kd4 hS (.tail _ (.head _)) (.head _) Wl C l (CB y a.size) AU) rfl rfl ?_;rintro A z ⟨t,n,rfl,r,q,u,-⟩))
  go_ret;exact⟨t,n,_,AW,r,q.sub (λ_ h=>h) (List.forall_mem_cons.2 ⟨.head _,λ_ h=>.tail _ (.tail _ (.tail _ (.tail _ h)))⟩),KG a u⟩
 .rw[if_neg j]
  have F:(m.kind==k)=false:=by rw[CJ];exact j
  have G:=a.trans ((Aa (w.alloc (.cells #[.int .i64 m.kind, .int .i64 m.one.op, .slice f m.one.args.length d, .slice e m.kids.length b] 54)) (.cells #[.int .i64 m.kind, .int .i64 m.one.op, .slice f m.one.args.length d, .slice e m.kids.length b] 54)).mono a.size);go_enter func163,ntmps163
  go_wp2_with (at_builtin;go_loud (refine Bd rfl rfl (Sv.pushM (x:=m) (c:=[.int .i64 m.kind, .int .i64 m.one.op, .slice f m.one.args.length d, .slice e m.kids.length b]) _ kd4 hS (.head _) (.tail _ (.head _)) Wl l (CB y a.size) AU) rfl BJ ?_;rintro A z ⟨t,n,rfl,r,q,u,-⟩))
  go_ret;exact⟨t,n,_,AW,r,q.sub (λ_ h=>h) (List.forall_mem_cons.2 ⟨.head _,λ_ h=>.tail _ (.tail _ (.tail _ h))⟩),KG a u⟩
def sj {k:Int}{l:List Stil.B1}{j:Nat}(h:j<l.length):(Dk k (l.take j)).length+l[j].kids.length<=Stil.sizes l:=by
 have f:=He (Dk k (l.take j));have d:=Jj k (l.take j);have a:=T9 l (j+1);rw[DO h,Mc] at a;have b:=Cj l[j];have e:=He l[j].kids;have c:Stil.sizes [l[j]]=Ac l[j]:=by simp[Stil.sizes]
 omega
theorem mQ (k:Int)(B:Nat)(l:List Stil.B1)(a:Option Addr)(cap:Nat)(w:World)(bs:List Nat)(ts:List (List Tr × List Value))(h:Sv w bs ts)(E:([sl (Jp l)],[.slice a l.length cap])∈ts)(hl:Stil.sizes l<=999999)(u:w.cell? ⟨B,0,none⟩=some (.int .i64 k))(t:B<w.heap.size):
  Calls prog 161 #[.slice a l.length cap, .slice none 0 0, .func (.func 163) #[] #[.pointer (some ⟨B,0,none⟩)]] w (FI Ic 4 54 (Dk k l) w bs ts):=by
 have U:=He l;have C:=Ci u;clear u;go_enter func161,ntmps161
 go_wp2
 go_loopw [1,11] (λd i wr=>∃(j:Nat) (L:List Stil.B1) (ra:Option Addr) (rc:Nat) (xs:List Value),j<=l.length/\i=.int .i64 j/\d=.slice ra L.length rc/\Hid (L=Dk k (l.take j))/\wr.ownsRow w.heap.size 54 4 (.slice ra L.length rc) L.length xs/\Sv wr (ob (.slice ra L.length rc)++bs) ((Jp L,xs)::ts)/\Below w.heap.size w wr) (λ_ i _=>l.length - (intOf i).toNat)
 case atStart=>exact⟨0,[],none,0,[],AU,rfl,rfl,rfl,World.ownsRow_nil _ _ _ _,h.nil,Below.refl _ _⟩
 case round=>
  have Y:=h.1;clear h;obtain⟨j,L,ra,rc,xs,Z,rfl,rfl,HL,hown,hS,hb⟩:=hrel;by_cases q:j<l.length
  .obtain⟨b,o,c,rfl,V,g,f⟩:=hS.at (.tail _ E) Wl q
   obtain⟨K,D,H,A,rfl,-⟩:=g.opN (.head _);have y:=f 0 _ rfl;have Q:=f 1 _ rfl;have R:=f 2 _ rfl;have P:=f 3 _ rfl;rw[GI] at y;have r:=@sj k l j q;rw[<-HL.out] at r;have x:Hid (Dk k (l.take (j+1))=L++Dk k [l[j]]):=by show _=_;rw[HL.out,DO q,Jw]
   obtain⟨m,z⟩:∃m,m=l[j]:=⟨_,rfl⟩
   rw[<-z] at y Q R P r x g;have G:=Ci (λW (h:Below wr.heap.size wr W)=>YL k m B w.heap.size L xs ra K H rc D A W bs ts ((g.bel h).sub (λ_ h=>h) (List.forall_mem_cons.2 ⟨.tail _ (.head _),List.forall_mem_cons.2 ⟨.head _,λ_ h=>.tail _ (.tail _ h)⟩⟩)) (ownsRow_below hown h) (CB hb.size h.size) (((Au hb h).cell (p:=⟨B,0,none⟩) t).trans C.out) (B8 t (CB hb.size h.size)) AU);clear z HL g f
   go_wp2_with (go_at_call 163;refine(G _ AX).mono ?_;rintro e X ⟨J,F,T,rfl,O,I,S⟩)
   exact⟨⟨j+1,L++Dk k [m],J,F,T,AU,by go_num,AW,x.symm,O,I,((show Below w.heap.size w _ from AX).grown S yCj (λk N=>(hown.lt k N).1))⟩,by simp[intOf];omega⟩
  .exact zE
theorem RY (k:Int)(l:List Stil.B1)(a:Option Addr)(cap:Nat)(w:World)(bs:List Nat)(ts:List (List Tr × List Value))(h:Sv w bs ts)(f:([sl (Jp l)],[.slice a l.length cap])∈ts)(hl:Stil.sizes l<=999999):
  Calls prog 138 #[.int .i64 k, .slice a l.length cap] w (FU (Il k (Dk k l)) w bs ts):=by
 have hS:=(h.alloc (.cells #[.int .i64 k] 3)).box (.cells #[.int .i64 0, .int .i64 0, .slice none 0 0, .slice none 0 0] 54);rw[World.size_alloc] at hS;have I:=h.1;have q:=Ci (λW B H us z f (h:Below w.heap.size w W) h1 h2=>mQ k B l a cap W H us z f hl h1 h2);have E:=Ci f;obtain⟨L,u⟩:∃L,L=Dk k l:=⟨_,rfl⟩
 rw[<-u] at q ⊢;clear h hl u f;go_enter func138,ntmps138;go_upto_if 11 with(go_at_call 161;refine(q _ _ _ _ hS E AX (by simp[go_sem]) Ax).mono ?_;rintro ab j ⟨C,A,xs,rfl,hown,hS,D⟩;obtain⟨X,y,Y,q1,p1,t,p2,r,P⟩:CW j (w.heap.size+1) (.int .i64 0) (.int .i64 0) (.slice none 0 0) (.slice none 0 0):=qB4;have kd:j.cell? ⟨w.heap.size,0,none⟩=some (.int .i64 k):=(D.cell (p:=⟨w.heap.size,0,none⟩) Ax).trans (by simp[go_sem]))
 have R:Below w.heap.size w j:=AX;have Q:w.heap.size+2<=(w.alloc (.cells #[.int .i64 k] 3)).heap.size+1:=AW
 replace hown:=Joins.ownsRow_le (base':=w.heap.size+2) hown AW;clear q;by_cases h1:L.length=1
 .obtain⟨m,rfl⟩:=List.length_eq_one_iff.1 h1
  obtain⟨c,aa,rfl,hS⟩:=hS.fst (.head _);obtain⟨G,F,J,N,rfl,hS⟩:=hS.opN (.head _);obtain⟨g,c,x,_,S,_,d⟩:=G7 hown AW;simp only[Value.slice.injEq] at x;obtain⟨rfl,_,rfl⟩:=x;have V:=d 0 _ rfl;have T:=d 1 _ rfl;have y2:=d 2 _ rfl;have O:=d 3 _ rfl;clear d
  go_wp2
  refine bodyPost_ret (v:=.agg #[.int .i64 m.kind, .int .i64 m.one.op, .slice G m.one.args.length F, .slice J m.kids.length N]) (by simp[results,results138,go_sem,y,q1,t,r]) rfl ?_;rw[show Il k [m]=m from rfl];exact⟨_,_,_,_,rfl,(hS.set4 AW).sub BB BB,AX⟩
 .have K:Hid (Il k L=⟨k,⟨0,[]⟩,L⟩):=dif_neg h1
  have Z:((L.length:Int)==1)=false:=by rw[CJ];omega
  have U:¬((L.length:Int)=1):=AU
  replace hS:=(hS.ice (.head _) yBi (λb e=>by simp only[C2] at e;rcases e with rfl | e;omega;have:=I b e;omega)).snil;replace hS:=Sv.mkN (i:=k) (op:=0) (ds:=[]) hS (.head _) (.tail _ (.head _))
  go_wp2
  refine bodyPost_ret (v:=.agg #[.int .i64 k, .int .i64 0, .slice none 0 0, .slice C L.length A]) (by simp[results,results138,go_sem,y,q1,t,r]) rfl ?_;rw[K.out];exact⟨_,_,_,_,rfl,(hS.set4 AW).sub BB BB,AX⟩
structure SN where
 n:Stil.B1
 av:Value
 kv:Value
 xs:List Value
abbrev SN.cells (s:SN):List Value:=[.int .i64 s.n.kind, .int .i64 s.n.one.op,s.av,s.kv]
abbrev SN.agg (s:SN):Value:=.agg #[.int .i64 s.n.kind, .int .i64 s.n.one.op,s.av,s.kv]
structure SN.ok (s:SN)(w:World)(B:Nat)(ts:List (List Tr × List Value)):Prop where
 dev:([sl (Hw s.n.one.args)],[s.av])∈ts
 kid:(Jp s.n.kids,s.xs)∈ts
 row:w.ownsRow B 54 4 s.kv s.n.kids.length s.xs
section
variable {w w':World}{B:Nat}{bs:List Nat}{ts us:List (List Tr × List Value)}{s:SN}
def SN.ok.below (h:s.ok w B ts)(a:Below w.heap.size w w'):s.ok w' B ts:=⟨h.dev,h.kid,ownsRow_below h.row a⟩
def SN.ok.more (h:s.ok w B ts)(hu:∀x∈ts,x∈us):s.ok w B us:=⟨hu _ h.dev,hu _ h.kid,h.row⟩
def SN.ok.kept {r:Option Nat}(h:s.ok w B ts)(hg:w.grownBy w' r)(hr:s.kv.ownBlock=none\/s.kv.ownBlock≠r):s.ok w' B ts:=⟨h.dev,h.kid,h.row.kept hg hr⟩
def SN.ok.forms (h:s.ok w B ts)(hS:Sv w bs us)(hu:∀x∈ts,x∈us):(∃a c,s.av=.slice a s.n.one.args.length c)/\∃a c,s.kv=.slice a s.n.kids.length c:=by
 obtain⟨a,c,f,_⟩:=(I4.1 (hS.2 _ (hu _ h.dev))).slice;obtain⟨b,d,e,_⟩:=VW h.row;exact⟨⟨a,c,by simpa using f⟩,b,d,e⟩
def SN.ice (h:Sv w (ob s.kv++bs) ts)(a:s.ok w B ts)(d:∀b,s.kv.ownBlock=some b->b∉bs):Sv w bs (([Ic s.n],s.cells)::ts):=by
 have e:=h.ice2 a.kid (by rw[CP];exact a.row) d;have c:=e.mkN (i:=s.n.kind) (op:=s.n.one.op) (ds:=s.n.one.args) (ns:=s.n.kids) (.tail _ a.dev) (.head _);rw[PG] at c;exact c.sub (λ_ h=>h) (List.forall_mem_cons.2 ⟨.head _,λ_ h=>.tail _ (.tail _ h)⟩)
def SN.at (h:Sv w (ob s.kv++bs) ts)(e:s.ok w B ts)(d:∀b,s.kv.ownBlock=some b->b∉bs):Ak w s.av s.n.one.args/\Eo w s.kv s.n.kids:=by
 obtain⟨_,_,_,_,a,c⟩:=(SN.ice h e d).opN (.head _);simp only[SN.cells,List.cons.injEq,true_and,F3] at a;rw[a.1,a.2];exact⟨c.devs (.head _),c.nets (.tail _ (.head _))⟩
end
def MS (k:Int)(s:SN)(w:World)(B:Nat)(bs:List Nat)(ts:List (List Tr × List Value))(e:Ending)(w':World):Prop:=∃a c ys,e=.returned (.slice a (Stil.opn k s.n).length c)/\w'.ownsRow B 54 4 (.slice a (Stil.opn k s.n).length c) (Stil.opn k s.n).length ys/\Sv w' (ob (.slice a (Stil.opn k s.n).length c)++bs) ((Jp (Stil.opn k s.n),ys)::ts)/\Below w.heap.size w w'/\((Value.slice a (Stil.opn k s.n).length c).ownBlock=s.kv.ownBlock\/∀q,(Value.slice a (Stil.opn k s.n).length c).ownBlock=some q->w.heap.size<=q)
theorem TB (k:Int)(s:SN)(w:World)(B:Nat)(bs:List Nat)(ts:List (List Tr × List Value))(h:Sv w (ob s.kv++bs) ts)(a:s.ok w B ts)(y:B<=w.heap.size)(j:∀b,s.kv.ownBlock=some b->b∉bs):Calls prog 166 #[.int .i64 k,s.agg] w (MS k s w B bs ts):=by
 obtain⟨⟨g,f,r⟩,d,c,o⟩:=a.forms h λ_ h=>h
 obtain⟨n,x,u,xs⟩:=s;simp only[SN.agg] at r o a j h ⊢;subst r o;unfold MS;unfold Stil.opn;by_cases i:n.kind=k
 .rw[if_pos i]
  subst i;have hS:=(h.alloc (.cells #[.int .i64 n.kind, .int .i64 n.one.op, .slice g n.one.args.length f, .slice d n.kids.length c] 54)).sub (us:=(Jp n.kids,xs)::ts) (λ_ h=>h) (List.forall_mem_cons.2 ⟨a.kid,λ_ h=>h⟩);have l:=a.row.alloc (.cells #[.int .i64 n.kind, .int .i64 n.one.op, .slice g n.one.args.length f, .slice d n.kids.length c] 54);clear h a j;go_enter func166,ntmps166
  go_wp2
  go_ret;exact⟨d,c,rfl,xs,l,hS,AX, .inl rfl⟩
 .rw[if_neg i]
  have z:(n.kind==k)=false:=by rw[CJ];exact i
  have m:=((SN.ice h a j).alloc (.cells #[.int .i64 n.kind, .int .i64 n.one.op, .slice g n.one.args.length f, .slice d n.kids.length c] 54)).box (.cells #[.int .i64 n.kind, .int .i64 n.one.op, .slice g n.one.args.length f, .slice d n.kids.length c] 54);have l:=World.ownsRow_lit (base:=B) (e:=54) (size:=4) (w.alloc (.cells #[.int .i64 n.kind, .int .i64 n.one.op, .slice g n.one.args.length f, .slice d n.kids.length c] 54)) #[.int .i64 n.kind, .int .i64 n.one.op, .slice g n.one.args.length f, .slice d n.kids.length c] 1 Ax BI rfl;rw[World.size_alloc] at m l;clear h a j i;go_enter func166,ntmps166
  go_wp2
  go_ret;exact⟨some ⟨w.heap.size+1,0,none⟩,1,rfl,_,l,m,AX, .inr λq t=>by cases t;exact IX _⟩
