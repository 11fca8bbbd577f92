import Derived.Test.YtfeablpbkcgdjaaGreatDoorGO
import Derived.Test.YtfeablpbkcgdjaaGreatDoorG4
set_option maxHeartbeats 4000000
set_option maxRecDepth 100000
namespace Go.Proofs.YtfeablpbkcgdjaaGreatDoor
open Tryz Stil
section
open Go.RowKit Go.Sort Go.BigFrame Go.Shelf
attribute [local go_sem] Oper.semAt_some
def errOf (c:Int):Value:=if 0<c then .iface 144 (.int .i64 c) else .nilIface
theorem zc {p:Prop}(h:p:=by
 go_enter func171,ntmps171
 go_wp2_with (go_at_call 136;refine(HC _).mono ?_;rintro e w1 ⟨rfl,hb⟩;obtain⟨hc,hfz⟩:=Ff hb)
 all_goals go_ret
 all_goals exact⟨Ad (by rw[HX.out];simp),AX⟩):p:=h
theorem wB (n:Stil.B1)(o l:Value)(w:World)(A:Ak w o n.one.args)(B:Eo w l n.kids)(r:Bi n):
  Calls prog 171 #[.agg #[.int .i64 n.kind, .int .i64 n.one.op,o,l]] w λe g=>e=.returned (.bool (Y0 n))/\Below w.heap.size w g:=by
 obtain⟨_,s,C,_⟩:=Dw r;have y:=s.2.1;obtain⟨z,x,rfl,_⟩:=A;obtain⟨G,H,rfl,_⟩:=B;clear r s;have HC:Hid (∀W,Calls prog 136 #[.agg #[.int .i64 n.one.op, .slice z n.one.args.length x]] W λe g=>e=.returned (.bool (n.one.op==0 && n.one.args.length==0))/\Below W.heap.size W g):=λW=>Yy _ _ _ _ _ AU
 have a:Hid (Y0 n=if n.kind=1 then decide (n.kids.length=0) else if n.kind=2\/n.kind=3 then(n.one.op==0 && n.one.args.length==0) && decide (0<n.kids.length) else if n.kind=4 then(n.one.op==0 && n.one.args.length==0) && decide (n.kids.length=1) else false):=rfl;obtain⟨b,j⟩:∃b,b=(n.one.op==0 && n.one.args.length==0):=⟨_,rfl⟩
 rw[<-j] at a HC;obtain⟨c,q⟩:∃c,c=n.kids.length:=⟨_,rfl⟩
 obtain⟨m,v⟩:∃m,m=n.one.args.length:=⟨_,rfl⟩
 rw[<-q] at a C ⊢;rw[<-v] at HC y ⊢;obtain⟨k,t⟩:∃k,k=n.kind:=⟨_,rfl⟩
 rw[<-t] at a ⊢;obtain⟨R,u⟩:∃R,R=Y0 n:=⟨_,rfl⟩
 rw[<-u] at a ⊢;clear j q v t u;by_cases d:k=1
 .subst d
  have HX:Hid (R=((c:Int)==0)):=by show _=_;rw[a.out,if_pos rfl,Db];simp
  clear a HC;go_enter func171,ntmps171
  go_wp2
  all_goals go_ret
  all_goals exact⟨Ad BZ,AX⟩
 .have F:(k==1)=false:=by rw[CJ];exact d
  by_cases f:k=2\/k=3
  .have HX:Hid (R=(b && decide ((0:Int)<(c:Int)))):=by show _=_;rw[a.out,if_neg d,if_pos f,Db];simp
   clear a;cases b
   .rcases f with rfl | rfl
    .exact zc
    .exact zc
   .rcases f with rfl | rfl
    .exact zc
    .exact zc
  .have D:(k==2)=false:=by rw[CJ];omega
   have I:(k==3)=false:=by rw[CJ];omega
   by_cases i:k=4
   .subst i
    have HX:Hid (R=(b && ((c:Int)==1))):=by show _=_;rw[a.out,if_neg d,if_neg f,if_pos rfl,Db];simp;omega
    clear a;cases b
    .exact zc
    .exact zc
   .have E:(k==4)=false:=by rw[CJ];exact i
    have HX:Hid (R=false):=by show _=_;rw[a.out,if_neg d,if_neg f,if_neg i]
    clear a HC;go_enter func171,ntmps171
    go_wp2
    all_goals go_ret
    all_goals exact⟨Ad BZ,AX⟩
end
section
open Go.RowKit Go.Sort Go.BigFrame Go.Shelf
def QK (W:World)(B:Nat)(k op:Int)(a n:Value):Prop:=W.cell? ⟨B,0,none⟩=some (.int .i64 k)/\W.cell? ⟨B,1,none⟩=some (.int .i64 op)/\W.cell? ⟨B,2,none⟩=some a/\W.cell? ⟨B,3,none⟩=some n
theorem rI {β:Type}(B:Nat)(k op:Int)(a n:Value):Own (λ(_:β) W=>QK W B k op a n):=λ_ _ _ _ d c b=>
 ⟨cell_kept d.1 c b,cell_kept d.2.1 c b,cell_kept d.2.2.1 c b,cell_kept d.2.2.2 c b⟩
end
section
open Go.RowKit Go.Sort Go.BigFrame Go.Shelf
variable {α:Type}
attribute [local go_sem] Oper.semAt_some
theorem Xd (f:α->Int){a b:List α}(h:a<+:b)(d:0<Ap (a.map f)):Ap (b.map f)=Ap (a.map f):=by
 obtain⟨c,rfl⟩:=h;rw[CX,Q7,if_pos d]
theorem RI (f:α->Int)(l:List α)(x:α)(h:¬0<Ap (l.map f)):Ap ((l++[x]).map f)=if 0<f x then f x else 0:=by
 rw[CX,Q7,if_neg h];simp[Ap]
theorem zoa {p:Prop}(h:p:=by
 exact⟨by(repeat (first | with_reducible exact KeepsFrom.refl _ _ | with_reducible refine Vy ?_ _ _ | with_reducible refine P9 ?_ | with_reducible refine Lp ?_ _ | with_reducible refine Qa ?_ Bm)),Vf (Kept.refl _ _ _) hn hb2,⟨⟨⟨c2,z2⟩,AX⟩,by rw[HX.out];omega,by have:=hb2.size;omega⟩⟩):p:=h
theorem v8 (n:Stil.B1)(av kv:Value)(w:World)(hr:Ed w)(J:Ak w av n.one.args)(N:Eo w kv n.kids)(hf:Bi n):
  Calls prog 159 #[.agg #[.int .i64 n.kind, .int .i64 n.one.op,av,kv]] w λe w'=>e=.returned (errOf (Aj n))/\Below w.heap.size w w':=by
 have O:Hid (Ap ((Ei [n]).map Fh)=Aj n):=by show _=_;rw[S0,kZ]
 have aj:=Ji n;obtain⟨z,hz⟩:∃z,z=Aj n:=⟨_,rfl⟩
 rw[<-hz] at O aj ⊢;clear hz;refine(callsIn_wide (n:=9)).1 ?_;have eU:=Ab J;have dw:=Ab N;have ah:=Ab (λW (h:Below w.heap.size w W)=>hr.below h);obtain⟨V,r0,rfl,_⟩:=J;obtain⟨P,Q,rfl,_⟩:=N;refine callsIn_of_wp_marks func159 rfl trivial ?_ rfl;simp only[ntmps159,CS,CC,CM,Nat.reduceAdd,Nat.reduceSub,DF,DG,DJ,DI,C3,CY]
 gi_wp2_with (refine⟨trivial,?_⟩;gi_at_call 158;refine(callsIn_wide.2 (TR _ _ _ _ _ _ _ _ _)).mono ?_;rintro e j ⟨b,A,K,rfl,an,ar,au,hA,o,x0,x1,x2,x3,hb⟩)
 simp only[World.size_alloc] at an ar au;have ag:Below w.heap.size w j:=AX;have ao:j.cell? ⟨w.heap.size+1,0,none⟩=some .nilIface:=A3 hb;have ak:j.frozen? ⟨w.heap.size+1,0,none⟩=false:=A4 hb;have ay:w.heap.size+2<=j.heap.size:=by have:=hb.size;simp at this;omega
 have bW:Nz w (λ_=>False) j (.slice (some ⟨b,0,none⟩) 1 1) [n]:=by
  refine⟨_,1,rfl,λi hi=>⟨b,0,rfl,(λh=>h), .slice V n.one.args.length r0, .slice P n.kids.length Q,?_⟩⟩;obtain rfl:i=0:=by simpa using hi
  simp only[ER,Cd,FM];exact⟨x0,x1,x2,x3,eU.out,dw.out⟩
 have HS:Hid (SeqStopsK Fence.wide (9 - 1) prog 176 #[.pointer (some ⟨K,0,none⟩), .pointer (some ⟨A,0,none⟩)] (λx:Ro w Bi=>#[Value.agg #[.int .i64 x.net.kind, .int .i64 x.net.one.op,x.av,x.kv]]) (Kept w.heap.size (λ_=>False)) (λys=>ys.map Ro.net=Ei [n]) (λpre=>pre.map Ro.net<+:Ei [n]) (Ei [n]).length j):=
  Vv w Bi (λx H=>⟨(Dw H).2.2.1,(Dw H).2.2.2⟩) (λ_=>False) (λ_ h=>h.elim) 0 A K (λ_ h=>h.elim) (λh=>h) (λh=>h) [n] AW (by simpa using hf) _ j ag (DK _) bW hA o _
 clear bW hb x0 x1 x2 x3 hA o hf;refine wpIn_rangeFunc_ownH rfl AZ (gf:=176) (lb:=#[.pointer (some ⟨K,0,none⟩), .pointer (some ⟨A,0,none⟩)]) rfl trivial (enters_of func176 AY rfl)
  HS Kept.t (Kept.b AU) (Below.refl _ _) (λ_=>rfl)
  (λpre W=>((W.cell? ⟨w.heap.size+1,0,none⟩=some .nilIface/\W.frozen? ⟨w.heap.size+1,0,none⟩=false)/\Below w.heap.size w W)/\¬0<Ap (pre.map (Fh ∘ Ro.net))/\j.heap.size<=W.heap.size)
  (λc pre W=>(c=.ret/\∃k,0<k/\Ap (pre.map (Fh ∘ Ro.net))=k/\W.cell? ⟨w.heap.size+1,0,none⟩=some (.iface 144 (.int .i64 k)))/\Below w.heap.size w W)
  (OwnFrom.and (OwnFrom.and (Own.from (λs A B row g q hr=>⟨cell_kept g.1 q hr,(frozen_kept g.1 q hr).trans g.2⟩) _) (ownFrom_below (B7 _) AU)) (OwnFrom.and (ownFrom_pure _ _) (λ_ _ _ _ g q _=>CB g q.size)))
  (λc=>OwnFrom.and (Own.from (λs A B row g q hr=>⟨g.1,g.2.elim λt ht=>⟨t,ht.1,ht.2.1,cell_kept ht.2.2 q hr⟩⟩) _) (ownFrom_below (B7 _) AU))
  ⟨⟨⟨ao,ak⟩,ag⟩,by simp[Ap],B7 _⟩
  (λx a' W=>∃F,j.heap.size<=F/\QK W F x.net.kind x.net.one.op x.av x.kv/\a'={tmps:=#[.agg #[.int .i64 n.kind, .int .i64 n.one.op, .slice V n.one.args.length r0, .slice P n.kids.length Q], .pointer (some ⟨w.heap.size,0,none⟩), .pointer (some ⟨w.heap.size+1,0,none⟩), .pointer (some ⟨F,0,none⟩), .agg #[.int .i64 n.kind, .int .i64 n.one.op, .slice V n.one.args.length r0, .slice P n.kids.length Q], .func (.func 176) #[] #[.pointer (some ⟨K,0,none⟩), .pointer (some ⟨A,0,none⟩)], .agg #[.int .i64 x.net.kind, .int .i64 x.net.one.op,x.av,x.kv],undef,undef,undef,undef,undef,undef,undef,undef,undef,undef,undef,undef,undef,undef],defers:=[]})
  (λx a' s A B row g q hr=>g.elim λF H=>⟨F,H.1,rI (β:=Unit) F _ _ _ _ s A B row H.2.1 q (λad e=>(hr ad e).2),H.2.2⟩) ?assign ?body ?done ?stop
 case assign=>
  rintro l pre x W KK ⟨⟨⟨d,y⟩,G⟩,u,ai⟩ aA;obtain⟨x,av,kv,J,N,mJ⟩:=x;obtain⟨q0,s0,rfl,_⟩:=id J;obtain⟨q1,s1,rfl,_⟩:=id N
  gi_wp2
  exact aA _ _ ((KeepsOthers.alloc _ _).from _) (Kept.of_below G.size (Aa _ _)) ⟨⟨⟨Nw _ d,Ot _ d y⟩,AX⟩,u,by simp;omega⟩ ⟨W.heap.size,AU,⟨by simp[go_sem],by simp[go_sem],by simp[go_sem],by simp[go_sem]⟩,rfl⟩
 case body=>
  rintro l pre x a' W aw _ ⟨⟨⟨d,y⟩,G⟩,u,ai⟩ ⟨F,az,⟨y0,y1,y2,y3⟩,rfl⟩ al;have m:=Aq d;have pM:=Aq y0;have hn:w.heap.size<=W.heap.size:=AU
  have E:=Ab (λX I=>wB x.net x.av x.kv X (x.hav.below I) (x.hkv.below I) x.mem);have L:=Ab (λX I=>S8 x.net.one.op x.av x.net.one.args X (ah X I) (x.hav.below I) (Dw x.mem).2.1.2.2 (by have:=(Dw x.mem).2.1.2.1;omega));have r:Hid (Ap ((pre++[x]).map (Fh ∘ Ro.net))=if 0<Fh x.net then Fh x.net else 0):=RI _ _ _ u;have f:Hid (Fh x.net=if Y0 x.net then(if x.net.kind=1 then(if Dl x.net.one.op x.net.one.args then 0 else 3) else 0) else 2):=rfl;obtain⟨q0,s0,Z,_⟩:=id x.hav;obtain⟨q1,s1,e1,_⟩:=id x.hkv;rw[Z,e1] at E;rw[Z] at L y2;rw[e1] at y3;obtain⟨U,jq⟩:∃U,U=Y0 x.net:=⟨_,rfl⟩
  obtain⟨Y,af⟩:∃Y,Y=Dl x.net.one.op x.net.one.args:=⟨_,rfl⟩
  obtain⟨M,ae⟩:∃M,M=x.net.kind:=⟨_,rfl⟩
  rw[<-jq] at E f;rw[<-af] at L f;rw[<-ae] at E f y0;clear jq af ae Z e1 al aw u;cases U
  .have HX:Hid (Ap ((pre++[x]).map (Fh ∘ Ro.net))=2):=by show _=_;rw[r.out,f.out];simp
   clear r f
   gi_wp2_with (refine⟨trivial,?_⟩;gi_at_call 171;refine(CallsIn.inRound l (callsIn_wide.2 (E _ AX))).mono ?_;rintro e T ⟨rfl,hb2⟩;have c2:=(hb2.cell (p:=⟨w.heap.size+1,0,none⟩) m).trans d;have z2:=(hb2.frozen (p:=⟨w.heap.size+1,0,none⟩) m).trans y)
   exact⟨by(repeat (first | with_reducible exact KeepsFrom.refl _ _ | with_reducible refine Vy ?_ _ _ | with_reducible refine P9 ?_ | with_reducible refine Lp ?_ _ | with_reducible refine Qa ?_ Bm)),⟨rfl,2,by omega,HX.out,Fp c2⟩,AX⟩
  .by_cases aa:M=1
   .subst aa
    cases Y
    .have HX:Hid (Ap ((pre++[x]).map (Fh ∘ Ro.net))=3):=by show _=_;rw[r.out,f.out];simp
     clear r f
     gi_wp2_with (first | (refine⟨trivial,?_⟩;gi_at_call 171;refine(CallsIn.inRound l (callsIn_wide.2 (E _ AX))).mono ?_;rintro e T ⟨rfl,hb2⟩;have c2:=(hb2.cell (p:=⟨w.heap.size+1,0,none⟩) m).trans d;have z2:=(hb2.frozen (p:=⟨w.heap.size+1,0,none⟩) m).trans y;obtain⟨uF,uC⟩:=Ff hb2) | (refine⟨trivial,?_⟩;gi_at_call 172;refine(CallsIn.inRound l (callsIn_wide.2 (L _ AX))).mono ?_;rintro e W3 ⟨rfl,C⟩;have S:=(C.cell (p:=⟨w.heap.size+1,0,none⟩) (Aq c2)).trans c2;have z3:=(C.frozen (p:=⟨w.heap.size+1,0,none⟩) (Aq c2)).trans z2))
     exact⟨by(repeat (first | with_reducible exact KeepsFrom.refl _ _ | with_reducible refine Vy ?_ _ _ | with_reducible refine P9 ?_ | with_reducible refine Lp ?_ _ | with_reducible refine Qa ?_ Bm)),⟨rfl,3,by omega,HX.out,Fp S⟩,AX⟩
    .have HX:Hid (Ap ((pre++[x]).map (Fh ∘ Ro.net))=0):=by show _=_;rw[r.out,f.out];simp
     clear r f
     gi_wp2_with (first | (refine⟨trivial,?_⟩;gi_at_call 171;refine(CallsIn.inRound l (callsIn_wide.2 (E _ AX))).mono ?_;rintro e T ⟨rfl,hb2⟩;have c2:=(hb2.cell (p:=⟨w.heap.size+1,0,none⟩) m).trans d;have z2:=(hb2.frozen (p:=⟨w.heap.size+1,0,none⟩) m).trans y;obtain⟨uF,uC⟩:=Ff hb2) | (refine⟨trivial,?_⟩;gi_at_call 172;refine(CallsIn.inRound l (callsIn_wide.2 (L _ AX))).mono ?_;rintro e W3 ⟨rfl,C⟩;have S:=(C.cell (p:=⟨w.heap.size+1,0,none⟩) (Aq c2)).trans c2;have z3:=(C.frozen (p:=⟨w.heap.size+1,0,none⟩) (Aq c2)).trans z2))
     exact⟨by(repeat (first | with_reducible exact KeepsFrom.refl _ _ | with_reducible refine Vy ?_ _ _ | with_reducible refine P9 ?_ | with_reducible refine Lp ?_ _ | with_reducible refine Qa ?_ Bm)),Vf (Vf (Kept.refl _ _ _) hn hb2) hn C,⟨⟨⟨S,z3⟩,AX⟩,by rw[HX.out];omega,by have:=hb2.size;have:=C.size;omega⟩⟩
   .have ax:(M==1)=false:=by rw[CJ];exact aa
    have HX:Hid (Ap ((pre++[x]).map (Fh ∘ Ro.net))=0):=by show _=_;rw[r.out,f.out];simp[aa]
    clear r f
    gi_wp2_with (refine⟨trivial,?_⟩;gi_at_call 171;refine(CallsIn.inRound l (callsIn_wide.2 (E _ AX))).mono ?_;rintro e T ⟨rfl,hb2⟩;have c2:=(hb2.cell (p:=⟨w.heap.size+1,0,none⟩) m).trans d;have z2:=(hb2.frozen (p:=⟨w.heap.size+1,0,none⟩) m).trans y;obtain⟨uF,uC⟩:=Ff hb2)
    refine⟨trivial,?_⟩
    gi_wp2
    exact zoa
 case done=>
  rintro D ys W hD hS ⟨⟨⟨d,y⟩,G⟩,u,_⟩ o;rw[<-FY,hS,O.out] at u;have HX:Hid (errOf z=.nilIface):=by show _=_;unfold errOf;rw[if_neg u]
  gi_wp2
  have R:=(KeepsOthers.setCell W ⟨w.heap.size+1,0,none⟩ .nilIface).same D _ o rfl;refine⟨AW, .inl ⟨_,_,rfl,run_takeDeferred R,?_⟩⟩;have ab:=cell_kept (Fp d (v:=.nilIface)) (grownBy_putObj' _ D (.deferred none)) (λad e=>by cases e;exact⟨_,R,rfl⟩);refine⟨.nilIface,?_,by rw[HX.out],(G.setCell (p:=⟨w.heap.size+1,0,none⟩) AW _).trans (belowK_b (w:=w) (B7 _) _ D _ _ AU R rfl rfl)⟩;simp[results,Tryz.f159,go_sem,ab]
 case stop=>
  rintro D c pre W hD ap ⟨⟨rfl,k,hk,ac,d⟩,G⟩ o;have yP:z=k:=by
   rw[<-FY] at ac;have:=Xd Fh ap (by rw[ac];exact hk)
   rw[O.out,ac] at this;exact this
  have HX:Hid (errOf z=.iface 144 (.int .i64 k)):=by show _=_;unfold errOf;rw[yP,if_pos hk]
  gi_wp2
  refine⟨AW, .inl ⟨_,_,rfl,run_takeDeferred o,?_⟩⟩;have ab:=cell_kept d (grownBy_putObj' _ D (.deferred none)) (λad e=>by cases e;exact⟨_,o,rfl⟩);refine⟨.iface 144 (.int .i64 k),?_,by rw[HX.out],G.trans (belowK_b (w:=w) (B7 _) W D _ _ AU o rfl rfl)⟩;simp[results,Tryz.f159,go_sem,ab]
end
section
open Go.RowKit Go.Sort Go.BigFrame
theorem Ll {c:Int}(h:0<c):errOf c=.iface 144 (.int .i64 c):=by unfold errOf;rw[if_pos h]
theorem Pn {c:Int}(h:¬0<c):errOf c=.nilIface:=by unfold errOf;rw[if_neg h]
theorem za {p:Prop}(h:p:=by
 clear hbs;obtain⟨m,hm,rfl,hcb,hB⟩:=hrel;have gX:=Ab hcb;clear hcb;have hz:w.heap.size<wr.heap.size:=by have:=hB.size;simp at this;omega
 have c0:wr.cell? ⟨w.heap.size,0,none⟩=some (.int .i64 n.kind):=A3 hB;have f0:wr.frozen? ⟨w.heap.size,0,none⟩=false:=A4 hB;have c1:wr.cell? ⟨w.heap.size,1,none⟩=some (.int .i64 n.one.op):=A3 hB;have f1:wr.frozen? ⟨w.heap.size,1,none⟩=false:=A4 hB;have c2:wr.cell? ⟨w.heap.size,2,none⟩=some (.slice p0 n.one.args.length r0):=A3 hB;have f2:wr.frozen? ⟨w.heap.size,2,none⟩=false:=A4 hB;have c3:wr.cell? ⟨w.heap.size,3,none⟩=some (.slice p1 n.kids.length r1):=A3 hB;have f3:wr.frozen? ⟨w.heap.size,3,none⟩=false:=A4 hB;have c4:wr.cell? ⟨w.heap.size,4,none⟩=some (.slice p2 lc r2):=A3 hB;have f4:wr.frozen? ⟨w.heap.size,4,none⟩=false:=A4 hB;have c5:wr.cell? ⟨w.heap.size,5,none⟩=some (.slice p3 lk r3):=A3 hB;have f5:wr.frozen? ⟨w.heap.size,5,none⟩=false:=A4 hB;have hbw:=(Aa _ _).trans (hB.mono AU);by_cases hlt:m<lc
 .have hlt':m<coils.length:=by have:=qB.out;omega
  obtain⟨b,o,rfl,hbl,hce⟩:=yB m hlt';obtain⟨x0,vN,x1,fO⟩:=hce.below hbw hbl;have dL:=kX _ (CG hlt');have HI:=Ab (λW hW=>VB coils[m].op vN coils[m].args W (HRR W (hbw.trans (hW.mono hbw.size))) (fO.below hW) dL.2.2 (by have:=dL.2.1;omega));have HD:Hid (Dn coils=(!Fz coils[m].op coils[m].args || Dn (coils.drop (m+1)))):=by show _=_;rw[gX.out,Vk _ _ hlt']
  obtain⟨ic,hic⟩:∃ic,ic=Fz coils[m].op coils[m].args:=⟨_,rfl⟩
  rw[<-hic] at HI HD;obtain⟨y,hy⟩:∃y,y=coils[m]:=⟨_,rfl⟩
  rw[<-hy] at HI x0;obtain⟨t1,t2,g1,_⟩:=fO;rw[<-hy] at g1;subst g1;clear hic hy hce dL gX;cases ic
  .have HX:Hid (R=3):=by show _=_;rw[HR2.out,HD.out];rfl
   go_wp2_with (go_at_call 160;refine(HI _ AX).mono ?_;rintro e w3 ⟨rfl,hb3⟩)
   go_ret;exact⟨by rw[HX.out,Ll AU];rfl,AX⟩
  .have HX:Hid (Dn coils=Dn (coils.drop (m+1))):=by show _=_;rw[HD.out];rfl
   go_wp2_with (go_at_call 160;refine(HI _ AX).mono ?_;rintro e w3 ⟨rfl,hb3⟩)
   exact⟨⟨m+1,AU,by go_num,HX.out,hB.trans (((Aa _ _).trans (hb3.mono AW)).mono hz)⟩,by simp[intOf];omega⟩
 .have hcb0:Dn coils=false:=by rw[gX.out,GH (by have:=qB.out;omega)];rfl
  have HR3:Hid (R=if lc=0/\lk=0 then 5 else 0):=by show _=_;rw[HR2.out,hcb0];rfl
  clear hcb0 gX HR2;by_cases hl0:lc=0/\lk=0
  .have HX:Hid (R=5):=by show _=_;rw[HR3.out,if_pos hl0]
   obtain⟨rfl,rfl⟩:=hl0;clear HR3
   go_wp2
   go_ret;exact⟨by rw[HX.out,Ll AU];rfl,AX⟩
  .have HX:Hid (R=0):=by show _=_;rw[HR3.out,if_neg hl0]
   clear HR3;have hcase:((lc:Int)==0)=false\/((lk:Int)==0)=false:=by
    by_cases h:lc=0
    .right;rw[CJ];omega
    .left;rw[CJ];omega
   clear hl0;rcases hcase with hq | hq
   .go_wp2
    all_goals go_ret
    all_goals exact⟨by rw[HX.out,Pn AU];rfl,AX⟩
   .go_wp2
    all_goals go_ret
    all_goals exact⟨by rw[HX.out,Pn AU];rfl,AX⟩):p:=h
theorem v9 (x:Stil.B5)(s q O H:Value)(w:World)(hr:Ed w)(z:Ak w s x.net.one.args)(u:Eo w q x.net.kids)(L:F6 w O x.coils)(N:Dc w H x.kids)(J:Ba x):
  Calls prog 133 #[.agg #[.int .i64 x.net.kind, .int .i64 x.net.one.op,s,q,O,H]] w λe T=>e=.returned (errOf (Cb x))/\Below w.heap.size w T:=by
 obtain⟨n,coils,kids⟩:=x;simp only at z u L N ⊢;obtain⟨j,G,C,S,_⟩:=G9 J;simp only at j G C S;have k:=Ab (λW hW=>Sj n s q W (z.below hW) (u.below hW) j);have f:=Ab (λW hW=>v8 n s q W (hr.below hW) (z.below hW) (u.below hW) j);have kX:=Ab C;have HRR:=Ab (λW (h:Below w.heap.size w W)=>hr.below h);obtain⟨p0,r0,rfl,_⟩:=z;obtain⟨p1,r1,rfl,_⟩:=u;obtain⟨p2,r2,rfl,M⟩:=L;obtain⟨p3,r3,rfl,_⟩:=N;have yB:=Ab M;have d:Hid (Cb ⟨n,coils,kids⟩=if Ai n=false/\0<Aj n then Aj n else if Dn coils then 3 else if coils.length=0/\kids.length=0 then 5 else 0):=rfl;obtain⟨E,F⟩:∃E,E=Ai n:=⟨_,rfl⟩
 obtain⟨t,Q⟩:∃t,t=Aj n:=⟨_,rfl⟩
 rw[<-F] at k d;rw[<-Q] at f d;obtain⟨lc,D⟩:∃lc,lc=coils.length:=⟨_,rfl⟩
 obtain⟨lk,I⟩:∃lk,lk=kids.length:=⟨_,rfl⟩
 have qB:=Ab D;rw[<-D] at G d ⊢;rw[<-I] at S d ⊢;obtain⟨R,P⟩:∃R,R=Cb ⟨n,coils,kids⟩:=⟨_,rfl⟩
 rw[<-P] at d ⊢;clear J j C M F Q D I P hr;cases E
 .by_cases g:0<t
  .have HX:Hid (R=t):=by show _=_;rw[d.out];simp[g]
   rw[Ll g] at f;go_enter func133,ntmps133
   go_wp2_with (first | (go_at_call 105;refine(k _ AX).mono ?_;rintro e A ⟨rfl,c⟩;obtain⟨l,r⟩:=Ff c) | (go_at_call 159;refine(f _ AX).mono ?_;rintro e K ⟨rfl,B⟩))
   go_ret;exact⟨by rw[HX.out,Ll g];rfl,AX⟩
  .have HR2:Hid (R=if Dn coils then 3 else if lc=0/\lk=0 then 5 else 0):=by show _=_;rw[d.out];simp[g]
   rw[Pn g] at f;clear d;go_enter func133,ntmps133
   go_wp2_with (first | (go_at_call 105;refine(k _ AX).mono ?_;rintro e A ⟨rfl,c⟩;obtain⟨l,r⟩:=Ff c;have X:w.heap.size<A.heap.size:=B8 AW c.size) | (go_at_call 159;refine(f _ AX).mono ?_;rintro e K ⟨rfl,B⟩;obtain⟨U,V⟩:=Ff B))
   have hbs:Below (w.heap.size+1) (w.alloc (.cells #[.int .i64 n.kind, .int .i64 n.one.op, .slice p0 n.one.args.length r0, .slice p1 n.kids.length r1, .slice p2 lc r2, .slice p3 lk r3] 60)) K:=by
    have h1:=c.size;simp only[World.size_alloc] at c h1;exact c.trans (B.mono h1)
   clear c B l r U V X;go_loopw [19] (λi wr=>∃m:Nat,m<=lc/\i=.int .i64 m/\Dn coils=Dn (coils.drop m)/\Below (w.heap.size+1) (w.alloc (.cells #[.int .i64 n.kind, .int .i64 n.one.op, .slice p0 n.one.args.length r0, .slice p1 n.kids.length r1, .slice p2 lc r2, .slice p3 lk r3] 60)) wr) (λi _=>lc - (intOf i).toNat)
   case atStart=>exact⟨0,AU,rfl,rfl,hbs⟩
   case round=>exact za
 .have HR2:Hid (R=if Dn coils then 3 else if lc=0/\lk=0 then 5 else 0):=by show _=_;rw[d.out];simp
  clear d f;go_enter func133,ntmps133
  go_wp2_with (go_at_call 105;refine(k _ AX).mono ?_;rintro e A ⟨rfl,c⟩;obtain⟨l,r⟩:=Ff c)
  have hbs:Below (w.heap.size+1) (w.alloc (.cells #[.int .i64 n.kind, .int .i64 n.one.op, .slice p0 n.one.args.length r0, .slice p1 n.kids.length r1, .slice p2 lc r2, .slice p3 lk r3] 60)) A:=by simpa using c
  clear c l r;go_loopw [19] (λi wr=>∃m:Nat,m<=lc/\i=.int .i64 m/\Dn coils=Dn (coils.drop m)/\Below (w.heap.size+1) (w.alloc (.cells #[.int .i64 n.kind, .int .i64 n.one.op, .slice p0 n.one.args.length r0, .slice p1 n.kids.length r1, .slice p2 lc r2, .slice p3 lk r3] 60)) wr) (λi _=>lc - (intOf i).toNat)
  case atStart=>exact⟨0,AU,rfl,rfl,hbs⟩
  case round=>exact za
end
section
open Go.RowKit Go.Sort Go.BigFrame Go.Shelf
attribute [local go_sem] Oper.semAt_some
theorem sB (x:Stil.B5)(P E Y kv:Value)(w:World)(hr:Ed w)(F:Ak w P x.net.one.args)(Q:Eo w E x.net.kids)(X:F6 w Y x.coils)(aa:Dc w kv x.kids)(hf:Ba x):
  Calls prog 100 #[.agg #[.int .i64 x.net.kind, .int .i64 x.net.one.op,P,E,Y,kv]] w λe w'=>e=.returned (errOf (Ey x))/\Below w.heap.size w w':=by
 have r:Hid (Ey x=if Ai x.net then 4 else Bo x):=rfl;have qH:Hid (Ap ((Dy [x]).map Cb)=Bo x):=by
  show _=_
  rw[<-SE];simp[Dy]
 have aJ:=Ab (λW hW=>Sj x.net P E W (F.below hW) (Q.below hW) (G9 hf).1);have al:=Ab (λW (h:Below w.heap.size w W)=>hr.below h);have eU:Hid (Ak w P x.net.one.args/\Eo w E x.net.kids/\F6 w Y x.coils/\Dc w kv x.kids):=⟨F,Q,X,aa⟩
 obtain⟨M,O,rfl,_⟩:=F;obtain⟨I,J,rfl,_⟩:=Q;obtain⟨p2,Z,rfl,_⟩:=X;obtain⟨V,U,rfl,_⟩:=aa;obtain⟨R,hR⟩:∃R,R=Ey x:=⟨_,rfl⟩
 obtain⟨z,hz⟩:∃z,z=Bo x:=⟨_,rfl⟩
 obtain⟨nn,ai⟩:∃nn,nn=Ai x.net:=⟨_,rfl⟩
 rw[<-hR] at r ⊢;rw[<-hz] at r qH;rw[<-ai] at r aJ;clear hR hz ai;refine(callsIn_wide (n:=9)).1 ?_;cases nn
 .have HX:Hid (R=z):=by show _=_;rw[r.out];simp
  clear r;refine callsIn_of_wp_marks func100 rfl trivial ?_ rfl;simp only[ntmps100,CS,CC,CM,Nat.reduceAdd,Nat.reduceSub,DF,DG,DJ,DI,C3,CY]
  gi_wp2_with (first | (refine⟨trivial,?_⟩;gi_at_call 105;refine(callsIn_wide.2 (aJ _ AX)).mono ?_;rintro e d ⟨rfl,o⟩;obtain⟨yu,yj⟩:=Ff o) | (refine⟨trivial,?_⟩;gi_at_call 131;refine(callsIn_wide.2 (TS _ _ _ _)).mono ?_;rintro e f ⟨A,K,rfl,aw,ax,hA,l,hb⟩))
  have az:Below w.heap.size w d:=AX;have ak:Below w.heap.size w f:=AX;have h9:=o.size;have h1:=hb.size;simp only[World.size_alloc] at aw ax h9 h1;have x0:f.cell? ⟨d.heap.size,0,none⟩=some (.int .i64 x.net.kind):=A3 hb;have x1:f.cell? ⟨d.heap.size,1,none⟩=some (.int .i64 x.net.one.op):=A3 hb;have x2:f.cell? ⟨d.heap.size,2,none⟩=some (.slice M x.net.one.args.length O):=A3 hb;have x3:f.cell? ⟨d.heap.size,3,none⟩=some (.slice I x.net.kids.length J):=A3 hb;have x4:f.cell? ⟨d.heap.size,4,none⟩=some (.slice p2 x.coils.length Z):=A3 hb;have x5:f.cell? ⟨d.heap.size,5,none⟩=some (.slice V x.kids.length U):=A3 hb;have ar:f.cell? ⟨w.heap.size+1,0,none⟩=some .nilIface:=by
   rw[hb.cell (p:=⟨w.heap.size+1,0,none⟩) Ax,(Aa d _).cell (p:=⟨w.heap.size+1,0,none⟩) (show w.heap.size+1<d.heap.size by omega),o.cell (p:=⟨w.heap.size+1,0,none⟩) AW];simp[go_sem]
  have ao:f.frozen? ⟨w.heap.size+1,0,none⟩=false:=by
   rw[hb.frozen (p:=⟨w.heap.size+1,0,none⟩) Ax,(Aa d _).frozen (p:=⟨w.heap.size+1,0,none⟩) (show w.heap.size+1<d.heap.size by omega),o.frozen (p:=⟨w.heap.size+1,0,none⟩) AW];simp[go_sem]
  have aB:w.heap.size+2<=f.heap.size:=AU
  have bW:Ls w (λ_=>False) f (.slice (some ⟨d.heap.size,0,none⟩) 1 1) [x]:=by
   refine⟨_,1,rfl,λi hi=>⟨d.heap.size,0,rfl,(λh=>h), .slice M x.net.one.args.length O, .slice I x.net.kids.length J, .slice p2 x.coils.length Z, .slice V x.kids.length U,?_⟩⟩;obtain rfl:i=0:=by simpa using hi
   simp only[ER,Cd,FM];exact⟨x0,x1,x2,x3,x4,x5,eU.out⟩
  have HS:Hid (SeqStopsK Fence.wide (9 - 1) prog 167 #[.pointer (some ⟨K,0,none⟩), .pointer (some ⟨A,0,none⟩)] (λy:P7 w Ba=>#[Value.agg #[.int .i64 y.arm.net.kind, .int .i64 y.arm.net.one.op,y.av,y.nv,y.cv,y.kv]]) (Kept w.heap.size (λ_=>False)) (λys=>ys.map P7.arm=Dy [x]) (λpre=>pre.map P7.arm<+:Dy [x]) (Dy [x]).length f):=
   V0 w Ba (λy hy=>⟨(G9 hy).2.2.2.1,(G9 hy).2.2.2.2⟩) (λ_=>False) (λ_ h=>h.elim) 0 A K (λ_ h=>h.elim) (λh=>h) (λh=>h) [x] AW (by simpa using hf) _ f ak (DK _) bW hA l _
  clear bW hb o yu yj x0 x1 x2 x3 x4 x5 hA l hf;refine wpIn_rangeFunc_ownH rfl AZ (gf:=167) (lb:=#[.pointer (some ⟨K,0,none⟩), .pointer (some ⟨A,0,none⟩)]) rfl trivial (enters_of func167 AY rfl)
   HS Kept.t (Kept.b AU) (Below.refl _ _) (λ_=>rfl)
   (λpre W=>((W.cell? ⟨w.heap.size+1,0,none⟩=some .nilIface/\W.frozen? ⟨w.heap.size+1,0,none⟩=false)/\Below w.heap.size w W)/\¬0<Ap (pre.map (Cb ∘ P7.arm))/\f.heap.size<=W.heap.size)
   (λc pre W=>(c=.ret/\∃k,0<k/\Ap (pre.map (Cb ∘ P7.arm))=k/\W.cell? ⟨w.heap.size+1,0,none⟩=some (.iface 144 (.int .i64 k)))/\Below w.heap.size w W)
   (OwnFrom.and (OwnFrom.and (Own.from (λs A ab row j m hr=>⟨cell_kept j.1 m hr,(frozen_kept j.1 m hr).trans j.2⟩) _) (ownFrom_below (B7 _) AU)) (OwnFrom.and (ownFrom_pure _ _) (λ_ _ _ _ j m _=>CB j m.size)))
   (λc=>OwnFrom.and (Own.from (λs A ab row j m hr=>⟨j.1,j.2.elim λt ht=>⟨t,ht.1,ht.2.1,cell_kept ht.2.2 m hr⟩⟩) _) (ownFrom_below (B7 _) AU))
   ⟨⟨⟨ar,ao⟩,ak⟩,by simp[Ap],B7 _⟩
   (λy a' W=>∃u,f.heap.size<=u/\PY W u y.arm.net.kind y.arm.net.one.op y.av y.nv y.cv y.kv/\a'={tmps:=#[.agg #[.int .i64 x.net.kind, .int .i64 x.net.one.op, .slice M x.net.one.args.length O, .slice I x.net.kids.length J, .slice p2 x.coils.length Z, .slice V x.kids.length U], .pointer (some ⟨w.heap.size,0,none⟩), .pointer (some ⟨w.heap.size+1,0,none⟩), .pointer (some ⟨u,0,none⟩),undef, .pointer (some ⟨w.heap.size,0,none⟩), .agg #[.int .i64 x.net.kind, .int .i64 x.net.one.op, .slice M x.net.one.args.length O, .slice I x.net.kids.length J], .bool false,undef, .agg #[.int .i64 x.net.kind, .int .i64 x.net.one.op, .slice M x.net.one.args.length O, .slice I x.net.kids.length J, .slice p2 x.coils.length Z, .slice V x.kids.length U], .slice (some ⟨d.heap.size,0,none⟩) 1 1, .func (.func 167) #[] #[.pointer (some ⟨K,0,none⟩), .pointer (some ⟨A,0,none⟩)], .agg #[.int .i64 y.arm.net.kind, .int .i64 y.arm.net.one.op,y.av,y.nv,y.cv,y.kv],undef,undef,undef,undef,undef],defers:=[]})
   (λy a' s A ab row j m hr=>j.elim λu hx=>⟨u,hx.1,VA (β:=Unit) u _ _ _ _ _ _ s A ab row hx.2.1 m (λag e=>(hr ag e).2),hx.2.2⟩) ?assign ?body ?done ?stop
  case assign=>
   rintro ad pre y W KK ⟨⟨⟨g,H⟩,C⟩,q,an⟩ aA;obtain⟨y,P,E,Y,kv,F,Q,X,aa,mJ⟩:=y;obtain⟨q0,s0,rfl,_⟩:=id F;obtain⟨q1,s1,rfl,_⟩:=id Q;obtain⟨q2,s2,rfl,_⟩:=id X;obtain⟨q3,s3,rfl,_⟩:=id aa
   gi_wp2
   exact aA _ _ ((KeepsOthers.alloc _ _).from _) (Kept.of_below C.size (Aa _ _)) ⟨⟨⟨Nw _ g,Ot _ g H⟩,AX⟩,q,by simp;omega⟩ ⟨W.heap.size,AU,⟨by simp[go_sem],by simp[go_sem],by simp[go_sem],by simp[go_sem],by simp[go_sem],by simp[go_sem]⟩,rfl⟩
  case body=>
   rintro ad pre y a' W ay _ ⟨⟨⟨g,H⟩,C⟩,q,an⟩ ⟨u,aC,⟨y0,y1,y2,y3,y4,y5⟩,rfl⟩ ap;have T:=Aq g;have hn:w.heap.size<=W.heap.size:=AU
   have B:=Ab (λah N=>v9 y.arm y.av y.nv y.cv y.kv ah (al ah N) (y.hav.below N) (y.hnv.below N) (y.hcv.below N) (y.hkv.below N) y.mem);have S:Hid (Ap ((pre++[y]).map (Cb ∘ P7.arm))=if 0<Cb y.arm then Cb y.arm else 0):=RI _ _ _ q;obtain⟨q0,s0,e0,_⟩:=id y.hav;obtain⟨q1,s1,e1,_⟩:=id y.hnv;obtain⟨q2,s2,e2,_⟩:=id y.hcv;obtain⟨q3,s3,e3,_⟩:=id y.hkv;rw[e0,e1,e2,e3] at B;rw[e0] at y2;rw[e1] at y3;rw[e2] at y4;rw[e3] at y5;obtain⟨L,aj⟩:∃L,L=Cb y.arm:=⟨_,rfl⟩
   rw[<-aj] at B S;clear aj e0 e1 e2 e3 ap ay q;by_cases G:0<L
   .rw[Ll G] at B
    have HX:Hid (Ap ((pre++[y]).map (Cb ∘ P7.arm))=L):=by show _=_;rw[S.out,if_pos G]
    clear S
    gi_wp2_with (refine⟨trivial,?_⟩;gi_at_call 133;refine(CallsIn.inRound ad (callsIn_wide.2 (B _ AX))).mono ?_;rintro e W2 ⟨rfl,hb2⟩;have c2:=(hb2.cell (p:=⟨w.heap.size+1,0,none⟩) T).trans g;have z2:=(hb2.frozen (p:=⟨w.heap.size+1,0,none⟩) T).trans H)
    exact⟨by(repeat (first | with_reducible exact KeepsFrom.refl _ _ | with_reducible refine Vy ?_ _ _ | with_reducible refine P9 ?_ | with_reducible refine Lp ?_ _ | with_reducible refine Qa ?_ Bm)),⟨rfl,L,G,HX.out,Fp c2⟩,AX⟩
   .rw[Pn G] at B
    have HX:Hid (Ap ((pre++[y]).map (Cb ∘ P7.arm))=0):=by show _=_;rw[S.out,if_neg G]
    clear S
    gi_wp2_with (refine⟨trivial,?_⟩;gi_at_call 133;refine(CallsIn.inRound ad (callsIn_wide.2 (B _ AX))).mono ?_;rintro e W2 ⟨rfl,hb2⟩;have c2:=(hb2.cell (p:=⟨w.heap.size+1,0,none⟩) T).trans g;have z2:=(hb2.frozen (p:=⟨w.heap.size+1,0,none⟩) T).trans H)
    exact zoa
  case done=>
   rintro D ys W hD hS ⟨⟨⟨g,H⟩,C⟩,q,_⟩ l;rw[<-FY,hS,qH.out] at q;have HY:Hid (errOf R=.nilIface):=by show _=_;rw[HX.out,Pn q]
   gi_wp2
   have ac:=(KeepsOthers.setCell W ⟨w.heap.size+1,0,none⟩ .nilIface).same D _ l rfl;refine⟨AW, .inl ⟨_,_,rfl,run_takeDeferred ac,?_⟩⟩;have ae:=cell_kept (Fp g (v:=.nilIface)) (grownBy_putObj' _ D (.deferred none)) (λag e=>by cases e;exact⟨_,ac,rfl⟩);refine⟨.nilIface,?_,by rw[HY.out],(C.setCell (p:=⟨w.heap.size+1,0,none⟩) AW _).trans (belowK_b (w:=w) (B7 _) _ D _ _ AU ac rfl rfl)⟩;simp[results,Tryz.f100,go_sem,ae]
  case stop=>
   rintro D c pre W hD au ⟨⟨rfl,k,hk,af,g⟩,C⟩ l;have yP:z=k:=by
    rw[<-FY] at af;have:=Xd Cb au (by rw[af];exact hk)
    rw[qH.out,af] at this;exact this
   have HY:Hid (errOf R=.iface 144 (.int .i64 k)):=by show _=_;rw[HX.out,yP,Ll hk]
   gi_wp2
   refine⟨AW, .inl ⟨_,_,rfl,run_takeDeferred l,?_⟩⟩;have ae:=cell_kept g (grownBy_putObj' _ D (.deferred none)) (λag e=>by cases e;exact⟨_,l,rfl⟩);refine⟨.iface 144 (.int .i64 k),?_,by rw[HY.out],C.trans (belowK_b (w:=w) (B7 _) W D _ _ AU l rfl rfl)⟩;simp[results,Tryz.f100,go_sem,ae]
 .have HX:Hid (R=4):=by show _=_;rw[r.out];simp
  clear r;refine callsIn_of_wp_marks func100 rfl trivial ?_ rfl;simp only[ntmps100,CS,CC,CM,Nat.reduceAdd,Nat.reduceSub,DF,DG,DJ,DI,C3,CY]
  gi_wp2_with (refine⟨trivial,?_⟩;gi_at_call 105;refine(callsIn_wide.2 (aJ _ AX)).mono ?_;rintro e d ⟨rfl,o⟩;have c9:d.cell? ⟨w.heap.size+1,0,none⟩=some .nilIface:=(A3 o);have z9:d.frozen? ⟨w.heap.size+1,0,none⟩=false:=(A4 o))
  refine⟨.iface 144 (.int .i64 4),?_,by rw[HX.out,Ll AU],AX⟩;simp[results,Tryz.f100,go_sem,c9]
end
open Go.RowKit Go.Sort Go.BigFrame
def lookOf (many:Bool)(p:Int × Nat):Value:=if many then .iface 144 (.int .i64 1) else if 0<p.1 then .iface 147 (.agg #[.int .i64 p.2, .iface 144 (.int .i64 p.1)]) else .nilIface
theorem rS (l:List Stil.B5)(F:Value)(w:World)(hr:Ed w)(m:Dc w F l)(hl:l.length<=1048576)(P:Bc l<=1000000000)(A:∀x∈l,Ba x):
  Calls prog 64 #[F] w λe w'=>e=.returned (lookOf (decide (40<l.length\/400<Bc l)) (Ec l 0))/\Below w.heap.size w w':=by
 have t:=Ab (λW c=>nA l F 400 W (m.below c) A hl P AU AU);have HF:=Ab A;have ab:=Ab (λW (h:Below w.heap.size w W)=>hr.below h);obtain⟨a,cap,rfl,S⟩:=m;have HC:=Ab S;obtain⟨d,D⟩:∃d,d=l.length:=⟨_,rfl⟩
 obtain⟨z,T⟩:∃z,z=Bc l:=⟨_,rfl⟩
 have L:=Ab D;rw[<-D] at hl t ⊢;rw[<-T] at t P ⊢;obtain⟨Q,I⟩:∃Q,Q=Ec l 0:=⟨_,rfl⟩
 rw[<-I];have u:=Ab I;obtain⟨R,E⟩:∃R,R=lookOf (decide (40<d\/400<z)) Q:=⟨_,rfl⟩
 rw[<-E];have g:=Ab E;clear S A D T I E hr;by_cases h1:40<d
 .have f:Hid (R=.iface 144 (.int .i64 1)):=by show _=_;rw[g.out,EN (.inl h1)];rfl
  clear g u;go_enter func64,ntmps64
  go_wp2
  go_ret;exact⟨by rw[f.out];rfl,AX⟩
 .by_cases h2:400<z
  .have f:Hid (R=.iface 144 (.int .i64 1)):=by show _=_;rw[g.out,EN (.inr h2)];rfl
   clear g u;go_enter func64,ntmps64
   go_wp2_with (go_at_call 99;refine(t _ AX).mono ?_;rintro e Z ⟨aa,rfl,_,K,ac,N⟩;have ae:=K AU;clear K)
   go_ret;exact⟨by rw[f.out];rfl,AX⟩
  .have f:Hid (R=lookOf false Q):=by show _=_;rw[g.out,FO AU]
   clear g;go_enter func64,ntmps64
   go_wp2_with (go_at_call 99;refine(t _ AX).mono ?_;rintro e Z ⟨aa,rfl,ad,_,ac,N⟩;have ae:¬(400:Int)<aa:=AU;clear ad)
   have X:Below w.heap.size w Z:=AX;clear N;go_loopw [17] (λi wr=>∃j:Nat,j<=d/\i=.int .i64 j/\Q=Ec (l.drop j) j/\Below w.heap.size w wr) (λi _=>d - (intOf i).toNat)
   case atStart=>exact⟨0,AU,rfl,u.out,X⟩
   case round=>
    clear X u;obtain⟨j,hj,rfl,M,v⟩:=hrel;have J:=Ab M;clear M;by_cases ah:j<d
    .have G:j<l.length:=by have:=L.out;omega
     obtain⟨b,o,rfl,ag,V⟩:=HC j G;obtain⟨U,sN,sK,x4,x5,C,m⟩:=(P5.below v _ _ _ V ag).open;obtain⟨x0,x1,nV,sJ,x2,x3,y,H⟩:=U.open;have k:=Ab (λW c=>sB l[j] nV sJ sN sK W (ab W (v.trans (c.mono v.size))) (y.below c) (H.below c) (C.below c) (m.below c) (HF _ (CG G)));have B:Hid (Q=if 0<Ey l[j] then(Ey l[j],j) else Ec (l.drop (j+1)) (j+1)):=by show _=_;rw[J.out,Yh l j G]
     obtain⟨s,Y⟩:∃s,s=Ey l[j]:=⟨_,rfl⟩
     obtain⟨x,O⟩:∃x,x=l[j]:=⟨_,rfl⟩
     rw[<-Y] at k B;rw[<-O] at k x0 x1 y H C m;obtain⟨t0,u0,rfl,_⟩:=y;obtain⟨t1,u1,rfl,_⟩:=H;obtain⟨t2,u2,rfl,_⟩:=C;obtain⟨t3,u3,rfl,_⟩:=m;clear Y O V U J;by_cases q:0<s
     .have r:Hid (R=.iface 147 (.agg #[.int .i64 j, .iface 144 (.int .i64 s)])):=by show _=_;rw[f.out,B.out,if_pos q];unfold lookOf;simp[q]
      rw[Ll q] at k
      go_wp2_with (go_at_call 100;refine(k _ AX).mono ?_;rintro e w4 ⟨rfl,af⟩)
      go_ret;exact⟨by rw[r.out];rfl,AX⟩
     .have r:Hid (Q=Ec (l.drop (j+1)) (j+1)):=by show _=_;rw[B.out,if_neg q]
      rw[Pn q] at k
      go_wp2_with (go_at_call 100;refine(k _ AX).mono ?_;rintro e w4 ⟨rfl,af⟩)
      exact⟨⟨j+1,AU,by go_num,r.out,AX⟩,by simp[intOf];omega⟩
    .have r:Hid (R=.nilIface):=by show _=_;rw[f.out,J.out,GH (by have:=L.out;omega)];rfl
     go_wp2
     go_ret;exact⟨by rw[r.out];rfl,v⟩
