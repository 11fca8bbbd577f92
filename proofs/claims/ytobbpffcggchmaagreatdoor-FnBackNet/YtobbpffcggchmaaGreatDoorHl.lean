import Derived.Test.YtobbpffcggchmaaGreatDoorHk
set_option maxHeartbeats 4000000
set_option maxRecDepth 100000
namespace Go.Proofs.YtobbpffcggchmaaGreatDoor
open Tryz
open Go.RowKit Go.Sort Go.BigFrame
variable {E:Prop}{P P' cap g k lo m n q s:Nat}{W W':World}{a:Act}{av v:Value}{c:Int}{news xs:List Value}{o:Oper}{ops:Array Oper}{rest:List Oper}{α:Type}
def Cc (q:Nat)(w W:World)(g P:Nat)(v:Value)(n:Nat):Prop:=∃(l:List Stil.F7) (xs:List Value),W.ownsRow w.heap.size 48 3 v l.length xs/\RowOf 3 (Nq (Off g v) W) xs l/\(∀i∈l,Pv i/\i.one.args.length<=q)/\l.length<=n/\Kq W g P/\w.grownBy W (some g)
def Sj (W:World)(g:Nat)(v:Value)(b:Nat)(i:Stil.F7):Prop:=Off g v b/\b<W.heap.size/\Anb (Off g v) W b 0 i
theorem Cc.grown {w:World}(h:Cc q w W g P v n)(hg:W.grownBy W' (some g))(j:g<w.heap.size)(hr:Kq W' g P'):Cc q w W' g P' v n:=by
 obtain⟨l,xs,a,b,c,d,e,f⟩:=h;exact⟨l,xs,Ku a hg j,b.imp λ_ _ _ h=>h.keep (Bf.of_grown hg λb i e=>by have:=i.1;simp only[A96] at e;omega),c,d,hr,Rt f hg⟩
theorem Cc.below {w:World}(h:Cc q w W g P v n)(i:Below W.heap.size W W')(j:g<w.heap.size):Cc q w W' g P v n:=by
 obtain⟨l,xs,a,b,c,d,e,f⟩:=id h;exact h.grown (grown_below i _) j (P5 e (grown_below i none) spz)
theorem Cc.later {w:World}{i:Nat}(h:Cc q w W g P v n)(h1:P<=P')(j:n<=i):Cc q w W g P' v i:=by
 obtain⟨l,xs,a,b,c,d,e,f⟩:=h;exact⟨l,xs,a,b,c,omz,U9 e h1,f⟩
theorem Cc.rd {w:World}(h:Cc q w W g P v n):Kq W g P:=by
 obtain⟨l,xs,a,b,c,d,e,f⟩:=h;exact e
theorem Cc.list {w:World}(h:Cc q w W g P v n)(j:g<w.heap.size):Abv q (.returned v) w W g P n:=by
 obtain⟨l,xs,a,b,c,d,e,f⟩:=h;exact⟨l,v,rfl,Agg a (b.imp λ_ _ _ h=>h.mono λb _ i=>i.1) λb i=>by have:=(a.lt _ i).1;omega,c,d,e,Ags f omz⟩
theorem Sj.grown {b:Nat}{i:Stil.F7}(h:Sj W g v b i)(hg:W.grownBy W' (some g)):Sj W' g v b i:=by
 obtain⟨a,c,d⟩:=h;exact⟨a,A82 c hg.size,d.keep (Bf.of_grown hg λb f e=>by have:=f.1;simp only[A96] at e;omega) a c⟩
theorem Sj.below {b:Nat}{i:Stil.F7}(h:Sj W g v b i)(d:Below W.heap.size W W'):Sj W' g v b i:=h.grown (grown_below d _)
theorem Sj.cells {b:Nat}{i:Stil.F7}(h:Sj W g v b i):b<W.heap.size/\∃(a:Option Addr) (c:Nat),W.cell? ⟨b,0,none⟩=some (.int .i64 i.code)/\W.cell? ⟨b,1,none⟩=some (.int .i64 i.one.op)/\W.cell? ⟨b,2,none⟩=some (.slice a i.one.args.length c)/\Ej (Off g v) W (.slice a i.one.args.length c) i.one.args:=by
 obtain⟨a,c,d,e,av,f,hd⟩:=h;obtain⟨j,l,rfl,-⟩:=id hd;exact⟨c,j,l,by simpa using d,by simpa using e,by simpa using f,hd⟩
theorem zR {p:Prop}(h:p:=by
 rintro b i ⟨p1,p2,p3,p4,av,p5,p6⟩
 have hkb:Bf (Off g v) W w':=Td bI;have hd:Ej (Off g v') w' av i.one.args:=by
  have h1:Ej (λb=>Off g v b/\Off g v' b) W av i.one.args:=p6.mono λb hb hp=>⟨hp,Ot hat b hb hp⟩
  exact(h1.keep (Qi hkb λb _ hp=>hp.1)).mono λb _ hp=>hp.2
 have e:w'.heap[b]?=W.heap[b]?:=bI.block b p2 (λe=>p1.2 e.symm);have hc:∀o,w'.cell? ⟨b,o,none⟩=W.cell? ⟨b,o,none⟩:=λo=>by unfold World.cell?;rw[e]
 exact⟨Ot hat b p2 p1,A82 p2 bI.size,(hc _).trans p3,(hc _).trans p4,av,(hc _).trans p5,hd⟩):p:=h
theorem Lp {Q:Exit->Act->World->Prop}(R:o.guard=none)(s x:Operand)
  (I:o.op=.call {callee:=.builtin .append,args:=#[s,x],argTypes:=#[23,23]}) (w W:World) (g P n:Nat) (v:Value) (J:a.eval s=v) (H:Cc q w W g P v n) (U:g<w.heap.size)
  (es:List Stil.F7) (ad:Addr) (m c:Nat) (news:List Value) (S:m=es.length) (hx:a.eval x=.slice (some ad) m c) (z:RowOf 3 (Nq (Off g v) W) news es) (N:∀j u,news[j]?=some u->W.cell? (ad.add j)=some u) (h1:∀u∈news,u.oneCell'=true)
  (C:∀i∈es,Pv i/\i.one.args.length<=q) (V:n+es.length<=1000000)
  (h:∀v' w',Cc q w w' g P v' (n+es.length)->(∀b i,Sj W g v b i->Sj w' g v' b i)->wpList prog ops Q rest (a.put o.dst v') w'):wpList prog ops Q (o::rest) a W:=by
 subst S;obtain⟨G,hi,L,K,M⟩:=info_parts Ov;obtain⟨l,xs,r,D,A,T,F,t⟩:=H;refine wpList_append_own_at W R s x 23 I w.heap.size 48 G (.agg #[.int .i64 0, .int .i64 0, .slice none 0 0]) 3 40 underlying23 hi L K M rfl dcz v l.length xs J r ad es.length c news hx z.1 N h1 yAe omz t.size ?_;intro v' w' O bI _ hat;have y:∀k,v.ownBlock=some k->w.heap.size<=k:=λk d=>(r.lt k d).1
 have d:∀f e,Nq (Off g v) W f e->Nq (Off g v') w' f e:=λf e h=>by
  have h1:Nq (λb=>Off g v b/\Off g v' b) W f e:=h.mono λb hb hp=>⟨hp,Ot hat b hb hp⟩
  exact(h1.keep (Qi (Td (B:=g) bI) λb _ hp=>hp.1)).mono λb _ hp=>hp.2
 refine h v' w' ⟨l++es,xs++news,by simpa using O,(D.append z).imp λf e _=>d f e,λi hi=>?_,by simp;omega,P5 F bI (λk d=>by have:=y k d;omega),?_⟩ ?_
 ·rcases List.mem_append.1 hi with h | h
  ·exact A i h
  ·exact C i h
 ·exact Tn t bI (λk d=>y k d)
 ·exact zR
theorem A2s (w:World)(h:Kq w g P):Cc q w (w.alloc (.cells #[] 48)) g P (.slice (some ⟨w.heap.size,0,none⟩) 0 0) 0:=by
 have b:(w.alloc (.cells #[] 48)).ownsRow w.heap.size 48 3 (.slice (some ⟨w.heap.size,0,none⟩) 0 0) 0 []:=by
  have:=World.ownsRow_lit (base:=w.heap.size) (e:=48) (size:=3) w #[] 0 omz yAe rfl
  simpa using this
 exact⟨[],[],b,RowOf.nil _ _,λ_ h=>yBb,spz,E8 h _,grown_below (Aa _ _) _⟩
theorem Sj.new {i:Stil.F7}{a:Option Addr}{c:Nat}(hd:Ej (Off g v) W (.slice a i.one.args.length c) i.one.args)(hg:g<W.heap.size)(d:∀b,v.ownBlock=some b->b<W.heap.size):Sj (W.alloc (.cells #[.int .i64 i.code, .int .i64 i.one.op, .slice a i.one.args.length c] 48)) g v W.heap.size i:=by
 refine⟨⟨hg,λe=>by have:=d _ e;omega⟩,spz,by simp[go_sem],by simp[go_sem],_,by simp[go_sem],hd.keep (Bf.of_below (Aa _ _))⟩
theorem Akk (h:1<=c/\c<=11):Pv ⟨c,⟨0,[]⟩⟩/\([]:List Stil.Dev).length<=3:=⟨⟨by simp only;omega,spz,λ_ h=>yBb,spz⟩,spz⟩
theorem Cc.at {w:World}{b:Nat}(h:Cc q w W g P (.slice (some ⟨b,0,none⟩) m cap) n)(r:k<m):∃(e:Stil.F7) (a:Option Addr) (c:Nat),(W.cell? ⟨b,k*3,none⟩=some (.int .i64 e.code)/\W.cell? ⟨b,k*3+1,none⟩=some (.int .i64 e.one.op)/\W.cell? ⟨b,k*3+2,none⟩=some (.slice a e.one.args.length c))/\(W.frozen? ⟨b,k*3,none⟩=false/\W.frozen? ⟨b,k*3+1,none⟩=false/\W.frozen? ⟨b,k*3+2,none⟩=false)/\Ej (Off g (.slice (some ⟨b,0,none⟩) m cap)) W (.slice a e.one.args.length c) e.one.args/\(Pv e/\e.one.args.length<=q)/\b<W.heap.size/\w.heap.size<=b:=by
 obtain⟨l,xs,d,u,y,I,G,A⟩:=h;obtain rfl:m=l.length:=by
  obtain⟨x,t,f,-⟩:=Iy d;injection f with J H K
 obtain⟨C,c,f,D,B,F,i⟩:=Cf d omz;simp only[Value.slice.injEq,A96,Addr.mk.injEq] at f;obtain⟨⟨rfl,_⟩,_⟩:=f;obtain⟨av,z,hd⟩:=u.2 k r;obtain⟨x,t,rfl,-⟩:=id hd;have j:=Ag6 u r z;exact⟨l[k],x,t,⟨i _ _ (j 0 _ rfl),i _ _ (j 1 _ rfl),i _ _ (j 2 _ rfl)⟩,⟨d.frozenAt _,d.frozenAt _,d.frozenAt _⟩,hd,y _ (A9a r),(d.lt _ rfl).2,(d.lt _ rfl).1⟩
theorem Ar4 (e b d:Value)(h:k*3+3<=xs.length):(((((xs.set (k*3) e).set (k*3+1) b).set (k*3+2) d).drop (k*3)).take 3=[e,b,d])/\∀j,j<k*3\/k*3+3<=j->(((xs.set (k*3) e).set (k*3+1) b).set (k*3+2) d)[j]?=xs[j]?:=by
 constructor
 ·apply Bbw
  intro j;rw[Ba4];by_cases f:j<3
  ·rw[if_pos f,Ba5]
   have:j=0\/j=1\/j=2:=omz
   rcases this with rfl | rfl | rfl
   ·rw[A9d omz,A9d omz,Ba8,A9s omz];rfl
   ·rw[A9d omz,A9s yAb];rfl
   ·rw[A9s yAb];rfl
  ·rw[if_neg f,Bbc yAb]
 ·intro j f
  rw[A9d omz,A9d omz,A9d omz]
theorem Cc.store {w:World}{b:Nat}{e:Stil.F7}(h:Cc q w W g P (.slice (some ⟨b,0,none⟩) m cap) n)(O:g<w.heap.size)(J:k<m)(hd:Ej (Off g (.slice (some ⟨b,0,none⟩) m cap)) W av e.one.args)(B:Pv e/\e.one.args.length<=q):Cc q w (((W.setCell ⟨b,k*3,none⟩ (.int .i64 e.code)).setCell ⟨b,k*3+1,none⟩ (.int .i64 e.one.op)).setCell ⟨b,k*3+2,none⟩ av) g P (.slice (some ⟨b,0,none⟩) m cap) n:=by
 obtain⟨l,xs,d,t,A,G,F,C⟩:=h;obtain rfl:m=l.length:=by
  obtain⟨R,L,I,-⟩:=Iy d;injection I with x N Q
 have K:w.heap.size<=b:=(d.lt b rfl).1;have r:=d.stored (k*3) (.int .i64 e.code);have u:=r.1.stored (k*3+1) (.int .i64 e.one.op);have y:=u.1.stored (k*3+2) av;have f:Bf (Off g (.slice (some ⟨b,0,none⟩) l.length cap)) W (((W.setCell ⟨b,k*3,none⟩ (.int .i64 e.code)).setCell ⟨b,k*3+1,none⟩ (.int .i64 e.one.op)).setCell ⟨b,k*3+2,none⟩ av):=((Bf.set (λh=>h.2 rfl) _).trans (Bf.set (λh=>h.2 rfl) _)).trans (Bf.set (λh=>h.2 rfl) _);have M:xs.length=l.length*3:=t.1;obtain⟨H,z⟩:=Ar4 (xs:=xs) (k:=k) (.int .i64 e.code) (.int .i64 e.one.op) av omz;refine⟨l.set k e,_,by simpa using y.1,RowOf.set (t.imp λ_ _ _ h=>h.keep f) J spz ⟨av,H,hd.keep f⟩ z,λi hi=>?_,by simpa using G,Zy (Zy (Zy F omz _) omz _) omz _,Tn (Tn (Tn C r.2 ?_) u.2 ?_) y.2 ?_⟩
 ·rcases Bbj hi with x | rfl
  ·exact A i x
  ·exact B
 all_goals
  intro j D;simp only[A96] at D;omega
theorem A15 {w:World}{base:Nat}{e:TypeId}{size b:Nat}(h:w.ownsRow base e size (.slice (some ⟨b,0,none⟩) n cap) n xs)(t:k<=n):w.ownsRow base e size (.slice (some ⟨b,0,none⟩) k cap) k (xs.take (k*size)):=by
 have A:k*size<=n*size:=Bak _ t;rcases h.2 with⟨l,-⟩ | ⟨x,y,cur,d,r,i,z,j,u,f⟩
 ·simp at l
 ·simp only[Value.slice.injEq,A96,Addr.mk.injEq,Bbx,true_and] at d
  obtain⟨rfl,rfl⟩:=d;refine⟨by rw[Ba7,h.1];omega, .inr ⟨b,cap,cur,rfl,r,i,omz,j,u,?_⟩⟩;rw[<-f,List.take_take];congr 1;omega
theorem RowOf.take {R:List Value->α->Prop}{b:List α}(h:RowOf s R xs b)(k:Nat)(d:k<=b.length):RowOf s R (xs.take (k*s)) (b.take k):=by
 have f:k*s<=b.length*s:=Bak _ d;refine⟨by rw[Ba7,Ba7,h.1,Nat.min_eq_left f,Nat.min_eq_left d],λi hi=>?_⟩;rw[Ba7,Nat.min_eq_left d] at hi;have:=h.2 i omz
 rw[List.getElem_take,List.drop_take,List.take_take];have e:s<=k*s - i*s:=by rw[<-Nat.sub_mul];exact Nat.le_mul_of_pos_left _ omz
 rw[Nat.min_eq_left e];exact this
theorem RowOf.drop {R:List Value->α->Prop}{b:List α}(h:RowOf s R xs b)(k:Nat):RowOf s R (xs.drop (k*s)) (b.drop k):=by
 refine⟨by rw[List.length_drop,List.length_drop,h.1,Nat.sub_mul],λi hi=>?_⟩;rw[List.length_drop] at hi;have:=h.2 (k+i) omz
 rw[List.getElem_drop,List.drop_drop,<-Nat.add_mul];exact this
theorem Cc.cut {w:World}{b:Nat}(h:Cc q w W g P (.slice (some ⟨b,0,none⟩) m cap) n)(f:k<=m):Cc q w W g P (.slice (some ⟨b,0,none⟩) k cap) k:=by
 obtain⟨l,xs,d,t,j,B,u,r⟩:=h;obtain rfl:m=l.length:=by
  obtain⟨F,z,y,-⟩:=Iy d;injection y with C A D
 have x:(l.take k).length=k:=by rw[Ba7];omega
 refine⟨l.take k,xs.take (k*3),by rw[x];exact A15 d f,(t.imp λ_ _ _ h=>h.mono λb _ e=>⟨e.1,e.2⟩).take k f,λi hi=>j i (List.mem_of_mem_take hi),omz,u,r⟩
theorem Cc.behind {w:World}{b:Nat}(h:Cc q w W g P (.slice (some ⟨b,0,none⟩) m cap) n)(N:k<=m):∃(x:List Stil.F7) (news:List Value),x.length=m - k/\RowOf 3 (Nq (Off g (.slice (some ⟨b,0,none⟩) m cap)) W) news x/\(∀j u,news[j]?=some u->W.cell? ((⟨b,k*3,none⟩:Addr).add j)=some u)/\(∀u∈news,u.oneCell'=true)/\∀i∈x,Pv i/\i.one.args.length<=q:=by
 obtain⟨l,xs,t,r,A,M,J,H⟩:=h;obtain rfl:m=l.length:=by
  obtain⟨G,C,F,-⟩:=Iy t;injection F with O L z
 refine⟨l.drop k,xs.drop (k*3),by rw[List.length_drop],r.drop k,λj u d=>?_,λu hu=>?_,λi hi=>A i (List.mem_of_mem_drop hi)⟩
 ·rw[Ba5] at d
  have B:k*3+j<xs.length:=(List.getElem?_eq_some_iff.1 d).1;have:=t.cellAt (k*3+j) (by rw[<-t.1];exact B)
  by_cases y:j=0
  ·subst y
   simpa[Addr.add] using this.trans d
  ·simpa[Addr.add,y] using this.trans d
 ·have f:=List.mem_of_mem_drop hu
  obtain⟨j,d,rfl⟩:=List.getElem_of_mem f;have K:xs.length=l.length*3:=r.1;obtain⟨av,D,hd⟩:=r.2 (j / 3) omz;obtain⟨G,C,rfl,-⟩:=id hd;have f:=Ag6 r omz D;have z:j % 3=0\/j % 3=1\/j % 3=2:=omz
  have I:j / 3*3+j % 3=j:=omz
  have e:xs[j]?=some xs[j]:=A9k d;rcases z with h | h | h
  ·have:=f 0 _ rfl
   rw[show j / 3*3+0=j by omega,e] at this;rw[A98 this];rfl
  ·have:=f 1 _ rfl
   rw[show j / 3*3+1=j by omega,e] at this;rw[A98 this];rfl
  ·have:=f 2 _ rfl
   rw[show j / 3*3+2=j by omega,e] at this;rw[A98 this];rfl
theorem Cc.code {w:World}{b:Nat}(h:Cc q w W g P (.slice (some ⟨b,0,none⟩) m cap) n)(M:g<w.heap.size)(f:k<m)(C:-1000000<=c/\c<=1000000):Cc q w (W.setCell ⟨b,k*3,none⟩ (.int .i64 c)) g P (.slice (some ⟨b,0,none⟩) m cap) n:=by
 obtain⟨l,xs,r,e,x,G,D,B⟩:=h;obtain rfl:m=l.length:=by
  obtain⟨O,J,H,-⟩:=Iy r;injection H with A L N
 have I:w.heap.size<=b:=(r.lt b rfl).1;have z:=r.stored (k*3) (.int .i64 c);have u:Bf (Off g (.slice (some ⟨b,0,none⟩) l.length cap)) W (W.setCell ⟨b,k*3,none⟩ (.int .i64 c)):=Bf.set (λh=>h.2 rfl) _;have K:xs.length=l.length*3:=e.1;obtain⟨av,F,hd⟩:=e.2 k f;have y:=Ag6 e f F;have t:=x _ (A9a f);refine⟨l.set k ⟨c,l[k].one⟩,_,by simpa using z.1,RowOf.set (e.imp λ_ _ _ h=>h.keep u) f spz ⟨av,?_,hd.keep u⟩ ?_,λi hi=>?_,by simpa using G,Zy D omz _,Tn B z.2 ?_⟩
 ·apply Bbw
  intro j;rw[Ba4];by_cases d:j<3
  ·rw[if_pos d,Ba5]
   have:j=0\/j=1\/j=2:=omz
   rcases this with rfl | rfl | rfl
   ·rw[Ba8,A9s omz];rfl
   ·rw[A9d omz];exact y 1 _ rfl
   ·rw[A9d omz];exact y 2 _ rfl
  ·rw[if_neg d,Bbc yAb]
 ·intro j d
  rw[A9d omz]
 ·rcases Bbj hi with A | rfl
  ·exact x i A
  ·exact⟨⟨C,t.1.2⟩,t.2⟩
 ·intro j d
  simp only[A96] at d;omega
theorem Cc.one {w:World}{b:Nat}{o:Stil.Elem}(h:Cc q w W g P (.slice (some ⟨b,0,none⟩) m cap) n)(Q:g<w.heap.size)(f:k<m)(hd:Ej (Off g (.slice (some ⟨b,0,none⟩) m cap)) W av o.args)(x:Au9 o/\o.args.length<=q):Cc q w ((W.setCell ⟨b,k*3+1,none⟩ (.int .i64 o.op)).setCell ⟨b,k*3+2,none⟩ av) g P (.slice (some ⟨b,0,none⟩) m cap) n:=by
 obtain⟨l,xs,r,e,u,H,F,C⟩:=h;obtain rfl:m=l.length:=by
  obtain⟨S,L,I,-⟩:=Iy r;injection I with A O R
 have J:w.heap.size<=b:=(r.lt b rfl).1;have y:=r.stored (k*3+1) (.int .i64 o.op);have z:=y.1.stored (k*3+2) av;have t:Bf (Off g (.slice (some ⟨b,0,none⟩) l.length cap)) W ((W.setCell ⟨b,k*3+1,none⟩ (.int .i64 o.op)).setCell ⟨b,k*3+2,none⟩ av):=(Bf.set (λh=>h.2 rfl) _).trans (Bf.set (λh=>h.2 rfl) _);have N:xs.length=l.length*3:=e.1;obtain⟨M,G,K⟩:=e.2 k f;have D:=Ag6 e f G;have B:=u _ (A9a f);refine⟨l.set k ⟨l[k].code,o⟩,_,by simpa using z.1,RowOf.set (e.imp λ_ _ _ h=>h.keep t) f spz ⟨av,?_,hd.keep t⟩ ?_,λi hi=>?_,by simpa using H,Zy (Zy F omz _) omz _,Tn (Tn C y.2 ?_) z.2 ?_⟩
 ·apply Bbw
  intro j;rw[Ba4];by_cases d:j<3
  ·rw[if_pos d,Ba5]
   have:j=0\/j=1\/j=2:=omz
   rcases this with rfl | rfl | rfl
   ·rw[A9d omz,A9d omz];exact D 0 _ rfl
   ·rw[A9d omz,A9s omz];rfl
   ·rw[A9s yAb];rfl
  ·rw[if_neg d,Bbc yAb]
 ·intro j d
  rw[A9d omz,A9d omz]
 ·rcases Bbj hi with A | rfl
  ·exact u i A
  ·exact⟨⟨B.1.1,x.1⟩,x.2⟩
 all_goals
  intro j d;simp only[A96] at d;omega
theorem Aom {w:World}{d j:Nat}{l:List Stil.F7}(hr:Kq w g P)(r:∀i∈l,Pv i/\i.one.args.length<=q)(p:W.ownsRow w.heap.size 48 3 (.slice (some ⟨d,0,none⟩) l.length j) l.length xs)(t:RowOf 3 (Nq (λb=>(g<b/\b<w.heap.size)/\b<w.heap.size) W) xs l)(f:w.heap.size<=d)(hg:(w.alloc (.cells #[] 48)).grownBy W (some w.heap.size)):Cc q w W g P (.slice (some ⟨d,0,none⟩) l.length j) l.length:=by
 have u:=Sr hr;exact⟨l,xs,p,t.imp λ_ _ _ h=>h.mono λb _ f=>⟨f.1.1,by simp[Value.ownBlock];omega⟩,r,A88 _,P5 (E8 hr _) hg (λk e=>by simp only[A96] at e;omega),Tn (grown_below (Aa _ _) _) hg (λk e=>by simp only[A96] at e;omega)⟩
theorem Ws {K:Act->World->Prop}{Q:Exit->Act->World->Prop}(S:o.guard=none)(s x:Operand)
  (I:o.op=.call {callee:=.builtin .append,args:=#[s,x],argTypes:=#[23,23]}) (w W:World) (g P n:Nat) (v:Value) (J:a.eval s=v) (H:Cc q w W g P v n) (V:g<w.heap.size)
  (es:List Stil.F7) (ad:Addr) (m c:Nat) (news:List Value) (T:m=es.length) (hx:a.eval x=.slice (some ad) m c) (z:RowOf 3 (Nq (Off g v) W) news es) (O:∀j u,news[j]?=some u->W.cell? (ad.add j)=some u) (h1:∀u∈news,u.oneCell'=true)
  (C:∀i∈es,Pv i/\i.one.args.length<=q) (X:n+es.length<=1000000)
  (h:∀v' w',Cc q w w' g P v' (n+es.length)->(∀b i,Sj W g v b i->Sj w' g v' b i)->K (a.put o.dst v') w'):if Region.wanted o (yielded ops a.tmps)=true then Oper.wp prog o a W K Q else E:=by
 subst T;obtain⟨G,hi,M,L,N⟩:=info_parts Ov;obtain⟨l,xs,r,D,A,U,F,t⟩:=H;refine Eo S s x 23 I w.heap.size 48 G (.agg #[.int .i64 0, .int .i64 0, .slice none 0 0]) 3 40 underlying23 hi M L N rfl dcz v l.length xs J r ad es.length c news hx z.1 O h1 yAe omz t.size ?_;intro v' w' R bI hat;have y:∀k,v.ownBlock=some k->w.heap.size<=k:=λk d=>(r.lt k d).1
 have d:∀f e,Nq (Off g v) W f e->Nq (Off g v') w' f e:=λf e h=>by
  have h1:Nq (λb=>Off g v b/\Off g v' b) W f e:=h.mono λb hb hp=>⟨hp,Ot hat b hb hp⟩
  exact(h1.keep (Qi (Td (B:=g) bI) λb _ hp=>hp.1)).mono λb _ hp=>hp.2
 refine h v' w' ⟨l++es,xs++news,by simpa using R,(D.append z).imp λf e _=>d f e,λi hi=>?_,by simp;omega,P5 F bI (λk d=>by have:=y k d;omega),Tn t bI (λk d=>y k d)⟩ ?_
 ·rcases List.mem_append.1 hi with h | h
  ·exact A i h
  ·exact C i h
 ·exact zR
theorem Adn {Q:Exit->Act->World->Prop}(ah:o.guard=none)(s x:Operand)
  (ho:o.op=.call {callee:=.builtin .append,args:=#[s,x],argTypes:=#[23,23]}) (w W:World) (g P n:Nat) (y:Option Addr) (A z:Nat) (hs:a.eval s=.slice y A z) (aa:Cc q w W g P (.slice y A z) n) (aj:g<w.heap.size)
  (G:Stil.F7) (ad:Addr) (c:Nat) (news:List Value) (hx:a.eval x=.slice (some ad) 1 c) (S:RowOf 3 (Nq (Off g (.slice y A z)) W) news [G]) (af:∀j u,news[j]?=some u->W.cell? (ad.add j)=some u) (h1:∀u∈news,u.oneCell'=true)
  (U:Pv G/\G.one.args.length<=q) (hn:n+1<=1000000)
  (h:∀t f r,Cc q w r g P (.slice t (A+1) f) (n+1)->(∀b i,Sj W g (.slice y A z) b i->Sj r g (.slice t (A+1) f) b i)->wpList prog ops Q rest (a.put o.dst (.slice t (A+1) f)) r):wpList prog ops Q (o::rest) a W:=by
 obtain⟨Y,hi,ac,ab,ae⟩:=info_parts Ov;obtain⟨l,xs,H,V,T,ai,X,M⟩:=aa;obtain rfl:A=l.length:=by
  obtain⟨t,f,hv,-⟩:=Iy H;injection hv with h1 h2 h3
 refine wpList_append_own_at W ah s x 23 ho w.heap.size 48 Y (.agg #[.int .i64 0, .int .i64 0, .slice none 0 0]) 3 40 underlying23 hi ac ab ae rfl dcz _ l.length xs hs H ad 1 c news hx S.1 af h1 yAe omz M.size ?_;intro v' r R D _ L;obtain⟨t,f,rfl,-⟩:=Iy R;have O:∀k,(Value.slice y l.length z).ownBlock=some k->w.heap.size<=k:=λk C=>(H.lt k C).1
 have C:∀F e,Nq (Off g (.slice y l.length z)) W F e->Nq (Off g (.slice t (l.length+1) f)) r F e:=λF e h=>by
  have h1:Nq (λb=>Off g (.slice y l.length z) b/\Off g (.slice t (l.length+1) f) b) W F e:=h.mono λb K d=>⟨d,Ot L b K d⟩
  exact(h1.keep (Qi (Td (B:=g) D) λb _ d=>d.1)).mono λb _ d=>d.2
 refine h t f r ⟨l++[G],xs++news,by simpa using R,(V.append S).imp λF e _=>C F e,λi hi=>?_,by simp;omega,P5 X D (λk C=>by have:=O k C;omega),?_⟩ ?_
 ·rcases List.mem_append.1 hi with h | h
  ·exact T i h
  ·rw[List.mem_singleton.1 h];exact U
 ·exact Tn M D (λk C=>O k C)
 ·rintro b i ⟨N,I,p3,Z,av,p5,p6⟩
  have ag:Bf (Off g (.slice y l.length z)) W r:=Td D;have hd:Ej (Off g (.slice t (l.length+1) f)) r av i.one.args:=by
   have h1:Ej (λb=>Off g (.slice y l.length z) b/\Off g (.slice t (l.length+1) f) b) W av i.one.args:=p6.mono λb K d=>⟨d,Ot L b K d⟩
   exact(h1.keep (Qi ag λb _ d=>d.1)).mono λb _ d=>d.2
  have e:r.heap[b]?=W.heap[b]?:=D.block b I (λe=>N.2 e.symm);have J:∀o,r.cell? ⟨b,o,none⟩=W.cell? ⟨b,o,none⟩:=λo=>by unfold World.cell?;rw[e]
  exact⟨Ot L b I N,A82 I D.size,(J _).trans p3,(J _).trans Z,av,(J _).trans p5,hd⟩
theorem Yf {K:Act->World->Prop}{Q:Exit->Act->World->Prop}(Z:o.guard=none)(s x:Operand)
  (R:o.op=.call {callee:=.builtin .append,args:=#[s,x],argTypes:=#[23,23]}) (w W:World) (g P n:Nat) (v:Value) (S:a.eval s=v) (O:Cc q w W g P v n) (ab:g<w.heap.size)
  (es:List Stil.F7) (ad:Addr) (m c:Nat) (news:List Value) (hm:m=es.length) (hx:a.eval x=.slice (some ad) m c) (G:RowOf 3 (Nq (Off g v) W) news es) (X:∀j u,news[j]?=some u->W.cell? (ad.add j)=some u) (h1:∀u∈news,u.oneCell'=true)
  (I:∀i∈es,Pv i/\i.one.args.length<=q) (hn:n+es.length<=1000000)
  (h:∀d t,Cc q w t g P d (n+es.length)->W.grownBy t v.ownBlock->(d.ownBlock=v.ownBlock\/d.ownBlock=some W.heap.size)->K (a.put o.dst d) t):if Region.wanted o (yielded ops a.tmps)=true then Oper.wp prog o a W K Q else E:=by
 subst hm;obtain⟨N,hi,U,T,V⟩:=info_parts Ov;obtain⟨l,xs,A,L,H,aa,M,C⟩:=O;refine Eo Z s x 23 R w.heap.size 48 N (.agg #[.int .i64 0, .int .i64 0, .slice none 0 0]) 3 40 underlying23 hi U T V rfl dcz v l.length xs S A ad es.length c news hx G.1 X h1 yAe omz C.size ?_;intro d t Y z F;have D:∀k,v.ownBlock=some k->w.heap.size<=k:=λk f=>(A.lt k f).1
 have f:∀y e,Nq (Off g v) W y e->Nq (Off g d) t y e:=λy e h=>by
  have h1:Nq (λb=>Off g v b/\Off g d b) W y e:=h.mono λb J r=>⟨r,Ot F b J r⟩
  exact(h1.keep (Qi (Td (B:=g) z) λb _ r=>r.1)).mono λb _ r=>r.2
 refine h d t ⟨l++es,xs++news,by simpa using Y,(L.append G).imp λy e _=>f y e,λi hi=>?_,by simp;omega,P5 M z (λk f=>by have:=D k f;omega),Tn C z (λk f=>D k f)⟩ z F;rcases List.mem_append.1 hi with h | h
 ·exact H i h
 ·exact I i h
theorem Cc.own {w:World}(h:Cc q w W g P v n):∀b,v.ownBlock=some b->w.heap.size<=b/\b<W.heap.size:=by
 obtain⟨l,xs,d,-⟩:=h;exact λb e=>d.lt b e
theorem Atb {w D:World}(h:Kq D g P)(b:w.grownBy D (some g)):Cc q w (D.alloc (.cells #[] 48)) g P (.slice (some ⟨D.heap.size,0,none⟩) 0 0) 0:=by
 have d:(D.alloc (.cells #[] 48)).ownsRow w.heap.size 48 3 (.slice (some ⟨D.heap.size,0,none⟩) 0 0) 0 []:=by
  have:=World.ownsRow_lit (base:=w.heap.size) (e:=48) (size:=3) D #[] 0 b.size yAe rfl
  simpa using this
 exact⟨[],[],d,RowOf.nil _ _,λ_ h=>yBb,spz,E8 h _,Rt b (grown_below (Aa _ _) _)⟩
def A0m (g lo:Nat)(W:World)(b o:Nat)(es:List Stil.F7)(news:List Value):Prop:=(g<b/\b<lo/\lo<=W.heap.size)/\RowOf 3 (Nq (λb=>g<b/\b<lo) W) news es/\∀j u,news[j]?=some u->W.cell? ((⟨b,o,none⟩:Addr).add j)=some u
theorem add_block (b o j:Nat):((⟨b,o,none⟩:Addr).add j).block=b:=by
 unfold Addr.add;split<;>rfl
theorem A0m.grown {b o:Nat}{r:Option Nat}{es:List Stil.F7}(h:A0m g lo W b o es news)(hg:W.grownBy W' r)(hr:∀j,r=some j->j=g\/lo<=j):A0m g lo W' b o es news:=by
 obtain⟨⟨l,d,x⟩,t,w⟩:=h;have i:∀c,g<c->c<lo->r≠some c:=λc q1 z e=>by rcases hr c e with h | h<;>omega
 refine⟨⟨l,d,A9f x hg.size⟩,t.imp λ_ _ _ h=>h.keep (Bf.of_grown hg λc f=>i c f.1 f.2),λj u y=>?_⟩;have e:W'.heap[b]?=W.heap[b]?:=hg.block b omz (λe=>i b l d e.symm);rw[<-w j u y];unfold World.cell?;rw[add_block,e]
theorem A0m.row {b o:Nat}{es:List Stil.F7}(h:A0m g lo W b o es news)(d:∀c,v.ownBlock=some c->lo<=c):RowOf 3 (Nq (Off g v) W) news es:=
 h.2.1.imp λ_ _ _ h=>h.mono λc _ f=>⟨f.1,λe=>by have:=d c e;omega⟩
theorem Cc.tail {w:World}{b:Nat}(h:Cc q w W g P (.slice (some ⟨b,0,none⟩) m cap) n)(A:g<w.heap.size)(r:k<=m):∃(d:List Stil.F7) (news:List Value),d.length=m - k/\A0m g W.heap.size W b (k*3) d news/\(∀u∈news,u.oneCell'=true)/\∀i∈d,Pv i/\i.one.args.length<=q:=by
 obtain⟨d,news,x,f,y,l,t⟩:=h.behind r;have z:=h.own b rfl;exact⟨d,news,x,⟨⟨omz,omz,A88 _⟩,f.imp λ_ _ _ h=>h.mono λc j e=>⟨e.1,j⟩,y⟩,l,t⟩
end Go.Proofs.YtobbpffcggchmaaGreatDoor
