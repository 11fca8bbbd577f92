import Derived.Test.YtnpfcnolmkanfaaGreatDoorCE6
import Derived.Conc.AppendWalk
import Derived.Maps.AppendAt
import Derived.Calls
namespace Go.Co
open Go.Conc
theorem Aiq {P:Program}{w:World}{es:Array Event}(t:TypeId)(h:P.underlying t=some (.slice (P.elem t)))(a:Option Addr)(m r:Nat)(h1:(1:Int)<=(m:Int)+1):
  (Instr.sliceAt t (.slice a (m+1) r) (some (.int .i64 1)) none none).events P w es=es:=by
 simp only[Instr.sliceAt,Instr.slice,Instr.sliceBounds,Instr.sliceBound,asIntOf];simp[run_underlying h,h1]
def Pln (P:Program){α:Type}:Sem α->Prop
  | .pure _=>True
  | .load m _ k=>m=.plain/\∀v,Pln P (k v)
  | .store m _ _ k=>m=.plain/\Pln P k
  | .new _ k=>∀r,Pln P (k r)
  | .shape _ k=>∀s,Pln P (k s)
  | .freeze _ _ k=>Pln P k
  | .frozen _ k=>∀b,Pln P (k b)
  | .getObj _ _=>False
  | .setObj _ _ _=>False
  | .choose _ k=>∀n,Pln P (k n)
  | .sys _ _=>False
  | .program k=>Pln P (k P)
  | .mark m k=>m=.noRoom/\Pln P k
  | .halt _=>True
section
variable {P : Program}{α β : Type}
theorem Av6 {f:α->Sem β}(j:∀a,Pln P (f a)):∀(s:Sem α),Pln P s->Pln P (s.bind f):=by
  intro s;induction s with
  | pure a=>exact λ_=>j a
  | load m a k e=>exact λh=>⟨h.1,λv=>e v (h.2 v)⟩
  | store m a v k e=>exact λh=>⟨h.1,e h.2⟩
  | new o k e=>exact λh v=>e v (h v)
  | shape r k e=>exact λh v=>e v (h v)
  | freeze a n k e=>exact λh=>e h
  | frozen a k e=>exact λh v=>e v (h v)
  | getObj r k e=>exact λh=>h.elim
  | setObj r o k e=>exact λh=>h.elim
  | choose q k e=>exact λh v=>e v (h v)
  | sys c k e=>exact λh=>h.elim
  | program k e=>exact λh=>e P h
  | mark m k e=>exact λh=>⟨h.1,e h.2⟩
  | halt x=>exact λ_=>trivial
theorem Le {s:Sem α}{f:α->Sem β}(h:Pln P s)(e:∀a,Pln P (f a)):Pln P (s>>=f):=Av6 e s h
theorem Azz {a:α}:Pln P (pure a:Sem α):=trivial
def EvP (e:Event):Prop:=(∀a,e.loc=.cell a->e.sync=false)/\(∀m,e.loc=.mark m->m=.noRoom)
theorem Aq6:∀(s:Sem α),Pln P s->∀(w:World) (t:Array Event),(∀e∈t,EvP e)->∀e∈(s.runT P w t).2,EvP e:=by
  intro s;induction s with
  | pure a=>exact λ_ w t h=>h
  | load m a k l=>
    rintro⟨rfl,p⟩ w t h;simp only[Sem.runT];split
    · refine l _ (p _) _ _ λe j=>?_
      rcases Array.mem_push.1 j with j | rfl
      · exact h e j
      · exact⟨λ_ _=>rfl,λm u=>by cases u⟩
    · split
      · refine l _ (p _) _ _ λe j=>?_
        rcases Array.mem_append.1 j with j | j
        · exact h e j
        · obtain⟨x,_,rfl⟩:=Array.mem_map.1 j
          exact⟨λ_ _=>rfl,λm u=>by cases u⟩
      · exact h
  | store m a v k l=>
    rintro⟨rfl,p⟩ w t h;have key:∀y (z:Array Addr),∀e∈(k.runT P y (t++z.map λx=>⟨.cell x,true,false⟩)).2,EvP e:=λy z=>by
      refine l p _ _ λe j=>?_
      rcases Array.mem_append.1 j with j | j
      · exact h e j
      · obtain⟨x,_,rfl⟩:=Array.mem_map.1 j
        exact⟨λ_ _=>rfl,λm u=>by cases u⟩
    have A:∀y (x:Addr),∀e∈(k.runT P y (t.push ⟨.cell x,true,false⟩)).2,EvP e:=λy x=>by
      refine l p _ _ λe j=>?_
      rcases Array.mem_push.1 j with j | rfl
      · exact h e j
      · exact⟨λ_ _=>rfl,λm u=>by cases u⟩
    cases v<;>simp only[Sem.runT]<;>first
      | exact h
      | (split
         · split
           · exact h
           · exact A _ _
         · split
           · exact key _ _
           · exact h)
  | new o k l=>exact λp w t h=>l _ (p _) _ _ h
  | shape r k l=>exact λp w t h=>l _ (p _) _ _ h
  | freeze a n k l=>exact λp w t h=>l p _ _ h
  | frozen a k l=>exact λp w t h=>l _ (p _) _ _ h
  | getObj r k l=>exact λh=>h.elim
  | setObj r o k l=>exact λh=>h.elim
  | choose q k l=>
    intro p w t h;simp only[Sem.runT];split
    · exact l _ (p _) _ _ h
    · exact l _ (p _) _ _ h
  | sys c k l=>exact λh=>h.elim
  | program k l=>exact λp w t h=>l _ p _ _ h
  | mark m k l=>
    rintro⟨rfl,p⟩ w t h;refine l p _ _ λe j=>?_
    rcases Array.mem_push.1 j with j | rfl
    · exact h e j
    · refine⟨λ_ u=>?_,λm u=>?_⟩
      · cases u
      · cases u;rfl
  | halt x=>exact λ_ w t h=>h
theorem Uh (a:Addr):∀(n i:Nat) (acc:Array Value),Pln P (loadCellsFrom a i n acc)
  | 0,_,_=>trivial
  | n+1,i,_acc=>Le (s:=load (a.add i)) ⟨rfl,λ_=>trivial⟩ λ_v=>Uh a n (i+1) _
theorem Yt (a:Addr):∀(e:List Value) (i:Nat),Pln P (storeCells a e i)
  | [],_=>trivial
  | v::e,i=>Le (s:=store (a.add i) v) ⟨rfl,trivial⟩ λ_=>Yt a e (i+1)
theorem Af1 (size n:Nat)(v:Value):Pln P (Builtin.firstCells size n v):=by
  unfold Builtin.firstCells;split<;>first | exact trivial | exact Uh _ _ _ _
theorem Av5 {c:Prop}[Decidable c]{x y:Sem α}(hx:Pln P x)(e:Pln P y):Pln P (if c then x else y):=by split<;>assumption
theorem Av2 (m:String):Pln P (stuck m:Sem α):=trivial
theorem Ad0 (u:Unsupported):Pln P (unsupported u:Sem α):=trivial
theorem Agt (q:Question):Pln P (choose q):=λ_=>trivial
theorem Ags:Pln P (mark .noRoom):=⟨rfl,trivial⟩
theorem Av3 (r:Nat):Pln P (shape r):=λ_=>trivial
theorem Aq5 (a:Addr):Pln P (frozen a):=λ_=>trivial
theorem Afz (t:TypeId):Pln P (underlying t):=by
  unfold underlying;show Pln P (_:Sem _)
  refine Le (s:=program) trivial λp=>?_
  split<;>trivial
theorem W9 (t:TypeId):Pln P (typeInfo t):=by
  unfold typeInfo;refine Le (s:=program) trivial λp=>?_
  split<;>trivial
theorem Aq3 (t:TypeId):Pln P (sizeOf t):=by
  unfold sizeOf;exact Le (W9 t) λ_=>trivial
theorem Ah6 (t:TypeId):Pln P (zeroValue t):=by
  unfold zeroValue;refine Le (W9 t) λ_=>?_
  split<;>trivial
theorem Av7 (v:Value):Pln P (asInt v):=by
  unfold asInt asIntOf;repeat' first | exact trivial | refine Le ?_ (λ_=>?_) | split
theorem Av4 (v:Value):Pln P (Builtin.lenOf v):=by
  unfold Builtin.lenOf;split<;>trivial
theorem Af0 (a:Addr)(n:Nat):Pln P (Builtin.holdsCells a n):=by
  unfold Builtin.holdsCells;refine Le (Av3 _) λ_=>?_
  split<;>trivial
theorem Anh (n:Nat):Pln P (askRoom n):=by
  unfold askRoom;split
  · exact Ags
  · trivial
theorem Aq4 (t:TypeId)(vs:Array Value):Pln P (newRow t vs):=by
  unfold newRow;repeat' first | exact trivial | exact Agt _ | (exact λ_=>trivial) | refine Le ?_ (λ_=>?_) | split
theorem Acs (e:RuntimeError):Pln P (runtimePanic e:Sem α):=by
  unfold runtimePanic;refine Le (s:=program) trivial λp=>?_
  repeat' first | exact trivial | (exact λ_=>trivial) | refine Le ?_ (λ_=>?_) | split
theorem Akf (size e n:Nat)(base:Option Addr)(x:Value):Pln P (Builtin.mayShare size e n base x):=by
  unfold Builtin.mayShare;repeat' first
    | exact trivial
    | exact Af0 _ _
    | exact Aq5 _
    | refine Le ?_ (λ_=>?_)
    | refine Av5 ?_ ?_
    | split
set_option maxHeartbeats 1000000 in
theorem Aq7 (e:Array TypeId)(t:TypeId)(args:Array Value):Pln P (Builtin.append_ e t args):=by
  unfold Builtin.append_;repeat' first
    | with_reducible exact Azz
    | with_reducible exact Av2 _
    | with_reducible exact Ad0 _
    | with_reducible exact Afz _
    | with_reducible exact Aq3 _
    | with_reducible exact W9 _
    | with_reducible exact Ah6 _
    | with_reducible exact Av7 _
    | with_reducible exact Av4 _
    | with_reducible exact Agt _
    | with_reducible exact Ags
    | with_reducible exact Anh _
    | with_reducible exact Aq4 _ _
    | with_reducible exact Acs _
    | with_reducible exact Akf _ _ _ _ _
    | with_reducible exact Af1 _ _ _
    | with_reducible exact Yt _ _ _
    | with_reducible refine Le ?_ (λ_=>?_)
    | with_reducible refine Av5 ?_ ?_
    | split
    | dsimp only
end
theorem S9 {w w':World}{base:Nat}{e:TypeId}{size:Nat}{v:Value}{n:Nat}{xs:List Value}(h:w.ownsRow base e size v n xs)(l:∀k,v.ownBlock=some k->w'.heap[k]?=w.heap[k]?):w'.ownsRow base e size v n xs:=by
 refine⟨h.1,?_⟩;rcases h.2 with j | ⟨g,cap,cur,hv,m,q,rest⟩
 ·exact .inl j
 ·exact .inr ⟨g,cap,cur,hv,m,(l g yEc).trans q,rest⟩
section
variable {τ : Type}{P : Program}{main : Bool}{Low : Nat}{pre : τ -> World -> Prop}{ok : τ -> (Nat -> Prop) -> World -> Goroutine -> Prop}{fn : FuncId}{Q : Vq τ}{a : Act}{x : τ}{O : Nat -> Prop}{w : World}
variable {ops : Array Oper}{i : Nat}{rest : List Nat}{o : Oper}
theorem Ad5 (ah:OkL P main Low pre ok)(ho:ops[i]?=some o)(hw:Region.wanted o (yielded ops a.tmps)=true)(s y:Operand)(t:TypeId)(X:o.op=.call {callee:=.builtin .append,args:=#[s,y],argTypes:=#[t,t]})
  (e:TypeId) (E:TypeInfo) (z:Value) (size bytes:Nat) (W:P.underlying t=some (.slice e)) (hi:P.info? e=some E) (hz:E.zero=some z) (U:E.size=size) (R:E.bytes=bytes) (ai:z.cells.size=size) (ae:0<size)
  (v:Value) (n:Nat) (xs:List Value) (S:a.eval s=v) (ac:w.ownsRow Low e size v n xs) (I:∀k,v.ownBlock=some k->O k)
  (b c:Nat) (news:List Value) (hx:a.eval y=.slice (some ⟨b,0,none⟩) 1 c) (hl:news.length=size) (V:O b) (ag:∀j u,news[j]?=some u->w.cell? ⟨b,j,none⟩=some u) (h1:∀u∈news,u.oneCell'=true)
  (T:n+1<=maxLen) (ab:(n+1)*bytes<=140737488355328) {w₀:World} (hF:Held Low w₀ O w)
  (h:∀D G M,G.ownsRow Low e size D (n+1) (xs++news)->(∀k,D.ownBlock=some k->M k)->(∀k,D.ownBlock=some k->some k=v.ownBlock\/¬O k)->(∀k,O k->M k)->(∀k,O k->some k≠v.ownBlock->G.heap[k]?=w.heap[k]?)->Held Low w₀ M G->
   Uc ok fn ops rest Q (a.put o.dst D) x M G):Uc ok fn ops (i::rest) Q a x O w:=by
 refine Xb ah ho hw λK C _ ak hK=>?_
 have N:=S9 ac λk q=>C.mine k (I k q)
 have aa:∀j u,news[j]?=some u->K.cell? ((⟨b,0,none⟩:Addr).add j)=some u:=λj u hu=>by
  have:=ag j u hu
  have e:(⟨b,0,none⟩:Addr).add j=⟨b,j,none⟩:=by unfold Addr.add;split<;>simp_all
  rw[e];rw[<-this];exact World.cell?_of_block (C.mine b V)
 have Z:news.length=1*size:=omz
 obtain⟨D,G,hr,h2,l,_,r⟩:=run_append_own_at (P:=P) K Low t o.type e E z size bytes W hi hz U R ai ae v n xs N ⟨b,0,none⟩ 1 c news Z aa h1 T ab (A6e hF.low C.size);refine uponK_append s y t X S hx hr (hK _ _ ⟨⟨λk J hn=>l.block k J λe=>hn (I k e.symm),l.size,l.tape,l.os,l.output,λL H=>?_⟩,?_⟩)
 ·replace H:=mem_listed H
  rw[events_append_op s y t X S hx] at H;have hp:=Aq6 (P:=P) _ (Aq7 _ _ _) K #[] (λe he=>by simp at he) L H;rcases events_append_where K Low t o.type e E z size bytes W hi hz U R v n xs N ⟨b,0,none⟩ 1 c news Z aa h1 T ab L H with⟨ad,Y,h⟩ | ⟨m,rfl,hm⟩
  ·refine .inl ⟨ad,L.write,?_, .inl (.inl ?_)⟩
   ·obtain⟨al,wr,sy⟩:=L
    simp only at Y;subst Y;rw[show sy=false from hp.1 ad rfl]
   ·rcases h with⟨_,h⟩ | h
    ·rw[h];exact V
    ·exact I _ h.symm
  ·rw[show m=.noRoom from hm];exact .inr rfl
 ·have A:=hF.rely C
  refine h D G _ h2 (λk q=>?_) (λk q=>?_) (λk C=>.inl C) (λk B af=>(l.block k (A.up k B) af).trans (C.mine k B)) ⟨λk J=>?_,A6e A.low l.size,λk B=>?_,?_,?_⟩
  ·rcases r with r | r
   ·exact .inl (I k (r.symm.trans q))
   ·have aj:=(h2.lt k q).2
    rw[r] at q;cases q;exact .inr ⟨A57 _,aj⟩
  ·rcases r with r | r
   ·exact .inl (q.symm.trans r)
   ·rw[r] at q
    cases q;exact .inr λhO=>A7d _ (A.up _ hO)
  ·refine(l.block k (A51 J A.low) λe=>?_).trans (A.still k J)
   have:=(N.lt k e.symm).1
   omega
  ·rcases B with B | ⟨_,B⟩
   ·exact A51 (A.up k B) l.size
   ·exact B
  ·exact l.os.trans A.os
  ·exact l.output.trans A.out
theorem Ayp {w₀ e:World}(hF:Held Low w₀ O w)(h:Keep Low O w e)(ob:Obj):
  ∃j,j=(λb=>O b\/b=e.heap.size)/\Ext Low O j w (e.alloc ob)/\Held Low w₀ j (e.alloc ob)/\j e.heap.size/\Low<=e.heap.size/\(∀x,O x->x≠e.heap.size)/\(e.alloc ob).heap[e.heap.size]?=some ob:=
 ⟨_,rfl,h.ext.trans ((hF.rely h).ext _),(hF.rely h).new _, .inr rfl,(hF.rely h).low,λx l=>by have:=(hF.rely h).up x l;omega,by simp only[World.alloc];exact A8v⟩
theorem Ext.row {w w':World}{j:Nat->Prop}{base:Nat}{e:TypeId}{size:Nat}{v:Value}{n:Nat}{xs:List Value}(h:Ext Low O j w w')(hr:w.ownsRow base e size v n xs)(m:∀k,v.ownBlock=some k->O k\/k<Low):w'.ownsRow base e size v n xs:=
 S9 hr λk l=>(m k l).elim (h.mine k) (h.still k)
end
section
variable {F:Func}{args:Array Value}{c d:Code}{f:FuncId}{g:Goroutine}{i:Nat}{o:Oper}{ops:Array Oper}{rest:List Nat}
variable {P : Program}{Stop : Goroutine -> World -> Prop}{a : Act}{w : World}{b : Frame}{k : List Item}{cs : List Frame}
def Al (Q:World->Prop)(w:World):Prop:=∃τ d,Q {w with tape:=τ,drawn:=d}
theorem Al.of {Q:World->Prop}(h:Q w):Al Q w:=⟨w.tape,w.drawn,h⟩
theorem Ut (p:OkP P)(S:Goroutine->World->Prop)(hr:g.status=.running)(r:∀g w,S g w->g.status=.running)
  (H:∀τ d,∃n j l,runN P n (solo g {w with tape:=τ,drawn:=d})=.next (solo j l)/\S j l) (h:∀j l,Al (S j) l->Comes P j l Stop):Comes P g w Stop:=by
 intro v sl t hF q;have z:Way P (λj l=>Al (S j) l) g w:=by
  refine Amt p _ (λj l ⟨τ,d,m⟩=>r _ _ m) (λj l τ e ⟨s,u,m⟩=>⟨s,u,m⟩) g q hr w fun τ d=>?_
  obtain⟨n,j,l,y,m⟩:=H τ d;exact⟨n,j,l,y,Al.of m⟩
 exact(Alm p z).then (λj l _ m=>h j l m) v sl t hF q
theorem Qc (s:OkP P){fr fr':Frame}{cs cs':List Frame}(r:∀m,stepG P true (G fr cs) m=.go (G fr' cs') m #[])(h:∀j,Al (λx=>x=w) j->Comes P (G fr' cs') j Stop):Comes P (G fr cs) w Stop:=by
 refine Ut s (λl e=>l=G fr' cs'/\Al (λx=>x=w) e) rfl (λg w h=>by rw[h.1];rfl) (fun τ d=>?_) ?_
 ·refine⟨1,G fr' cs',{w with tape:=τ,drawn:=d},?_,rfl,⟨w.tape,w.drawn,rfl⟩⟩
  have t:step P (solo (G fr cs) {w with tape:=τ,drawn:=d})=.next (solo (G fr' cs') {w with tape:=τ,drawn:=d}):=step_lone_go (by rw[show({frame:=fr,callers:=cs,status:=.running,dying:=none}:Goroutine)=G fr cs from rfl,r];rfl);simp only[runN,t]
 ·rintro l e ⟨τ,d,rfl,n,p,q⟩
  exact h e ⟨n,p,q⟩
theorem Us (j:OkP P)(h:∀e,Al (λx=>x=w) e->Comes P (G (b.at a (.code c::.code d::k)) cs) e Stop):Comes P (G (b.at a (.code (.seq c d)::k)) cs) w Stop:=
 Qc j (λ_=>stepG_seq) h
theorem Qb (l:OkP P){j:Nat}(h:∀e,Al (λx=>x=w) e->Comes P (G (b.at a (.inRegion ops (List.range ops.size)::k)) cs) e Stop):Comes P (G (b.at a (.code (.region j ops false)::k)) cs) w Stop:=
 Qc l (λ_=>stepG_region) h
theorem Aa0 (j:OkP P)(h:∀e,Al (λx=>x=w) e->Comes P (G (b.at a k) cs) e Stop):Comes P (G (b.at a (.inRegion ops []::k)) cs) w Stop:=
 Qc j (λ_=>stepG_region_end) h
theorem O7 (q:OkP P){v:Value}(m:ops[i]?=some o)(p:Region.wanted o (yielded ops a.tmps)=true)(l:b.kind≠.early)
  (hr:∀e:World,(execOp a.eval o).run P e=.ok (.value v) e) (n:∀e:World,(execOp a.eval o).events P e #[]=#[]) (h:∀j,Al (λx=>x=w) j->Comes P (G (b.at (a.put o.dst v) (.inRegion ops rest::k)) cs) j Stop):Comes P (G (b.at a (.inRegion ops (i::rest)::k)) cs) w Stop:=by
 refine Qc q (λe=>?_) h;rw[stepG_value m p l (hr e)];unfold listed;rw[n,seen_none]
def Uy (P:Program)(f:FuncId)(args:Array Value)(w:World)(Post:Value->World->Prop):Prop:=
 ∀(h:Frame) (cs:List Frame) (Stop:Goroutine->World->Prop),(∀v e,Post v e->Comes P (G (h.finish v) cs) e Stop)->Comes P (G (Frame.enter P f args .normal) (h::cs)) w Stop
theorem Zm (q:OkP P){Post:Value->World->Prop}(h:∀τ d,Calls P f args {w with tape:=τ,drawn:=d} λe j=>∃v,e=.returned v/\Post v j):Uy P f args w (λv=>Al (Post v)):=by
 intro l cs Stop t;refine Ut q (λp j=>∃v,p=G (l.finish v) cs/\Post v j) rfl (λg w ⟨v,h,_⟩=>by rw[h];rfl) (fun τ d=>?_) ?_
 ·obtain⟨e,j,u,⟨v,rfl,m⟩,⟨n,r⟩,_,s⟩:=h τ d (l::cs)
  refine⟨n+1,G (l.finish v) cs,j,?_,v,rfl,m⟩;rw[runN_add];rw[show solo (G (Frame.enter P f args .normal) (l::cs)) {w with tape:=τ,drawn:=d}=lone (Frame.enter P f args .normal) (l::cs) {w with tape:=τ,drawn:=d} from rfl,r];have:=step_leave_returned (c:=l) (cs:=cs) s
  simp only[runN,this];rfl
 ·rintro p j ⟨τ,d,v,rfl,m⟩
  exact t v j ⟨τ,d,m⟩
theorem Uy.mono {Post j:Value->World->Prop}(h:Uy P f args w Post)(m:∀v e,Post v e->j v e):Uy P f args w j:=
 λl cs Stop n=>h l cs Stop λv e q=>n v e (m v e q)
theorem enter_at (args:Array Value)(e:P.funcs[f]?=some F)(h:F.body=some c):Frame.enter P f args .normal=(base f).at {tmps:=args++Array.replicate (F.ntmps - args.size) undef,defers:=[]} [.code c]:=by
 simp[Frame.enter,e,h,base,Frame.at]
theorem Ab1 (p:OkP P){args:Array Operand}{s:Array TypeId}{vals:Array Value}{Post:Value->World->Prop}(m:ops[i]?=some o)(H:Region.wanted o (yielded ops a.tmps)=true)(B:b.kind≠.early)
  (y:o.op=.call {callee:=.value (.func f),args,argTypes:=s}) (j:P.funcs[f]?=some F) (r:F.body=some c) (I:args.map a.eval=vals) (D:∀e,Al (λx=>x=w) e->Uy P f vals e Post)
  (h:∀v e,Post v e->Comes P (G (b.at (a.put o.dst v) (.inRegion ops rest::k)) cs) e Stop):Comes P (G (b.at a (.inRegion ops (i::rest)::k)) cs) w Stop:=by
 have E:=p.name f F j;refine Qc p (fr':=Frame.enter P f vals .normal) (cs':=b.at a (.inRegion ops (i::rest)::k)::cs) (λn=>?_) λe J=>D e J _ _ _ λv t z=>?_
 ·obtain⟨l,e,q,u,C⟩:=goes_elim (goes_call (P:=P) (main:=true) (w:=n) (cs:=cs) (k:=k) (rest:=rest) (K:=λl e q=>l=G ((base f).at {tmps:=args.map a.eval++Array.replicate (F.ntmps - (args.map a.eval).size) undef,defers:=[]} [.code c]) (b.at a (.inRegion ops (i::rest)::k)::cs)/\e=n/\q=#[]) m H B y j E r ⟨rfl,rfl,rfl⟩)
  obtain⟨rfl,rfl,rfl⟩:=C;rw[enter_at vals j r,<-I];exact u
 ·have A:(b.at a (.inRegion ops (i::rest)::k)).finish v=b.at (a.put o.dst v) (.inRegion ops rest::k):=by rw[Frame.finish_at,m];rfl
  rw[A];exact h v t z
theorem Ac4 (v:OkP P){Q:Exit->Act->World->Prop}(t:∀e a w,Q e a w->e=.normal\/e=.ret)(h:∀τ d,c.wp P Q a {w with tape:=τ,drawn:=d})
  (u:∀j l,Al (Q .normal j) l->Comes P (G (b.at j k) cs) l Stop) (hr:∀j l m,Al (Q .ret j) l->Comes P (G {b.at j m with mode:=.returning} cs) l Stop):Comes P (G (b.at a (.code c::k)) cs) w Stop:=by
 refine Ut v (λq l=>(∃j,Q .normal j l/\q=G (b.at j k) cs)\/∃j m,Q .ret j l/\q=G {b.at j m with mode:=.returning} cs) rfl ?_ (fun τ d=>?_) ?_
 ·rintro g w (⟨_,_,rfl⟩ | ⟨_,_,_,rfl⟩)<;>rfl
 ·obtain⟨e,j,l,p,s⟩:=h τ d b k cs
  rcases t _ _ _ p with rfl | rfl
  ·obtain⟨n,r⟩:=s
   exact⟨n,_,l,r, .inl ⟨j,p,rfl⟩⟩
  ·obtain⟨m,n,r⟩:=s
   exact⟨n,_,l,r, .inr ⟨j,m,p,rfl⟩⟩
 ·rintro q l ⟨τ,d,⟨j,p,rfl⟩ | ⟨j,m,p,rfl⟩⟩
  ·exact u j l ⟨τ,d,p⟩
  ·exact hr j l m ⟨τ,d,p⟩
def A1t:List Code->Code->Code
 | [],d=>d
 | c::l,d=>.seq c (A1t l d)
def WpL (P:Program)(R:Act->World->Prop):List Code->Act->World->Prop
 | [],a,w=>R a w
 | c::l,a,w=>c.wp P (Exit.then (WpL P R l) λ_ _ _=>False) a w
theorem Ajx {R:Act->World->Prop}:∀(l:List Code) (a:Act) (w:World),WpL P R l a w->∃m j,R m j/\Steps P (lone (b.at a (.code (A1t l d)::k)) cs w) (lone (b.at m (.code d::k)) cs j)
 | [],a,w,h=>⟨a,w,h,Steps.refl _ _⟩
 | c::l,a,w,h=>by
  obtain⟨e,p,s,n,t⟩:=h b (.code (A1t l d)::k) cs;cases e with
  | normal=>
   obtain⟨m,j,r,q⟩:=Ajx l p s n;exact⟨m,j,r,(Steps.head step_seq t).trans q⟩
  | _=>exact n.elim
theorem Ab0 (s:OkP P)(l:List Code){R:Act->World->Prop}(h:∀τ m,WpL P R l a {w with tape:=τ,drawn:=m})(t:∀e j,Al (R e) j->Comes P (G (b.at e (.code d::k)) cs) j Stop):Comes P (G (b.at a (.code (A1t l d)::k)) cs) w Stop:=by
 refine Ut s (λq j=>∃e,R e j/\q=G (b.at e (.code d::k)) cs) rfl ?_ (fun τ m=>?_) ?_
 ·rintro g w ⟨_,_,rfl⟩;rfl
 ·obtain⟨e,j,p,n,r⟩:=Ajx (b:=b) (k:=k) (cs:=cs) (d:=d) l a _ (h τ m)
  exact⟨n,_,j,r,e,p,rfl⟩
 ·rintro q j ⟨τ,m,e,p,rfl⟩
  exact t e j ⟨τ,m,p⟩
theorem Air {Post:Value->World->Prop}(hg:OkG g)(h:Comes P g w λn j=>∀d,AtEnd P (λ_=>False) 0 Post n (j.at d)):
  ∃N last o j r,runNT P (N+1) (solo g w) #[]=(.ended o j,r)/\runN P N (solo g w)=.next last/\step P last=.ended o j/\Conc.Good P Post last o j r:=by
 obtain⟨N,H,n,j,s,r,p,⟨A,⟨q,C⟩,B,G⟩,_,_,E⟩:=h #[g] none #[] ⟨rfl,⟨_,leavers_one P g⟩,0,past_nil⟩ hg;have M:Goes P true AtRel (λ_ _ _=>False) (AtEnd P (λ_=>False) B Post) 0 n j:=by
  rintro U ⟨d,rfl⟩;obtain⟨J,v,S,T,m,R⟩:=E d;exact⟨J,v,S,T,λe l=>⟨(m e l).1,(m e l).2.1,(m e l).2.2.1,MemAct.low_mono (A7l _) (m e l).2.2.2⟩,R⟩
 obtain⟨z,last,o,t,u,D,L,y,I⟩:=beside_ends (sl:=s) (λ_ _ _ h=>h.elim) A C G M;have K:crowd #[g] w none=solo g w:=rfl;rw[K] at p;refine⟨N+z,last,o,t,u,?_,?_,y,I⟩
 ·rw[Nat.add_assoc,runNT_add,p];exact D
 ·rw[runN_add]
  have:runN P N (solo g w)=.next (crowd H j s):=by rw[<-runNT_fst _ _ _ #[],p]
  rw[this];exact L
end
end Go.Co
