import Derived.Test.YtifcnfeppdbjdaaGreatDoorCE6
import Derived.Conc.AppendWalk
import Derived.Maps.AppendAt
namespace Go.Co
open Go.Conc
theorem rN {P:Program}{w:World}{es:Array Event}(t:TypeId)(h:P.underlying t=some (.slice (P.elem t)))(a:Option Addr)(m r:Nat)(h1:(1:Int)<=(m:Int)+1):
  (Instr.sliceAt t (.slice a (m+1) r) (some (.int .i64 1)) none none).events P w es=es:=by
 simp only[Instr.sliceAt,Instr.slice,Instr.sliceBounds,Instr.sliceBound,asIntOf];simp[run_underlying h,h1]
def DC (P:Program){α:Type}:Sem α->Prop
  | .pure _=>True
  | .load m _ k=>m=.plain/\∀v,DC P (k v)
  | .store m _ _ k=>m=.plain/\DC P k
  | .new _ k=>∀r,DC P (k r)
  | .shape _ k=>∀s,DC P (k s)
  | .freeze _ _ k=>DC P k
  | .frozen _ k=>∀b,DC P (k b)
  | .getObj _ _=>False
  | .setObj _ _ _=>False
  | .choose _ k=>∀n,DC P (k n)
  | .sys _ _=>False
  | .program k=>DC P (k P)
  | .mark m k=>m=.noRoom/\DC P k
  | .halt _=>True
section
variable {P : Program}{α β : Type}
theorem Ayh {f:α->Sem β}(j:∀a,DC P (f a)):∀(s:Sem α),DC P s->DC P (s.bind f):=by
  intro s;induction s with
  | pure a=>exact λ_=>j a
  | load m a k e=>exact λh=>⟨h.1,λv=>e v (h.2 v)⟩
  | store m a v k e=>exact λh=>⟨h.1,e h.2⟩
  | new o k e=>exact λh v=>e v (h v)
  | shape r k e=>exact λh v=>e v (h v)
  | freeze a n k e=>exact λh=>e h
  | frozen a k e=>exact λh v=>e v (h v)
  | getObj r k e=>exact λh=>h.elim
  | setObj r o k e=>exact λh=>h.elim
  | choose q k e=>exact λh v=>e v (h v)
  | sys c k e=>exact λh=>h.elim
  | program k e=>exact λh=>e P h
  | mark m k e=>exact λh=>⟨h.1,e h.2⟩
  | halt x=>exact λ_=>trivial
theorem Nl {s:Sem α}{f:α->Sem β}(h:DC P s)(e:∀a,DC P (f a)):DC P (s>>=f):=Ayh e s h
theorem gv {a:α}:DC P (pure a:Sem α):=trivial
def EvP (e:Event):Prop:=(∀a,e.loc=.cell a->e.sync=false)/\(∀m,e.loc=.mark m->m=.noRoom)
theorem yp:∀(s:Sem α),DC P s->∀(w:World) (t:Array Event),(∀e∈t,EvP e)->∀e∈(s.runT P w t).2,EvP e:=by
  intro s;induction s with
  | pure a=>exact λ_ w t h=>h
  | load m a k j=>
    rintro⟨rfl,p⟩ w t h;simp only[Sem.runT];split
    · refine j _ (p _) _ _ λe l=>?_
      rcases Array.mem_push.1 l with l | rfl
      · exact h e l
      · exact⟨λ_ _=>rfl,λm u=>by cases u⟩
    · split
      · refine j _ (p _) _ _ λe l=>?_
        rcases Array.mem_append.1 l with l | l
        · exact h e l
        · obtain⟨x,_,rfl⟩:=Array.mem_map.1 l
          exact⟨λ_ _=>rfl,λm u=>by cases u⟩
      · exact h
  | store m a v k j=>
    rintro⟨rfl,p⟩ w t h;have key:∀y (z:Array Addr),∀e∈(k.runT P y (t++z.map λx=>⟨.cell x,true,false⟩)).2,EvP e:=λy z=>by
      refine j p _ _ λe l=>?_
      rcases Array.mem_append.1 l with l | l
      · exact h e l
      · obtain⟨x,_,rfl⟩:=Array.mem_map.1 l
        exact⟨λ_ _=>rfl,λm u=>by cases u⟩
    have A:∀y (x:Addr),∀e∈(k.runT P y (t.push ⟨.cell x,true,false⟩)).2,EvP e:=λy x=>by
      refine j p _ _ λe l=>?_
      rcases Array.mem_push.1 l with l | rfl
      · exact h e l
      · exact⟨λ_ _=>rfl,λm u=>by cases u⟩
    cases v<;>simp only[Sem.runT]<;>first
      | exact h
      | (split
         · split
           · exact h
           · exact A _ _
         · split
           · exact key _ _
           · exact h)
  | new o k j=>exact λp w t h=>j _ (p _) _ _ h
  | shape r k j=>exact λp w t h=>j _ (p _) _ _ h
  | freeze a n k j=>exact λp w t h=>j p _ _ h
  | frozen a k j=>exact λp w t h=>j _ (p _) _ _ h
  | getObj r k j=>exact λh=>h.elim
  | setObj r o k j=>exact λh=>h.elim
  | choose q k j=>
    intro p w t h;simp only[Sem.runT];split
    · exact j _ (p _) _ _ h
    · exact j _ (p _) _ _ h
  | sys c k j=>exact λh=>h.elim
  | program k j=>exact λp w t h=>j _ p _ _ h
  | mark m k j=>
    rintro⟨rfl,p⟩ w t h;refine j p _ _ λe l=>?_
    rcases Array.mem_push.1 l with l | rfl
    · exact h e l
    · refine⟨λ_ u=>?_,λm u=>?_⟩
      · cases u
      · cases u;rfl
  | halt x=>exact λ_ w t h=>h
theorem Vq (a:Addr):∀(n i:Nat) (acc:Array Value),DC P (loadCellsFrom a i n acc)
  | 0,_,_=>trivial
  | n+1,i,_acc=>Nl (s:=load (a.add i)) ⟨rfl,λ_=>trivial⟩ λ_v=>Vq a n (i+1) _
theorem Zx (a:Addr):∀(e:List Value) (i:Nat),DC P (storeCells a e i)
  | [],_=>trivial
  | v::e,i=>Nl (s:=store (a.add i) v) ⟨rfl,trivial⟩ λ_=>Zx a e (i+1)
theorem qC (size n:Nat)(v:Value):DC P (Builtin.firstCells size n v):=by
  unfold Builtin.firstCells;split<;>first | exact trivial | exact Vq _ _ _ _
theorem eE {c:Prop}[Decidable c]{x y:Sem α}(hx:DC P x)(e:DC P y):DC P (if c then x else y):=by split<;>assumption
theorem Ayd (m:String):DC P (stuck m:Sem α):=trivial
theorem pH (u:Unsupported):DC P (unsupported u:Sem α):=trivial
theorem WW (q:Question):DC P (choose q):=λ_=>trivial
theorem WV:DC P (mark .noRoom):=⟨rfl,trivial⟩
theorem Aye (r:Nat):DC P (shape r):=λ_=>trivial
theorem yo (a:Addr):DC P (frozen a):=λ_=>trivial
theorem py (t:TypeId):DC P (underlying t):=by
  unfold underlying;show DC P (_:Sem _)
  refine Nl (s:=program) trivial λp=>?_
  split<;>trivial
theorem Yc (t:TypeId):DC P (typeInfo t):=by
  unfold typeInfo;refine Nl (s:=program) trivial λp=>?_
  split<;>trivial
theorem yk (t:TypeId):DC P (sizeOf t):=by
  unfold sizeOf;exact Nl (Yc t) λ_=>trivial
theorem ql (t:TypeId):DC P (zeroValue t):=by
  unfold zeroValue;refine Nl (Yc t) λ_=>?_
  split<;>trivial
theorem Ayi (v:Value):DC P (asInt v):=by
  unfold asInt asIntOf;repeat' first | exact trivial | refine Nl ?_ (λ_=>?_) | split
theorem Ayf (v:Value):DC P (Builtin.lenOf v):=by
  unfold Builtin.lenOf;split<;>trivial
theorem pz (a:Addr)(n:Nat):DC P (Builtin.holdsCells a n):=by
  unfold Builtin.holdsCells;refine Nl (Aye _) λ_=>?_
  split<;>trivial
theorem ug (n:Nat):DC P (askRoom n):=by
  unfold askRoom;split
  · exact WV
  · trivial
theorem ym (t:TypeId)(vs:Array Value):DC P (newRow t vs):=by
  unfold newRow;repeat' first | exact trivial | exact WW _ | (exact λ_=>trivial) | refine Nl ?_ (λ_=>?_) | split
theorem ox (e:RuntimeError):DC P (runtimePanic e:Sem α):=by
  unfold runtimePanic;refine Nl (s:=program) trivial λp=>?_
  repeat' first | exact trivial | (exact λ_=>trivial) | refine Nl ?_ (λ_=>?_) | split
theorem rx (size e n:Nat)(base:Option Addr)(x:Value):DC P (Builtin.mayShare size e n base x):=by
  unfold Builtin.mayShare;repeat' first
    | exact trivial
    | exact pz _ _
    | exact yo _
    | refine Nl ?_ (λ_=>?_)
    | refine eE ?_ ?_
    | split
set_option maxHeartbeats 1000000 in
theorem yq (e:Array TypeId)(t:TypeId)(args:Array Value):DC P (Builtin.append_ e t args):=by
  unfold Builtin.append_;repeat' first
    | with_reducible exact gv
    | with_reducible exact Ayd _
    | with_reducible exact pH _
    | with_reducible exact py _
    | with_reducible exact yk _
    | with_reducible exact Yc _
    | with_reducible exact ql _
    | with_reducible exact Ayi _
    | with_reducible exact Ayf _
    | with_reducible exact WW _
    | with_reducible exact WV
    | with_reducible exact ug _
    | with_reducible exact ym _ _
    | with_reducible exact ox _
    | with_reducible exact rx _ _ _ _ _
    | with_reducible exact qC _ _ _
    | with_reducible exact Zx _ _ _
    | with_reducible refine Nl ?_ (λ_=>?_)
    | with_reducible refine eE ?_ ?_
    | split
    | dsimp only
end
theorem U0 {w w':World}{base:Nat}{e:TypeId}{size:Nat}{v:Value}{n:Nat}{xs:List Value}(h:w.ownsRow base e size v n xs)(l:∀k,v.ownBlock=some k->w'.heap[k]?=w.heap[k]?):w'.ownsRow base e size v n xs:=by
 refine⟨h.1,?_⟩;rcases h.2 with j | ⟨g,cap,cur,hv,m,q,rest⟩
 ·exact .inl j
 ·exact .inr ⟨g,cap,cur,hv,m,(l g yEi).trans q,rest⟩
section
variable {τ : Type}{P : Program}{main : Bool}{Low : Nat}{pre : τ -> World -> Prop}{ok : τ -> (Nat -> Prop) -> World -> Goroutine -> Prop}{fn : FuncId}{Q : Xi τ}{a : Act}{x : τ}{O : Nat -> Prop}{w : World}
variable {ops : Array Oper}{i : Nat}{rest : List Nat}{o : Oper}
theorem UY (ae:OkL P main Low pre ok)(ho:ops[i]?=some o)(hw:Region.wanted o (yielded ops a.tmps)=true)(s y:Operand)(t:TypeId)(ac:o.op=.call {callee:=.builtin .append,args:=#[s,y],argTypes:=#[t,t]})
  (e:TypeId) (D:TypeInfo) (z:Value) (size bytes:Nat) (Y:P.underlying t=some (.slice e)) (hi:P.info? e=some D) (W:D.zero=some z) (V:D.size=size) (aa:D.bytes=bytes) (af:z.cells.size=size) (ah:0<size)
  (v:Value) (n:Nat) (xs:List Value) (U:a.eval s=v) (aj:w.ownsRow Low e size v n xs) (M:∀k,v.ownBlock=some k->O k)
  (b c:Nat) (news:List Value) (hx:a.eval y=.slice (some ⟨b,0,none⟩) 1 c) (hl:news.length=size) (um:O b) (ak:∀j u,news[j]?=some u->w.cell? ⟨b,j,none⟩=some u) (h1:∀u∈news,u.oneCell'=true)
  (T:n+1<=maxLen) (Z:(n+1)*bytes<=140737488355328) {w₀:World} (hF:Held Low w₀ O w)
  (h:∀E G J,G.ownsRow Low e size E (n+1) (xs++news)->(∀k,E.ownBlock=some k->J k)->(∀k,E.ownBlock=some k->some k=v.ownBlock\/¬O k)->(∀k,O k->J k)->(∀k,O k->some k≠v.ownBlock->G.heap[k]?=w.heap[k]?)->Held Low w₀ J G->
   Vh ok fn ops rest Q (a.put o.dst E) x J G):Vh ok fn ops (i::rest) Q a x O w:=by
 refine Ye ae ho hw λK C _ an hK=>?_
 have N:=U0 aj λk q=>C.mine k (M k q)
 have S:∀j u,news[j]?=some u->K.cell? ((⟨b,0,none⟩:Addr).add j)=some u:=λj u hu=>by
  have:=ak j u hu
  have e:(⟨b,0,none⟩:Addr).add j=⟨b,j,none⟩:=by unfold Addr.add;split<;>simp_all
  rw[e];rw[<-this];exact World.cell?_of_block (C.mine b um)
 have ab:news.length=1*size:=AQ
 obtain⟨E,G,hr,X,l,_,r⟩:=run_append_own_at (P:=P) K Low t o.type e D z size bytes Y hi W V aa af ah v n xs N ⟨b,0,none⟩ 1 c news ab S h1 T Z (CJ hF.low C.size);refine uponK_append s y t ac U hx hr (hK _ _ ⟨⟨λk I hn=>l.block k I λe=>hn (M k e.symm),l.size,l.tape,l.os,l.output,λL H=>?_⟩,?_⟩)
 ·replace H:=mem_listed H
  rw[events_append_op s y t ac U hx] at H;have hp:=yp (P:=P) _ (yq _ _ _) K #[] (λe he=>by simp at he) L H;rcases events_append_where K Low t o.type e D z size bytes Y hi W V aa v n xs N ⟨b,0,none⟩ 1 c news ab S h1 T Z L H with⟨ad,R,h⟩ | ⟨m,rfl,hm⟩
  ·refine .inl ⟨ad,L.write,?_, .inl (.inl ?_)⟩
   ·obtain⟨al,wr,sy⟩:=L
    simp only at R;subst R;rw[show sy=false from hp.1 ad rfl]
   ·rcases h with⟨_,h⟩ | h
    ·rw[h];exact um
    ·exact M _ h.symm
  ·rw[show m=.noRoom from hm];exact .inr rfl
 ·have A:=hF.rely C
  refine h E G _ X (λk q=>?_) (λk q=>?_) (λk C=>.inl C) (λk B ai=>(l.block k (A.up k B) ai).trans (C.mine k B)) ⟨λk I=>?_,CJ A.low l.size,λk B=>?_,?_,?_⟩
  ·rcases r with r | r
   ·exact .inl (M k (r.symm.trans q))
   ·have ag:=(X.lt k q).2
    rw[r] at q;cases q;exact .inr ⟨CG _,ag⟩
  ·rcases r with r | r
   ·exact .inl (q.symm.trans r)
   ·rw[r] at q
    cases q;exact .inr λhO=>Bad _ (A.up _ hO)
  ·refine(l.block k (CB I A.low) λe=>?_).trans (A.still k I)
   have:=(N.lt k e.symm).1
   omega
  ·rcases B with B | ⟨_,B⟩
   ·exact CB (A.up k B) l.size
   ·exact B
  ·exact l.os.trans A.os
  ·exact l.output.trans A.out
theorem M7 {w₀ e:World}(hF:Held Low w₀ O w)(h:Keep Low O w e)(ob:Obj):
  ∃j,j=(λb=>O b\/b=e.heap.size)/\C0 Low O j w (e.alloc ob)/\Held Low w₀ j (e.alloc ob)/\j e.heap.size/\Low<=e.heap.size/\(∀x,O x->x≠e.heap.size)/\(e.alloc ob).heap[e.heap.size]?=some ob:=
 ⟨_,rfl,h.ext.trans ((hF.rely h).ext _),(hF.rely h).new _, .inr rfl,(hF.rely h).low,λx l=>by have:=(hF.rely h).up x l;omega,by simp only[World.alloc];exact M3⟩
theorem C0.row {w w':World}{l:Nat->Prop}{base:Nat}{e:TypeId}{size:Nat}{v:Value}{n:Nat}{xs:List Value}(h:C0 Low O l w w')(hr:w.ownsRow base e size v n xs)(m:∀k,v.ownBlock=some k->O k\/k<Low):w'.ownsRow base e size v n xs:=
 U0 hr λk j=>(m k j).elim (h.mine k) (h.still k)
end
section
variable {F:Func}{args:Array Value}{c d:Code}{f:FuncId}{g:Goroutine}{i:Nat}{o:Oper}{ops:Array Oper}{rest:List Nat}
variable {P : Program}{Stop : Goroutine -> World -> Prop}{a : Act}{w : World}{b : Frame}{k : List Item}{cs : List Frame}
def Al (Q:World->Prop)(w:World):Prop:=∃τ d,Q {w with tape:=τ,drawn:=d}
theorem Al.of {Q:World->Prop}(h:Q w):Al Q w:=⟨w.tape,w.drawn,h⟩
theorem V4 (p:OkP P)(S:Goroutine->World->Prop)(hr:g.status=.running)(z:∀g w,S g w->g.status=.running)
  (H:∀τ d,∃n j l,runN P n (solo g {w with tape:=τ,drawn:=d})=.next (solo j l)/\S j l) (h:∀j l,Al (S j) l->Comes P j l Stop):Comes P g w Stop:=by
 intro u sl t hF q;have v:Way P (λj l=>Al (S j) l) g w:=by
  refine tD p _ (λj l ⟨τ,d,m⟩=>z _ _ m) (λj l τ e ⟨r,y,m⟩=>⟨r,y,m⟩) g q hr w fun τ d=>?_
  obtain⟨n,j,l,s,m⟩:=H τ d;exact⟨n,j,l,s,Al.of m⟩
 exact(sP p v).then (λj l _ m=>h j l m) u sl t hF q
theorem Ug (q:OkP P){fr fr':Frame}{cs cs':List Frame}(t:∀j,stepG P true (G fr cs) j=.go (G fr' cs') j #[])(h:∀m,Al (λx=>x=w) m->Comes P (G fr' cs') m Stop):Comes P (G fr cs) w Stop:=by
 refine V4 q (λl e=>l=G fr' cs'/\Al (λx=>x=w) e) rfl (λg w h=>by rw[h.1];rfl) (fun τ d=>?_) ?_
 ·refine⟨1,G fr' cs',{w with tape:=τ,drawn:=d},?_,rfl,⟨w.tape,w.drawn,rfl⟩⟩
  have s:step P (solo (G fr cs) {w with tape:=τ,drawn:=d})=.next (solo (G fr' cs') {w with tape:=τ,drawn:=d}):=step_lone_go (by rw[show({frame:=fr,callers:=cs,status:=.running,dying:=none}:Goroutine)=G fr cs from rfl,t];rfl);simp only[runN,s]
 ·rintro l e ⟨τ,d,rfl,n,p,r⟩
  exact h e ⟨n,p,r⟩
theorem V3 (j:OkP P)(h:∀e,Al (λx=>x=w) e->Comes P (G (b.at a (.code c::.code d::k)) cs) e Stop):Comes P (G (b.at a (.code (.seq c d)::k)) cs) w Stop:=
 Ug j (λ_=>stepG_seq) h
theorem Rk (j:OkP P){l:Nat}(h:∀e,Al (λx=>x=w) e->Comes P (G (b.at a (.inRegion ops (List.range ops.size)::k)) cs) e Stop):Comes P (G (b.at a (.code (.region l ops false)::k)) cs) w Stop:=
 Ug j (λ_=>stepG_region) h
theorem LG (j:OkP P)(h:∀e,Al (λx=>x=w) e->Comes P (G (b.at a k) cs) e Stop):Comes P (G (b.at a (.inRegion ops []::k)) cs) w Stop:=
 Ug j (λ_=>stepG_region_end) h
theorem Qh (l:OkP P){v:Value}(p:ops[i]?=some o)(q:Region.wanted o (yielded ops a.tmps)=true)(m:b.kind≠.early)
  (hr:∀e:World,(execOp a.eval o).run P e=.ok (.value v) e) (n:∀e:World,(execOp a.eval o).events P e #[]=#[]) (h:∀j,Al (λx=>x=w) j->Comes P (G (b.at (a.put o.dst v) (.inRegion ops rest::k)) cs) j Stop):Comes P (G (b.at a (.inRegion ops (i::rest)::k)) cs) w Stop:=by
 refine Ug l (λe=>?_) h;rw[stepG_value p q m (hr e)];unfold listed;rw[n,seen_none]
def GH (P:Program)(f:FuncId)(args:Array Value)(w:World)(Post:Value->World->Prop):Prop:=
 ∀(e:Frame) (cs:List Frame) (Stop:Goroutine->World->Prop),(∀v h,Post v h->Comes P (G (e.finish v) cs) h Stop)->Comes P (G (Frame.enter P f args .normal) (e::cs)) w Stop
theorem VW (r:OkP P){Post:Value->World->Prop}(h:∀τ d,Calls P f args {w with tape:=τ,drawn:=d} λe j=>∃v,e=.returned v/\Post v j):GH P f args w (λv=>Al (Post v)):=by
 intro l cs Stop q;refine V4 r (λp j=>∃v,p=G (l.finish v) cs/\Post v j) rfl (λg w ⟨v,h,_⟩=>by rw[h];rfl) (fun τ d=>?_) ?_
 ·obtain⟨e,j,u,⟨v,rfl,m⟩,⟨n,t⟩,_,s⟩:=h τ d (l::cs)
  refine⟨n+1,G (l.finish v) cs,j,?_,v,rfl,m⟩;rw[runN_add];rw[show solo (G (Frame.enter P f args .normal) (l::cs)) {w with tape:=τ,drawn:=d}=lone (Frame.enter P f args .normal) (l::cs) {w with tape:=τ,drawn:=d} from rfl,t];have:=step_leave_returned (c:=l) (cs:=cs) s
  simp only[runN,this];rfl
 ·rintro p j ⟨τ,d,v,rfl,m⟩
  exact q v j ⟨τ,d,m⟩
theorem GH.mono {Post j:Value->World->Prop}(h:GH P f args w Post)(l:∀v e,Post v e->j v e):GH P f args w j:=
 λn cs Stop m=>h n cs Stop λv e q=>m v e (l v e q)
theorem enter_at (args:Array Value)(e:P.funcs[f]?=some F)(h:F.body=some c):Frame.enter P f args .normal=(base f).at {tmps:=args++Array.replicate (F.ntmps - args.size) undef,defers:=[]} [.code c]:=by
 simp[Frame.enter,e,h,base,Frame.at]
theorem OP (n:OkP P){args:Array Operand}{u:Array TypeId}{vals:Array Value}{Post:Value->World->Prop}(l:ops[i]?=some o)(I:Region.wanted o (yielded ops a.tmps)=true)(C:b.kind≠.early)
  (H:o.op=.call {callee:=.value (.func f),args,argTypes:=u}) (j:P.funcs[f]?=some F) (p:F.body=some c) (y:args.map a.eval=vals) (z:∀e,Al (λx=>x=w) e->GH P f vals e Post)
  (h:∀v e,Post v e->Comes P (G (b.at (a.put o.dst v) (.inRegion ops rest::k)) cs) e Stop):Comes P (G (b.at a (.inRegion ops (i::rest)::k)) cs) w Stop:=by
 have J:=n.name f F j;refine Ug n (fr':=Frame.enter P f vals .normal) (cs':=b.at a (.inRegion ops (i::rest)::k)::cs) (λm=>?_) λe D=>z e D _ _ _ λv s A=>?_
 ·obtain⟨r,e,q,E,t⟩:=goes_elim (goes_call (P:=P) (main:=true) (w:=m) (cs:=cs) (k:=k) (rest:=rest) (K:=λr e q=>r=G ((base f).at {tmps:=args.map a.eval++Array.replicate (F.ntmps - (args.map a.eval).size) undef,defers:=[]} [.code c]) (b.at a (.inRegion ops (i::rest)::k)::cs)/\e=m/\q=#[]) l I C H j J p ⟨rfl,rfl,rfl⟩)
  obtain⟨rfl,rfl,rfl⟩:=t;rw[enter_at vals j p,<-y];exact E
 ·have B:(b.at a (.inRegion ops (i::rest)::k)).finish v=b.at (a.put o.dst v) (.inRegion ops rest::k):=by rw[Frame.finish_at,l];rfl
  rw[B];exact h v s A
theorem ZE (u:OkP P){Q:Exit->Act->World->Prop}(v:∀e a w,Q e a w->e=.normal\/e=.ret)(h:∀τ d,c.wp P Q a {w with tape:=τ,drawn:=d})
  (t:∀j l,Al (Q .normal j) l->Comes P (G (b.at j k) cs) l Stop) (hr:∀j l p,Al (Q .ret j) l->Comes P (G {b.at j p with mode:=.returning} cs) l Stop):Comes P (G (b.at a (.code c::k)) cs) w Stop:=by
 refine V4 u (λr l=>(∃j,Q .normal j l/\r=G (b.at j k) cs)\/∃j p,Q .ret j l/\r=G {b.at j p with mode:=.returning} cs) rfl ?_ (fun τ d=>?_) ?_
 ·rintro g w (⟨_,_,rfl⟩ | ⟨_,_,_,rfl⟩)<;>rfl
 ·obtain⟨e,j,l,m,s⟩:=h τ d b k cs
  rcases v _ _ _ m with rfl | rfl
  ·obtain⟨n,q⟩:=s
   exact⟨n,_,l,q, .inl ⟨j,m,rfl⟩⟩
  ·obtain⟨p,n,q⟩:=s
   exact⟨n,_,l,q, .inr ⟨j,p,m,rfl⟩⟩
 ·rintro r l ⟨τ,d,⟨j,m,rfl⟩ | ⟨j,p,m,rfl⟩⟩
  ·exact t j l ⟨τ,d,m⟩
  ·exact hr j l p ⟨τ,d,m⟩
def HO:List Code->Code->Code
 | [],d=>d
 | c::l,d=>.seq c (HO l d)
def WpL (P:Program)(R:Act->World->Prop):List Code->Act->World->Prop
 | [],a,w=>R a w
 | c::l,a,w=>c.wp P (Exit.then (WpL P R l) λ_ _ _=>False) a w
theorem XR {R:Act->World->Prop}:∀(l:List Code) (a:Act) (w:World),WpL P R l a w->∃j m,R j m/\Steps P (lone (b.at a (.code (HO l d)::k)) cs w) (lone (b.at j (.code d::k)) cs m)
 | [],a,w,h=>⟨a,w,h,Steps.refl _ _⟩
 | c::l,a,w,h=>by
  obtain⟨e,q,p,n,r⟩:=h b (.code (HO l d)::k) cs;cases e with
  | normal=>
   obtain⟨j,m,s,t⟩:=XR l q p n;exact⟨j,m,s,(Steps.head step_seq r).trans t⟩
  | _=>exact n.elim
theorem XB (r:OkP P)(l:List Code){R:Act->World->Prop}(h:∀τ m,WpL P R l a {w with tape:=τ,drawn:=m})(s:∀e j,Al (R e) j->Comes P (G (b.at e (.code d::k)) cs) j Stop):Comes P (G (b.at a (.code (HO l d)::k)) cs) w Stop:=by
 refine V4 r (λq j=>∃e,R e j/\q=G (b.at e (.code d::k)) cs) rfl ?_ (fun τ m=>?_) ?_
 ·rintro g w ⟨_,_,rfl⟩;rfl
 ·obtain⟨e,j,p,n,t⟩:=XR (b:=b) (k:=k) (cs:=cs) (d:=d) l a _ (h τ m)
  exact⟨n,_,j,t,e,p,rfl⟩
 ·rintro q j ⟨τ,m,e,p,rfl⟩
  exact s e j ⟨τ,m,p⟩
theorem rR {Post:Value->World->Prop}(hg:OkG g)(h:Comes P g w λp j=>∀d,AtEnd P (λ_=>False) 0 Post p (j.at d)):
  ∃N last o j r,runNT P (N+1) (solo g w) #[]=(.ended o j,r)/\runN P N (solo g w)=.next last/\step P last=.ended o j/\Conc.Good P Post last o j r:=by
 obtain⟨N,t,p,j,s,r,n,⟨y,⟨q,I⟩,B,L⟩,_,_,G⟩:=h #[g] none #[] ⟨rfl,⟨_,leavers_one P g⟩,0,past_nil⟩ hg;have J:Goes P true AtRel (λ_ _ _=>False) (AtEnd P (λ_=>False) B Post) 0 p j:=by
  rintro U ⟨d,rfl⟩;obtain⟨M,v,T,S,l,z⟩:=G d;exact⟨M,v,T,S,λe m=>⟨(l e m).1,(l e m).2.1,(l e m).2.2.1,MemAct.low_mono (DI _) (l e m).2.2.2⟩,z⟩
 obtain⟨u,last,o,D,K,H,C,A,E⟩:=beside_ends (sl:=s) (λ_ _ _ h=>h.elim) y I L J;have R:crowd #[g] w none=solo g w:=rfl;rw[R] at n;refine⟨N+u,last,o,D,K,?_,?_,A,E⟩
 ·rw[Nat.add_assoc,runNT_add,n];exact H
 ·rw[runN_add]
  have:runN P N (solo g w)=.next (crowd t j s):=by rw[<-runNT_fst _ _ _ #[],n]
  rw[this];exact C
end
