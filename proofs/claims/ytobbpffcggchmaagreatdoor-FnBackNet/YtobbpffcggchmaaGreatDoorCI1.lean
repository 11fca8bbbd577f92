import Derived.Test.YtobbpffcggchmaaGreatDoorCE6
import Derived.Conc.AppendWalk
import Derived.Maps.AppendAt
import Derived.Calls
namespace Go.Co
open Go.Conc
theorem Ajc {P:Program}{w:World}{es:Array Event}(t:TypeId)(h:P.underlying t=some (.slice (P.elem t)))(a:Option Addr)(m r:Nat)(h1:(1:Int)<=(m:Int)+1):
  (Instr.sliceAt t (.slice a (m+1) r) (some (.int .i64 1)) none none).events P w es=es:=by
 simp only[Instr.sliceAt,Instr.slice,Instr.sliceBounds,Instr.sliceBound,asIntOf];simp[run_underlying h,h1]
def Pln (P:Program){α:Type}:Sem α->Prop
  | .pure _=>True
  | .load m _ k=>m=.plain/\∀v,Pln P (k v)
  | .store m _ _ k=>m=.plain/\Pln P k
  | .new _ k=>∀r,Pln P (k r)
  | .shape _ k=>∀s,Pln P (k s)
  | .freeze _ _ k=>Pln P k
  | .frozen _ k=>∀b,Pln P (k b)
  | .getObj _ _=>False
  | .setObj _ _ _=>False
  | .choose _ k=>∀n,Pln P (k n)
  | .sys _ _=>False
  | .program k=>Pln P (k P)
  | .mark m k=>m=.noRoom/\Pln P k
  | .halt _=>True
section
variable {P : Program}{α β : Type}
theorem Axt {f:α->Sem β}(j:∀a,Pln P (f a)):∀(s:Sem α),Pln P s->Pln P (s.bind f):=by
  intro s;induction s with
  | pure a=>exact λ_=>j a
  | load m a k e=>exact λh=>⟨h.1,λv=>e v (h.2 v)⟩
  | store m a v k e=>exact λh=>⟨h.1,e h.2⟩
  | new o k e=>exact λh v=>e v (h v)
  | shape r k e=>exact λh v=>e v (h v)
  | freeze a n k e=>exact λh=>e h
  | frozen a k e=>exact λh v=>e v (h v)
  | getObj r k e=>exact λh=>h.elim
  | setObj r o k e=>exact λh=>h.elim
  | choose q k e=>exact λh v=>e v (h v)
  | sys c k e=>exact λh=>h.elim
  | program k e=>exact λh=>e P h
  | mark m k e=>exact λh=>⟨h.1,e h.2⟩
  | halt x=>exact λ_=>trivial
theorem Lt {s:Sem α}{f:α->Sem β}(h:Pln P s)(e:∀a,Pln P (f a)):Pln P (s>>=f):=Axt e s h
theorem A10 {a:α}:Pln P (pure a:Sem α):=trivial
def EvP (e:Event):Prop:=(∀a,e.loc=.cell a->e.sync=false)/\(∀m,e.loc=.mark m->m=.noRoom)
theorem Asl:∀(s:Sem α),Pln P s->∀(w:World) (t:Array Event),(∀e∈t,EvP e)->∀e∈(s.runT P w t).2,EvP e:=by
  intro s;induction s with
  | pure a=>exact λ_ w t h=>h
  | load m a k l=>
    rintro⟨rfl,p⟩ w t h;simp only[Sem.runT];split
    · refine l _ (p _) _ _ λe j=>?_
      rcases Array.mem_push.1 j with j | rfl
      · exact h e j
      · exact⟨λ_ _=>rfl,λm u=>by cases u⟩
    · split
      · refine l _ (p _) _ _ λe j=>?_
        rcases Array.mem_append.1 j with j | j
        · exact h e j
        · obtain⟨x,_,rfl⟩:=Array.mem_map.1 j
          exact⟨λ_ _=>rfl,λm u=>by cases u⟩
      · exact h
  | store m a v k l=>
    rintro⟨rfl,p⟩ w t h;have key:∀y (z:Array Addr),∀e∈(k.runT P y (t++z.map λx=>⟨.cell x,true,false⟩)).2,EvP e:=λy z=>by
      refine l p _ _ λe j=>?_
      rcases Array.mem_append.1 j with j | j
      · exact h e j
      · obtain⟨x,_,rfl⟩:=Array.mem_map.1 j
        exact⟨λ_ _=>rfl,λm u=>by cases u⟩
    have A:∀y (x:Addr),∀e∈(k.runT P y (t.push ⟨.cell x,true,false⟩)).2,EvP e:=λy x=>by
      refine l p _ _ λe j=>?_
      rcases Array.mem_push.1 j with j | rfl
      · exact h e j
      · exact⟨λ_ _=>rfl,λm u=>by cases u⟩
    cases v<;>simp only[Sem.runT]<;>first
      | exact h
      | (split
         · split
           · exact h
           · exact A _ _
         · split
           · exact key _ _
           · exact h)
  | new o k l=>exact λp w t h=>l _ (p _) _ _ h
  | shape r k l=>exact λp w t h=>l _ (p _) _ _ h
  | freeze a n k l=>exact λp w t h=>l p _ _ h
  | frozen a k l=>exact λp w t h=>l _ (p _) _ _ h
  | getObj r k l=>exact λh=>h.elim
  | setObj r o k l=>exact λh=>h.elim
  | choose q k l=>
    intro p w t h;simp only[Sem.runT];split
    · exact l _ (p _) _ _ h
    · exact l _ (p _) _ _ h
  | sys c k l=>exact λh=>h.elim
  | program k l=>exact λp w t h=>l _ p _ _ h
  | mark m k l=>
    rintro⟨rfl,p⟩ w t h;refine l p _ _ λe j=>?_
    rcases Array.mem_push.1 j with j | rfl
    · exact h e j
    · refine⟨λ_ u=>?_,λm u=>?_⟩
      · cases u
      · cases u;rfl
  | halt x=>exact λ_ w t h=>h
theorem Uj (a:Addr):∀(n i:Nat) (acc:Array Value),Pln P (loadCellsFrom a i n acc)
  | 0,_,_=>trivial
  | n+1,i,_acc=>Lt (s:=load (a.add i)) ⟨rfl,λ_=>trivial⟩ λ_v=>Uj a n (i+1) _
theorem Yi (a:Addr):∀(e:List Value) (i:Nat),Pln P (storeCells a e i)
  | [],_=>trivial
  | v::e,i=>Lt (s:=store (a.add i) v) ⟨rfl,trivial⟩ λ_=>Yi a e (i+1)
theorem Af9 (size n:Nat)(v:Value):Pln P (Builtin.firstCells size n v):=by
  unfold Builtin.firstCells;split<;>first | exact trivial | exact Uj _ _ _ _
theorem Axs {c:Prop}[Decidable c]{x y:Sem α}(hx:Pln P x)(e:Pln P y):Pln P (if c then x else y):=by split<;>assumption
theorem Axp (m:String):Pln P (stuck m:Sem α):=trivial
theorem Aea (u:Unsupported):Pln P (unsupported u:Sem α):=trivial
theorem Ahc (q:Question):Pln P (choose q):=λ_=>trivial
theorem Ahb:Pln P (mark .noRoom):=⟨rfl,trivial⟩
theorem Axq (r:Nat):Pln P (shape r):=λ_=>trivial
theorem Asj (a:Addr):Pln P (frozen a):=λ_=>trivial
theorem Af7 (t:TypeId):Pln P (underlying t):=by
  unfold underlying;show Pln P (_:Sem _)
  refine Lt (s:=program) trivial λp=>?_
  split<;>trivial
theorem Wy (t:TypeId):Pln P (typeInfo t):=by
  unfold typeInfo;refine Lt (s:=program) trivial λp=>?_
  split<;>trivial
theorem Asg (t:TypeId):Pln P (sizeOf t):=by
  unfold sizeOf;exact Lt (Wy t) λ_=>trivial
theorem Ait (t:TypeId):Pln P (zeroValue t):=by
  unfold zeroValue;refine Lt (Wy t) λ_=>?_
  split<;>trivial
theorem Axu (v:Value):Pln P (asInt v):=by
  unfold asInt asIntOf;repeat' first | exact trivial | refine Lt ?_ (λ_=>?_) | split
theorem Axr (v:Value):Pln P (Builtin.lenOf v):=by
  unfold Builtin.lenOf;split<;>trivial
theorem Af8 (a:Addr)(n:Nat):Pln P (Builtin.holdsCells a n):=by
  unfold Builtin.holdsCells;refine Lt (Axq _) λ_=>?_
  split<;>trivial
theorem An6 (n:Nat):Pln P (askRoom n):=by
  unfold askRoom;split
  · exact Ahb
  · trivial
theorem Asi (t:TypeId)(vs:Array Value):Pln P (newRow t vs):=by
  unfold newRow;repeat' first | exact trivial | exact Ahc _ | (exact λ_=>trivial) | refine Lt ?_ (λ_=>?_) | split
theorem Acw (e:RuntimeError):Pln P (runtimePanic e:Sem α):=by
  unfold runtimePanic;refine Lt (s:=program) trivial λp=>?_
  repeat' first | exact trivial | (exact λ_=>trivial) | refine Lt ?_ (λ_=>?_) | split
theorem Ak5 (size e n:Nat)(base:Option Addr)(x:Value):Pln P (Builtin.mayShare size e n base x):=by
  unfold Builtin.mayShare;repeat' first
    | exact trivial
    | exact Af8 _ _
    | exact Asj _
    | refine Lt ?_ (λ_=>?_)
    | refine Axs ?_ ?_
    | split
set_option maxHeartbeats 1000000 in
theorem Asm (e:Array TypeId)(t:TypeId)(args:Array Value):Pln P (Builtin.append_ e t args):=by
  unfold Builtin.append_;repeat' first
    | with_reducible exact A10
    | with_reducible exact Axp _
    | with_reducible exact Aea _
    | with_reducible exact Af7 _
    | with_reducible exact Asg _
    | with_reducible exact Wy _
    | with_reducible exact Ait _
    | with_reducible exact Axu _
    | with_reducible exact Axr _
    | with_reducible exact Ahc _
    | with_reducible exact Ahb
    | with_reducible exact An6 _
    | with_reducible exact Asi _ _
    | with_reducible exact Acw _
    | with_reducible exact Ak5 _ _ _ _ _
    | with_reducible exact Af9 _ _ _
    | with_reducible exact Yi _ _ _
    | with_reducible refine Lt ?_ (λ_=>?_)
    | with_reducible refine Axs ?_ ?_
    | split
    | dsimp only
end
theorem S9 {w w':World}{base:Nat}{e:TypeId}{size:Nat}{v:Value}{n:Nat}{xs:List Value}(h:w.ownsRow base e size v n xs)(m:∀k,v.ownBlock=some k->w'.heap[k]?=w.heap[k]?):w'.ownsRow base e size v n xs:=by
 refine⟨h.1,?_⟩;rcases h.2 with q | ⟨g,cap,cur,hv,l,j,rest⟩
 ·exact .inl q
 ·exact .inr ⟨g,cap,cur,hv,l,(m g yDg).trans j,rest⟩
section
variable {τ : Type}{P : Program}{main : Bool}{Low : Nat}{pre : τ -> World -> Prop}{ok : τ -> (Nat -> Prop) -> World -> Goroutine -> Prop}{fn : FuncId}{Q : Vw τ}{a : Act}{x : τ}{O : Nat -> Prop}{w : World}
variable {ops : Array Oper}{i : Nat}{rest : List Nat}{o : Oper}
theorem Aeg (ae:OkL P main Low pre ok)(ho:ops[i]?=some o)(hw:Region.wanted o (yielded ops a.tmps)=true)(s y:Operand)(t:TypeId)(U:o.op=.call {callee:=.builtin .append,args:=#[s,y],argTypes:=#[t,t]})
  (e:TypeId) (G:TypeInfo) (z:Value) (size bytes:Nat) (ht:P.underlying t=some (.slice e)) (hi:P.info? e=some G) (hz:G.zero=some z) (ab:G.size=size) (aa:G.bytes=bytes) (ai:z.cells.size=size) (aj:0<size)
  (v:Value) (n:Nat) (xs:List Value) (X:a.eval s=v) (ag:w.ownsRow Low e size v n xs) (I:∀k,v.ownBlock=some k->O k)
  (b c:Nat) (news:List Value) (hx:a.eval y=.slice (some ⟨b,0,none⟩) 1 c) (hl:news.length=size) (T:O b) (af:∀j u,news[j]?=some u->w.cell? ⟨b,j,none⟩=some u) (h1:∀u∈news,u.oneCell'=true)
  (R:n+1<=maxLen) (Y:(n+1)*bytes<=140737488355328) {w₀:World} (hF:Held Low w₀ O w)
  (h:∀D E M,E.ownsRow Low e size D (n+1) (xs++news)->(∀k,D.ownBlock=some k->M k)->(∀k,D.ownBlock=some k->some k=v.ownBlock\/¬O k)->(∀k,O k->M k)->(∀k,O k->some k≠v.ownBlock->E.heap[k]?=w.heap[k]?)->Held Low w₀ M E->
   Ud ok fn ops rest Q (a.put o.dst D) x M E):Ud ok fn ops (i::rest) Q a x O w:=by
 refine Xa ae ho hw λK C _ al hK=>?_
 have N:=S9 ag λk q=>C.mine k (I k q)
 have Z:∀j u,news[j]?=some u->K.cell? ((⟨b,0,none⟩:Addr).add j)=some u:=λj u hu=>by
  have:=af j u hu
  have e:(⟨b,0,none⟩:Addr).add j=⟨b,j,none⟩:=by unfold Addr.add;split<;>simp_all
  rw[e];rw[<-this];exact World.cell?_of_block (C.mine b T)
 have V:news.length=1*size:=omz
 obtain⟨D,E,hr,W,l,_,r⟩:=run_append_own_at (P:=P) K Low t o.type e G z size bytes ht hi hz ab aa ai aj v n xs N ⟨b,0,none⟩ 1 c news V Z h1 R Y (A9f hF.low C.size);refine uponK_append s y t U X hx hr (hK _ _ ⟨⟨λk J hn=>l.block k J λe=>hn (I k e.symm),l.size,l.tape,l.os,l.output,λL H=>?_⟩,?_⟩)
 ·replace H:=mem_listed H
  rw[events_append_op s y t U X hx] at H;have hp:=Asl (P:=P) _ (Asm _ _ _) K #[] (λe he=>by simp at he) L H;rcases events_append_where K Low t o.type e G z size bytes ht hi hz ab aa v n xs N ⟨b,0,none⟩ 1 c news V Z h1 R Y L H with⟨ad,S,h⟩ | ⟨m,rfl,hm⟩
  ·refine .inl ⟨ad,L.write,?_, .inl (.inl ?_)⟩
   ·obtain⟨ak,wr,sy⟩:=L
    simp only at S;subst S;rw[show sy=false from hp.1 ad rfl]
   ·rcases h with⟨_,h⟩ | h
    ·rw[h];exact T
    ·exact I _ h.symm
  ·rw[show m=.noRoom from hm];exact .inr rfl
 ·have A:=hF.rely C
  refine h D E _ W (λk q=>?_) (λk q=>?_) (λk C=>.inl C) (λk B ac=>(l.block k (A.up k B) ac).trans (C.mine k B)) ⟨λk J=>?_,A9f A.low l.size,λk B=>?_,?_,?_⟩
  ·rcases r with r | r
   ·exact .inl (I k (r.symm.trans q))
   ·have ah:=(W.lt k q).2
    rw[r] at q;cases q;exact .inr ⟨A88 _,ah⟩
  ·rcases r with r | r
   ·exact .inl (q.symm.trans r)
   ·rw[r] at q
    cases q;exact .inr λhO=>Bae _ (A.up _ hO)
  ·refine(l.block k (A82 J A.low) λe=>?_).trans (A.still k J)
   have:=(N.lt k e.symm).1
   omega
  ·rcases B with B | ⟨_,B⟩
   ·exact A82 (A.up k B) l.size
   ·exact B
  ·exact l.os.trans A.os
  ·exact l.output.trans A.out
theorem A0i {w₀ e:World}(hF:Held Low w₀ O w)(h:Keep Low O w e)(ob:Obj):
  ∃j,j=(λb=>O b\/b=e.heap.size)/\Ext Low O j w (e.alloc ob)/\Held Low w₀ j (e.alloc ob)/\j e.heap.size/\Low<=e.heap.size/\(∀x,O x->x≠e.heap.size)/\(e.alloc ob).heap[e.heap.size]?=some ob:=
 ⟨_,rfl,h.ext.trans ((hF.rely h).ext _),(hF.rely h).new _, .inr rfl,(hF.rely h).low,λx l=>by have:=(hF.rely h).up x l;omega,by simp only[World.alloc];exact Bby⟩
theorem Ext.row {w w':World}{m:Nat->Prop}{base:Nat}{e:TypeId}{size:Nat}{v:Value}{n:Nat}{xs:List Value}(h:Ext Low O m w w')(hr:w.ownsRow base e size v n xs)(l:∀k,v.ownBlock=some k->O k\/k<Low):w'.ownsRow base e size v n xs:=
 S9 hr λk j=>(l k j).elim (h.mine k) (h.still k)
end
section
variable {F:Func}{args:Array Value}{c d:Code}{f:FuncId}{g:Goroutine}{i:Nat}{o:Oper}{ops:Array Oper}{rest:List Nat}
variable {P : Program}{Stop : Goroutine -> World -> Prop}{a : Act}{w : World}{b : Frame}{k : List Item}{cs : List Frame}
def Al (Q:World->Prop)(w:World):Prop:=∃τ d,Q {w with tape:=τ,drawn:=d}
theorem Al.of {Q:World->Prop}(h:Q w):Al Q w:=⟨w.tape,w.drawn,h⟩
theorem Uw (q:OkP P)(S:Goroutine->World->Prop)(hr:g.status=.running)(s:∀g w,S g w->g.status=.running)
  (H:∀τ d,∃n j l,runN P n (solo g {w with tape:=τ,drawn:=d})=.next (solo j l)/\S j l) (h:∀j l,Al (S j) l->Comes P j l Stop):Comes P g w Stop:=by
 intro v sl t hF p;have r:Way P (λj l=>Al (S j) l) g w:=by
  refine Ann q _ (λj l ⟨τ,d,m⟩=>s _ _ m) (λj l τ e ⟨y,u,m⟩=>⟨y,u,m⟩) g p hr w fun τ d=>?_
  obtain⟨n,j,l,z,m⟩:=H τ d;exact⟨n,j,l,z,Al.of m⟩
 exact(Amk q r).then (λj l _ m=>h j l m) v sl t hF p
theorem Ux (n:OkP P){fr fr':Frame}{cs cs':List Frame}(s:∀j,stepG P true (G fr cs) j=.go (G fr' cs') j #[])(h:∀m,Al (λx=>x=w) m->Comes P (G fr' cs') m Stop):Comes P (G fr cs) w Stop:=by
 refine Uw n (λl e=>l=G fr' cs'/\Al (λx=>x=w) e) rfl (λg w h=>by rw[h.1];rfl) (fun τ d=>?_) ?_
 ·refine⟨1,G fr' cs',{w with tape:=τ,drawn:=d},?_,rfl,⟨w.tape,w.drawn,rfl⟩⟩
  have p:step P (solo (G fr cs) {w with tape:=τ,drawn:=d})=.next (solo (G fr' cs') {w with tape:=τ,drawn:=d}):=step_lone_go (by rw[show({frame:=fr,callers:=cs,status:=.running,dying:=none}:Goroutine)=G fr cs from rfl,s];rfl);simp only[runN,p]
 ·rintro l e ⟨τ,d,rfl,r,q,t⟩
  exact h e ⟨r,q,t⟩
theorem Xj (j:OkP P)(h:∀e,Al (λx=>x=w) e->Comes P (G (b.at a (.code c::.code d::k)) cs) e Stop):Comes P (G (b.at a (.code (.seq c d)::k)) cs) w Stop:=
 Ux j (λ_=>stepG_seq) h
theorem Tq (j:OkP P){l:Nat}(h:∀e,Al (λx=>x=w) e->Comes P (G (b.at a (.inRegion ops (List.range ops.size)::k)) cs) e Stop):Comes P (G (b.at a (.code (.region l ops false)::k)) cs) w Stop:=
 Ux j (λ_=>stepG_region) h
theorem Afa (j:OkP P)(h:∀e,Al (λx=>x=w) e->Comes P (G (b.at a k) cs) e Stop):Comes P (G (b.at a (.inRegion ops []::k)) cs) w Stop:=
 Ux j (λ_=>stepG_region_end) h
theorem X7 (l:OkP P){v:Value}(p:ops[i]?=some o)(q:Region.wanted o (yielded ops a.tmps)=true)(n:b.kind≠.early)
  (hr:∀e:World,(execOp a.eval o).run P e=.ok (.value v) e) (m:∀e:World,(execOp a.eval o).events P e #[]=#[]) (h:∀j,Al (λx=>x=w) j->Comes P (G (b.at (a.put o.dst v) (.inRegion ops rest::k)) cs) j Stop):Comes P (G (b.at a (.inRegion ops (i::rest)::k)) cs) w Stop:=by
 refine Ux l (λe=>?_) h;rw[stepG_value p q n (hr e)];unfold listed;rw[m,seen_none]
def Aav (P:Program)(f:FuncId)(args:Array Value)(w:World)(Post:Value->World->Prop):Prop:=
 ∀(h:Frame) (cs:List Frame) (Stop:Goroutine->World->Prop),(∀v e,Post v e->Comes P (G (h.finish v) cs) e Stop)->Comes P (G (Frame.enter P f args .normal) (h::cs)) w Stop
theorem Apq (r:OkP P){Post:Value->World->Prop}(h:∀τ d,Calls P f args {w with tape:=τ,drawn:=d} λe j=>∃v,e=.returned v/\Post v j):Aav P f args w (λv=>Al (Post v)):=by
 intro l cs Stop t;refine Uw r (λp j=>∃v,p=G (l.finish v) cs/\Post v j) rfl (λg w ⟨v,h,_⟩=>by rw[h];rfl) (fun τ d=>?_) ?_
 ·obtain⟨e,j,u,⟨v,rfl,m⟩,⟨n,q⟩,_,s⟩:=h τ d (l::cs)
  refine⟨n+1,G (l.finish v) cs,j,?_,v,rfl,m⟩;rw[runN_add];rw[show solo (G (Frame.enter P f args .normal) (l::cs)) {w with tape:=τ,drawn:=d}=lone (Frame.enter P f args .normal) (l::cs) {w with tape:=τ,drawn:=d} from rfl,q];have:=step_leave_returned (c:=l) (cs:=cs) s
  simp only[runN,this];rfl
 ·rintro p j ⟨τ,d,v,rfl,m⟩
  exact t v j ⟨τ,d,m⟩
theorem Aav.mono {Post j:Value->World->Prop}(h:Aav P f args w Post)(l:∀v e,Post v e->j v e):Aav P f args w j:=
 λn cs Stop m=>h n cs Stop λv e q=>m v e (l v e q)
theorem enter_at (args:Array Value)(e:P.funcs[f]?=some F)(h:F.body=some c):Frame.enter P f args .normal=(base f).at {tmps:=args++Array.replicate (F.ntmps - args.size) undef,defers:=[]} [.code c]:=by
 simp[Frame.enter,e,h,base,Frame.at]
theorem Ah0 (l:OkP P){args:Array Operand}{s:Array TypeId}{vals:Array Value}{Post:Value->World->Prop}(n:ops[i]?=some o)(B:Region.wanted o (yielded ops a.tmps)=true)(D:b.kind≠.early)
  (y:o.op=.call {callee:=.value (.func f),args,argTypes:=s}) (j:P.funcs[f]?=some F) (p:F.body=some c) (C:args.map a.eval=vals) (J:∀e,Al (λx=>x=w) e->Aav P f vals e Post)
  (h:∀v e,Post v e->Comes P (G (b.at (a.put o.dst v) (.inRegion ops rest::k)) cs) e Stop):Comes P (G (b.at a (.inRegion ops (i::rest)::k)) cs) w Stop:=by
 have u:=l.name f F j;refine Ux l (fr':=Frame.enter P f vals .normal) (cs':=b.at a (.inRegion ops (i::rest)::k)::cs) (λm=>?_) λe H=>J e H _ _ _ λv A z=>?_
 ·obtain⟨q,e,r,t,I⟩:=goes_elim (goes_call (P:=P) (main:=true) (w:=m) (cs:=cs) (k:=k) (rest:=rest) (K:=λq e r=>q=G ((base f).at {tmps:=args.map a.eval++Array.replicate (F.ntmps - (args.map a.eval).size) undef,defers:=[]} [.code c]) (b.at a (.inRegion ops (i::rest)::k)::cs)/\e=m/\r=#[]) n B D y j u p ⟨rfl,rfl,rfl⟩)
  obtain⟨rfl,rfl,rfl⟩:=I;rw[enter_at vals j p,<-C];exact t
 ·have E:(b.at a (.inRegion ops (i::rest)::k)).finish v=b.at (a.put o.dst v) (.inRegion ops rest::k):=by rw[Frame.finish_at,n];rfl
  rw[E];exact h v A z
theorem Ajl (t:OkP P){Q:Exit->Act->World->Prop}(u:∀e a w,Q e a w->e=.normal\/e=.ret)(h:∀τ d,c.wp P Q a {w with tape:=τ,drawn:=d})
  (v:∀j l,Al (Q .normal j) l->Comes P (G (b.at j k) cs) l Stop) (hr:∀j l m,Al (Q .ret j) l->Comes P (G {b.at j m with mode:=.returning} cs) l Stop):Comes P (G (b.at a (.code c::k)) cs) w Stop:=by
 refine Uw t (λq l=>(∃j,Q .normal j l/\q=G (b.at j k) cs)\/∃j m,Q .ret j l/\q=G {b.at j m with mode:=.returning} cs) rfl ?_ (fun τ d=>?_) ?_
 ·rintro g w (⟨_,_,rfl⟩ | ⟨_,_,_,rfl⟩)<;>rfl
 ·obtain⟨e,j,l,p,s⟩:=h τ d b k cs
  rcases u _ _ _ p with rfl | rfl
  ·obtain⟨n,r⟩:=s
   exact⟨n,_,l,r, .inl ⟨j,p,rfl⟩⟩
  ·obtain⟨m,n,r⟩:=s
   exact⟨n,_,l,r, .inr ⟨j,m,p,rfl⟩⟩
 ·rintro q l ⟨τ,d,⟨j,p,rfl⟩ | ⟨j,m,p,rfl⟩⟩
  ·exact v j l ⟨τ,d,p⟩
  ·exact hr j l m ⟨τ,d,p⟩
def A6s:List Code->Code->Code
 | [],d=>d
 | c::l,d=>.seq c (A6s l d)
def WpL (P:Program)(R:Act->World->Prop):List Code->Act->World->Prop
 | [],a,w=>R a w
 | c::l,a,w=>c.wp P (Exit.then (WpL P R l) λ_ _ _=>False) a w
theorem Aki {R:Act->World->Prop}:∀(l:List Code) (a:Act) (w:World),WpL P R l a w->∃m j,R m j/\Steps P (lone (b.at a (.code (A6s l d)::k)) cs w) (lone (b.at m (.code d::k)) cs j)
 | [],a,w,h=>⟨a,w,h,Steps.refl _ _⟩
 | c::l,a,w,h=>by
  obtain⟨e,t,s,n,p⟩:=h b (.code (A6s l d)::k) cs;cases e with
  | normal=>
   obtain⟨m,j,q,r⟩:=Aki l t s n;exact⟨m,j,q,(Steps.head step_seq p).trans r⟩
  | _=>exact n.elim
theorem Ahz (r:OkP P)(l:List Code){R:Act->World->Prop}(h:∀τ m,WpL P R l a {w with tape:=τ,drawn:=m})(t:∀e j,Al (R e) j->Comes P (G (b.at e (.code d::k)) cs) j Stop):Comes P (G (b.at a (.code (A6s l d)::k)) cs) w Stop:=by
 refine Uw r (λq j=>∃e,R e j/\q=G (b.at e (.code d::k)) cs) rfl ?_ (fun τ m=>?_) ?_
 ·rintro g w ⟨_,_,rfl⟩;rfl
 ·obtain⟨e,j,p,n,s⟩:=Aki (b:=b) (k:=k) (cs:=cs) (d:=d) l a _ (h τ m)
  exact⟨n,_,j,s,e,p,rfl⟩
 ·rintro q j ⟨τ,m,e,p,rfl⟩
  exact t e j ⟨τ,m,p⟩
theorem Ajd {Post:Value->World->Prop}(hg:OkG g)(h:Comes P g w λr j=>∀d,AtEnd P (λ_=>False) 0 Post r (j.at d)):
  ∃N last o j n,runNT P (N+1) (solo g w) #[]=(.ended o j,n)/\runN P N (solo g w)=.next last/\step P last=.ended o j/\Conc.Good P Post last o j n:=by
 obtain⟨N,A,r,j,s,n,p,⟨z,⟨q,E⟩,B,G⟩,_,_,M⟩:=h #[g] none #[] ⟨rfl,⟨_,leavers_one P g⟩,0,past_nil⟩ hg;have S:Goes P true AtRel (λ_ _ _=>False) (AtEnd P (λ_=>False) B Post) 0 r j:=by
  rintro U ⟨d,rfl⟩;obtain⟨T,v,H,K,m,C⟩:=M d;exact⟨T,v,H,K,λe l=>⟨(m e l).1,(m e l).2.1,(m e l).2.2.1,MemAct.low_mono (Ban _) (m e l).2.2.2⟩,C⟩
 obtain⟨I,last,o,D,t,u,J,L,R⟩:=beside_ends (sl:=s) (λ_ _ _ h=>h.elim) z E G S;have y:crowd #[g] w none=solo g w:=rfl;rw[y] at p;refine⟨N+I,last,o,D,t,?_,?_,L,R⟩
 ·rw[Nat.add_assoc,runNT_add,p];exact u
 ·rw[runN_add]
  have:runN P N (solo g w)=.next (crowd A j s):=by rw[<-runNT_fst _ _ _ #[],p]
  rw[this];exact J
end
end Go.Co
