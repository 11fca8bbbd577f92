import Derived.Test.YtmnnkedjoecehaaGreatDoorCE6
import Derived.Conc.AppendWalk
set_option linter.defProp false
namespace Go.Co
open Go.Conc
def qp {P:Program}{w:World}{es:Array Event}(t:TypeId)(h:P.underlying t=some (.slice (P.elem t)))(a:Option Addr)(m r:Nat)(h1:(1:Int)<=(m:Int)+1):
  (Instr.sliceAt t (.slice a (m+1) r) (some (.int .i64 1)) none none).events P w es=es:=by
 simp only[Instr.sliceAt,Instr.slice,Instr.sliceBounds,Instr.sliceBound,asIntOf];simp[run_underlying h,h1]
def DF (P:Program){α:Type}:Sem α->Prop
  | .pure _=>True
  | .load m _ k=>m=.plain/\∀v,DF P (k v)
  | .store m _ _ k=>m=.plain/\DF P k
  | .new _ k=>∀r,DF P (k r)
  | .shape _ k=>∀s,DF P (k s)
  | .freeze _ _ k=>DF P k
  | .frozen _ k=>∀b,DF P (k b)
  | .getObj _ _=>False
  | .setObj _ _ _=>False
  | .choose _ k=>∀n,DF P (k n)
  | .sys _ _=>False
  | .program k=>DF P (k P)
  | .mark m k=>m=.noRoom/\DF P k
  | .halt _=>True
section
variable {P:Program}{α β:Type}
theorem Ayr {f:α->Sem β}(j:∀a,DF P (f a)):∀(s:Sem α),DF P s->DF P (s.bind f):=by
  intro s;induction s with
  | pure a=>exact λ_=>j a
  | load m a k e=>exact λh=>⟨h.1,λv=>e v (h.2 v)⟩
  | store m a v k e=>exact λh=>⟨h.1,e h.2⟩
  | new o k e=>exact λh v=>e v (h v)
  | shape r k e=>exact λh v=>e v (h v)
  | freeze a n k e=>exact λh=>e h
  | frozen a k e=>exact λh v=>e v (h v)
  | getObj r k e=>exact λh=>h.elim
  | setObj r o k e=>exact λh=>h.elim
  | choose q k e=>exact λh v=>e v (h v)
  | sys c k e=>exact λh=>h.elim
  | program k e=>exact λh=>e P h
  | mark m k e=>exact λh=>⟨h.1,e h.2⟩
  | halt x=>exact λ_=>trivial
def Nu {s:Sem α}{f:α->Sem β}(e:DF P s)(h:∀a,DF P (f a)):DF P (s>>=f):=Ayr h s e
def iN {a:α}:DF P (pure a:Sem α):=trivial
def EvP (e:Event):Prop:=(∀a,e.loc=.cell a->e.sync=false)/\(∀m,e.loc=.mark m->m=.noRoom)
theorem yp:∀(s:Sem α),DF P s->∀(w:World) (t:Array Event),(∀e∈t,EvP e)->∀e∈(s.runT P w t).2,EvP e:=by
  intro s;induction s with
  | pure a=>exact λ_ w t h=>h
  | load m a k l=>
    rintro⟨rfl,p⟩ w t h;simp only[Sem.runT];split
    · refine l _ (p _) _ _ λe j=>?_
      rcases Array.mem_push.1 j with j | rfl
      · exact h e j
      · exact⟨λ_ _=>rfl,λm u=>by cases u⟩
    · split
      · refine l _ (p _) _ _ λe j=>?_
        rcases Array.mem_append.1 j with j | j
        · exact h e j
        · obtain⟨x,_,rfl⟩:=Array.mem_map.1 j
          exact⟨λ_ _=>rfl,λm u=>by cases u⟩
      · exact h
  | store m a v k l=>
    rintro⟨rfl,p⟩ w t h;have key:∀y (z:Array Addr),∀e∈(k.runT P y (t++z.map λx=>⟨.cell x,true,false⟩)).2,EvP e:=λy z=>by
      refine l p _ _ λe j=>?_
      rcases Array.mem_append.1 j with j | j
      · exact h e j
      · obtain⟨x,_,rfl⟩:=Array.mem_map.1 j
        exact⟨λ_ _=>rfl,λm u=>by cases u⟩
    have A:∀y (x:Addr),∀e∈(k.runT P y (t.push ⟨.cell x,true,false⟩)).2,EvP e:=λy x=>by
      refine l p _ _ λe j=>?_
      rcases Array.mem_push.1 j with j | rfl
      · exact h e j
      · exact⟨λ_ _=>rfl,λm u=>by cases u⟩
    cases v<;>simp only[Sem.runT]<;>first
      | exact h
      | (split
         · split
           · exact h
           · exact A _ _
         · split
           · exact key _ _
           · exact h)
  | new o k l=>exact λp w t h=>l _ (p _) _ _ h
  | shape r k l=>exact λp w t h=>l _ (p _) _ _ h
  | freeze a n k l=>exact λp w t h=>l p _ _ h
  | frozen a k l=>exact λp w t h=>l _ (p _) _ _ h
  | getObj r k l=>exact λh=>h.elim
  | setObj r o k l=>exact λh=>h.elim
  | choose q k l=>
    intro p w t h;simp only[Sem.runT];split
    · exact l _ (p _) _ _ h
    · exact l _ (p _) _ _ h
  | sys c k l=>exact λh=>h.elim
  | program k l=>exact λp w t h=>l _ p _ _ h
  | mark m k l=>
    rintro⟨rfl,p⟩ w t h;refine l p _ _ λe j=>?_
    rcases Array.mem_push.1 j with j | rfl
    · exact h e j
    · refine⟨λ_ u=>?_,λm u=>?_⟩
      · cases u
      · cases u;rfl
  | halt x=>exact λ_ w t h=>h
theorem V9 (a:Addr):∀(n i:Nat) (acc:Array Value),DF P (loadCellsFrom a i n acc)
  | 0,_,_=>trivial
  | n+1,i,_acc=>Nu (s:=load (a.add i)) ⟨rfl,λ_=>trivial⟩ λ_v=>V9 a n (i+1) _
theorem TM (a:Addr):∀(e:List Value) (i:Nat),DF P (storeCells a e i)
  | [],_=>trivial
  | v::e,i=>Nu (s:=store (a.add i) v) ⟨rfl,trivial⟩ λ_=>TM a e (i+1)
def pX (size n:Nat)(v:Value):DF P (Builtin.firstCells size n v):=by
  unfold Builtin.firstCells;split<;>first | exact trivial | exact V9 _ _ _ _
theorem eV {c:Prop}[Decidable c]{x y:Sem α}(hx:DF P x)(e:DF P y):DF P (if c then x else y):=by split<;>assumption
def Ayn (m:String):DF P (stuck m:Sem α):=trivial
def pI (u:Unsupported):DF P (unsupported u:Sem α):=trivial
def WV (q:Question):DF P (choose q):=λ_=>trivial
def WU:DF P (mark .noRoom):=⟨rfl,trivial⟩
def Ayo (r:Nat):DF P (shape r):=λ_=>trivial
def yo (a:Addr):DF P (frozen a):=λ_=>trivial
def pV (t:TypeId):DF P (underlying t):=by
  unfold underlying;show DF P (_:Sem _)
  refine Nu (s:=program) trivial λp=>?_
  split<;>trivial
def Yr (t:TypeId):DF P (typeInfo t):=by
  unfold typeInfo;refine Nu (s:=program) trivial λp=>?_
  split<;>trivial
def yk (t:TypeId):DF P (sizeOf t):=by
  unfold sizeOf;exact Nu (Yr t) λ_=>trivial
def rK (t:TypeId):DF P (zeroValue t):=by
  unfold zeroValue;refine Nu (Yr t) λ_=>?_
  split<;>trivial
def Ays (v:Value):DF P (asInt v):=by
  unfold asInt asIntOf;repeat' first | exact trivial | refine Nu ?_ (λ_=>?_) | split
def Ayp (v:Value):DF P (Builtin.lenOf v):=by
  unfold Builtin.lenOf;split<;>trivial
def pW (a:Addr)(n:Nat):DF P (Builtin.holdsCells a n):=by
  unfold Builtin.holdsCells;refine Nu (Ayo _) λ_=>?_
  split<;>trivial
def tU (n:Nat):DF P (askRoom n):=by
  unfold askRoom;split
  · exact WU
  · trivial
def ym (t:TypeId)(vs:Array Value):DF P (newRow t vs):=by
  unfold newRow;repeat' first | exact trivial | exact WV _ | (exact λ_=>trivial) | refine Nu ?_ (λ_=>?_) | split
def ot (e:RuntimeError):DF P (runtimePanic e:Sem α):=by
  unfold runtimePanic;refine Nu (s:=program) trivial λp=>?_
  repeat' first | exact trivial | (exact λ_=>trivial) | refine Nu ?_ (λ_=>?_) | split
def sG (size e n:Nat)(base:Option Addr)(x:Value):DF P (Builtin.mayShare size e n base x):=by
  unfold Builtin.mayShare;repeat' first
    | exact trivial
    | exact pW _ _
    | exact yo _
    | refine Nu ?_ (λ_=>?_)
    | refine eV ?_ ?_
    | split
set_option maxHeartbeats 1000000 in
theorem yq (e:Array TypeId)(t:TypeId)(args:Array Value):DF P (Builtin.append_ e t args):=by
  unfold Builtin.append_;repeat' first
    | with_reducible exact iN
    | with_reducible exact Ayn _
    | with_reducible exact pI _
    | with_reducible exact pV _
    | with_reducible exact yk _
    | with_reducible exact Yr _
    | with_reducible exact rK _
    | with_reducible exact Ays _
    | with_reducible exact Ayp _
    | with_reducible exact WV _
    | with_reducible exact WU
    | with_reducible exact tU _
    | with_reducible exact ym _ _
    | with_reducible exact ot _
    | with_reducible exact sG _ _ _ _ _
    | with_reducible exact pX _ _ _
    | with_reducible exact TM _ _ _
    | with_reducible refine Nu ?_ (λ_=>?_)
    | with_reducible refine eV ?_ ?_
    | split
    | dsimp only
end
theorem U9 {w w':World}{base:Nat}{e:TypeId}{size:Nat}{v:Value}{n:Nat}{xs:List Value}(h:w.ownsRow base e size v n xs)(q:∀k,v.ownBlock=some k->w'.heap[k]?=w.heap[k]?):w'.ownsRow base e size v n xs:=by
 refine⟨h.1,?_⟩;rcases h.2 with j | ⟨g,cap,cur,hv,l,m,rest⟩
 ·exact .inl j
 ·exact .inr ⟨g,cap,cur,hv,l,(q g yEh).trans m,rest⟩
section
variable {τ:Type}{P:Program}{main:Bool}{Low:Nat}{pre:τ -> World -> Prop}{ok:τ -> (Nat -> Prop) -> World -> Goroutine -> Prop}{fn:FuncId}{Q:Xx τ}{a:Act}{x:τ}{O:Nat -> Prop}{w:World}
variable {ops:Array Oper}{i:Nat}{rest:List Nat}{o:Oper}
theorem UZ (af:OkL P main Low pre ok)(ho:ops[i]?=some o)(hw:Region.wanted o (yielded ops a.tmps)=true)(s y:Operand)(t:TypeId)(T:o.op=.call {callee:=.builtin .append,args:=#[s,y],argTypes:=#[t,t]})
  (e:TypeId) (D:TypeInfo) (z:Value) (size bytes:Nat) (ht:P.underlying t=some (.slice e)) (hi:P.info? e=some D) (hz:D.zero=some z) (U:D.size=size) (Y:D.bytes=bytes) (ai:z.cells.size=size) (ah:0<size)
  (v:Value) (n:Nat) (xs:List Value) (hs:a.eval s=v) (ae:w.ownsRow Low e size v n xs) (L:∀k,v.ownBlock=some k->O k)
  (b c:Nat) (news:List Value) (hx:a.eval y=.slice (some ⟨b,0,none⟩) 1 c) (hl:news.length=size) (Z:O b) (ag:∀j u,news[j]?=some u->w.cell? ⟨b,j,none⟩=some u) (h1:∀u∈news,u.oneCell'=true)
  (aa:n+1<=maxLen) (S:(n+1)*bytes<=140737488355328) {w₀:World} (hF:Held Low w₀ O w)
  (h:∀G E M,E.ownsRow Low e size G (n+1) (xs++news)->(∀k,G.ownBlock=some k->M k)->(∀k,G.ownBlock=some k->some k=v.ownBlock\/¬O k)->(∀k,O k->M k)->(∀k,O k->some k≠v.ownBlock->E.heap[k]?=w.heap[k]?)->Held Low w₀ M E->
   Vw ok fn ops rest Q (a.put o.dst G) x M E):Vw ok fn ops (i::rest) Q a x O w:=by
 refine Yu af ho hw λK C _ aj hK=>?_
 have N:=U9 ae λk q=>C.mine k (L k q)
 have R:∀j u,news[j]?=some u->K.cell? ((⟨b,0,none⟩:Addr).add j)=some u:=λj u hu=>by
  have:=ag j u hu
  have e:(⟨b,0,none⟩:Addr).add j=⟨b,j,none⟩:=by unfold Addr.add;split<;>simp_all
  rw[e];rw[<-this];exact World.cell?_of_block (C.mine b Z)
 have X:news.length=1*size:=AQ
 obtain⟨G,E,hr,W,l,_,r⟩:=run_append_own_at (P:=P) K Low t o.type e D z size bytes ht hi hz U Y ai ah v n xs N ⟨b,0,none⟩ 1 c news X R h1 aa S (CM hF.low C.size);refine uponK_append s y t T hs hx hr (hK _ _ ⟨⟨λk J hn=>l.block k J λe=>hn (L k e.symm),l.size,l.tape,l.os,l.output,λI H=>?_⟩,?_⟩)
 ·replace H:=mem_listed H
  rw[events_append_op s y t T hs hx] at H;have hp:=yp (P:=P) _ (yq _ _ _) K #[] (λe he=>by simp at he) I H;rcases events_append_where K Low t o.type e D z size bytes ht hi hz U Y v n xs N ⟨b,0,none⟩ 1 c news X R h1 aa S I H with⟨ad,V,h⟩ | ⟨m,rfl,hm⟩
  ·refine .inl ⟨ad,I.write,?_, .inl (.inl ?_)⟩
   ·obtain⟨ak,wr,sy⟩:=I
    simp only at V;subst V;rw[show sy=false from hp.1 ad rfl]
   ·rcases h with⟨_,h⟩ | h
    ·rw[h];exact Z
    ·exact L _ h.symm
  ·rw[show m=.noRoom from hm];exact .inr rfl
 ·have B:=hF.rely C
  refine h G E _ W (λk q=>?_) (λk q=>?_) (λk C=>.inl C) (λk A ab=>(l.block k (B.up k A) ab).trans (C.mine k A)) ⟨λk J=>?_,CM B.low l.size,λk A=>?_,?_,?_⟩
  ·rcases r with r | r
   ·exact .inl (L k (r.symm.trans q))
   ·have ac:=(W.lt k q).2
    rw[r] at q;cases q;exact .inr ⟨CG _,ac⟩
  ·rcases r with r | r
   ·exact .inl (q.symm.trans r)
   ·rw[r] at q
    cases q;exact .inr λhO=>Bad _ (B.up _ hO)
  ·refine(l.block k (CB J B.low) λe=>?_).trans (B.still k J)
   have:=(N.lt k e.symm).1
   omega
  ·rcases A with A | ⟨_,A⟩
   ·exact CB (B.up k A) l.size
   ·exact A
  ·exact l.os.trans B.os
  ·exact l.output.trans B.out
def NF {w₀ e:World}(hF:Held Low w₀ O w)(h:Keep Low O w e)(ob:Obj):
  ∃j,j=(λb=>O b\/b=e.heap.size)/\C2 Low O j w (e.alloc ob)/\Held Low w₀ j (e.alloc ob)/\j e.heap.size/\Low<=e.heap.size/\(∀x,O x->x≠e.heap.size)/\(e.alloc ob).heap[e.heap.size]?=some ob:=
 ⟨_,rfl,h.ext.trans ((hF.rely h).ext _),(hF.rely h).new _, .inr rfl,(hF.rely h).low,λx l=>by have:=(hF.rely h).up x l;omega,by simp only[World.alloc];exact M8⟩
theorem C2.row {w w':World}{m:Nat->Prop}{base:Nat}{e:TypeId}{size:Nat}{v:Value}{n:Nat}{xs:List Value}(h:C2 Low O m w w')(hr:w.ownsRow base e size v n xs)(j:∀k,v.ownBlock=some k->O k\/k<Low):w'.ownsRow base e size v n xs:=
 U9 hr λk l=>(j k l).elim (h.mine k) (h.still k)
end
section
variable {F:Func}{args:Array Value}{c d:Code}{f:FuncId}{g:Goroutine}{i:Nat}{o:Oper}{ops:Array Oper}{rest:List Nat}
variable {P:Program}{Stop:Goroutine -> World -> Prop}{a:Act}{w:World}{b:Frame}{k:List Item}{cs:List Frame}
def Al (Q:World->Prop)(w:World):Prop:=∃τ d,Q {w with tape:=τ,drawn:=d}
def Al.of {Q:World->Prop}(h:Q w):Al Q w:=⟨w.tape,w.drawn,h⟩
def Ws (p:OkP P)(S:Goroutine->World->Prop)(hr:g.status=.running)(u:∀g w,S g w->g.status=.running)
  (H:∀τ d,∃n j l,runN P n (solo g {w with tape:=τ,drawn:=d})=.next (solo j l)/\S j l) (h:∀j l,Al (S j) l->Comes P j l Stop):Comes P g w Stop:=by
 intro v sl t hF q;have y:Way P (λj l=>Al (S j) l) g w:=by
  refine tg p _ (λj l ⟨τ,d,m⟩=>u _ _ m) (λj l τ e ⟨z,s,m⟩=>⟨z,s,m⟩) g q hr w fun τ d=>?_
  obtain⟨n,j,l,r,m⟩:=H τ d;exact⟨n,j,l,r,Al.of m⟩
 exact(tA p y).then (λj l _ m=>h j l m) v sl t hF q
theorem Jn (r:OkP P){fr fr':Frame}{cs cs':List Frame}(n:∀j,stepG P true (G fr cs) j=.go (G fr' cs') j #[])(h:∀l,Al (λx=>x=w) l->Comes P (G fr' cs') l Stop):Comes P (G fr cs) w Stop:=by
 refine Ws r (λm e=>m=G fr' cs'/\Al (λx=>x=w) e) rfl (λg w h=>by rw[h.1];rfl) (fun τ d=>?_) ?_
 ·refine⟨1,G fr' cs',{w with tape:=τ,drawn:=d},?_,rfl,⟨w.tape,w.drawn,rfl⟩⟩
  have s:step P (solo (G fr cs) {w with tape:=τ,drawn:=d})=.next (solo (G fr' cs') {w with tape:=τ,drawn:=d}):=step_lone_go (by rw[show({frame:=fr,callers:=cs,status:=.running,dying:=none}:Goroutine)=G fr cs from rfl,n];rfl);simp only[runN,s]
 ·rintro m e ⟨τ,d,rfl,t,p,q⟩
  exact h e ⟨t,p,q⟩
def P7 (j:OkP P)(h:∀e,Al (λx=>x=w) e->Comes P (G (b.at a (.code c::.code d::k)) cs) e Stop):Comes P (G (b.at a (.code (.seq c d)::k)) cs) w Stop:=
 Jn j (λ_=>stepG_seq) h
def Pn (j:OkP P){id:Nat}(h:∀e,Al (λx=>x=w) e->Comes P (G (b.at a (.inRegion ops (List.range ops.size)::k)) cs) e Stop):Comes P (G (b.at a (.code (.region id ops false)::k)) cs) w Stop:=
 Jn j (λ_=>stepG_region) h
def LZ (j:OkP P)(h:∀e,Al (λx=>x=w) e->Comes P (G (b.at a k) cs) e Stop):Comes P (G (b.at a (.inRegion ops []::k)) cs) w Stop:=
 Jn j (λ_=>stepG_region_end) h
def Qo (n:OkP P){v:Value}(p:ops[i]?=some o)(l:Region.wanted o (yielded ops a.tmps)=true)(m:b.kind≠.early)
  (hr:∀e:World,(execOp a.eval o).run P e=.ok (.value v) e) (he:∀e:World,(execOp a.eval o).events P e #[]=#[]) (h:∀j,Al (λx=>x=w) j->Comes P (G (b.at (a.put o.dst v) (.inRegion ops rest::k)) cs) j Stop):Comes P (G (b.at a (.inRegion ops (i::rest)::k)) cs) w Stop:=by
 refine Jn n (λe=>?_) h;rw[stepG_value p l m (hr e)];unfold listed;rw[he,seen_none]
def GX (P:Program)(f:FuncId)(args:Array Value)(w:World)(Post:Value->World->Prop):Prop:=
 ∀(h:Frame) (cs:List Frame) (Stop:Goroutine->World->Prop),(∀v e,Post v e->Comes P (G (h.finish v) cs) e Stop)->Comes P (G (Frame.enter P f args .normal) (h::cs)) w Stop
theorem WE (r:OkP P){Post:Value->World->Prop}(h:∀τ d,Calls P f args {w with tape:=τ,drawn:=d} λe j=>∃v,e=.returned v/\Post v j):GX P f args w (λv=>Al (Post v)):=by
 intro l cs Stop q;refine Ws r (λp j=>∃v,p=G (l.finish v) cs/\Post v j) rfl (λg w ⟨v,h,_⟩=>by rw[h];rfl) (fun τ d=>?_) ?_
 ·obtain⟨e,j,u,⟨v,rfl,m⟩,⟨n,s⟩,_,t⟩:=h τ d (l::cs)
  refine⟨n+1,G (l.finish v) cs,j,?_,v,rfl,m⟩;rw[runN_add];rw[show solo (G (Frame.enter P f args .normal) (l::cs)) {w with tape:=τ,drawn:=d}=lone (Frame.enter P f args .normal) (l::cs) {w with tape:=τ,drawn:=d} from rfl,s];have:=step_leave_returned (c:=l) (cs:=cs) t
  simp only[runN,this];rfl
 ·rintro p j ⟨τ,d,v,rfl,m⟩
  exact q v j ⟨τ,d,m⟩
theorem GX.mono {Post j:Value->World->Prop}(h:GX P f args w Post)(m:∀v e,Post v e->j v e):GX P f args w j:=
 λn cs Stop l=>h n cs Stop λv e q=>l v e (m v e q)
def enter_at (args:Array Value)(h:P.funcs[f]?=some F)(e:F.body=some c):Frame.enter P f args .normal=(base f).at {tmps:=args++Array.replicate (F.ntmps - args.size) undef,defers:=[]} [.code c]:=by
 simp[Frame.enter,h,e,base,Frame.at]
theorem OS (m:OkP P){args:Array Operand}{C:Array TypeId}{vals:Array Value}{Post:Value->World->Prop}(q:ops[i]?=some o)(E:Region.wanted o (yielded ops a.tmps)=true)(I:b.kind≠.early)
  (y:o.op=.call {callee:=.value (.func f),args,argTypes:=C}) (j:P.funcs[f]?=some F) (r:F.body=some c) (u:args.map a.eval=vals) (J:∀e,Al (λx=>x=w) e->GX P f vals e Post)
  (h:∀v e,Post v e->Comes P (G (b.at (a.put o.dst v) (.inRegion ops rest::k)) cs) e Stop):Comes P (G (b.at a (.inRegion ops (i::rest)::k)) cs) w Stop:=by
 have s:=m.name f F j;refine Jn m (fr':=Frame.enter P f vals .normal) (cs':=b.at a (.inRegion ops (i::rest)::k)::cs) (λl=>?_) λe z=>J e z _ _ _ λv H D=>?_
 ·obtain⟨p,e,n,t,A⟩:=goes_elim (goes_call (P:=P) (main:=true) (w:=l) (cs:=cs) (k:=k) (rest:=rest) (K:=λp e n=>p=G ((base f).at {tmps:=args.map a.eval++Array.replicate (F.ntmps - (args.map a.eval).size) undef,defers:=[]} [.code c]) (b.at a (.inRegion ops (i::rest)::k)::cs)/\e=l/\n=#[]) q E I y j s r ⟨rfl,rfl,rfl⟩)
  obtain⟨rfl,rfl,rfl⟩:=A;rw[enter_at vals j r,<-u];exact t
 ·have B:(b.at a (.inRegion ops (i::rest)::k)).finish v=b.at (a.put o.dst v) (.inRegion ops rest::k):=by rw[Frame.finish_at,q];rfl
  rw[B];exact h v H D
theorem L0 (u:OkP P){Q:Exit->Act->World->Prop}(v:∀e a w,Q e a w->e=.normal\/e=.ret)(h:∀τ d,c.wp P Q a {w with tape:=τ,drawn:=d})
  (t:∀j l,Al (Q .normal j) l->Comes P (G (b.at j k) cs) l Stop) (hr:∀j l m,Al (Q .ret j) l->Comes P (G {b.at j m with mode:=.returning} cs) l Stop):Comes P (G (b.at a (.code c::k)) cs) w Stop:=by
 refine Ws u (λr l=>(∃j,Q .normal j l/\r=G (b.at j k) cs)\/∃j m,Q .ret j l/\r=G {b.at j m with mode:=.returning} cs) rfl ?_ (fun τ d=>?_) ?_
 ·rintro g w (⟨_,_,rfl⟩ | ⟨_,_,_,rfl⟩)<;>rfl
 ·obtain⟨e,j,l,p,s⟩:=h τ d b k cs
  rcases v _ _ _ p with rfl | rfl
  ·obtain⟨n,q⟩:=s
   exact⟨n,_,l,q, .inl ⟨j,p,rfl⟩⟩
  ·obtain⟨m,n,q⟩:=s
   exact⟨n,_,l,q, .inr ⟨j,m,p,rfl⟩⟩
 ·rintro r l ⟨τ,d,⟨j,p,rfl⟩ | ⟨j,m,p,rfl⟩⟩
  ·exact t j l ⟨τ,d,p⟩
  ·exact hr j l m ⟨τ,d,p⟩
def IC:List Code->Code->Code
 | [],d=>d
 | c::l,d=>.seq c (IC l d)
def WpL (P:Program)(R:Act->World->Prop):List Code->Act->World->Prop
 | [],a,w=>R a w
 | c::l,a,w=>c.wp P (Exit.then (WpL P R l) λ_ _ _=>False) a w
theorem YE {R:Act->World->Prop}:∀(l:List Code) (a:Act) (w:World),WpL P R l a w->∃j m,R j m/\Steps P (lone (b.at a (.code (IC l d)::k)) cs w) (lone (b.at j (.code d::k)) cs m)
 | [],a,w,h=>⟨a,w,h,Steps.refl _ _⟩
 | c::l,a,w,h=>by
  obtain⟨e,t,r,n,s⟩:=h b (.code (IC l d)::k) cs;cases e with
  | normal=>
   obtain⟨j,m,q,p⟩:=YE l t r n;exact⟨j,m,q,(Steps.head step_seq s).trans p⟩
  | _=>exact n.elim
theorem OQ (t:OkP P)(l:List Code){R:Act->World->Prop}(h:∀τ m,WpL P R l a {w with tape:=τ,drawn:=m})(s:∀e j,Al (R e) j->Comes P (G (b.at e (.code d::k)) cs) j Stop):Comes P (G (b.at a (.code (IC l d)::k)) cs) w Stop:=by
 refine Ws t (λq j=>∃e,R e j/\q=G (b.at e (.code d::k)) cs) rfl ?_ (fun τ m=>?_) ?_
 ·rintro g w ⟨_,_,rfl⟩;rfl
 ·obtain⟨e,j,p,n,r⟩:=YE (b:=b) (k:=k) (cs:=cs) (d:=d) l a _ (h τ m)
  exact⟨n,_,j,r,e,p,rfl⟩
 ·rintro q j ⟨τ,m,e,p,rfl⟩
  exact s e j ⟨τ,m,p⟩
theorem rj {Post:Value->World->Prop}(hg:OkG g)(h:Comes P g w λp j=>∀d,AtEnd P (λ_=>False) 0 Post p (j.at d)):
  ∃N last o j n,runNT P (N+1) (solo g w) #[]=(.ended o j,n)/\runN P N (solo g w)=.next last/\step P last=.ended o j/\Conc.Good P Post last o j n:=by
 obtain⟨N,J,p,j,s,n,r,⟨G,⟨q,L⟩,B,C⟩,_,_,I⟩:=h #[g] none #[] ⟨rfl,⟨_,leavers_one P g⟩,0,past_nil⟩ hg;have z:Goes P true AtRel (λ_ _ _=>False) (AtEnd P (λ_=>False) B Post) 0 p j:=by
  rintro U ⟨d,rfl⟩;obtain⟨u,v,M,t,m,E⟩:=I d;exact⟨u,v,M,t,λe l=>⟨(m e l).1,(m e l).2.1,(m e l).2.2.1,MemAct.low_mono (DZ _) (m e l).2.2.2⟩,E⟩
 obtain⟨D,last,o,T,A,y,R,S,H⟩:=beside_ends (sl:=s) (λ_ _ _ h=>h.elim) G L C z;have K:crowd #[g] w none=solo g w:=rfl;rw[K] at r;refine⟨N+D,last,o,T,A,?_,?_,S,H⟩
 ·rw[Nat.add_assoc,runNT_add,r];exact y
 ·rw[runN_add]
  have:runN P N (solo g w)=.next (crowd J j s):=by rw[<-runNT_fst _ _ _ #[],r]
  rw[this];exact R
end
section
variable {c:Code}{id:Nat}
variable {P:Program}{Stop:Goroutine -> World -> Prop}{a:Act}{w:World}{b:Frame}{k:List Item}{cs:List Frame}
def VO (j:OkP P)(h:∀e,Al (λx=>x=w) e->Comes P (G (b.at a (.code c::.inBlock id::k)) cs) e Stop):Comes P (G (b.at a (.code (.block id c)::k)) cs) w Stop:=Jn j (λ_=>stepG_block) h
def XZ (j:OkP P){o:Operand}{x y:Code}{t:Bool}(he:a.eval o=.bool t)(h:∀e,Al (λx=>x=w) e->Comes P (G (b.at a (.code (if t then x else y)::k)) cs) e Stop):Comes P (G (b.at a (.code (.cond o x y)::k)) cs) w Stop:=Jn j (λ_=>stepG_cond he) h
def Awa (l:OkP P){e:List Item}(he:exitTo id k=some e)(h:∀j,Al (λx=>x=w) j->Comes P (G (b.at a e) cs) j Stop):Comes P (G (b.at a (.code (.exit id)::k)) cs) w Stop:=Jn l (λ_=>stepG_exit he) h
def Av8 (j:OkP P)(h:∀e,Al (λx=>x=w) e->Comes P (G (b.at a k) cs) e Stop):Comes P (G (b.at a (.code .skip::k)) cs) w Stop:=Jn j (λ_=>stepG_skip) h
theorem Av9 (l:OkP P)(I:Nat->Act->World->Prop)(p:∀n a w e,I n a w->Al (λx=>x=w) e->I n a e)(N:Nat)(v:I N a w)
  (round:∀n a w,I n a w->(∀m j e,m<n->I m j e->Comes P (G (b.at j (.inLoop c::k)) cs) e Stop)->Comes P (G (b.at a (.code c::.inLoop c::k)) cs) w Stop):Comes P (G (b.at a (.code (.loop c)::k)) cs) w Stop:=by
 have key:∀n a w,I n a w->Comes P (G (b.at a (.code c::.inLoop c::k)) cs) w Stop:=by
  intro n;induction n using Nat.strongRecOn with
  | ind n u=>exact λa w h=>round n a w h λm j e t s=>Jn l (λ_=>stepG_inLoop) λr q=>u m t j r (p m j e r s q)
 exact Jn l (λ_=>stepG_loop) λe q=>key N a e (p N a w e v q)
end
