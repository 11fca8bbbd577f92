import Derived.Test.YtbfljjcnbbmoaaaGreatDoorCE6
import Derived.Conc.AppendWalk
import Derived.Maps.AppendAt
import Derived.Calls
namespace Go.Co
open Go.Conc
theorem Agj {P:Program} {w:World} {es:Array Event} (t:TypeId) (h:P.underlying t=some (.slice (P.elem t))) (a:Option Addr) (m r:Nat) (h1:(1:Int)<=(m:Int)+1):
  (Instr.sliceAt t (.slice a (m+1) r) (some (.int .i64 1)) none none).events P w es=es:=by
 simp only[Instr.sliceAt,Instr.slice,Instr.sliceBounds,Instr.sliceBound,asIntOf];simp[run_underlying h,h1]
end Go.Co
namespace Go.Co
open Go.Conc
def Pln (P:Program) {α:Type}:Sem α->Prop
  | .pure _=>True
  | .load m _ k=>m=.plain/\∀v,Pln P (k v)
  | .store m _ _ k=>m=.plain/\Pln P k
  | .new _ k=>∀r,Pln P (k r)
  | .shape _ k=>∀s,Pln P (k s)
  | .freeze _ _ k=>Pln P k
  | .frozen _ k=>∀b,Pln P (k b)
  | .getObj _ _=>False
  | .setObj _ _ _=>False
  | .choose _ k=>∀n,Pln P (k n)
  | .sys _ _=>False
  | .program k=>Pln P (k P)
  | .mark m k=>m=.noRoom/\Pln P k
  | .halt _=>True
section
variable {P : Program} {α β : Type}
theorem Atu {f:α->Sem β} (hf:∀a,Pln P (f a)):∀(s:Sem α),Pln P s->Pln P (s.bind f):=by
  intro s;induction s with
  | pure a=>exact λ_=>hf a
  | load m a k ih=>exact λh=>⟨h.1,λv=>ih v (h.2 v)⟩
  | store m a v k ih=>exact λh=>⟨h.1,ih h.2⟩
  | new o k ih=>exact λh v=>ih v (h v)
  | shape r k ih=>exact λh v=>ih v (h v)
  | freeze a n k ih=>exact λh=>ih h
  | frozen a k ih=>exact λh v=>ih v (h v)
  | getObj r k ih=>exact λh=>h.elim
  | setObj r o k ih=>exact λh=>h.elim
  | choose q k ih=>exact λh v=>ih v (h v)
  | sys c k ih=>exact λh=>h.elim
  | program k ih=>exact λh=>ih P h
  | mark m k ih=>exact λh=>⟨h.1,ih h.2⟩
  | halt x=>exact λ_=>trivial
theorem Jy {s:Sem α} {f:α->Sem β} (hs:Pln P s) (hf:∀a,Pln P (f a)):Pln P (s>>=f):=Atu hf s hs
theorem Axg {a:α}:Pln P (pure a:Sem α):=trivial
def EvP (e:Event):Prop:=(∀a,e.loc=.cell a->e.sync=false)/\(∀m,e.loc=.mark m->m=.noRoom)
theorem Ao0:∀(s:Sem α),Pln P s->∀(w:World) (es:Array Event),(∀e∈es,EvP e)->∀e∈(s.runT P w es).2,EvP e:=by
  intro s;induction s with
  | pure a=>exact λ_ w es h=>h
  | load m a k ih=>
    rintro⟨rfl,hk⟩ w es h;simp only[Sem.runT];split
    · refine ih _ (hk _) _ _ λe he=>?_
      rcases Array.mem_push.1 he with he | rfl
      · exact h e he
      · exact⟨λ_ _=>rfl,λm hm=>by cases hm⟩
    · split
      · refine ih _ (hk _) _ _ λe he=>?_
        rcases Array.mem_append.1 he with he | he
        · exact h e he
        · obtain⟨x,_,rfl⟩:=Array.mem_map.1 he
          exact⟨λ_ _=>rfl,λm hm=>by cases hm⟩
      · exact h
  | store m a v k ih=>
    rintro⟨rfl,hk⟩ w es h;have key:∀w' (tc:Array Addr),∀e∈(k.runT P w' (es++tc.map λx=>⟨.cell x,true,false⟩)).2,EvP e:=λw' tc=>by
      refine ih hk _ _ λe he=>?_
      rcases Array.mem_append.1 he with he | he
      · exact h e he
      · obtain⟨x,_,rfl⟩:=Array.mem_map.1 he
        exact⟨λ_ _=>rfl,λm hm=>by cases hm⟩
    have key1:∀w' (x:Addr),∀e∈(k.runT P w' (es.push ⟨.cell x,true,false⟩)).2,EvP e:=λw' x=>by
      refine ih hk _ _ λe he=>?_
      rcases Array.mem_push.1 he with he | rfl
      · exact h e he
      · exact⟨λ_ _=>rfl,λm hm=>by cases hm⟩
    cases v<;>simp only[Sem.runT]<;>first
      | exact h
      | (split
         · split
           · exact h
           · exact key1 _ _
         · split
           · exact key _ _
           · exact h)
  | new o k ih=>exact λhk w es h=>ih _ (hk _) _ _ h
  | shape r k ih=>exact λhk w es h=>ih _ (hk _) _ _ h
  | freeze a n k ih=>exact λhk w es h=>ih hk _ _ h
  | frozen a k ih=>exact λhk w es h=>ih _ (hk _) _ _ h
  | getObj r k ih=>exact λh=>h.elim
  | setObj r o k ih=>exact λh=>h.elim
  | choose q k ih=>
    intro hk w es h;simp only[Sem.runT];split
    · exact ih _ (hk _) _ _ h
    · exact ih _ (hk _) _ _ h
  | sys c k ih=>exact λh=>h.elim
  | program k ih=>exact λhk w es h=>ih _ hk _ _ h
  | mark m k ih=>
    rintro⟨rfl,hk⟩ w es h;refine ih hk _ _ λe he=>?_
    rcases Array.mem_push.1 he with he | rfl
    · exact h e he
    · refine⟨λ_ hm=>?_,λm hm=>?_⟩
      · cases hm
      · cases hm;rfl
  | halt x=>exact λ_ w es h=>h
theorem Rw (a:Addr):∀(n i:Nat) (acc:Array Value),Pln P (loadCellsFrom a i n acc)
  | 0,_,_=>trivial
  | n+1,i,_acc=>Jy (s:=load (a.add i)) ⟨rfl,λ_=>trivial⟩ λ_v=>Rw a n (i+1) _
theorem Xi (a:Addr):∀(vs:List Value) (i:Nat),Pln P (storeCells a vs i)
  | [],_=>trivial
  | v::vs,i=>Jy (s:=store (a.add i) v) ⟨rfl,trivial⟩ λ_=>Xi a vs (i+1)
theorem Ad8 (size n:Nat) (v:Value):Pln P (Builtin.firstCells size n v):=by
  unfold Builtin.firstCells;split<;>first | exact trivial | exact Rw _ _ _ _
theorem Att {c:Prop} [Decidable c] {x y:Sem α} (hx:Pln P x) (hy:Pln P y):Pln P (if c then x else y):=by split<;>assumption
theorem Atq (m:String):Pln P (stuck m:Sem α):=trivial
theorem Ab8 (u:Unsupported):Pln P (unsupported u:Sem α):=trivial
theorem Aex (q:Question):Pln P (choose q):=λ_=>trivial
theorem Aew:Pln P (mark .noRoom):=⟨rfl,trivial⟩
theorem Atr (r:Nat):Pln P (shape r):=λ_=>trivial
theorem Aoz (a:Addr):Pln P (frozen a):=λ_=>trivial
theorem Ad6 (t:TypeId):Pln P (underlying t):=by
  unfold underlying;show Pln P (_:Sem _)
  refine Jy (s:=program) trivial λp=>?_
  split<;>trivial
theorem Vg (t:TypeId):Pln P (typeInfo t):=by
  unfold typeInfo;refine Jy (s:=program) trivial λp=>?_
  split<;>trivial
theorem Aox (t:TypeId):Pln P (sizeOf t):=by
  unfold sizeOf;exact Jy (Vg t) λ_=>trivial
theorem Af2 (t:TypeId):Pln P (zeroValue t):=by
  unfold zeroValue;refine Jy (Vg t) λ_=>?_
  split<;>trivial
theorem Atv (v:Value):Pln P (asInt v):=by
  unfold asInt asIntOf;repeat' first | exact trivial | refine Jy ?_ (λ_=>?_) | split
theorem Ats (v:Value):Pln P (Builtin.lenOf v):=by
  unfold Builtin.lenOf;split<;>trivial
theorem Ad7 (a:Addr) (n:Nat):Pln P (Builtin.holdsCells a n):=by
  unfold Builtin.holdsCells;refine Jy (Atr _) λ_=>?_
  split<;>trivial
theorem Akv (n:Nat):Pln P (askRoom n):=by
  unfold askRoom;split
  · exact Aew
  · trivial
theorem Aoy (t:TypeId) (vs:Array Value):Pln P (newRow t vs):=by
  unfold newRow;repeat' first | exact trivial | exact Aex _ | (exact λ_=>trivial) | refine Jy ?_ (λ_=>?_) | split
theorem Aa4 (e:RuntimeError):Pln P (runtimePanic e:Sem α):=by
  unfold runtimePanic;refine Jy (s:=program) trivial λp=>?_
  repeat' first | exact trivial | (exact λ_=>trivial) | refine Jy ?_ (λ_=>?_) | split
theorem Ah2 (size sLen n:Nat) (base:Option Addr) (x:Value):Pln P (Builtin.mayShare size sLen n base x):=by
  unfold Builtin.mayShare;repeat' first
    | exact trivial
    | exact Ad7 _ _
    | exact Aoz _
    | refine Jy ?_ (λ_=>?_)
    | refine Att ?_ ?_
    | split
set_option maxHeartbeats 1000000 in
theorem Ao1 (ts:Array TypeId) (t:TypeId) (args:Array Value):Pln P (Builtin.append_ ts t args):=by
  unfold Builtin.append_;repeat' first
    | with_reducible exact Axg
    | with_reducible exact Atq _
    | with_reducible exact Ab8 _
    | with_reducible exact Ad6 _
    | with_reducible exact Aox _
    | with_reducible exact Vg _
    | with_reducible exact Af2 _
    | with_reducible exact Atv _
    | with_reducible exact Ats _
    | with_reducible exact Aex _
    | with_reducible exact Aew
    | with_reducible exact Akv _
    | with_reducible exact Aoy _ _
    | with_reducible exact Aa4 _
    | with_reducible exact Ah2 _ _ _ _ _
    | with_reducible exact Ad8 _ _ _
    | with_reducible exact Xi _ _ _
    | with_reducible refine Jy ?_ (λ_=>?_)
    | with_reducible refine Att ?_ ?_
    | split
    | dsimp only
end
end Go.Co
namespace Go.Co
open Go.Conc
theorem Qv {w w':World} {base:Nat} {e:TypeId} {size:Nat} {v:Value} {n:Nat} {xs:List Value} (h:w.ownsRow base e size v n xs) (hk:∀k,v.ownBlock=some k->w'.heap[k]?=w.heap[k]?):w'.ownsRow base e size v n xs:=by
 refine⟨h.1,?_⟩;rcases h.2 with hn | ⟨g,cap,cur,hv,hb,hg,rest⟩
 ·exact .inl hn
 ·exact .inr ⟨g,cap,cur,hv,hb,(hk g (by rw[hv];rfl)).trans hg,rest⟩
section
variable {τ : Type} {P : Program} {main : Bool} {Low : Nat} {pre : τ -> World -> Prop} {ok : τ -> (Nat -> Prop) -> World -> Goroutine -> Prop} {fn : FuncId} {Q : Uo τ} {a : Act} {x : τ} {O : Nat -> Prop} {w : World}
variable {ops : Array Oper} {i : Nat} {rest : List Nat} {o : Oper}
theorem Ace (T:OkL P main Low pre ok) (ho:ops[i]?=some o) (hw:Region.wanted o (yielded ops a.tmps)=true) (s y:Operand) (t:TypeId) (hop:o.op=.call {callee:=.builtin .append,args:=#[s,y],argTypes:=#[t,t]})
  (e:TypeId) (ti:TypeInfo) (z:Value) (size bytes:Nat) (ht:P.underlying t=some (.slice e)) (hi:P.info? e=some ti) (hz:ti.zero=some z) (hsize:ti.size=size) (hby:ti.bytes=bytes) (hzs:z.cells.size=size) (hsz:0<size)
  (v:Value) (n:Nat) (xs:List Value) (hs:a.eval s=v) (hown:w.ownsRow Low e size v n xs) (hvO:∀k,v.ownBlock=some k->O k)
  (b c:Nat) (news:List Value) (hx:a.eval y=.slice (some ⟨b,0,none⟩) 1 c) (hl:news.length=size) (hbO:O b) (hnews:∀j u,news[j]?=some u->w.cell? ⟨b,j,none⟩=some u) (h1:∀u∈news,u.oneCell'=true)
  (h63:n+1<=maxLen) (hbytes:(n+1)*bytes<=140737488355328) {w₀:World} (hF:Held Low w₀ O w)
  (h:∀v' w' O',w'.ownsRow Low e size v' (n+1) (xs++news)->(∀k,v'.ownBlock=some k->O' k)->(∀k,v'.ownBlock=some k->some k=v.ownBlock\/¬O k)->(∀k,O k->O' k)->(∀k,O k->some k≠v.ownBlock->w'.heap[k]?=w.heap[k]?)->Held Low w₀ O' w'->
   Rq ok fn ops rest Q (a.put o.dst v') x O' w'):Rq ok fn ops (i::rest) Q a x O w:=by
 refine Vj T ho hw λw₁ hk _ K hK=>?_
 have hown1:=Qv hown λk hk'=>hk.mine k (hvO k hk')
 have hnews1:∀j u,news[j]?=some u->w₁.cell? ((⟨b,0,none⟩:Addr).add j)=some u:=λj u hu=>by
  have:=hnews j u hu
  have e:(⟨b,0,none⟩:Addr).add j=⟨b,j,none⟩:=by unfold Addr.add;split<;>simp_all
  rw[e];rw[<-this];exact World.cell?_of_block (hk.mine b hbO)
 have hl':news.length=1*size:=by omega
 obtain⟨v',w',hr,h2,h3,_,h5⟩:=run_append_own_at (P:=P) w₁ Low t o.type e ti z size bytes ht hi hz hsize hby hzs hsz v n xs hown1 ⟨b,0,none⟩ 1 c news hl' hnews1 h1 h63 hbytes (A4p hF.low hk.size);refine uponK_append s y t hop hs hx hr (hK _ _ ⟨⟨λk hkl hn=>h3.block k hkl λe=>hn (hvO k e.symm),h3.size,h3.tape,h3.os,h3.output,λev hev=>?_⟩,?_⟩)
 ·replace hev:=mem_listed hev
  rw[events_append_op s y t hop hs hx] at hev;have hp:=Ao0 (P:=P) _ (Ao1 _ _ _) w₁ #[] (λe he=>by simp at he) ev hev;rcases events_append_where w₁ Low t o.type e ti z size bytes ht hi hz hsize hby v n xs hown1 ⟨b,0,none⟩ 1 c news hl' hnews1 h1 h63 hbytes ev hev with⟨ad,e1,h⟩ | ⟨m,rfl,hm⟩
  ·refine .inl ⟨ad,ev.write,?_, .inl (.inl ?_)⟩
   ·obtain⟨loc,wr,sy⟩:=ev
    simp only at e1;subst e1;rw[show sy=false from hp.1 ad rfl]
   ·rcases h with⟨_,h⟩ | h
    ·rw[h];exact hbO
    ·exact hvO _ h.symm
  ·rw[show m=.noRoom from hm];exact .inr rfl
 ·have hF1:=hF.rely hk
  refine h v' w' _ h2 (λk hk'=>?_) (λk hk'=>?_) (λk hk=>.inl hk) (λk hkO hne=>(h3.block k (hF1.up k hkO) hne).trans (hk.mine k hkO)) ⟨λk hkl=>?_,A4p hF1.low h3.size,λk hkO=>?_,?_,?_⟩
  ·rcases h5 with h5 | h5
   ·exact .inl (hvO k (h5.symm.trans hk'))
   ·have hlt:=(h2.lt k hk').2
    rw[h5] at hk';cases hk';exact .inr ⟨A4i _,hlt⟩
  ·rcases h5 with h5 | h5
   ·exact .inl (hk'.symm.trans h5)
   ·rw[h5] at hk'
    cases hk';exact .inr λhO=>Nat.lt_irrefl _ (hF1.up _ hO)
  ·refine(h3.block k (A4c hkl hF1.low) λe=>?_).trans (hF1.still k hkl)
   have:=(hown1.lt k e.symm).1
   omega
  ·rcases hkO with hkO | ⟨_,hkO⟩
   ·exact A4c (hF1.up k hkO) h3.size
   ·exact hkO
  ·exact h3.os.trans hF1.os
  ·exact h3.output.trans hF1.out
theorem Av8 {w₀ w₁:World} (hF:Held Low w₀ O w) (hR:Keep Low O w w₁) (ob:Obj):
  ∃O1,O1=(λb=>O b\/b=w₁.heap.size)/\Ext Low O O1 w (w₁.alloc ob)/\Held Low w₀ O1 (w₁.alloc ob)/\O1 w₁.heap.size/\Low<=w₁.heap.size/\(∀x,O x->x≠w₁.heap.size)/\(w₁.alloc ob).heap[w₁.heap.size]?=some ob:=
 ⟨_,rfl,hR.ext.trans ((hF.rely hR).ext _),(hF.rely hR).new _, .inr rfl,(hF.rely hR).low,λx hx=>by have:=(hF.rely hR).up x hx;omega,by simp only[World.alloc];exact Array.getElem?_push_size⟩
theorem Ext.row {w w':World} {O':Nat->Prop} {base:Nat} {e:TypeId} {size:Nat} {v:Value} {n:Nat} {xs:List Value} (h:Ext Low O O' w w') (hr:w.ownsRow base e size v n xs) (hO:∀k,v.ownBlock=some k->O k\/k<Low):w'.ownsRow base e size v n xs:=
 Qv hr λk hk=>(hO k hk).elim (h.mine k) (h.still k)
end
end Go.Co
namespace Go.Co
open Go.Conc
section
variable {P : Program} {Stop : Goroutine -> World -> Prop} {a : Act} {w : World} {b : Frame} {k : List Item} {cs : List Frame}
def Al (Q:World->Prop) (w:World):Prop:=∃τ d,Q {w with tape:=τ,drawn:=d}
theorem Al.of {Q:World->Prop} (h:Q w):Al Q w:=⟨w.tape,w.drawn,h⟩
theorem Sz (hP:OkP P) (S:Goroutine->World->Prop) {g:Goroutine} (hr:g.status=.running) (hrun:∀g w,S g w->g.status=.running)
  (H:∀τ d,∃n g' w',runN P n (solo g {w with tape:=τ,drawn:=d})=.next (solo g' w')/\S g' w') (h:∀g' w',Al (S g') w'->Comes P g' w' Stop):Comes P g w Stop:=by
 intro gs sl t hF hg;have hway:Way P (λg' w'=>Al (S g') w') g w:=by
  refine Ake hP _ (λg' w' ⟨τ,d,hs⟩=>hrun _ _ hs) (λg' w' τ e ⟨τ',d',hs⟩=>⟨τ',d',hs⟩) g hg hr w fun τ d=>?_
  obtain⟨n,g',w',hn,hs⟩:=H τ d;exact⟨n,g',w',hn,Al.of hs⟩
 exact(Ajh hP hway).then (λg' w' _ hs=>h g' w' hs) gs sl t hF hg
theorem S9 (hP:OkP P) {fr fr':Frame} {cs cs':List Frame} (hs:∀w₁,stepG P true (G fr cs) w₁=.go (G fr' cs') w₁ #[]) (h:∀w',Al (λx=>x=w) w'->Comes P (G fr' cs') w' Stop):Comes P (G fr cs) w Stop:=by
 refine Sz hP (λg1 w1=>g1=G fr' cs'/\Al (λx=>x=w) w1) rfl (λg w h=>by rw[h.1];rfl) (fun τ d=>?_) ?_
 ·refine⟨1,G fr' cs',{w with tape:=τ,drawn:=d},?_,rfl,⟨w.tape,w.drawn,rfl⟩⟩
  have hst:step P (solo (G fr cs) {w with tape:=τ,drawn:=d})=.next (solo (G fr' cs') {w with tape:=τ,drawn:=d}):=step_lone_go (by rw[show({frame:=fr,callers:=cs,status:=.running,dying:=none}:Goroutine)=G fr cs from rfl,hs];rfl);simp only[runN,hst]
 ·rintro g1 w1 ⟨τ,d,rfl,τ',d',h1⟩
  exact h w1 ⟨τ',d',h1⟩
theorem Sv (hP:OkP P) {c d:Code} (h:∀w',Al (λx=>x=w) w'->Comes P (G (b.at a (.code c::.code d::k)) cs) w' Stop):Comes P (G (b.at a (.code (.seq c d)::k)) cs) w Stop:=
 S9 hP (λ_=>stepG_seq) h
theorem Om (hP:OkP P) {id:Nat} {ops:Array Oper} (h:∀w',Al (λx=>x=w) w'->Comes P (G (b.at a (.inRegion ops (List.range ops.size)::k)) cs) w' Stop):Comes P (G (b.at a (.code (.region id ops false)::k)) cs) w Stop:=
 S9 hP (λ_=>stepG_region) h
theorem Zh (hP:OkP P) {ops:Array Oper} (h:∀w',Al (λx=>x=w) w'->Comes P (G (b.at a k) cs) w' Stop):Comes P (G (b.at a (.inRegion ops []::k)) cs) w Stop:=
 S9 hP (λ_=>stepG_region_end) h
theorem Np (hP:OkP P) {ops:Array Oper} {i:Nat} {rest:List Nat} {o:Oper} {v:Value} (ho:ops[i]?=some o) (hw:Region.wanted o (yielded ops a.tmps)=true) (hk:b.kind≠.early)
  (hr:∀w₁:World,(execOp a.eval o).run P w₁=.ok (.value v) w₁) (he:∀w₁:World,(execOp a.eval o).events P w₁ #[]=#[]) (h:∀w',Al (λx=>x=w) w'->Comes P (G (b.at (a.put o.dst v) (.inRegion ops rest::k)) cs) w' Stop):Comes P (G (b.at a (.inRegion ops (i::rest)::k)) cs) w Stop:=by
 refine S9 hP (λw₁=>?_) h;rw[stepG_value ho hw hk (hr w₁)];unfold listed;rw[he,seen_none]
def Vz (P:Program) (f:FuncId) (args:Array Value) (w:World) (Post:Value->World->Prop):Prop:=
 ∀(fr:Frame) (cs:List Frame) (Stop:Goroutine->World->Prop),(∀v w',Post v w'->Comes P (G (fr.finish v) cs) w' Stop)->Comes P (G (Frame.enter P f args .normal) (fr::cs)) w Stop
theorem Adi (hP:OkP P) {f:FuncId} {args:Array Value} {Post:Value->World->Prop} (h:∀τ d,Calls P f args {w with tape:=τ,drawn:=d} λe w'=>∃v,e=.returned v/\Post v w'):Vz P f args w (λv=>Al (Post v)):=by
 intro fr cs Stop hn;refine Sz hP (λg' w'=>∃v,g'=G (fr.finish v) cs/\Post v w') rfl (λg w ⟨v,h,_⟩=>by rw[h];rfl) (fun τ d=>?_) ?_
 ·obtain⟨e,w',fr',⟨v,rfl,hp⟩,⟨n,hc⟩,_,hl⟩:=h τ d (fr::cs)
  refine⟨n+1,G (fr.finish v) cs,w',?_,v,rfl,hp⟩;rw[runN_add];rw[show solo (G (Frame.enter P f args .normal) (fr::cs)) {w with tape:=τ,drawn:=d}=lone (Frame.enter P f args .normal) (fr::cs) {w with tape:=τ,drawn:=d} from rfl,hc];have:=step_leave_returned (c:=fr) (cs:=cs) hl
  simp only[runN,this];rfl
 ·rintro g' w' ⟨τ,d,v,rfl,hp⟩
  exact hn v w' ⟨τ,d,hp⟩
theorem Vz.mono {f:FuncId} {args:Array Value} {Post Post':Value->World->Prop} (h:Vz P f args w Post) (hp:∀v w',Post v w'->Post' v w'):Vz P f args w Post':=
 λfr cs Stop hn=>h fr cs Stop λv w' q=>hn v w' (hp v w' q)
theorem enter_at {f:FuncId} {F:Func} {c:Code} (args:Array Value) (hf:P.funcs[f]?=some F) (hb:F.body=some c):Frame.enter P f args .normal=(base f).at {tmps:=args++Array.replicate (F.ntmps - args.size) undef,defers:=[]} [.code c]:=by
 simp[Frame.enter,hf,hb,base,Frame.at]
theorem Ws (hP:OkP P) {ops:Array Oper} {i:Nat} {rest:List Nat} {o:Oper} {f:FuncId} {F:Func} {c:Code} {args:Array Operand} {ats:Array TypeId} {vals:Array Value} {Post:Value->World->Prop} (ho:ops[i]?=some o) (hw:Region.wanted o (yielded ops a.tmps)=true) (hk:b.kind≠.early)
  (hop:o.op=.call {callee:=.value (.func f),args,argTypes:=ats}) (hf:P.funcs[f]?=some F) (hbody:F.body=some c) (hargs:args.map a.eval=vals) (hcall:∀w',Al (λx=>x=w) w'->Vz P f vals w' Post)
  (h:∀v w',Post v w'->Comes P (G (b.at (a.put o.dst v) (.inRegion ops rest::k)) cs) w' Stop):Comes P (G (b.at a (.inRegion ops (i::rest)::k)) cs) w Stop:=by
 have hname:=hP.name f F hf;refine S9 hP (fr':=Frame.enter P f vals .normal) (cs':=b.at a (.inRegion ops (i::rest)::k)::cs) (λw₁=>?_) λw' hw'=>hcall w' hw' _ _ _ λv w'' hp=>?_
 ·obtain⟨g',w',es,he,hk'⟩:=goes_elim (goes_call (P:=P) (main:=true) (w:=w₁) (cs:=cs) (k:=k) (rest:=rest) (K:=λg' w' es=>g'=G ((base f).at {tmps:=args.map a.eval++Array.replicate (F.ntmps - (args.map a.eval).size) undef,defers:=[]} [.code c]) (b.at a (.inRegion ops (i::rest)::k)::cs)/\w'=w₁/\es=#[]) ho hw hk hop hf hname hbody ⟨rfl,rfl,rfl⟩)
  obtain⟨rfl,rfl,rfl⟩:=hk';rw[enter_at vals hf hbody,<-hargs];exact he
 ·have hfin:(b.at a (.inRegion ops (i::rest)::k)).finish v=b.at (a.put o.dst v) (.inRegion ops rest::k):=by rw[Frame.finish_at,ho];rfl
  rw[hfin];exact h v w'' hp
theorem Ayl (hP:OkP P) {c:Code} {Q:Exit->Act->World->Prop} (hQ:∀e a w,Q e a w->e=.normal\/e=.ret) (h:∀τ d,c.wp P Q a {w with tape:=τ,drawn:=d})
  (hn:∀a' w',Al (Q .normal a') w'->Comes P (G (b.at a' k) cs) w' Stop) (hr:∀a' w' todo,Al (Q .ret a') w'->Comes P (G {b.at a' todo with mode:=.returning} cs) w' Stop):Comes P (G (b.at a (.code c::k)) cs) w Stop:=by
 refine Sz hP (λg' w'=>(∃a',Q .normal a' w'/\g'=G (b.at a' k) cs)\/∃a' todo,Q .ret a' w'/\g'=G {b.at a' todo with mode:=.returning} cs) rfl ?_ (fun τ d=>?_) ?_
 ·rintro g w (⟨_,_,rfl⟩ | ⟨_,_,_,rfl⟩)<;>rfl
 ·obtain⟨e,a',w',hq,harr⟩:=h τ d b k cs
  rcases hQ _ _ _ hq with rfl | rfl
  ·obtain⟨n,hs⟩:=harr
   exact⟨n,_,w',hs, .inl ⟨a',hq,rfl⟩⟩
  ·obtain⟨todo,n,hs⟩:=harr
   exact⟨n,_,w',hs, .inr ⟨a',todo,hq,rfl⟩⟩
 ·rintro g' w' ⟨τ,d,⟨a',hq,rfl⟩ | ⟨a',todo,hq,rfl⟩⟩
  ·exact hn a' w' ⟨τ,d,hq⟩
  ·exact hr a' w' todo ⟨τ,d,hq⟩
def Az9:List Code->Code->Code
 | [],d=>d
 | c::l,d=>.seq c (Az9 l d)
def WpL (P:Program) (R:Act->World->Prop):List Code->Act->World->Prop
 | [],a,w=>R a w
 | c::l,a,w=>c.wp P (Exit.then (WpL P R l) λ_ _ _=>False) a w
theorem Ahm {R:Act->World->Prop} {d:Code}:∀(l:List Code) (a:Act) (w:World),WpL P R l a w->∃a' w',R a' w'/\Steps P (lone (b.at a (.code (Az9 l d)::k)) cs w) (lone (b.at a' (.code d::k)) cs w')
 | [],a,w,h=>⟨a,w,h,Steps.refl _ _⟩
 | c::l,a,w,h=>by
  obtain⟨e,a1,w1,hq,harr⟩:=h b (.code (Az9 l d)::k) cs;cases e with
  | normal=>
   obtain⟨a',w',hr,hs⟩:=Ahm l a1 w1 hq;exact⟨a',w',hr,(Steps.head step_seq harr).trans hs⟩
  | _=>exact hq.elim
theorem Afi (hP:OkP P) (l:List Code) {d:Code} {R:Act->World->Prop} (h:∀τ d',WpL P R l a {w with tape:=τ,drawn:=d'}) (hn:∀a' w',Al (R a') w'->Comes P (G (b.at a' (.code d::k)) cs) w' Stop):Comes P (G (b.at a (.code (Az9 l d)::k)) cs) w Stop:=by
 refine Sz hP (λg' w'=>∃a',R a' w'/\g'=G (b.at a' (.code d::k)) cs) rfl ?_ (fun τ d'=>?_) ?_
 ·rintro g w ⟨_,_,rfl⟩;rfl
 ·obtain⟨a',w',hr,n,hs⟩:=Ahm (b:=b) (k:=k) (cs:=cs) (d:=d) l a _ (h τ d')
  exact⟨n,_,w',hs,a',hr,rfl⟩
 ·rintro g' w' ⟨τ,d',a',hr,rfl⟩
  exact hn a' w' ⟨τ,d',hr⟩
theorem Agk {Post:Value->World->Prop} {g:Goroutine} (hg:OkG g) (h:Comes P g w λg' w'=>∀d,AtEnd P (λ_=>False) 0 Post g' (w'.at d)):
  ∃N last o w' t',runNT P (N+1) (solo g w) #[]=(.ended o w',t')/\runN P N (solo g w)=.next last/\step P last=.ended o w'/\Good P Post last o w' t':=by
 obtain⟨N,gs',g',w',sl',t',hr,⟨h0,⟨q,hL⟩,B,hPast⟩,_,_,hs⟩:=h #[g] none #[] ⟨rfl,⟨_,leavers_one P g⟩,0,past_nil⟩ hg;have hG:Goes P true AtRel (λ_ _ _=>False) (AtEnd P (λ_=>False) B Post) 0 g' w':=by
  rintro w₁ ⟨d,rfl⟩;obtain⟨h1,v,es,h2,h3,h4⟩:=hs d;exact⟨h1,v,es,h2,λe he=>⟨(h3 e he).1,(h3 e he).2.1,(h3 e he).2.2.1,MemAct.low_mono (Nat.zero_le _) (h3 e he).2.2.2⟩,h4⟩
 obtain⟨N2,last,o,w2,t2,r1,r2,r3,r4⟩:=beside_ends (sl:=sl') (λ_ _ _ h=>h.elim) h0 hL hPast hG;have hc:crowd #[g] w none=solo g w:=rfl;rw[hc] at hr;refine⟨N+N2,last,o,w2,t2,?_,?_,r3,r4⟩
 ·rw[Nat.add_assoc,runNT_add,hr];exact r1
 ·rw[runN_add]
  have:runN P N (solo g w)=.next (crowd gs' w' sl'):=by rw[<-runNT_fst _ _ _ #[],hr]
  rw[this];exact r2
end
end Go.Co
