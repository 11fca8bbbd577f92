import Derived.Test.YtbfljjcnbbmoaaaGreatDoorCE3b
import Derived.Below
namespace Go.Co
open Go.Conc Go.RowKit
structure Ext (Low:Nat) (O O':Nat->Prop) (w w':World):Prop where
 own:∀b,O b->O' b
 still:∀b,b<Low->w'.heap[b]?=w.heap[b]?
 mine:∀b,O b->w'.heap[b]?=w.heap[b]?
 size:w.heap.size<=w'.heap.size
section
variable {Low : Nat} {w₀ w w' w'' : World} {bs : List (Nat × Obj)} {O O' O'' : Nat -> Prop}
theorem Ext.refl (Low:Nat) (O:Nat->Prop) (w:World):Ext Low O O w w:=⟨λ_ h=>h,λ_ _=>rfl,λ_ _=>rfl,A4i _⟩
theorem Ext.trans (h:Ext Low O O' w w') (k:Ext Low O' O'' w' w''):Ext Low O O'' w w'':=
 ⟨λb hb=>k.own b (h.own b hb),λb hb=>(k.still b hb).trans (h.still b hb),λb hb=>(k.mine b (h.own b hb)).trans (h.mine b hb),A4p h.size k.size⟩
theorem Keep.ext (h:Keep Low O w w'):Ext Low O O w w':=⟨λ_ h=>h,h.still,h.mine,h.size⟩
theorem Adn {w:World} {b:Nat} (hb:b<w.heap.size) (ob:Obj):(w.alloc ob).heap[b]?=w.heap[b]?:=by
 simp only[World.alloc];rw[Array.getElem?_push_lt hb,Array.getElem?_eq_getElem hb]
theorem A3e.ext (h:A3e Low w₀ bs O w) (k:Ext Low O O' w w'):A3e Low w₀ bs O' w':=
 ⟨λb hb=>(k.still b hb).trans (h.still b hb),A4p h.low k.size,λp hp=>⟨k.own _ (h.box p hp).1,(k.mine _ (h.box p hp).1).trans (h.box p hp).2⟩⟩
theorem Ext.new (hl:Low<=w.heap.size) (hO:∀b,O b->b<w.heap.size) (ob:Obj):Ext Low O (λb=>O b\/b=w.heap.size) w (w.alloc ob):=
 ⟨λ_ h=>.inl h,λb hb=>Adn (A4c hb hl) ob,λb hb=>Adn (hO b hb) ob,by simp only[World.alloc,Array.size_push];omega⟩
end
structure Held (Low:Nat) (w₀:World) (O:Nat->Prop) (w:World):Prop where
 still:∀b,b<Low->w.heap[b]?=w₀.heap[b]?
 low:Low<=w.heap.size
 up:∀b,O b->b<w.heap.size
 os:w.os=w₀.os
 out:w.output=w₀.output
section
variable {Low : Nat} {w₀ w w' : World} {O O' : Nat -> Prop}
theorem Held.rely (h:Held Low w₀ O w) (hk:Keep Low O w w'):Held Low w₀ O w':=⟨λb hb=>(hk.still b hb).trans (h.still b hb),A4p h.low hk.size,λb hb=>A4c (h.up b hb) hk.size,hk.os.trans h.os,hk.out.trans h.out⟩
theorem Held.new (h:Held Low w₀ O w) (ob:Obj):Held Low w₀ (λb=>O b\/b=w.heap.size) (w.alloc ob):=
 ⟨λb hb=>(Adn (A4c hb h.low) ob).trans (h.still b hb),by simp only[World.alloc,Array.size_push];have:=h.low;omega,λb hb=>by
  simp only[World.alloc,Array.size_push];rcases hb with hb | hb
  ·have:=h.up b hb;omega
  ·omega,h.os,h.out⟩
theorem Held.down (h:Held Low w₀ O w) {b:Nat} (hb:b<Low) (k:Nat):w.cell? ⟨b,k,none⟩=w₀.cell? ⟨b,k,none⟩:=by
 simp only[World.cell?,h.still b hb]
theorem Held.ext (h:Held Low w₀ O w) (ob:Obj):Ext Low O (λb=>O b\/b=w.heap.size) w (w.alloc ob):=Ext.new h.low h.up ob
theorem Ext.cell (h:Ext Low O O' w w') {b:Nat} (hb:O b\/b<Low) (k:Nat):w'.cell? ⟨b,k,none⟩=w.cell? ⟨b,k,none⟩:=by
 have :=hb.elim (h.mine b) (h.still b);simp only[World.cell?,this]
theorem Aei (w:World) (cs:Array Value) (ty:TypeId) (k:Nat):(w.alloc (.cells cs ty)).cell? ⟨w.heap.size,k,none⟩=cs[k]?:=by
 have:(w.alloc (.cells cs ty)).heap[w.heap.size]?=some (.cells cs ty):=by simp only[World.alloc];exact Array.getElem?_push_size
 simp only[World.cell?,this];rfl
theorem F8 {τ:Type} {P:Program} {main:Bool} {pre:τ->World->Prop} {ok:τ->(Nat->Prop)->World->Goroutine->Prop} {fn:FuncId} {Q:Uo τ} {a:Act} {x:τ} (T:OkL P main Low pre ok) {ops:Array Oper} {i:Nat} {rest:List Nat} {o:Oper} {f:FuncId} {args:Array Operand} {ats:Array TypeId} {vals:Array Value} {Post:Value->τ->(Nat->Prop)->World->Prop}
  (ho:ops[i]?=some o) (hw:Region.wanted o (yielded ops a.tmps)=true) (hop:o.op=.call {callee:=.value (.func f),args,argTypes:=ats})
  (hcall:Jv P ok f vals x O w Post) (hargs:args.map a.eval=vals) (hnext:∀v x' O' w',Post v x' O' w'->Rq ok fn ops rest Q (a.put o.dst v) x' O' w'):Rq ok fn ops (i::rest) Q a x O w:=
 At5 T ho hw hop (by rw[hargs];exact hcall) hnext
theorem boxed {w₁:World} (hF:Held Low w₀ O w) (hR:Keep Low O w w₁) (cs:Array Value) (ty:TypeId):
  ∃O1,O1=(λb=>O b\/b=w₁.heap.size)/\Ext Low O O1 w (w₁.alloc (.cells cs ty))/\Held Low w₀ O1 (w₁.alloc (.cells cs ty))/\O1 w₁.heap.size/\Low<=w₁.heap.size/\
   ∀W,Keep Low O1 (w₁.alloc (.cells cs ty)) W->∀k,W.cell? ⟨w₁.heap.size,k,none⟩=cs[k]?:=
 ⟨_,rfl,hR.ext.trans ((hF.rely hR).ext _),(hF.rely hR).new _, .inr rfl,(hF.rely hR).low,λ_W hW k=>(hW.ext.cell (.inl (.inr rfl)) k).trans (Aei _ _ _ _)⟩
end
section
variable {τ : Type} {P : Program} {main : Bool} {Low : Nat} {pre : τ -> World -> Prop} {ok : τ -> (Nat -> Prop) -> World -> Goroutine -> Prop} {fn : FuncId} {Q : Uo τ} {a : Act} {x : τ} {O : Nat -> Prop} {w w₀ : World} {ops : Array Oper} {i : Nat} {rest : List Nat} {o : Oper}
theorem kB (hF:Held Low w₀ O w) (cs:Array Value) (ty:TypeId)
  (h:∀O1 W1 b,Ext Low O O1 w W1->Held Low w₀ O1 W1->O1 b->Low<=b->Hid (∀W,Keep Low O1 W1 W->∀k,W.cell? ⟨b,k,none⟩=cs[k]?)->Rq ok fn ops rest Q (a.put o.dst (.pointer (some ⟨b,0,none⟩))) x O1 W1)
  (ho:ops[i]?=some o:=by rfl) (hw:Region.wanted o (yielded ops a.tmps)=true:=by rfl) (T:OkL P main Low pre ok:=by first | exact Be _ _ _ | exact Bj _ _ _) (he:∀w₁:World,(execOp a.eval o).events P w₁ #[]=#[]:=by(intro _;simp[go_sem]))
  (hr:∀(w₁:World) (K:Act->World->Prop),K (a.put o.dst (.pointer (some ⟨w₁.heap.size,0,none⟩))) (w₁.alloc (.cells cs ty))->uponK o a K ((execOp a.eval o).run P w₁):=by(intro w₁ K hK;go_simp;exact hK)):Rq ok fn ops (i::rest) Q a x O w:=by
 refine J7 T ho hw he λw₁ hR K hK=>hr w₁ K (hK _ _ ?_)
 obtain⟨O1,eO,h1,h2,h3,h4,h5⟩:=boxed hF hR cs ty;rw[<-eO];exact h O1 _ _ h1 h2 h3 h4 h5
theorem Af9 {O1 O2:Nat->Prop} {W1 W2:World} {b:Nat} {f:Nat->Option Value} (H:Hid (∀W,Keep Low O1 W1 W->∀k,W.cell? ⟨b,k,none⟩=f k)) (hE:Ext Low O1 O2 W1 W2) (hO:O1 b):Hid (∀W,Keep Low O2 W2 W->∀k,W.cell? ⟨b,k,none⟩=f k):=λ_ hW k=>(hW.ext.cell (.inl (hE.own _ hO)) k).trans ((hE.cell (.inl hO) k).trans (H _ (Keep.refl _ _ _) k))
end
end Go.Co
namespace Go.Co
open Go.Conc
structure Put (b:Nat) (w w':World):Prop where
 rest:∀x,x≠b->w'.heap[x]?=w.heap[x]?
 size:w'.heap.size=w.heap.size
 tape:w'.tape=w.tape
 os:w'.os=w.os
 out:w'.output=w.output
theorem Put.refl (b:Nat) (w:World):Put b w w:=⟨λ_ _=>rfl,rfl,rfl,rfl,rfl⟩
theorem Put.set {b:Nat} {w w':World} (h:Put b w w') (o:Nat) (v:Value):Put b w (w'.setCell ⟨b,o,none⟩ v):=by
 refine⟨λx hx=>?_,?_,h.tape,h.os,h.out⟩
 ·rw[<-h.rest x hx]
  simp only[World.setCell];rw[Array.getElem?_modify];have:¬b=x:=λe=>hx e.symm
  simp[this]
 ·rw[<-h.size];simp[World.setCell]
section
variable {τ : Type} {P : Program} {main : Bool} {Low : Nat} {pre : τ -> World -> Prop} {ok : τ -> (Nat -> Prop) -> World -> Goroutine -> Prop} {fn : FuncId} {Q : Uo τ} {a : Act} {x : τ} {O : Nat -> Prop} {w : World}
variable {ops : Array Oper} {i : Nat} {rest : List Nat} {o : Oper}
theorem Vh (T:OkL P main Low pre ok) (b:Nat) (hb:O b) (ho:ops[i]?=some o) (hw:Region.wanted o (yielded ops a.tmps)=true)
  (he:∀w₁,Keep Low O w w₁->∀e∈(execOp a.eval o).events P w₁ #[],EvO Low O e)
  (h:∀w₁,Keep Low O w w₁->∀K:Act->World->Prop,(∀a' w',Put b w₁ w'->Rq ok fn ops rest Q a' x O w'->K a' w')->uponK o a K ((execOp a.eval o).run P w₁)):Rq ok fn ops (i::rest) Q a x O w:=by
 refine Vj T ho hw λw₁ hk _ K hK=>?_
 have:=h w₁ hk (λa' w'=>Put b w₁ w'/\Rq ok fn ops rest Q a' x O w') λa' w' hp h=>⟨hp,h⟩
 refine uponK_mono (λa' w' h=>?_) this;obtain⟨hp,h⟩:=h;have e:grown O w₁ w'=O:=by
  funext y;apply propext;simp only[grown,hp.size];constructor
  ·rintro(h | h)
   ·exact h
   ·omega
  ·exact .inl
 refine hK _ _ ⟨⟨λy _ hn=>hp.rest y (λe=>hn (e ▸ hb)),Nat.le_of_eq hp.size.symm,hp.tape,hp.os,hp.out,λev hm=>?_⟩,?_⟩
 ·rw[e];exact .inl (he _ hk ev (mem_listed hm))
 ·rw[e];exact h
end
theorem Az5 {τ:Type} {ok:τ->(Nat->Prop)->World->Goroutine->Prop} {fn:FuncId} {Q:Uo τ} {a:Act} {x:τ} {O:Nat->Prop} {w:World} {c:Code} {N:Act->τ->(Nat->Prop)->World->Prop} (M:Act->τ->(Nat->Prop)->World->Prop)
  (h:WpK ok fn c (Tm M Q) a x O w) (hn:∀a' x' O' w',M a' x' O' w'->N a' x' O' w'):WpK ok fn c (Tm N Q) a x O w:=
 h.mono λe a' x' O' w' q=>by cases e<;>first | exact hn _ _ _ _ q | exact q
theorem events_store_slice {P:Program} {w:World} {es:Array Event} {a:Addr} {m:Mode} (p:Option Addr) (n c:Nat):(store a (.slice p n c) m).events P w es=storedEv P w es a (.slice p n c) m:=events_store P w es a _ m rfl
section
variable {Low b : Nat} {w₀ w w' W : World} {O O' : Nat -> Prop}
theorem Ext.put (h:Ext Low O O' W w) (hp:Put b w w') (hl:Low<=b) (hn:∀x,O x->x≠b):Ext Low O O' W w':=
 ⟨h.own,λx hx=>(hp.rest x (by omega)).trans (h.still x hx),λx hx=>(hp.rest x (hn x hx)).trans (h.mine x hx),A4p h.size (Nat.le_of_eq hp.size.symm)⟩
theorem Held.put (h:Held Low w₀ O w) (hp:Put b w w') (hl:Low<=b):Held Low w₀ O w':=
 ⟨λx hx=>(hp.rest x (by omega)).trans (h.still x hx),by rw[hp.size];exact h.low,λx hx=>by rw[hp.size];exact h.up x hx,hp.os.trans h.os,hp.out.trans h.out⟩
theorem Put.cell (hp:Put b w w') {y:Nat} (hy:y≠b) (k:Nat):w'.cell? ⟨y,k,none⟩=w.cell? ⟨y,k,none⟩:=by simp only[World.cell?,hp.rest y hy]
theorem Ext.rely {w₁:World} (h:Ext Low O O' w W) (hk:Keep Low O' W w₁):Ext Low O O' w w₁:=h.trans hk.ext
theorem Ajw {w₁:World} (hF:Held Low w₀ O w) (hR:Keep Low O w w₁) (cs:Array Value) (ty:TypeId):
  ∃O1,O1=(λb=>O b\/b=w₁.heap.size)/\Ext Low O O1 w (w₁.alloc (.cells cs ty))/\Held Low w₀ O1 (w₁.alloc (.cells cs ty))/\O1 w₁.heap.size/\Low<=w₁.heap.size/\(∀x,O x->x≠w₁.heap.size)/\
   (w₁.alloc (.cells cs ty)).heap[w₁.heap.size]?=some (.cells cs ty):=by
 obtain⟨O1,e,h1,h2,h3,h4,_⟩:=boxed hF hR cs ty;refine⟨O1,e,h1,h2,h3,h4,λx hx=>?_,?_⟩
 ·have:=(hF.rely hR).up x hx
  omega
 ·simp only[World.alloc];exact Array.getElem?_push_size
theorem cell_of_heap {w:World} {b:Nat} {cs:Array Value} {ty:TypeId} {fz:Nat × Nat} (h:w.heap[b]?=some (.cells cs ty fz)) (k:Nat):w.cell? ⟨b,k,none⟩=cs[k]?:=by
 simp only[World.cell?,h];rfl
theorem frozen_of_heap {w:World} {b:Nat} {cs:Array Value} {ty:TypeId} (h:w.heap[b]?=some (.cells cs ty)) (k:Nat):w.frozen? ⟨b,k,none⟩=false:=by
 simp[World.frozen?,h]
theorem heap_setCell {w:World} {b:Nat} {cs:Array Value} {ty:TypeId} {fz:Nat × Nat} (h:w.heap[b]?=some (.cells cs ty fz)) (o:Nat) (v:Value):(w.setCell ⟨b,o,none⟩ v).heap[b]?=some (.cells (cs.setIfInBounds o v) ty fz):=by
 simp only[World.setCell];rw[Array.getElem?_modify,if_pos rfl,h];rfl
end
end Go.Co
namespace Go.Co
open Go.Conc
section
variable {τ : Type} {P : Program} {main : Bool} {Low : Nat} {pre : τ -> World -> Prop} {ok : τ -> (Nat -> Prop) -> World -> Goroutine -> Prop} {fn : FuncId} {Q : Uo τ} {x : τ} {O : Nat -> Prop}
variable {ops : Array Oper} {md : Region.Mode} {S : World -> Prop} {last : Nat}
def OpK (P:Program) (Low:Nat) (pre:τ->World->Prop) (fn:FuncId) (ops:Array Oper) (x:τ) (O:Nat->Prop) (i:Nat) (K:Act->World->Prop) (a:Act) (w:World):Prop:=
 match ops[i]? with
 | none=>False
 | some o=>if Region.wanted o (yielded ops a.tmps) then ∀w₁,Keep Low O w w₁->pre x w₁->uponK o a (λa' w'=>(Amn Low O w₁ w' (listed P fn a o w₁)/\grown O w₁ w'=O)/\K a' w') ((execOp a.eval o).run P w₁) else K (a.put o.dst undef) w
theorem Aod {i:Nat} {a:Act} {w:World} {K K':Act->World->Prop} (h:∀a w,K a w->K' a w) (hh:OpK P Low pre fn ops x O i K a w):OpK P Low pre fn ops x O i K' a w:=by
 unfold OpK at*;split
 ·simp_all
 ·rename_i o ho
  simp only[ho] at hh;split
  ·rename_i hw;simp only[hw,if_true] at hh;exact λw₁ h₁ hp=>uponK_mono (λa' w' z=>⟨z.1,h _ _ z.2⟩) (hh w₁ h₁ hp)
  ·rename_i hw;simp only[hw] at hh;exact h _ _ hh
theorem Ak2 (T:OkL P main Low pre ok) {i:Nat} {rest:List Nat} {a:Act} {w:World} (h:OpK P Low pre fn ops x O i (λa' w'=>Rq ok fn ops rest Q a' x O w') a w):Rq ok fn ops (i::rest) Q a x O w:=by
 unfold OpK at h;split at h
 ·exact h.elim
 ·rename_i o ho
  split at h
  ·rename_i hw
   refine Vj T ho hw λw₁ hk hp K hK=>uponK_mono (λa' w' z=>?_) (h w₁ hk hp)
   exact hK _ _ ⟨z.1.1,by rw[z.1.2];exact z.2⟩
  ·rename_i hw;exact Tu T ho (by simpa using hw) h
def O7 (P:Program) (Low:Nat) (fn:FuncId) (ops:Array Oper) (S:World->Prop) (O:Nat->Prop) (o:Oper) (v:Value) (a:Act):Prop:=
 (Region.wanted o (yielded ops a.tmps)=true/\∀w,S w->(execOp a.eval o).run P w=.ok (.value v) w/\Amn Low O w w (listed P fn a o w))\/(Region.wanted o (yielded ops a.tmps)=false/\v=undef)
theorem O7.of_same {o:Oper} {v:Value} {a a':Act} (hy:O7 P Low fn ops S O o v a) (he:execOp a'.eval o=execOp a.eval o) (hw:Region.wanted o (yielded ops a'.tmps)=Region.wanted o (yielded ops a.tmps)):O7 P Low fn ops S O o v a':=by
 unfold O7 listed at*;rw[he,hw];exact hy
variable (P Low pre ok fn ops md S last Q x O)
def Aoi:Nat->Array Bool->Act->World->Prop
 | 0,listed,a,w=>Region.ready md ops listed=[last]/\Rq ok fn ops [last] Q a x O w
 | fuel+1,listed,a,w=>last∉Region.ready md ops listed/\Region.ready md ops listed≠[]/\∀i∈Region.ready md ops listed,OpK P Low pre fn ops x O i (λa' w'=>S w'/\Aoi fuel (listed.setIfInBounds i true) a' w') a w
variable {P Low pre ok fn ops md S last Q x O}
theorem Aoi.rely (T:OkL P main Low pre ok) (hSR:∀u v,S u->Keep Low O u v->S v):
  ∀(fuel:Nat) (listed:Array Bool) (a:Act) (w w₁:World),Aoi P Low pre ok fn Q x O ops md S last fuel listed a w->Keep Low O w w₁->Aoi P Low pre ok fn Q x O ops md S last fuel listed a w₁
 | 0,_,_,_,_,h,r=>⟨h.1,h.2.rely T r⟩
 | fuel+1,listed,a,w,w₁,h,r=>⟨h.1,h.2.1,λi hi=>by
   have:=h.2.2 i hi
   unfold OpK at*;split
   ·simp_all
   ·rename_i o ho
    simp only[ho] at this;split
    ·rename_i hw;simp only[hw,if_true] at this;exact λw₂ h₂=>this w₂ (r.trans h₂)
    ·rename_i hw;simp only[hw] at this;exact⟨hSR _ _ this.1 r,Aoi.rely T hSR fuel _ _ _ _ this.2 r⟩⟩
theorem Aro (T:OkL P main Low pre ok):∀(fuel t:Nat) (listed:Array Bool) (a:Act) (w:World),Aoi P Low pre ok fn Q x O ops md S last fuel listed a w->
  Rq ok fn ops (Region.linearise.go md ops (fuel+1) t listed []) Q a x O w:=by
 intro fuel;induction fuel with
 | zero=>
  intro t listed a w h;simp only[Region.linearise.go]
  change Rq ok fn ops (match (Region.ready md ops listed)[t % (Region.ready md ops listed).length]? with
   | some i=>Region.linearise.go md ops 0 (t / (Region.ready md ops listed).length) (listed.setIfInBounds i true) [i]
   | none=>[].reverse) Q a x O w
  rw[h.1];simp[Nat.mod_one,Region.linearise.go];exact h.2
 | succ fuel ih=>
  intro t listed a w h;obtain⟨_,h₀,h₁⟩:=h;rw[Region.linearise.go]
  change Rq ok fn ops (match (Region.ready md ops listed)[t % (Region.ready md ops listed).length]? with
   | some i=>Region.linearise.go md ops (fuel+1) (t / (Region.ready md ops listed).length) (listed.setIfInBounds i true) [i]
   | none=>[].reverse) Q a x O w
  cases hi:(Region.ready md ops listed)[t % (Region.ready md ops listed).length]? with
  | none=>
   exfalso;apply h₀;cases hr:Region.ready md ops listed with
   | nil=>rfl
   | cons y ys=>
    rw[hr] at hi;have hlt:t % (y::ys).length<(y::ys).length:=Nat.mod_lt _ (by simp);simp at hi;simp at hlt;omega
  | some i=>
   simp only[];rw[linearise_go_acc,List.reverse_singleton,List.singleton_append];exact Ak2 T (Aod (λa' w' z=>ih _ _ a' w' z.2) (h₁ i (List.mem_of_getElem? hi)))
theorem O7.opK (hSR:∀u v,S u->Keep Low O u v->S v) {i:Nat} {o:Oper} {v:Value} {a:Act} (hi:ops[i]?=some o) (hy:O7 P Low fn ops S O o v a) {K:Act->World->Prop} (hK:∀a u v,K a u->Keep Low O u v->K a v) {w:World} (hS:S w) (h:K (a.put o.dst v) w):
  OpK P Low pre fn ops x O i K a w:=by
 unfold OpK;simp only[hi];rcases hy with⟨hw,hv⟩ | ⟨hw,rfl⟩
 ·simp only[hw,if_true]
  intro w₁ h₁ _;rw[(hv w₁ (hSR _ _ hS h₁)).1];exact⟨⟨(hv w₁ (hSR _ _ hS h₁)).2,Ih _ _⟩,hK _ _ _ h h₁⟩
 ·simp only[hw,A4j,if_false];exact h
theorem Awa {j:Nat} {oi oj:Oper} {v:Value} (hj:ops[j]?=some oj) (hap:oi.apart ops oj=true) (hsi:∀cs b,oi.op≠.select cs b) (hsj:∀cs b,oj.op≠.select cs b) {K:Act->World->Prop} {a:Act} {w:World}
  (hy:O7 P Low fn ops S O oi v a) (h:OpK P Low pre fn ops x O j K (a.put oi.dst v) w):OpK P Low pre fn ops x O j (λa' w'=>O7 P Low fn ops S O oi v a'/\K (a'.put oi.dst v) w') a w:=by
 obtain⟨h1,h2,h3⟩:=Oper.apart_spec hap;have keep:∀(a:Act),O7 P Low fn ops S O oi v a->∀u,O7 P Low fn ops S O oi v (a.put oj.dst u):=λa hy u=>hy.of_same (execOp_put oi hsi a oj.dst u h3) (wanted_put oi a oj.dst u h3)
 unfold OpK at*;simp only[hj] at*;rw[wanted_put oj a oi.dst v h1] at h;split
 ·rename_i hw
  simp only[hw,if_true] at h;intro w₁ h₁ hp;have h:=h w₁ h₁ hp;unfold listed at*;rw[execOp_put oj hsj a oi.dst v h1] at h;generalize (execOp a.eval oj).run P w₁=r at*;cases r with
  | ok n w'=>
   cases n<;>simp only[uponK] at h ⊢
   case value u=>exact⟨h.1,keep a hy u,by rw[<-Act.put_comm a v u h2];exact h.2⟩
   case skip=>exact⟨h.1,keep a hy _,by rw[<-Act.put_comm a v undef h2];exact h.2⟩
  | halt z w'=>simp only[uponK] at h
 ·rename_i hw
  simp only[hw] at h;exact⟨keep a hy _,by rw[<-Act.put_comm a v undef h2];exact h⟩
def Vy (md:Region.Mode) (ops:Array Oper) (l:Array Bool):Prop:=∀j o,ops[j]?=some o->l.getD j false=true->∀e∈o.after,Region.binds md e=true->l.getD e.on false=true
theorem Agg {l:Array Bool} {j:Nat} (h:j<l.size):(l.setIfInBounds j true).getD j false=true:=by simp[h]
theorem Xk {l:Array Bool} {j k:Nat} (h:j≠k) (d:Bool):(l.setIfInBounds j true).getD k d=l.getD k d:=getD_set_ne d h
theorem Vy.set {l:Array Bool} {j:Nat} (h:Vy md ops l) (hj:j∈Region.ready md ops l):Vy md ops (l.setIfInBounds j true):=by
 intro k o hk hl e he hb;have key:l.getD e.on false=true:=by
  by_cases hkj:j=k
  ·subst hkj
   obtain⟨_,o',ho',hall⟩:=mem_ready.1 hj;rw[hk] at ho';cases ho';exact hall e he hb
  ·rw[Xk hkj] at hl
   exact h k o hk hl e he hb
 by_cases hje:j=e.on
 ·have hlt:j<l.size:=by
   have h0:=(mem_ready.1 hj).1;rcases Nat.lt_or_ge j l.size with h' | h'
   ·exact h'
   ·simp[Array.getElem?_eq_none h'] at h0
  rw[<-hje];exact Agg hlt
 ·rw[Xk hje];exact key
def Agq (md:Region.Mode) (ops:Array Oper) (l:Array Bool):Bool:=(List.range ops.size).all λj=>!(l.getD j false) || ((ops[j]?).all λo=>o.after.toList.all λe=>!(Region.binds md e) || l.getD e.on false)
theorem Adf {l:Array Bool}:Agq md ops l=true↔Vy md ops l:=by
 unfold Agq Vy;rw[List.all_eq_true];constructor
 ·intro h j o ho hl e he hb
  have hlt:=(Array.getElem?_eq_some_iff.1 ho).1;have:=h j (List.mem_range.2 hlt)
  rw[hl,ho] at this;simp only[Bool.not_true,Bool.false_or,Option.all_some,List.all_eq_true] at this;have:=this e (Array.mem_toList_iff.2 he)
  rw[hb] at this;simpa using this
 ·intro h j hj
  cases hl:l.getD j false with
  | false=>rfl
  | true=>
   simp only[Bool.not_true,Bool.false_or];cases ho:ops[j]? with
   | none=>rfl
   | some o=>
    simp only[Option.all_some,List.all_eq_true];intro e he;cases hb:Region.binds md e with
    | false=>rfl
    | true=>rw[h j o ho hl e (Array.mem_toList_iff.1 he) hb];rfl
theorem Arp (T:OkL P main Low pre ok) (hSR:∀u v,S u->Keep Low O u v->S v) {i:Nat} {oi:Oper} {v:Value} (hi:ops[i]?=some oi) (hsel:∀(j:Nat) (o:Oper) cs b,ops[j]?=some o->o.op≠.select cs b):
  ∀(fuel:Nat) (listed:Array Bool) (a:Act) (w:World),(∀l:Array Bool,l.size=listed.size->Vy md ops l->l.getD i true=false->last∉Region.ready md ops l)->Vy md ops listed->
   (∀j oj,ops[j]?=some oj->j≠i->listed.getD j true=false->(∀e∈oj.after,Region.binds md e=true->e.on≠i)->oi.apart ops oj=true)->
   i∈Region.ready md ops listed->O7 P Low fn ops S O oi v a->S w->
   Aoi P Low pre ok fn Q x O ops md S last fuel (listed.setIfInBounds i true) (a.put oi.dst v) w->Aoi P Low pre ok fn Q x O ops md S last (fuel+1) listed a w:=by
 have hK:∀fuel listed,∀a u v,(S u/\Aoi P Low pre ok fn Q x O ops md S last fuel listed a u)->Keep Low O u v->(S v/\Aoi P Low pre ok fn Q x O ops md S last fuel listed a v):=
  λfuel listed a u v h r=>⟨hSR _ _ h.1 r,Aoi.rely T hSR fuel listed a u v h.2 r⟩
 intro fuel;induction fuel with
 | zero=>
  intro listed a w hlast hcl _ hr hy hS H;have hnl:=hlast listed rfl hcl (mem_ready.1 hr).1;refine⟨hnl,λh=>(by rw[h] at hr;cases hr),λj hj=>?_⟩;by_cases hji:j=i
  ·subst hji;exact hy.opK hSR hi (hK _ _) hS ⟨hS,H⟩
  ·have:=ready_mono hj hji
   rw[H.1] at this;rw[List.mem_singleton.1 this] at hj;exact absurd hj hnl
 | succ fuel ih=>
  intro listed a w hlast hcl hfree hr hy hS H;refine⟨hlast listed rfl hcl (mem_ready.1 hr).1,λh=>(by rw[h] at hr;cases hr),λj hj=>?_⟩;by_cases hji:j=i
  ·subst hji;exact hy.opK hSR hi (hK _ _) hS ⟨hS,H⟩
  ·have h1:=H.2.2 j (ready_mono hj hji)
   obtain⟨hjun,oj,hoj,hall⟩:=mem_ready.1 hj;have hnot:∀e∈oj.after,Region.binds md e=true->e.on≠i:=λe he hb heq=>by
    have h1:=hall e he hb;have h0:=(mem_ready.1 hr).1;rw[heq] at h1;rcases Nat.lt_or_ge i listed.size with h' | h'
    ·simp[h'] at h0 h1;rw[h0] at h1;cases h1
    ·simp[Array.getElem?_eq_none h'] at h1
   have h2:=Awa hoj (hfree j oj hoj hji hjun hnot) (λcs b=>hsel i oi cs b hi) (λcs b=>hsel j oj cs b hoj) hy h1;have hfree':∀k ok,ops[k]?=some ok->k≠i->(listed.setIfInBounds j true).getD k true=false->(∀e∈ok.after,Region.binds md e=true->e.on≠i)->oi.apart ops ok=true:=λk ok hk hki hun hno=>by
    refine hfree k ok hk hki ?_ hno;by_cases hjk:j=k
    ·subst hjk;exact hjun
    ·rw[getD_set_ne true hjk] at hun;exact hun
   refine Aod (λa' w' h3=>⟨h3.2.1,ih (listed.setIfInBounds j true) a' w' (λl hl=>hlast l (by rw[hl];simp)) (hcl.set hj) hfree' (ready_mono hr (Ne.symm hji)) h3.1 h3.2.1 ?_⟩) h2;rw[Array.setIfInBounds_comm _ _ hji];exact h3.2.2
def allB:Nat->List (Array Bool)
 | 0=>[#[]]
 | n+1=>(allB n).flatMap λl=>[l.push false,l.push true]
theorem Anc:∀(n:Nat) (l:Array Bool),l.size=n->l∈allB n
 | 0,l,h=>by simp[allB];exact Array.size_eq_zero_iff.1 h
 | n+1,l,h=>by
  simp only[allB,List.mem_flatMap];refine⟨l.pop,Anc n _ (by simp[h]),?_⟩;have hne:l.size≠0:=by omega
  have e:l=l.pop.push (l[l.size - 1]'(by omega)):=by
   apply Array.ext
   ·simp;omega
   ·intro i h1 h2
    by_cases hi:i<l.size - 1
    ·rw[Array.getElem_push_lt (by simpa using hi)];simp
    ·have:i=l.size - 1:=by omega
     subst this;rw[Array.getElem_push];simp
  cases hb:l[l.size - 1]'(by omega) with
  | false=>rw[hb] at e;rw[e];simp
  | true=>rw[hb] at e;rw[e];simp
def waits (md:Region.Mode) (ops:Array Oper) (last i n:Nat):Bool:=(allB n).all λl=>!(Agq md ops l) || (l.getD i true || !(Region.ready md ops l).contains last)
theorem Aoj {i n:Nat} (h:waits md ops last i n=true):∀l:Array Bool,l.size=n->Vy md ops l->l.getD i true=false->last∉Region.ready md ops l:=by
 intro l hl hc hf hm;have:=List.all_eq_true.1 h l (Anc n l hl)
 rw[hf,Adf.2 hc] at this;simp at this;exact this hm
theorem Tc (T:OkL P main Low pre ok) (hSR:∀u v,S u->Keep Low O u v->S v) {i:Nat} {oi:Oper} {v:Value} {fuel:Nat} {listed:Array Bool} {a:Act} {w:World} (hi:ops[i]?=some oi)
  (hl:waits md ops last i listed.size=true) (hcl:Agq md ops listed=true) (hs:Region.noSelect ops=true) (hf:Region.free md ops listed i=true) (hr:(Region.ready md ops listed).contains i=true) (hy:O7 P Low fn ops S O oi v a) (hS:S w)
  (h:Aoi P Low pre ok fn Q x O ops md S last fuel (listed.setIfInBounds i true) (a.put oi.dst v) w):Aoi P Low pre ok fn Q x O ops md S last (fuel+1) listed a w:=
 Arp T hSR hi (Region.noSelect_spec hs) fuel listed a w (Aoj hl) (Adf.1 hcl) (Region.free_spec hi hf) (by simpa using hr) hy hS h
theorem Abu (T:OkL P main Low pre ok) {id:Nat} {a:Act} {w:World} {fuel:Nat} (S:World->Prop) (last:Nat) (hm:P.follows .mixedOrders=true) (hz:ops.size=fuel+1)
  (h:∀w₁,Keep Low O w w₁->Aoi P Low pre ok fn Q x O ops .any S last fuel (Array.replicate ops.size false) a {w₁ with drawn:=w₁.drawn+1}):WpK ok fn (.region id ops true) Q a x O w:=by
 intro b k cs hb hk hc;refine T.own rfl λw₁ h₁ _=>⟨_,_,_,stepG_region_draw,rfl,⟨λ_ _ _=>rfl,A4i _,rfl,rfl,rfl,by simp⟩,?_⟩
 have e:grown O w₁ {w₁ with drawn:=w₁.drawn+1}=O:=Ih O w₁;rw[e];have:=Aro T fuel (w₁.tape w₁.drawn (.order b.fn id)) (Array.replicate ops.size false) a _ (h w₁ h₁) b k cs hb hk hc
 simp only[Region.schedule,hm,Bool.true_or,if_true];simp only[Region.linearise,hz] at this ⊢;exact this
end
end Go.Co
