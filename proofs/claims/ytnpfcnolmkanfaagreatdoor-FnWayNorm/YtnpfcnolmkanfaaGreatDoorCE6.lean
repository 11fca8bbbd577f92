import Derived.Test.YtnpfcnolmkanfaaGreatDoorCE3b
import Derived.Below
namespace Go.Co
open Go.Conc Go.RowKit
structure Ext (Low:Nat)(O O':Nat->Prop)(w w':World):Prop where
 own:∀b,O b->O' b
 still:∀b,b<Low->w'.heap[b]?=w.heap[b]?
 mine:∀b,O b->w'.heap[b]?=w.heap[b]?
 size:w.heap.size<=w'.heap.size
section
variable {Low : Nat}{w₀ w w' w'' : World}{bs : List (Nat × Obj)}{O O' sG : Nat -> Prop}
theorem Ext.refl (Low:Nat)(O:Nat->Prop)(w:World):Ext Low O O w w:=⟨λ_ h=>h,λ_ _=>rfl,λ_ _=>rfl,A57 _⟩
theorem Ext.trans (h:Ext Low O O' w w')(k:Ext Low O' sG w' w''):Ext Low O sG w w'':=
 ⟨λb c=>k.own b (h.own b c),λb c=>(k.still b c).trans (h.still b c),λb c=>(k.mine b (h.own b c)).trans (h.mine b c),A6e h.size k.size⟩
theorem Keep.ext (h:Keep Low O w w'):Ext Low O O w w':=⟨λ_ h=>h,h.still,h.mine,h.size⟩
theorem Aff {w:World}{b:Nat}(c:b<w.heap.size)(ob:Obj):(w.alloc ob).heap[b]?=w.heap[b]?:=by
 simp only[World.alloc];rw[A81 c,A7v c]
theorem Ext.new (hl:Low<=w.heap.size)(d:∀b,O b->b<w.heap.size)(ob:Obj):Ext Low O (λb=>O b\/b=w.heap.size) w (w.alloc ob):=
 ⟨λ_ h=>.inl h,λb c=>Aff (A51 c hl) ob,λb c=>Aff (d b c) ob,by simp only[World.alloc,A84];omega⟩
end
structure Held (Low:Nat)(w₀:World)(O:Nat->Prop)(w:World):Prop where
 still:∀b,b<Low->w.heap[b]?=w₀.heap[b]?
 low:Low<=w.heap.size
 up:∀b,O b->b<w.heap.size
 os:w.os=w₀.os
 out:w.output=w₀.output
section
variable {Low : Nat}{w₀ w w' : World}{O O' : Nat -> Prop}
theorem Held.rely (h:Held Low w₀ O w)(c:Keep Low O w w'):Held Low w₀ O w':=⟨λb d=>(c.still b d).trans (h.still b d),A6e h.low c.size,λb d=>A51 (h.up b d) c.size,c.os.trans h.os,c.out.trans h.out⟩
theorem Held.new (h:Held Low w₀ O w)(ob:Obj):Held Low w₀ (λb=>O b\/b=w.heap.size) (w.alloc ob):=
 ⟨λb c=>(Aff (A51 c h.low) ob).trans (h.still b c),by simp only[World.alloc,A84];have:=h.low;omega,λb c=>by
  simp only[World.alloc,A84];rcases c with c | c
  ·have:=h.up b c;omega
  ·omega,h.os,h.out⟩
theorem Held.down (h:Held Low w₀ O w){b:Nat}(c:b<Low)(k:Nat):w.cell? ⟨b,k,none⟩=w₀.cell? ⟨b,k,none⟩:=by
 simp only[World.cell?,h.still b c]
theorem Held.ext (h:Held Low w₀ O w)(ob:Obj):Ext Low O (λb=>O b\/b=w.heap.size) w (w.alloc ob):=Ext.new h.low h.up ob
theorem Ext.cell (h:Ext Low O O' w w'){b:Nat}(c:O b\/b<Low)(k:Nat):w'.cell? ⟨b,k,none⟩=w.cell? ⟨b,k,none⟩:=by
 have :=c.elim (h.mine b) (h.still b);simp only[World.cell?,this]
theorem Af9 (w:World)(cs:Array Value)(ty:TypeId)(k:Nat):(w.alloc (.cells cs ty)).cell? ⟨w.heap.size,k,none⟩=cs[k]?:=by
 have:(w.alloc (.cells cs ty)).heap[w.heap.size]?=some (.cells cs ty):=by simp only[World.alloc];exact A8v
 simp only[World.cell?,this];rfl
theorem Gt {τ:Type}{P:Program}{main:Bool}{pre:τ->World->Prop}{ok:τ->(Nat->Prop)->World->Goroutine->Prop}{fn:FuncId}{Q:Vq τ}{a:Act}{x:τ}(T:OkL P main Low pre ok){ops:Array Oper}{i:Nat}{rest:List Nat}{o:Oper}{f:FuncId}{args:Array Operand}{d:Array TypeId}{vals:Array Value}{Post:Value->τ->(Nat->Prop)->World->Prop}
  (g:ops[i]?=some o) (k:Region.wanted o (yielded ops a.tmps)=true) (e:o.op=.call {callee:=.value (.func f),args,argTypes:=d})
  (h:Lc P ok f vals x O w Post) (n:args.map a.eval=vals) (m:∀v c O' w',Post v c O' w'->Uc ok fn ops rest Q (a.put o.dst v) c O' w'):Uc ok fn ops (i::rest) Q a x O w:=
 Awf T g k e (by rw[n];exact h) m
theorem boxed {w₁:World}(hF:Held Low w₀ O w)(d:Keep Low O w w₁)(cs:Array Value)(ty:TypeId):
  ∃c,c=(λb=>O b\/b=w₁.heap.size)/\Ext Low O c w (w₁.alloc (.cells cs ty))/\Held Low w₀ c (w₁.alloc (.cells cs ty))/\c w₁.heap.size/\Low<=w₁.heap.size/\
   ∀W,Keep Low c (w₁.alloc (.cells cs ty)) W->∀k,W.cell? ⟨w₁.heap.size,k,none⟩=cs[k]?:=
 ⟨_,rfl,d.ext.trans ((hF.rely d).ext _),(hF.rely d).new _, .inr rfl,(hF.rely d).low,λ_W e k=>(e.ext.cell (.inl (.inr rfl)) k).trans (Af9 _ _ _ _)⟩
end
section
variable {τ : Type}{P : Program}{main : Bool}{Low : Nat}{pre : τ -> World -> Prop}{ok : τ -> (Nat -> Prop) -> World -> Goroutine -> Prop}{fn : FuncId}{Q : Vq τ}{a : Act}{x : τ}{O : Nat -> Prop}{w w₀ : World}{ops : Array Oper}{i : Nat}{rest : List Nat}{o : Oper}
theorem kB (hF:Held Low w₀ O w)(cs:Array Value)(ty:TypeId)
  (h:∀O1 W1 b,Ext Low O O1 w W1->Held Low w₀ O1 W1->O1 b->Low<=b->Hid (∀W,Keep Low O1 W1 W->∀k,W.cell? ⟨b,k,none⟩=cs[k]?)->Uc ok fn ops rest Q (a.put o.dst (.pointer (some ⟨b,0,none⟩))) x O1 W1)
  (ho:ops[i]?=some o:=by rfl) (hw:Region.wanted o (yielded ops a.tmps)=true:=by rfl) (T:OkL P main Low pre ok:=by first | exact Bd _ _ _ | exact Bh _ _ _) (he:∀w₁:World,(execOp a.eval o).events P w₁ #[]=#[]:=by(intro _;simp[go_sem]))
  (hr:∀(w₁:World) (K:Act->World->Prop),K (a.put o.dst (.pointer (some ⟨w₁.heap.size,0,none⟩))) (w₁.alloc (.cells cs ty))->uponK o a K ((execOp a.eval o).run P w₁):=by(intro w₁ K hK;go_simp;exact hK)):Uc ok fn ops (i::rest) Q a x O w:=by
 refine Md T ho hw he λw₁ hR K hK=>hr w₁ K (hK _ _ ?_)
 obtain⟨O1,eO,h1,h2,h3,h4,h5⟩:=boxed hF hR cs ty;rw[<-eO];exact h O1 _ _ h1 h2 h3 h4 h5
theorem Aid {c d:Nat->Prop}{e h:World}{b:Nat}{f:Nat->Option Value}(H:Hid (∀W,Keep Low c e W->∀k,W.cell? ⟨b,k,none⟩=f k))(m:Ext Low c d e h)(g:c b):Hid (∀W,Keep Low d h W->∀k,W.cell? ⟨b,k,none⟩=f k):=λ_ n k=>(n.ext.cell (.inl (m.own _ g)) k).trans ((m.cell (.inl g) k).trans (H _ (Keep.refl _ _ _) k))
end
structure Put (b:Nat)(w w':World):Prop where
 rest:∀x,x≠b->w'.heap[x]?=w.heap[x]?
 size:w'.heap.size=w.heap.size
 tape:w'.tape=w.tape
 os:w'.os=w.os
 out:w'.output=w.output
theorem Put.refl (b:Nat)(w:World):Put b w w:=⟨λ_ _=>rfl,rfl,rfl,rfl,rfl⟩
theorem Put.set {b:Nat}{w w':World}(h:Put b w w')(o:Nat)(v:Value):Put b w (w'.setCell ⟨b,o,none⟩ v):=by
 refine⟨λx c=>?_,?_,h.tape,h.os,h.out⟩
 ·rw[<-h.rest x c]
  simp only[World.setCell];rw[A76];have:¬b=x:=λe=>c e.symm
  simp[this]
 ·rw[<-h.size];simp[World.setCell]
section
variable {τ : Type}{P : Program}{main : Bool}{Low : Nat}{pre : τ -> World -> Prop}{ok : τ -> (Nat -> Prop) -> World -> Goroutine -> Prop}{fn : FuncId}{Q : Vq τ}{a : Act}{x : τ}{O : Nat -> Prop}{w : World}
variable {ops : Array Oper}{i : Nat}{rest : List Nat}{o : Oper}
theorem Xa (T:OkL P main Low pre ok)(b:Nat)(p:O b)(n:ops[i]?=some o)(q:Region.wanted o (yielded ops a.tmps)=true)
  (g:∀w₁,Keep Low O w w₁->∀e∈(execOp a.eval o).events P w₁ #[],EvO Low O e)
  (h:∀w₁,Keep Low O w w₁->∀K:Act->World->Prop,(∀d w',Put b w₁ w'->Uc ok fn ops rest Q d x O w'->K d w')->uponK o a K ((execOp a.eval o).run P w₁)):Uc ok fn ops (i::rest) Q a x O w:=by
 refine Xb T n q λw₁ f _ K k=>?_
 have:=h w₁ f (λd w'=>Put b w₁ w'/\Uc ok fn ops rest Q d x O w') λd w' c h=>⟨c,h⟩
 refine uponK_mono (λd w' h=>?_) this;obtain⟨c,h⟩:=h;have e:grown O w₁ w'=O:=by
  funext y;apply propext;simp only[grown,c.size];constructor
  ·rintro(h | h)
   ·exact h
   ·omega
  ·exact .inl
 refine k _ _ ⟨⟨λy _ m=>c.rest y (λe=>m (e ▸ p)),Nat.le_of_eq c.size.symm,c.tape,c.os,c.out,λr s=>?_⟩,?_⟩
 ·rw[e];exact .inl (g _ f r (mem_listed s))
 ·rw[e];exact h
end
theorem A2e {τ:Type}{ok:τ->(Nat->Prop)->World->Goroutine->Prop}{fn:FuncId}{Q:Vq τ}{a:Act}{x:τ}{O:Nat->Prop}{w:World}{c:Code}{N:Act->τ->(Nat->Prop)->World->Prop}(M:Act->τ->(Nat->Prop)->World->Prop)
  (h:WpK ok fn c (U4 M Q) a x O w) (g:∀d f O' w',M d f O' w'->N d f O' w'):WpK ok fn c (U4 N Q) a x O w:=
 h.mono λe d f O' w' q=>by cases e<;>first | exact g _ _ _ _ q | exact q
theorem events_store_slice {P:Program}{w:World}{es:Array Event}{a:Addr}{m:Mode}(p:Option Addr)(n c:Nat):(store a (.slice p n c) m).events P w es=storedEv P w es a (.slice p n c) m:=events_store P w es a _ m rfl
section
variable {cs:Array Value}{ty:TypeId}{w₁:World}
variable {Low b : Nat}{w₀ w w' W : World}{O O' : Nat -> Prop}
theorem Ext.put (h:Ext Low O O' W w)(d:Put b w w')(hl:Low<=b)(e:∀x,O x->x≠b):Ext Low O O' W w':=
 ⟨h.own,λx c=>(d.rest x omz).trans (h.still x c),λx c=>(d.rest x (e x c)).trans (h.mine x c),A6e h.size (Nat.le_of_eq d.size.symm)⟩
theorem Held.put (h:Held Low w₀ O w)(c:Put b w w')(hl:Low<=b):Held Low w₀ O w':=
 ⟨λx d=>(c.rest x omz).trans (h.still x d),by rw[c.size];exact h.low,λx d=>by rw[c.size];exact h.up x d,c.os.trans h.os,c.out.trans h.out⟩
theorem Ext.rely (h:Ext Low O O' w W)(c:Keep Low O' W w₁):Ext Low O O' w w₁:=h.trans c.ext
theorem Al3 (hF:Held Low w₀ O w)(d:Keep Low O w w₁)(cs:Array Value)(ty:TypeId):
  ∃c,c=(λb=>O b\/b=w₁.heap.size)/\Ext Low O c w (w₁.alloc (.cells cs ty))/\Held Low w₀ c (w₁.alloc (.cells cs ty))/\c w₁.heap.size/\Low<=w₁.heap.size/\(∀x,O x->x≠w₁.heap.size)/\
   (w₁.alloc (.cells cs ty)).heap[w₁.heap.size]?=some (.cells cs ty):=by
 obtain⟨c,e,g,m,k,h,_⟩:=boxed hF d cs ty;refine⟨c,e,g,m,k,h,λx f=>?_,?_⟩
 ·have:=(hF.rely d).up x f
  omega
 ·simp only[World.alloc];exact A8v
theorem cell_of_heap {w:World}{b:Nat}{c:Nat × Nat}(h:w.heap[b]?=some (.cells cs ty c))(k:Nat):w.cell? ⟨b,k,none⟩=cs[k]?:=by
 simp only[World.cell?,h];rfl
theorem frozen_of_heap {w:World}{b:Nat}(h:w.heap[b]?=some (.cells cs ty))(k:Nat):w.frozen? ⟨b,k,none⟩=false:=by
 simp[World.frozen?,h]
theorem heap_setCell {w:World}{b:Nat}{c:Nat × Nat}(h:w.heap[b]?=some (.cells cs ty c))(o:Nat)(v:Value):(w.setCell ⟨b,o,none⟩ v).heap[b]?=some (.cells (cs.setIfInBounds o v) ty c):=by
 simp only[World.setCell];rw[A76,if_pos rfl,h];rfl
end
section
variable {a:Act}{fuel i j:Nat}{l:Array Bool}{o oi:Oper}{v:Value}
variable {τ : Type}{P : Program}{main : Bool}{Low : Nat}{pre : τ -> World -> Prop}{ok : τ -> (Nat -> Prop) -> World -> Goroutine -> Prop}{fn : FuncId}{Q : Vq τ}{x : τ}{O : Nat -> Prop}
variable {ops : Array Oper}{md : Region.Mode}{S : World -> Prop}{last : Nat}
def OpK (P:Program)(Low:Nat)(pre:τ->World->Prop)(fn:FuncId)(ops:Array Oper)(x:τ)(O:Nat->Prop)(i:Nat)(K:Act->World->Prop)(a:Act)(w:World):Prop:=
 match ops[i]? with
 | none=>False
 | some o=>if Region.wanted o (yielded ops a.tmps) then ∀w₁,Keep Low O w w₁->pre x w₁->uponK o a (λc w'=>(Ao1 Low O w₁ w' (listed P fn a o w₁)/\grown O w₁ w'=O)/\K c w') ((execOp a.eval o).run P w₁) else K (a.put o.dst undef) w
theorem Aqn {w:World}{K e:Act->World->Prop}(h:∀a w,K a w->e a w)(c:OpK P Low pre fn ops x O i K a w):OpK P Low pre fn ops x O i e a w:=by
 unfold OpK at*;split
 ·simp_all
 ·rename_i o f
  simp only[f] at c;split
  ·rename_i d;simp only[d,if_true] at c;exact λw₁ k g=>uponK_mono (λm w' z=>⟨z.1,h _ _ z.2⟩) (c w₁ k g)
  ·rename_i d;simp only[d] at c;exact h _ _ c
theorem Anl (T:OkL P main Low pre ok){rest:List Nat}{w:World}(h:OpK P Low pre fn ops x O i (λe w'=>Uc ok fn ops rest Q e x O w') a w):Uc ok fn ops (i::rest) Q a x O w:=by
 unfold OpK at h;split at h
 ·exact h.elim
 ·rename_i o d
  split at h
  ·rename_i c
   refine Xb T d c λw₁ f g K k=>uponK_mono (λe w' z=>?_) (h w₁ f g)
   exact k _ _ ⟨z.1.1,by rw[z.1.2];exact z.2⟩
  ·rename_i c;exact U9 T d (by simpa using c) h
def Qs (P:Program)(Low:Nat)(fn:FuncId)(ops:Array Oper)(S:World->Prop)(O:Nat->Prop)(o:Oper)(v:Value)(a:Act):Prop:=
 (Region.wanted o (yielded ops a.tmps)=true/\∀w,S w->(execOp a.eval o).run P w=.ok (.value v) w/\Ao1 Low O w w (listed P fn a o w))\/(Region.wanted o (yielded ops a.tmps)=false/\v=undef)
theorem Qs.of_same {c:Act}(e:Qs P Low fn ops S O o v a)(f:execOp c.eval o=execOp a.eval o)(d:Region.wanted o (yielded ops c.tmps)=Region.wanted o (yielded ops a.tmps)):Qs P Low fn ops S O o v c:=by
 unfold Qs listed at*;rw[f,d];exact e
variable (P Low pre ok fn ops md S last Q x O)
def Aqq:Nat->Array Bool->Act->World->Prop
 | 0,listed,a,w=>Region.ready md ops listed=[last]/\Uc ok fn ops [last] Q a x O w
 | fuel+1,listed,a,w=>last∉Region.ready md ops listed/\Region.ready md ops listed≠[]/\∀i∈Region.ready md ops listed,OpK P Low pre fn ops x O i (λc w'=>S w'/\Aqq fuel (listed.setIfInBounds i true) c w') a w
variable {P Low pre ok fn ops md S last Q x O}
theorem Aqq.rely (T:OkL P main Low pre ok)(d:∀u v,S u->Keep Low O u v->S v):
  ∀(fuel:Nat) (listed:Array Bool) (a:Act) (w w₁:World),Aqq P Low pre ok fn Q x O ops md S last fuel listed a w->Keep Low O w w₁->Aqq P Low pre ok fn Q x O ops md S last fuel listed a w₁
 | 0,_,_,_,_,h,r=>⟨h.1,h.2.rely T r⟩
 | fuel+1,listed,a,w,w₁,h,r=>⟨h.1,h.2.1,λi hi=>by
   have:=h.2.2 i hi
   unfold OpK at*;split
   ·simp_all
   ·rename_i o f
    simp only[f] at this;split
    ·rename_i c;simp only[c,if_true] at this;exact λe g=>this e (r.trans g)
    ·rename_i c;simp only[c] at this;exact⟨d _ _ this.1 r,Aqq.rely T d fuel _ _ _ _ this.2 r⟩⟩
theorem Atv (T:OkL P main Low pre ok):∀(fuel t:Nat) (listed:Array Bool) (a:Act) (w:World),Aqq P Low pre ok fn Q x O ops md S last fuel listed a w->
  Uc ok fn ops (Region.linearise.go md ops (fuel+1) t listed []) Q a x O w:=by
 intro fuel;induction fuel with
 | zero=>
  intro t listed a w h;simp only[Region.linearise.go]
  change Uc ok fn ops (match (Region.ready md ops listed)[t % (Region.ready md ops listed).length]? with
   | some i=>Region.linearise.go md ops 0 (t / (Region.ready md ops listed).length) (listed.setIfInBounds i true) [i]
   | none=>[].reverse) Q a x O w
  rw[h.1];simp[Nat.mod_one,Region.linearise.go];exact h.2
 | succ fuel k=>
  intro t listed a w h;obtain⟨_,g,m⟩:=h;rw[Region.linearise.go]
  change Uc ok fn ops (match (Region.ready md ops listed)[t % (Region.ready md ops listed).length]? with
   | some i=>Region.linearise.go md ops (fuel+1) (t / (Region.ready md ops listed).length) (listed.setIfInBounds i true) [i]
   | none=>[].reverse) Q a x O w
  cases hi:(Region.ready md ops listed)[t % (Region.ready md ops listed).length]? with
  | none=>
   exfalso;apply g;cases f:Region.ready md ops listed with
   | nil=>rfl
   | cons y c=>
    rw[f] at hi;have e:t % (y::c).length<(y::c).length:=Nat.mod_lt _ spz;simp at hi;simp at e;omega
  | some i=>
   simp only[];rw[linearise_go_acc,List.reverse_singleton,List.singleton_append];exact Anl T (Aqn (λd w' z=>k _ _ d w' z.2) (m i (A7w hi)))
theorem Qs.opK (f:∀u v,S u->Keep Low O u v->S v)(hi:ops[i]?=some o)(g:Qs P Low fn ops S O o v a){K:Act->World->Prop}(k:∀a u v,K a u->Keep Low O u v->K a v){w:World}(hS:S w)(h:K (a.put o.dst v) w):
  OpK P Low pre fn ops x O i K a w:=by
 unfold OpK;simp only[hi];rcases g with⟨c,e⟩ | ⟨c,rfl⟩
 ·simp only[c,if_true]
  intro w₁ d _;rw[(e w₁ (f _ _ hS d)).1];exact⟨⟨(e w₁ (f _ _ hS d)).2,Jg _ _⟩,k _ _ _ h d⟩
 ·simp only[c,A58,A7k];exact h
theorem Ayu {c:Oper}(t:ops[j]?=some c)(A:oi.apart ops c=true)(s:∀cs b,oi.op≠.select cs b)(p:∀cs b,c.op≠.select cs b){K:Act->World->Prop}{w:World}
  (d:Qs P Low fn ops S O oi v a) (h:OpK P Low pre fn ops x O j K (a.put oi.dst v) w):OpK P Low pre fn ops x O j (λg w'=>Qs P Low fn ops S O oi v g/\K (g.put oi.dst v) w') a w:=by
 obtain⟨k,f,m⟩:=Oper.apart_spec A;have keep:∀(a:Act),Qs P Low fn ops S O oi v a->∀u,Qs P Low fn ops S O oi v (a.put c.dst u):=λa d u=>d.of_same (execOp_put oi s a c.dst u m) (wanted_put oi a c.dst u m)
 unfold OpK at*;simp only[t] at*;rw[wanted_put c a oi.dst v k] at h;split
 ·rename_i e
  simp only[e,if_true] at h;intro w₁ y q;have h:=h w₁ y q;unfold listed at*;rw[execOp_put c p a oi.dst v k] at h;generalize (execOp a.eval c).run P w₁=r at*;cases r with
  | ok n w'=>
   cases n<;>simp only[uponK] at h ⊢
   case value u=>exact⟨h.1,keep a d u,by rw[<-Act.put_comm a v u f];exact h.2⟩
   case skip=>exact⟨h.1,keep a d _,by rw[<-Act.put_comm a v undef f];exact h.2⟩
  | halt z w'=>simp only[uponK] at h
 ·rename_i e
  simp only[e] at h;exact⟨keep a d _,by rw[<-Act.put_comm a v undef f];exact h⟩
def Xt (md:Region.Mode)(ops:Array Oper)(l:Array Bool):Prop:=∀j o,ops[j]?=some o->l.getD j false=true->∀e∈o.after,Region.binds md e=true->l.getD e.on false=true
theorem Ail (h:j<l.size):(l.setIfInBounds j true).getD j false=true:=by simp[h]
theorem Yx {k:Nat}(h:j≠k)(d:Bool):(l.setIfInBounds j true).getD k d=l.getD k d:=getD_set_ne d h
theorem Xt.set (h:Xt md ops l)(r:j∈Region.ready md ops l):Xt md ops (l.setIfInBounds j true):=by
 intro k o p m e f q;have key:l.getD e.on false=true:=by
  by_cases d:j=k
  ·subst d
   obtain⟨_,y,n,u⟩:=mem_ready.1 r;rw[p] at n;cases n;exact u e f q
  ·rw[Yx d] at m
   exact h k o p m e f q
 by_cases g:j=e.on
 ·have t:j<l.size:=by
   have s:=(mem_ready.1 r).1;rcases A70 j l.size with c | c
   ·exact c
   ·simp[A8n c] at s
  rw[<-g];exact Ail t
 ·rw[Yx g];exact key
def Ai0 (md:Region.Mode)(ops:Array Oper)(l:Array Bool):Bool:=(List.range ops.size).all λj=>!(l.getD j false) || ((ops[j]?).all λo=>o.after.toList.all λe=>!(Region.binds md e) || l.getD e.on false)
theorem Ae6:Ai0 md ops l=true↔Xt md ops l:=by
 unfold Ai0 Xt;rw[List.all_eq_true];constructor
 ·intro h j o c g e f d
  have k:=(Array.getElem?_eq_some_iff.1 c).1;have:=h j (List.mem_range.2 k)
  rw[g,c] at this;simp only[A82,Bool.false_or,Option.all_some,List.all_eq_true] at this;have:=this e (Array.mem_toList_iff.2 f)
  rw[d] at this;simpa using this
 ·intro h j m
  cases g:l.getD j false with
  | false=>rfl
  | true=>
   simp only[A82,Bool.false_or];cases c:ops[j]? with
   | none=>rfl
   | some o=>
    simp only[Option.all_some,List.all_eq_true];intro e f;cases d:Region.binds md e with
    | false=>rfl
    | true=>rw[h j o c g e (Array.mem_toList_iff.1 f) d];rfl
theorem Atw (T:OkL P main Low pre ok)(n:∀u v,S u->Keep Low O u v->S v)(hi:ops[i]?=some oi)(F:∀(j:Nat) (o:Oper) cs b,ops[j]?=some o->o.op≠.select cs b):
  ∀(fuel:Nat) (listed:Array Bool) (a:Act) (w:World),(∀l:Array Bool,l.size=listed.size->Xt md ops l->l.getD i true=false->last∉Region.ready md ops l)->Xt md ops listed->
   (∀j f,ops[j]?=some f->j≠i->listed.getD j true=false->(∀e∈f.after,Region.binds md e=true->e.on≠i)->oi.apart ops f=true)->
   i∈Region.ready md ops listed->Qs P Low fn ops S O oi v a->S w->
   Aqq P Low pre ok fn Q x O ops md S last fuel (listed.setIfInBounds i true) (a.put oi.dst v) w->Aqq P Low pre ok fn Q x O ops md S last (fuel+1) listed a w:=by
 have C:∀fuel listed,∀a u v,(S u/\Aqq P Low pre ok fn Q x O ops md S last fuel listed a u)->Keep Low O u v->(S v/\Aqq P Low pre ok fn Q x O ops md S last fuel listed a v):=
  λfuel listed a u v h r=>⟨n _ _ h.1 r,Aqq.rely T n fuel listed a u v h.2 r⟩
 intro fuel;induction fuel with
 | zero=>
  intro listed a w s q _ c p hS H;have A:=s listed rfl q (mem_ready.1 c).1;refine⟨A,λh=>(by rw[h] at c;cases c),λj m=>?_⟩;by_cases d:j=i
  ·subst d;exact p.opK n hi (C _ _) hS ⟨hS,H⟩
  ·have:=ready_mono m d
   rw[H.1] at this;rw[List.mem_singleton.1 this] at m;exact absurd m A
 | succ fuel X=>
  intro listed a w s q B c p hS H;refine⟨s listed rfl q (mem_ready.1 c).1,λh=>(by rw[h] at c;cases c),λj m=>?_⟩;by_cases d:j=i
  ·subst d;exact p.opK n hi (C _ _) hS ⟨hS,H⟩
  ·have g:=H.2.2 j (ready_mono m d)
   obtain⟨I,f,y,V⟩:=mem_ready.1 m;have K:∀e∈f.after,Region.binds md e=true->e.on≠i:=λe J R aa=>by
    have g:=V e J R;have E:=(mem_ready.1 c).1;rw[aa] at g;rcases A70 i listed.size with z | z
    ·simp[z] at E g;rw[E] at g;cases g
    ·simp[A8n z] at g
   have h2:=Ayu y (B j f y d I K) (λcs b=>F i oi cs b hi) (λcs b=>F j f cs b y) p g;have L:∀k ok,ops[k]?=some ok->k≠i->(listed.setIfInBounds j true).getD k true=false->(∀e∈ok.after,Region.binds md e=true->e.on≠i)->oi.apart ops ok=true:=λk ok N U G Y=>by
    refine B k ok N U ?_ Y;by_cases D:j=k
    ·subst D;exact I
    ·rw[getD_set_ne true D] at G;exact G
   refine Aqn (λM w' t=>⟨t.2.1,X (listed.setIfInBounds j true) M w' (λl Z=>s l (by rw[Z];simp)) (q.set m) L (ready_mono c (Ne.symm d)) t.1 t.2.1 ?_⟩) h2;rw[Array.setIfInBounds_comm _ _ d];exact t.2.2
def allB:Nat->List (Array Bool)
 | 0=>[#[]]
 | n+1=>(allB n).flatMap λl=>[l.push false,l.push true]
theorem Apq:∀(n:Nat) (l:Array Bool),l.size=n->l∈allB n
 | 0,l,h=>by simp[allB];exact Array.size_eq_zero_iff.1 h
 | n+1,l,h=>by
  simp only[allB,List.mem_flatMap];refine⟨l.pop,Apq n _ (by simp[h]),?_⟩;have g:l.size≠0:=omz
  have e:l=l.pop.push (l[l.size - 1]'omz):=by
   apply Array.ext
   ·simp;omega
   ·intro i d f
    by_cases hi:i<l.size - 1
    ·rw[Array.getElem_push_lt (by simpa using hi)];simp
    ·have:i=l.size - 1:=by omega
     subst this;rw[Array.getElem_push];simp
  cases c:l[l.size - 1]'omz with
  | false=>rw[c] at e;rw[e];simp
  | true=>rw[c] at e;rw[e];simp
def waits (md:Region.Mode)(ops:Array Oper)(last i n:Nat):Bool:=(allB n).all λl=>!(Ai0 md ops l) || (l.getD i true || !(Region.ready md ops l).contains last)
theorem Aqr {n:Nat}(h:waits md ops last i n=true):∀l:Array Bool,l.size=n->Xt md ops l->l.getD i true=false->last∉Region.ready md ops l:=by
 intro l e d c f;have:=List.all_eq_true.1 h l (Apq n l e)
 rw[c,Ae6.2 d] at this;simp at this;exact this f
theorem Uw (T:OkL P main Low pre ok)(f:∀u v,S u->Keep Low O u v->S v){listed:Array Bool}{w:World}(hi:ops[i]?=some oi)
  (hl:waits md ops last i listed.size=true) (e:Ai0 md ops listed=true) (d:Region.noSelect ops=true) (c:Region.free md ops listed i=true) (hr:(Region.ready md ops listed).contains i=true) (g:Qs P Low fn ops S O oi v a) (hS:S w)
  (h:Aqq P Low pre ok fn Q x O ops md S last fuel (listed.setIfInBounds i true) (a.put oi.dst v) w):Aqq P Low pre ok fn Q x O ops md S last (fuel+1) listed a w:=
 Atw T f hi (Region.noSelect_spec d) fuel listed a w (Aqr hl) (Ae6.1 e) (Region.free_spec hi c) (by simpa using hr) g hS h
theorem Adh (T:OkL P main Low pre ok){c:Nat}{w:World}(S:World->Prop)(last:Nat)(q:P.follows .mixedOrders=true)(d:ops.size=fuel+1)
  (h:∀w₁,Keep Low O w w₁->Aqq P Low pre ok fn Q x O ops .any S last fuel (Array.replicate ops.size false) a {w₁ with drawn:=w₁.drawn+1}):WpK ok fn (.region c ops true) Q a x O w:=by
 intro b k cs m g f;refine T.own rfl λw₁ n _=>⟨_,_,_,stepG_region_draw,rfl,⟨λ_ _ _=>rfl,A57 _,rfl,rfl,rfl,spz⟩,?_⟩
 have e:grown O w₁ {w₁ with drawn:=w₁.drawn+1}=O:=Jg O w₁;rw[e];have:=Atv T fuel (w₁.tape w₁.drawn (.order b.fn c)) (Array.replicate ops.size false) a _ (h w₁ n) b k cs m g f
 simp only[Region.schedule,q,Bool.true_or,if_true];simp only[Region.linearise,d] at this ⊢;exact this
end
end Go.Co
