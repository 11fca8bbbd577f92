import Derived.Test.YtifcnfeppdbjdaaGreatDoorCE3b
namespace Go.Co
open Go.Conc Go.RowKit
structure C0 (Low:Nat)(O O':Nat->Prop)(w w':World):Prop where
 own:∀b,O b->O' b
 still:∀b,b<Low->w'.heap[b]?=w.heap[b]?
 mine:∀b,O b->w'.heap[b]?=w.heap[b]?
 size:w.heap.size<=w'.heap.size
section
variable {Low : Nat}{w₀ w w' w'' : World}{bs : List (Nat × Obj)}{O O' vJ : Nat -> Prop}
theorem C0.refl (Low:Nat)(O:Nat->Prop)(w:World):C0 Low O O w w:=⟨λ_ h=>h,λ_ _=>rfl,λ_ _=>rfl,CG _⟩
theorem C0.trans (h:C0 Low O O' w w')(k:C0 Low O' vJ w' w''):C0 Low O vJ w w'':=
 ⟨λb c=>k.own b (h.own b c),λb c=>(k.still b c).trans (h.still b c),λb c=>(k.mine b (h.own b c)).trans (h.mine b c),CJ h.size k.size⟩
theorem Keep.ext (h:Keep Low O w w'):C0 Low O O w w':=⟨λ_ h=>h,h.still,h.mine,h.size⟩
theorem PK {w:World}{b:Nat}(c:b<w.heap.size)(ob:Obj):(w.alloc ob).heap[b]?=w.heap[b]?:=by
 simp only[World.alloc];rw[RJ c,JI c]
theorem C0.new (hl:Low<=w.heap.size)(d:∀b,O b->b<w.heap.size)(ob:Obj):C0 Low O (λb=>O b\/b=w.heap.size) w (w.alloc ob):=
 ⟨λ_ h=>.inl h,λb c=>PK (CB c hl) ob,λb c=>PK (d b c) ob,by simp only[World.alloc,K0];omega⟩
end
structure Held (Low:Nat)(w₀:World)(O:Nat->Prop)(w:World):Prop where
 still:∀b,b<Low->w.heap[b]?=w₀.heap[b]?
 low:Low<=w.heap.size
 up:∀b,O b->b<w.heap.size
 os:w.os=w₀.os
 out:w.output=w₀.output
section
variable {Low : Nat}{w₀ w w' : World}{O O' : Nat -> Prop}
theorem Held.rely (h:Held Low w₀ O w)(c:Keep Low O w w'):Held Low w₀ O w':=⟨λb d=>(c.still b d).trans (h.still b d),CJ h.low c.size,λb d=>CB (h.up b d) c.size,c.os.trans h.os,c.out.trans h.out⟩
theorem Held.new (h:Held Low w₀ O w)(ob:Obj):Held Low w₀ (λb=>O b\/b=w.heap.size) (w.alloc ob):=
 ⟨λb c=>(PK (CB c h.low) ob).trans (h.still b c),by simp only[World.alloc,K0];have:=h.low;omega,λb c=>by
  simp only[World.alloc,K0];rcases c with c | c
  ·have:=h.up b c;omega
  ·omega,h.os,h.out⟩
theorem Held.down (h:Held Low w₀ O w){b:Nat}(c:b<Low)(k:Nat):w.cell? (AK b k)=w₀.cell? (AK b k):=by
 simp only[World.cell?,h.still b c]
theorem Held.ext (h:Held Low w₀ O w)(ob:Obj):C0 Low O (λb=>O b\/b=w.heap.size) w (w.alloc ob):=C0.new h.low h.up ob
theorem C0.cell (h:C0 Low O O' w w'){b:Nat}(c:O b\/b<Low)(k:Nat):w'.cell? (AK b k)=w.cell? (AK b k):=by
 have :=c.elim (h.mine b) (h.still b);simp only[World.cell?,this]
theorem pQ (w:World)(cs:Array Value)(ty:TypeId)(k:Nat):(w.alloc (.cells cs ty)).cell? (AL w k)=cs[k]?:=by
 have:(w.alloc (.cells cs ty)).heap[w.heap.size]?=some (.cells cs ty):=by simp only[World.alloc];exact M3
 simp only[World.cell?,this];rfl
theorem Hr {τ:Type}{P:Program}{main:Bool}{pre:τ->World->Prop}{ok:τ->(Nat->Prop)->World->Goroutine->Prop}{fn:FuncId}{Q:Xi τ}{a:Act}{x:τ}(T:OkL P main Low pre ok){ops:Array Oper}{i:Nat}{rest:List Nat}{o:Oper}{f:FuncId}{args:Array Operand}{d:Array TypeId}{vals:Array Value}{Post:Value->τ->(Nat->Prop)->World->Prop}
  (g:ops[i]?=some o) (n:Region.wanted o (yielded ops a.tmps)=true) (m:o.op=.call {callee:=.value (.func f),args,argTypes:=d})
  (h:Nj P ok f vals x O w Post) (e:args.map a.eval=vals) (k:∀v c O' w',Post v c O' w'->Vh ok fn ops rest Q (a.put o.dst v) c O' w'):Vh ok fn ops (i::rest) Q a x O w:=
 Ayu T g n m (by rw[e];exact h) k
theorem boxed {w₁:World}(hF:Held Low w₀ O w)(d:Keep Low O w w₁)(cs:Array Value)(ty:TypeId):
  ∃c,c=(λb=>O b\/b=w₁.heap.size)/\C0 Low O c w (w₁.alloc (.cells cs ty))/\Held Low w₀ c (w₁.alloc (.cells cs ty))/\c w₁.heap.size/\Low<=w₁.heap.size/\
   ∀W,Keep Low c (w₁.alloc (.cells cs ty)) W->∀k,W.cell? ⟨w₁.heap.size,k,none⟩=cs[k]?:=
 ⟨_,rfl,d.ext.trans ((hF.rely d).ext _),(hF.rely d).new _, .inr rfl,(hF.rely d).low,λ_W e k=>(e.ext.cell (.inl (.inr rfl)) k).trans (pQ _ _ _ _)⟩
end
section
variable {τ : Type}{P : Program}{main : Bool}{Low : Nat}{pre : τ -> World -> Prop}{ok : τ -> (Nat -> Prop) -> World -> Goroutine -> Prop}{fn : FuncId}{Q : Xi τ}{a : Act}{x : τ}{O : Nat -> Prop}{w w₀ : World}{ops : Array Oper}{i : Nat}{rest : List Nat}{o : Oper}
theorem kB (hF:Held Low w₀ O w)(cs:Array Value)(ty:TypeId)
  (h:∀O1 W1 b,C0 Low O O1 w W1->Held Low w₀ O1 W1->O1 b->Low<=b->Hid (∀W,Keep Low O1 W1 W->∀k,W.cell? (AK b k)=cs[k]?)->Vh ok fn ops rest Q (a.put o.dst (AH b)) x O1 W1)
  (ho:ops[i]?=some o:=by rfl) (hw:Region.wanted o (yielded ops a.tmps)=true:=by rfl) (T:OkL P main Low pre ok:=by first | exact Ba _ _ _ | exact Bh _ _ _) (he:∀w₁:World,(execOp a.eval o).events P w₁ #[]=#[]:=by(intro _;simp[go_sem]))
  (hr:∀(w₁:World) (K:Act->World->Prop),K (a.put o.dst (AH w₁.heap.size)) (w₁.alloc (.cells cs ty))->uponK o a K ((execOp a.eval o).run P w₁):=by(intro w₁ K hK;go_simp;exact hK)):Vh ok fn ops (i::rest) Q a x O w:=by
 refine Oa T ho hw he λw₁ hR K hK=>hr w₁ K (hK _ _ ?_)
 obtain⟨O1,eO,h1,h2,h3,h4,h5⟩:=boxed hF hR cs ty;rw[<-eO];exact h O1 _ _ h1 h2 h3 h4 h5
theorem Ge {c e:Nat->Prop}{h d:World}{b:Nat}{f:Nat->Option Value}(H:Hid (∀W,Keep Low c h W->∀k,W.cell? (AK b k)=f k))(m:C0 Low c e h d)(g:c b):Hid (∀W,Keep Low e d W->∀k,W.cell? (AK b k)=f k):=λ_ n k=>(n.ext.cell (.inl (m.own _ g)) k).trans ((m.cell (.inl g) k).trans (H _ (Keep.refl _ _ _) k))
end
structure EJ (b:Nat)(w w':World):Prop where
 rest:∀x,x≠b->w'.heap[x]?=w.heap[x]?
 size:w'.heap.size=w.heap.size
 tape:w'.tape=w.tape
 os:w'.os=w.os
 out:w'.output=w.output
theorem EJ.refl (b:Nat)(w:World):EJ b w w:=⟨λ_ _=>rfl,rfl,rfl,rfl,rfl⟩
theorem EJ.set {b:Nat}{w w':World}(h:EJ b w w')(o:Nat)(v:Value):EJ b w (w'.setCell (AK b o) v):=by
 refine⟨λx c=>?_,?_,h.tape,h.os,h.out⟩
 ·rw[<-h.rest x c]
  simp only[World.setCell];rw[JG];have:¬b=x:=λe=>c e.symm
  simp[this]
 ·rw[<-h.size];simp[World.setCell]
section
variable {τ : Type}{P : Program}{main : Bool}{Low : Nat}{pre : τ -> World -> Prop}{ok : τ -> (Nat -> Prop) -> World -> Goroutine -> Prop}{fn : FuncId}{Q : Xi τ}{a : Act}{x : τ}{O : Nat -> Prop}{w : World}
variable {ops : Array Oper}{i : Nat}{rest : List Nat}{o : Oper}
theorem Yd (T:OkL P main Low pre ok)(b:Nat)(p:O b)(m:ops[i]?=some o)(q:Region.wanted o (yielded ops a.tmps)=true)
  (r:∀w₁,Keep Low O w w₁->∀e∈(execOp a.eval o).events P w₁ #[],EvO Low O e)
  (h:∀w₁,Keep Low O w w₁->∀K:Act->World->Prop,(∀d w',EJ b w₁ w'->Vh ok fn ops rest Q d x O w'->K d w')->uponK o a K ((execOp a.eval o).run P w₁)):Vh ok fn ops (i::rest) Q a x O w:=by
 refine Ye T m q λw₁ f _ K s=>?_
 have:=h w₁ f (λd w'=>EJ b w₁ w'/\Vh ok fn ops rest Q d x O w') λd w' c h=>⟨c,h⟩
 refine uponK_mono (λd w' h=>?_) this;obtain⟨c,h⟩:=h;have e:grown O w₁ w'=O:=by
  funext y;apply propext;simp only[grown,c.size];constructor
  ·rintro(h | h)
   ·exact h
   ·omega
  ·exact .inl
 refine s _ _ ⟨⟨λy _ k=>c.rest y (λe=>k (e ▸ p)),Nat.le_of_eq c.size.symm,c.tape,c.os,c.out,λg n=>?_⟩,?_⟩
 ·rw[e];exact .inl (r _ f g (mem_listed n))
 ·rw[e];exact h
end
theorem jt {τ:Type}{ok:τ->(Nat->Prop)->World->Goroutine->Prop}{fn:FuncId}{Q:Xi τ}{a:Act}{x:τ}{O:Nat->Prop}{w:World}{c:Code}{N:Act->τ->(Nat->Prop)->World->Prop}(M:Act->τ->(Nat->Prop)->World->Prop)
  (h:WpK ok fn c (Wh M Q) a x O w) (g:∀d f O' w',M d f O' w'->N d f O' w'):WpK ok fn c (Wh N Q) a x O w:=
 h.mono λe d f O' w' q=>by cases e<;>first | exact g _ _ _ _ q | exact q
theorem events_store_slice {P:Program}{w:World}{es:Array Event}{a:Addr}{m:Mode}(p:Option Addr)(n c:Nat):(store a (AE p n c) m).events P w es=storedEv P w es a (AE p n c) m:=events_store P w es a _ m rfl
section
variable {cs:Array Value}{ty:TypeId}{w₁:World}
variable {Low b : Nat}{w₀ w w' W : World}{O O' : Nat -> Prop}
theorem C0.put (h:C0 Low O O' W w)(d:EJ b w w')(hl:Low<=b)(e:∀x,O x->x≠b):C0 Low O O' W w':=
 ⟨h.own,λx c=>(d.rest x AQ).trans (h.still x c),λx c=>(d.rest x (e x c)).trans (h.mine x c),CJ h.size (Nat.le_of_eq d.size.symm)⟩
theorem Held.put (h:Held Low w₀ O w)(c:EJ b w w')(hl:Low<=b):Held Low w₀ O w':=
 ⟨λx d=>(c.rest x AQ).trans (h.still x d),by rw[c.size];exact h.low,λx d=>by rw[c.size];exact h.up x d,c.os.trans h.os,c.out.trans h.out⟩
theorem C0.rely (h:C0 Low O O' w W)(c:Keep Low O' W w₁):C0 Low O O' w w₁:=h.trans c.ext
theorem KU (hF:Held Low w₀ O w)(d:Keep Low O w w₁)(cs:Array Value)(ty:TypeId):
  ∃c,c=(λb=>O b\/b=w₁.heap.size)/\C0 Low O c w (w₁.alloc (.cells cs ty))/\Held Low w₀ c (w₁.alloc (.cells cs ty))/\c w₁.heap.size/\Low<=w₁.heap.size/\(∀x,O x->x≠w₁.heap.size)/\
   (w₁.alloc (.cells cs ty)).heap[w₁.heap.size]?=some (.cells cs ty):=by
 obtain⟨c,e,g,k,f,m,_⟩:=boxed hF d cs ty;refine⟨c,e,g,k,f,m,λx h=>?_,?_⟩
 ·have:=(hF.rely d).up x h
  omega
 ·simp only[World.alloc];exact M3
theorem cell_of_heap {w:World}{b:Nat}{c:Nat × Nat}(h:w.heap[b]?=some (.cells cs ty c))(k:Nat):w.cell? (AK b k)=cs[k]?:=by
 simp only[World.cell?,h];rfl
theorem frozen_of_heap {w:World}{b:Nat}(h:w.heap[b]?=some (.cells cs ty))(k:Nat):w.frozen? (AK b k)=false:=by
 simp[World.frozen?,h]
theorem heap_setCell {w:World}{b:Nat}{c:Nat × Nat}(h:w.heap[b]?=some (.cells cs ty c))(o:Nat)(v:Value):(w.setCell (AK b o) v).heap[b]?=some (.cells (cs.setIfInBounds o v) ty c):=by
 simp only[World.setCell];rw[JG,if_pos rfl,h];rfl
end
section
variable {a:Act}{fuel i j:Nat}{l:Array Bool}{o oi:Oper}{v:Value}
variable {τ : Type}{P : Program}{main : Bool}{Low : Nat}{pre : τ -> World -> Prop}{ok : τ -> (Nat -> Prop) -> World -> Goroutine -> Prop}{fn : FuncId}{Q : Xi τ}{x : τ}{O : Nat -> Prop}
variable {ops : Array Oper}{md : Region.Mode}{S : World -> Prop}{last : Nat}
def OpK (P:Program)(Low:Nat)(pre:τ->World->Prop)(fn:FuncId)(ops:Array Oper)(x:τ)(O:Nat->Prop)(i:Nat)(K:Act->World->Prop)(a:Act)(w:World):Prop:=
 match ops[i]? with
 | none=>False
 | some o=>if Region.wanted o (yielded ops a.tmps) then ∀w₁,Keep Low O w w₁->pre x w₁->uponK o a (λc w'=>(EY Low O w₁ w' (listed P fn a o w₁)/\grown O w₁ w'=O)/\K c w') ((execOp a.eval o).run P w₁) else K (a.put o.dst undef) w
theorem Z6 {w:World}{K e:Act->World->Prop}(h:∀a w,K a w->e a w)(c:OpK P Low pre fn ops x O i K a w):OpK P Low pre fn ops x O i e a w:=by
 unfold OpK at*;split
 ·simp_all
 ·rename_i o g
  simp only[g] at c;split
  ·rename_i d;simp only[d,if_true] at c;exact λw₁ k f=>uponK_mono (λm w' z=>⟨z.1,h _ _ z.2⟩) (c w₁ k f)
  ·rename_i d;simp only[d] at c;exact h _ _ c
theorem tU (T:OkL P main Low pre ok){rest:List Nat}{w:World}(h:OpK P Low pre fn ops x O i (λd w'=>Vh ok fn ops rest Q d x O w') a w):Vh ok fn ops (i::rest) Q a x O w:=by
 unfold OpK at h;split at h
 ·exact h.elim
 ·rename_i o e
  split at h
  ·rename_i c
   refine Ye T e c λw₁ g f K k=>uponK_mono (λd w' z=>?_) (h w₁ g f)
   exact k _ _ ⟨z.1.1,by rw[z.1.2];exact z.2⟩
  ·rename_i c;exact Ws T e (by simpa using c) h
def Sl (P:Program)(Low:Nat)(fn:FuncId)(ops:Array Oper)(S:World->Prop)(O:Nat->Prop)(o:Oper)(v:Value)(a:Act):Prop:=
 (Region.wanted o (yielded ops a.tmps)=true/\∀w,S w->(execOp a.eval o).run P w=.ok (.value v) w/\EY Low O w w (listed P fn a o w))\/(Region.wanted o (yielded ops a.tmps)=false/\v=undef)
theorem Sl.of_same {c:Act}(d:Sl P Low fn ops S O o v a)(f:execOp c.eval o=execOp a.eval o)(e:Region.wanted o (yielded ops c.tmps)=Region.wanted o (yielded ops a.tmps)):Sl P Low fn ops S O o v c:=by
 unfold Sl listed at*;rw[f,e];exact d
variable (P Low pre ok fn ops md S last Q x O)
def E3:Nat->Array Bool->Act->World->Prop
 | 0,listed,a,w=>Region.ready md ops listed=[last]/\Vh ok fn ops [last] Q a x O w
 | fuel+1,listed,a,w=>last∉Region.ready md ops listed/\Region.ready md ops listed≠[]/\∀i∈Region.ready md ops listed,OpK P Low pre fn ops x O i (λc w'=>S w'/\E3 fuel (listed.setIfInBounds i true) c w') a w
variable {P Low pre ok fn ops md S last Q x O}
theorem E3.rely (T:OkL P main Low pre ok)(d:∀u v,S u->Keep Low O u v->S v):
  ∀(fuel:Nat) (listed:Array Bool) (a:Act) (w w₁:World),E3 P Low pre ok fn Q x O ops md S last fuel listed a w->Keep Low O w w₁->E3 P Low pre ok fn Q x O ops md S last fuel listed a w₁
 | 0,_,_,_,_,h,r=>⟨h.1,h.2.rely T r⟩
 | fuel+1,listed,a,w,w₁,h,r=>⟨h.1,h.2.1,λi hi=>by
   have:=h.2.2 i hi
   unfold OpK at*;split
   ·simp_all
   ·rename_i o e
    simp only[e] at this;split
    ·rename_i c;simp only[c,if_true] at this;exact λg f=>this g (r.trans f)
    ·rename_i c;simp only[c] at this;exact⟨d _ _ this.1 r,E3.rely T d fuel _ _ _ _ this.2 r⟩⟩
theorem Awl (T:OkL P main Low pre ok):∀(fuel t:Nat) (listed:Array Bool) (a:Act) (w:World),E3 P Low pre ok fn Q x O ops md S last fuel listed a w->
  Vh ok fn ops (Region.linearise.go md ops (fuel+1) t listed []) Q a x O w:=by
 intro fuel;induction fuel with
 | zero=>
  intro t listed a w h;simp only[Region.linearise.go]
  change Vh ok fn ops (match (Region.ready md ops listed)[t % (Region.ready md ops listed).length]? with
   | some i=>Region.linearise.go md ops 0 (t / (Region.ready md ops listed).length) (listed.setIfInBounds i true) [i]
   | none=>[].reverse) Q a x O w
  rw[h.1];simp[Nat.mod_one,Region.linearise.go];exact h.2
 | succ fuel k=>
  intro t listed a w h;obtain⟨_,m,e⟩:=h;rw[Region.linearise.go]
  change Vh ok fn ops (match (Region.ready md ops listed)[t % (Region.ready md ops listed).length]? with
   | some i=>Region.linearise.go md ops (fuel+1) (t / (Region.ready md ops listed).length) (listed.setIfInBounds i true) [i]
   | none=>[].reverse) Q a x O w
  cases hi:(Region.ready md ops listed)[t % (Region.ready md ops listed).length]? with
  | none=>
   exfalso;apply m;cases d:Region.ready md ops listed with
   | nil=>rfl
   | cons y c=>
    rw[d] at hi;have f:t % (y::c).length<(y::c).length:=Nat.mod_lt _ AU;simp at hi;simp at f;omega
  | some i=>
   simp only[];rw[linearise_go_acc,List.reverse_singleton,List.singleton_append];exact tU T (Z6 (λg w' z=>k _ _ g w' z.2) (e i (G2 hi)))
theorem Sl.opK (e:∀u v,S u->Keep Low O u v->S v)(hi:ops[i]?=some o)(k:Sl P Low fn ops S O o v a){K:Act->World->Prop}(g:∀a u v,K a u->Keep Low O u v->K a v){w:World}(hS:S w)(h:K (a.put o.dst v) w):
  OpK P Low pre fn ops x O i K a w:=by
 unfold OpK;simp only[hi];rcases k with⟨c,f⟩ | ⟨c,rfl⟩
 ·simp only[c,if_true]
  intro w₁ d _;rw[(f w₁ (e _ _ hS d)).1];exact⟨⟨(f w₁ (e _ _ hS d)).2,J4 _ _⟩,g _ _ _ h d⟩
 ·simp only[c,DU,C7];exact h
theorem fh {c:Oper}(t:ops[j]?=some c)(p:oi.apart ops c=true)(y:∀cs b,oi.op≠.select cs b)(A:∀cs b,c.op≠.select cs b){K:Act->World->Prop}{w:World}
  (d:Sl P Low fn ops S O oi v a) (h:OpK P Low pre fn ops x O j K (a.put oi.dst v) w):OpK P Low pre fn ops x O j (λk w'=>Sl P Low fn ops S O oi v k/\K (k.put oi.dst v) w') a w:=by
 obtain⟨m,f,g⟩:=Oper.apart_spec p;have keep:∀(a:Act),Sl P Low fn ops S O oi v a->∀u,Sl P Low fn ops S O oi v (a.put c.dst u):=λa d u=>d.of_same (execOp_put oi y a c.dst u g) (wanted_put oi a c.dst u g)
 unfold OpK at*;simp only[t] at*;rw[wanted_put c a oi.dst v m] at h;split
 ·rename_i e
  simp only[e,if_true] at h;intro w₁ q s;have h:=h w₁ q s;unfold listed at*;rw[execOp_put c A a oi.dst v m] at h;generalize (execOp a.eval c).run P w₁=r at*;cases r with
  | ok n w'=>
   cases n<;>simp only[uponK] at h ⊢
   case value u=>exact⟨h.1,keep a d u,by rw[<-Act.put_comm a v u f];exact h.2⟩
   case skip=>exact⟨h.1,keep a d _,by rw[<-Act.put_comm a v undef f];exact h.2⟩
  | halt z w'=>simp only[uponK] at h
 ·rename_i e
  simp only[e] at h;exact⟨keep a d _,by rw[<-Act.put_comm a v undef f];exact h⟩
def Yy (md:Region.Mode)(ops:Array Oper)(l:Array Bool):Prop:=∀j o,ops[j]?=some o->l.getD j false=true->∀e∈o.after,Region.binds md e=true->l.getD e.on false=true
theorem rI (h:j<l.size):(l.setIfInBounds j true).getD j false=true:=by simp[h]
theorem Zz {k:Nat}(h:j≠k)(d:Bool):(l.setIfInBounds j true).getD k d=l.getD k d:=getD_set_ne d h
theorem Yy.set (h:Yy md ops l)(r:j∈Region.ready md ops l):Yy md ops (l.setIfInBounds j true):=by
 intro k o g m e p n;have key:l.getD e.on false=true:=by
  by_cases q:j=k
  ·subst q
   obtain⟨_,y,d,s⟩:=mem_ready.1 r;rw[g] at d;cases d;exact s e p n
  ·rw[Zz q] at m
   exact h k o g m e p n
 by_cases f:j=e.on
 ·have u:j<l.size:=by
   have t:=(mem_ready.1 r).1;rcases EZ j l.size with c | c
   ·exact c
   ·simp[M1 c] at t
  rw[<-f];exact rI u
 ·rw[Zz f];exact key
def MA (md:Region.Mode)(ops:Array Oper)(l:Array Bool):Bool:=(List.range ops.size).all λj=>!(l.getD j false) || ((ops[j]?).all λo=>o.after.toList.all λe=>!(Region.binds md e) || l.getD e.on false)
theorem VT:MA md ops l=true↔Yy md ops l:=by
 unfold MA Yy;rw[List.all_eq_true];constructor
 ·intro h j o c d e g f
  have k:=(Array.getElem?_eq_some_iff.1 c).1;have:=h j (List.mem_range.2 k)
  rw[d,c] at this;simp only[Ks,Bool.false_or,Option.all_some,List.all_eq_true] at this;have:=this e (Array.mem_toList_iff.2 g)
  rw[f] at this;simpa using this
 ·intro h j m
  cases d:l.getD j false with
  | false=>rfl
  | true=>
   simp only[Ks,Bool.false_or];cases c:ops[j]? with
   | none=>rfl
   | some o=>
    simp only[Option.all_some,List.all_eq_true];intro e g;cases f:Region.binds md e with
    | false=>rfl
    | true=>rw[h j o c d e (Array.mem_toList_iff.1 g) f];rfl
theorem Awm (T:OkL P main Low pre ok)(s:∀u v,S u->Keep Low O u v->S v)(hi:ops[i]?=some oi)(C:∀(j:Nat) (o:Oper) cs b,ops[j]?=some o->o.op≠.select cs b):
  ∀(fuel:Nat) (listed:Array Bool) (a:Act) (w:World),(∀l:Array Bool,l.size=listed.size->Yy md ops l->l.getD i true=false->last∉Region.ready md ops l)->Yy md ops listed->
   (∀j g,ops[j]?=some g->j≠i->listed.getD j true=false->(∀e∈g.after,Region.binds md e=true->e.on≠i)->oi.apart ops g=true)->
   i∈Region.ready md ops listed->Sl P Low fn ops S O oi v a->S w->
   E3 P Low pre ok fn Q x O ops md S last fuel (listed.setIfInBounds i true) (a.put oi.dst v) w->E3 P Low pre ok fn Q x O ops md S last (fuel+1) listed a w:=by
 have D:∀fuel listed,∀a u v,(S u/\E3 P Low pre ok fn Q x O ops md S last fuel listed a u)->Keep Low O u v->(S v/\E3 P Low pre ok fn Q x O ops md S last fuel listed a v):=
  λfuel listed a u v h r=>⟨s _ _ h.1 r,E3.rely T s fuel listed a u v h.2 r⟩
 intro fuel;induction fuel with
 | zero=>
  intro listed a w p t _ c n hS H;have E:=p listed rfl t (mem_ready.1 c).1;refine⟨E,λh=>(by rw[h] at c;cases c),λj f=>?_⟩;by_cases d:j=i
  ·subst d;exact n.opK s hi (D _ _) hS ⟨hS,H⟩
  ·have:=ready_mono f d
   rw[H.1] at this;rw[List.mem_singleton.1 this] at f;exact absurd f E
 | succ fuel R=>
  intro listed a w p t I c n hS H;refine⟨p listed rfl t (mem_ready.1 c).1,λh=>(by rw[h] at c;cases c),λj f=>?_⟩;by_cases d:j=i
  ·subst d;exact n.opK s hi (D _ _) hS ⟨hS,H⟩
  ·have m:=H.2.2 j (ready_mono f d)
   obtain⟨F,g,y,N⟩:=mem_ready.1 f;have V:∀e∈g.after,Region.binds md e=true->e.on≠i:=λe he Z K=>by
    have m:=N e he Z;have B:=(mem_ready.1 c).1;rw[K] at m;rcases EZ i listed.size with z | z
    ·simp[z] at B m;rw[B] at m;cases m
    ·simp[M1 z] at m
   have h2:=fh y (I j g y d F V) (λcs b=>C i oi cs b hi) (λcs b=>C j g cs b y) n m;have U:∀k ok,ops[k]?=some ok->k≠i->(listed.setIfInBounds j true).getD k true=false->(∀e∈ok.after,Region.binds md e=true->e.on≠i)->oi.apart ops ok=true:=λk ok X L A J=>by
    refine I k ok X L ?_ J;by_cases G:j=k
    ·subst G;exact F
    ·rw[getD_set_ne true G] at A;exact A
   refine Z6 (λM w' q=>⟨q.2.1,R (listed.setIfInBounds j true) M w' (λl Y=>p l (by rw[Y];simp)) (t.set f) U (ready_mono c (Ne.symm d)) q.1 q.2.1 ?_⟩) h2;rw[Array.setIfInBounds_comm _ _ d];exact q.2.2
def allB:Nat->List (Array Bool)
 | 0=>[#[]]
 | n+1=>(allB n).flatMap λl=>[l.push false,l.push true]
theorem ZP:∀(n:Nat) (l:Array Bool),l.size=n->l∈allB n
 | 0,l,h=>by simp[allB];exact Array.size_eq_zero_iff.1 h
 | n+1,l,h=>by
  simp only[allB,List.mem_flatMap];refine⟨l.pop,ZP n _ (by simp[h]),?_⟩;have g:l.size≠0:=AQ
  have e:l=l.pop.push (l[l.size - 1]'AQ):=by
   apply Array.ext
   ·simp;omega
   ·intro i d f
    by_cases hi:i<l.size - 1
    ·rw[Array.getElem_push_lt (by simpa using hi)];simp
    ·have:i=l.size - 1:=by omega
     subst this;rw[Array.getElem_push];simp
  cases c:l[l.size - 1]'AQ with
  | false=>rw[c] at e;rw[e];simp
  | true=>rw[c] at e;rw[e];simp
def waits (md:Region.Mode)(ops:Array Oper)(last i n:Nat):Bool:=(allB n).all λl=>!(MA md ops l) || (l.getD i true || !(Region.ready md ops l).contains last)
theorem xM {n:Nat}(h:waits md ops last i n=true):∀l:Array Bool,l.size=n->Yy md ops l->l.getD i true=false->last∉Region.ready md ops l:=by
 intro l c e d f;have:=List.all_eq_true.1 h l (ZP n l c)
 rw[d,VT.2 e] at this;simp at this;exact this f
theorem V6 (T:OkL P main Low pre ok)(d:∀u v,S u->Keep Low O u v->S v){listed:Array Bool}{w:World}(hi:ops[i]?=some oi)
  (hl:waits md ops last i listed.size=true) (f:MA md ops listed=true) (g:Region.noSelect ops=true) (c:Region.free md ops listed i=true) (hr:(Region.ready md ops listed).contains i=true) (e:Sl P Low fn ops S O oi v a) (hS:S w)
  (h:E3 P Low pre ok fn Q x O ops md S last fuel (listed.setIfInBounds i true) (a.put oi.dst v) w):E3 P Low pre ok fn Q x O ops md S last (fuel+1) listed a w:=
 Awm T d hi (Region.noSelect_spec g) fuel listed a w (xM hl) (VT.1 f) (Region.free_spec hi c) (by simpa using hr) e hS h
theorem ol (T:OkL P main Low pre ok){c:Nat}{w:World}(S:World->Prop)(last:Nat)(d:P.follows .mixedOrders=true)(q:ops.size=fuel+1)
  (h:∀w₁,Keep Low O w w₁->E3 P Low pre ok fn Q x O ops .any S last fuel (Array.replicate ops.size false) a {w₁ with drawn:=w₁.drawn+1}):WpK ok fn (.region c ops true) Q a x O w:=by
 intro b k cs m g n;refine T.own rfl λw₁ f _=>⟨_,_,_,stepG_region_draw,rfl,⟨λ_ _ _=>rfl,CG _,rfl,rfl,rfl,AU⟩,?_⟩
 have e:grown O w₁ {w₁ with drawn:=w₁.drawn+1}=O:=J4 O w₁;rw[e];have:=Awl T fuel (w₁.tape w₁.drawn (.order b.fn c)) (Array.replicate ops.size false) a _ (h w₁ f) b k cs m g n
 simp only[Region.schedule,d,Bool.true_or,if_true];simp only[Region.linearise,q] at this ⊢;exact this
end
