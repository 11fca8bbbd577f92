import Derived.Test.YtbfljjcnbbmoaaaGreatDoorS30
import Derived.Conc.AppendWalk
import Derived.Maps.AppendAt
import Derived.Calls
namespace Go.Co
open Go.Conc
section
variable {a:Act}{fuel i j:Nat}{l:Array Bool}{o oi:Oper}{v:Value}
variable {τ : Type}{P : Program}{main : Bool}{Low : Nat}{pre : τ -> World -> Prop}{ok : τ -> (Nat -> Prop) -> World -> Goroutine -> Prop}{fn : FuncId}{Q : Va τ}{x : τ}{O : Nat -> Prop}
variable {ops : Array Oper}{md : Region.Mode}{S : World -> Prop}{last : Nat}
def OpK (P:Program)(Low:Nat)(pre:τ->World->Prop)(fn:FuncId)(ops:Array Oper)(x:τ)(O:Nat->Prop)(i:Nat)(K:Act->World->Prop)(a:Act)(w:World):Prop:=
 match ops[i]? with
 | none=>False
 | some o=>if Region.wanted o (yielded ops a.tmps) then ∀w₁,Keep Low O w w₁->pre x w₁->uponK o a (λa' w'=>(Anc Low O w₁ w' (listed P fn a o w₁)/\grown O w₁ w'=O)/\K a' w') ((execOp a.eval o).run P w₁) else K (a.put o.dst undef) w
theorem Aow {w:World}{K K':Act->World->Prop}(h:∀a w,K a w->K' a w)(hh:OpK P Low pre fn ops x O i K a w):OpK P Low pre fn ops x O i K' a w:=by
 unfold OpK at*;split
 ·simp_all
 ·rename_i o ho
  simp only[ho] at hh;split
  ·rename_i hw;simp only[hw,if_true] at hh;exact λw₁ h₁ hp=>uponK_mono (λa' w' z=>⟨z.1,h _ _ z.2⟩) (hh w₁ h₁ hp)
  ·rename_i hw;simp only[hw] at hh;exact h _ _ hh
theorem Alr (T:OkL P main Low pre ok){rest:List Nat}{w:World}(h:OpK P Low pre fn ops x O i (λa' w'=>Tj ok fn ops rest Q a' x O w') a w):Tj ok fn ops (i::rest) Q a x O w:=by
 unfold OpK at h;split at h
 ·exact h.elim
 ·rename_i o ho
  split at h
  ·rename_i hw
   refine V7 T ho hw λw₁ hk hp K hK=>uponK_mono (λa' w' z=>?_) (h w₁ hk hp)
   exact hK _ _ ⟨z.1.1,by rw[z.1.2];exact z.2⟩
  ·rename_i hw;exact Uu T ho (by simpa using hw) h
def Pq (P:Program)(Low:Nat)(fn:FuncId)(ops:Array Oper)(S:World->Prop)(O:Nat->Prop)(o:Oper)(v:Value)(a:Act):Prop:=
 (Region.wanted o (yielded ops a.tmps)=true/\∀w,S w->(execOp a.eval o).run P w=.ok (.value v) w/\Anc Low O w w (listed P fn a o w))\/(Region.wanted o (yielded ops a.tmps)=false/\v=undef)
theorem Pq.of_same {a':Act}(hy:Pq P Low fn ops S O o v a)(he:execOp a'.eval o=execOp a.eval o)(hw:Region.wanted o (yielded ops a'.tmps)=Region.wanted o (yielded ops a.tmps)):Pq P Low fn ops S O o v a':=by
 unfold Pq listed at*;rw[he,hw];exact hy
variable (P Low pre ok fn ops md S last Q x O)
def Ao0:Nat->Array Bool->Act->World->Prop
 | 0,listed,a,w=>Region.ready md ops listed=[last]/\Tj ok fn ops [last] Q a x O w
 | fuel+1,listed,a,w=>last∉Region.ready md ops listed/\Region.ready md ops listed≠[]/\∀i∈Region.ready md ops listed,OpK P Low pre fn ops x O i (λa' w'=>S w'/\Ao0 fuel (listed.setIfInBounds i true) a' w') a w
variable {P Low pre ok fn ops md S last Q x O}
theorem Ao0.rely (T:OkL P main Low pre ok)(hSR:∀u v,S u->Keep Low O u v->S v):
  ∀(fuel:Nat) (listed:Array Bool) (a:Act) (w w₁:World),Ao0 P Low pre ok fn Q x O ops md S last fuel listed a w->Keep Low O w w₁->Ao0 P Low pre ok fn Q x O ops md S last fuel listed a w₁
 | 0,_,_,_,_,h,r=>⟨h.1,h.2.rely T r⟩
 | fuel+1,listed,a,w,w₁,h,r=>⟨h.1,h.2.1,λi hi=>by
   have:=h.2.2 i hi
   unfold OpK at*;split
   ·simp_all
   ·rename_i o ho
    simp only[ho] at this;split
    ·rename_i hw;simp only[hw,if_true] at this;exact λw₂ h₂=>this w₂ (r.trans h₂)
    ·rename_i hw;simp only[hw] at this;exact⟨hSR _ _ this.1 r,Ao0.rely T hSR fuel _ _ _ _ this.2 r⟩⟩
theorem Ar9 (T:OkL P main Low pre ok):∀(fuel t:Nat) (listed:Array Bool) (a:Act) (w:World),Ao0 P Low pre ok fn Q x O ops md S last fuel listed a w->
  Tj ok fn ops (Region.linearise.go md ops (fuel+1) t listed []) Q a x O w:=by
 intro fuel;induction fuel with
 | zero=>
  intro t listed a w h;simp only[Region.linearise.go]
  change Tj ok fn ops (match (Region.ready md ops listed)[t % (Region.ready md ops listed).length]? with
   | some i=>Region.linearise.go md ops 0 (t / (Region.ready md ops listed).length) (listed.setIfInBounds i true) [i]
   | none=>[].reverse) Q a x O w
  rw[h.1];simp[Nat.mod_one,Region.linearise.go];exact h.2
 | succ fuel ih=>
  intro t listed a w h;obtain⟨_,h₀,h₁⟩:=h;rw[Region.linearise.go]
  change Tj ok fn ops (match (Region.ready md ops listed)[t % (Region.ready md ops listed).length]? with
   | some i=>Region.linearise.go md ops (fuel+1) (t / (Region.ready md ops listed).length) (listed.setIfInBounds i true) [i]
   | none=>[].reverse) Q a x O w
  cases hi:(Region.ready md ops listed)[t % (Region.ready md ops listed).length]? with
  | none=>
   exfalso;apply h₀;cases hr:Region.ready md ops listed with
   | nil=>rfl
   | cons y ys=>
    rw[hr] at hi;have hlt:t % (y::ys).length<(y::ys).length:=Nat.mod_lt _ spz;simp at hi;simp at hlt;omega
  | some i=>
   simp only[];rw[linearise_go_acc,List.reverse_singleton,List.singleton_append];exact Alr T (Aow (λa' w' z=>ih _ _ a' w' z.2) (h₁ i (List.mem_of_getElem? hi)))
theorem Pq.opK (hSR:∀u v,S u->Keep Low O u v->S v)(hi:ops[i]?=some o)(hy:Pq P Low fn ops S O o v a){K:Act->World->Prop}(hK:∀a u v,K a u->Keep Low O u v->K a v){w:World}(hS:S w)(h:K (a.put o.dst v) w):
  OpK P Low pre fn ops x O i K a w:=by
 unfold OpK;simp only[hi];rcases hy with⟨hw,hv⟩ | ⟨hw,rfl⟩
 ·simp only[hw,if_true]
  intro w₁ h₁ _;rw[(hv w₁ (hSR _ _ hS h₁)).1];exact⟨⟨(hv w₁ (hSR _ _ hS h₁)).2,Iq _ _⟩,hK _ _ _ h h₁⟩
 ·simp only[hw,A4e,if_false];exact h
theorem Aw0 {oj:Oper}(hj:ops[j]?=some oj)(hap:oi.apart ops oj=true)(hsi:∀cs b,oi.op≠.select cs b)(hsj:∀cs b,oj.op≠.select cs b){K:Act->World->Prop}{w:World}
  (hy:Pq P Low fn ops S O oi v a) (h:OpK P Low pre fn ops x O j K (a.put oi.dst v) w):OpK P Low pre fn ops x O j (λa' w'=>Pq P Low fn ops S O oi v a'/\K (a'.put oi.dst v) w') a w:=by
 obtain⟨h1,h2,h3⟩:=Oper.apart_spec hap;have keep:∀(a:Act),Pq P Low fn ops S O oi v a->∀u,Pq P Low fn ops S O oi v (a.put oj.dst u):=λa hy u=>hy.of_same (execOp_put oi hsi a oj.dst u h3) (wanted_put oi a oj.dst u h3)
 unfold OpK at*;simp only[hj] at*;rw[wanted_put oj a oi.dst v h1] at h;split
 ·rename_i hw
  simp only[hw,if_true] at h;intro w₁ h₁ hp;have h:=h w₁ h₁ hp;unfold listed at*;rw[execOp_put oj hsj a oi.dst v h1] at h;generalize (execOp a.eval oj).run P w₁=r at*;cases r with
  | ok n w'=>
   cases n<;>simp only[uponK] at h ⊢
   case value u=>exact⟨h.1,keep a hy u,by rw[<-Act.put_comm a v u h2];exact h.2⟩
   case skip=>exact⟨h.1,keep a hy _,by rw[<-Act.put_comm a v undef h2];exact h.2⟩
  | halt z w'=>simp only[uponK] at h
 ·rename_i hw
  simp only[hw] at h;exact⟨keep a hy _,by rw[<-Act.put_comm a v undef h2];exact h⟩
def W9 (md:Region.Mode)(ops:Array Oper)(l:Array Bool):Prop:=∀j o,ops[j]?=some o->l.getD j false=true->∀e∈o.after,Region.binds md e=true->l.getD e.on false=true
theorem Ag8 (h:j<l.size):(l.setIfInBounds j true).getD j false=true:=by simp[h]
theorem X6 {k:Nat}(h:j≠k)(d:Bool):(l.setIfInBounds j true).getD k d=l.getD k d:=getD_set_ne d h
theorem W9.set (h:W9 md ops l)(hj:j∈Region.ready md ops l):W9 md ops (l.setIfInBounds j true):=by
 intro k o hk hl e he hb;have key:l.getD e.on false=true:=by
  by_cases hkj:j=k
  ·subst hkj
   obtain⟨_,o',ho',hall⟩:=mem_ready.1 hj;rw[hk] at ho';cases ho';exact hall e he hb
  ·rw[X6 hkj] at hl
   exact h k o hk hl e he hb
 by_cases hje:j=e.on
 ·have hlt:j<l.size:=by
   have h0:=(mem_ready.1 hj).1;rcases Nat.lt_or_ge j l.size with h' | h'
   ·exact h'
   ·simp[Array.getElem?_eq_none h'] at h0
  rw[<-hje];exact Ag8 hlt
 ·rw[X6 hje];exact key
def Ahi (md:Region.Mode)(ops:Array Oper)(l:Array Bool):Bool:=(List.range ops.size).all λj=>!(l.getD j false) || ((ops[j]?).all λo=>o.after.toList.all λe=>!(Region.binds md e) || l.getD e.on false)
theorem Aea:Ahi md ops l=true↔W9 md ops l:=by
 unfold Ahi W9;rw[List.all_eq_true];constructor
 ·intro h j o ho hl e he hb
  have hlt:=(Array.getElem?_eq_some_iff.1 ho).1;have:=h j (List.mem_range.2 hlt)
  rw[hl,ho] at this;simp only[Bool.not_true,Bool.false_or,Option.all_some,List.all_eq_true] at this;have:=this e (Array.mem_toList_iff.2 he)
  rw[hb] at this;simpa using this
 ·intro h j hj
  cases hl:l.getD j false with
  | false=>rfl
  | true=>
   simp only[Bool.not_true,Bool.false_or];cases ho:ops[j]? with
   | none=>rfl
   | some o=>
    simp only[Option.all_some,List.all_eq_true];intro e he;cases hb:Region.binds md e with
    | false=>rfl
    | true=>rw[h j o ho hl e (Array.mem_toList_iff.1 he) hb];rfl
theorem Asa (T:OkL P main Low pre ok)(hSR:∀u v,S u->Keep Low O u v->S v)(hi:ops[i]?=some oi)(hsel:∀(j:Nat) (o:Oper) cs b,ops[j]?=some o->o.op≠.select cs b):
  ∀(fuel:Nat) (listed:Array Bool) (a:Act) (w:World),(∀l:Array Bool,l.size=listed.size->W9 md ops l->l.getD i true=false->last∉Region.ready md ops l)->W9 md ops listed->
   (∀j oj,ops[j]?=some oj->j≠i->listed.getD j true=false->(∀e∈oj.after,Region.binds md e=true->e.on≠i)->oi.apart ops oj=true)->
   i∈Region.ready md ops listed->Pq P Low fn ops S O oi v a->S w->
   Ao0 P Low pre ok fn Q x O ops md S last fuel (listed.setIfInBounds i true) (a.put oi.dst v) w->Ao0 P Low pre ok fn Q x O ops md S last (fuel+1) listed a w:=by
 have hK:∀fuel listed,∀a u v,(S u/\Ao0 P Low pre ok fn Q x O ops md S last fuel listed a u)->Keep Low O u v->(S v/\Ao0 P Low pre ok fn Q x O ops md S last fuel listed a v):=
  λfuel listed a u v h r=>⟨hSR _ _ h.1 r,Ao0.rely T hSR fuel listed a u v h.2 r⟩
 intro fuel;induction fuel with
 | zero=>
  intro listed a w hlast hcl _ hr hy hS H;have hnl:=hlast listed rfl hcl (mem_ready.1 hr).1;refine⟨hnl,λh=>(by rw[h] at hr;cases hr),λj hj=>?_⟩;by_cases hji:j=i
  ·subst hji;exact hy.opK hSR hi (hK _ _) hS ⟨hS,H⟩
  ·have:=ready_mono hj hji
   rw[H.1] at this;rw[List.mem_singleton.1 this] at hj;exact absurd hj hnl
 | succ fuel ih=>
  intro listed a w hlast hcl hfree hr hy hS H;refine⟨hlast listed rfl hcl (mem_ready.1 hr).1,λh=>(by rw[h] at hr;cases hr),λj hj=>?_⟩;by_cases hji:j=i
  ·subst hji;exact hy.opK hSR hi (hK _ _) hS ⟨hS,H⟩
  ·have h1:=H.2.2 j (ready_mono hj hji)
   obtain⟨hjun,oj,hoj,hall⟩:=mem_ready.1 hj;have hnot:∀e∈oj.after,Region.binds md e=true->e.on≠i:=λe he hb heq=>by
    have h1:=hall e he hb;have h0:=(mem_ready.1 hr).1;rw[heq] at h1;rcases Nat.lt_or_ge i listed.size with h' | h'
    ·simp[h'] at h0 h1;rw[h0] at h1;cases h1
    ·simp[Array.getElem?_eq_none h'] at h1
   have h2:=Aw0 hoj (hfree j oj hoj hji hjun hnot) (λcs b=>hsel i oi cs b hi) (λcs b=>hsel j oj cs b hoj) hy h1;have hfree':∀k ok,ops[k]?=some ok->k≠i->(listed.setIfInBounds j true).getD k true=false->(∀e∈ok.after,Region.binds md e=true->e.on≠i)->oi.apart ops ok=true:=λk ok hk hki hun hno=>by
    refine hfree k ok hk hki ?_ hno;by_cases hjk:j=k
    ·subst hjk;exact hjun
    ·rw[getD_set_ne true hjk] at hun;exact hun
   refine Aow (λa' w' h3=>⟨h3.2.1,ih (listed.setIfInBounds j true) a' w' (λl hl=>hlast l (by rw[hl];simp)) (hcl.set hj) hfree' (ready_mono hr (Ne.symm hji)) h3.1 h3.2.1 ?_⟩) h2;rw[Array.setIfInBounds_comm _ _ hji];exact h3.2.2
def allB:Nat->List (Array Bool)
 | 0=>[#[]]
 | n+1=>(allB n).flatMap λl=>[l.push false,l.push true]
theorem Anv:∀(n:Nat) (l:Array Bool),l.size=n->l∈allB n
 | 0,l,h=>by simp[allB];exact Array.size_eq_zero_iff.1 h
 | n+1,l,h=>by
  simp only[allB,List.mem_flatMap];refine⟨l.pop,Anv n _ (by simp[h]),?_⟩;have hne:l.size≠0:=omz
  have e:l=l.pop.push (l[l.size - 1]'omz):=by
   apply Array.ext
   ·simp;omega
   ·intro i h1 h2
    by_cases hi:i<l.size - 1
    ·rw[Array.getElem_push_lt (by simpa using hi)];simp
    ·have:i=l.size - 1:=by omega
     subst this;rw[Array.getElem_push];simp
  cases hb:l[l.size - 1]'omz with
  | false=>rw[hb] at e;rw[e];simp
  | true=>rw[hb] at e;rw[e];simp
def waits (md:Region.Mode)(ops:Array Oper)(last i n:Nat):Bool:=(allB n).all λl=>!(Ahi md ops l) || (l.getD i true || !(Region.ready md ops l).contains last)
theorem Ao1 {n:Nat}(h:waits md ops last i n=true):∀l:Array Bool,l.size=n->W9 md ops l->l.getD i true=false->last∉Region.ready md ops l:=by
 intro l hl hc hf hm;have:=List.all_eq_true.1 h l (Anv n l hl)
 rw[hf,Aea.2 hc] at this;simp at this;exact this hm
theorem Ui (T:OkL P main Low pre ok)(hSR:∀u v,S u->Keep Low O u v->S v){listed:Array Bool}{w:World}(hi:ops[i]?=some oi)
  (hl:waits md ops last i listed.size=true) (hcl:Ahi md ops listed=true) (hs:Region.noSelect ops=true) (hf:Region.free md ops listed i=true) (hr:(Region.ready md ops listed).contains i=true) (hy:Pq P Low fn ops S O oi v a) (hS:S w)
  (h:Ao0 P Low pre ok fn Q x O ops md S last fuel (listed.setIfInBounds i true) (a.put oi.dst v) w):Ao0 P Low pre ok fn Q x O ops md S last (fuel+1) listed a w:=
 Asa T hSR hi (Region.noSelect_spec hs) fuel listed a w (Ao1 hl) (Aea.1 hcl) (Region.free_spec hi hf) (by simpa using hr) hy hS h
theorem Acl (T:OkL P main Low pre ok){id:Nat}{w:World}(S:World->Prop)(last:Nat)(hm:P.follows .mixedOrders=true)(hz:ops.size=fuel+1)
  (h:∀w₁,Keep Low O w w₁->Ao0 P Low pre ok fn Q x O ops .any S last fuel (Array.replicate ops.size false) a {w₁ with drawn:=w₁.drawn+1}):WpK ok fn (.region id ops true) Q a x O w:=by
 intro b k cs hb hk hc;refine T.own rfl λw₁ h₁ _=>⟨_,_,_,stepG_region_draw,rfl,⟨λ_ _ _=>rfl,A4d _,rfl,rfl,rfl,spz⟩,?_⟩
 have e:grown O w₁ {w₁ with drawn:=w₁.drawn+1}=O:=Iq O w₁;rw[e];have:=Ar9 T fuel (w₁.tape w₁.drawn (.order b.fn id)) (Array.replicate ops.size false) a _ (h w₁ h₁) b k cs hb hk hc
 simp only[Region.schedule,hm,Bool.true_or,if_true];simp only[Region.linearise,hz] at this ⊢;exact this
end
end Go.Co
namespace Go.Co
open Go.Conc
theorem Ahb {P:Program}{w:World}{es:Array Event}(t:TypeId)(h:P.underlying t=some (.slice (P.elem t)))(a:Option Addr)(m r:Nat)(h1:(1:Int)<=(m:Int)+1):
  (Instr.sliceAt t (.slice a (m+1) r) (some (.int .i64 1)) none none).events P w es=es:=by
 simp only[Instr.sliceAt,Instr.slice,Instr.sliceBounds,Instr.sliceBound,asIntOf];simp[run_underlying h,h1]
end Go.Co
namespace Go.Co
open Go.Conc
def Pln (P:Program){α:Type}:Sem α->Prop
  | .pure _=>True
  | .load m _ k=>m=.plain/\∀v,Pln P (k v)
  | .store m _ _ k=>m=.plain/\Pln P k
  | .new _ k=>∀r,Pln P (k r)
  | .shape _ k=>∀s,Pln P (k s)
  | .freeze _ _ k=>Pln P k
  | .frozen _ k=>∀b,Pln P (k b)
  | .getObj _ _=>False
  | .setObj _ _ _=>False
  | .choose _ k=>∀n,Pln P (k n)
  | .sys _ _=>False
  | .program k=>Pln P (k P)
  | .mark m k=>m=.noRoom/\Pln P k
  | .halt _=>True
section
variable {P : Program}{α β : Type}
theorem Auh {f:α->Sem β}(hf:∀a,Pln P (f a)):∀(s:Sem α),Pln P s->Pln P (s.bind f):=by
  intro s;induction s with
  | pure a=>exact λ_=>hf a
  | load m a k ih=>exact λh=>⟨h.1,λv=>ih v (h.2 v)⟩
  | store m a v k ih=>exact λh=>⟨h.1,ih h.2⟩
  | new o k ih=>exact λh v=>ih v (h v)
  | shape r k ih=>exact λh v=>ih v (h v)
  | freeze a n k ih=>exact λh=>ih h
  | frozen a k ih=>exact λh v=>ih v (h v)
  | getObj r k ih=>exact λh=>h.elim
  | setObj r o k ih=>exact λh=>h.elim
  | choose q k ih=>exact λh v=>ih v (h v)
  | sys c k ih=>exact λh=>h.elim
  | program k ih=>exact λh=>ih P h
  | mark m k ih=>exact λh=>⟨h.1,ih h.2⟩
  | halt x=>exact λ_=>trivial
theorem J8 {s:Sem α}{f:α->Sem β}(hs:Pln P s)(hf:∀a,Pln P (f a)):Pln P (s>>=f):=Auh hf s hs
theorem Axz {a:α}:Pln P (pure a:Sem α):=trivial
def EvP (e:Event):Prop:=(∀a,e.loc=.cell a->e.sync=false)/\(∀m,e.loc=.mark m->m=.noRoom)
theorem Apk:∀(s:Sem α),Pln P s->∀(w:World) (es:Array Event),(∀e∈es,EvP e)->∀e∈(s.runT P w es).2,EvP e:=by
  intro s;induction s with
  | pure a=>exact λ_ w es h=>h
  | load m a k ih=>
    rintro⟨rfl,hk⟩ w es h;simp only[Sem.runT];split
    · refine ih _ (hk _) _ _ λe he=>?_
      rcases Array.mem_push.1 he with he | rfl
      · exact h e he
      · exact⟨λ_ _=>rfl,λm hm=>by cases hm⟩
    · split
      · refine ih _ (hk _) _ _ λe he=>?_
        rcases Array.mem_append.1 he with he | he
        · exact h e he
        · obtain⟨x,_,rfl⟩:=Array.mem_map.1 he
          exact⟨λ_ _=>rfl,λm hm=>by cases hm⟩
      · exact h
  | store m a v k ih=>
    rintro⟨rfl,hk⟩ w es h;have key:∀w' (tc:Array Addr),∀e∈(k.runT P w' (es++tc.map λx=>⟨.cell x,true,false⟩)).2,EvP e:=λw' tc=>by
      refine ih hk _ _ λe he=>?_
      rcases Array.mem_append.1 he with he | he
      · exact h e he
      · obtain⟨x,_,rfl⟩:=Array.mem_map.1 he
        exact⟨λ_ _=>rfl,λm hm=>by cases hm⟩
    have key1:∀w' (x:Addr),∀e∈(k.runT P w' (es.push ⟨.cell x,true,false⟩)).2,EvP e:=λw' x=>by
      refine ih hk _ _ λe he=>?_
      rcases Array.mem_push.1 he with he | rfl
      · exact h e he
      · exact⟨λ_ _=>rfl,λm hm=>by cases hm⟩
    cases v<;>simp only[Sem.runT]<;>first
      | exact h
      | (split
         · split
           · exact h
           · exact key1 _ _
         · split
           · exact key _ _
           · exact h)
  | new o k ih=>exact λhk w es h=>ih _ (hk _) _ _ h
  | shape r k ih=>exact λhk w es h=>ih _ (hk _) _ _ h
  | freeze a n k ih=>exact λhk w es h=>ih hk _ _ h
  | frozen a k ih=>exact λhk w es h=>ih _ (hk _) _ _ h
  | getObj r k ih=>exact λh=>h.elim
  | setObj r o k ih=>exact λh=>h.elim
  | choose q k ih=>
    intro hk w es h;simp only[Sem.runT];split
    · exact ih _ (hk _) _ _ h
    · exact ih _ (hk _) _ _ h
  | sys c k ih=>exact λh=>h.elim
  | program k ih=>exact λhk w es h=>ih _ hk _ _ h
  | mark m k ih=>
    rintro⟨rfl,hk⟩ w es h;refine ih hk _ _ λe he=>?_
    rcases Array.mem_push.1 he with he | rfl
    · exact h e he
    · refine⟨λ_ hm=>?_,λm hm=>?_⟩
      · cases hm
      · cases hm;rfl
  | halt x=>exact λ_ w es h=>h
theorem Tu (a:Addr):∀(n i:Nat) (acc:Array Value),Pln P (loadCellsFrom a i n acc)
  | 0,_,_=>trivial
  | n+1,i,_acc=>J8 (s:=load (a.add i)) ⟨rfl,λ_=>trivial⟩ λ_v=>Tu a n (i+1) _
theorem X4 (a:Addr):∀(vs:List Value) (i:Nat),Pln P (storeCells a vs i)
  | [],_=>trivial
  | v::vs,i=>J8 (s:=store (a.add i) v) ⟨rfl,trivial⟩ λ_=>X4 a vs (i+1)
theorem Ae0 (size n:Nat)(v:Value):Pln P (Builtin.firstCells size n v):=by
  unfold Builtin.firstCells;split<;>first | exact trivial | exact Tu _ _ _ _
theorem Aug {c:Prop}[Decidable c]{x y:Sem α}(hx:Pln P x)(hy:Pln P y):Pln P (if c then x else y):=by split<;>assumption
theorem Aud (m:String):Pln P (stuck m:Sem α):=trivial
theorem Ac4 (u:Unsupported):Pln P (unsupported u:Sem α):=trivial
theorem Afp (q:Question):Pln P (choose q):=λ_=>trivial
theorem Afo:Pln P (mark .noRoom):=⟨rfl,trivial⟩
theorem Aue (r:Nat):Pln P (shape r):=λ_=>trivial
theorem Apj (a:Addr):Pln P (frozen a):=λ_=>trivial
theorem Aey (t:TypeId):Pln P (underlying t):=by
  unfold underlying;show Pln P (_:Sem _)
  refine J8 (s:=program) trivial λp=>?_
  split<;>trivial
theorem V4 (t:TypeId):Pln P (typeInfo t):=by
  unfold typeInfo;refine J8 (s:=program) trivial λp=>?_
  split<;>trivial
theorem Aph (t:TypeId):Pln P (sizeOf t):=by
  unfold sizeOf;exact J8 (V4 t) λ_=>trivial
theorem Agu (t:TypeId):Pln P (zeroValue t):=by
  unfold zeroValue;refine J8 (V4 t) λ_=>?_
  split<;>trivial
theorem Aui (v:Value):Pln P (asInt v):=by
  unfold asInt asIntOf;repeat' first | exact trivial | refine J8 ?_ (λ_=>?_) | split
theorem Auf (v:Value):Pln P (Builtin.lenOf v):=by
  unfold Builtin.lenOf;split<;>trivial
theorem Aez (a:Addr)(n:Nat):Pln P (Builtin.holdsCells a n):=by
  unfold Builtin.holdsCells;refine J8 (Aue _) λ_=>?_
  split<;>trivial
theorem Alj (n:Nat):Pln P (askRoom n):=by
  unfold askRoom;split
  · exact Afo
  · trivial
theorem Api (t:TypeId)(vs:Array Value):Pln P (newRow t vs):=by
  unfold newRow;repeat' first | exact trivial | exact Afp _ | (exact λ_=>trivial) | refine J8 ?_ (λ_=>?_) | split
theorem Abt (e:RuntimeError):Pln P (runtimePanic e:Sem α):=by
  unfold runtimePanic;refine J8 (s:=program) trivial λp=>?_
  repeat' first | exact trivial | (exact λ_=>trivial) | refine J8 ?_ (λ_=>?_) | split
theorem Aiw (size sLen n:Nat)(base:Option Addr)(x:Value):Pln P (Builtin.mayShare size sLen n base x):=by
  unfold Builtin.mayShare;repeat' first
    | exact trivial
    | exact Aez _ _
    | exact Apj _
    | refine J8 ?_ (λ_=>?_)
    | refine Aug ?_ ?_
    | split
set_option maxHeartbeats 1000000 in
theorem Apl (ts:Array TypeId)(t:TypeId)(args:Array Value):Pln P (Builtin.append_ ts t args):=by
  unfold Builtin.append_;repeat' first
    | with_reducible exact Axz
    | with_reducible exact Aud _
    | with_reducible exact Ac4 _
    | with_reducible exact Aey _
    | with_reducible exact Aph _
    | with_reducible exact V4 _
    | with_reducible exact Agu _
    | with_reducible exact Aui _
    | with_reducible exact Auf _
    | with_reducible exact Afp _
    | with_reducible exact Afo
    | with_reducible exact Alj _
    | with_reducible exact Api _ _
    | with_reducible exact Abt _
    | with_reducible exact Aiw _ _ _ _ _
    | with_reducible exact Ae0 _ _ _
    | with_reducible exact X4 _ _ _
    | with_reducible refine J8 ?_ (λ_=>?_)
    | with_reducible refine Aug ?_ ?_
    | split
    | dsimp only
end
end Go.Co
namespace Go.Co
open Go.Conc
theorem Ru {w w':World}{base:Nat}{e:TypeId}{size:Nat}{v:Value}{n:Nat}{xs:List Value}(h:w.ownsRow base e size v n xs)(hk:∀k,v.ownBlock=some k->w'.heap[k]?=w.heap[k]?):w'.ownsRow base e size v n xs:=by
 refine⟨h.1,?_⟩;rcases h.2 with hn | ⟨g,cap,cur,hv,hb,hg,rest⟩
 ·exact .inl hn
 ·exact .inr ⟨g,cap,cur,hv,hb,(hk g (by rw[hv];rfl)).trans hg,rest⟩
section
variable {τ : Type}{P : Program}{main : Bool}{Low : Nat}{pre : τ -> World -> Prop}{ok : τ -> (Nat -> Prop) -> World -> Goroutine -> Prop}{fn : FuncId}{Q : Va τ}{a : Act}{x : τ}{O : Nat -> Prop}{w : World}
variable {ops : Array Oper}{i : Nat}{rest : List Nat}{o : Oper}
theorem Ac8 (T:OkL P main Low pre ok)(ho:ops[i]?=some o)(hw:Region.wanted o (yielded ops a.tmps)=true)(s y:Operand)(t:TypeId)(hop:o.op=.call {callee:=.builtin .append,args:=#[s,y],argTypes:=#[t,t]})
  (e:TypeId) (ti:TypeInfo) (z:Value) (size bytes:Nat) (ht:P.underlying t=some (.slice e)) (hi:P.info? e=some ti) (hz:ti.zero=some z) (hsize:ti.size=size) (hby:ti.bytes=bytes) (hzs:z.cells.size=size) (hsz:0<size)
  (v:Value) (n:Nat) (xs:List Value) (hs:a.eval s=v) (hown:w.ownsRow Low e size v n xs) (ny:∀k,v.ownBlock=some k->O k)
  (b c:Nat) (news:List Value) (hx:a.eval y=.slice (some ⟨b,0,none⟩) 1 c) (hl:news.length=size) (og:O b) (hnews:∀j u,news[j]?=some u->w.cell? ⟨b,j,none⟩=some u) (h1:∀u∈news,u.oneCell'=true)
  (h63:n+1<=maxLen) (hbytes:(n+1)*bytes<=140737488355328) {w₀:World} (hF:Held Low w₀ O w)
  (h:∀v' w' O',w'.ownsRow Low e size v' (n+1) (xs++news)->(∀k,v'.ownBlock=some k->O' k)->(∀k,v'.ownBlock=some k->some k=v.ownBlock\/¬O k)->(∀k,O k->O' k)->(∀k,O k->some k≠v.ownBlock->w'.heap[k]?=w.heap[k]?)->Held Low w₀ O' w'->
   Tj ok fn ops rest Q (a.put o.dst v') x O' w'):Tj ok fn ops (i::rest) Q a x O w:=by
 refine V7 T ho hw λw₁ hk _ K hK=>?_
 have hown1:=Ru hown λk hk'=>hk.mine k (ny k hk')
 have hnews1:∀j u,news[j]?=some u->w₁.cell? ((⟨b,0,none⟩:Addr).add j)=some u:=λj u hu=>by
  have:=hnews j u hu
  have e:(⟨b,0,none⟩:Addr).add j=⟨b,j,none⟩:=by unfold Addr.add;split<;>simp_all
  rw[e];rw[<-this];exact World.cell?_of_block (hk.mine b og)
 have hl':news.length=1*size:=omz
 obtain⟨v',w',hr,h2,h3,_,h5⟩:=run_append_own_at (P:=P) w₁ Low t o.type e ti z size bytes ht hi hz hsize hby hzs hsz v n xs hown1 ⟨b,0,none⟩ 1 c news hl' hnews1 h1 h63 hbytes (A4k hF.low hk.size);refine uponK_append s y t hop hs hx hr (hK _ _ ⟨⟨λk hkl hn=>h3.block k hkl λe=>hn (ny k e.symm),h3.size,h3.tape,h3.os,h3.output,λev hev=>?_⟩,?_⟩)
 ·replace hev:=mem_listed hev
  rw[events_append_op s y t hop hs hx] at hev;have hp:=Apk (P:=P) _ (Apl _ _ _) w₁ #[] (λe he=>by simp at he) ev hev;rcases events_append_where w₁ Low t o.type e ti z size bytes ht hi hz hsize hby v n xs hown1 ⟨b,0,none⟩ 1 c news hl' hnews1 h1 h63 hbytes ev hev with⟨ad,e1,h⟩ | ⟨m,rfl,hm⟩
  ·refine .inl ⟨ad,ev.write,?_, .inl (.inl ?_)⟩
   ·obtain⟨loc,wr,sy⟩:=ev
    simp only at e1;subst e1;rw[show sy=false from hp.1 ad rfl]
   ·rcases h with⟨_,h⟩ | h
    ·rw[h];exact og
    ·exact ny _ h.symm
  ·rw[show m=.noRoom from hm];exact .inr rfl
 ·have hF1:=hF.rely hk
  refine h v' w' _ h2 (λk hk'=>?_) (λk hk'=>?_) (λk hk=>.inl hk) (λk sF hne=>(h3.block k (hF1.up k sF) hne).trans (hk.mine k sF)) ⟨λk hkl=>?_,A4k hF1.low h3.size,λk sF=>?_,?_,?_⟩
  ·rcases h5 with h5 | h5
   ·exact .inl (ny k (h5.symm.trans hk'))
   ·have hlt:=(h2.lt k hk').2
    rw[h5] at hk';cases hk';exact .inr ⟨A4d _,hlt⟩
  ·rcases h5 with h5 | h5
   ·exact .inl (hk'.symm.trans h5)
   ·rw[h5] at hk'
    cases hk';exact .inr λhO=>Nat.lt_irrefl _ (hF1.up _ hO)
  ·refine(h3.block k (A37 hkl hF1.low) λe=>?_).trans (hF1.still k hkl)
   have:=(hown1.lt k e.symm).1
   omega
  ·rcases sF with sF | ⟨_,sF⟩
   ·exact A37 (hF1.up k sF) h3.size
   ·exact sF
  ·exact h3.os.trans hF1.os
  ·exact h3.output.trans hF1.out
theorem Awy {w₀ w₁:World}(hF:Held Low w₀ O w)(hR:Keep Low O w w₁)(ob:Obj):
  ∃O1,O1=(λb=>O b\/b=w₁.heap.size)/\Ext Low O O1 w (w₁.alloc ob)/\Held Low w₀ O1 (w₁.alloc ob)/\O1 w₁.heap.size/\Low<=w₁.heap.size/\(∀x,O x->x≠w₁.heap.size)/\(w₁.alloc ob).heap[w₁.heap.size]?=some ob:=
 ⟨_,rfl,hR.ext.trans ((hF.rely hR).ext _),(hF.rely hR).new _, .inr rfl,(hF.rely hR).low,λx hx=>by have:=(hF.rely hR).up x hx;omega,by simp only[World.alloc];exact Array.getElem?_push_size⟩
theorem Ext.row {w w':World}{O':Nat->Prop}{base:Nat}{e:TypeId}{size:Nat}{v:Value}{n:Nat}{xs:List Value}(h:Ext Low O O' w w')(hr:w.ownsRow base e size v n xs)(hO:∀k,v.ownBlock=some k->O k\/k<Low):w'.ownsRow base e size v n xs:=
 Ru hr λk hk=>(hO k hk).elim (h.mine k) (h.still k)
end
end Go.Co
namespace Go.Co
open Go.Conc
section
variable {F:Func}{args:Array Value}{c d:Code}{f:FuncId}{g:Goroutine}{i:Nat}{o:Oper}{ops:Array Oper}{rest:List Nat}
variable {P : Program}{Stop : Goroutine -> World -> Prop}{a : Act}{w : World}{b : Frame}{k : List Item}{cs : List Frame}
def Al (Q:World->Prop)(w:World):Prop:=∃τ d,Q {w with tape:=τ,drawn:=d}
theorem Al.of {Q:World->Prop}(h:Q w):Al Q w:=⟨w.tape,w.drawn,h⟩
theorem Ug (hP:OkP P)(S:Goroutine->World->Prop)(hr:g.status=.running)(hrun:∀g w,S g w->g.status=.running)
  (H:∀τ d,∃n g' w',runN P n (solo g {w with tape:=τ,drawn:=d})=.next (solo g' w')/\S g' w') (h:∀g' w',Al (S g') w'->Comes P g' w' Stop):Comes P g w Stop:=by
 intro gs sl t hF hg;have eH:Way P (λg' w'=>Al (S g') w') g w:=by
  refine Ak2 hP _ (λg' w' ⟨τ,d,hs⟩=>hrun _ _ hs) (λg' w' τ e ⟨τ',d',hs⟩=>⟨τ',d',hs⟩) g hg hr w fun τ d=>?_
  obtain⟨n,g',w',hn,hs⟩:=H τ d;exact⟨n,g',w',hn,Al.of hs⟩
 exact(Aj5 hP eH).then (λg' w' _ hs=>h g' w' hs) gs sl t hF hg
theorem Qu (hP:OkP P){fr fr':Frame}{cs cs':List Frame}(hs:∀w₁,stepG P true (G fr cs) w₁=.go (G fr' cs') w₁ #[])(h:∀w',Al (λx=>x=w) w'->Comes P (G fr' cs') w' Stop):Comes P (G fr cs) w Stop:=by
 refine Ug hP (λg1 w1=>g1=G fr' cs'/\Al (λx=>x=w) w1) rfl (λg w h=>by rw[h.1];rfl) (fun τ d=>?_) ?_
 ·refine⟨1,G fr' cs',{w with tape:=τ,drawn:=d},?_,rfl,⟨w.tape,w.drawn,rfl⟩⟩
  have hst:step P (solo (G fr cs) {w with tape:=τ,drawn:=d})=.next (solo (G fr' cs') {w with tape:=τ,drawn:=d}):=step_lone_go (by rw[show({frame:=fr,callers:=cs,status:=.running,dying:=none}:Goroutine)=G fr cs from rfl,hs];rfl);simp only[runN,hst]
 ·rintro g1 w1 ⟨τ,d,rfl,τ',d',h1⟩
  exact h w1 ⟨τ',d',h1⟩
theorem Qs (hP:OkP P)(h:∀w',Al (λx=>x=w) w'->Comes P (G (b.at a (.code c::.code d::k)) cs) w' Stop):Comes P (G (b.at a (.code (.seq c d)::k)) cs) w Stop:=
 Qu hP (λ_=>stepG_seq) h
theorem Md (hP:OkP P){id:Nat}(h:∀w',Al (λx=>x=w) w'->Comes P (G (b.at a (.inRegion ops (List.range ops.size)::k)) cs) w' Stop):Comes P (G (b.at a (.code (.region id ops false)::k)) cs) w Stop:=
 Qu hP (λ_=>stepG_region) h
theorem Wp (hP:OkP P)(h:∀w',Al (λx=>x=w) w'->Comes P (G (b.at a k) cs) w' Stop):Comes P (G (b.at a (.inRegion ops []::k)) cs) w Stop:=
 Qu hP (λ_=>stepG_region_end) h
theorem Fj (hP:OkP P){v:Value}(ho:ops[i]?=some o)(hw:Region.wanted o (yielded ops a.tmps)=true)(hk:b.kind≠.early)
  (hr:∀w₁:World,(execOp a.eval o).run P w₁=.ok (.value v) w₁) (he:∀w₁:World,(execOp a.eval o).events P w₁ #[]=#[]) (h:∀w',Al (λx=>x=w) w'->Comes P (G (b.at (a.put o.dst v) (.inRegion ops rest::k)) cs) w' Stop):Comes P (G (b.at a (.inRegion ops (i::rest)::k)) cs) w Stop:=by
 refine Qu hP (λw₁=>?_) h;rw[stepG_value ho hw hk (hr w₁)];unfold listed;rw[he,seen_none]
def Uk (P:Program)(f:FuncId)(args:Array Value)(w:World)(Post:Value->World->Prop):Prop:=
 ∀(fr:Frame) (cs:List Frame) (Stop:Goroutine->World->Prop),(∀v w',Post v w'->Comes P (G (fr.finish v) cs) w' Stop)->Comes P (G (Frame.enter P f args .normal) (fr::cs)) w Stop
theorem Yz (hP:OkP P){Post:Value->World->Prop}(h:∀τ d,Calls P f args {w with tape:=τ,drawn:=d} λe w'=>∃v,e=.returned v/\Post v w'):Uk P f args w (λv=>Al (Post v)):=by
 intro fr cs Stop hn;refine Ug hP (λg' w'=>∃v,g'=G (fr.finish v) cs/\Post v w') rfl (λg w ⟨v,h,_⟩=>by rw[h];rfl) (fun τ d=>?_) ?_
 ·obtain⟨e,w',fr',⟨v,rfl,hp⟩,⟨n,hc⟩,_,hl⟩:=h τ d (fr::cs)
  refine⟨n+1,G (fr.finish v) cs,w',?_,v,rfl,hp⟩;rw[runN_add];rw[show solo (G (Frame.enter P f args .normal) (fr::cs)) {w with tape:=τ,drawn:=d}=lone (Frame.enter P f args .normal) (fr::cs) {w with tape:=τ,drawn:=d} from rfl,hc];have:=step_leave_returned (c:=fr) (cs:=cs) hl
  simp only[runN,this];rfl
 ·rintro g' w' ⟨τ,d,v,rfl,hp⟩
  exact hn v w' ⟨τ,d,hp⟩
theorem Uk.mono {Post Post':Value->World->Prop}(h:Uk P f args w Post)(hp:∀v w',Post v w'->Post' v w'):Uk P f args w Post':=
 λfr cs Stop hn=>h fr cs Stop λv w' q=>hn v w' (hp v w' q)
theorem enter_at (args:Array Value)(hf:P.funcs[f]?=some F)(hb:F.body=some c):Frame.enter P f args .normal=(base f).at {tmps:=args++Array.replicate (F.ntmps - args.size) undef,defers:=[]} [.code c]:=by
 simp[Frame.enter,hf,hb,base,Frame.at]
theorem Uh (hP:OkP P){args:Array Operand}{ats:Array TypeId}{vals:Array Value}{Post:Value->World->Prop}(ho:ops[i]?=some o)(hw:Region.wanted o (yielded ops a.tmps)=true)(hk:b.kind≠.early)
  (hop:o.op=.call {callee:=.value (.func f),args,argTypes:=ats}) (hf:P.funcs[f]?=some F) (hbody:F.body=some c) (hargs:args.map a.eval=vals) (hcall:∀w',Al (λx=>x=w) w'->Uk P f vals w' Post)
  (h:∀v w',Post v w'->Comes P (G (b.at (a.put o.dst v) (.inRegion ops rest::k)) cs) w' Stop):Comes P (G (b.at a (.inRegion ops (i::rest)::k)) cs) w Stop:=by
 have hname:=hP.name f F hf;refine Qu hP (fr':=Frame.enter P f vals .normal) (cs':=b.at a (.inRegion ops (i::rest)::k)::cs) (λw₁=>?_) λw' hw'=>hcall w' hw' _ _ _ λv w'' hp=>?_
 ·obtain⟨g',w',es,he,hk'⟩:=goes_elim (goes_call (P:=P) (main:=true) (w:=w₁) (cs:=cs) (k:=k) (rest:=rest) (K:=λg' w' es=>g'=G ((base f).at {tmps:=args.map a.eval++Array.replicate (F.ntmps - (args.map a.eval).size) undef,defers:=[]} [.code c]) (b.at a (.inRegion ops (i::rest)::k)::cs)/\w'=w₁/\es=#[]) ho hw hk hop hf hname hbody ⟨rfl,rfl,rfl⟩)
  obtain⟨rfl,rfl,rfl⟩:=hk';rw[enter_at vals hf hbody,<-hargs];exact he
 ·have hfin:(b.at a (.inRegion ops (i::rest)::k)).finish v=b.at (a.put o.dst v) (.inRegion ops rest::k):=by rw[Frame.finish_at,ho];rfl
  rw[hfin];exact h v w'' hp
theorem Aoa (hP:OkP P){Q:Exit->Act->World->Prop}(hQ:∀e a w,Q e a w->e=.normal\/e=.ret)(h:∀τ d,c.wp P Q a {w with tape:=τ,drawn:=d})
  (hn:∀a' w',Al (Q .normal a') w'->Comes P (G (b.at a' k) cs) w' Stop) (hr:∀a' w' todo,Al (Q .ret a') w'->Comes P (G {b.at a' todo with mode:=.returning} cs) w' Stop):Comes P (G (b.at a (.code c::k)) cs) w Stop:=by
 refine Ug hP (λg' w'=>(∃a',Q .normal a' w'/\g'=G (b.at a' k) cs)\/∃a' todo,Q .ret a' w'/\g'=G {b.at a' todo with mode:=.returning} cs) rfl ?_ (fun τ d=>?_) ?_
 ·rintro g w (⟨_,_,rfl⟩ | ⟨_,_,_,rfl⟩)<;>rfl
 ·obtain⟨e,a',w',hq,harr⟩:=h τ d b k cs
  rcases hQ _ _ _ hq with rfl | rfl
  ·obtain⟨n,hs⟩:=harr
   exact⟨n,_,w',hs, .inl ⟨a',hq,rfl⟩⟩
  ·obtain⟨todo,n,hs⟩:=harr
   exact⟨n,_,w',hs, .inr ⟨a',todo,hq,rfl⟩⟩
 ·rintro g' w' ⟨τ,d,⟨a',hq,rfl⟩ | ⟨a',todo,hq,rfl⟩⟩
  ·exact hn a' w' ⟨τ,d,hq⟩
  ·exact hr a' w' todo ⟨τ,d,hq⟩
def Axf:List Code->Code->Code
 | [],d=>d
 | c::l,d=>.seq c (Axf l d)
def WpL (P:Program)(R:Act->World->Prop):List Code->Act->World->Prop
 | [],a,w=>R a w
 | c::l,a,w=>c.wp P (Exit.then (WpL P R l) λ_ _ _=>False) a w
theorem Aif {R:Act->World->Prop}:∀(l:List Code) (a:Act) (w:World),WpL P R l a w->∃a' w',R a' w'/\Steps P (lone (b.at a (.code (Axf l d)::k)) cs w) (lone (b.at a' (.code d::k)) cs w')
 | [],a,w,h=>⟨a,w,h,Steps.refl _ _⟩
 | c::l,a,w,h=>by
  obtain⟨e,a1,w1,hq,harr⟩:=h b (.code (Axf l d)::k) cs;cases e with
  | normal=>
   obtain⟨a',w',hr,hs⟩:=Aif l a1 w1 hq;exact⟨a',w',hr,(Steps.head step_seq harr).trans hs⟩
  | _=>exact hq.elim
theorem Aa0 (hP:OkP P)(l:List Code){R:Act->World->Prop}(h:∀τ d',WpL P R l a {w with tape:=τ,drawn:=d'})(hn:∀a' w',Al (R a') w'->Comes P (G (b.at a' (.code d::k)) cs) w' Stop):Comes P (G (b.at a (.code (Axf l d)::k)) cs) w Stop:=by
 refine Ug hP (λg' w'=>∃a',R a' w'/\g'=G (b.at a' (.code d::k)) cs) rfl ?_ (fun τ d'=>?_) ?_
 ·rintro g w ⟨_,_,rfl⟩;rfl
 ·obtain⟨a',w',hr,n,hs⟩:=Aif (b:=b) (k:=k) (cs:=cs) (d:=d) l a _ (h τ d')
  exact⟨n,_,w',hs,a',hr,rfl⟩
 ·rintro g' w' ⟨τ,d',a',hr,rfl⟩
  exact hn a' w' ⟨τ,d',hr⟩
theorem Ahc {Post:Value->World->Prop}(hg:OkG g)(h:Comes P g w λg' w'=>∀d,AtEnd P (λ_=>False) 0 Post g' (w'.at d)):
  ∃N last o w' t',runNT P (N+1) (solo g w) #[]=(.ended o w',t')/\runN P N (solo g w)=.next last/\step P last=.ended o w'/\Conc.Good P Post last o w' t':=by
 obtain⟨N,gs',g',w',sl',t',hr,⟨h0,⟨q,hL⟩,B,gU⟩,_,_,hs⟩:=h #[g] none #[] ⟨rfl,⟨_,leavers_one P g⟩,0,past_nil⟩ hg;have hG:Goes P true AtRel (λ_ _ _=>False) (AtEnd P (λ_=>False) B Post) 0 g' w':=by
  rintro w₁ ⟨d,rfl⟩;obtain⟨h1,v,es,h2,h3,h4⟩:=hs d;exact⟨h1,v,es,h2,λe he=>⟨(h3 e he).1,(h3 e he).2.1,(h3 e he).2.2.1,MemAct.low_mono (Nat.zero_le _) (h3 e he).2.2.2⟩,h4⟩
 obtain⟨N2,last,o,w2,t2,r1,r2,r3,r4⟩:=beside_ends (sl:=sl') (λ_ _ _ h=>h.elim) h0 hL gU hG;have hc:crowd #[g] w none=solo g w:=rfl;rw[hc] at hr;refine⟨N+N2,last,o,w2,t2,?_,?_,r3,r4⟩
 ·rw[Nat.add_assoc,runNT_add,hr];exact r1
 ·rw[runN_add]
  have:runN P N (solo g w)=.next (crowd gs' w' sl'):=by rw[<-runNT_fst _ _ _ #[],hr]
  rw[this];exact r2
end
end Go.Co
