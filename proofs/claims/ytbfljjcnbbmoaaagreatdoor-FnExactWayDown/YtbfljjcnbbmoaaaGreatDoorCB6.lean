import Derived.Test.YtbfljjcnbbmoaaaGreatDoorCA6
import Derived.Conc.Beside
namespace Go.Co
def one:Value->Bool
  | .agg _ | .tuple _=>false
  | _=>true
def rt (τ:Nat->Question->Nat)(s e:Nat)(w:World):World:={w with tape:=τ,drawn:=e+(w.drawn - s)}
def _root_.Go.Result.w {α:Type}:Result α->World
  | .ok _ w=>w
  | .halt _ w=>w
def _root_.Go.Result.turn {α:Type}(f:World->World):Result α->Result α
  | .ok a w=>.ok a (f w)
  | .halt h w=>.halt h (f w)
def _root_.Go.Result.cont {α:Type}:Result α->Prop
  | .ok _ _=>True
  | .halt h _=>¬Ada h
def Ag (T τ:Nat->Question->Nat)(s e K:Nat):Prop:=∀j,s+j<K->τ (e+j)=T (s+j)
theorem Ag.mono {T τ:Nat->Question->Nat}{s e K K':Nat}(h:Ag T τ s e K)(hK:K'<=K):Ag T τ s e K':=λj hj=>h j (A37 hj hK)
theorem Ag.at {T τ:Nat->Question->Nat}{s e K n:Nat}(h:Ag T τ s e K)(hs:s<=n)(hn:n<K):τ (e+(n - s))=T n:=by
  have:=h (n - s) omz
  rwa [show s+(n - s)=n by omega] at this
section
variable {α:Type}
variable {P : Program}{τ : Nat -> Question -> Nat}{s e : Nat}
theorem A0k (w:World)(a:Addr)(u:TypeId)(k:Addr)(b:Bool):(rt τ s e w).seen P a u k b=w.seen P a u k b:=rfl
theorem Afk (w:World)(a:Addr)(b:Bool):(rt τ s e w).farLoad P a b=w.farLoad P a b:=rfl
theorem Ail (w:World)(a:Addr)(u:TypeId)(k:Addr)(v:Value)(b:Bool):
    (rt τ s e w).viewStore P a u k v b=match w.viewStore P a u k v b with | .ok (w',l)=>.ok (rt τ s e w',l) | .error x=>.error x:=by
  unfold World.viewStore;rw[A0k];simp only[bind,Except.bind,pure,Except.pure];split
  · rfl
  · cases w.seen P a u k b with
    | error x=>rfl
    | ok x=>
      cases v.bytes? with
      | none=>rfl
      | some bs=>
        simp only;split
        · rfl
        · split<;>(rename_i heq;simp only;try rfl)
theorem Ac2 (w:World)(a:Addr)(v:Value)(b:Bool):
    (rt τ s e w).farStore P a v b=match w.farStore P a v b with | .ok (w',l)=>.ok (rt τ s e w',l) | .error x=>.error x:=by
  unfold World.farStore
  show(match w.heap[a.block]? with
    | some (.view at_ u)=>match (rt τ s e w).viewStore P at_ u a v b with
      | .ok r=>Except.ok r
      | .error why=>Except.error (Halt.unsupported (.unsafePointer why))
    | _=>Except.error (w.noCell a "store: no such cell"))=_
  cases hh:w.heap[a.block]? with
  | none=>rfl
  | some o=>
    cases o<;>first
      | rfl
      | (simp only
         rw[Ail];cases w.viewStore P _ _ a v b with
         | ok x=>obtain⟨x,y⟩:=x;rfl
         | error x=>rfl)
theorem Aos:∀(a:Ask α) (w:World),(w.ask a).2.tape=w.tape/\w.drawn<=(w.ask a).2.drawn:=by
  intro a;induction a with
  | done a=>exact λw=>⟨rfl,A4d _⟩
  | ask what range k ih=>
    intro w;simp only[World.ask];split
    · exact ih 0 w
    · have:=ih ((Question.extern what range).cut (w.tape w.drawn (Question.extern what range))) {w with drawn:=w.drawn+1}
      exact⟨this.1,A4k (Nat.le_succ _) this.2⟩
theorem A1z:∀(a:Ask α) (w:World),s<=w.drawn->Ag w.tape τ s e (w.ask a).2.drawn->(rt τ s e w).ask a=((w.ask a).1,rt τ s e (w.ask a).2):=by
  intro a;induction a with
  | done a=>exact λw _ _=>rfl
  | ask what range k ih=>
    intro w hs hA;simp only[World.ask] at hA ⊢;by_cases hf:(Question.extern what range).forced=true
    · rw[if_pos hf] at hA ⊢
      rw[if_pos hf];exact ih 0 w hs hA
    · rw[if_neg hf] at hA ⊢
      rw[if_neg hf];have h1:=(Aos (k ((Question.extern what range).cut (w.tape w.drawn (Question.extern what range)))) {w with drawn:=w.drawn+1}).2;have h2:(rt τ s e w).tape (rt τ s e w).drawn=w.tape w.drawn:=hA.at hs (A37 (Nat.lt_succ_self _) h1);rw[h2];have h3:({rt τ s e w with drawn:=(rt τ s e w).drawn+1}:World)=rt τ s e {w with drawn:=w.drawn+1}:=by
        simp only[rt];congr 1;omega
      rw[h3];exact ih _ {w with drawn:=w.drawn+1} (A4k hs (Nat.le_succ _)) hA
theorem Ak4 (c:Sys)(w:World)(hs:s<=w.drawn)(hA:Ag w.tape τ s e (w.ask (Kernel.perform c w.os)).2.drawn):(rt τ s e w).sys c=((w.sys c).1,rt τ s e (w.sys c).2):=by
  have h:=A1z (τ:=τ) (s:=s) (e:=e) (Kernel.perform c w.os) w hs hA;unfold World.sys
  show(match (rt τ s e w).ask (Kernel.perform c w.os) with
    | ((.wouldBlock,_),_)=>(SysRet.wouldBlock,rt τ s e w)
    | ((r,os),w)=>(r,{w with os}))=_
  rw[h];generalize w.ask (Kernel.perform c w.os)=x;obtain⟨⟨r,os⟩,w'⟩:=x;cases r<;>rfl
theorem Anh (c:Sys)(w:World):(w.sys c).2.tape=w.tape/\w.drawn<=(w.sys c).2.drawn/\((w.sys c).1≠.wouldBlock->(w.sys c).2.drawn=(w.ask (Kernel.perform c w.os)).2.drawn)/\((w.sys c).1=.wouldBlock->(w.sys c).2.drawn<=(w.ask (Kernel.perform c w.os)).2.drawn):=by
  have h:=Aos (Kernel.perform c w.os) w
  revert h
  unfold World.sys;generalize w.ask (Kernel.perform c w.os)=x;obtain⟨⟨r,os⟩,w'⟩:=x;cases r<;>exact λh=>⟨by first | rfl | exact h.1,by first | exact A4d _ | exact h.2,λhx=>by first | rfl | exact absurd rfl hx,λhx=>by first | exact h.2 | cases hx⟩
structure Axb {α:Type}(P:Program)(x:Sem α)(w:World)(es:Array Event):Prop where
  tape:(x.runT P w es).1.w.tape=w.tape
  le:w.drawn<=(x.runT P w es).1.w.drawn
  loc:∃K,(x.runT P w es).1.w.drawn<=K/\((x.runT P w es).1.cont->K=(x.runT P w es).1.w.drawn)/\
    ∀(τ:Nat->Question->Nat) (s e:Nat),s<=w.drawn->Ag w.tape τ s e K->x.runT P (rt τ s e w) es=((x.runT P w es).1.turn (rt τ s e),(x.runT P w es).2)
theorem Axb.of_eq {x:Sem α}{y:Sem α}{w w':World}{es es':Array Event}(h:Axb P y w' es')(hw:w'.tape=w.tape)(hd:w.drawn<=w'.drawn)
    (e1:x.runT P w es=y.runT P w' es') (e2:∀(τ:Nat->Question->Nat) (s e:Nat),s<=w.drawn->Ag w.tape τ s e w'.drawn->x.runT P (rt τ s e w) es=y.runT P (rt τ s e w') es'):Axb P x w es:=by
  obtain⟨h1,h2,K,h3,h4,h5⟩:=h;refine⟨by rw[e1,h1,hw],by rw[e1];exact A4k hd h2,K,by rw[e1];exact h3,by rw[e1];exact h4,fun τ s e hs hA=>?_⟩;rw[e2 τ s e hs (hA.mono (A4k h2 h3)),e1];exact h5 τ s e (A4k hs hd) (by rw[hw];exact hA)
theorem L8 {N:α->Prop}:∀(x:Sem α) (d:Nat),Sat P N d x->∀(w:World) (es:Array Event),Axb P x w es:=by
  intro x;induction x with
  | pure a=>exact λd _ w es=>⟨rfl,A4d _,w.drawn,A4d _,λ_=>rfl,fun τ s e _ _=>rfl⟩
  | halt h=>exact λd _ w es=>⟨rfl,A4d _,w.drawn,A4d _,λ_=>rfl,fun τ s e _ _=>rfl⟩
  | load m a k ih=>
    intro d hx w es;cases hc:w.cell? a with
    | some v=>
      refine(ih v d (hx v) w (es.push ⟨.cell a,false,m==.atomic⟩)).of_eq rfl (A4d _) ?_ fun τ s e _ _=>?_
      · simp only[Sem.runT,hc]
      · simp only[Sem.runT,show(rt τ s e w).cell? a=some v from hc]
    | none=>
      cases hf:w.farLoad P a (m==.atomic) with
      | ok r=>
        obtain⟨v,l⟩:=r;refine(ih v d (hx v) w (es++l.toArray.map (⟨.cell ·,false,m==.atomic⟩))).of_eq rfl (A4d _) ?_ fun τ s e _ _=>?_
        · simp only[Sem.runT,hc,hf]
        · simp only[Sem.runT,show(rt τ s e w).cell? a=none from hc,Afk,hf]
      | error h=>
        have e1:(Sem.load m a k).runT P w es=(.halt h w,es):=by simp only[Sem.runT,hc,hf]
        refine⟨by rw[e1];rfl,by rw[e1];exact A4d _,w.drawn,by rw[e1];exact A4d _,by rw[e1];exact λ_=>rfl,fun τ s e _ _=>?_⟩;rw[e1];simp only[Sem.runT,show(rt τ s e w).cell? a=none from hc,Afk,hf,Result.turn]
  | store m a v k ih=>
    intro d hx w es;by_cases hv:one v=true
    · have hrun:∀w es,(Sem.store m a v k).runT P w es=match w.cell? a with
          | some _=>if w.frozen? a then(.halt (.unsupported (.unsafePointer "a write to bytes that a string shares")) w,es) else k.runT P (w.setCell a v) (es.push ⟨.cell a,true,m==.atomic⟩)
          | none=>match w.farStore P a v (m==.atomic) with
            | .ok (w,touched)=>k.runT P w (es++touched.toArray.map (⟨.cell ·,true,m==.atomic⟩))
            | .error h=>(.halt h w,es):=by
        intro w es;cases v<;>first | rfl | cases hv
      cases hc:w.cell? a with
      | some u=>
        by_cases hf:w.frozen? a=true
        · have e1:(Sem.store m a v k).runT P w es=(.halt (.unsupported (.unsafePointer "a write to bytes that a string shares")) w,es):=by rw[hrun];simp only[hc,hf,if_true]
          refine⟨by rw[e1];rfl,by rw[e1];exact A4d _,w.drawn,by rw[e1];exact A4d _,by rw[e1];exact λ_=>rfl,fun τ s e _ _=>?_⟩;rw[e1,hrun];simp only[show(rt τ s e w).cell? a=some u from hc,show(rt τ s e w).frozen? a=true from hf,if_true,Result.turn]
        · refine(ih d hx (w.setCell a v) (es.push ⟨.cell a,true,m==.atomic⟩)).of_eq rfl (A4d _) ?_ fun τ s e _ _=>?_
          · rw[hrun];simp only[hc,hf,if_false,A4e]
          · rw[hrun];simp only[show(rt τ s e w).cell? a=some u from hc,show(rt τ s e w).frozen? a=w.frozen? a from rfl,hf,if_false,A4e];rfl
      | none=>
        cases hf:w.farStore P a v (m==.atomic) with
        | ok r=>
          obtain⟨w',l⟩:=r;have hw':w'.tape=w.tape/\w'.drawn=w.drawn:=by
            unfold World.farStore at hf;split at hf
            · split at hf
              · rename_i x hx1
                cases hf
                revert hx1
                unfold World.viewStore;simp only[bind,Except.bind,pure,Except.pure];split
                · intro h;cases h
                · split
                  · intro h;cases h
                  · split
                    · split
                      · intro h;cases h
                      · split
                        · intro h;cases h
                        · intro h;cases h;exact⟨rfl,rfl⟩
                    · intro h;cases h
              · cases hf
            · cases hf
          refine(ih d hx w' (es++l.toArray.map (⟨.cell ·,true,m==.atomic⟩))).of_eq hw'.1 (by rw[hw'.2];exact A4d _) ?_ fun τ s e _ _=>?_
          · rw[hrun];simp only[hc,hf]
          · rw[hrun];simp only[show(rt τ s e w).cell? a=none from hc,Ac2,hf]
        | error h=>
          have e1:(Sem.store m a v k).runT P w es=(.halt h w,es):=by rw[hrun];simp only[hc,hf]
          refine⟨by rw[e1];rfl,by rw[e1];exact A4d _,w.drawn,by rw[e1];exact A4d _,by rw[e1];exact λ_=>rfl,fun τ s e _ _=>?_⟩;rw[e1,hrun];simp only[show(rt τ s e w).cell? a=none from hc,Ac2,hf,Result.turn]
    · have hrun:∀w es,(Sem.store m a v k).runT P w es=(.halt (.stuck "store: not the value of one cell") w,es):=by
        intro w es;cases v<;>first | rfl | exact absurd rfl hv
      refine⟨by rw[hrun];rfl,by rw[hrun];exact A4d _,w.drawn,by rw[hrun];exact A4d _,by rw[hrun];exact λ_=>rfl,fun τ s e _ _=>?_⟩;rw[hrun,hrun];rfl
  | new o k ih=>
    intro d hx w es;exact(ih w.heap.size d (hx _) {w with heap:=w.heap.push o} es).of_eq rfl (A4d _) rfl fun τ s e _ _=>rfl
  | shape r k ih=>
    intro d hx w es;exact(ih _ d (hx (w.shape? r)) w es).of_eq rfl (A4d _) rfl fun τ s e _ _=>rfl
  | freeze a n k ih=>
    intro d hx w es;refine(ih d hx (w.freeze a n) es).of_eq ?_ ?_ rfl fun τ s e _ _=>?_
    · unfold World.freeze;split<;>rfl
    · unfold World.freeze;split<;>exact A4d _
    · have:(rt τ s e w).freeze a n=rt τ s e (w.freeze a n):=by unfold World.freeze;split<;>rfl
      simp only[Sem.runT,this]
  | frozen a k ih=>
    intro d hx w es;exact(ih _ d (hx (w.frozen? a)) w es).of_eq rfl (A4d _) rfl fun τ s e _ _=>rfl
  | getObj r k ih=>
    intro d hx w es;have hrt:∀(τ:Nat->Question->Nat) (s e:Nat),(rt τ s e w).heap[r]?=w.heap[r]?:=λ_ _ _=>rfl
    cases hr:w.heap[r]? with
    | none=>
      have e1:(Sem.getObj r k).runT P w es=(.halt (.stuck "getObj: no such block") w,es):=by simp only[Sem.runT,hr]
      refine⟨by rw[e1];rfl,by rw[e1];exact A4d _,w.drawn,by rw[e1];exact A4d _,by rw[e1];exact λ_=>rfl,fun τ s e _ _=>?_⟩;rw[e1];simp only[Sem.runT,hrt,hr,Result.turn]
    | some o=>
      by_cases ho:∃c t f,o=.cells c t f
      · obtain⟨c,t,f,rfl⟩:=ho
        have e1:(Sem.getObj r k).runT P w es=(.halt (.stuck "getObj: a row of cells") w,es):=by simp only[Sem.runT,hr]
        refine⟨by rw[e1];rfl,by rw[e1];exact A4d _,w.drawn,by rw[e1];exact A4d _,by rw[e1];exact λ_=>rfl,fun τ s e _ _=>?_⟩;rw[e1];simp only[Sem.runT,hrt,hr,Result.turn]
      · refine(ih o d (hx o) w (es.push ⟨.obj r,false,o.isChan⟩)).of_eq rfl (A4d _) ?_ fun τ s e _ _=>?_
        · cases o<;>first | (exact absurd ⟨_,_,_,rfl⟩ ho) | simp only[Sem.runT,hr]
        · cases o<;>first | (exact absurd ⟨_,_,_,rfl⟩ ho) | simp only[Sem.runT,hrt,hr]
  | setObj r o k ih=>
    intro d hx w es;have hrt:∀(τ:Nat->Question->Nat) (s e:Nat),(rt τ s e w).heap[r]?=w.heap[r]?:=λ_ _ _=>rfl
    cases hr:w.heap[r]? with
    | none=>
      have e1:(Sem.setObj r o k).runT P w es=(.halt (.stuck "setObj: no such block") w,es):=by simp only[Sem.runT,hr]
      refine⟨by rw[e1];rfl,by rw[e1];exact A4d _,w.drawn,by rw[e1];exact A4d _,by rw[e1];exact λ_=>rfl,fun τ s e _ _=>?_⟩;rw[e1];simp only[Sem.runT,hrt,hr,Result.turn]
    | some u=>
      by_cases ho:∃c t f,u=.cells c t f
      · obtain⟨c,t,f,rfl⟩:=ho
        have e1:(Sem.setObj r o k).runT P w es=(.halt (.stuck "setObj: a row of cells") w,es):=by simp only[Sem.runT,hr]
        refine⟨by rw[e1];rfl,by rw[e1];exact A4d _,w.drawn,by rw[e1];exact A4d _,by rw[e1];exact λ_=>rfl,fun τ s e _ _=>?_⟩;rw[e1];simp only[Sem.runT,hrt,hr,Result.turn]
      · refine(ih d hx {w with heap:=w.heap.setIfInBounds r o} (es.push ⟨.obj r,true,o.isChan⟩)).of_eq rfl (A4d _) ?_ fun τ s e _ _=>?_
        · cases u<;>first | (exact absurd ⟨_,_,_,rfl⟩ ho) | simp only[Sem.runT,hr]
        · cases u<;>first | (exact absurd ⟨_,_,_,rfl⟩ ho) | (simp only[Sem.runT,hrt,hr];rfl)
  | choose q k ih=>
    intro d hx w es;by_cases hf:q.forced=true
    · refine(ih 0 d (hx 0) w es).of_eq rfl (A4d _) ?_ fun τ s e _ _=>?_
      · simp only[Sem.runT,hf,if_true]
      · simp only[Sem.runT,hf,if_true]
    · refine(ih (q.cut (w.tape w.drawn q)) d (hx _) {w with drawn:=w.drawn+1} es).of_eq rfl (Nat.le_succ _) ?_ fun τ s e hs hA=>?_
      · simp only[Sem.runT,hf,if_false,A4e]
      · have h2:(rt τ s e w).tape (rt τ s e w).drawn=w.tape w.drawn:=hA.at hs (Nat.lt_succ_self _)
        have h3:({rt τ s e w with drawn:=(rt τ s e w).drawn+1}:World)=rt τ s e {w with drawn:=w.drawn+1}:=by
          simp only[rt];congr 1;omega
        simp only[Sem.runT,hf,if_false,A4e,h2,h3]
  | sys c k ih=>
    intro d hx w es;obtain⟨k1,k2,k3,k4⟩:=Anh c w;by_cases hb:(w.sys c).1=.wouldBlock
    · have hh:=hx.1
      obtain⟨h,hk,hok⟩:∃h,k .wouldBlock=.halt h/\Ada h:=by
        revert hh
        cases k .wouldBlock<;>first | (intro x;exact⟨_,rfl,x⟩) | (intro x;cases x)
      have e1:(Sem.sys c k).runT P w es=(.halt h (w.sys c).2,es.push ⟨.output,true,false⟩):=by simp only[Sem.runT,hb,hk]
      refine⟨by rw[e1];exact k1,by rw[e1];exact k2,(w.ask (Kernel.perform c w.os)).2.drawn,by rw[e1];exact k4 hb,by rw[e1];exact λx=>absurd hok x,fun τ s e hs hA=>?_⟩;rw[e1];simp only[Sem.runT,Ak4 c w hs hA,hb,hk,Result.turn]
    · refine(ih _ d (hx.2 (w.sys c).1) (w.sys c).2 (es.push ⟨.output,true,false⟩)).of_eq k1 k2 ?_ fun τ s e hs hA=>?_
      · simp only[Sem.runT]
      · simp only[Sem.runT,Ak4 c w hs (by rw[k3 hb] at hA;exact hA)]
  | program k ih=>exact λd hx w es=>(ih P d hx w es).of_eq rfl (A4d _) rfl fun τ s e _ _=>rfl
  | mark m k ih=>exact λd hx w es=>(ih _ hx w (es.push ⟨.mark m,false,true⟩)).of_eq rfl (A4d _) rfl fun τ s e _ _=>rfl
end
end Go.Co
namespace Go.Co
def _root_.Go.GStep.w:GStep->World
 | .go _ w _ | .comm _ _ _ _ w _ | .spawn _ _ w _ | .count _ w _ | .timer _ _ w _ | .alone _ _ w _ | .newcoro _ _ _ w _ | .coroswitch _ _ _ w _ | .collect _ w _ | .watch _ w _ | .ended _ w _=>w
def _root_.Go.GStep.turn (f:World->World):GStep->GStep
 | .go g w es=>.go g (f w) es
 | .comm g c b sh w es=>.comm g c b sh (f w) es
 | .spawn g ch w es=>.spawn g ch (f w) es
 | .count g w es=>.count g (f w) es
 | .timer g op w es=>.timer g op (f w) es
 | .alone g b w es=>.alone g b (f w) es
 | .newcoro g c d w es=>.newcoro g c d (f w) es
 | .coroswitch g c x w es=>.coroswitch g c x (f w) es
 | .collect g w es=>.collect g (f w) es
 | .watch g w es=>.watch g (f w) es
 | .ended o w es=>.ended o (f w) es
def _root_.Go.GStep.cont:GStep->Prop
 | .go g _ _=>g.status=.running
 | .ended ..=>False
 | _=>True
theorem Aco (es:Array Event)(x:GStep):(GStep.after es x).w=x.w:=by cases x<;>rfl
theorem Afe (f:World->World)(es:Array Event)(x:GStep):(GStep.after es x).turn f=GStep.after es (x.turn f):=by cases x<;>rfl
theorem Gq (es:Array Event)(x:GStep):(GStep.after es x).cont=x.cont:=by cases x<;>rfl
structure Gf (F:World->GStep)(w:World):Prop where
 tape:(F w).w.tape=w.tape
 le:w.drawn<=(F w).w.drawn
 loc:∃K,(F w).w.drawn<=K/\((F w).cont->K=(F w).w.drawn)/\∀(τ:Nat->Question->Nat) (s e:Nat),s<=w.drawn->Ag w.tape τ s e K->F (rt τ s e w)=(F w).turn (rt τ s e)
section
variable {α:Type}
variable {P : Program}{F G : World -> GStep}{w : World}
theorem Gf.const (h1:(F w).w.tape=w.tape)(h2:(F w).w.drawn=w.drawn)(h:∀(τ:Nat->Question->Nat) (s e:Nat),s<=w.drawn->F (rt τ s e w)=(F w).turn (rt τ s e)):Gf F w:=
 ⟨h1,by rw[h2];exact A4d _,w.drawn,by rw[h2];exact A4d _,λ_=>h2.symm,fun τ s e hs _=>h τ s e hs⟩
theorem Gf.congr (h:Gf G w)(e:∀w,F w=G w):Gf F w:=by
 have :=funext e;rw[this];exact h
theorem Gf.after (es:Array Event)(h:Gf F w):Gf (λw=>GStep.after es (F w)) w:=by
 obtain⟨h1,h2,K,h3,h4,h5⟩:=h;refine⟨by rw[Aco];exact h1,by rw[Aco];exact h2,K,by rw[Aco];exact h3,by rw[Aco,Gq];exact h4,fun τ s e hs hA=>?_⟩;show GStep.after es (F (rt τ s e w))=(GStep.after es (F w)).turn (rt τ s e)
 rw[Afe,h5 τ s e hs hA]
def _root_.Go.Result.put {α:Type}(w:World):Result α->Result α
 | .ok a _=>.ok a w
 | .halt h _=>.halt h w
theorem Gf.bind {x:Sem α}(H:Result α->Array Event->GStep)(es:Array Event)(hx:Axb P x w es)
  (hH:Gf (λw'=>H ((x.runT P w es).1.put w') (x.runT P w es).2) (x.runT P w es).1.w)
  (hc:(H (x.runT P w es).1 (x.runT P w es).2).cont->(x.runT P w es).1.cont):Gf (λw=>H (x.runT P w es).1 (x.runT P w es).2) w:=by
 obtain⟨h1,h2,K,h3,h4,h5⟩:=hx;have hput:(x.runT P w es).1.put (x.runT P w es).1.w=(x.runT P w es).1:=by cases (x.runT P w es).1<;>rfl
 obtain⟨g1,g2,L,g3,g4,g5⟩:=hH;simp only[hput] at g1 g2 g3 g4 g5;refine⟨g1.trans h1,A4k h2 g2,max K L,A4k g3 (Nat.le_max_right _ _),λc=>?_,fun τ s e hs hA=>?_⟩
 ·have hk:=h4 (hc c)
  have hl:=g4 c;rw[hk,hl];exact Nat.max_eq_right g2
 ·have e1:=h5 τ s e hs (hA.mono (Nat.le_max_left _ _))
  have e2:=g5 τ s e (A4k hs h2) (by rw[h1];exact hA.mono (Nat.le_max_right _ _));simp only[e1];have hturn:(x.runT P w es).1.turn (rt τ s e)=(x.runT P w es).1.put (rt τ s e (x.runT P w es).1.w):=by cases (x.runT P w es).1<;>rfl
  rw[hturn];exact e2
theorem Gf.bindR {x:Sem α}(H:Result α->GStep)(hx:Axb P x w #[])
  (hH:Gf (λw'=>H ((x.run P w).put w')) (x.run P w).w)
  (hc:(H (x.run P w)).cont->(x.run P w).cont):Gf (λw=>H (x.run P w)) w:=by
 have e:∀w,(x.runT P w #[]).1=x.run P w:=λw=>by rw[Sem.runT_eq]
 have:=Gf.bind (P:=P) (w:=w) (λr _=>H r) #[] hx (by simp only[e];exact hH) (by simp only[e];exact hc)
 simp only[e] at this;exact this
end
end Go.Co
namespace Go.Co
section
variable {P : Program}{w : World}
def Wy (F:World->GStep):Prop:=∀w,(F w).w=w/\∀f:World->World,F (f w)=(F w).turn f
theorem Wy.loc {F:World->GStep}(h:Wy F)(w:World):Gf F w:=Gf.const (by rw[(h w).1]) (by rw[(h w).1]) (fun τ s e _=>(h w).2 (rt τ s e))
theorem Dw (g:Goroutine)(es:Array Event):Wy (λw=>.go g w es):=λ_=>⟨rfl,λ_=>rfl⟩
theorem Be (o:Outcome)(es:Array Event):Wy (λw=>.ended o w es):=λ_=>⟨rfl,λ_=>rfl⟩
theorem Ti (main:Bool)(fr:Frame)(cs:List Frame)(dy:Option Dying)(v:Value):Wy (λw=>doReturn P main fr cs dy v w):=by
 intro w;unfold doReturn;dsimp only;split
 ·split
  ·exact⟨rfl,λ_=>rfl⟩
  ·exact⟨rfl,λ_=>rfl⟩
  ·exact⟨rfl,λ_=>rfl⟩
  ·exact⟨rfl,λ_=>rfl⟩
 ·split
  ·exact⟨rfl,λ_=>rfl⟩
  ·exact⟨rfl,λ_=>rfl⟩
  ·split
   ·exact⟨rfl,λ_=>rfl⟩
   ·split<;>exact⟨rfl,λ_=>rfl⟩
theorem Ue (fr:Frame)(v:Value):Wy (λw=>endPrinting P fr v w):=by
 intro w;unfold endPrinting;dsimp only;split<;>exact⟨rfl,λ_=>rfl⟩
theorem Vo (s:ByteArray):Calm P (withAddress s):=by
 unfold withAddress;exact Calm.bind Jy λ_=>Ae
theorem Vp:∀(l:List PanicEntry) (b:Bool),Calm P (reportChain l b):=by
 intro l;induction l with
 | nil=>exact λ_=>Ae
 | cons x l ih=>
  intro b;unfold reportChain;repeat' first
   | exact Ae
   | exact ih _
   | exact Jf
   | exact Jy
   | exact Aj7
   | refine Calm.bind ?_ (λ_=>?_)
   | split
theorem Abl (fn:Func)(tmps:Array Value):Calm P (results fn tmps):=by
 unfold results;refine Calm.bind (Gu _ λr=>?_) λ_=>Ae
 cases r with
 | tmp t=>exact Ae
 | cell a t=>exact Calm.bind (Amt _) λ_=>Aj8 _ _
theorem Calm.loc {α:Type}{x:Sem α}(h:Calm P x)(w:World)(es:Array Event):Axb P x w es:=L8 x 0 h w es
theorem Abd (fr:Frame)(cs:List Frame)(dy:Option Dying)(m:String)(w:World):Gf (λw=>endFatal P fr cs dy m w) w:=by
 unfold endFatal;dsimp only
 refine Gf.bindR (λr=>match r with
  | .ok (texts,tabs) w=>dieOf fr (panicPieces texts++tabs) m true w
  | .halt (.unsupported u) w=>.ended (.unsupported u "") w
  | .halt _ w=>.ended (.stuck "the report of a panic" "") w) (Calm.loc ?_ w #[]) ?_ ?_
 ·have hraw:∀vs:List (Value × String),Calm P (vs.mapM λ(v,mark)=>match panicText P true v with
    | .text s=>(pure (s,mark):Sem (ByteArray × String))
    | .address s=>do pure (<-withAddress s,mark)
    | _=>unsupported (.noEntry "a fatal error during a panic whose value the report cannot show")):=by
   intro vs;refine Gt _ λx=>?_
   obtain⟨v,mk⟩:=x;dsimp only;split
   ·exact Ae
   ·exact Calm.bind (Vo _) λ_=>Ae
   ·exact Jf
  split
  ·exact Ae
  ·exact Calm.bind (Vp _ _) λ_=>Calm.bind (hraw _) λ_=>Ae
  ·exact Calm.bind (hraw _) λ_=>Ae
  ·exact Jf
 ·generalize Sem.run P _ w=r
  cases r with
  | ok a w'=>obtain⟨a,b⟩:=a;exact(show Wy _ from λ_=>⟨rfl,λ_=>rfl⟩).loc _
  | halt h w'=>cases h<;>exact(Be _ _).loc _
 ·generalize Sem.run P _ w=r
  cases r with
  | ok a w'=>exact λ_=>trivial
  | halt h w'=>cases h<;>exact λx=>x.elim
theorem Jv (τ:Nat->Question->Nat)(s e:Nat)(w:World):∀(n:Nat) (f:FuncId),P.found (rt τ s e w) n f=P.found w n f:=by
 intro n;induction n with
 | zero=>exact λ_=>rfl
 | succ n ih=>
  intro f;unfold Program.found;have:(λfh=>P.found (rt τ s e w) n fh)=λfh=>P.found w n fh:=funext ih
  simp only[this];rfl
theorem Ahf (τ:Nat->Question->Nat)(s e:Nat)(w:World):∀(n:Nat) (l m:List FuncId),P.brought (rt τ s e w) n l m=P.brought w n l m:=by
 intro n;induction n with
 | zero=>exact λl m=>by unfold Program.brought;cases l<;>rfl
 | succ n ih=>
  intro l m;cases l with
  | nil=>unfold Program.brought;rfl
  | cons f l=>
   unfold Program.brought;simp only[ih];rfl
end
end Go.Co
namespace Go.Co
section
variable {P : Program}{w : World}
theorem Gf.like {F G:World->GStep}(h:Gf G w)(e1:F w=G w)(e2:∀(τ:Nat->Question->Nat) (s e:Nat),F (rt τ s e w)=G (rt τ s e w)):Gf F w:=by
 obtain⟨h1,h2,K,h3,h4,h5⟩:=h;exact⟨by rw[e1];exact h1,by rw[e1];exact h2,K,by rw[e1];exact h3,by rw[e1];exact h4,fun τ s e hs hA=>by rw[e2,e1];exact h5 τ s e hs hA⟩
theorem zv {p:Prop}(h:p:=by
 simp only[show ¬(((P.code? f).bind λc=>(readies c).getLast?).bind (rt τ s e w).shape?).isSome=true from h4,if_false,Jv,hf,A4e];try rfl):p:=h
theorem zn0 {p:Prop}(h:p:=by
 generalize Sem.run P _ w=r
 cases r with
 | ok a w'=>exact λ_=>trivial
 | halt h w'=>exact λx=>x.elim):p:=h
theorem Au1 (fr:Frame)(cs:List Frame)(dy:Option Dying)(g:Nat)(w:World):Gf (λw=>early P fr cs dy g w) w:=by
 have hny:∀w,Gf (λw=>match w.heap[g]? with
   | some (.pending c elem)=>GStep.go {frame:=fr,callers:=cs,status:=.running,dying:=dy} {w with heap:=w.heap.setIfInBounds g (.cells c elem)}
   | _=>.ended (.stuck "early: the variable does not wait" (fr.pos P)) w) w:=by
  intro w;refine Gf.const ?_ ?_ fun τ s e _=>?_
  ·split<;>rfl
  ·split<;>rfl
  ·show(match w.heap[g]? with
    | some (.pending c elem)=>GStep.go _ {rt τ s e w with heap:=w.heap.setIfInBounds g (.cells c elem)} _
    | _=>GStep.ended _ (rt τ s e w) _)=_
   split<;>(rename_i heq;try simp only)<;>first | rfl | skip
 have hth:∀f w,Gf (λw=>GStep.go {frame:=Frame.enter P f #[] .early,callers:=(if(P.code? f).any P.plainData then(P.brought w (2*P.funcs.size+1) [f] []).drop 1 else []).map (Frame.enter P · #[] .early)++fr::cs,status:=.running,dying:=dy} w #[]) w:=by
  intro f w;refine Gf.const rfl rfl fun τ s e _=>?_
  simp only[Ahf,GStep.turn]
 unfold early;dsimp only;by_cases h1:(!P.follows .staticDataAhead)=true
 ·simp only[h1,if_true];exact hny w
 ·simp only[h1,if_false,A4e]
  cases h2:P.stepOf g with
  | none=>exact(Be _ _).loc w
  | some f=>
   simp only;by_cases h3:((P.code? f).any P.atRunTime)=true
   ·simp only[h3,if_true];exact hny w
   ·simp only[h3,if_false,A4e]
    by_cases h4:((((P.code? f).bind λc=>(readies c).getLast?).bind w.shape?).isSome)=true
    ·refine(hny w).like ?_ fun τ s e=>?_
     ·simp only[h4,if_true];try rfl
     ·simp only[show(((P.code? f).bind λc=>(readies c).getLast?).bind (rt τ s e w).shape?).isSome=true from h4,if_true];try rfl
    ·generalize hk:(fr.kind==CallKind.early)=kk
     have hend:Gf (λw=>GStep.ended (.unsupported (.initOrder g) (fr.pos P)) w #[]) w:=(Be _ _).loc w;cases hf:P.found w P.funcs.size f<;>cases kk
     ·refine hend.like ?_ fun τ s e=>?_
      ·simp only[h4,if_false,A4e,hf];try rfl
      ·exact zv
     ·refine hend.like ?_ fun τ s e=>?_
      ·simp only[h4,if_false,A4e,hf];try rfl
      ·exact zv
     ·refine(hny w).like ?_ fun τ s e=>?_
      ·simp only[h4,if_false,A4e,hf];try rfl
      ·exact zv
     ·refine hend.like ?_ fun τ s e=>?_
      ·simp only[h4,if_false,A4e,hf];try rfl
      ·exact zv
     ·by_cases h6:(P.code? f).any P.plainData=true
      ·refine(hth f w).like ?_ fun τ s e=>?_
       ·simp only[h4,if_false,A4e,hf,h6,if_true];try rfl
       ·simp only[show ¬(((P.code? f).bind λc=>(readies c).getLast?).bind (rt τ s e w).shape?).isSome=true from h4,if_false,Jv,hf,h6,if_true,A4e];try rfl
      ·by_cases h7:(!(P.code? f).any P.bareCopy)=true
       ·refine(hny w).like ?_ fun τ s e=>?_
        ·simp only[h4,if_false,A4e,hf,h6,h7,if_true];try rfl
        ·simp only[show ¬(((P.code? f).bind λc=>(readies c).getLast?).bind (rt τ s e w).shape?).isSome=true from h4,if_false,A4e,Jv,hf,h6,h7,if_true];try rfl
       ·have hb:Gf (λw=>(λr:Result Nat=>match r with
         | .ok 0 w=>(match w.heap[g]? with
           | some (.pending c elem)=>GStep.go {frame:=fr,callers:=cs,status:=.running,dying:=dy} {w with heap:=w.heap.setIfInBounds g (.cells c elem)}
           | _=>.ended (.stuck "early: the variable does not wait" (fr.pos P)) w)
         | .ok _ w=>GStep.go {frame:=Frame.enter P f #[] .early,callers:=(if(P.code? f).any P.plainData then(P.brought w (2*P.funcs.size+1) [f] []).drop 1 else []).map (Frame.enter P · #[] .early)++fr::cs,status:=.running,dying:=dy} w #[]
         | .halt _ w=>.ended (.stuck "early" (fr.pos P)) w) ((choose (.early g)).run P w)) w:=by
         refine Gf.bindR (P:=P) (w:=w) (x:=choose (.early g)) (λr:Result Nat=>match r with
          | .ok 0 w=>(match w.heap[g]? with
            | some (.pending c elem)=>GStep.go {frame:=fr,callers:=cs,status:=.running,dying:=dy} {w with heap:=w.heap.setIfInBounds g (.cells c elem)}
            | _=>.ended (.stuck "early: the variable does not wait" (fr.pos P)) w)
          | .ok _ w=>GStep.go {frame:=Frame.enter P f #[] .early,callers:=(if(P.code? f).any P.plainData then(P.brought w (2*P.funcs.size+1) [f] []).drop 1 else []).map (Frame.enter P · #[] .early)++fr::cs,status:=.running,dying:=dy} w #[]
          | .halt _ w=>.ended (.stuck "early" (fr.pos P)) w) (Calm.loc Jy w #[]) ?_ ?_
         ·generalize Sem.run P _ w=r
          cases r with
          | ok a w'=>cases a with
           | zero=>exact hny w'
           | succ a=>exact hth f w'
          | halt h w'=>exact(Be _ _).loc _
         ·exact zn0
        refine hb.like ?_ fun τ s e=>?_
        ·simp only[h4,if_false,A4e,hf,h6,h7];rfl
        ·simp only[show ¬(((P.code? f).bind λc=>(readies c).getLast?).bind (rt τ s e w).shape?).isSome=true from h4,if_false,A4e,Jv,hf,h6,h7];rfl
     ·refine(hth f w).like ?_ fun τ s e=>?_
      ·simp only[h4,if_false,A4e,hf];try rfl
      ·exact zv
end
end Go.Co
namespace Go.Co
section
variable {P : Program}{w : World}
def Ao2 {α:Type}:Result α->Sem α
 | .ok a _=>.pure a
 | .halt h _=>.halt h
def Zo {α:Type}(es:Array Event):Result α->Array Event
 | .halt .blocked _ | .halt .waiting _ | .halt (.unsupported (.initOrder _)) _=>#[]
 | _=>es
theorem Ht (fn:FuncId):seen P fn #[]=#[]:=rfl
theorem Gi (x:GStep):GStep.after #[] x=x:=by cases x<;>simp[GStep.after]
theorem Aou (fr:Frame)(cs:List Frame)(dy:Option Dying)(x:Sem Next)(w:World):
  stepG.apply P true fr cs dy x w=GStep.after (seen P fr.fn (if fr.kind==.early then #[] else Zo (x.runT P w #[]).2 (x.runT P w #[]).1)) (stepG.apply P true fr cs dy (Ao2 (x.runT P w #[]).1) (x.runT P w #[]).1.w):=by
 generalize hr:x.runT P w #[]=r;obtain⟨r,es⟩:=r;cases r with
 | ok a w'=>
  unfold stepG.apply;simp only[hr,if_true,Ao2,Sem.runT,Result.w,Zo,ite_self,Ht,Gi]
 | halt h w'=>
  unfold stepG.apply;simp only[hr,if_true,Ao2,Sem.runT,Result.w];cases h with
  | unsupported u=>cases u<;>simp only[Zo,ite_self,Ht,Gi]
  | _=>simp only[Zo,ite_self,Ht,Gi]
theorem Ae8 (fr:Frame)(cs:List Frame)(dy:Option Dying)(a:Next):Wy (λw=>stepG.apply P true fr cs dy (.pure a) w):=by
 intro w;unfold stepG.apply;simp only[if_true,Sem.runT,ite_self,Ht,Gi];cases a<;>dsimp only<;>repeat' first
  | exact⟨rfl,λ_=>rfl⟩
  | split
theorem Ae3 (fr:Frame)(cs:List Frame)(dy:Option Dying)(h:Halt)(w:World):Gf (λw=>stepG.apply P true fr cs dy (.halt h) w) w:=by
 unfold stepG.apply;simp only[if_true,Sem.runT];cases h<;>(try dsimp only)<;>(try simp only[ite_self,Ht,Gi])<;>first
  | exact(Dw _ _).loc _
  | exact(Be _ _).loc _
  | exact Abd _ _ _ _ _
  | exact Wy.loc (λ_=>⟨rfl,λ_=>rfl⟩) _
  | skip
 rename_i u;cases u<;>(try dsimp only)<;>(try simp only[ite_self,Ht,Gi])<;>first
  | exact(Be _ _).loc _
  | exact Au1 _ _ _ _ _
theorem Wn (fr:Frame)(cs:List Frame)(dy:Option Dying)(h:Halt)(w:World)(hc:(stepG.apply P true fr cs dy (.halt h) w).cont):¬Ada h:=by
 revert hc
 unfold stepG.apply;simp only[if_true,Sem.runT];cases h<;>(try dsimp only)<;>(try simp only[ite_self,Ht,Gi])<;>first
  | exact λ_ x=>x
  | (intro x;exact x.elim)
  | (intro x;cases x)
  | skip
 rename_i u;cases u<;>(try dsimp only)<;>(try simp only[ite_self,Ht,Gi])<;>first
  | exact λ_ x=>x
  | (intro x;exact x.elim)
theorem Tz (fr:Frame)(cs:List Frame)(dy:Option Dying)(x:Sem Next)(w:World)(hx:Axb P x w #[]):Gf (λw=>stepG.apply P true fr cs dy x w) w:=by
 refine Gf.congr (G:=λw=>(λ(r:Result Next) es=>GStep.after (seen P fr.fn (if fr.kind==.early then #[] else Zo es r)) (stepG.apply P true fr cs dy (Ao2 r) r.w)) (x.runT P w #[]).1 (x.runT P w #[]).2) ?_ (Aou fr cs dy x);refine Gf.bind (P:=P) (x:=x) (λ(r:Result Next) es=>GStep.after (seen P fr.fn (if fr.kind==.early then #[] else Zo es r)) (stepG.apply P true fr cs dy (Ao2 r) r.w)) #[] hx ?_ ?_
 ·generalize x.runT P w #[]=r
  obtain⟨r,es⟩:=r;cases r with
  | ok a w'=>exact Gf.like (G:=λw=>GStep.after (seen P fr.fn (if fr.kind==.early then #[] else es)) (stepG.apply P true fr cs dy (.pure a) w)) (Gf.after _ ((Ae8 fr cs dy a).loc w')) rfl λ_ _ _=>rfl
  | halt h w'=>
   refine Gf.like (G:=λw=>GStep.after (seen P fr.fn (if fr.kind==.early then #[] else Zo es (Result.halt h w':Result Next))) (stepG.apply P true fr cs dy (.halt h) w)) (Gf.after _ (Ae3 fr cs dy h w')) rfl fun τ s e=>?_
   have:∀w'',Zo es (Result.halt h w'':Result Next)=Zo es (Result.halt h w':Result Next):=by
    intro w'';cases h<;>first | rfl | (rename_i u;cases u<;>rfl)
   simp only[Result.put,this];rfl
 ·rw[Gq]
  generalize x.runT P w #[]=r;obtain⟨r,es⟩:=r;cases r with
  | ok a w'=>exact λ_=>trivial
  | halt h w'=>exact λc=>Wn fr cs dy h w' c
end
end Go.Co
namespace Go.Co
def Vg:Item->Prop
 | .call _ _ r _=>r= "runtime.print$piece"
 | .extern r _=>r= "runtime.print$piece"
 | _=>True
def Y6 (fr:Frame):Prop:=∀i∈fr.todo,Vg i
def OkG (g:Goroutine):Prop:=Y6 g.frame/\∀c∈g.callers,Y6 c
section
variable {P : Program}{w : World}
theorem Aft:Extern.next "runtime.print$piece" =some (Extern.PrintPieces.piece #[] #[]):=rrz
theorem Ab5 {α:Type}{x:Sem α}(hx:Calm P x)(H:Result α->Array Event->GStep)(hok:∀a es,Wy (λw=>H (.ok a w) es))(hh:∀h es,Wy (λw=>H (.halt h w) es))(hc:∀h w es,Ada h->¬(H (.halt h w) es).cont)(w:World):
  Gf (λw=>H (x.runT P w #[]).1 (x.runT P w #[]).2) w:=by
 refine Gf.bind (P:=P) H #[] (hx.loc w #[]) ?_ ?_
 ·generalize x.runT P w #[]=r
  obtain⟨r,es⟩:=r;cases r with
  | ok a w'=>exact(hok a es).loc w'
  | halt h w'=>exact(hh h es).loc w'
 ·generalize x.runT P w #[]=r
  obtain⟨r,es⟩:=r;cases r with
  | ok a w'=>exact λ_=>trivial
  | halt h w'=>exact λc k=>hc h w' es k c
theorem Gs {F:World->GStep}(es:Array Event)(h:Wy F):Wy (λw=>GStep.after es (F w)):=λw=>⟨by rw[Aco];exact(h w).1,λf=>by show GStep.after es (F (f w))=_;rw[Afe,(h w).2 f]⟩
theorem Au0 (main:Bool)(fr:Frame)(cs:List Frame)(dy:Option Dying)(jump:Option Code)(w:World):Gf (λw=>
   match fr.roundOf with
   | none=>if jump matches none | some .ret then GStep.go {frame:={fr with mode:=.returning},callers:=cs,status:=.running,dying:=dy} w else .ended (.stuck "exit, goto: no such block or label" (fr.pos P)) w
   | some l=>
    let (r,es):=(Instr.endRound l jump).runT P w #[]
    GStep.after (seen P fr.fn es)<| match r with
    | .ok v w=>doReturn P main fr cs dy v w
    | .halt _ w=>.ended (.stuck "range over a function: no such loop" (fr.pos P)) w) w:=by
 cases fr.roundOf with
 | none=>
  dsimp only;split
  ·exact(Dw _ _).loc w
  ·exact(Dw _ _).loc w
  ·simp only[A4e,if_false];exact(Be _ _).loc w
 | some l=>
  refine(Ab5 (P:=P) (x:=Instr.endRound l jump) spz (λr es=>GStep.after (seen P fr.fn es) (match r with
    | .ok v w=>doReturn P main fr cs dy v w
    | .halt _ w=>.ended (.stuck "range over a function: no such loop" (fr.pos P)) w)) (λa es=>Gs _ (Ti main fr cs dy a)) (λh es=>Gs _ (Be _ _)) (λh w es _ c=>by rw[Gq] at c;exact c) w).congr λw=>rfl
theorem Ax8 (hP:OkP P)(fr:Frame)(cs:List Frame)(dy:Option Dying)(w:World):Gf (λw=>stepG.oper P true fr cs dy w) w:=by
 unfold stepG.oper;cases fr.oper? with
 | none=>exact(Be _ _).loc w
 | some o=>
  dsimp only;split
  ·exact Tz fr cs dy _ w (Calm.loc (Calm.bind spz λ_=>Calm.bind spz λ_=>Ae) w #[])
  ·exact Tz fr cs dy _ w (L8 _ 0 (Afh hP _ o) w #[])
theorem Ax9 (hP:OkP P)(main:Bool)(fr:Frame)(hfr:Y6 fr)(cs:List Frame)(dy:Option Dying)(w:World):Gf (λw=>stepG.exec P main true fr cs dy w) w:=by
 have hl:=λj=>Au0 (P:=P) main fr cs dy j w
 unfold stepG.exec;dsimp only;unfold Y6 at hfr;split
 ·exact hl none
 ·exact hl (some .ret)
 ·exact(Dw _ _).loc w
 ·exact(Dw _ _).loc w
 ·exact(Dw _ _).loc w
 ·exact(Dw _ _).loc w
 ·exact(Dw _ _).loc w
 ·split
  ·exact(Dw _ _).loc w
  ·exact(Be _ _).loc w
 ·exact(Dw _ _).loc w
 ·exact(Dw _ _).loc w
 ·exact(Dw _ _).loc w
 ·exact(Dw _ _).loc w
 ·rename_i id k _
  cases exitTo id k with
  | none=>exact hl (some (.exit id))
  | some t=>exact(Dw _ _).loc w
 ·rename_i l k _
  cases gotoIn l k with
  | none=>exact hl (some (.goto l))
  | some t=>exact(Dw _ _).loc w
 ·rename_i f params assign body k _
  refine Gf.congr (G:=λw=>(λ(r:Result (Nat × List Deferred)) es=>GStep.after (seen P fr.fn es) (match r with
   | .ok (l,mark) w=>stepG.apply P true {fr with todo:=.inRangeFunc l::k,defers:=mark++fr.defers} cs dy (do let d <-resolve ({fr with todo:=.inRangeFunc l::k,defers:=mark++fr.defers}:Frame).eval {callee:=.value f,args:=#[.const (.func (.yield l) #[] #[])],argTypes:=#[]} 0;invoke d.target d.args) w
   | .halt _ w=>.ended (.stuck "range over a function: no such loop" (fr.pos P)) w)) ((Instr.enterLoop fr.fn fr.tmps params assign body fr.roundOf).runT P w #[]).1 ((Instr.enterLoop fr.fn fr.tmps params assign body fr.roundOf).runT P w #[]).2) ?_ λw=>rfl
  refine Gf.bind (P:=P) (x:=Instr.enterLoop fr.fn fr.tmps params assign body fr.roundOf) (λ(r:Result (Nat × List Deferred)) es=>GStep.after (seen P fr.fn es) (match r with
   | .ok (l,mark) w=>stepG.apply P true {fr with todo:=.inRangeFunc l::k,defers:=mark++fr.defers} cs dy (do let d <-resolve ({fr with todo:=.inRangeFunc l::k,defers:=mark++fr.defers}:Frame).eval {callee:=.value f,args:=#[.const (.func (.yield l) #[] #[])],argTypes:=#[]} 0;invoke d.target d.args) w
   | .halt _ w=>.ended (.stuck "range over a function: no such loop" (fr.pos P)) w)) #[] (Calm.loc spz w #[]) ?_ ?_
  ·generalize Sem.runT P _ w #[]=r
   obtain⟨r,es⟩:=r;cases r with
   | ok a w'=>obtain⟨l,mk⟩:=a;exact Gf.after _ (Tz _ cs dy _ w' (L8 _ 0 (Ea spz λ_=>J7 hP _ _) w' #[]))
   | halt h w'=>exact(Gs _ (Be _ _)).loc w'
  ·generalize Sem.runT P _ w #[]=r
   obtain⟨r,es⟩:=r;cases r with
   | ok a w'=>exact λ_=>trivial
   | halt h w'=>exact λc=>by rw[Gq] at c;exact c.elim
 ·exact(Be _ _).loc w
 ·refine Tz fr cs dy _ w (Calm.loc (Calm.bind ?_ λ_=>Ae) w #[])
  cases fr.roundOf with
  | none=>exact D5
  | some l=>exact O9 l
 ·rename_i l k _
  refine(Ab5 (P:=P) (x:=Instr.endLoop l) spz (λr es=>GStep.after (seen P fr.fn es) (match r with
   | .ok jump w=>GStep.go {frame:={fr with todo:=(jump.map Item.code).toList++k},callers:=cs,status:=.running,dying:=dy} w
   | .halt (.panic v) w=>GStep.go {frame:=(fr.raise [{v,recovered:=false}]),callers:=cs,status:=.running,dying:=dy} w
   | .halt _ w=>.ended (.stuck "range over a function: no such loop" (fr.pos P)) w)) (λa es=>Gs _ (Dw _ _)) (λh es=>?_) (λh w es ok c=>?_) w).congr λw=>rfl
  ·cases h<;>first | exact Gs _ (Be _ _) | exact Gs _ (Dw _ _)
  ·rw[Gq] at c;cases h<;>first | exact c | exact ok
 ·exact(Be _ _).loc w
 ·exact Tz fr cs dy _ w (L8 _ 0 (J7 hP _ _) w #[])
 ·rename_i row args k hk
  have hr:row= "runtime.print$piece" :=hfr (.extern row args) (by rw[hk];exact List.mem_cons_self);subst hr;rw[Aft];exact Tz fr cs dy _ w (L8 _ 0 (Acw _ _ _) w #[])
 ·rename_i id ops draw k _
  cases draw with
  | false=>exact(Dw _ _).loc w
  | true=>
   simp only[Bool.not_true,A4e,if_false]
   have hb:Gf (λw=>(λr:Result Nat=>match r with
     | .ok t w=>GStep.go {frame:={fr with todo:=.inRegion ops (Region.schedule (P.follows .mixedOrders) ops t)::k},callers:=cs,status:=.running,dying:=dy} w
     | .halt _ w=>.ended (.stuck "order" (fr.pos P)) w) ((choose (.order fr.fn id)).run P w)) w:=by
    refine Gf.bindR (P:=P) (x:=choose (.order fr.fn id)) (λr:Result Nat=>match r with
     | .ok t w=>GStep.go {frame:={fr with todo:=.inRegion ops (Region.schedule (P.follows .mixedOrders) ops t)::k},callers:=cs,status:=.running,dying:=dy} w
     | .halt _ w=>.ended (.stuck "order" (fr.pos P)) w) (Calm.loc Jy w #[]) ?_ ?_
    ·generalize Sem.run P _ w=r
     cases r with
     | ok a w'=>exact(Dw _ _).loc _
     | halt h w'=>exact(Be _ _).loc _
    ·exact zn0
   exact hb.congr λw=>rfl
 ·exact(Dw _ _).loc w
 ·split
  ·exact Ax8 hP fr cs dy w
  ·exact(Dw _ _).loc w
end
end Go.Co
