import Derived.Test.YtmnnkedjoecehaaGreatDoorCA6
import Derived.Conc.Beside
set_option linter.defProp false
namespace Go.Co
def one:Value->Bool
  | .agg _ | .tuple _=>false
  | _=>true
def rt (τ:Nat->Question->Nat)(s e:Nat)(w:World):World:={w with tape:=τ,drawn:=e+(w.drawn - s)}
def _root_.Go.Result.w {α:Type}:Result α->World
  | .ok _ w=>w
  | .halt _ w=>w
def _root_.Go.Result.turn {α:Type}(f:World->World):Result α->Result α
  | .ok a w=>.ok a (f w)
  | .halt h w=>.halt h (f w)
def _root_.Go.Result.cont {α:Type}:Result α->Prop
  | .ok _ _=>True
  | .halt h _=>¬JG h
def Ag (T τ:Nat->Question->Nat)(s e K:Nat):Prop:=∀j,s+j<K->τ (e+j)=T (s+j)
def Ag.mono {T τ:Nat->Question->Nat}{s e K a:Nat}(h:Ag T τ s e K)(c:a<=K):Ag T τ s e a:=λj b=>h j (CB b c)
theorem Ag.at {T τ:Nat->Question->Nat}{s e K n:Nat}(h:Ag T τ s e K)(a:s<=n)(b:n<K):τ (e+(n - s))=T n:=by
  have:=h (n - s) AQ
  rwa [show s+(n - s)=n by omega] at this
section
variable {α:Type}
variable {P : Program}{τ : Nat -> Question -> Nat}{s e : Nat}
def kl (w:World)(a:Addr)(u:TypeId)(k:Addr)(b:Bool):(rt τ s e w).seen P a u k b=w.seen P a u k b:=rfl
def WS (w:World)(a:Addr)(b:Bool):(rt τ s e w).farLoad P a b=w.farLoad P a b:=rfl
theorem sB (w:World)(a:Addr)(u:TypeId)(k:Addr)(v:Value)(b:Bool):
    (rt τ s e w).viewStore P a u k v b=match w.viewStore P a u k v b with | .ok (c,l)=>.ok (rt τ s e c,l) | .error x=>.error x:=by
  unfold World.viewStore;rw[kl];simp only[bind,Except.bind,pure,Except.pure];split
  · rfl
  · cases w.seen P a u k b with
    | error x=>rfl
    | ok x=>
      cases v.bytes? with
      | none=>rfl
      | some f=>
        simp only;split
        · rfl
        · split<;>(rename_i d;simp only;try rfl)
theorem VF (w:World)(a:Addr)(v:Value)(b:Bool):
    (rt τ s e w).farStore P a v b=match w.farStore P a v b with | .ok (c,l)=>.ok (rt τ s e c,l) | .error x=>.error x:=by
  unfold World.farStore
  show(match w.heap[a.block]? with
    | some (.view at_ u)=>match (rt τ s e w).viewStore P at_ u a v b with
      | .ok r=>Except.ok r
      | .error d=>Except.error (Halt.unsupported (.unsafePointer d))
    | _=>Except.error (w.noCell a "store: no such cell"))=_
  cases f:w.heap[a.block]? with
  | none=>rfl
  | some o=>
    cases o<;>first
      | rfl
      | (simp only
         rw[sB];cases w.viewStore P _ _ a v b with
         | ok x=>obtain⟨x,y⟩:=x;rfl
         | error x=>rfl)
def eI:∀(a:Ask α) (w:World),(w.ask a).2.tape=w.tape/\w.drawn<=(w.ask a).2.drawn:=by
  intro a;induction a with
  | done a=>exact λw=>⟨rfl,CG _⟩
  | ask what range k b=>
    intro w;simp only[World.ask];split
    · exact b 0 w
    · have:=b ((Question.extern what range).cut (w.tape w.drawn (Question.extern what range))) {w with drawn:=w.drawn+1}
      exact⟨this.1,CM (Db _) this.2⟩
theorem mI:∀(a:Ask α) (w:World),s<=w.drawn->Ag w.tape τ s e (w.ask a).2.drawn->(rt τ s e w).ask a=((w.ask a).1,rt τ s e (w.ask a).2):=by
  intro a;induction a with
  | done a=>exact λw _ _=>rfl
  | ask what range k f=>
    intro w d b;simp only[World.ask] at b ⊢;by_cases c:(Question.extern what range).forced=true
    · rw[if_pos c] at b ⊢
      rw[if_pos c];exact f 0 w d b
    · rw[if_neg c] at b ⊢
      rw[if_neg c];have i:=(eI (k ((Question.extern what range).cut (w.tape w.drawn (Question.extern what range)))) {w with drawn:=w.drawn+1}).2;have h:(rt τ s e w).tape (rt τ s e w).drawn=w.tape w.drawn:=b.at d (CB (DV _) i);rw[h];have g:({rt τ s e w with drawn:=(rt τ s e w).drawn+1}:World)=rt τ s e {w with drawn:=w.drawn+1}:=by
        simp only[rt];congr 1;omega
      rw[g];exact f _ {w with drawn:=w.drawn+1} (CM d (Db _)) b
theorem QN (c:Sys)(w:World)(a:s<=w.drawn)(b:Ag w.tape τ s e (w.ask (Kernel.perform c w.os)).2.drawn):(rt τ s e w).sys c=((w.sys c).1,rt τ s e (w.sys c).2):=by
  have h:=mI (τ:=τ) (s:=s) (e:=e) (Kernel.perform c w.os) w a b;unfold World.sys
  show(match (rt τ s e w).ask (Kernel.perform c w.os) with
    | ((.wouldBlock,_),_)=>(SysRet.wouldBlock,rt τ s e w)
    | ((r,os),w)=>(r,{w with os}))=_
  rw[h];generalize w.ask (Kernel.perform c w.os)=x;obtain⟨⟨r,os⟩,d⟩:=x;cases r<;>rfl
theorem ZR (c:Sys)(w:World):(w.sys c).2.tape=w.tape/\w.drawn<=(w.sys c).2.drawn/\((w.sys c).1≠.wouldBlock->(w.sys c).2.drawn=(w.ask (Kernel.perform c w.os)).2.drawn)/\((w.sys c).1=.wouldBlock->(w.sys c).2.drawn<=(w.ask (Kernel.perform c w.os)).2.drawn):=by
  have h:=eI (Kernel.perform c w.os) w
  revert h
  unfold World.sys;generalize w.ask (Kernel.perform c w.os)=x;obtain⟨⟨r,os⟩,b⟩:=x;cases r<;>exact λh=>⟨by first | rfl | exact h.1,by first | exact CG _ | exact h.2,λa=>by first | rfl | exact absurd rfl a,λa=>by first | exact h.2 | cases a⟩
structure GN {α:Type}(P:Program)(x:Sem α)(w:World)(es:Array Event):Prop where
  tape:(x.runT P w es).1.w.tape=w.tape
  le:w.drawn<=(x.runT P w es).1.w.drawn
  loc:∃K,(x.runT P w es).1.w.drawn<=K/\((x.runT P w es).1.cont->K=(x.runT P w es).1.w.drawn)/\
    ∀(τ:Nat->Question->Nat) (s e:Nat),s<=w.drawn->Ag w.tape τ s e K->x.runT P (rt τ s e w) es=((x.runT P w es).1.turn (rt τ s e),(x.runT P w es).2)
def GN.of_eq {x:Sem α}{y:Sem α}{w w':World}{es b:Array Event}(h:GN P y w' b)(i:w'.tape=w.tape)(hd:w.drawn<=w'.drawn)
    (a:x.runT P w es=y.runT P w' b) (m:∀(τ:Nat->Question->Nat) (s e:Nat),s<=w.drawn->Ag w.tape τ s e w'.drawn->x.runT P (rt τ s e w) es=y.runT P (rt τ s e w') b):GN P x w es:=by
  obtain⟨k,f,K,g,l,j⟩:=h;refine⟨by rw[a,k,i],by rw[a];exact CM hd f,K,by rw[a];exact g,by rw[a];exact l,fun τ s e c d=>?_⟩;rw[m τ s e c (d.mono (CM f g)),a];exact j τ s e (CM c hd) (by rw[i];exact d)
theorem Pi {N:α->Prop}:∀(x:Sem α) (d:Nat),C3 P N d x->∀(w:World) (b:Array Event),GN P x w b:=by
  intro x;induction x with
  | pure a=>exact λd _ w b=>⟨rfl,CG _,w.drawn,CG _,λ_=>rfl,fun τ s e _ _=>rfl⟩
  | halt h=>exact λd _ w b=>⟨rfl,CG _,w.drawn,CG _,λ_=>rfl,fun τ s e _ _=>rfl⟩
  | load m a k j=>
    intro d i w b;cases z:w.cell? a with
    | some v=>
      refine(j v d (i v) w (b.push ⟨.cell a,false,m==.atomic⟩)).of_eq rfl (CG _) ?_ fun τ s e _ _=>?_
      · simp only[Sem.runT,z]
      · simp only[Sem.runT,show(rt τ s e w).cell? a=some v from z]
    | none=>
      cases p:w.farLoad P a (m==.atomic) with
      | ok r=>
        obtain⟨v,l⟩:=r;refine(j v d (i v) w (b++l.toArray.map (⟨.cell ·,false,m==.atomic⟩))).of_eq rfl (CG _) ?_ fun τ s e _ _=>?_
        · simp only[Sem.runT,z,p]
        · simp only[Sem.runT,show(rt τ s e w).cell? a=none from z,WS,p]
      | error h=>
        have g:(Sem.load m a k).runT P w b=(.halt h w,b):=by simp only[Sem.runT,z,p]
        refine⟨by rw[g];rfl,by rw[g];exact CG _,w.drawn,by rw[g];exact CG _,by rw[g];exact λ_=>rfl,fun τ s e _ _=>?_⟩;rw[g];simp only[Sem.runT,show(rt τ s e w).cell? a=none from z,WS,p,Result.turn]
  | store m a v k j=>
    intro d i w b;by_cases L:one v=true
    · have y:∀w b,(Sem.store m a v k).runT P w b=match w.cell? a with
          | some _=>if w.frozen? a then(.halt (.unsupported (.unsafePointer "a write to bytes that a string shares")) w,b) else k.runT P (w.setCell a v) (b.push ⟨.cell a,true,m==.atomic⟩)
          | none=>match w.farStore P a v (m==.atomic) with
            | .ok (w,touched)=>k.runT P w (b++touched.toArray.map (⟨.cell ·,true,m==.atomic⟩))
            | .error h=>(.halt h w,b):=by
        intro w b;cases v<;>first | rfl | cases L
      cases z:w.cell? a with
      | some u=>
        by_cases p:w.frozen? a=true
        · have g:(Sem.store m a v k).runT P w b=(.halt (.unsupported (.unsafePointer "a write to bytes that a string shares")) w,b):=by rw[y];simp only[z,p,if_true]
          refine⟨by rw[g];rfl,by rw[g];exact CG _,w.drawn,by rw[g];exact CG _,by rw[g];exact λ_=>rfl,fun τ s e _ _=>?_⟩;rw[g,y];simp only[show(rt τ s e w).cell? a=some u from z,show(rt τ s e w).frozen? a=true from p,if_true,Result.turn]
        · refine(j d i (w.setCell a v) (b.push ⟨.cell a,true,m==.atomic⟩)).of_eq rfl (CG _) ?_ fun τ s e _ _=>?_
          · rw[y];simp only[z,p,DC,DU]
          · rw[y];simp only[show(rt τ s e w).cell? a=some u from z,show(rt τ s e w).frozen? a=w.frozen? a from rfl,p,DC,DU];rfl
      | none=>
        cases p:w.farStore P a v (m==.atomic) with
        | ok r=>
          obtain⟨I,l⟩:=r;have M:I.tape=w.tape/\I.drawn=w.drawn:=by
            unfold World.farStore at p;split at p
            · split at p
              · rename_i x W
                cases p
                revert W
                unfold World.viewStore;simp only[bind,Except.bind,pure,Except.pure];split
                · intro h;cases h
                · split
                  · intro h;cases h
                  · split
                    · split
                      · intro h;cases h
                      · split
                        · intro h;cases h
                        · intro h;cases h;exact⟨rfl,rfl⟩
                    · intro h;cases h
              · cases p
            · cases p
          refine(j d i I (b++l.toArray.map (⟨.cell ·,true,m==.atomic⟩))).of_eq M.1 (by rw[M.2];exact CG _) ?_ fun τ s e _ _=>?_
          · rw[y];simp only[z,p]
          · rw[y];simp only[show(rt τ s e w).cell? a=none from z,VF,p]
        | error h=>
          have g:(Sem.store m a v k).runT P w b=(.halt h w,b):=by rw[y];simp only[z,p]
          refine⟨by rw[g];rfl,by rw[g];exact CG _,w.drawn,by rw[g];exact CG _,by rw[g];exact λ_=>rfl,fun τ s e _ _=>?_⟩;rw[g,y];simp only[show(rt τ s e w).cell? a=none from z,VF,p,Result.turn]
    · have y:∀w b,(Sem.store m a v k).runT P w b=(.halt (.stuck "store: not the value of one cell") w,b):=by
        intro w b;cases v<;>first | rfl | exact absurd rfl L
      refine⟨by rw[y];rfl,by rw[y];exact CG _,w.drawn,by rw[y];exact CG _,by rw[y];exact λ_=>rfl,fun τ s e _ _=>?_⟩;rw[y,y];rfl
  | new o k j=>
    intro d i w b;exact(j w.heap.size d (i _) {w with heap:=w.heap.push o} b).of_eq rfl (CG _) rfl fun τ s e _ _=>rfl
  | shape r k j=>
    intro d i w b;exact(j _ d (i (w.shape? r)) w b).of_eq rfl (CG _) rfl fun τ s e _ _=>rfl
  | freeze a n k j=>
    intro d i w b;refine(j d i (w.freeze a n) b).of_eq ?_ ?_ rfl fun τ s e _ _=>?_
    · unfold World.freeze;split<;>rfl
    · unfold World.freeze;split<;>exact CG _
    · have:(rt τ s e w).freeze a n=rt τ s e (w.freeze a n):=by unfold World.freeze;split<;>rfl
      simp only[Sem.runT,this]
  | frozen a k j=>
    intro d i w b;exact(j _ d (i (w.frozen? a)) w b).of_eq rfl (CG _) rfl fun τ s e _ _=>rfl
  | getObj r k j=>
    intro d i w b;have B:∀(τ:Nat->Question->Nat) (s e:Nat),(rt τ s e w).heap[r]?=w.heap[r]?:=λ_ _ _=>rfl
    cases A:w.heap[r]? with
    | none=>
      have g:(Sem.getObj r k).runT P w b=(.halt (.stuck "getObj: no such block") w,b):=by simp only[Sem.runT,A]
      refine⟨by rw[g];rfl,by rw[g];exact CG _,w.drawn,by rw[g];exact CG _,by rw[g];exact λ_=>rfl,fun τ s e _ _=>?_⟩;rw[g];simp only[Sem.runT,B,A,Result.turn]
    | some o=>
      by_cases C:∃c t f,o=.cells c t f
      · obtain⟨c,t,f,rfl⟩:=C
        have g:(Sem.getObj r k).runT P w b=(.halt (.stuck "getObj: a row of cells") w,b):=by simp only[Sem.runT,A]
        refine⟨by rw[g];rfl,by rw[g];exact CG _,w.drawn,by rw[g];exact CG _,by rw[g];exact λ_=>rfl,fun τ s e _ _=>?_⟩;rw[g];simp only[Sem.runT,B,A,Result.turn]
      · refine(j o d (i o) w (b.push ⟨.obj r,false,o.isChan⟩)).of_eq rfl (CG _) ?_ fun τ s e _ _=>?_
        · cases o<;>first | (exact absurd ⟨_,_,_,rfl⟩ C) | simp only[Sem.runT,A]
        · cases o<;>first | (exact absurd ⟨_,_,_,rfl⟩ C) | simp only[Sem.runT,B,A]
  | setObj r o k j=>
    intro d i w b;have B:∀(τ:Nat->Question->Nat) (s e:Nat),(rt τ s e w).heap[r]?=w.heap[r]?:=λ_ _ _=>rfl
    cases A:w.heap[r]? with
    | none=>
      have g:(Sem.setObj r o k).runT P w b=(.halt (.stuck "setObj: no such block") w,b):=by simp only[Sem.runT,A]
      refine⟨by rw[g];rfl,by rw[g];exact CG _,w.drawn,by rw[g];exact CG _,by rw[g];exact λ_=>rfl,fun τ s e _ _=>?_⟩;rw[g];simp only[Sem.runT,B,A,Result.turn]
    | some u=>
      by_cases C:∃c t f,u=.cells c t f
      · obtain⟨c,t,f,rfl⟩:=C
        have g:(Sem.setObj r o k).runT P w b=(.halt (.stuck "setObj: a row of cells") w,b):=by simp only[Sem.runT,A]
        refine⟨by rw[g];rfl,by rw[g];exact CG _,w.drawn,by rw[g];exact CG _,by rw[g];exact λ_=>rfl,fun τ s e _ _=>?_⟩;rw[g];simp only[Sem.runT,B,A,Result.turn]
      · refine(j d i {w with heap:=w.heap.setIfInBounds r o} (b.push ⟨.obj r,true,o.isChan⟩)).of_eq rfl (CG _) ?_ fun τ s e _ _=>?_
        · cases u<;>first | (exact absurd ⟨_,_,_,rfl⟩ C) | simp only[Sem.runT,A]
        · cases u<;>first | (exact absurd ⟨_,_,_,rfl⟩ C) | (simp only[Sem.runT,B,A];rfl)
  | choose q k j=>
    intro d i w b;by_cases p:q.forced=true
    · refine(j 0 d (i 0) w b).of_eq rfl (CG _) ?_ fun τ s e _ _=>?_
      · simp only[Sem.runT,p,if_true]
      · simp only[Sem.runT,p,if_true]
    · refine(j (q.cut (w.tape w.drawn q)) d (i _) {w with drawn:=w.drawn+1} b).of_eq rfl (Db _) ?_ fun τ s e E D=>?_
      · simp only[Sem.runT,p,DC,DU]
      · have Q:(rt τ s e w).tape (rt τ s e w).drawn=w.tape w.drawn:=D.at E (DV _)
        have R:({rt τ s e w with drawn:=(rt τ s e w).drawn+1}:World)=rt τ s e {w with drawn:=w.drawn+1}:=by
          simp only[rt];congr 1;omega
        simp only[Sem.runT,p,DC,DU,Q,R]
  | sys c k j=>
    intro d i w b;obtain⟨O,J,T,V⟩:=ZR c w;by_cases H:(w.sys c).1=.wouldBlock
    · have S:=i.1
      obtain⟨h,K,U⟩:∃h,k .wouldBlock=.halt h/\JG h:=by
        revert S
        cases k .wouldBlock<;>first | (intro x;exact⟨_,rfl,x⟩) | (intro x;cases x)
      have g:(Sem.sys c k).runT P w b=(.halt h (w.sys c).2,b.push ⟨.output,true,false⟩):=by simp only[Sem.runT,H,K]
      refine⟨by rw[g];exact O,by rw[g];exact J,(w.ask (Kernel.perform c w.os)).2.drawn,by rw[g];exact V H,by rw[g];exact λx=>absurd U x,fun τ s e E D=>?_⟩;rw[g];simp only[Sem.runT,QN c w E D,H,K,Result.turn]
    · refine(j _ d (i.2 (w.sys c).1) (w.sys c).2 (b.push ⟨.output,true,false⟩)).of_eq O J ?_ fun τ s e E D=>?_
      · simp only[Sem.runT]
      · simp only[Sem.runT,QN c w E (by rw[T H] at D;exact D)]
  | program k j=>exact λd i w b=>(j P d i w b).of_eq rfl (CG _) rfl fun τ s e _ _=>rfl
  | mark m k j=>exact λd i w b=>(j _ i w (b.push ⟨.mark m,false,true⟩)).of_eq rfl (CG _) rfl fun τ s e _ _=>rfl
end
def _root_.Go.GStep.w:GStep->World
 | .go _ w _ | .comm _ _ _ _ w _ | .spawn _ _ w _ | .count _ w _ | .timer _ _ w _ | .alone _ _ w _ | .newcoro _ _ _ w _ | .coroswitch _ _ _ w _ | .collect _ w _ | .watch _ w _ | .ended _ w _=>w
def _root_.Go.GStep.turn (f:World->World):GStep->GStep
 | .go g w a=>.go g (f w) a
 | .comm g c b h w a=>.comm g c b h (f w) a
 | .spawn g i w a=>.spawn g i (f w) a
 | .count g w a=>.count g (f w) a
 | .timer g op w a=>.timer g op (f w) a
 | .alone g b w a=>.alone g b (f w) a
 | .newcoro g c d w a=>.newcoro g c d (f w) a
 | .coroswitch g c x w a=>.coroswitch g c x (f w) a
 | .collect g w a=>.collect g (f w) a
 | .watch g w a=>.watch g (f w) a
 | .ended o w a=>.ended o (f w) a
def _root_.Go.GStep.cont:GStep->Prop
 | .go g _ _=>g.status=.running
 | .ended ..=>False
 | _=>True
theorem KY (es:Array Event)(x:GStep):(GStep.after es x).w=x.w:=by cases x<;>rfl
theorem WZ (f:World->World)(es:Array Event)(x:GStep):(GStep.after es x).turn f=GStep.after es (x.turn f):=by cases x<;>rfl
theorem Hu (es:Array Event)(x:GStep):(GStep.after es x).cont=x.cont:=by cases x<;>rfl
structure G6 (F:World->GStep)(w:World):Prop where
 tape:(F w).w.tape=w.tape
 le:w.drawn<=(F w).w.drawn
 loc:∃K,(F w).w.drawn<=K/\((F w).cont->K=(F w).w.drawn)/\∀(τ:Nat->Question->Nat) (s e:Nat),s<=w.drawn->Ag w.tape τ s e K->F (rt τ s e w)=(F w).turn (rt τ s e)
section
variable {α:Type}
variable {P : Program}{F G : World -> GStep}{w : World}
def G6.const (h1:(F w).w.tape=w.tape)(a:(F w).w.drawn=w.drawn)(h:∀(τ:Nat->Question->Nat) (s e:Nat),s<=w.drawn->F (rt τ s e w)=(F w).turn (rt τ s e)):G6 F w:=
 ⟨h1,by rw[a];exact CG _,w.drawn,by rw[a];exact CG _,λ_=>a.symm,fun τ s e b _=>h τ s e b⟩
def G6.congr (h:G6 G w)(e:∀w,F w=G w):G6 F w:=by
 have :=funext e;rw[this];exact h
theorem G6.after (es:Array Event)(h:G6 F w):G6 (λw=>GStep.after es (F w)) w:=by
 obtain⟨i,d,K,a,g,f⟩:=h;refine⟨by rw[KY];exact i,by rw[KY];exact d,K,by rw[KY];exact a,by rw[KY,Hu];exact g,fun τ s e b c=>?_⟩;show GStep.after es (F (rt τ s e w))=(GStep.after es (F w)).turn (rt τ s e)
 rw[WZ,f τ s e b c]
def _root_.Go.Result.put {α:Type}(w:World):Result α->Result α
 | .ok a _=>.ok a w
 | .halt h _=>.halt h w
theorem G6.bind {x:Sem α}(H:Result α->Array Event->GStep)(es:Array Event)(hx:GN P x w es)
  (r:G6 (λm=>H ((x.runT P w es).1.put m) (x.runT P w es).2) (x.runT P w es).1.w)
  (t:(H (x.runT P w es).1 (x.runT P w es).2).cont->(x.runT P w es).1.cont):G6 (λw=>H (x.runT P w es).1 (x.runT P w es).2) w:=by
 obtain⟨h1,b,K,z,o,k⟩:=hx;have y:(x.runT P w es).1.put (x.runT P w es).1.w=(x.runT P w es).1:=by cases (x.runT P w es).1<;>rfl
 obtain⟨d,a,L,j,g,i⟩:=r;simp only[y] at d a j g i;refine⟨d.trans h1,CM b a,max K L,CM j (M6 _ _),λc=>?_,fun τ s e f hA=>?_⟩
 ·have n:=o (t c)
  have v:=g c;rw[n,v];exact Nat.max_eq_right a
 ·have u:=k τ s e f (hA.mono (K7 _ _))
  have l:=i τ s e (CM f b) yFc;simp only[u];have q:(x.runT P w es).1.turn (rt τ s e)=(x.runT P w es).1.put (rt τ s e (x.runT P w es).1.w):=by cases (x.runT P w es).1<;>rfl
  rw[q];exact l
theorem G6.bindR {x:Sem α}(H:Result α->GStep)(hx:GN P x w #[])
  (c:G6 (λa=>H ((x.run P w).put a)) (x.run P w).w)
  (b:(H (x.run P w)).cont->(x.run P w).cont):G6 (λw=>H (x.run P w)) w:=by
 have e:∀w,(x.runT P w #[]).1=x.run P w:=λw=>by rw[Sem.runT_eq]
 have:=G6.bind (P:=P) (w:=w) (λr _=>H r) #[] hx (by simp only[e];exact c) (by simp only[e];exact b)
 simp only[e] at this;exact this
end
section
variable {P : Program}{w : World}
def Zd (F:World->GStep):Prop:=∀w,(F w).w=w/\∀f:World->World,F (f w)=(F w).turn f
theorem Zd.loc {F:World->GStep}(h:Zd F)(w:World):G6 F w:=G6.const (by rw[(h w).1]) (by rw[(h w).1]) (fun τ s e _=>(h w).2 (rt τ s e))
def D8 (g:Goroutine)(es:Array Event):Zd (λw=>.go g w es):=λ_=>⟨rfl,λ_=>rfl⟩
def A7 (o:Outcome)(es:Array Event):Zd (λw=>.ended o w es):=λ_=>⟨rfl,λ_=>rfl⟩
def Vt (main:Bool)(fr:Frame)(cs:List Frame)(a:Option Dying)(v:Value):Zd (λw=>doReturn P main fr cs a v w):=by
 intro w;unfold doReturn;dsimp only;split
 ·split
  ·exact⟨rfl,λ_=>rfl⟩
  ·exact⟨rfl,λ_=>rfl⟩
  ·exact⟨rfl,λ_=>rfl⟩
  ·exact⟨rfl,λ_=>rfl⟩
 ·split
  ·exact⟨rfl,λ_=>rfl⟩
  ·exact⟨rfl,λ_=>rfl⟩
  ·split
   ·exact⟨rfl,λ_=>rfl⟩
   ·split<;>exact⟨rfl,λ_=>rfl⟩
def Wp (fr:Frame)(v:Value):Zd (λw=>endPrinting P fr v w):=by
 intro w;unfold endPrinting;dsimp only;split<;>exact⟨rfl,λ_=>rfl⟩
def Yc (s:ByteArray):Calm P (withAddress s):=by
 unfold withAddress;exact Calm.bind Nl λ_=>Ad
def Yd:∀(l:List PanicEntry) (b:Bool),Calm P (reportChain l b):=by
 intro l;induction l with
 | nil=>exact λ_=>Ad
 | cons x l a=>
  intro b;unfold reportChain;repeat' first
   | exact Ad
   | exact a _
   | exact Kw
   | exact Nl
   | exact tD
   | refine Calm.bind ?_ (λ_=>?_)
   | split
theorem UT (fn:Func)(tmps:Array Value):Calm P (results fn tmps):=by
 unfold results;refine Calm.bind (Hz _ λr=>?_) λ_=>Ad
 cases r with
 | tmp t=>exact Ad
 | cell a t=>exact Calm.bind (vp _) λ_=>tG _ _
def Calm.loc {α:Type}{x:Sem α}(h:Calm P x)(w:World)(es:Array Event):GN P x w es:=Pi x 0 h w es
theorem UG (fr:Frame)(cs:List Frame)(g:Option Dying)(m:String)(w:World):G6 (λw=>endFatal P fr cs g m w) w:=by
 unfold endFatal;dsimp only
 refine G6.bindR (λr=>match r with
  | .ok (texts,tabs) w=>dieOf fr (panicPieces texts++tabs) m true w
  | .halt (.unsupported u) w=>.ended (.unsupported u "") w
  | .halt _ w=>.ended (.stuck "the report of a panic" "") w) (Calm.loc ?_ w #[]) ?_ ?_
 ·have f:∀d:List (Value × String),Calm P (d.mapM λ(v,mark)=>match panicText P true v with
    | .text s=>(pure (s,mark):Sem (ByteArray × String))
    | .address s=>do pure (<-withAddress s,mark)
    | _=>unsupported (.noEntry "a fatal error during a panic whose value the report cannot show")):=by
   intro d;refine Hy _ λx=>?_
   obtain⟨v,i⟩:=x;dsimp only;split
   ·exact Ad
   ·exact Calm.bind (Yc _) λ_=>Ad
   ·exact Kw
  split
  ·exact Ad
  ·exact Calm.bind (Yd _ _) λ_=>Calm.bind (f _) λ_=>Ad
  ·exact Calm.bind (f _) λ_=>Ad
  ·exact Kw
 ·generalize Sem.run P _ w=r
  cases r with
  | ok a c=>obtain⟨a,b⟩:=a;exact(show Zd _ from λ_=>⟨rfl,λ_=>rfl⟩).loc _
  | halt h c=>cases h<;>exact(A7 _ _).loc _
 ·generalize Sem.run P _ w=r
  cases r with
  | ok a c=>exact λ_=>trivial
  | halt h c=>cases h<;>exact λx=>x.elim
def Nj (τ:Nat->Question->Nat)(s e:Nat)(w:World):∀(n:Nat) (f:FuncId),P.found (rt τ s e w) n f=P.found w n f:=by
 intro n;induction n with
 | zero=>exact λ_=>rfl
 | succ n b=>
  intro f;unfold Program.found;have:(λa=>P.found (rt τ s e w) n a)=λa=>P.found w n a:=funext b
  simp only[this];rfl
theorem rm (τ:Nat->Question->Nat)(s e:Nat)(w:World):∀(n:Nat) (l m:List FuncId),P.brought (rt τ s e w) n l m=P.brought w n l m:=by
 intro n;induction n with
 | zero=>exact λl m=>by unfold Program.brought;cases l<;>rfl
 | succ n a=>
  intro l m;cases l with
  | nil=>unfold Program.brought;rfl
  | cons f l=>
   unfold Program.brought;simp only[a];rfl
end
section
variable {P : Program}{w : World}
def G6.like {F G:World->GStep}(h:G6 G w)(a:F w=G w)(k:∀(τ:Nat->Question->Nat) (s e:Nat),F (rt τ s e w)=G (rt τ s e w)):G6 F w:=by
 obtain⟨j,f,K,b,i,g⟩:=h;exact⟨by rw[a];exact j,by rw[a];exact f,K,by rw[a];exact b,by rw[a];exact i,fun τ s e c d=>by rw[k,a];exact g τ s e c d⟩
def zP {p:Prop}(h:p:=by
 simp only[show ¬(((P.code? f).bind λc=>(readies c).getLast?).bind (rt τ s e w).shape?).isSome=true from h4,DC,Nj,hf,DU];try rfl):p:=h
def zk0 {p:Prop}(h:p:=by
 generalize Sem.run P _ w=r
 cases r with
 | ok a w'=>exact λ_=>trivial
 | halt h w'=>exact λx=>x.elim):p:=h
theorem Azg (fr:Frame)(cs:List Frame)(b:Option Dying)(g:Nat)(w:World):G6 (λw=>early P fr cs b g w) w:=by
 have i:∀w,G6 (λw=>match w.heap[g]? with
   | some (.pending c elem)=>GStep.go {frame:=fr,callers:=cs,status:=.running,dying:=b} {w with heap:=w.heap.setIfInBounds g (.cells c elem)}
   | _=>.ended (.stuck "early: the variable does not wait" (fr.pos P)) w) w:=by
  intro w;refine G6.const ?_ ?_ fun τ s e _=>?_
  ·split<;>rfl
  ·split<;>rfl
  ·show(match w.heap[g]? with
    | some (.pending c elem)=>GStep.go _ {rt τ s e w with heap:=w.heap.setIfInBounds g (.cells c elem)} _
    | _=>GStep.ended _ (rt τ s e w) _)=_
   split<;>(rename_i t;try simp only)<;>first | rfl | skip
 have k:∀f w,G6 (λw=>GStep.go {frame:=Frame.enter P f #[] .early,callers:=(if(P.code? f).any P.plainData then(P.brought w (2*P.funcs.size+1) [f] []).drop 1 else []).map (Frame.enter P · #[] .early)++fr::cs,status:=.running,dying:=b} w #[]) w:=by
  intro f w;refine G6.const rfl rfl fun τ s e _=>?_
  simp only[rm,GStep.turn]
 unfold early;dsimp only;by_cases m:(!P.follows .staticDataAhead)=true
 ·simp only[m,if_true];exact i w
 ·simp only[m,DC,DU]
  cases q:P.stepOf g with
  | none=>exact(A7 _ _).loc w
  | some f=>
   simp only;by_cases n:((P.code? f).any P.atRunTime)=true
   ·simp only[n,if_true];exact i w
   ·simp only[n,DC,DU]
    by_cases h4:((((P.code? f).bind λc=>(readies c).getLast?).bind w.shape?).isSome)=true
    ·refine(i w).like ?_ fun τ s e=>?_
     ·simp only[h4,if_true];try rfl
     ·simp only[show(((P.code? f).bind λc=>(readies c).getLast?).bind (rt τ s e w).shape?).isSome=true from h4,if_true];try rfl
    ·generalize u:(fr.kind==CallKind.early)=kk
     have l:G6 (λw=>GStep.ended (.unsupported (.initOrder g) (fr.pos P)) w #[]) w:=(A7 _ _).loc w;cases hf:P.found w P.funcs.size f<;>cases kk
     ·refine l.like ?_ fun τ s e=>?_
      ·simp only[h4,DC,DU,hf];try rfl
      ·exact zP
     ·refine l.like ?_ fun τ s e=>?_
      ·simp only[h4,DC,DU,hf];try rfl
      ·exact zP
     ·refine(i w).like ?_ fun τ s e=>?_
      ·simp only[h4,DC,DU,hf];try rfl
      ·exact zP
     ·refine l.like ?_ fun τ s e=>?_
      ·simp only[h4,DC,DU,hf];try rfl
      ·exact zP
     ·by_cases d:(P.code? f).any P.plainData=true
      ·refine(k f w).like ?_ fun τ s e=>?_
       ·simp only[h4,DC,DU,hf,d,if_true];try rfl
       ·simp only[show ¬(((P.code? f).bind λc=>(readies c).getLast?).bind (rt τ s e w).shape?).isSome=true from h4,DC,Nj,hf,d,if_true,DU];try rfl
      ·by_cases j:(!(P.code? f).any P.bareCopy)=true
       ·refine(i w).like ?_ fun τ s e=>?_
        ·simp only[h4,DC,DU,hf,d,j,if_true];try rfl
        ·simp only[show ¬(((P.code? f).bind λc=>(readies c).getLast?).bind (rt τ s e w).shape?).isSome=true from h4,DC,DU,Nj,hf,d,j,if_true];try rfl
       ·have o:G6 (λw=>(λr:Result Nat=>match r with
         | .ok 0 w=>(match w.heap[g]? with
           | some (.pending c elem)=>GStep.go {frame:=fr,callers:=cs,status:=.running,dying:=b} {w with heap:=w.heap.setIfInBounds g (.cells c elem)}
           | _=>.ended (.stuck "early: the variable does not wait" (fr.pos P)) w)
         | .ok _ w=>GStep.go {frame:=Frame.enter P f #[] .early,callers:=(if(P.code? f).any P.plainData then(P.brought w (2*P.funcs.size+1) [f] []).drop 1 else []).map (Frame.enter P · #[] .early)++fr::cs,status:=.running,dying:=b} w #[]
         | .halt _ w=>.ended (.stuck "early" (fr.pos P)) w) ((choose (.early g)).run P w)) w:=by
         refine G6.bindR (P:=P) (w:=w) (x:=choose (.early g)) (λr:Result Nat=>match r with
          | .ok 0 w=>(match w.heap[g]? with
            | some (.pending c elem)=>GStep.go {frame:=fr,callers:=cs,status:=.running,dying:=b} {w with heap:=w.heap.setIfInBounds g (.cells c elem)}
            | _=>.ended (.stuck "early: the variable does not wait" (fr.pos P)) w)
          | .ok _ w=>GStep.go {frame:=Frame.enter P f #[] .early,callers:=(if(P.code? f).any P.plainData then(P.brought w (2*P.funcs.size+1) [f] []).drop 1 else []).map (Frame.enter P · #[] .early)++fr::cs,status:=.running,dying:=b} w #[]
          | .halt _ w=>.ended (.stuck "early" (fr.pos P)) w) (Calm.loc Nl w #[]) ?_ ?_
         ·generalize Sem.run P _ w=r
          cases r with
          | ok a w'=>cases a with
           | zero=>exact i w'
           | succ a=>exact k f w'
          | halt h w'=>exact(A7 _ _).loc _
         ·exact zk0
        refine o.like ?_ fun τ s e=>?_
        ·simp only[h4,DC,DU,hf,d,j];rfl
        ·simp only[show ¬(((P.code? f).bind λc=>(readies c).getLast?).bind (rt τ s e w).shape?).isSome=true from h4,DC,DU,Nj,hf,d,j];rfl
     ·refine(k f w).like ?_ fun τ s e=>?_
      ·simp only[h4,DC,DU,hf];try rfl
      ·exact zP
end
section
variable {P : Program}{w : World}
def KB {α:Type}:Result α->Sem α
 | .ok a _=>.pure a
 | .halt h _=>.halt h
def HU {α:Type}(es:Array Event):Result α->Array Event
 | .halt .blocked _ | .halt .waiting _ | .halt (.unsupported (.initOrder _)) _=>#[]
 | _=>es
def I4 (fn:FuncId):seen P fn #[]=#[]:=rfl
theorem Hf (x:GStep):GStep.after #[] x=x:=by cases x<;>simp[GStep.after]
theorem eL (fr:Frame)(cs:List Frame)(b:Option Dying)(x:Sem Next)(w:World):
  stepG.apply P true fr cs b x w=GStep.after (seen P fr.fn (if fr.kind==.early then #[] else HU (x.runT P w #[]).2 (x.runT P w #[]).1)) (stepG.apply P true fr cs b (KB (x.runT P w #[]).1) (x.runT P w #[]).1.w):=by
 generalize c:x.runT P w #[]=r;obtain⟨r,f⟩:=r;cases r with
 | ok a d=>
  unfold stepG.apply;simp only[c,if_true,KB,Sem.runT,Result.w,HU,ite_self,I4,Hf]
 | halt h d=>
  unfold stepG.apply;simp only[c,if_true,KB,Sem.runT,Result.w];cases h with
  | unsupported u=>cases u<;>simp only[HU,ite_self,I4,Hf]
  | _=>simp only[HU,ite_self,I4,Hf]
theorem qS (fr:Frame)(cs:List Frame)(b:Option Dying)(a:Next):Zd (λw=>stepG.apply P true fr cs b (.pure a) w):=by
 intro w;unfold stepG.apply;simp only[if_true,Sem.runT,ite_self,I4,Hf];cases a<;>dsimp only<;>repeat' first
  | exact⟨rfl,λ_=>rfl⟩
  | split
theorem qC (fr:Frame)(cs:List Frame)(a:Option Dying)(h:Halt)(w:World):G6 (λw=>stepG.apply P true fr cs a (.halt h) w) w:=by
 unfold stepG.apply;simp only[if_true,Sem.runT];cases h<;>(try dsimp only)<;>(try simp only[ite_self,I4,Hf])<;>first
  | exact(D8 _ _).loc _
  | exact(A7 _ _).loc _
  | exact UG _ _ _ _ _
  | exact Zd.loc (λ_=>⟨rfl,λ_=>rfl⟩) _
  | skip
 rename_i u;cases u<;>(try dsimp only)<;>(try simp only[ite_self,I4,Hf])<;>first
  | exact(A7 _ _).loc _
  | exact Azg _ _ _ _ _
theorem Y3 (fr:Frame)(cs:List Frame)(a:Option Dying)(h:Halt)(w:World)(b:(stepG.apply P true fr cs a (.halt h) w).cont):¬JG h:=by
 revert b
 unfold stepG.apply;simp only[if_true,Sem.runT];cases h<;>(try dsimp only)<;>(try simp only[ite_self,I4,Hf])<;>first
  | exact λ_ x=>x
  | (intro x;exact x.elim)
  | (intro x;cases x)
  | skip
 rename_i u;cases u<;>(try dsimp only)<;>(try simp only[ite_self,I4,Hf])<;>first
  | exact λ_ x=>x
  | (intro x;exact x.elim)
theorem Wi (fr:Frame)(cs:List Frame)(b:Option Dying)(x:Sem Next)(w:World)(hx:GN P x w #[]):G6 (λw=>stepG.apply P true fr cs b x w) w:=by
 refine G6.congr (G:=λw=>(λ(r:Result Next) d=>GStep.after (seen P fr.fn (if fr.kind==.early then #[] else HU d r)) (stepG.apply P true fr cs b (KB r) r.w)) (x.runT P w #[]).1 (x.runT P w #[]).2) ?_ (eL fr cs b x);refine G6.bind (P:=P) (x:=x) (λ(r:Result Next) d=>GStep.after (seen P fr.fn (if fr.kind==.early then #[] else HU d r)) (stepG.apply P true fr cs b (KB r) r.w)) #[] hx ?_ ?_
 ·generalize x.runT P w #[]=r
  obtain⟨r,d⟩:=r;cases r with
  | ok a f=>exact G6.like (G:=λw=>GStep.after (seen P fr.fn (if fr.kind==.early then #[] else d)) (stepG.apply P true fr cs b (.pure a) w)) (G6.after _ ((qS fr cs b a).loc f)) rfl λ_ _ _=>rfl
  | halt h f=>
   refine G6.like (G:=λw=>GStep.after (seen P fr.fn (if fr.kind==.early then #[] else HU d (Result.halt h f:Result Next))) (stepG.apply P true fr cs b (.halt h) w)) (G6.after _ (qC fr cs b h f)) rfl fun τ s e=>?_
   have:∀g,HU d (Result.halt h g:Result Next)=HU d (Result.halt h f:Result Next):=by
    intro g;cases h<;>first | rfl | (rename_i u;cases u<;>rfl)
   simp only[Result.put,this];rfl
 ·rw[Hu]
  generalize x.runT P w #[]=r;obtain⟨r,d⟩:=r;cases r with
  | ok a f=>exact λ_=>trivial
  | halt h f=>exact λc=>Y3 fr cs b h f c
end
def X7:Item->Prop
 | .call _ _ r _=>r= "runtime.print$piece"
 | .extern r _=>r= "runtime.print$piece"
 | _=>True
def DI (fr:Frame):Prop:=∀i∈fr.todo,X7 i
def OkG (g:Goroutine):Prop:=DI g.frame/\∀c∈g.callers,DI c
section
variable {P : Program}{w : World}
def XG:Extern.next "runtime.print$piece" =some (Extern.PrintPieces.piece #[] #[]):=Ab
theorem Ly {α:Type}{x:Sem α}(hx:Calm P x)(H:Result α->Array Event->GStep)(i:∀a b,Zd (λw=>H (.ok a w) b))(g:∀h b,Zd (λw=>H (.halt h w) b))(f:∀h w b,JG h->¬(H (.halt h w) b).cont)(w:World):
  G6 (λw=>H (x.runT P w #[]).1 (x.runT P w #[]).2) w:=by
 refine G6.bind (P:=P) H #[] (hx.loc w #[]) ?_ ?_
 ·generalize x.runT P w #[]=r
  obtain⟨r,b⟩:=r;cases r with
  | ok a d=>exact(i a b).loc d
  | halt h d=>exact(g h b).loc d
 ·generalize x.runT P w #[]=r
  obtain⟨r,b⟩:=r;cases r with
  | ok a d=>exact λ_=>trivial
  | halt h d=>exact λc k=>f h d b k c
def Hw {F:World->GStep}(es:Array Event)(h:Zd F):Zd (λw=>GStep.after es (F w)):=λw=>⟨by rw[KY];exact(h w).1,λf=>by show GStep.after es (F (f w))=_;rw[WZ,(h w).2 f]⟩
theorem Azf (main:Bool)(fr:Frame)(cs:List Frame)(d:Option Dying)(jump:Option Code)(w:World):G6 (λw=>
   match fr.roundOf with
   | none=>if jump matches none | some .ret then GStep.go {frame:={fr with mode:=.returning},callers:=cs,status:=.running,dying:=d} w else .ended (.stuck "exit, goto: no such block or label" (fr.pos P)) w
   | some l=>
    let (r,b):=(Instr.endRound l jump).runT P w #[]
    GStep.after (seen P fr.fn b)<| match r with
    | .ok v w=>doReturn P main fr cs d v w
    | .halt _ w=>.ended (.stuck "range over a function: no such loop" (fr.pos P)) w) w:=by
 cases fr.roundOf with
 | none=>
  dsimp only;split
  ·exact(D8 _ _).loc w
  ·exact(D8 _ _).loc w
  ·simp only[DU,DC];exact(A7 _ _).loc w
 | some l=>
  refine(Ly (P:=P) (x:=Instr.endRound l jump) AU (λr b=>GStep.after (seen P fr.fn b) (match r with
    | .ok v w=>doReturn P main fr cs d v w
    | .halt _ w=>.ended (.stuck "range over a function: no such loop" (fr.pos P)) w)) (λa b=>Hw _ (Vt main fr cs d a)) (λh b=>Hw _ (A7 _ _)) (λh w b _ c=>by rw[Hu] at c;exact c) w).congr λw=>rfl
theorem gG (b:OkP P)(fr:Frame)(cs:List Frame)(a:Option Dying)(w:World):G6 (λw=>stepG.oper P true fr cs a w) w:=by
 unfold stepG.oper;cases fr.oper? with
 | none=>exact(A7 _ _).loc w
 | some o=>
  dsimp only;split
  ·exact Wi fr cs a _ w (Calm.loc (Calm.bind AU λ_=>Calm.bind AU λ_=>Ad) w #[])
  ·exact Wi fr cs a _ w (Pi _ 0 (Wm b _ o) w #[])
theorem gP (o:OkP P)(main:Bool)(fr:Frame)(u:DI fr)(cs:List Frame)(b:Option Dying)(w:World):G6 (λw=>stepG.exec P main true fr cs b w) w:=by
 have n:=λj=>Azf (P:=P) main fr cs b j w
 unfold stepG.exec;dsimp only;unfold DI at u;split
 ·exact n none
 ·exact n (some .ret)
 ·exact(D8 _ _).loc w
 ·exact(D8 _ _).loc w
 ·exact(D8 _ _).loc w
 ·exact(D8 _ _).loc w
 ·exact(D8 _ _).loc w
 ·split
  ·exact(D8 _ _).loc w
  ·exact(A7 _ _).loc w
 ·exact(D8 _ _).loc w
 ·exact(D8 _ _).loc w
 ·exact(D8 _ _).loc w
 ·exact(D8 _ _).loc w
 ·rename_i i k _
  cases exitTo i k with
  | none=>exact n (some (.exit i))
  | some t=>exact(D8 _ _).loc w
 ·rename_i l k _
  cases gotoIn l k with
  | none=>exact n (some (.goto l))
  | some t=>exact(D8 _ _).loc w
 ·rename_i f q assign body k _
  refine G6.congr (G:=λw=>(λ(r:Result (Nat × List Deferred)) g=>GStep.after (seen P fr.fn g) (match r with
   | .ok (l,mark) w=>stepG.apply P true {fr with todo:=.inRangeFunc l::k,defers:=mark++fr.defers} cs b (do let d <-resolve ({fr with todo:=.inRangeFunc l::k,defers:=mark++fr.defers}:Frame).eval {callee:=.value f,args:=#[.const (.func (.yield l) #[] #[])],argTypes:=#[]} 0;invoke d.target d.args) w
   | .halt _ w=>.ended (.stuck "range over a function: no such loop" (fr.pos P)) w)) ((Instr.enterLoop fr.fn fr.tmps q assign body fr.roundOf).runT P w #[]).1 ((Instr.enterLoop fr.fn fr.tmps q assign body fr.roundOf).runT P w #[]).2) ?_ λw=>rfl
  refine G6.bind (P:=P) (x:=Instr.enterLoop fr.fn fr.tmps q assign body fr.roundOf) (λ(r:Result (Nat × List Deferred)) g=>GStep.after (seen P fr.fn g) (match r with
   | .ok (l,mark) w=>stepG.apply P true {fr with todo:=.inRangeFunc l::k,defers:=mark++fr.defers} cs b (do let d <-resolve ({fr with todo:=.inRangeFunc l::k,defers:=mark++fr.defers}:Frame).eval {callee:=.value f,args:=#[.const (.func (.yield l) #[] #[])],argTypes:=#[]} 0;invoke d.target d.args) w
   | .halt _ w=>.ended (.stuck "range over a function: no such loop" (fr.pos P)) w)) #[] (Calm.loc AU w #[]) ?_ ?_
  ·generalize Sem.runT P _ w #[]=r
   obtain⟨r,g⟩:=r;cases r with
   | ok a w'=>obtain⟨l,B⟩:=a;exact G6.after _ (Wi _ cs b _ w' (Pi _ 0 (Em AU λ_=>Ns o _ _) w' #[]))
   | halt h w'=>exact(Hw _ (A7 _ _)).loc w'
  ·generalize Sem.runT P _ w #[]=r
   obtain⟨r,g⟩:=r;cases r with
   | ok a w'=>exact λ_=>trivial
   | halt h w'=>exact λc=>by rw[Hu] at c;exact c.elim
 ·exact(A7 _ _).loc w
 ·refine Wi fr cs b _ w (Calm.loc (Calm.bind ?_ λ_=>Ad) w #[])
  cases fr.roundOf with
  | none=>exact Ee
  | some l=>exact Rx l
 ·rename_i l k _
  refine(Ly (P:=P) (x:=Instr.endLoop l) AU (λr g=>GStep.after (seen P fr.fn g) (match r with
   | .ok jump w=>GStep.go {frame:={fr with todo:=(jump.map Item.code).toList++k},callers:=cs,status:=.running,dying:=b} w
   | .halt (.panic v) w=>GStep.go {frame:=(fr.raise [{v,recovered:=false}]),callers:=cs,status:=.running,dying:=b} w
   | .halt _ w=>.ended (.stuck "range over a function: no such loop" (fr.pos P)) w)) (λa g=>Hw _ (D8 _ _)) (λh g=>?_) (λh w g ok c=>?_) w).congr λw=>rfl
  ·cases h<;>first | exact Hw _ (A7 _ _) | exact Hw _ (D8 _ _)
  ·rw[Hu] at c;cases h<;>first | exact c | exact ok
 ·exact(A7 _ _).loc w
 ·exact Wi fr cs b _ w (Pi _ 0 (Ns o _ _) w #[])
 ·rename_i row args k z
  have A:row= "runtime.print$piece" :=u (.extern row args) (by rw[z];exact ET);subst A;rw[XG];exact Wi fr cs b _ w (Pi _ 0 (PC _ _ _) w #[])
 ·rename_i i m draw k _
  cases draw with
  | false=>exact(D8 _ _).loc w
  | true=>
   simp only[K6,DU,DC]
   have y:G6 (λw=>(λr:Result Nat=>match r with
     | .ok t w=>GStep.go {frame:={fr with todo:=.inRegion m (Region.schedule (P.follows .mixedOrders) m t)::k},callers:=cs,status:=.running,dying:=b} w
     | .halt _ w=>.ended (.stuck "order" (fr.pos P)) w) ((choose (.order fr.fn i)).run P w)) w:=by
    refine G6.bindR (P:=P) (x:=choose (.order fr.fn i)) (λr:Result Nat=>match r with
     | .ok t w=>GStep.go {frame:={fr with todo:=.inRegion m (Region.schedule (P.follows .mixedOrders) m t)::k},callers:=cs,status:=.running,dying:=b} w
     | .halt _ w=>.ended (.stuck "order" (fr.pos P)) w) (Calm.loc Nl w #[]) ?_ ?_
    ·generalize Sem.run P _ w=r
     cases r with
     | ok a w'=>exact(D8 _ _).loc _
     | halt h w'=>exact(A7 _ _).loc _
    ·exact zk0
   exact y.congr λw=>rfl
 ·exact(D8 _ _).loc w
 ·split
  ·exact gG o fr cs b w
  ·exact(D8 _ _).loc w
end
