import Derived.Test.YtifcnfeppdbjdaaGreatDoorCA6
import Derived.Conc.Beside
namespace Go.Co
def one:Value->Bool
  | .agg _ | .tuple _=>false
  | _=>true
def rt (τ:Nat->Question->Nat)(s e:Nat)(w:World):World:={w with tape:=τ,drawn:=e+(w.drawn - s)}
def _root_.Go.Result.w {α:Type}:Result α->World
  | .ok _ w=>w
  | .halt _ w=>w
def _root_.Go.Result.turn {α:Type}(f:World->World):Result α->Result α
  | .ok a w=>.ok a (f w)
  | .halt h w=>.halt h (f w)
def _root_.Go.Result.cont {α:Type}:Result α->Prop
  | .ok _ _=>True
  | .halt h _=>¬I3 h
def Ag (T τ:Nat->Question->Nat)(s e K:Nat):Prop:=∀j,s+j<K->τ (e+j)=T (s+j)
theorem Ag.mono {T τ:Nat->Question->Nat}{s e K a:Nat}(h:Ag T τ s e K)(b:a<=K):Ag T τ s e a:=λj c=>h j (CB c b)
theorem Ag.at {T τ:Nat->Question->Nat}{s e K n:Nat}(h:Ag T τ s e K)(b:s<=n)(a:n<K):τ (e+(n - s))=T n:=by
  have:=h (n - s) AQ
  rwa [show s+(n - s)=n by omega] at this
section
variable {α:Type}
variable {P : Program}{τ : Nat -> Question -> Nat}{s e : Nat}
theorem jd (w:World)(a:Addr)(u:TypeId)(k:Addr)(b:Bool):(rt τ s e w).seen P a u k b=w.seen P a u k b:=rfl
theorem WS (w:World)(a:Addr)(b:Bool):(rt τ s e w).farLoad P a b=w.farLoad P a b:=rfl
theorem sG (w:World)(a:Addr)(u:TypeId)(k:Addr)(v:Value)(b:Bool):
    (rt τ s e w).viewStore P a u k v b=match w.viewStore P a u k v b with | .ok (c,l)=>.ok (rt τ s e c,l) | .error x=>.error x:=by
  unfold World.viewStore;rw[jd];simp only[bind,Except.bind,pure,Except.pure];split
  · rfl
  · cases w.seen P a u k b with
    | error x=>rfl
    | ok x=>
      cases v.bytes? with
      | none=>rfl
      | some f=>
        simp only;split
        · rfl
        · split<;>(rename_i d;simp only;try rfl)
theorem US (w:World)(a:Addr)(v:Value)(b:Bool):
    (rt τ s e w).farStore P a v b=match w.farStore P a v b with | .ok (d,l)=>.ok (rt τ s e d,l) | .error x=>.error x:=by
  unfold World.farStore
  show(match w.heap[a.block]? with
    | some (.view at_ u)=>match (rt τ s e w).viewStore P at_ u a v b with
      | .ok r=>Except.ok r
      | .error c=>Except.error (Halt.unsupported (.unsafePointer c))
    | _=>Except.error (w.noCell a "store: no such cell"))=_
  cases f:w.heap[a.block]? with
  | none=>rfl
  | some o=>
    cases o<;>first
      | rfl
      | (simp only
         rw[sG];cases w.viewStore P _ _ a v b with
         | ok x=>obtain⟨x,y⟩:=x;rfl
         | error x=>rfl)
theorem Z0:∀(a:Ask α) (w:World),(w.ask a).2.tape=w.tape/\w.drawn<=(w.ask a).2.drawn:=by
  intro a;induction a with
  | done a=>exact λw=>⟨rfl,CG _⟩
  | ask what range k b=>
    intro w;simp only[World.ask];split
    · exact b 0 w
    · have:=b ((Question.extern what range).cut (w.tape w.drawn (Question.extern what range))) {w with drawn:=w.drawn+1}
      exact⟨this.1,CJ (DZ _) this.2⟩
theorem mH:∀(a:Ask α) (w:World),s<=w.drawn->Ag w.tape τ s e (w.ask a).2.drawn->(rt τ s e w).ask a=((w.ask a).1,rt τ s e (w.ask a).2):=by
  intro a;induction a with
  | done a=>exact λw _ _=>rfl
  | ask what range k f=>
    intro w d b;simp only[World.ask] at b ⊢;by_cases c:(Question.extern what range).forced=true
    · rw[if_pos c] at b ⊢
      rw[if_pos c];exact f 0 w d b
    · rw[if_neg c] at b ⊢
      rw[if_neg c];have h:=(Z0 (k ((Question.extern what range).cut (w.tape w.drawn (Question.extern what range)))) {w with drawn:=w.drawn+1}).2;have i:(rt τ s e w).tape (rt τ s e w).drawn=w.tape w.drawn:=b.at d (CB (DV _) h);rw[i];have g:({rt τ s e w with drawn:=(rt τ s e w).drawn+1}:World)=rt τ s e {w with drawn:=w.drawn+1}:=by
        simp only[rt];congr 1;omega
      rw[g];exact f _ {w with drawn:=w.drawn+1} (CJ d (DZ _)) b
theorem QN (c:Sys)(w:World)(a:s<=w.drawn)(b:Ag w.tape τ s e (w.ask (Kernel.perform c w.os)).2.drawn):(rt τ s e w).sys c=((w.sys c).1,rt τ s e (w.sys c).2):=by
  have h:=mH (τ:=τ) (s:=s) (e:=e) (Kernel.perform c w.os) w a b;unfold World.sys
  show(match (rt τ s e w).ask (Kernel.perform c w.os) with
    | ((.wouldBlock,_),_)=>(SysRet.wouldBlock,rt τ s e w)
    | ((r,os),w)=>(r,{w with os}))=_
  rw[h];generalize w.ask (Kernel.perform c w.os)=x;obtain⟨⟨r,os⟩,d⟩:=x;cases r<;>rfl
theorem YU (c:Sys)(w:World):(w.sys c).2.tape=w.tape/\w.drawn<=(w.sys c).2.drawn/\((w.sys c).1≠.wouldBlock->(w.sys c).2.drawn=(w.ask (Kernel.perform c w.os)).2.drawn)/\((w.sys c).1=.wouldBlock->(w.sys c).2.drawn<=(w.ask (Kernel.perform c w.os)).2.drawn):=by
  have h:=Z0 (Kernel.perform c w.os) w
  revert h
  unfold World.sys;generalize w.ask (Kernel.perform c w.os)=x;obtain⟨⟨r,os⟩,b⟩:=x;cases r<;>exact λh=>⟨by first | rfl | exact h.1,by first | exact CG _ | exact h.2,λa=>by first | rfl | exact absurd rfl a,λa=>by first | exact h.2 | cases a⟩
structure F4 {α:Type}(P:Program)(x:Sem α)(w:World)(es:Array Event):Prop where
  tape:(x.runT P w es).1.w.tape=w.tape
  le:w.drawn<=(x.runT P w es).1.w.drawn
  loc:∃K,(x.runT P w es).1.w.drawn<=K/\((x.runT P w es).1.cont->K=(x.runT P w es).1.w.drawn)/\
    ∀(τ:Nat->Question->Nat) (s e:Nat),s<=w.drawn->Ag w.tape τ s e K->x.runT P (rt τ s e w) es=((x.runT P w es).1.turn (rt τ s e),(x.runT P w es).2)
theorem F4.of_eq {x:Sem α}{y:Sem α}{w w':World}{es b:Array Event}(h:F4 P y w' b)(d:w'.tape=w.tape)(hd:w.drawn<=w'.drawn)
    (a:x.runT P w es=y.runT P w' b) (m:∀(τ:Nat->Question->Nat) (s e:Nat),s<=w.drawn->Ag w.tape τ s e w'.drawn->x.runT P (rt τ s e w) es=y.runT P (rt τ s e w') b):F4 P x w es:=by
  obtain⟨k,f,K,c,j,l⟩:=h;refine⟨by rw[a,k,d],by rw[a];exact CJ hd f,K,by rw[a];exact c,by rw[a];exact j,fun τ s e g i=>?_⟩;rw[m τ s e g (i.mono (CJ f c)),a];exact l τ s e (CJ g hd) (by rw[d];exact i)
theorem O7 {N:α->Prop}:∀(x:Sem α) (d:Nat),C2 P N d x->∀(w:World) (b:Array Event),F4 P x w b:=by
  intro x;induction x with
  | pure a=>exact λd _ w b=>⟨rfl,CG _,w.drawn,CG _,λ_=>rfl,fun τ s e _ _=>rfl⟩
  | halt h=>exact λd _ w b=>⟨rfl,CG _,w.drawn,CG _,λ_=>rfl,fun τ s e _ _=>rfl⟩
  | load m a k j=>
    intro d i w b;cases y:w.cell? a with
    | some v=>
      refine(j v d (i v) w (b.push ⟨.cell a,false,m==.atomic⟩)).of_eq rfl (CG _) ?_ fun τ s e _ _=>?_
      · simp only[Sem.runT,y]
      · simp only[Sem.runT,show(rt τ s e w).cell? a=some v from y]
    | none=>
      cases p:w.farLoad P a (m==.atomic) with
      | ok r=>
        obtain⟨v,l⟩:=r;refine(j v d (i v) w (b++l.toArray.map (⟨.cell ·,false,m==.atomic⟩))).of_eq rfl (CG _) ?_ fun τ s e _ _=>?_
        · simp only[Sem.runT,y,p]
        · simp only[Sem.runT,show(rt τ s e w).cell? a=none from y,WS,p]
      | error h=>
        have g:(Sem.load m a k).runT P w b=(.halt h w,b):=by simp only[Sem.runT,y,p]
        refine⟨by rw[g];rfl,by rw[g];exact CG _,w.drawn,by rw[g];exact CG _,by rw[g];exact λ_=>rfl,fun τ s e _ _=>?_⟩;rw[g];simp only[Sem.runT,show(rt τ s e w).cell? a=none from y,WS,p,Result.turn]
  | store m a v k j=>
    intro d i w b;by_cases M:one v=true
    · have z:∀w b,(Sem.store m a v k).runT P w b=match w.cell? a with
          | some _=>if w.frozen? a then(.halt (.unsupported (.unsafePointer "a write to bytes that a string shares")) w,b) else k.runT P (w.setCell a v) (b.push ⟨.cell a,true,m==.atomic⟩)
          | none=>match w.farStore P a v (m==.atomic) with
            | .ok (w,touched)=>k.runT P w (b++touched.toArray.map (⟨.cell ·,true,m==.atomic⟩))
            | .error h=>(.halt h w,b):=by
        intro w b;cases v<;>first | rfl | cases M
      cases y:w.cell? a with
      | some u=>
        by_cases p:w.frozen? a=true
        · have g:(Sem.store m a v k).runT P w b=(.halt (.unsupported (.unsafePointer "a write to bytes that a string shares")) w,b):=by rw[z];simp only[y,p,if_true]
          refine⟨by rw[g];rfl,by rw[g];exact CG _,w.drawn,by rw[g];exact CG _,by rw[g];exact λ_=>rfl,fun τ s e _ _=>?_⟩;rw[g,z];simp only[show(rt τ s e w).cell? a=some u from y,show(rt τ s e w).frozen? a=true from p,if_true,Result.turn]
        · refine(j d i (w.setCell a v) (b.push ⟨.cell a,true,m==.atomic⟩)).of_eq rfl (CG _) ?_ fun τ s e _ _=>?_
          · rw[z];simp only[y,p,C7,DU]
          · rw[z];simp only[show(rt τ s e w).cell? a=some u from y,show(rt τ s e w).frozen? a=w.frozen? a from rfl,p,C7,DU];rfl
      | none=>
        cases p:w.farStore P a v (m==.atomic) with
        | ok r=>
          obtain⟨I,l⟩:=r;have J:I.tape=w.tape/\I.drawn=w.drawn:=by
            unfold World.farStore at p;split at p
            · split at p
              · rename_i x U
                cases p
                revert U
                unfold World.viewStore;simp only[bind,Except.bind,pure,Except.pure];split
                · intro h;cases h
                · split
                  · intro h;cases h
                  · split
                    · split
                      · intro h;cases h
                      · split
                        · intro h;cases h
                        · intro h;cases h;exact⟨rfl,rfl⟩
                    · intro h;cases h
              · cases p
            · cases p
          refine(j d i I (b++l.toArray.map (⟨.cell ·,true,m==.atomic⟩))).of_eq J.1 (by rw[J.2];exact CG _) ?_ fun τ s e _ _=>?_
          · rw[z];simp only[y,p]
          · rw[z];simp only[show(rt τ s e w).cell? a=none from y,US,p]
        | error h=>
          have g:(Sem.store m a v k).runT P w b=(.halt h w,b):=by rw[z];simp only[y,p]
          refine⟨by rw[g];rfl,by rw[g];exact CG _,w.drawn,by rw[g];exact CG _,by rw[g];exact λ_=>rfl,fun τ s e _ _=>?_⟩;rw[g,z];simp only[show(rt τ s e w).cell? a=none from y,US,p,Result.turn]
    · have z:∀w b,(Sem.store m a v k).runT P w b=(.halt (.stuck "store: not the value of one cell") w,b):=by
        intro w b;cases v<;>first | rfl | exact absurd rfl M
      refine⟨by rw[z];rfl,by rw[z];exact CG _,w.drawn,by rw[z];exact CG _,by rw[z];exact λ_=>rfl,fun τ s e _ _=>?_⟩;rw[z,z];rfl
  | new o k j=>
    intro d i w b;exact(j w.heap.size d (i _) {w with heap:=w.heap.push o} b).of_eq rfl (CG _) rfl fun τ s e _ _=>rfl
  | shape r k j=>
    intro d i w b;exact(j _ d (i (w.shape? r)) w b).of_eq rfl (CG _) rfl fun τ s e _ _=>rfl
  | freeze a n k j=>
    intro d i w b;refine(j d i (w.freeze a n) b).of_eq ?_ ?_ rfl fun τ s e _ _=>?_
    · unfold World.freeze;split<;>rfl
    · unfold World.freeze;split<;>exact CG _
    · have:(rt τ s e w).freeze a n=rt τ s e (w.freeze a n):=by unfold World.freeze;split<;>rfl
      simp only[Sem.runT,this]
  | frozen a k j=>
    intro d i w b;exact(j _ d (i (w.frozen? a)) w b).of_eq rfl (CG _) rfl fun τ s e _ _=>rfl
  | getObj r k j=>
    intro d i w b;have B:∀(τ:Nat->Question->Nat) (s e:Nat),(rt τ s e w).heap[r]?=w.heap[r]?:=λ_ _ _=>rfl
    cases A:w.heap[r]? with
    | none=>
      have g:(Sem.getObj r k).runT P w b=(.halt (.stuck "getObj: no such block") w,b):=by simp only[Sem.runT,A]
      refine⟨by rw[g];rfl,by rw[g];exact CG _,w.drawn,by rw[g];exact CG _,by rw[g];exact λ_=>rfl,fun τ s e _ _=>?_⟩;rw[g];simp only[Sem.runT,B,A,Result.turn]
    | some o=>
      by_cases C:∃c t f,o=.cells c t f
      · obtain⟨c,t,f,rfl⟩:=C
        have g:(Sem.getObj r k).runT P w b=(.halt (.stuck "getObj: a row of cells") w,b):=by simp only[Sem.runT,A]
        refine⟨by rw[g];rfl,by rw[g];exact CG _,w.drawn,by rw[g];exact CG _,by rw[g];exact λ_=>rfl,fun τ s e _ _=>?_⟩;rw[g];simp only[Sem.runT,B,A,Result.turn]
      · refine(j o d (i o) w (b.push ⟨.obj r,false,o.isChan⟩)).of_eq rfl (CG _) ?_ fun τ s e _ _=>?_
        · cases o<;>first | (exact absurd ⟨_,_,_,rfl⟩ C) | simp only[Sem.runT,A]
        · cases o<;>first | (exact absurd ⟨_,_,_,rfl⟩ C) | simp only[Sem.runT,B,A]
  | setObj r o k j=>
    intro d i w b;have B:∀(τ:Nat->Question->Nat) (s e:Nat),(rt τ s e w).heap[r]?=w.heap[r]?:=λ_ _ _=>rfl
    cases A:w.heap[r]? with
    | none=>
      have g:(Sem.setObj r o k).runT P w b=(.halt (.stuck "setObj: no such block") w,b):=by simp only[Sem.runT,A]
      refine⟨by rw[g];rfl,by rw[g];exact CG _,w.drawn,by rw[g];exact CG _,by rw[g];exact λ_=>rfl,fun τ s e _ _=>?_⟩;rw[g];simp only[Sem.runT,B,A,Result.turn]
    | some u=>
      by_cases C:∃c t f,u=.cells c t f
      · obtain⟨c,t,f,rfl⟩:=C
        have g:(Sem.setObj r o k).runT P w b=(.halt (.stuck "setObj: a row of cells") w,b):=by simp only[Sem.runT,A]
        refine⟨by rw[g];rfl,by rw[g];exact CG _,w.drawn,by rw[g];exact CG _,by rw[g];exact λ_=>rfl,fun τ s e _ _=>?_⟩;rw[g];simp only[Sem.runT,B,A,Result.turn]
      · refine(j d i {w with heap:=w.heap.setIfInBounds r o} (b.push ⟨.obj r,true,o.isChan⟩)).of_eq rfl (CG _) ?_ fun τ s e _ _=>?_
        · cases u<;>first | (exact absurd ⟨_,_,_,rfl⟩ C) | simp only[Sem.runT,A]
        · cases u<;>first | (exact absurd ⟨_,_,_,rfl⟩ C) | (simp only[Sem.runT,B,A];rfl)
  | choose q k j=>
    intro d i w b;by_cases p:q.forced=true
    · refine(j 0 d (i 0) w b).of_eq rfl (CG _) ?_ fun τ s e _ _=>?_
      · simp only[Sem.runT,p,if_true]
      · simp only[Sem.runT,p,if_true]
    · refine(j (q.cut (w.tape w.drawn q)) d (i _) {w with drawn:=w.drawn+1} b).of_eq rfl (DZ _) ?_ fun τ s e E D=>?_
      · simp only[Sem.runT,p,C7,DU]
      · have W:(rt τ s e w).tape (rt τ s e w).drawn=w.tape w.drawn:=D.at E (DV _)
        have T:({rt τ s e w with drawn:=(rt τ s e w).drawn+1}:World)=rt τ s e {w with drawn:=w.drawn+1}:=by
          simp only[rt];congr 1;omega
        simp only[Sem.runT,p,C7,DU,W,T]
  | sys c k j=>
    intro d i w b;obtain⟨O,K,Q,V⟩:=YU c w;by_cases H:(w.sys c).1=.wouldBlock
    · have S:=i.1
      obtain⟨h,L,R⟩:∃h,k .wouldBlock=.halt h/\I3 h:=by
        revert S
        cases k .wouldBlock<;>first | (intro x;exact⟨_,rfl,x⟩) | (intro x;cases x)
      have g:(Sem.sys c k).runT P w b=(.halt h (w.sys c).2,b.push ⟨.output,true,false⟩):=by simp only[Sem.runT,H,L]
      refine⟨by rw[g];exact O,by rw[g];exact K,(w.ask (Kernel.perform c w.os)).2.drawn,by rw[g];exact V H,by rw[g];exact λx=>absurd R x,fun τ s e E D=>?_⟩;rw[g];simp only[Sem.runT,QN c w E D,H,L,Result.turn]
    · refine(j _ d (i.2 (w.sys c).1) (w.sys c).2 (b.push ⟨.output,true,false⟩)).of_eq O K ?_ fun τ s e E D=>?_
      · simp only[Sem.runT]
      · simp only[Sem.runT,QN c w E (by rw[Q H] at D;exact D)]
  | program k j=>exact λd i w b=>(j P d i w b).of_eq rfl (CG _) rfl fun τ s e _ _=>rfl
  | mark m k j=>exact λd i w b=>(j _ i w (b.push ⟨.mark m,false,true⟩)).of_eq rfl (CG _) rfl fun τ s e _ _=>rfl
end
def _root_.Go.GStep.w:GStep->World
 | .go _ w _ | .comm _ _ _ _ w _ | .spawn _ _ w _ | .count _ w _ | .timer _ _ w _ | .alone _ _ w _ | .newcoro _ _ _ w _ | .coroswitch _ _ _ w _ | .collect _ w _ | .watch _ w _ | .ended _ w _=>w
def _root_.Go.GStep.turn (f:World->World):GStep->GStep
 | .go g w a=>.go g (f w) a
 | .comm g c b i w a=>.comm g c b i (f w) a
 | .spawn g h w a=>.spawn g h (f w) a
 | .count g w a=>.count g (f w) a
 | .timer g op w a=>.timer g op (f w) a
 | .alone g b w a=>.alone g b (f w) a
 | .newcoro g c d w a=>.newcoro g c d (f w) a
 | .coroswitch g c x w a=>.coroswitch g c x (f w) a
 | .collect g w a=>.collect g (f w) a
 | .watch g w a=>.watch g (f w) a
 | .ended o w a=>.ended o (f w) a
def _root_.Go.GStep.cont:GStep->Prop
 | .go g _ _=>g.status=.running
 | .ended ..=>False
 | _=>True
theorem KN (es:Array Event)(x:GStep):(GStep.after es x).w=x.w:=by cases x<;>rfl
theorem WE (f:World->World)(es:Array Event)(x:GStep):(GStep.after es x).turn f=GStep.after es (x.turn f):=by cases x<;>rfl
theorem H7 (es:Array Event)(x:GStep):(GStep.after es x).cont=x.cont:=by cases x<;>rfl
structure He (F:World->GStep)(w:World):Prop where
 tape:(F w).w.tape=w.tape
 le:w.drawn<=(F w).w.drawn
 loc:∃K,(F w).w.drawn<=K/\((F w).cont->K=(F w).w.drawn)/\∀(τ:Nat->Question->Nat) (s e:Nat),s<=w.drawn->Ag w.tape τ s e K->F (rt τ s e w)=(F w).turn (rt τ s e)
section
variable {α:Type}
variable {P : Program}{F G : World -> GStep}{w : World}
theorem He.const (h1:(F w).w.tape=w.tape)(a:(F w).w.drawn=w.drawn)(h:∀(τ:Nat->Question->Nat) (s e:Nat),s<=w.drawn->F (rt τ s e w)=(F w).turn (rt τ s e)):He F w:=
 ⟨h1,by rw[a];exact CG _,w.drawn,by rw[a];exact CG _,λ_=>a.symm,fun τ s e b _=>h τ s e b⟩
theorem He.congr (h:He G w)(e:∀w,F w=G w):He F w:=by
 have :=funext e;rw[this];exact h
theorem He.after (es:Array Event)(h:He F w):He (λw=>GStep.after es (F w)) w:=by
 obtain⟨b,d,K,a,i,c⟩:=h;refine⟨by rw[KN];exact b,by rw[KN];exact d,K,by rw[KN];exact a,by rw[KN,H7];exact i,fun τ s e f g=>?_⟩;show GStep.after es (F (rt τ s e w))=(GStep.after es (F w)).turn (rt τ s e)
 rw[WE,c τ s e f g]
def _root_.Go.Result.put {α:Type}(w:World):Result α->Result α
 | .ok a _=>.ok a w
 | .halt h _=>.halt h w
theorem He.bind {x:Sem α}(H:Result α->Array Event->GStep)(es:Array Event)(hx:F4 P x w es)
  (n:He (λm=>H ((x.runT P w es).1.put m) (x.runT P w es).2) (x.runT P w es).1.w)
  (u:(H (x.runT P w es).1 (x.runT P w es).2).cont->(x.runT P w es).1.cont):He (λw=>H (x.runT P w es).1 (x.runT P w es).2) w:=by
 obtain⟨h1,j,K,z,k,v⟩:=hx;have o:(x.runT P w es).1.put (x.runT P w es).1.w=(x.runT P w es).1:=by cases (x.runT P w es).1<;>rfl
 obtain⟨g,a,L,f,d,i⟩:=n;simp only[o] at g a f d i;refine⟨g.trans h1,CJ j a,max K L,CJ f (MZ _ _),λc=>?_,fun τ s e b hA=>?_⟩
 ·have r:=k (u c)
  have t:=d c;rw[r,t];exact Nat.max_eq_right a
 ·have l:=v τ s e b (hA.mono (Kx _ _))
  have y:=i τ s e (CJ b j) yFd;simp only[l];have q:(x.runT P w es).1.turn (rt τ s e)=(x.runT P w es).1.put (rt τ s e (x.runT P w es).1.w):=by cases (x.runT P w es).1<;>rfl
  rw[q];exact y
theorem He.bindR {x:Sem α}(H:Result α->GStep)(hx:F4 P x w #[])
  (a:He (λc=>H ((x.run P w).put c)) (x.run P w).w)
  (b:(H (x.run P w)).cont->(x.run P w).cont):He (λw=>H (x.run P w)) w:=by
 have e:∀w,(x.runT P w #[]).1=x.run P w:=λw=>by rw[Sem.runT_eq]
 have:=He.bind (P:=P) (w:=w) (λr _=>H r) #[] hx (by simp only[e];exact a) (by simp only[e];exact b)
 simp only[e] at this;exact this
end
section
variable {P : Program}{w : World}
def Yx (F:World->GStep):Prop:=∀w,(F w).w=w/\∀f:World->World,F (f w)=(F w).turn f
theorem Yx.loc {F:World->GStep}(h:Yx F)(w:World):He F w:=He.const (by rw[(h w).1]) (by rw[(h w).1]) (fun τ s e _=>(h w).2 (rt τ s e))
theorem D8 (g:Goroutine)(es:Array Event):Yx (λw=>.go g w es):=λ_=>⟨rfl,λ_=>rfl⟩
theorem Az (o:Outcome)(es:Array Event):Yx (λw=>.ended o w es):=λ_=>⟨rfl,λ_=>rfl⟩
theorem Vf (main:Bool)(fr:Frame)(cs:List Frame)(a:Option Dying)(v:Value):Yx (λw=>doReturn P main fr cs a v w):=by
 intro w;unfold doReturn;dsimp only;split
 ·split
  ·exact⟨rfl,λ_=>rfl⟩
  ·exact⟨rfl,λ_=>rfl⟩
  ·exact⟨rfl,λ_=>rfl⟩
  ·exact⟨rfl,λ_=>rfl⟩
 ·split
  ·exact⟨rfl,λ_=>rfl⟩
  ·exact⟨rfl,λ_=>rfl⟩
  ·split
   ·exact⟨rfl,λ_=>rfl⟩
   ·split<;>exact⟨rfl,λ_=>rfl⟩
theorem Vy (fr:Frame)(v:Value):Yx (λw=>endPrinting P fr v w):=by
 intro w;unfold endPrinting;dsimp only;split<;>exact⟨rfl,λ_=>rfl⟩
theorem Xv (s:ByteArray):Calm P (withAddress s):=by
 unfold withAddress;exact Calm.bind Nc λ_=>Ad
theorem Xw:∀(l:List PanicEntry) (b:Bool),Calm P (reportChain l b):=by
 intro l;induction l with
 | nil=>exact λ_=>Ad
 | cons x l a=>
  intro b;unfold reportChain;repeat' first
   | exact Ad
   | exact a _
   | exact Kv
   | exact Nc
   | exact tI
   | refine Calm.bind ?_ (λ_=>?_)
   | split
theorem TQ (fn:Func)(tmps:Array Value):Calm P (results fn tmps):=by
 unfold results;refine Calm.bind (Ia _ λr=>?_) λ_=>Ad
 cases r with
 | tmp t=>exact Ad
 | cell a t=>exact Calm.bind (vD _) λ_=>tL _ _
theorem Calm.loc {α:Type}{x:Sem α}(h:Calm P x)(w:World)(es:Array Event):F4 P x w es:=O7 x 0 h w es
theorem T8 (fr:Frame)(cs:List Frame)(g:Option Dying)(m:String)(w:World):He (λw=>endFatal P fr cs g m w) w:=by
 unfold endFatal;dsimp only
 refine He.bindR (λr=>match r with
  | .ok (texts,tabs) w=>dieOf fr (panicPieces texts++tabs) m true w
  | .halt (.unsupported u) w=>.ended (.unsupported u "") w
  | .halt _ w=>.ended (.stuck "the report of a panic" "") w) (Calm.loc ?_ w #[]) ?_ ?_
 ·have d:∀f:List (Value × String),Calm P (f.mapM λ(v,mark)=>match panicText P true v with
    | .text s=>(pure (s,mark):Sem (ByteArray × String))
    | .address s=>do pure (<-withAddress s,mark)
    | _=>unsupported (.noEntry "a fatal error during a panic whose value the report cannot show")):=by
   intro f;refine H9 _ λx=>?_
   obtain⟨v,i⟩:=x;dsimp only;split
   ·exact Ad
   ·exact Calm.bind (Xv _) λ_=>Ad
   ·exact Kv
  split
  ·exact Ad
  ·exact Calm.bind (Xw _ _) λ_=>Calm.bind (d _) λ_=>Ad
  ·exact Calm.bind (d _) λ_=>Ad
  ·exact Kv
 ·generalize Sem.run P _ w=r
  cases r with
  | ok a c=>obtain⟨a,b⟩:=a;exact(show Yx _ from λ_=>⟨rfl,λ_=>rfl⟩).loc _
  | halt h c=>cases h<;>exact(Az _ _).loc _
 ·generalize Sem.run P _ w=r
  cases r with
  | ok a c=>exact λ_=>trivial
  | halt h c=>cases h<;>exact λx=>x.elim
theorem Nb (τ:Nat->Question->Nat)(s e:Nat)(w:World):∀(n:Nat) (f:FuncId),P.found (rt τ s e w) n f=P.found w n f:=by
 intro n;induction n with
 | zero=>exact λ_=>rfl
 | succ n b=>
  intro f;unfold Program.found;have:(λa=>P.found (rt τ s e w) n a)=λa=>P.found w n a:=funext b
  simp only[this];rfl
theorem qb (τ:Nat->Question->Nat)(s e:Nat)(w:World):∀(n:Nat) (l m:List FuncId),P.brought (rt τ s e w) n l m=P.brought w n l m:=by
 intro n;induction n with
 | zero=>exact λl m=>by unfold Program.brought;cases l<;>rfl
 | succ n a=>
  intro l m;cases l with
  | nil=>unfold Program.brought;rfl
  | cons f l=>
   unfold Program.brought;simp only[a];rfl
end
section
variable {P : Program}{w : World}
theorem He.like {F G:World->GStep}(h:He G w)(a:F w=G w)(g:∀(τ:Nat->Question->Nat) (s e:Nat),F (rt τ s e w)=G (rt τ s e w)):He F w:=by
 obtain⟨c,f,K,b,k,d⟩:=h;exact⟨by rw[a];exact c,by rw[a];exact f,K,by rw[a];exact b,by rw[a];exact k,fun τ s e i j=>by rw[g,a];exact d τ s e i j⟩
theorem zP {p:Prop}(h:p:=by
 simp only[show ¬(((P.code? f).bind λc=>(readies c).getLast?).bind (rt τ s e w).shape?).isSome=true from h4,C7,Nb,hf,DU];try rfl):p:=h
theorem zk0 {p:Prop}(h:p:=by
 generalize Sem.run P _ w=r
 cases r with
 | ok a w'=>exact λ_=>trivial
 | halt h w'=>exact λx=>x.elim):p:=h
theorem Ay9 (fr:Frame)(cs:List Frame)(b:Option Dying)(g:Nat)(w:World):He (λw=>early P fr cs b g w) w:=by
 have d:∀w,He (λw=>match w.heap[g]? with
   | some (.pending c elem)=>GStep.go {frame:=fr,callers:=cs,status:=.running,dying:=b} {w with heap:=w.heap.setIfInBounds g (.cells c elem)}
   | _=>.ended (.stuck "early: the variable does not wait" (fr.pos P)) w) w:=by
  intro w;refine He.const ?_ ?_ fun τ s e _=>?_
  ·split<;>rfl
  ·split<;>rfl
  ·show(match w.heap[g]? with
    | some (.pending c elem)=>GStep.go _ {rt τ s e w with heap:=w.heap.setIfInBounds g (.cells c elem)} _
    | _=>GStep.ended _ (rt τ s e w) _)=_
   split<;>(rename_i q;try simp only)<;>first | rfl | skip
 have k:∀f w,He (λw=>GStep.go {frame:=Frame.enter P f #[] .early,callers:=(if(P.code? f).any P.plainData then(P.brought w (2*P.funcs.size+1) [f] []).drop 1 else []).map (Frame.enter P · #[] .early)++fr::cs,status:=.running,dying:=b} w #[]) w:=by
  intro f w;refine He.const rfl rfl fun τ s e _=>?_
  simp only[qb,GStep.turn]
 unfold early;dsimp only;by_cases n:(!P.follows .staticDataAhead)=true
 ·simp only[n,if_true];exact d w
 ·simp only[n,C7,DU]
  cases u:P.stepOf g with
  | none=>exact(Az _ _).loc w
  | some f=>
   simp only;by_cases m:((P.code? f).any P.atRunTime)=true
   ·simp only[m,if_true];exact d w
   ·simp only[m,C7,DU]
    by_cases h4:((((P.code? f).bind λc=>(readies c).getLast?).bind w.shape?).isSome)=true
    ·refine(d w).like ?_ fun τ s e=>?_
     ·simp only[h4,if_true];try rfl
     ·simp only[show(((P.code? f).bind λc=>(readies c).getLast?).bind (rt τ s e w).shape?).isSome=true from h4,if_true];try rfl
    ·generalize t:(fr.kind==CallKind.early)=kk
     have l:He (λw=>GStep.ended (.unsupported (.initOrder g) (fr.pos P)) w #[]) w:=(Az _ _).loc w;cases hf:P.found w P.funcs.size f<;>cases kk
     ·refine l.like ?_ fun τ s e=>?_
      ·simp only[h4,C7,DU,hf];try rfl
      ·exact zP
     ·refine l.like ?_ fun τ s e=>?_
      ·simp only[h4,C7,DU,hf];try rfl
      ·exact zP
     ·refine(d w).like ?_ fun τ s e=>?_
      ·simp only[h4,C7,DU,hf];try rfl
      ·exact zP
     ·refine l.like ?_ fun τ s e=>?_
      ·simp only[h4,C7,DU,hf];try rfl
      ·exact zP
     ·by_cases i:(P.code? f).any P.plainData=true
      ·refine(k f w).like ?_ fun τ s e=>?_
       ·simp only[h4,C7,DU,hf,i,if_true];try rfl
       ·simp only[show ¬(((P.code? f).bind λc=>(readies c).getLast?).bind (rt τ s e w).shape?).isSome=true from h4,C7,Nb,hf,i,if_true,DU];try rfl
      ·by_cases j:(!(P.code? f).any P.bareCopy)=true
       ·refine(d w).like ?_ fun τ s e=>?_
        ·simp only[h4,C7,DU,hf,i,j,if_true];try rfl
        ·simp only[show ¬(((P.code? f).bind λc=>(readies c).getLast?).bind (rt τ s e w).shape?).isSome=true from h4,C7,DU,Nb,hf,i,j,if_true];try rfl
       ·have o:He (λw=>(λr:Result Nat=>match r with
         | .ok 0 w=>(match w.heap[g]? with
           | some (.pending c elem)=>GStep.go {frame:=fr,callers:=cs,status:=.running,dying:=b} {w with heap:=w.heap.setIfInBounds g (.cells c elem)}
           | _=>.ended (.stuck "early: the variable does not wait" (fr.pos P)) w)
         | .ok _ w=>GStep.go {frame:=Frame.enter P f #[] .early,callers:=(if(P.code? f).any P.plainData then(P.brought w (2*P.funcs.size+1) [f] []).drop 1 else []).map (Frame.enter P · #[] .early)++fr::cs,status:=.running,dying:=b} w #[]
         | .halt _ w=>.ended (.stuck "early" (fr.pos P)) w) ((choose (.early g)).run P w)) w:=by
         refine He.bindR (P:=P) (w:=w) (x:=choose (.early g)) (λr:Result Nat=>match r with
          | .ok 0 w=>(match w.heap[g]? with
            | some (.pending c elem)=>GStep.go {frame:=fr,callers:=cs,status:=.running,dying:=b} {w with heap:=w.heap.setIfInBounds g (.cells c elem)}
            | _=>.ended (.stuck "early: the variable does not wait" (fr.pos P)) w)
          | .ok _ w=>GStep.go {frame:=Frame.enter P f #[] .early,callers:=(if(P.code? f).any P.plainData then(P.brought w (2*P.funcs.size+1) [f] []).drop 1 else []).map (Frame.enter P · #[] .early)++fr::cs,status:=.running,dying:=b} w #[]
          | .halt _ w=>.ended (.stuck "early" (fr.pos P)) w) (Calm.loc Nc w #[]) ?_ ?_
         ·generalize Sem.run P _ w=r
          cases r with
          | ok a w'=>cases a with
           | zero=>exact d w'
           | succ a=>exact k f w'
          | halt h w'=>exact(Az _ _).loc _
         ·exact zk0
        refine o.like ?_ fun τ s e=>?_
        ·simp only[h4,C7,DU,hf,i,j];rfl
        ·simp only[show ¬(((P.code? f).bind λc=>(readies c).getLast?).bind (rt τ s e w).shape?).isSome=true from h4,C7,DU,Nb,hf,i,j];rfl
     ·refine(k f w).like ?_ fun τ s e=>?_
      ·simp only[h4,C7,DU,hf];try rfl
      ·exact zP
end
section
variable {P : Program}{w : World}
def JY {α:Type}:Result α->Sem α
 | .ok a _=>.pure a
 | .halt h _=>.halt h
def GZ {α:Type}(es:Array Event):Result α->Array Event
 | .halt .blocked _ | .halt .waiting _ | .halt (.unsupported (.initOrder _)) _=>#[]
 | _=>es
theorem I8 (fn:FuncId):seen P fn #[]=#[]:=rfl
theorem Hq (x:GStep):GStep.after #[] x=x:=by cases x<;>simp[GStep.after]
theorem Z3 (fr:Frame)(cs:List Frame)(b:Option Dying)(x:Sem Next)(w:World):
  stepG.apply P true fr cs b x w=GStep.after (seen P fr.fn (if fr.kind==.early then #[] else GZ (x.runT P w #[]).2 (x.runT P w #[]).1)) (stepG.apply P true fr cs b (JY (x.runT P w #[]).1) (x.runT P w #[]).1.w):=by
 generalize c:x.runT P w #[]=r;obtain⟨r,f⟩:=r;cases r with
 | ok a d=>
  unfold stepG.apply;simp only[c,if_true,JY,Sem.runT,Result.w,GZ,ite_self,I8,Hq]
 | halt h d=>
  unfold stepG.apply;simp only[c,if_true,JY,Sem.runT,Result.w];cases h with
  | unsupported u=>cases u<;>simp only[GZ,ite_self,I8,Hq]
  | _=>simp only[GZ,ite_self,I8,Hq]
theorem pP (fr:Frame)(cs:List Frame)(b:Option Dying)(a:Next):Yx (λw=>stepG.apply P true fr cs b (.pure a) w):=by
 intro w;unfold stepG.apply;simp only[if_true,Sem.runT,ite_self,I8,Hq];cases a<;>dsimp only<;>repeat' first
  | exact⟨rfl,λ_=>rfl⟩
  | split
theorem qK (fr:Frame)(cs:List Frame)(a:Option Dying)(h:Halt)(w:World):He (λw=>stepG.apply P true fr cs a (.halt h) w) w:=by
 unfold stepG.apply;simp only[if_true,Sem.runT];cases h<;>(try dsimp only)<;>(try simp only[ite_self,I8,Hq])<;>first
  | exact(D8 _ _).loc _
  | exact(Az _ _).loc _
  | exact T8 _ _ _ _ _
  | exact Yx.loc (λ_=>⟨rfl,λ_=>rfl⟩) _
  | skip
 rename_i u;cases u<;>(try dsimp only)<;>(try simp only[ite_self,I8,Hq])<;>first
  | exact(Az _ _).loc _
  | exact Ay9 _ _ _ _ _
theorem Ym (fr:Frame)(cs:List Frame)(b:Option Dying)(h:Halt)(w:World)(a:(stepG.apply P true fr cs b (.halt h) w).cont):¬I3 h:=by
 revert a
 unfold stepG.apply;simp only[if_true,Sem.runT];cases h<;>(try dsimp only)<;>(try simp only[ite_self,I8,Hq])<;>first
  | exact λ_ x=>x
  | (intro x;exact x.elim)
  | (intro x;cases x)
  | skip
 rename_i u;cases u<;>(try dsimp only)<;>(try simp only[ite_self,I8,Hq])<;>first
  | exact λ_ x=>x
  | (intro x;exact x.elim)
theorem Vs (fr:Frame)(cs:List Frame)(b:Option Dying)(x:Sem Next)(w:World)(hx:F4 P x w #[]):He (λw=>stepG.apply P true fr cs b x w) w:=by
 refine He.congr (G:=λw=>(λ(r:Result Next) d=>GStep.after (seen P fr.fn (if fr.kind==.early then #[] else GZ d r)) (stepG.apply P true fr cs b (JY r) r.w)) (x.runT P w #[]).1 (x.runT P w #[]).2) ?_ (Z3 fr cs b x);refine He.bind (P:=P) (x:=x) (λ(r:Result Next) d=>GStep.after (seen P fr.fn (if fr.kind==.early then #[] else GZ d r)) (stepG.apply P true fr cs b (JY r) r.w)) #[] hx ?_ ?_
 ·generalize x.runT P w #[]=r
  obtain⟨r,d⟩:=r;cases r with
  | ok a f=>exact He.like (G:=λw=>GStep.after (seen P fr.fn (if fr.kind==.early then #[] else d)) (stepG.apply P true fr cs b (.pure a) w)) (He.after _ ((pP fr cs b a).loc f)) rfl λ_ _ _=>rfl
  | halt h f=>
   refine He.like (G:=λw=>GStep.after (seen P fr.fn (if fr.kind==.early then #[] else GZ d (Result.halt h f:Result Next))) (stepG.apply P true fr cs b (.halt h) w)) (He.after _ (qK fr cs b h f)) rfl fun τ s e=>?_
   have:∀g,GZ d (Result.halt h g:Result Next)=GZ d (Result.halt h f:Result Next):=by
    intro g;cases h<;>first | rfl | (rename_i u;cases u<;>rfl)
   simp only[Result.put,this];rfl
 ·rw[H7]
  generalize x.runT P w #[]=r;obtain⟨r,d⟩:=r;cases r with
  | ok a f=>exact λ_=>trivial
  | halt h f=>exact λc=>Ym fr cs b h f c
end
def Xp:Item->Prop
 | .call _ _ r _=>r= "runtime.print$piece"
 | .extern r _=>r= "runtime.print$piece"
 | _=>True
def DJ (fr:Frame):Prop:=∀i∈fr.todo,Xp i
def OkG (g:Goroutine):Prop:=DJ g.frame/\∀c∈g.callers,DJ c
section
variable {P : Program}{w : World}
theorem Vn:Extern.next "runtime.print$piece" =some (Extern.PrintPieces.piece #[] #[]):=Ao
theorem LY {α:Type}{x:Sem α}(hx:Calm P x)(H:Result α->Array Event->GStep)(f:∀a b,Yx (λw=>H (.ok a w) b))(i:∀h b,Yx (λw=>H (.halt h w) b))(g:∀h w b,I3 h->¬(H (.halt h w) b).cont)(w:World):
  He (λw=>H (x.runT P w #[]).1 (x.runT P w #[]).2) w:=by
 refine He.bind (P:=P) H #[] (hx.loc w #[]) ?_ ?_
 ·generalize x.runT P w #[]=r
  obtain⟨r,b⟩:=r;cases r with
  | ok a d=>exact(f a b).loc d
  | halt h d=>exact(i h b).loc d
 ·generalize x.runT P w #[]=r
  obtain⟨r,b⟩:=r;cases r with
  | ok a d=>exact λ_=>trivial
  | halt h d=>exact λc k=>g h d b k c
theorem H8 {F:World->GStep}(es:Array Event)(h:Yx F):Yx (λw=>GStep.after es (F w)):=λw=>⟨by rw[KN];exact(h w).1,λf=>by show GStep.after es (F (f w))=_;rw[WE,(h w).2 f]⟩
theorem Ay8 (main:Bool)(fr:Frame)(cs:List Frame)(d:Option Dying)(jump:Option Code)(w:World):He (λw=>
   match fr.roundOf with
   | none=>if jump matches none | some .ret then GStep.go {frame:={fr with mode:=.returning},callers:=cs,status:=.running,dying:=d} w else .ended (.stuck "exit, goto: no such block or label" (fr.pos P)) w
   | some l=>
    let (r,b):=(Instr.endRound l jump).runT P w #[]
    GStep.after (seen P fr.fn b)<| match r with
    | .ok v w=>doReturn P main fr cs d v w
    | .halt _ w=>.ended (.stuck "range over a function: no such loop" (fr.pos P)) w) w:=by
 cases fr.roundOf with
 | none=>
  dsimp only;split
  ·exact(D8 _ _).loc w
  ·exact(D8 _ _).loc w
  ·simp only[DU,C7];exact(Az _ _).loc w
 | some l=>
  refine(LY (P:=P) (x:=Instr.endRound l jump) AU (λr b=>GStep.after (seen P fr.fn b) (match r with
    | .ok v w=>doReturn P main fr cs d v w
    | .halt _ w=>.ended (.stuck "range over a function: no such loop" (fr.pos P)) w)) (λa b=>H8 _ (Vf main fr cs d a)) (λh b=>H8 _ (Az _ _)) (λh w b _ c=>by rw[H7] at c;exact c) w).congr λw=>rfl
theorem iM (b:OkP P)(fr:Frame)(cs:List Frame)(a:Option Dying)(w:World):He (λw=>stepG.oper P true fr cs a w) w:=by
 unfold stepG.oper;cases fr.oper? with
 | none=>exact(Az _ _).loc w
 | some o=>
  dsimp only;split
  ·exact Vs fr cs a _ w (Calm.loc (Calm.bind AU λ_=>Calm.bind AU λ_=>Ad) w #[])
  ·exact Vs fr cs a _ w (O7 _ 0 (WM b _ o) w #[])
theorem iN (o:OkP P)(main:Bool)(fr:Frame)(u:DJ fr)(cs:List Frame)(b:Option Dying)(w:World):He (λw=>stepG.exec P main true fr cs b w) w:=by
 have n:=λj=>Ay8 (P:=P) main fr cs b j w
 unfold stepG.exec;dsimp only;unfold DJ at u;split
 ·exact n none
 ·exact n (some .ret)
 ·exact(D8 _ _).loc w
 ·exact(D8 _ _).loc w
 ·exact(D8 _ _).loc w
 ·exact(D8 _ _).loc w
 ·exact(D8 _ _).loc w
 ·split
  ·exact(D8 _ _).loc w
  ·exact(Az _ _).loc w
 ·exact(D8 _ _).loc w
 ·exact(D8 _ _).loc w
 ·exact(D8 _ _).loc w
 ·exact(D8 _ _).loc w
 ·rename_i i k _
  cases exitTo i k with
  | none=>exact n (some (.exit i))
  | some t=>exact(D8 _ _).loc w
 ·rename_i l k _
  cases gotoIn l k with
  | none=>exact n (some (.goto l))
  | some t=>exact(D8 _ _).loc w
 ·rename_i f q assign body k _
  refine He.congr (G:=λw=>(λ(r:Result (Nat × List Deferred)) g=>GStep.after (seen P fr.fn g) (match r with
   | .ok (l,mark) w=>stepG.apply P true {fr with todo:=.inRangeFunc l::k,defers:=mark++fr.defers} cs b (do let d <-resolve ({fr with todo:=.inRangeFunc l::k,defers:=mark++fr.defers}:Frame).eval {callee:=.value f,args:=#[.const (.func (.yield l) #[] #[])],argTypes:=#[]} 0;invoke d.target d.args) w
   | .halt _ w=>.ended (.stuck "range over a function: no such loop" (fr.pos P)) w)) ((Instr.enterLoop fr.fn fr.tmps q assign body fr.roundOf).runT P w #[]).1 ((Instr.enterLoop fr.fn fr.tmps q assign body fr.roundOf).runT P w #[]).2) ?_ λw=>rfl
  refine He.bind (P:=P) (x:=Instr.enterLoop fr.fn fr.tmps q assign body fr.roundOf) (λ(r:Result (Nat × List Deferred)) g=>GStep.after (seen P fr.fn g) (match r with
   | .ok (l,mark) w=>stepG.apply P true {fr with todo:=.inRangeFunc l::k,defers:=mark++fr.defers} cs b (do let d <-resolve ({fr with todo:=.inRangeFunc l::k,defers:=mark++fr.defers}:Frame).eval {callee:=.value f,args:=#[.const (.func (.yield l) #[] #[])],argTypes:=#[]} 0;invoke d.target d.args) w
   | .halt _ w=>.ended (.stuck "range over a function: no such loop" (fr.pos P)) w)) #[] (Calm.loc AU w #[]) ?_ ?_
  ·generalize Sem.runT P _ w #[]=r
   obtain⟨r,g⟩:=r;cases r with
   | ok a w'=>obtain⟨l,B⟩:=a;exact He.after _ (Vs _ cs b _ w' (O7 _ 0 (Ei AU λ_=>Nk o _ _) w' #[]))
   | halt h w'=>exact(H8 _ (Az _ _)).loc w'
  ·generalize Sem.runT P _ w #[]=r
   obtain⟨r,g⟩:=r;cases r with
   | ok a w'=>exact λ_=>trivial
   | halt h w'=>exact λc=>by rw[H7] at c;exact c.elim
 ·exact(Az _ _).loc w
 ·refine Vs fr cs b _ w (Calm.loc (Calm.bind ?_ λ_=>Ad) w #[])
  cases fr.roundOf with
  | none=>exact Ec
  | some l=>exact Rl l
 ·rename_i l k _
  refine(LY (P:=P) (x:=Instr.endLoop l) AU (λr g=>GStep.after (seen P fr.fn g) (match r with
   | .ok jump w=>GStep.go {frame:={fr with todo:=(jump.map Item.code).toList++k},callers:=cs,status:=.running,dying:=b} w
   | .halt (.panic v) w=>GStep.go {frame:=(fr.raise [{v,recovered:=false}]),callers:=cs,status:=.running,dying:=b} w
   | .halt _ w=>.ended (.stuck "range over a function: no such loop" (fr.pos P)) w)) (λa g=>H8 _ (D8 _ _)) (λh g=>?_) (λh w g ok c=>?_) w).congr λw=>rfl
  ·cases h<;>first | exact H8 _ (Az _ _) | exact H8 _ (D8 _ _)
  ·rw[H7] at c;cases h<;>first | exact c | exact ok
 ·exact(Az _ _).loc w
 ·exact Vs fr cs b _ w (O7 _ 0 (Nk o _ _) w #[])
 ·rename_i row args k z
  have y:row= "runtime.print$piece" :=u (.extern row args) (by rw[z];exact E4);subst y;rw[Vn];exact Vs fr cs b _ w (O7 _ 0 (OX _ _ _) w #[])
 ·rename_i i m draw k _
  cases draw with
  | false=>exact(D8 _ _).loc w
  | true=>
   simp only[Ks,DU,C7]
   have A:He (λw=>(λr:Result Nat=>match r with
     | .ok t w=>GStep.go {frame:={fr with todo:=.inRegion m (Region.schedule (P.follows .mixedOrders) m t)::k},callers:=cs,status:=.running,dying:=b} w
     | .halt _ w=>.ended (.stuck "order" (fr.pos P)) w) ((choose (.order fr.fn i)).run P w)) w:=by
    refine He.bindR (P:=P) (x:=choose (.order fr.fn i)) (λr:Result Nat=>match r with
     | .ok t w=>GStep.go {frame:={fr with todo:=.inRegion m (Region.schedule (P.follows .mixedOrders) m t)::k},callers:=cs,status:=.running,dying:=b} w
     | .halt _ w=>.ended (.stuck "order" (fr.pos P)) w) (Calm.loc Nc w #[]) ?_ ?_
    ·generalize Sem.run P _ w=r
     cases r with
     | ok a w'=>exact(D8 _ _).loc _
     | halt h w'=>exact(Az _ _).loc _
    ·exact zk0
   exact A.congr λw=>rfl
 ·exact(D8 _ _).loc w
 ·split
  ·exact iM o fr cs b w
  ·exact(D8 _ _).loc w
end
