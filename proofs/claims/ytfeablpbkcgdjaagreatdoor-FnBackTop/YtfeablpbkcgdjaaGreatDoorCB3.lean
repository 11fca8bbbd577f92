import Derived.Test.YtfeablpbkcgdjaaGreatDoorCA6
import Derived.Conc.Beside
set_option linter.defProp false
namespace Go.Co
def one:Value->Bool
  | .agg _ | .tuple _=>false
  | _=>true
def rt (τ:Nat->Question->Nat)(s e:Nat)(w:World):World:={w with tape:=τ,drawn:=e+(w.drawn - s)}
def _root_.Go.Result.w {α:Type}:Result α->World
  | .ok _ w=>w
  | .halt _ w=>w
def _root_.Go.Result.turn {α:Type}(f:World->World):Result α->Result α
  | .ok a w=>.ok a (f w)
  | .halt h w=>.halt h (f w)
def _root_.Go.Result.cont {α:Type}:Result α->Prop
  | .ok _ _=>True
  | .halt h _=>¬IZ h
def Ag (T τ:Nat->Question->Nat)(s e K:Nat):Prop:=∀j,s+j<K->τ (e+j)=T (s+j)
def Ag.mono {T τ:Nat->Question->Nat}{s e K a:Nat}(h:Ag T τ s e K)(c:a<=K):Ag T τ s e a:=λj b=>h j (B8 b c)
abbrev Ag.mo:=@Ag.mono
theorem Ag.at {T τ:Nat->Question->Nat}{s e K n:Nat}(h:Ag T τ s e K)(b:s<=n)(a:n<K):τ (e+(n - s))=T n:=by
  have:=h (n - s) AU
  rwa [show s+(n - s)=n by omega] at this
section
variable {α:Type}
variable {P : Program}{τ : Nat -> Question -> Nat}{s e : Nat}
def cE (w:World)(a:Addr)(u:TypeId)(k:Addr)(b:Bool):(rt τ s e w).seen P a u k b=w.seen P a u k b:=rfl
def UG (w:World)(a:Addr)(b:Bool):(rt τ s e w).farLoad P a b=w.farLoad P a b:=rfl
theorem js (w:World)(a:Addr)(u:TypeId)(k:Addr)(v:Value)(b:Bool):
    (rt τ s e w).viewStore P a u k v b=match w.viewStore P a u k v b with | .ok (c,l)=>.ok (rt τ s e c,l) | .error x=>.error x:=by
  unfold World.viewStore;rw[cE];simp only[bind,Except.bind,pure,Except.pure];split
  . rfl
  . cases w.seen P a u k b with
    | error x=>rfl
    | ok x=>
      cases v.bytes? with
      | none=>rfl
      | some d=>
        simp only;split
        . rfl
        . split<;>(rename_i f;simp only;try rfl)
theorem SL (w:World)(a:Addr)(v:Value)(b:Bool):
    (rt τ s e w).farStore P a v b=match w.farStore P a v b with | .ok (d,l)=>.ok (rt τ s e d,l) | .error x=>.error x:=by
  unfold World.farStore
  show(match w.heap[a.block]? with
    | some (.view at_ u)=>match (rt τ s e w).viewStore P at_ u a v b with
      | .ok r=>Except.ok r
      | .error c=>Except.error (Halt.unsupported (.unsafePointer c))
    | _=>Except.error (w.noCell a "store: no such cell"))=_
  cases f:w.heap[a.block]? with
  | none=>rfl
  | some o=>
    cases o<;>first
      | rfl
      | (simp only
         rw[js];cases w.viewStore P _ _ a v b with
         | ok x=>obtain⟨x,y⟩:=x;rfl
         | error x=>rfl)
def XC:∀(a:Ask α) (w:World),(w.ask a).2.tape=w.tape/\w.drawn<=(w.ask a).2.drawn:=by
  intro a;induction a with
  | done a=>exact λw=>⟨rfl,B7 _⟩
  | ask what range k b=>
    intro w;simp only[World.ask];split
    . exact b 0 w
    . have:=b ((Question.extern what range).cut (w.tape w.drawn (Question.extern what range))) {w with drawn:=w.drawn+1}
      exact⟨this.1,CB (IX _) this.2⟩
theorem d6:∀(a:Ask α) (w:World),s<=w.drawn->Ag w.tape τ s e (w.ask a).2.drawn->(rt τ s e w).ask a=((w.ask a).1,rt τ s e (w.ask a).2):=by
  intro a;induction a with
  | done a=>exact λw _ _=>rfl
  | ask what range k f=>
    intro w d b;simp only[World.ask] at b ⊢;by_cases c:(Question.extern what range).forced=true
    . rw[if_pos c] at b ⊢
      rw[if_pos c];exact f 0 w d b
    . rw[if_neg c] at b ⊢
      rw[if_neg c];have i:=(XC (k ((Question.extern what range).cut (w.tape w.drawn (Question.extern what range)))) {w with drawn:=w.drawn+1}).2;have h:(rt τ s e w).tape (rt τ s e w).drawn=w.tape w.drawn:=b.at d (B8 (DN _) i);rw[h];have g:({rt τ s e w with drawn:=(rt τ s e w).drawn+1}:World)=rt τ s e {w with drawn:=w.drawn+1}:=by
        simp only[rt];congr 1;omega
      rw[g];exact f _ {w with drawn:=w.drawn+1} (CB d (IX _)) b
theorem OX (c:Sys)(w:World)(b:s<=w.drawn)(a:Ag w.tape τ s e (w.ask (Kernel.perform c w.os)).2.drawn):(rt τ s e w).sys c=((w.sys c).1,rt τ s e (w.sys c).2):=by
  have h:=d6 (τ:=τ) (s:=s) (e:=e) (Kernel.perform c w.os) w b a;unfold World.sys
  show(match (rt τ s e w).ask (Kernel.perform c w.os) with
    | ((.wouldBlock,_),_)=>(SysRet.wouldBlock,rt τ s e w)
    | ((r,os),w)=>(r,{w with os}))=_
  rw[h];generalize w.ask (Kernel.perform c w.os)=x;obtain⟨⟨r,os⟩,d⟩:=x;cases r<;>rfl
theorem WV (c:Sys)(w:World):(w.sys c).2.tape=w.tape/\w.drawn<=(w.sys c).2.drawn/\((w.sys c).1≠.wouldBlock->(w.sys c).2.drawn=(w.ask (Kernel.perform c w.os)).2.drawn)/\((w.sys c).1=.wouldBlock->(w.sys c).2.drawn<=(w.ask (Kernel.perform c w.os)).2.drawn):=by
  have h:=XC (Kernel.perform c w.os) w
  revert h
  unfold World.sys;generalize w.ask (Kernel.perform c w.os)=x;obtain⟨⟨r,os⟩,b⟩:=x;cases r<;>exact λh=>⟨by first | rfl | exact h.1,by first | exact B7 _ | exact h.2,λa=>by first | rfl | exact absurd rfl a,λa=>by first | exact h.2 | cases a⟩
structure GX {α:Type}(P:Program)(x:Sem α)(w:World)(es:Array Event):Prop where
  tape:(x.runT P w es).1.w.tape=w.tape
  le:w.drawn<=(x.runT P w es).1.w.drawn
  loc:∃K,(x.runT P w es).1.w.drawn<=K/\((x.runT P w es).1.cont->K=(x.runT P w es).1.w.drawn)/\
    ∀(τ:Nat->Question->Nat) (s e:Nat),s<=w.drawn->Ag w.tape τ s e K->x.runT P (rt τ s e w) es=((x.runT P w es).1.turn (rt τ s e),(x.runT P w es).2)
def GX.of_eq {x:Sem α}{y:Sem α}{w w':World}{es b:Array Event}(h:GX P y w' b)(f:w'.tape=w.tape)(hd:w.drawn<=w'.drawn)
    (a:x.runT P w es=y.runT P w' b) (l:∀(τ:Nat->Question->Nat) (s e:Nat),s<=w.drawn->Ag w.tape τ s e w'.drawn->x.runT P (rt τ s e w) es=y.runT P (rt τ s e w') b):GX P x w es:=by
  obtain⟨k,g,K,c,j,m⟩:=h;refine⟨by rw[a,k,f],by rw[a];exact CB hd g,K,by rw[a];exact c,by rw[a];exact j,fun τ s e d i=>?_⟩;rw[l τ s e d (i.mono (CB g c)),a];exact m τ s e (CB d hd) (by rw[f];exact i)
def zha {p:Prop}(h:p:=by
 refine⟨by rw[e1];rfl,by rw[e1];exact B7 _,w.drawn,by rw[e1];exact B7 _,by rw[e1];exact λ_=>rfl,fun τ s e _ _=>?_⟩;rw[e1];simp only[Sem.runT,hrt,hr,Result.turn]):p:=h
theorem Nb {N:α->Prop}:∀(x:Sem α) (d:Nat),CZ P N d x->∀(w:World) (b:Array Event),GX P x w b:=by
  intro x;induction x with
  | pure a=>exact λd _ w b=>⟨rfl,B7 _,w.drawn,B7 _,λ_=>rfl,fun τ s e _ _=>rfl⟩
  | halt h=>exact λd _ w b=>⟨rfl,B7 _,w.drawn,B7 _,λ_=>rfl,fun τ s e _ _=>rfl⟩
  | load m a k i=>
    intro d g w b;cases z:w.cell? a with
    | some v=>
      refine(i v d (g v) w (b.push ⟨.cell a,false,m==.atomic⟩)).of_eq rfl (B7 _) ?_ fun τ s e _ _=>?_
      . simp only[Sem.runT,z]
      . simp only[Sem.runT,show(rt τ s e w).cell? a=some v from z]
    | none=>
      cases j:w.farLoad P a (m==.atomic) with
      | ok r=>
        obtain⟨v,l⟩:=r;refine(i v d (g v) w (b++l.toArray.map (⟨.cell ·,false,m==.atomic⟩))).of_eq rfl (B7 _) ?_ fun τ s e _ _=>?_
        . simp only[Sem.runT,z,j]
        . simp only[Sem.runT,show(rt τ s e w).cell? a=none from z,UG,j]
      | error h=>
        have e1:(Sem.load m a k).runT P w b=(.halt h w,b):=by simp only[Sem.runT,z,j]
        refine⟨by rw[e1];rfl,by rw[e1];exact B7 _,w.drawn,by rw[e1];exact B7 _,by rw[e1];exact λ_=>rfl,fun τ s e _ _=>?_⟩;rw[e1];simp only[Sem.runT,show(rt τ s e w).cell? a=none from z,UG,j,Result.turn]
  | store m a v k i=>
    intro d g w b;by_cases H:one v=true
    . have y:∀w b,(Sem.store m a v k).runT P w b=match w.cell? a with
          | some _=>if w.frozen? a then(.halt (.unsupported (.unsafePointer "a write to bytes that a string shares")) w,b) else k.runT P (w.setCell a v) (b.push ⟨.cell a,true,m==.atomic⟩)
          | none=>match w.farStore P a v (m==.atomic) with
            | .ok (w,touched)=>k.runT P w (b++touched.toArray.map (⟨.cell ·,true,m==.atomic⟩))
            | .error h=>(.halt h w,b):=by
        intro w b;cases v<;>first | rfl | cases H
      cases z:w.cell? a with
      | some u=>
        by_cases j:w.frozen? a=true
        . have e1:(Sem.store m a v k).runT P w b=(.halt (.unsupported (.unsafePointer "a write to bytes that a string shares")) w,b):=by rw[y];simp only[z,j,if_true]
          refine⟨by rw[e1];rfl,by rw[e1];exact B7 _,w.drawn,by rw[e1];exact B7 _,by rw[e1];exact λ_=>rfl,fun τ s e _ _=>?_⟩;rw[e1,y];simp only[show(rt τ s e w).cell? a=some u from z,show(rt τ s e w).frozen? a=true from j,if_true,Result.turn]
        . refine(i d g (w.setCell a v) (b.push ⟨.cell a,true,m==.atomic⟩)).of_eq rfl (B7 _) ?_ fun τ s e _ _=>?_
          . rw[y];simp only[z,j,C5,DR]
          . rw[y];simp only[show(rt τ s e w).cell? a=some u from z,show(rt τ s e w).frozen? a=w.frozen? a from rfl,j,C5,DR];rfl
      | none=>
        cases j:w.farStore P a v (m==.atomic) with
        | ok r=>
          obtain⟨E,l⟩:=r;have K:E.tape=w.tape/\E.drawn=w.drawn:=by
            unfold World.farStore at j;split at j
            . split at j
              . rename_i x T
                cases j
                revert T
                unfold World.viewStore;simp only[bind,Except.bind,pure,Except.pure];split
                . intro h;cases h
                . split
                  . intro h;cases h
                  . split
                    . split
                      . intro h;cases h
                      . split
                        . intro h;cases h
                        . intro h;cases h;exact⟨rfl,rfl⟩
                    . intro h;cases h
              . cases j
            . cases j
          refine(i d g E (b++l.toArray.map (⟨.cell ·,true,m==.atomic⟩))).of_eq K.1 (by rw[K.2];exact B7 _) ?_ fun τ s e _ _=>?_
          . rw[y];simp only[z,j]
          . rw[y];simp only[show(rt τ s e w).cell? a=none from z,SL,j]
        | error h=>
          have e1:(Sem.store m a v k).runT P w b=(.halt h w,b):=by rw[y];simp only[z,j]
          refine⟨by rw[e1];rfl,by rw[e1];exact B7 _,w.drawn,by rw[e1];exact B7 _,by rw[e1];exact λ_=>rfl,fun τ s e _ _=>?_⟩;rw[e1,y];simp only[show(rt τ s e w).cell? a=none from z,SL,j,Result.turn]
    . have y:∀w b,(Sem.store m a v k).runT P w b=(.halt (.stuck "store: not the value of one cell") w,b):=by
        intro w b;cases v<;>first | rfl | exact absurd rfl H
      refine⟨by rw[y];rfl,by rw[y];exact B7 _,w.drawn,by rw[y];exact B7 _,by rw[y];exact λ_=>rfl,fun τ s e _ _=>?_⟩;rw[y,y];rfl
  | new o k i=>
    intro d g w b;exact(i w.heap.size d (g _) {w with heap:=w.heap.push o} b).of_eq rfl (B7 _) rfl fun τ s e _ _=>rfl
  | shape r k i=>
    intro d g w b;exact(i _ d (g (w.shape? r)) w b).of_eq rfl (B7 _) rfl fun τ s e _ _=>rfl
  | freeze a n k i=>
    intro d g w b;refine(i d g (w.freeze a n) b).of_eq ?_ ?_ rfl fun τ s e _ _=>?_
    . unfold World.freeze;split<;>rfl
    . unfold World.freeze;split<;>exact B7 _
    . have:(rt τ s e w).freeze a n=rt τ s e (w.freeze a n):=by unfold World.freeze;split<;>rfl
      simp only[Sem.runT,this]
  | frozen a k i=>
    intro d g w b;exact(i _ d (g (w.frozen? a)) w b).of_eq rfl (B7 _) rfl fun τ s e _ _=>rfl
  | getObj r k i=>
    intro d g w b;have hrt:∀(τ:Nat->Question->Nat) (s e:Nat),(rt τ s e w).heap[r]?=w.heap[r]?:=λ_ _ _=>rfl
    cases hr:w.heap[r]? with
    | none=>
      have e1:(Sem.getObj r k).runT P w b=(.halt (.stuck "getObj: no such block") w,b):=by simp only[Sem.runT,hr]
      exact zha
    | some o=>
      by_cases A:∃c t f,o=.cells c t f
      . obtain⟨c,t,f,rfl⟩:=A
        have e1:(Sem.getObj r k).runT P w b=(.halt (.stuck "getObj: a row of cells") w,b):=by simp only[Sem.runT,hr]
        exact zha
      . refine(i o d (g o) w (b.push ⟨.obj r,false,o.isChan⟩)).of_eq rfl (B7 _) ?_ fun τ s e _ _=>?_
        . cases o<;>first | (exact absurd ⟨_,_,_,rfl⟩ A) | simp only[Sem.runT,hr]
        . cases o<;>first | (exact absurd ⟨_,_,_,rfl⟩ A) | simp only[Sem.runT,hrt,hr]
  | setObj r o k i=>
    intro d g w b;have hrt:∀(τ:Nat->Question->Nat) (s e:Nat),(rt τ s e w).heap[r]?=w.heap[r]?:=λ_ _ _=>rfl
    cases hr:w.heap[r]? with
    | none=>
      have e1:(Sem.setObj r o k).runT P w b=(.halt (.stuck "setObj: no such block") w,b):=by simp only[Sem.runT,hr]
      exact zha
    | some u=>
      by_cases A:∃c t f,u=.cells c t f
      . obtain⟨c,t,f,rfl⟩:=A
        have e1:(Sem.setObj r o k).runT P w b=(.halt (.stuck "setObj: a row of cells") w,b):=by simp only[Sem.runT,hr]
        exact zha
      . refine(i d g {w with heap:=w.heap.setIfInBounds r o} (b.push ⟨.obj r,true,o.isChan⟩)).of_eq rfl (B7 _) ?_ fun τ s e _ _=>?_
        . cases u<;>first | (exact absurd ⟨_,_,_,rfl⟩ A) | simp only[Sem.runT,hr]
        . cases u<;>first | (exact absurd ⟨_,_,_,rfl⟩ A) | (simp only[Sem.runT,hrt,hr];rfl)
  | choose q k i=>
    intro d g w b;by_cases j:q.forced=true
    . refine(i 0 d (g 0) w b).of_eq rfl (B7 _) ?_ fun τ s e _ _=>?_
      . simp only[Sem.runT,j,if_true]
      . simp only[Sem.runT,j,if_true]
    . refine(i (q.cut (w.tape w.drawn q)) d (g _) {w with drawn:=w.drawn+1} b).of_eq rfl (IX _) ?_ fun τ s e C B=>?_
      . simp only[Sem.runT,j,C5,DR]
      . have Q:(rt τ s e w).tape (rt τ s e w).drawn=w.tape w.drawn:=B.at C (DN _)
        have M:({rt τ s e w with drawn:=(rt τ s e w).drawn+1}:World)=rt τ s e {w with drawn:=w.drawn+1}:=by
          simp only[rt];congr 1;omega
        simp only[Sem.runT,j,C5,DR,Q,M]
  | sys c k i=>
    intro d g w b;obtain⟨I,L,O,R⟩:=WV c w;by_cases D:(w.sys c).1=.wouldBlock
    . have U:=g.1
      obtain⟨h,J,S⟩:∃h,k .wouldBlock=.halt h/\IZ h:=by
        revert U
        cases k .wouldBlock<;>first | (intro x;exact⟨_,rfl,x⟩) | (intro x;cases x)
      have e1:(Sem.sys c k).runT P w b=(.halt h (w.sys c).2,b.push ⟨.output,true,false⟩):=by simp only[Sem.runT,D,J]
      refine⟨by rw[e1];exact I,by rw[e1];exact L,(w.ask (Kernel.perform c w.os)).2.drawn,by rw[e1];exact R D,by rw[e1];exact λx=>absurd S x,fun τ s e C B=>?_⟩;rw[e1];simp only[Sem.runT,OX c w C B,D,J,Result.turn]
    . refine(i _ d (g.2 (w.sys c).1) (w.sys c).2 (b.push ⟨.output,true,false⟩)).of_eq I L ?_ fun τ s e C B=>?_
      . simp only[Sem.runT]
      . simp only[Sem.runT,OX c w C (by rw[O D] at B;exact B)]
  | program k i=>exact λd g w b=>(i P d g w b).of_eq rfl (B7 _) rfl fun τ s e _ _=>rfl
  | mark m k i=>exact λd g w b=>(i _ g w (b.push ⟨.mark m,false,true⟩)).of_eq rfl (B7 _) rfl fun τ s e _ _=>rfl
end
def _root_.Go.GStep.w:GStep->World
 | .go _ w _ | .comm _ _ _ _ w _ | .spawn _ _ w _ | .count _ w _ | .timer _ _ w _ | .alone _ _ w _ | .newcoro _ _ _ w _ | .coroswitch _ _ _ w _ | .collect _ w _ | .watch _ w _ | .ended _ w _=>w
def _root_.Go.GStep.turn (f:World->World):GStep->GStep
 | .go g w a=>.go g (f w) a
 | .comm g c b h w a=>.comm g c b h (f w) a
 | .spawn g i w a=>.spawn g i (f w) a
 | .count g w a=>.count g (f w) a
 | .timer g op w a=>.timer g op (f w) a
 | .alone g b w a=>.alone g b (f w) a
 | .newcoro g c d w a=>.newcoro g c d (f w) a
 | .coroswitch g c x w a=>.coroswitch g c x (f w) a
 | .collect g w a=>.collect g (f w) a
 | .watch g w a=>.watch g (f w) a
 | .ended o w a=>.ended o (f w) a
def _root_.Go.GStep.cont:GStep->Prop
 | .go g _ _=>g.status=.running
 | .ended ..=>False
 | _=>True
theorem KJ (es:Array Event)(x:GStep):(GStep.after es x).w=x.w:=by cases x<;>rfl
theorem T0 (f:World->World)(es:Array Event)(x:GStep):(GStep.after es x).turn f=GStep.after es (x.turn f):=by cases x<;>rfl
theorem Gs (es:Array Event)(x:GStep):(GStep.after es x).cont=x.cont:=by cases x<;>rfl
structure Gg (F:World->GStep)(w:World):Prop where
 tape:(F w).w.tape=w.tape
 le:w.drawn<=(F w).w.drawn
 loc:∃K,(F w).w.drawn<=K/\((F w).cont->K=(F w).w.drawn)/\∀(τ:Nat->Question->Nat) (s e:Nat),s<=w.drawn->Ag w.tape τ s e K->F (rt τ s e w)=(F w).turn (rt τ s e)
section
variable {α:Type}
variable {P : Program}{F G : World -> GStep}{w : World}
def Gg.const (h1:(F w).w.tape=w.tape)(a:(F w).w.drawn=w.drawn)(h:∀(τ:Nat->Question->Nat) (s e:Nat),s<=w.drawn->F (rt τ s e w)=(F w).turn (rt τ s e)):Gg F w:=
 ⟨h1,by rw[a];exact B7 _,w.drawn,by rw[a];exact B7 _,λ_=>a.symm,fun τ s e b _=>h τ s e b⟩
def Gg.congr (h:Gg G w)(e:∀w,F w=G w):Gg F w:=by
 have :=funext e;rw[this];exact h
theorem Gg.after (es:Array Event)(h:Gg F w):Gg (λw=>GStep.after es (F w)) w:=by
 obtain⟨i,c,K,a,b,d⟩:=h;refine⟨by rw[KJ];exact i,by rw[KJ];exact c,K,by rw[KJ];exact a,by rw[KJ,Gs];exact b,fun τ s e g f=>?_⟩;show GStep.after es (F (rt τ s e w))=(GStep.after es (F w)).turn (rt τ s e)
 rw[T0,d τ s e g f]
def _root_.Go.Result.put {α:Type}(w:World):Result α->Result α
 | .ok a _=>.ok a w
 | .halt h _=>.halt h w
theorem Gg.bind {x:Sem α}(H:Result α->Array Event->GStep)(es:Array Event)(hx:GX P x w es)
  (v:Gg (λm=>H ((x.runT P w es).1.put m) (x.runT P w es).2) (x.runT P w es).1.w)
  (r:(H (x.runT P w es).1 (x.runT P w es).2).cont->(x.runT P w es).1.cont):Gg (λw=>H (x.runT P w es).1 (x.runT P w es).2) w:=by
 obtain⟨h1,g,K,z,k,n⟩:=hx;have t:(x.runT P w es).1.put (x.runT P w es).1.w=(x.runT P w es).1:=by cases (x.runT P w es).1<;>rfl
 obtain⟨b,a,L,j,d,i⟩:=v;simp only[t] at b a j d i;refine⟨b.trans h1,CB g a,max K L,CB j (LJ _ _),λc=>?_,fun τ s e f hA=>?_⟩
 .have q:=k (r c)
  have u:=d c;rw[q,u];exact Nat.max_eq_right a
 .have o:=n τ s e f (hA.mono (J2 _ _))
  have l:=i τ s e (CB f g) yEe;simp only[o];have y:(x.runT P w es).1.turn (rt τ s e)=(x.runT P w es).1.put (rt τ s e (x.runT P w es).1.w):=by cases (x.runT P w es).1<;>rfl
  rw[y];exact l
theorem Gg.bindR {x:Sem α}(H:Result α->GStep)(hx:GX P x w #[])
  (b:Gg (λc=>H ((x.run P w).put c)) (x.run P w).w)
  (a:(H (x.run P w)).cont->(x.run P w).cont):Gg (λw=>H (x.run P w)) w:=by
 have e:∀w,(x.runT P w #[]).1=x.run P w:=λw=>by rw[Sem.runT_eq]
 have:=Gg.bind (P:=P) (w:=w) (λr _=>H r) #[] hx (by simp only[e];exact b) (by simp only[e];exact a)
 simp only[e] at this;exact this
end
section
variable {P : Program}{w : World}
def Xm (F:World->GStep):Prop:=∀w,(F w).w=w/\∀f:World->World,F (f w)=(F w).turn f
theorem Xm.loc {F:World->GStep}(h:Xm F)(w:World):Gg F w:=Gg.const (by rw[(h w).1]) (by rw[(h w).1]) (fun τ s e _=>(h w).2 (rt τ s e))
def Du (g:Goroutine)(es:Array Event):Xm (λw=>.go g w es):=λ_=>⟨rfl,λ_=>rfl⟩
def Ar (o:Outcome)(es:Array Event):Xm (λw=>.ended o w es):=λ_=>⟨rfl,λ_=>rfl⟩
def Tn (main:Bool)(fr:Frame)(cs:List Frame)(a:Option Dying)(v:Value):Xm (λw=>doReturn P main fr cs a v w):=by
 intro w;unfold doReturn;dsimp only;split
 .split
  .exact⟨rfl,λ_=>rfl⟩
  .exact⟨rfl,λ_=>rfl⟩
  .exact⟨rfl,λ_=>rfl⟩
  .exact⟨rfl,λ_=>rfl⟩
 .split
  .exact⟨rfl,λ_=>rfl⟩
  .exact⟨rfl,λ_=>rfl⟩
  .split
   .exact⟨rfl,λ_=>rfl⟩
   .split<;>exact⟨rfl,λ_=>rfl⟩
def Un (fr:Frame)(v:Value):Xm (λw=>endPrinting P fr v w):=by
 intro w;unfold endPrinting;dsimp only;split<;>exact⟨rfl,λ_=>rfl⟩
def V6 (s:ByteArray):Calm P (withAddress s):=by
 unfold withAddress;exact Calm.bind J3 λ_=>Ae
def V7:∀(l:List PanicEntry) (b:Bool),Calm P (reportChain l b):=by
 intro l;induction l with
 | nil=>exact λ_=>Ae
 | cons x l a=>
  intro b;unfold reportChain;repeat' first
   | exact Ae
   | exact a _
   | exact Je
   | exact J3
   | exact k7
   | refine Calm.bind ?_ (λ_=>?_)
   | split
theorem R9 (fn:Func)(tmps:Array Value):Calm P (results fn tmps):=by
 unfold results;refine Calm.bind (Gv _ λr=>?_) λ_=>Ae
 cases r with
 | tmp t=>exact Ae
 | cell a t=>exact Calm.bind (oP _) λ_=>k9 _ _
def Calm.loc {α:Type}{x:Sem α}(h:Calm P x)(w:World)(es:Array Event):GX P x w es:=Nb x 0 h w es
theorem RS (fr:Frame)(cs:List Frame)(g:Option Dying)(m:String)(w:World):Gg (λw=>endFatal P fr cs g m w) w:=by
 unfold endFatal;dsimp only
 refine Gg.bindR (λr=>match r with
  | .ok (texts,tabs) w=>dieOf fr (panicPieces texts++tabs) m true w
  | .halt (.unsupported u) w=>.ended (.unsupported u "") w
  | .halt _ w=>.ended (.stuck "the report of a panic" "") w) (Calm.loc ?_ w #[]) ?_ ?_
 .have f:∀d:List (Value × String),Calm P (d.mapM λ(v,mark)=>match panicText P true v with
    | .text s=>(pure (s,mark):Sem (ByteArray × String))
    | .address s=>do pure (<-withAddress s,mark)
    | _=>unsupported (.noEntry "a fatal error during a panic whose value the report cannot show")):=by
   intro d;refine Gu _ λx=>?_
   obtain⟨v,i⟩:=x;dsimp only;split
   .exact Ae
   .exact Calm.bind (V6 _) λ_=>Ae
   .exact Je
  split
  .exact Ae
  .exact Calm.bind (V7 _ _) λ_=>Calm.bind (f _) λ_=>Ae
  .exact Calm.bind (f _) λ_=>Ae
  .exact Je
 .generalize Sem.run P _ w=r
  cases r with
  | ok a c=>obtain⟨a,b⟩:=a;exact(show Xm _ from λ_=>⟨rfl,λ_=>rfl⟩).loc _
  | halt h c=>cases h<;>exact(Ar _ _).loc _
 .generalize Sem.run P _ w=r
  cases r with
  | ok a c=>exact λ_=>trivial
  | halt h c=>cases h<;>exact λx=>x.elim
def Jz (τ:Nat->Question->Nat)(s e:Nat)(w:World):∀(n:Nat) (f:FuncId),P.found (rt τ s e w) n f=P.found w n f:=by
 intro n;induction n with
 | zero=>exact λ_=>rfl
 | succ n b=>
  intro f;unfold Program.found;have:(λa=>P.found (rt τ s e w) n a)=λa=>P.found w n a:=funext b
  simp only[this];rfl
theorem jK (τ:Nat->Question->Nat)(s e:Nat)(w:World):∀(n:Nat) (l m:List FuncId),P.brought (rt τ s e w) n l m=P.brought w n l m:=by
 intro n;induction n with
 | zero=>exact λl m=>by unfold Program.brought;cases l<;>rfl
 | succ n a=>
  intro l m;cases l with
  | nil=>unfold Program.brought;rfl
  | cons f l=>
   unfold Program.brought;simp only[a];rfl
end
