import Derived.Test.YtgnkpbhknkinoaaGreatDoorCA6
import Derived.Conc.Beside
set_option linter.defProp false
namespace Go.Co
def one:AW->Bool
  |.agg _|.tuple _=>false
  |_=>true
def rt(τ:Nat->Question->Nat)(s e:Nat)(w:AU):AU:={w with tape:=τ,drawn:=e+(w.drawn - s)}
def _root_.Go.Result.w{α:Type}:Result α->World
  |.ok _ w=>w
  |.halt _ w=>w
def _root_.Go.Result.turn{α:Type}(f:AU->World):Result α->Result α
  |.ok a w=>.ok a (f w)
  |.halt h w=>.halt h (f w)
def _root_.Go.Result.cont{α:Type}:Result α->Prop
  |.ok _ _=>True
  |.halt h _=>¬KQ h
def Ag(T τ:Nat->Question->Nat)(s e K:Nat):Prop:=∀j,s+j<K->τ (e+j)=T (s+j)
def Ag.mono{T τ:Nat->Question->Nat}{s e K a:Nat}(h:Ag T τ s e K)(b:a<=K):Ag T τ s e a:=λj c=>h j (DL c b)
abbrev Ag.mo:=@Ag.mono
def Ag.at{T τ:Nat->Question->Nat}{s e K n:Nat}(h:Ag T τ s e K)(b:s<=n)(a:n<K):τ (e+(n - s))=T n:=by have:=h (n - s) BS;rwa [show s+(n - s)=n by omega]at this
section
variable {α:Type}
variable {P : AY}{τ : Nat -> Question -> Nat}{s e : Nat}
def mT(w:AU)(a:Ab)(u:AZ)(k:Ab)(b:Bool):(rt τ s e w).seen P a u k b=w.seen P a u k b:=rfl
def YM(w:AU)(a:Ab)(b:Bool):(rt τ s e w).farLoad P a b=w.farLoad P a b:=rfl
theorem sw(w:AU)(a:Ab)(u:AZ)(k:Ab)(v:AW)(b:Bool):
    (rt τ s e w).viewStore P a u k v b=match w.viewStore P a u k v b with|.ok (c,l)=>.ok (rt τ s e c,l)|.error x=>.error x:=by
 unfold World.viewStore;rw[mT];simp only[bind,Except.bind,pure,Except.pure];split
 . rfl
 . cases w.seen P a u k b with
   |error x=>rfl
   |ok x=>
     cases v.bytes? with
     |none=>rfl
     |some d=>
       simp only;split
       . rfl
       . split<;>(rename_i f;simp only;try rfl)
theorem WY(w:AU)(a:Ab)(v:AW)(b:Bool):
    (rt τ s e w).farStore P a v b=match w.farStore P a v b with|.ok (c,l)=>.ok (rt τ s e c,l)|.error x=>.error x:=by
 unfold World.farStore
 show(match w.heap[a.block]? with
   |some (.view at_ u)=>match (rt τ s e w).viewStore P at_ u a v b with
     |.ok r=>Except.ok r
     |.error d=>Except.error (Halt.unsupported (.unsafePointer d))
   | _=>Except.error (w.noCell a "store: no such cell"))=_
 cases f:w.heap[a.block]? with
 |none=>rfl
 |some o=>
  cases o<;>first
   |rfl
   | (simp only
      rw[sw];cases w.viewStore P _ _ a v b with
      |ok x=>obtain⟨x,y⟩:=x;rfl
      | error x=>rfl)
def eB:∀(a:Ask α)(w:AU),(w.ask a).2.tape=w.tape/\w.drawn<=(w.ask a).2.drawn:=by
 intro a;induction a with
 |done a=>exact λw=>⟨rfl,DK _⟩
 |ask what range k b=>
  intro w;simp only[World.ask];split
  . exact b 0 w
  . have:=b ((Question.extern what range).cut (w.tape w.drawn (Question.extern what range))) {w with drawn:=w.drawn+1}
    exact⟨this.1,DR (JJ _) this.2⟩
theorem nY:∀(a:Ask α)(w:AU),s<=w.drawn->Ag w.tape τ s e (w.ask a).2.drawn->(rt τ s e w).ask a=((w.ask a).1,rt τ s e (w.ask a).2):=by
 intro a;induction a with
 |done a=>exact λw _ _=>rfl
 |ask what range k f=>
  intro w d b;simp only[World.ask]at b⊢;by_cases c:(Question.extern what range).forced=true
  . rw[BR c]at b⊢
    rw[BR c];exact f 0 w d b
  . rw[BQ c]at b⊢
    rw[BQ c];have g:=(eB (k ((Question.extern what range).cut (w.tape w.drawn (Question.extern what range)))) {w with drawn:=w.drawn+1}).2;have h:(rt τ s e w).tape (rt τ s e w).drawn=w.tape w.drawn:=b.at d (DL (EO _) g);rw[h];have i:({rt τ s e w with drawn:=(rt τ s e w).drawn+1}:AU)=rt τ s e {w with drawn:=w.drawn+1}:=by
      simp only[rt];congr 1;omega
    rw[i];exact f _ {w with drawn:=w.drawn+1} (DR d (JJ _)) b
theorem SH(c:Sys)(w:AU)(b:s<=w.drawn)(a:Ag w.tape τ s e (w.ask (Kernel.perform c w.os)).2.drawn):(rt τ s e w).sys c=((w.sys c).1,rt τ s e (w.sys c).2):=by
 have h:=nY (τ:=τ) (s:=s) (e:=e) (Kernel.perform c w.os) w b a;unfold World.sys
 show(match (rt τ s e w).ask (Kernel.perform c w.os) with
   |((.wouldBlock,_),_)=>(SysRet.wouldBlock,rt τ s e w)
   | ((r,os),w)=>(r,{w with os}))=_
 rw[h];generalize w.ask (Kernel.perform c w.os)=x;obtain⟨⟨r,os⟩,d⟩:=x;cases r<;>rfl
theorem dI(c:Sys)(w:AU):(w.sys c).2.tape=w.tape/\w.drawn<=(w.sys c).2.drawn/\((w.sys c).1≠.wouldBlock->(w.sys c).2.drawn=(w.ask (Kernel.perform c w.os)).2.drawn)/\((w.sys c).1=.wouldBlock->(w.sys c).2.drawn<=(w.ask (Kernel.perform c w.os)).2.drawn):=by
 have h:=eB (Kernel.perform c w.os) w
 revert h
 unfold World.sys;generalize w.ask (Kernel.perform c w.os)=x;obtain⟨⟨r,os⟩,b⟩:=x;cases r<;>exact λh=>⟨by first|rfl|exact h.1,by first|exact DK _|exact h.2,λa=>by first|rfl|exact absurd rfl a,λa=>by first|exact h.2|cases a⟩
structure IX{α:Type}(P:AY)(x:Sem α)(w:AU)(es:Array Event):Prop where
  tape:(x.runT P w es).1.w.tape=w.tape
  le:w.drawn<=(x.runT P w es).1.w.drawn
  loc:∃K,(x.runT P w es).1.w.drawn<=K/\((x.runT P w es).1.cont->K=(x.runT P w es).1.w.drawn)/\
    ∀(τ:Nat->Question->Nat)(s e:Nat),s<=w.drawn->Ag w.tape τ s e K->x.runT P (rt τ s e w) es=((x.runT P w es).1.turn (rt τ s e),(x.runT P w es).2)
def IX.of_eq{x:Sem α}{y:Sem α}{w w':AU}{es b:Array Event}(h:IX P y w' b)(i:w'.tape=w.tape)(hd:w.drawn<=w'.drawn)
    (a:x.runT P w es=y.runT P w' b) (l:∀(τ:Nat->Question->Nat)(s e:Nat),s<=w.drawn->Ag w.tape τ s e w'.drawn->x.runT P (rt τ s e w) es=y.runT P (rt τ s e w') b):IX P x w es:=by obtain⟨j,g,K,f,k,m⟩:=h;refine⟨by rw[a,j,i],by rw[a];exact DR hd g,K,by rwa[a],by rwa[a],fun τ s e d c=>?_⟩;rw[l τ s e d (c.mo (DR g f)),a];exact m τ s e (DR d hd) (by rwa[i])
def zja{p:Prop}(h:p:=by refine⟨by rw[e1];rfl,by rw[e1];exact DK _,w.drawn,by rw[e1];exact DK _,by rw[e1];exact λ_=>rfl,fun τ s e _ _=>?_⟩;rw[e1];simp only[Sem.runT,hrt,hr,Result.turn]):p:=h
theorem Ox{N:α->Prop}:∀(x:Sem α)(d:Nat),EA P N d x->∀(w:AU)(b:Array Event),IX P x w b:=by
 intro x;induction x with
 |pure a=>exact λd _ w b=>⟨rfl,DK _,w.drawn,DK _,λ_=>rfl,fun τ s e _ _=>rfl⟩
 |halt h=>exact λd _ w b=>⟨rfl,DK _,w.drawn,DK _,λ_=>rfl,fun τ s e _ _=>rfl⟩
 |load m a k i=>
  intro d g w b;cases y:w.c a with
  |some v=>
   refine(i v d (g v) w (b.push ⟨.cell a,false,m==.atomic⟩)).of_eq rfl (DK _) ?_ fun τ s e _ _=>?_
   . simp only[Sem.runT,y]
   . simp only[Sem.runT,show(rt τ s e w).c a=some v from y]
  |none=>
   cases j:w.farLoad P a (m==.atomic) with
   |ok r=>
    obtain⟨v,l⟩:=r;refine(i v d (g v) w (b++l.toArray.map (⟨.cell ·,false,m==.atomic⟩))).of_eq rfl (DK _) ?_ fun τ s e _ _=>?_
    . simp only[Sem.runT,y,j]
    . simp only[Sem.runT,show(rt τ s e w).c a=none from y,YM,j]
   |error h=>have e1:(Sem.load m a k).runT P w b=(.halt h w,b):=(by simp only[Sem.runT,y,j]);refine⟨by rw[e1];rfl,xBb,w.drawn,xBb,by rw[e1];exact λ_=>rfl,fun τ s e _ _=>?_⟩;rw[e1];simp only[Sem.runT,show(rt τ s e w).c a=none from y,YM,j,Result.turn]
 |store m a v k i=>
  intro d g w b;by_cases J:one v=true
  . have z:∀w b,(Sem.store m a v k).runT P w b=match w.c a with
        |some _=>if w.f a then(.halt (.unsupported (.unsafePointer "a write to bytes that a string shares")) w,b) else k.runT P (w.s a v) (b.push ⟨.cell a,true,m==.atomic⟩)
        |none=>match w.farStore P a v (m==.atomic) with
          |.ok (w,touched)=>k.runT P w (b++touched.toArray.map (⟨.cell ·,true,m==.atomic⟩))
          |.error h=>(.halt h w,b):=by
      intro w b;cases v<;>first|rfl|cases J
    cases y:w.c a with
    |some u=>
      by_cases j:w.f a=true
      . have e1:(Sem.store m a v k).runT P w b=(.halt (.unsupported (.unsafePointer "a write to bytes that a string shares")) w,b):=by rw[z];simp only[y,j,if_true]
        refine⟨by rw[e1];rfl,xBb,w.drawn,xBb,by rw[e1];exact λ_=>rfl,fun τ s e _ _=>?_⟩;rw[e1,z];simp only[show(rt τ s e w).c a=some u from y,show(rt τ s e w).f a=true from j,if_true,Result.turn]
      . refine(i d g (w.s a v) (b.push ⟨.cell a,true,m==.atomic⟩)).of_eq rfl (DK _) ?_ fun τ s e _ _=>?_
        . rw[z];simp only[y,j,EH,EZ]
        . rw[z];simp only[show(rt τ s e w).c a=some u from y,show(rt τ s e w).f a=w.f a from rfl,j,EH,EZ];rfl
    |none=>
      cases j:w.farStore P a v (m==.atomic) with
      |ok r=>
        obtain⟨E,l⟩:=r;have I:E.tape=w.tape/\E.drawn=w.drawn:=by
          unfold World.farStore at j;split at j
          . split at j
            . rename_i x O
              cases j
              revert O
              unfold World.viewStore;simp only[bind,Except.bind,pure,Except.pure];split
              . intro h;cases h
              . split
                . intro h;cases h
                . split
                  . split
                    . intro h;cases h
                    . split
                      . intro h;cases h
                      . intro h;cases h;exact⟨rfl,rfl⟩
                  . intro h;cases h
            . cases j
          . cases j
        refine(i d g E (b++l.toArray.map (⟨.cell ·,true,m==.atomic⟩))).of_eq I.1 (by rw[I.2];exact DK _) ?_ fun τ s e _ _=>?_
        . rw[z];simp only[y,j]
        . rw[z];simp only[show(rt τ s e w).c a=none from y,WY,j]
      |error h=>
        have e1:(Sem.store m a v k).runT P w b=(.halt h w,b):=by rw[z];simp only[y,j]
        refine⟨by rw[e1];rfl,xBb,w.drawn,xBb,by rw[e1];exact λ_=>rfl,fun τ s e _ _=>?_⟩;rw[e1,z];simp only[show(rt τ s e w).c a=none from y,WY,j,Result.turn]
  . have z:∀w b,(Sem.store m a v k).runT P w b=(.halt (.stuck "store: not the value of one cell") w,b):=by
      intro w b;cases v<;>first|rfl|exact absurd rfl J
    refine⟨by rw[z];rfl,by rw[z];exact DK _,w.drawn,by rw[z];exact DK _,by rw[z];exact λ_=>rfl,fun τ s e _ _=>?_⟩;rw[z,z];rfl
 |new o k i=>intro d g w b;exact(i w.z d (g _) {w with heap:=w.heap.push o} b).of_eq rfl (DK _) rfl fun τ s e _ _=>rfl
 |shape r k i=>intro d g w b;exact(i _ d (g (w.shape? r)) w b).of_eq rfl (DK _) rfl fun τ s e _ _=>rfl
 |freeze a n k i=>
  intro d g w b;refine(i d g (w.freeze a n) b).of_eq ?_ ?_ rfl fun τ s e _ _=>?_
  . unfold World.freeze;split<;>rfl
  . unfold World.freeze;split<;>exact DK _
  . have:(rt τ s e w).freeze a n=rt τ s e (w.freeze a n):=by unfold World.freeze;split<;>rfl
    simp only[Sem.runT,this]
 |frozen a k i=>intro d g w b;exact(i _ d (g (w.f a)) w b).of_eq rfl (DK _) rfl fun τ s e _ _=>rfl
 |getObj r k i=>
  intro d g w b;have hrt:∀(τ:Nat->Question->Nat)(s e:Nat),(rt τ s e w).heap[r]?=w.heap[r]?:=λ_ _ _=>rfl;cases hr:w.heap[r]? with
  |none=>have e1:(Sem.getObj r k).runT P w b=(.halt (.stuck "getObj: no such block") w,b):=xBt;exact zja
  |some o=>
   by_cases A:∃c t f,o=.cells c t f
   . obtain⟨c,t,f,rfl⟩:=A
     have e1:(Sem.getObj r k).runT P w b=(.halt (.stuck "getObj: a row of cells") w,b):=xBt
     exact zja
   . refine(i o d (g o) w (b.push ⟨.obj r,false,o.isChan⟩)).of_eq rfl (DK _) ?_ fun τ s e _ _=>?_
     . cases o<;>first|(exact absurd ⟨_,_,_,rfl⟩ A)|simp only[Sem.runT,hr]
     . cases o<;>first|(exact absurd ⟨_,_,_,rfl⟩ A)|simp only[Sem.runT,hrt,hr]
 |setObj r o k i=>
  intro d g w b;have hrt:∀(τ:Nat->Question->Nat)(s e:Nat),(rt τ s e w).heap[r]?=w.heap[r]?:=λ_ _ _=>rfl;cases hr:w.heap[r]? with
  |none=>have e1:(Sem.setObj r o k).runT P w b=(.halt (.stuck "setObj: no such block") w,b):=xBt;exact zja
  |some u=>
   by_cases A:∃c t f,u=.cells c t f
   . obtain⟨c,t,f,rfl⟩:=A
     have e1:(Sem.setObj r o k).runT P w b=(.halt (.stuck "setObj: a row of cells") w,b):=xBt
     exact zja
   . refine(i d g {w with heap:=w.heap.setIfInBounds r o} (b.push ⟨.obj r,true,o.isChan⟩)).of_eq rfl (DK _) ?_ fun τ s e _ _=>?_
     . cases u<;>first|(exact absurd ⟨_,_,_,rfl⟩ A)|simp only[Sem.runT,hr]
     . cases u<;>first|(exact absurd ⟨_,_,_,rfl⟩ A)|(simp only[Sem.runT,hrt,hr];rfl)
 |choose q k i=>
  intro d g w b;by_cases j:q.forced=true
  . refine(i 0 d (g 0) w b).of_eq rfl (DK _) ?_ fun τ s e _ _=>?_
    . simp only[Sem.runT,j,if_true]
    . simp only[Sem.runT,j,if_true]
  . refine(i (q.cut (w.tape w.drawn q)) d (g _) {w with drawn:=w.drawn+1} b).of_eq rfl (JJ _) ?_ fun τ s e C B=>?_
    . simp only[Sem.runT,j,EH,EZ]
    . have Q:(rt τ s e w).tape (rt τ s e w).drawn=w.tape w.drawn:=B.at C (EO _)
      have T:({rt τ s e w with drawn:=(rt τ s e w).drawn+1}:AU)=rt τ s e {w with drawn:=w.drawn+1}:=by
        simp only[rt];congr 1;omega
      simp only[Sem.runT,j,EH,EZ,Q,T]
 |sys c k i=>
  intro d g w b;have⟨L,H,R,M⟩:=dI c w;by_cases D:(w.sys c).1=.wouldBlock
  . have S:=g.1
    obtain⟨h,K,U⟩:∃h,k .wouldBlock=.halt h/\KQ h:=by
      revert S
      cases k .wouldBlock<;>first|(intro x;exact⟨_,rfl,x⟩)|(intro x;cases x)
    have e1:(Sem.sys c k).runT P w b=(.halt h (w.sys c).2,b.push ⟨.output,true,false⟩):=by simp only[Sem.runT,D,K]
    refine⟨by rwa[e1],by rwa[e1],(w.ask (Kernel.perform c w.os)).2.drawn,by rw[e1];exact M D,by rw[e1];exact λx=>absurd U x,fun τ s e C B=>?_⟩;rw[e1];simp only[Sem.runT,SH c w C B,D,K,Result.turn]
  . refine(i _ d (g.2 (w.sys c).1) (w.sys c).2 (b.push ⟨.output,true,false⟩)).of_eq L H ?_ fun τ s e C B=>?_
    . simp only[Sem.runT]
    . simp only[Sem.runT,SH c w C (by rwa[R D]at B)]
 |program k i=>exact λd g w b=>(i P d g w b).of_eq rfl (DK _) rfl fun τ s e _ _=>rfl
 |mark m k i=>exact λd g w b=>(i _ g w (b.push ⟨.mark m,false,true⟩)).of_eq rfl (DK _) rfl fun τ s e _ _=>rfl
end
def _root_.Go.GStep.w:GStep->World
 |.go _ w _|.comm _ _ _ _ w _|.spawn _ _ w _|.count _ w _|.timer _ _ w _|.alone _ _ w _|.newcoro _ _ _ w _|.coroswitch _ _ _ w _|.collect _ w _|.watch _ w _|.ended _ w _=>w
def _root_.Go.GStep.turn(f:AU->World):GStep->GStep
 |.go g w a=>.go g (f w) a
 |.comm g c b h w a=>.comm g c b h (f w) a
 |.spawn g i w a=>.spawn g i (f w) a
 |.count g w a=>.count g (f w) a
 |.timer g op w a=>.timer g op (f w) a
 |.alone g b w a=>.alone g b (f w) a
 |.newcoro g c d w a=>.newcoro g c d (f w) a
 |.coroswitch g c x w a=>.coroswitch g c x (f w) a
 |.collect g w a=>.collect g (f w) a
 |.watch g w a=>.watch g (f w) a
 |.ended o w a=>.ended o (f w) a
def _root_.Go.GStep.cont:GStep->Prop
 |.go g _ _=>g.status=.running
 |.ended ..=>False
 |_=>True
def MB(es:Array Event)(x:GStep):(GStep.after es x).w=x.w:=by cases x<;>rfl
def XR(f:AU->World)(es:Array Event)(x:GStep):(GStep.after es x).turn f=GStep.after es (x.turn f):=by cases x<;>rfl
def Hu(es:Array Event)(x:GStep):(GStep.after es x).cont=x.cont:=by cases x<;>rfl
structure G7(F:AU->GStep)(w:AU):Prop where
 tape:(F w).w.tape=w.tape
 le:w.drawn<=(F w).w.drawn
 loc:∃K,(F w).w.drawn<=K/\((F w).cont->K=(F w).w.drawn)/\∀(τ:Nat->Question->Nat)(s e:Nat),s<=w.drawn->Ag w.tape τ s e K->F (rt τ s e w)=(F w).turn (rt τ s e)
section
variable {α:Type}
variable {P : AY}{F G : AU -> GStep}{w : AU}
def G7.const(h1:(F w).w.tape=w.tape)(a:(F w).w.drawn=w.drawn)(h:∀(τ:Nat->Question->Nat)(s e:Nat),s<=w.drawn->F (rt τ s e w)=(F w).turn (rt τ s e)):G7 F w:=
 ⟨h1,by rw[a];exact DK _,w.drawn,by rw[a];exact DK _,λ_=>a.symm,fun τ s e b _=>h τ s e b⟩
def G7.congr(h:G7 G w)(e:∀w,F w=G w):G7 F w:=by have :=funext e;rwa[this]
def G7.after(es:Array Event)(h:G7 F w):G7 (λw=>GStep.after es (F w)) w:=by obtain⟨a,c,K,i,f,g⟩:=h;refine⟨by rwa[MB],by rwa[MB],K,by rwa[MB],by rwa[MB,Hu],fun τ s e d b=>?_⟩;show GStep.after es (F (rt τ s e w))=(GStep.after es (F w)).turn (rt τ s e);rw[XR,g τ s e d b]
def _root_.Go.Result.put{α:Type}(w:AU):Result α->Result α
 |.ok a _=>.ok a w
 |.halt h _=>.halt h w
theorem G7.bind{x:Sem α}(H:Result α->Array Event->GStep)(es:Array Event)(hx:IX P x w es)
  (v:G7 (λm=>H ((x.runT P w es).1.put m) (x.runT P w es).2) (x.runT P w es).1.w)
  (t:(H (x.runT P w es).1 (x.runT P w es).2).cont->(x.runT P w es).1.cont):G7 (λw=>H (x.runT P w es).1 (x.runT P w es).2) w:=by
 obtain⟨h1,g,K,z,y,q⟩:=hx;have u:(x.runT P w es).1.put (x.runT P w es).1.w=(x.runT P w es).1:=by cases (x.runT P w es).1<;>rfl
 obtain⟨i,a,L,j,d,b⟩:=v;simp only[u]at i a j d b;refine⟨i.tr h1,DR g a,max K L,DR j (Of _ _),λc=>?_,fun τ s e f hA=>?_⟩
 .have n:=y (t c);have l:=d c;rw[n,l];exact Nat.max_eq_right a
 have r:=q τ s e f (hA.mo (MZ _ _));have o:=b τ s e (DR f g) yEi;simp only[r];have k:(x.runT P w es).1.turn (rt τ s e)=(x.runT P w es).1.put (rt τ s e (x.runT P w es).1.w):=by cases (x.runT P w es).1<;>rfl
 rwa[k]
def G7.bindR{x:Sem α}(H:Result α->GStep)(hx:IX P x w #[])
  (b:G7 (λa=>H ((x.run P w).put a)) (x.run P w).w)
  (c:(H (x.run P w)).cont->(x.run P w).cont):G7 (λw=>H (x.run P w)) w:=by
 have e:∀w,(x.runT P w #[]).1=x.run P w:=λw=>by rw[Sem.runT_eq]
 have:=G7.bind (P:=P) (w:=w) (λr _=>H r) #[] hx (by simp only[e];exact b) (by simp only[e];exact c);simp only[e]at this;exact this
end
section
variable {P : AY}{w : AU}
def Yo(F:AU->GStep):Prop:=∀w,(F w).w=w/\∀f:AU->World,F (f w)=(F w).turn f
def Yo.loc{F:AU->GStep}(h:Yo F)(w:AU):G7 F w:=G7.const (by rw[(h w).1]) (by rw[(h w).1]) (fun τ s e _=>(h w).2 (rt τ s e))
def D7(g:AX)(es:Array Event):Yo (λw=>.go g w es):=λ_=>⟨rfl,λ_=>rfl⟩
def Bf(o:Outcome)(es:Array Event):Yo (λw=>.ended o w es):=λ_=>⟨rfl,λ_=>rfl⟩
def U7(main:Bool)(fr:Frame)(cs:List Frame)(a:Option Dying)(v:AW):Yo (λw=>doReturn P main fr cs a v w):=by
 intro w;unfold doReturn;dsimp only;split
 .split;{exact⟨rfl,λ_=>rfl⟩};{exact⟨rfl,λ_=>rfl⟩};{exact⟨rfl,λ_=>rfl⟩};exact⟨rfl,λ_=>rfl⟩
 split
 .exact⟨rfl,λ_=>rfl⟩
 .exact⟨rfl,λ_=>rfl⟩
 split
 .exact⟨rfl,λ_=>rfl⟩
 split<;>exact⟨rfl,λ_=>rfl⟩
def Vt(fr:Frame)(v:AW):Yo (λw=>endPrinting P fr v w):=by intro w;unfold endPrinting;dsimp only;split<;>exact⟨rfl,λ_=>rfl⟩
def Xr(s:ByteArray):Calm P (withAddress s):=by unfold withAddress;exact Calm.bind Nb λ_=>Ae
def Xt:∀(l:List PanicEntry)(b:Bool),Calm P (reportChain l b):=by
 intro l;induction l with
 |nil=>exact λ_=>Ae|cons x l a=>intro b;unfold reportChain;repeat' first|exact Ae|exact a _|exact Kv|exact Nb|exact uN|refine Calm.bind ?_ (λ_=>?_)|split
theorem WJ(fn:Func)(tmps:Array AW):Calm P (results fn tmps):=by unfold results;refine Calm.bind (Hz _ λr=>?_) λ_=>Ae;cases r with|tmp t=>exact Ae|cell a t=>exact Calm.bind (xR _) λ_=>uO _ _
def Calm.loc{α:Type}{x:Sem α}(h:Calm P x)(w:AU)(es:Array Event):IX P x w es:=Ox x 0 h w es
theorem V1(fr:Frame)(cs:List Frame)(g:Option Dying)(m:String)(w:AU):G7 (λw=>endFatal P fr cs g m w) w:=by
 unfold endFatal;dsimp only
 refine G7.bindR (λr=>match r with
  |.ok (texts,tabs) w=>dieOf fr (panicPieces texts++tabs) m true w
  |.halt (.unsupported u) w=>.ended (.unsupported u "") w
  | .halt _ w=>.ended (.stuck "the report of a panic" "") w) (Calm.loc ?_ w #[]) ?_ ?_
 .have d:∀f:List (AW × String),Calm P (f.mapM λ(v,mark)=>match panicText P true v with
    |.text s=>(pure (s,mark):Sem (ByteArray × String))
    |.address s=>do pure (<-withAddress s,mark)
    | _=>unsupported (.noEntry "a fatal error during a panic whose value the report cannot show")):=by
   intro f;refine Hy _ λx=>?_
   obtain⟨v,i⟩:=x;dsimp only;split
   .exact Ae
   .exact Calm.bind (Xr _) λ_=>Ae
   .exact Kv
  split
  .exact Ae
  .exact Calm.bind (Xt _ _) λ_=>Calm.bind (d _) λ_=>Ae
  .exact Calm.bind (d _) λ_=>Ae
  .exact Kv
 .generalize Sem.run P _ w=r;cases r with
  |ok a c=>obtain⟨a,b⟩:=a;exact(show Yo _ from λ_=>⟨rfl,λ_=>rfl⟩).loc _
  |halt h c=>cases h<;>exact(Bf _ _).loc _
 generalize Sem.run P _ w=r;cases r with|ok a c=>exact λ_=>trivial|halt h c=>cases h<;>exact λx=>x.elim
def Na(τ:Nat->Question->Nat)(s e:Nat)(w:AU):∀(n:Nat)(f:FuncId),P.found (rt τ s e w) n f=P.found w n f:=by
 intro n;induction n with
 |zero=>exact λ_=>rfl|succ n b=>intro f;unfold Program.found;have:(λa=>P.found (rt τ s e w) n a)=λa=>P.found w n a:=funext b;simp only[this];rfl
theorem sg(τ:Nat->Question->Nat)(s e:Nat)(w:AU):∀(n:Nat)(l m:List FuncId),P.brought (rt τ s e w) n l m=P.brought w n l m:=by
 intro n;induction n with
 |zero=>exact λl m=>by unfold Program.brought;cases l<;>rfl
 |succ n a=>
  intro l m;cases l with
  |nil=>unfold Program.brought;rfl|cons f l=>unfold Program.brought;simp only[a];rfl
end
section
variable {P : AY}{w : AU}
def G7.like{F G:AU->GStep}(h:G7 G w)(a:F w=G w)(i:∀(τ:Nat->Question->Nat)(s e:Nat),F (rt τ s e w)=G (rt τ s e w)):G7 F w:=by obtain⟨b,d,K,k,g,j⟩:=h;exact⟨by rwa[a],by rwa[a],K,by rwa[a],by rwa[a],fun τ s e f c=>by rw[i,a];exact j τ s e f c⟩
def zR{p:Prop}(h:p:=by simp only[show ¬(((P.code? f).bind λc=>(readies c).getLast?).bind (rt τ s e w).shape?).isSome=true from h4,EH,Na,hf,EZ];try rfl):p:=h
def zi0{p:Prop}(h:p:=by generalize Sem.run P _ w=r;cases r with|ok a w'=>exact λ_=>trivial| halt h w'=>exact λx=>x.elim):p:=h
theorem Ay4(fr:Frame)(cs:List Frame)(b:Option Dying)(g:Nat)(w:AU):G7 (λw=>early P fr cs b g w) w:=by
 have i:∀w,G7 (λw=>match w.heap[g]? with
   |some (.pending c elem)=>GStep.go {frame:=fr,callers:=cs,status:=.running,dying:=b} {w with heap:=w.heap.setIfInBounds g (.cells c elem)}
   | _=>.ended (.stuck "early: the variable does not wait" (fr.pos P)) w) w:=by
  intro w;refine G7.const ?_ ?_ fun τ s e _=>?_
  .split<;>rfl
  .split<;>rfl
  .show(match w.heap[g]? with
    |some (.pending c elem)=>GStep.go _ {rt τ s e w with heap:=w.heap.setIfInBounds g (.cells c elem)} _
    | _=>GStep.ended _ (rt τ s e w) _)=_
   split<;>(rename_i q;try simp only)<;>first|rfl|skip
 have l:∀f w,G7 (λw=>GStep.go {frame:=Frame.enter P f #[] .early,callers:=(if(P.code? f).any P.plainData then(P.brought w (2*P.funcs.size+1) [f] []).drop 1 else []).map (Frame.enter P · #[] .early)++fr::cs,status:=.running,dying:=b} w #[]) w:=by intro f w;refine G7.const rfl rfl fun τ s e _=>?_;simp only[sg,GStep.turn]
 unfold early;dsimp only;by_cases m:(!P.follows .staticDataAhead)=true
 .simp only[m,if_true];exact i w
 simp only[m,EH,EZ];cases t:P.stepOf g with
 |none=>exact(Bf _ _).loc w
 |some f=>
  simp only;by_cases n:((P.code? f).any P.atRunTime)=true;{simp only[n,if_true];exact i w};simp only[n,EH,EZ];by_cases h4:((((P.code? f).bind λc=>(readies c).getLast?).bind w.shape?).isSome)=true;{refine(i w).like ?_ fun τ s e=>?_;{simp only[h4,if_true];try rfl};simp only[show(((P.code? f).bind λc=>(readies c).getLast?).bind (rt τ s e w).shape?).isSome=true from h4,if_true];try rfl};generalize u:(fr.kind==CallKind.early)=kk;have k:G7 (λw=>GStep.ended (.unsupported (.initOrder g) (fr.pos P)) w #[]) w:=(Bf _ _).loc w;cases hf:P.found w P.funcs.size f<;>cases kk
  .refine k.like ?_ fun τ s e=>?_;{simp only[h4,EH,EZ,hf];try rfl};exact zR
  .refine k.like ?_ fun τ s e=>?_;{simp only[h4,EH,EZ,hf];try rfl};exact zR
  .refine(i w).like ?_ fun τ s e=>?_;{simp only[h4,EH,EZ,hf];try rfl};exact zR
  .refine k.like ?_ fun τ s e=>?_;{simp only[h4,EH,EZ,hf];try rfl};exact zR
  .by_cases d:(P.code? f).any P.plainData=true;{refine(l f w).like ?_ fun τ s e=>?_;{simp only[h4,EH,EZ,hf,d,if_true];try rfl};simp only[show ¬(((P.code? f).bind λc=>(readies c).getLast?).bind (rt τ s e w).shape?).isSome=true from h4,EH,Na,hf,d,if_true,EZ];try rfl};by_cases j:(!(P.code? f).any P.bareCopy)=true;{refine(i w).like ?_ fun τ s e=>?_;{simp only[h4,EH,EZ,hf,d,j,if_true];try rfl};simp only[show ¬(((P.code? f).bind λc=>(readies c).getLast?).bind (rt τ s e w).shape?).isSome=true from h4,EH,EZ,Na,hf,d,j,if_true];try rfl}
   .have o:G7 (λw=>(λr:Result Nat=>match r with
     | .ok 0 w=>(match w.heap[g]? with
       |some (.pending c elem)=>GStep.go {frame:=fr,callers:=cs,status:=.running,dying:=b} {w with heap:=w.heap.setIfInBounds g (.cells c elem)}
       | _=>.ended (.stuck "early: the variable does not wait" (fr.pos P)) w)
     |.ok _ w=>GStep.go {frame:=Frame.enter P f #[] .early,callers:=(if(P.code? f).any P.plainData then(P.brought w (2*P.funcs.size+1) [f] []).drop 1 else []).map (Frame.enter P · #[] .early)++fr::cs,status:=.running,dying:=b} w #[]
     | .halt _ w=>.ended (.stuck "early" (fr.pos P)) w) ((choose (.early g)).run P w)) w:=by
     refine G7.bindR (P:=P) (w:=w) (x:=choose (.early g)) (λr:Result Nat=>match r with
      | .ok 0 w=>(match w.heap[g]? with
        |some (.pending c elem)=>GStep.go {frame:=fr,callers:=cs,status:=.running,dying:=b} {w with heap:=w.heap.setIfInBounds g (.cells c elem)}
        | _=>.ended (.stuck "early: the variable does not wait" (fr.pos P)) w)
      |.ok _ w=>GStep.go {frame:=Frame.enter P f #[] .early,callers:=(if(P.code? f).any P.plainData then(P.brought w (2*P.funcs.size+1) [f] []).drop 1 else []).map (Frame.enter P · #[] .early)++fr::cs,status:=.running,dying:=b} w #[]
      | .halt _ w=>.ended (.stuck "early" (fr.pos P)) w) (Calm.loc Nb w #[]) ?_ ?_
     .generalize Sem.run P _ w=r
      cases r with
      |ok a w'=>cases a with
       |zero=>exact i w'
       |succ a=>exact l f w'
      |halt h w'=>exact(Bf _ _).loc _
     .exact zi0
    refine o.like ?_ fun τ s e=>?_
    .simp only[h4,EH,EZ,hf,d,j];rfl
    .simp only[show ¬(((P.code? f).bind λc=>(readies c).getLast?).bind (rt τ s e w).shape?).isSome=true from h4,EH,EZ,Na,hf,d,j];rfl
  refine(l f w).like ?_ fun τ s e=>?_;{simp only[h4,EH,EZ,hf];try rfl};exact zR
end
section
variable {P : AY}{w : AU}
def LD{α:Type}:Result α->Sem α
 |.ok a _=>.pure a
 |.halt h _=>.halt h
def JD{α:Type}(es:Array Event):Result α->Array Event
 |.halt .blocked _|.halt .waiting _|.halt (.unsupported (.initOrder _)) _=>#[]
 |_=>es
def Ip(fn:FuncId):seen P fn #[]=#[]:=rfl
theorem Ha(x:GStep):GStep.after #[] x=x:=by cases x<;>simp[GStep.after]
theorem eC(fr:Frame)(cs:List Frame)(b:Option Dying)(x:Sem Next)(w:AU):
  stepG.apply P true fr cs b x w=GStep.after (seen P fr.fn (if fr.kind==.early then #[] else JD (x.runT P w #[]).2 (x.runT P w #[]).1)) (stepG.apply P true fr cs b (LD (x.runT P w #[]).1) (x.runT P w #[]).1.w):=by
 generalize c:x.runT P w #[]=r;obtain⟨r,f⟩:=r;cases r with
 |ok a d=>unfold stepG.apply;simp only[c,if_true,LD,Sem.runT,Result.w,JD,ite_self,Ip,Ha]
 |halt h d=>
  unfold stepG.apply;simp only[c,if_true,LD,Sem.runT,Result.w];cases h with
  |unsupported u=>cases u<;>simp only[JD,ite_self,Ip,Ha]
  |_=>simp only[JD,ite_self,Ip,Ha]
theorem rp(fr:Frame)(cs:List Frame)(b:Option Dying)(a:Next):Yo (λw=>stepG.apply P true fr cs b (.pure a) w):=by intro w;unfold stepG.apply;simp only[if_true,Sem.runT,ite_self,Ip,Ha];cases a<;>dsimp only<;>repeat' first|exact⟨rfl,λ_=>rfl⟩|split
theorem rT(fr:Frame)(cs:List Frame)(a:Option Dying)(h:Halt)(w:AU):G7 (λw=>stepG.apply P true fr cs a (.halt h) w) w:=by
 unfold stepG.apply;simp only[if_true,Sem.runT];cases h<;>(try dsimp only)<;>(try simp only[ite_self,Ip,Ha])<;>first|exact(D7 _ _).loc _|exact(Bf _ _).loc _|exact V1 _ _ _ _ _|exact Yo.loc (λ_=>⟨rfl,λ_=>rfl⟩) _|skip
 rename_i u;cases u<;>(try dsimp only)<;>(try simp only[ite_self,Ip,Ha])<;>first|exact(Bf _ _).loc _|exact Ay4 _ _ _ _ _
theorem Yi(fr:Frame)(cs:List Frame)(a:Option Dying)(h:Halt)(w:AU)(b:(stepG.apply P true fr cs a (.halt h) w).cont):¬KQ h:=by
 revert b
 unfold stepG.apply;simp only[if_true,Sem.runT];cases h<;>(try dsimp only)<;>(try simp only[ite_self,Ip,Ha])<;>first
  |exact λ_ x=>x|(intro x;exact x.elim)
  |(intro x;cases x)
  |skip
 rename_i u;cases u<;>(try dsimp only)<;>(try simp only[ite_self,Ip,Ha])<;>first
  |exact λ_ x=>x|(intro x;exact x.elim)
theorem Vl(fr:Frame)(cs:List Frame)(d:Option Dying)(x:Sem Next)(w:AU)(hx:IX P x w #[]):G7 (λw=>stepG.apply P true fr cs d x w) w:=by
 refine G7.congr (G:=λw=>(λ(r:Result Next)b=>GStep.after (seen P fr.fn (if fr.kind==.early then #[] else JD b r)) (stepG.apply P true fr cs d (LD r) r.w)) (x.runT P w #[]).1 (x.runT P w #[]).2) ?_ (eC fr cs d x);refine G7.bind (P:=P) (x:=x) (λ(r:Result Next)b=>GStep.after (seen P fr.fn (if fr.kind==.early then #[] else JD b r)) (stepG.apply P true fr cs d (LD r) r.w)) #[] hx ?_ ?_
 .generalize x.runT P w #[]=r;obtain⟨r,b⟩:=r;cases r with
  |ok a f=>exact G7.like (G:=λw=>GStep.after (seen P fr.fn (if fr.kind==.early then #[] else b)) (stepG.apply P true fr cs d (.pure a) w)) (G7.after _ ((rp fr cs d a).loc f)) rfl λ_ _ _=>rfl|halt h f=>refine G7.like (G:=λw=>GStep.after (seen P fr.fn (if fr.kind==.early then #[] else JD b (Result.halt h f:Result Next))) (stepG.apply P true fr cs d (.halt h) w)) (G7.after _ (rT fr cs d h f)) rfl fun τ s e=>?_;have:∀g,JD b (Result.halt h g:Result Next)=JD b (Result.halt h f:Result Next):=(by intro g;cases h<;>first|rfl|(rename_i u;cases u<;>rfl));simp only[Result.put,this];rfl
 rw[Hu];generalize x.runT P w #[]=r;obtain⟨r,b⟩:=r;cases r with
 |ok a f=>exact λ_=>trivial|halt h f=>exact λc=>Yi fr cs d h f c
end
def Xl:Item->Prop
 |.call _ _ r _=>r= "runtime.print$piece"
 |.extern r _=>r= "runtime.print$piece"
 |_=>True
def EQ(fr:Frame):Prop:=∀i∈fr.todo,Xl i
def OkG(g:AX):Prop:=EQ g.frame/\∀c∈g.callers,EQ c
section
variable {P : AY}{w : AU}
def YX:Extern.next "runtime.print$piece" =some (Extern.PrintPieces.piece #[] #[]):=Bn
theorem N6{α:Type}{x:Sem α}(hx:Calm P x)(H:Result α->Array Event->GStep)(i:∀a b,Yo (λw=>H (.ok a w) b))(f:∀h b,Yo (λw=>H (.halt h w) b))(g:∀h w b,KQ h->¬(H (.halt h w) b).cont)(w:AU):
  G7 (λw=>H (x.runT P w #[]).1 (x.runT P w #[]).2) w:=by
 refine G7.bind (P:=P) H #[] (hx.loc w #[]) ?_ ?_
 .generalize x.runT P w #[]=r;obtain⟨r,b⟩:=r;cases r with
  |ok a d=>exact(i a b).loc d|halt h d=>exact(f h b).loc d
 generalize x.runT P w #[]=r;obtain⟨r,b⟩:=r;cases r with
 |ok a d=>exact λ_=>trivial|halt h d=>exact λc k=>g h d b k c
def Hw{F:AU->GStep}(es:Array Event)(h:Yo F):Yo (λw=>GStep.after es (F w)):=λw=>⟨by rw[MB];exact(h w).1,λf=>by show GStep.after es (F (f w))=_;rw[XR,(h w).2 f]⟩
theorem Ay3 (main:Bool)(fr:Frame)(cs:List Frame)(d:Option Dying)(jump:Option Code)(w:AU):G7 (λw=>
   match fr.roundOf with
   |none=>if jump matches none|some .ret then GStep.go {frame:={fr with mode:=.returning},callers:=cs,status:=.running,dying:=d} w else .ended (.stuck "exit, goto: no such block or label" (fr.pos P)) w
   |some l=>
    let (r,b):=(Instr.endRound l jump).runT P w #[]
    GStep.after (seen P fr.fn b)<| match r with
    |.ok v w=>doReturn P main fr cs d v w
    | .halt _ w=>.ended (.stuck "range over a function: no such loop" (fr.pos P)) w) w:=by
 cases fr.roundOf with
 |none=>dsimp only;split;{exact(D7 _ _).loc w};{exact(D7 _ _).loc w};simp only[EZ,EH];exact(Bf _ _).loc w
 |some l=>
  refine(N6 (P:=P) (x:=Instr.endRound l jump) BU (λr b=>GStep.after (seen P fr.fn b) (match r with
    |.ok v w=>doReturn P main fr cs d v w
    | .halt _ w=>.ended (.stuck "range over a function: no such loop" (fr.pos P)) w)) (λa b=>Hw _ (U7 main fr cs d a)) (λh b=>Hw _ (Bf _ _)) (λh w b _ c=>by rw[Hu] at c;exact c) w).congr λw=>rfl
theorem kO(b:OkP P)(fr:Frame)(cs:List Frame)(a:Option Dying)(w:AU):G7 (λw=>stepG.oper P true fr cs a w) w:=by
 unfold stepG.oper;cases fr.oper? with
 |none=>exact(Bf _ _).loc w|some o=>dsimp only;split;{exact Vl fr cs a _ w (Calm.loc (Calm.bind BU λ_=>Calm.bind BU λ_=>Ae) w #[])};exact Vl fr cs a _ w (Ox _ 0 (YG b _ o) w #[])
theorem kQ(o:OkP P)(main:Bool)(fr:Frame)(u:EQ fr)(cs:List Frame)(b:Option Dying)(w:AU):G7 (λw=>stepG.exec P main true fr cs b w) w:=by
 have m:=λj=>Ay3 (P:=P) main fr cs b j w;unfold stepG.exec;dsimp only;unfold EQ at u;split
 .exact m none
 .exact m (some .ret)
 .exact(D7 _ _).loc w
 .exact(D7 _ _).loc w
 .exact(D7 _ _).loc w
 .exact(D7 _ _).loc w
 .exact(D7 _ _).loc w
 .split;{exact(D7 _ _).loc w};exact(Bf _ _).loc w
 .exact(D7 _ _).loc w
 .exact(D7 _ _).loc w
 .exact(D7 _ _).loc w
 .exact(D7 _ _).loc w
 .rename_i i k _;cases exitTo i k with|none=>exact m (some (.exit i))|some t=>exact(D7 _ _).loc w
 .rename_i l k _;cases gotoIn l k with|none=>exact m (some (.goto l))|some t=>exact(D7 _ _).loc w
 .rename_i f q assign body k _
  refine G7.congr (G:=λw=>(λ(r:Result (Nat × List Deferred)) g=>GStep.after (seen P fr.fn g) (match r with
   |.ok (l,mark) w=>stepG.apply P true {fr with todo:=.inRangeFunc l::k,defers:=mark++fr.defers} cs b (do let d <-resolve ({fr with todo:=.inRangeFunc l::k,defers:=mark++fr.defers}:Frame).eval {callee:=.value f,args:=#[.const (.func (.yield l) #[] #[])],argTypes:=#[]} 0;invoke d.target d.args) w
   | .halt _ w=>.ended (.stuck "range over a function: no such loop" (fr.pos P)) w)) ((Instr.enterLoop fr.fn fr.tmps q assign body fr.roundOf).runT P w #[]).1 ((Instr.enterLoop fr.fn fr.tmps q assign body fr.roundOf).runT P w #[]).2) ?_ λw=>rfl
  refine G7.bind (P:=P) (x:=Instr.enterLoop fr.fn fr.tmps q assign body fr.roundOf) (λ(r:Result (Nat × List Deferred)) g=>GStep.after (seen P fr.fn g) (match r with
   |.ok (l,mark) w=>stepG.apply P true {fr with todo:=.inRangeFunc l::k,defers:=mark++fr.defers} cs b (do let d <-resolve ({fr with todo:=.inRangeFunc l::k,defers:=mark++fr.defers}:Frame).eval {callee:=.value f,args:=#[.const (.func (.yield l) #[] #[])],argTypes:=#[]} 0;invoke d.target d.args) w
   | .halt _ w=>.ended (.stuck "range over a function: no such loop" (fr.pos P)) w)) #[] (Calm.loc BU w #[]) ?_ ?_
  .generalize Sem.runT P _ w #[]=r;obtain⟨r,g⟩:=r;cases r with
   |ok a w'=>obtain⟨l,B⟩:=a;exact G7.after _ (Vl _ cs b _ w' (Ox _ 0 (Eg BU λ_=>Nk o _ _) w' #[]))
   |halt h w'=>exact(Hw _ (Bf _ _)).loc w'
  generalize Sem.runT P _ w #[]=r;obtain⟨r,g⟩:=r;cases r with
  |ok a w'=>exact λ_=>trivial|halt h w'=>exact λc=>by rw[Hu]at c;exact c.elim
 .exact(Bf _ _).loc w
 .refine Vl fr cs b _ w (Calm.loc (Calm.bind ?_ λ_=>Ae) w #[]);cases fr.roundOf with|none=>exact Ed|some l=>exact Q9 l
 .rename_i l k _
  refine(N6 (P:=P) (x:=Instr.endLoop l) BU (λr g=>GStep.after (seen P fr.fn g) (match r with
   |.ok jump w=>GStep.go {frame:={fr with todo:=(jump.map Item.code).toList++k},callers:=cs,status:=.running,dying:=b} w
   |.halt (.panic v) w=>GStep.go {frame:=(fr.raise [{v,recovered:=false}]),callers:=cs,status:=.running,dying:=b} w
   | .halt _ w=>.ended (.stuck "range over a function: no such loop" (fr.pos P)) w)) (λa g=>Hw _ (D7 _ _)) (λh g=>?_) (λh w g ok c=>?_) w).congr λw=>rfl
  {cases h<;>first|exact Hw _ (Bf _ _)|exact Hw _ (D7 _ _)};rw[Hu]at c;cases h<;>first|exact c|exact ok
 .exact(Bf _ _).loc w
 .exact Vl fr cs b _ w (Ox _ 0 (Nk o _ _) w #[])
 .rename_i row args k z;have y:row= "runtime.print$piece" :=u (.extern row args) (by rw[z];exact E1);subst y;rw[YX];exact Vl fr cs b _ w (Ox _ 0 (Qf _ _ _) w #[])
 .rename_i i n draw k _;cases draw with
  |false=>exact(D7 _ _).loc w
  |true=>
   simp only[MY,EZ,EH]
   have A:G7 (λw=>(λr:Result Nat=>match r with
     |.ok t w=>GStep.go {frame:={fr with todo:=.inRegion n (Region.schedule (P.follows .mixedOrders) n t)::k},callers:=cs,status:=.running,dying:=b} w
     | .halt _ w=>.ended (.stuck "order" (fr.pos P)) w) ((choose (.order fr.fn i)).run P w)) w:=by
    refine G7.bindR (P:=P) (x:=choose (.order fr.fn i)) (λr:Result Nat=>match r with
     |.ok t w=>GStep.go {frame:={fr with todo:=.inRegion n (Region.schedule (P.follows .mixedOrders) n t)::k},callers:=cs,status:=.running,dying:=b} w
     | .halt _ w=>.ended (.stuck "order" (fr.pos P)) w) (Calm.loc Nb w #[]) ?_ ?_
    .generalize Sem.run P _ w=r
     cases r with
     |ok a w'=>exact(D7 _ _).loc _
     |halt h w'=>exact(Bf _ _).loc _
    .exact zi0
   exact A.congr λw=>rfl
 .exact(D7 _ _).loc w
 split
 .exact kO o fr cs b w
 exact(D7 _ _).loc w
end
