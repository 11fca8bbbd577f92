import Derived.Test.YtbfljjcnbbmoaaaGreatDoorCC2
namespace Go.Co
open Go.Conc
def Yg (gs:Array Goroutine):Prop:=∀g∈gs,g.status≠.blocked
abbrev Ad9 (ready:List (Nat × CommCase × List Way)):Sem (Nat × CommCase × Way):=do
 let a <-choose (.select ready.length)
 let (k,c,ws):=ready.getD a (0,default,[])
 let b <-choose (.extern "which waiting goroutine is the partner" ws.length)
 pure (k,c,ws.getD b .closed)
section
variable {P : Program} {w : World} {gs gs' : Array Goroutine}
theorem Gw (h:Yg gs) (r:Nat) (b:Bool):partners gs r b=[]:=by
 unfold partners;refine List.flatMap_eq_nil_iff.2 λx hx=>?_
 obtain⟨g,i⟩:=x;have hg:g∈gs:=by
  have h2:=Array.mem_zipIdx (Array.mem_toList_iff.1 hx);rw[h2.2.2];exact Array.getElem_mem _
 have:=h g hg
 dsimp only;split
 ·rename_i hs _;exact absurd hs this
 ·rfl
theorem Abv (h:Yg gs) (c:CommCase):ways w gs c=ways w #[] c/\∀x∈ways w gs c,∀a b,x≠.partner a b:=by
 have h0:Yg #[]:=λg hg=>by simp at hg
 constructor
 ·unfold ways
  split
  ·split
   ·split
    ·rfl
    ·rw[Gw h,Gw h0]
   ·split
    ·rfl
    ·rw[Gw h,Gw h0]
   ·rfl
  ·rfl
 ·intro x hx a b
  unfold ways at hx;split at hx
  ·split at hx
   ·split at hx
    ·simp at hx;subst hx;simp
    ·rw[Gw h] at hx
     dsimp only at hx;split at hx
     ·simp at hx;subst hx;simp
     ·simp at hx
   ·split at hx
    ·simp at hx;subst hx;simp
    ·rw[Gw h] at hx
     dsimp only at hx;split at hx
     ·simp at hx;subst hx;simp
     ·simp at hx
   ·simp at hx
  ·simp at hx
theorem Aq2 (ready:List (Nat × CommCase × List Way)):Calm P (Ad9 ready):=Calm.bind Jq λ_=>Calm.bind Jq λ_=>Ae
theorem Af3 {ready:List (Nat × CommCase × List Way)} (hr:∀x∈ready,∀y∈x.2.2,∀a b,y≠.partner a b) {k:Nat} {c:CommCase} {way:Way} {w':World} (h:(Ad9 ready).run P w=.ok (k,c,way) w'):∀a b,way≠.partner a b:=by
 have key:∀(a b:Nat) (k:Nat) (c:CommCase) (ws:List Way),ready.getD a (0,default,[])=(k,c,ws)->∀x y,ws.getD b .closed≠.partner x y:=by
  intro a b k c ws he x y;have hws:∀z∈ws,∀x y,z≠.partner x y:=by
   rw[List.getD_eq_getElem?_getD] at he;cases hq:ready[a]? with
   | none=>rw[hq] at he;cases he;intro z hz;simp at hz
   | some q=>
    rw[hq] at he;simp only[Option.getD_some] at he;intro z hz;exact hr q (List.mem_of_getElem? hq) z (by rw[he];exact hz)
  rw[List.getD_eq_getElem?_getD];cases hq:ws[b]? with
  | none=>simp
  | some q=>exact hws q (List.mem_of_getElem? hq) x y
 have hs:Sat P (λz:Nat × CommCase × Way=>∀a b,z.2.2≠.partner a b) 0 (Ad9 ready):=by
  refine D5 Jq λa=>?_
  generalize hh:ready.getD a (0,default,[])=z;obtain⟨k,c,ws⟩:=z;refine D5 Jq λb=>Gv ?_
  exact key a b k c ws hh
 have:=Yz (w:=w) (es:=#[]) hs (k,c,way) ⟨w',by rw[Sem.runT_eq];exact h⟩
 exact this
def fin:Goroutine:={(default:Goroutine) with status:=.finished}
def Su (P:Program) (g:Goroutine) (cs:Array CommCase) (b:Bool) (sh:CommShape) (w:World):GStep:=
 match communicate P {timers:=#[],alone:=none,slice:=none} #[fin] 0 g cs b sh w with
 | (.next m,_)=>.go (m.gs.getD 0 default) m.world
 | (.ended o w,_)=>.ended o w
def Avp (P:Program) (g:Goroutine) (cs:Array CommCase) (b:Bool) (sh:CommShape) (w:World):Array MemOp:=
 (communicate P {timers:=#[],alone:=none,slice:=none} #[fin] 0 g cs b sh w).2
theorem Jj:Yg #[fin]:=λg hg=>by
 simp at hg;subst hg;simp[fin]
theorem Yr (rest:Rest) (h:rest.timers=#[]) (cs:Array CommCase) (w:World):waitingAt rest cs w=some w:=by
 unfold waitingAt;have:timerAhead rest w.os.mono cs=false:=by
  unfold timerAhead;rw[h];rw[Array.any_eq_false];intro i hi;split<;>simp
 rw[this];rfl
theorem Zz (h:Yg gs) (l:List (CommCase × Nat)):∀x∈(l.map λ(c,k)=>(k,c,ways w gs c)).filter (λ(_,_,ws)=>!ws.isEmpty),∀y∈x.2.2,∀a b,y≠.partner a b:=by
 intro x hx y hy;obtain⟨z,_,rfl⟩:=List.mem_map.1 (List.mem_filter.1 hx).1;exact(Abv h z.1).2 y hy
theorem Ada {sl:Option (Nat × Nat)} (h:Yg gs) (_h0:0<gs.size) (g:Goroutine) (cs:Array CommCase) (b:Bool) (sh:CommShape) (w:World):
  communicate P {timers:=#[],alone:=none,slice:=sl} gs 0 g cs b sh w=
   (match Su P g cs b sh w with
    | .go g' w' _=>.next {world:=w',gs:=gs.setIfInBounds 0 g',rest:={timers:=#[],alone:=none,slice:=sl} }
    | .ended o w' _=>.ended o w'
    | _=>.ended default default,Avp P g cs b sh w):=by
 unfold Su Avp;have hw:∀c,ways w gs c=ways w #[fin] c:=λc=>((Abv h c).1).trans ((Abv Jj c).1).symm
 unfold communicate;simp only[hw];have hrw:=Zz (w:=w) Jj cs.zipIdx.toList;split
 ·rfl
 ·split
  ·split
   ·rw[Yr _ rfl,Yr _ rfl]
    simp
   ·simp
  ·generalize hready:(List.filter _ _:List (Nat × CommCase × List Way))=ready
   have hrw':∀x∈ready,∀y∈x.2.2,∀a b,y≠.partner a b:=by rw[<-hready];exact hrw
   cases hp:(Ad9 ready).run P w with
   | halt hh w'=>rfl
   | ok z w'=>
    obtain⟨k,c,way⟩:=z;have hway:=Af3 hrw' hp;dsimp only;cases way with
    | partner a b=>exact absurd rfl (hway a b)
    | sendClosed=>
     dsimp only;cases hs:(runtimePanic (.plain "send on closed channel"):Sem Unit).run P w' with
     | ok a w''=>rfl
     | halt hh w''=>cases hh<;>first | rfl | simp
    | closed=>simp
    | buffer=>
     rw[Gw h,Gw Jj];split<;>first | (simp;done) | (exfalso;simp_all;done)
end
end Go.Co
namespace Go.Co
open Go.Conc
section
variable {P : Program} {w : World}
def chanOf (c:CommCase):Nat:=match c.chan with | .chan (some r)=>r | _=>0
def Ajg (P:Program) (g:Goroutine) (cs:Array CommCase) (sh:CommShape) (k:Nat) (c:CommCase) (way:Way) (w:World):GStep:=
  match way with
  | .sendClosed=>match (runtimePanic (.plain "send on closed channel"):Sem Unit).run P w with
    | .halt (.panic v) w=>.go {g with frame:=g.frame.raise [{v,recovered:=false}]} w
    | _=>.ended (.stuck "communicate" "") w
  | .closed=>.go (g.finishComm P cs sh k c.zero false) w
  | .buffer=>match w.heap[chanOf c]?,c.send with
    | some (.chan cap buf cl s r tm),some v=>.go (g.finishComm P cs sh k undef false) {w with heap:=w.heap.setIfInBounds (chanOf c) (.chan cap (buf.push v) cl (s+1) r tm)}
    | some (.chan cap buf cl s r tm),none=>.go (g.finishComm P cs sh k (buf.getD 0 undef) true) {w with heap:=w.heap.setIfInBounds (chanOf c) (.chan cap (buf.extract 1 buf.size) cl s (r+1) tm)}
    | _,_=>.ended (.stuck "communicate: no such channel" "") w
  | _=>.ended (.stuck "communicate: no such channel" "") w
def Aty (P:Program) (g:Goroutine) (cs:Array CommCase) (sh:CommShape):Result (Nat × CommCase × Way)->GStep
  | .ok (k,c,way) w'=>Ajg P g cs sh k c way w'
  | .halt _ w'=>.ended (.stuck "communicate" "") w'
def Vf (cs:Array CommCase) (w:World):List (Nat × CommCase × List Way):=(cs.zipIdx.toList.map λ(c,k)=>(k,c,ways w #[fin] c)).filter λ(_,_,ws)=>!ws.isEmpty
theorem Adb (g:Goroutine) (cs:Array CommCase) (b:Bool) (sh:CommShape) (w:World):
    (∃o,∀w₁:World,w₁.heap=w.heap->Su P g cs b sh w₁=.ended o w₁)\/
    (∃g',g'={g with status:=.blocked,offers:=some (cs,sh)}/\∀w₁:World,w₁.heap=w.heap->Su P g cs b sh w₁=.go g' w₁)\/
    (∃g',g'=g.finishComm P cs sh (-1) undef false/\∀w₁:World,w₁.heap=w.heap->Su P g cs b sh w₁=.go g' w₁)\/
    (∀w₁:World,w₁.heap=w.heap->Su P g cs b sh w₁=Aty P g cs sh ((Ad9 (Vf cs w)).run P w₁)):=by
  have hway:∀w₁:World,w₁.heap=w.heap->∀c,ways w₁ #[fin] c=ways w #[fin] c:=λw₁ h c=>by unfold ways;rw[h]
  have hrw:∀x∈Vf cs w,∀y∈x.2.2,∀a b,y≠.partner a b:=Zz (w:=w) Jj cs.zipIdx.toList;by_cases hill:cs.any (λc=>match c.chan with | .chan none=>false | .chan (some r)=>!(w.heap[r]? matches some (.chan ..)) | _=>true)=true
  · refine .inl ⟨.stuck "a communication at a channel whose block is no channel's" (g.frame.pos P),λw₁ h=>?_⟩
    unfold Su communicate;rw[h];dsimp only;split
    · rename_i heq;split at heq
      · cases heq
      · rename_i hn;exact absurd hill hn
    · rename_i heq;split at heq
      · cases heq;rfl
      · rename_i hn;exact absurd hill hn
  · by_cases hre:(Vf cs w).isEmpty=true
    · cases b
      · refine .inr (.inr (.inl ⟨_,rfl,λw₁ h=>?_⟩))
        unfold Su communicate;simp only[hway w₁ h];rw[h];refine(congrArg (λx:Stepped × Array MemOp=>match x with | (.next m,_)=>GStep.go (m.gs.getD 0 default) m.world | (.ended o w,_)=>.ended o w) ((if_neg hill).trans (if_pos hre))).trans ?_;simp
      · refine .inr (.inl ⟨_,rfl,λw₁ h=>?_⟩)
        unfold Su communicate;simp only[hway w₁ h];rw[h];refine(congrArg (λx:Stepped × Array MemOp=>match x with | (.next m,_)=>GStep.go (m.gs.getD 0 default) m.world | (.ended o w,_)=>.ended o w) ((if_neg hill).trans (if_pos hre))).trans ?_;rw[Yr _ rfl];simp
    · refine .inr (.inr (.inr λw₁ h=>?_))
      unfold Su communicate;simp only[hway w₁ h];rw[h];refine(congrArg (λx:Stepped × Array MemOp=>match x with | (.next m,_)=>GStep.go (m.gs.getD 0 default) m.world | (.ended o w,_)=>.ended o w) ((if_neg hill).trans (if_neg hre))).trans ?_;generalize hready:(List.filter _ _:List (Nat × CommCase × List Way))=ready;obtain rfl:Vf cs w=ready:=hready;cases hp:(Ad9 (Vf cs w)).run P w₁ with
      | halt hh w'=>rfl
      | ok z w'=>
        obtain⟨k,c,way⟩:=z;have hw:=Af3 hrw hp;cases way with
        | partner a b=>exact absurd rfl (hw a b)
        | sendClosed=>
          simp only[Aty,Ajg];cases (runtimePanic (.plain "send on closed channel"):Sem Unit).run P w' with
          | ok a w''=>rfl
          | halt hh w''=>cases hh<;>rfl
        | closed=>rfl
        | buffer=>
          simp only[Aty,Ajg];rw[Gw Jj]
          cases hs:c.send<;>(cases hc:c.chan<;>first
            | (rename_i o
               cases o<;>simp only[chanOf,hc]<;>(generalize (w'.heap[(_:Nat)]?:Option Obj)=o;rcases o with _ | o<;>first | rfl | (cases o<;>first | rfl | simp)))
            | (simp only[chanOf,hc];(generalize (w'.heap[(_:Nat)]?:Option Obj)=o;rcases o with _ | o<;>first | rfl | (cases o<;>first | rfl | simp))))
end
end Go.Co
namespace Go.Co
open Go.Conc
section
variable {P : Program} {w : World}
def _root_.Go.GStep.put (w:World):GStep->GStep:=GStep.turn λ_=>w
theorem Fh.next {F:World->GStep} (nxt:GStep->GStep) (hF:Fh F w) (h:Fh (λw'=>nxt ((F w).put w')) (F w).w) (hc:(nxt (F w)).cont->(F w).cont):Fh (λw=>nxt (F w)) w:=by
 obtain⟨h1,h2,K,h3,h4,h5⟩:=hF;have hput:(F w).put (F w).w=F w:=by cases F w<;>rfl
 obtain⟨g1,g2,L,g3,g4,g5⟩:=h;simp only[hput] at g1 g2 g3 g4 g5;refine⟨g1.trans h1,A4p h2 g2,max K L,A4p g3 (Nat.le_max_right _ _),λc=>?_,fun τ s e hs hA=>?_⟩
 ·rw[h4 (hc c),g4 c]
  exact Nat.max_eq_right g2
 ·have e1:=h5 τ s e hs (hA.mono (Nat.le_max_left _ _))
  have e2:=g5 τ s e (A4p hs h2) (by rw[h1];exact hA.mono (Nat.le_max_right _ _));have hturn:(F w).turn (rt τ s e)=(F w).put (rt τ s e (F w).w):=by cases F w<;>rfl
  simp only[e1];rw[hturn];exact e2
theorem Aui (g:Goroutine) (cs:Array CommCase) (sh:CommShape) (k:Nat) (c:CommCase) (way:Way) (w:World):Fh (λw=>Ajg P g cs sh k c way w) w:=by
 unfold Ajg;cases way with
 | partner a b=>exact(Bc _ _).loc w
 | closed=>exact(Dn _ _).loc w
 | sendClosed=>
  have hx:=Calm.loc (Nq (P:=P) (α:=Unit) (.plain "send on closed channel")) w #[];have e:∀w,(runtimePanic (.plain "send on closed channel"):Sem Unit).run P w=((runtimePanic (.plain "send on closed channel"):Sem Unit).runT P w #[]).1:=λw=>by rw[Sem.runT_eq]
  simp only[e];generalize hr:(runtimePanic (.plain "send on closed channel"):Sem Unit).runT P w #[]=r;obtain⟨r,ev⟩:=r;cases r with
  | ok a w'=>exact Fh.caseOld hx hr (Bc (.stuck "communicate" "") #[]) (λw c=>c) λw₁ w₂ h=>by simp only[h,Result.put]
  | halt h w'=>
   cases h
   case panic v=>exact Fh.case hx hr ((Dn {g with frame:=g.frame.raise [{v,recovered:=false}]} #[]).loc w') (λ_ x=>x) λw₁ w₂ h=>by simp only[h,Result.put]
   all_goals exact Fh.caseOld hx hr (Bc (.stuck "communicate" "") #[]) (λw c=>c) λw₁ w₂ h=>by simp only[h,Result.put]
 | buffer=>
  refine Fh.const ?_ ?_ fun τ s e _=>?_
  ·dsimp only
   split<;>rfl
  ·dsimp only
   split<;>rfl
  ·dsimp only
   show(match w.heap[chanOf c]?,c.send with
    | some (.chan cap buf cl s' r tm),some v=>GStep.go (g.finishComm P cs sh k undef false) {rt τ s e w with heap:=w.heap.setIfInBounds (chanOf c) (.chan cap (buf.push v) cl (s'+1) r tm)}
    | some (.chan cap buf cl s' r tm),none=>GStep.go (g.finishComm P cs sh k (buf.getD 0 undef) true) {rt τ s e w with heap:=w.heap.setIfInBounds (chanOf c) (.chan cap (buf.extract 1 buf.size) cl s' (r+1) tm)}
    | _,_=>GStep.ended (.stuck "communicate: no such channel" "") (rt τ s e w))=_
   rcases w.heap[chanOf c]? with _ | o
   ·cases c.send<;>rfl
   ·cases o<;>cases c.send<;>rfl
theorem Auh (g:Goroutine) (cs:Array CommCase) (b:Bool) (sh:CommShape) (w:World):Fh (λw=>Su P g cs b sh w) w:=by
 rcases Adb (P:=P) g cs b sh w with⟨o,h⟩ | ⟨g',_,h⟩ | ⟨g',_,h⟩ | h
 ·exact((Bc o #[]).loc w).like (h w rfl) fun τ s e=>h _ rfl
 ·exact((Dn g' #[]).loc w).like (h w rfl) fun τ s e=>h _ rfl
 ·exact((Dn g' #[]).loc w).like (h w rfl) fun τ s e=>h _ rfl
 ·refine Fh.like (G:=λw₁=>Aty P g cs sh ((Ad9 (Vf cs w)).run P w₁)) ?_ (h w rfl) fun τ s e=>h _ rfl
  refine Fh.bindR (P:=P) (x:=Ad9 (Vf cs w)) (Aty P g cs sh) (Calm.loc (Aq2 _) w #[]) ?_ ?_
  ·generalize Sem.run P _ w=r
   cases r with
   | ok a w'=>obtain⟨k,c,way⟩:=a;exact Aui g cs sh k c way w'
   | halt h w'=>exact(Bc _ _).loc _
  ·generalize Sem.run P _ w=r
   cases r with
   | ok a w'=>exact λ_=>trivial
   | halt h w'=>exact λx=>x.elim
theorem N7 {g:Goroutine} (h:OkG g) (cs:Array CommCase) (sh:CommShape) (k:Int) (v:Value) (ok:Bool):OkG (g.finishComm P cs sh k v ok):=⟨H9 h.1 _,h.2⟩
theorem Aqi {g:Goroutine} (hg:OkG g) (hr:g.status=.running) (cs:Array CommCase) (b:Bool) (sh:CommShape) (w:World):(∃o w',Su P g cs b sh w=.ended o w')\/∃g' w',Su P g cs b sh w=.go g' w'/\OkG g'/\∀t,g'.status≠.sleeping t:=by
 have hB:∀k c way w,(∃o w',Ajg P g cs sh k c way w=.ended o w')\/∃g' w',Ajg P g cs sh k c way w=.go g' w'/\OkG g'/\∀t,g'.status≠.sleeping t:=by
  intro k c way w;unfold Ajg;have hfin:∀(k:Int) v ok,∀t,(g.finishComm P cs sh k v ok).status≠.sleeping t:=λ_ _ _ _ h=>by cases h
  cases way with
  | partner a b=>exact .inl ⟨_,_,rfl⟩
  | closed=>exact .inr ⟨_,_,rfl,N7 hg _ _ _ _ _,hfin _ _ _⟩
  | sendClosed=>
   dsimp only;split
   ·exact .inr ⟨_,_,rfl,⟨Nh hg.1 _,hg.2⟩,λt h=>by rw[show g.status=_ from h] at hr;cases hr⟩
   ·exact .inl ⟨_,_,rfl⟩
  | buffer=>
   dsimp only;split
   ·exact .inr ⟨_,_,rfl,N7 hg _ _ _ _ _,hfin _ _ _⟩
   ·exact .inr ⟨_,_,rfl,N7 hg _ _ _ _ _,hfin _ _ _⟩
   ·exact .inl ⟨_,_,rfl⟩
 rcases Adb (P:=P) g cs b sh w with⟨o,h⟩ | ⟨g',rfl,h⟩ | ⟨g',rfl,h⟩ | h
 ·exact .inl ⟨_,_,h w rfl⟩
 ·exact .inr ⟨_,_,h w rfl,hg,λt h=>by cases h⟩
 ·exact .inr ⟨_,_,h w rfl,N7 hg _ _ _ _ _,λt h=>by cases h⟩
 ·rw[h w rfl]
  generalize (Ad9 (Vf cs w)).run P w=r;cases r with
  | ok a w'=>obtain⟨k,c,way⟩:=a;exact hB k c way w'
  | halt h w'=>exact .inl ⟨_,_,rfl⟩
end
end Go.Co
