import Derived.Test.YtfeablpbkcgdjaaGreatDoorCB9
set_option linter.defProp false
namespace Go.Co
def ED (cs:List Frame):Prop:=∀c∈cs,Ze c
def _root_.Go.GStep.fine:GStep->Prop
 | .go g _ a=>OkG g/\(∀t,g.status≠.sleeping t)/\(g.status=.running->deafBehind 0 a=0)
 | .comm g _ _ _ _ a=>OkG g/\g.status=.running/\deafBehind 0 a=0
 | .coroswitch g _ _ _ a=>OkG g/\deafBehind 0 a=0
 | .spawn .. | .ended ..=>True
 | _=>False
section
variable {cs:List Frame}{fr:Frame}
variable {P : Program}{w : World}
theorem OL (es a:Array Event)(h:deafBehind 0 es=0):deafBehind 0 (es++a)=deafBehind 0 a:=by
 unfold deafBehind at*;rw[Array.foldl_append,h]
theorem Dq {es:Array Event}{x:GStep}(h:x.fine)(hd:x.cont->deafBehind 0 es=0):(GStep.after es x).fine:=by
 cases x with
 | go g w a=>exact⟨h.1,h.2.1,λd=>by rw[OL _ _ (hd d)];exact h.2.2 d⟩
 | comm g c b e w a=>exact⟨h.1,h.2.1,by rw[OL _ _ (hd trivial)];exact h.2.2⟩
 | coroswitch g c b w a=>exact⟨h.1,by rw[OL _ _ (hd trivial)];exact h.2⟩
 | spawn g c w a=>trivial
 | ended o w a=>trivial
 | _=>exact h
def Dt {st:GoStatus}{dy:Option Dying}(h1:Ze fr)(h2:ED cs)(hst:∀t,st≠.sleeping t:=by intro _ h;cases h):(GStep.go {frame:=fr,callers:=cs,status:=st,dying:=dy} w).fine:=⟨⟨h1,h2⟩,hst,λ_=>rfl⟩
theorem Jn:ED []:=λ_ h=>by cases h
def Le (h1:Ze fr)(a:ED cs):ED (fr::cs):=λc b=>(List.mem_cons.1 b).elim (λe=>e ▸ h1) (a c)
def Og (h:Ze fr)(vs:List PanicEntry):Ze (fr.raise vs):=by
 unfold Frame.raise;split<;>exact h
theorem Qo (f:FuncId)(args:Array Value)(k:CallKind):Ze (Frame.enter P f args k):=by
 intro i hi;simp only[Frame.enter,Q6] at hi;subst hi;trivial
theorem UO (l:Nat)(f:FuncId)(t:Array Value)(a b:Code)(k:CallKind):Ze (Frame.round l f t a b k):=by
 intro i hi;simp only[Frame.round,C2,EJ,EK] at hi;rcases hi with rfl | rfl | rfl<;>trivial
theorem Wg (args:Array Value)(k:CallKind):Ze (Frame.ofRow P "runtime.print$piece" args k):=by
 intro i hi;simp only[Frame.ofRow,Q6] at hi;subst hi;rfl
theorem Ij (h:Ze fr)(v:Value):Ze (fr.finish v):=by
 unfold Frame.finish;unfold Ze at h;split
 .rename_i f i rest k e
  rw[e] at h;intro j c;rcases List.mem_cons.1 c with rfl | c
  .trivial
  .exact h j (CH _ c)
 .rename_i l k e
  rw[e] at h;intro j c;rcases List.mem_cons.1 c with rfl | c
  .trivial
  .exact h j (CH _ c)
 .rename_i k e
  rw[e] at h;exact λj c=>h j (CH _ c)
 .rename_i d b r s k e
  rw[e] at h;intro j c;rcases List.mem_cons.1 c with rfl | c
  .exact h (.call d b r s) DX
  .exact h j (CH _ c)
 .rename_i r a k e
  rw[e] at h;exact λj c=>h j (CH _ c)
 .exact h
theorem Ry:∀{fr:Frame} {cs:List Frame} {v:Value} {a:List Frame},ED cs->tryRecover fr cs=some (v,a)->ED a:=by
 intro fr cs;induction cs generalizing fr with
 | nil=>
  intro v a _ h;unfold tryRecover at h;cases d:fr.kind<;>simp[d] at h
 | cons c cs m=>
  intro v a f h;have j:=f c DX;have e:ED cs:=λx l=>f x (CH _ l)
  unfold tryRecover at h;cases d:fr.kind<;>simp only[d] at h
  case deferred=>
   split at h
   .cases h
    exact Le j e
   .cases h
  case wrapped=>
   cases b:tryRecover c cs with
   | none=>rw[b] at h;cases h
   | some x=>
    rw[b] at h;obtain⟨o,n⟩:=x;cases h;exact Le j (m e b)
  all_goals cases h
theorem f8:∀{l:Nat} {cs:List Frame} {v:Value} {b:List Frame},ED cs->tryRecoverLoop l cs=some (v,b)->ED b:=by
 intro l cs;induction cs generalizing l with
 | nil=>intro v b _ h;cases h
 | cons c cs e=>
  intro v b f h;have m:=f c DX;have d:ED cs:=λx a=>f x (CH _ a)
  unfold tryRecoverLoop at h;obtain⟨x,a,j⟩:=Option.map_eq_some_iff.1 h;obtain⟨o,n⟩:=x;cases j;refine Le m ?_;split at a
  .exact e d a
  .split at a
   .exact Ry d a
   .exact e d a
  .exact e d a
theorem Vj (main:Bool)(dy:Option Dying)(v:Value)(w:World)(h1:Ze fr)(h2:ED cs):(doReturn P main fr cs dy v w).fine:=by
 unfold doReturn;cases cs with
 | cons c cs=>
  have a:=h2 c DX;have b:ED cs:=λx d=>h2 x (CH _ d)
  dsimp only;split
  .exact Dt (Ij a v) b
  .exact Dt (Ij a v) b
  .exact Dt a b
  .refine Dt ?_ b
   split
   .split<;>exact a
   .exact a
 | nil=>
  dsimp only;split
  .exact Dt h1 Jn
  .trivial
  .split
   .exact Dt h1 Jn
   .split
    .exact Dt (Qo _ _ _) Jn
    .trivial
def Um (l:List ByteArray)(m:String)(b:Bool)(w:World)(h:Ze fr):(dieOf fr l m b w).fine:=Dt h Jn
def V4 (v:Value)(w:World)(h:Ze fr):(endPrinting P fr v w).fine:=by
 unfold endPrinting;dsimp only;split
 .exact Um _ _ _ w h
 .trivial
def RJ (a:Option Dying)(m:String)(w:World)(h:Ze fr):(endFatal P fr cs a m w).fine:=by
 unfold endFatal;dsimp only;split
 .exact Um _ _ _ _ h
 .trivial
 .trivial
theorem sn (dy:Option Dying)(g:Nat)(w:World)(h1:Ze fr)(h2:ED cs):(early P fr cs dy g w).fine:=by
 have a:∀w:World,(match w.heap[g]? with
   | some (.pending c elem)=>GStep.go {frame:=fr,callers:=cs,status:=.running,dying:=dy} {w with heap:=w.heap.setIfInBounds g (.cells c elem)}
   | _=>.ended (.stuck "early: the variable does not wait" (fr.pos P)) w).fine:=by
  intro w;split
  .exact Dt h1 h2
  .trivial
 have d:∀(f:FuncId) (w:World) (l:List FuncId),(GStep.go {frame:=Frame.enter P f #[] .early,callers:=l.map (Frame.enter P · #[] .early)++fr::cs,status:=.running,dying:=dy} w).fine:=by
  intro f w l;refine Dt (Qo _ _ _) λc b=>?_
  rcases List.mem_append.1 b with b | b
  .obtain⟨x,_,rfl⟩:=List.mem_map.1 b
   exact Qo _ _ _
  .exact Le h1 h2 c b
 unfold early;dsimp only;split
 .exact a w
 .split
  .trivial
  .split
   .exact a w
   .split
    .exact a w
    .split
     .trivial
     .exact d _ _ _
     .trivial
     .exact a w
     .split
      .exact d _ _ _
      .split
       .exact a w
       .split
        .exact a _
        .exact d _ _ _
        .trivial
def Vr:Xo #[]:=λ_ h=>by simp at h
theorem Qq (dy:Option Dying){x:Sem Next}(w:World)(h1:Ze fr)(h2:ED cs)(hx:CZ P V9 0 x):(stepG.apply P true fr cs dy x w).fine:=by
 have s:=Zw (w:=w) (es:=#[]) hx;have p:=X6 hx w #[] rfl Vr;rw[XD];generalize F:x.runT P w #[]=r at s p;obtain⟨r,ev⟩:=r;have j:∀es:Array Event,(es=#[]\/es=ev)->(es=ev->Ye r)->deafBehind 0 (seen P fr.fn (if fr.kind==.early then #[] else es))=0:=by
  intro es z B;split
  .rfl
  .rcases z with rfl | rfl
   .rfl
   .rw[N4 _ _ p.1];exact p.2 (B rfl)
 cases r with
 | ok a e=>
  refine Dq ?_ λ_=>j _ (.inr rfl) λ_=>trivial
  have q:=s a ⟨e,rfl⟩;unfold stepG.apply;simp only[JP,if_true,Sem.runT,ite_self,Ht,Gl,Result.w];cases a<;>first | exact q.elim | skip
  case value v=>exact Dt (Ij h1 v) h2
  case skip=>exact Dt (Ij h1 _) h2
  case enter f args=>exact Dt (Qo _ _ _) (Le h1 h2)
  case round l f t a b=>exact Dt (UO _ _ _ _ _ _) (Le h1 h2)
  case defer d=>exact Dt (Ij (fr:={fr with defers:=d::fr.defers}) h1 _) h2
  case recover=>
   dsimp only;split
   .rename_i v C n
    refine Dt (Ij h1 _) ?_;split at n
    .split at n
     .exact Ry h2 n
     .exact f8 h2 n
    .exact Ry h2 n
   .exact Dt (Ij h1 _) h2
  case spawn d=>
   dsimp only;split<;>split<;>first | exact Um _ _ _ _ h1 | trivial
  case comm c b E=>exact⟨⟨h1,h2⟩,rfl,rfl⟩
  case coroswitch c b=>exact⟨⟨h1,h2⟩,rfl⟩
  case row r args=>
   obtain rfl:r= "runtime.print$piece" :=q;dsimp only;split
   .rename_i D G k A
    refine Dt ?_ h2;intro i hi;rcases List.mem_cons.1 hi with rfl | hi
    .rfl
    .exact h1 i (by rw[A];exact CH _ hi)
   .exact Dt (Wg _ _) (Le h1 h2)
 | halt h e=>
  have o:∀h:Halt,IZ h->∀es,(stepG.apply P true fr cs dy (.halt h) e).cont->deafBehind 0 es=0:=λh y es c=>absurd y (Xe fr cs dy h e c)
  cases h
  case panic v=>
   refine Dq ?_ λ_=>j _ (.inr rfl) λ_=>trivial
   show(stepG.apply P true fr cs dy (.halt (.panic v)) e).fine
   unfold stepG.apply;simp only[if_true,Sem.runT,ite_self,Ht,Gl];exact Dt (Og h1 _) h2
  case goexit=>
   refine Dq ?_ λ_=>j _ (.inr rfl) λ_=>trivial
   show(stepG.apply P true fr cs dy (.halt .goexit) e).fine
   unfold stepG.apply;simp only[if_true,Sem.runT,ite_self,Ht,Gl];exact Dt (Og h1 _) h2
  case blocked=>
   refine Dq ?_ (o .blocked trivial _);show(stepG.apply P true fr cs dy (.halt .blocked) e).fine
   unfold stepG.apply;simp only[if_true,Sem.runT,ite_self,Ht,Gl];exact Dt h1 h2
  case waiting=>
   refine Dq ?_ (o .waiting trivial _);show(stepG.apply P true fr cs dy (.halt .waiting) e).fine
   unfold stepG.apply;simp only[if_true,Sem.runT,ite_self,Ht,Gl];exact Dt h1 h2
  case exit c=>
   refine Dq ?_ λ_=>j _ (.inr rfl) λ_=>trivial
   show(stepG.apply P true fr cs dy (.halt (.exit c)) e).fine
   unfold stepG.apply;simp only[if_true,Sem.runT,ite_self,Ht,Gl];trivial
  case fatal m=>
   refine Dq ?_ λ_=>j _ (.inr rfl) λ_=>trivial
   show(stepG.apply P true fr cs dy (.halt (.fatal m)) e).fine
   unfold stepG.apply;simp only[if_true,Sem.runT,ite_self,Ht,Gl];exact RJ dy m e h1
  case throw m=>
   refine Dq ?_ λ_=>j _ (.inr rfl) λ_=>trivial
   show(stepG.apply P true fr cs dy (.halt (.throw m)) e).fine
   unfold stepG.apply;simp only[if_true,Sem.runT,ite_self,Ht,Gl];exact Um _ _ _ e h1
  case stuck m=>
   refine Dq ?_ (o (.stuck m) trivial _);show(stepG.apply P true fr cs dy (.halt (.stuck m)) e).fine
   unfold stepG.apply;simp only[if_true,Sem.runT,ite_self,Ht,Gl];trivial
  case unsupported u=>
   by_cases hi:∃g,u=.initOrder g
   .obtain⟨g,rfl⟩:=hi
    refine Dq ?_ λ_=>by show deafBehind 0 (seen P fr.fn (if fr.kind==.early then #[] else #[]))=0;split<;>rfl
    show(stepG.apply P true fr cs dy (.halt (.unsupported (.initOrder g))) e).fine
    unfold stepG.apply;simp only[if_true,Sem.runT,ite_self,Ht,Gl];exact sn dy g e h1 h2
   .refine Dq ?_ (o (.unsupported u) (by cases u<;>first | trivial | exact absurd ⟨_,rfl⟩ hi) _)
    show(stepG.apply P true fr cs dy (.halt (.unsupported u)) e).fine
    unfold stepG.apply;cases u<;>first
     | exact absurd ⟨_,rfl⟩ hi
     | (simp only[if_true,Sem.runT,ite_self,Ht,Gl];trivial)
end
section
variable {cs:List Frame}{ev:Array Event}{fr:Frame}{i:Item}{k:List Item}
variable {P : Program}{w : World}
def JI {α:Type}{x:Sem α}(hx:Calm P x)(fn:FuncId){r:Result α}(hr:x.runT P w #[]=(r,ev))(hg:Ye r):deafBehind 0 (seen P fn ev)=0:=by
  have a:=X6 hx w #[] rfl Vr;rw[hr] at a;rw[N4 _ _ a.1];exact a.2 hg
def IA {x:Sem Next}(hx:CZ P V9 0 x)(fn:FuncId){r:Result Next}(hr:x.runT P w #[]=(r,ev))(hg:Ye r):deafBehind 0 (seen P fn ev)=0:=by
  have a:=X6 hx w #[] rfl Vr;rw[hr] at a;rw[N4 _ _ a.1];exact a.2 hg
def Pm {o:Outcome}{es a:Array Event}:(GStep.after es (.ended o w a)).fine:=trivial
def Ha (h:Ze fr)(b:fr.todo=i::k):∀j∈k,Vw j:=λj a=>h j (by rw[b];exact CH _ a)
def I7 {c:Code}(h:∀j∈k,Vw j):∀j∈Item.code c::k,Vw j:=λj a=>(List.mem_cons.1 a).elim (λe=>e ▸ trivial) (h j)
def I5 (hi:Vw i)(h:∀j∈k,Vw j):∀j∈i::k,Vw j:=λj a=>(List.mem_cons.1 a).elim (λe=>e ▸ hi) (h j)
theorem kL {f:Nat}:∀{k a:List Item},(∀j∈k,Vw j)->exitTo f k=some a->∀j∈a,Vw j:=by
  intro k;induction k with
  | nil=>intro a _ h;cases h
  | cons i k c=>
    intro a e h;have b:=λj d=>e j (CH _ d)
    cases i<;>simp only[exitTo] at h<;>first
      | exact c b h
      | (split at h
         . cases h;exact b
         . exact c b h)
theorem kC {l:Nat}:∀{k a:List Item},(∀j∈k,Vw j)->gotoIn l k=some a->∀j∈a,Vw j:=by
  intro k;induction k with
  | nil=>intro a _ h;cases h
  | cons i k c=>
    intro a e h;have b:=λj d=>e j (CH _ d)
    cases i<;>simp only[gotoIn] at h<;>first
      | exact c b h
      | (split at h
         . cases h;exact I7 (I5 trivial b)
         . exact c b h)
theorem sk (main:Bool)(dy:Option Dying)(jump:Option Code)(w:World)(h1:Ze fr)(h2:ED cs):(
      match fr.roundOf with
      | none=>if jump matches none | some .ret then GStep.go {frame:={fr with mode:=.returning},callers:=cs,status:=.running,dying:=dy} w else .ended (.stuck "exit, goto: no such block or label" (fr.pos P)) w
      | some l=>
        let (r,es):=(Instr.endRound l jump).runT P w #[]
        GStep.after (seen P fr.fn es)<| match r with
        | .ok v w=>doReturn P main fr cs dy v w
        | .halt _ w=>.ended (.stuck "range over a function: no such loop" (fr.pos P)) w).fine:=by
  cases fr.roundOf with
  | none=>
    dsimp only;split<;>split<;>first | exact Dt h1 h2 | trivial
  | some l=>
    dsimp only;generalize b:Sem.runT P _ w #[]=r;obtain⟨r,ev⟩:=r;cases r with
    | ok v a=>exact Dq (Vj main dy v a h1 h2) λ_=>JI AW _ b trivial
    | halt h a=>exact Dq trivial λc=>c.elim
def vl (c:OkP P)(a:Option Dying)(w:World)(h1:Ze fr)(b:ED cs):(stepG.oper P true fr cs a w).fine:=by
  unfold stepG.oper;split
  . trivial
  . split
    . exact Qq a w h1 b (D9 AW λ_=>D9 AW λ_=>G5 trivial)
    . exact Qq a w h1 b (UC c _ _)
theorem vn (q:OkP P)(main:Bool)(dy:Option Dying)(w:World)(h1:Ze fr)(h2:ED cs):(stepG.exec P main true fr cs dy w).fine:=by
  have o:=λj=>sk (P:=P) main dy j w h1 h2
  have d:∀todo:List Item,(∀j∈todo,Vw j)->(GStep.go {frame:={fr with todo},callers:=cs,status:=.running,dying:=dy} w).fine:=λtodo h=>Dt (fr:={fr with todo}) h h2
  unfold stepG.exec;dsimp only;split
  . exact o none
  . exact o (some .ret)
  . rename_i b;exact d _ (Ha h1 b)
  . rename_i b;exact d _ (Ha h1 b)
  . rename_i b;exact d _ (Ha h1 b)
  . rename_i b;exact d _ (Ha h1 b)
  . rename_i b;exact d _ (I7 (I7 (Ha h1 b)))
  . rename_i b
    split
    . exact d _ (I7 (Ha h1 b))
    . trivial
  . rename_i b;exact d _ (I7 (I5 trivial (Ha h1 b)))
  . rename_i b;exact d _ (I7 (I5 trivial (Ha h1 b)))
  . rename_i b;exact d _ (I7 (I5 trivial (Ha h1 b)))
  . rename_i b;exact d _ (I7 (I5 trivial (Ha h1 b)))
  . rename_i s k b
    cases u:exitTo s k with
    | none=>exact o (some (.exit s))
    | some t=>exact d _ (kL (Ha h1 b) u)
  . rename_i l k b
    cases u:gotoIn l k with
    | none=>exact o (some (.goto l))
    | some t=>exact d _ (kC (Ha h1 b) u)
  . rename_i f A assign body k b
    generalize m:Sem.runT P _ w #[]=r;obtain⟨r,ev⟩:=r;cases r with
    | ok a n=>
      obtain⟨l,z⟩:=a;exact Dq (Qq (fr:={fr with todo:=.inRangeFunc l::k,defers:=z++fr.defers}) dy n (I5 trivial (Ha h1 b)) h2 (D9 AW λ_=>J8 q _ _)) λ_=>JI AW _ m trivial
    | halt h n=>exact Dq trivial λc=>c.elim
  . trivial
  . refine Qq dy w h1 h2 (D9 ?_ λ_=>G5 trivial)
    cases fr.roundOf with
    | none=>exact D7
    | some l=>exact Py l
  . rename_i l k b
    generalize m:Sem.runT P _ w #[]=r;obtain⟨r,ev⟩:=r;cases r with
    | ok jump n=>
      refine Dq (Dt (fr:={fr with todo:=(jump.map Item.code).toList++k}) ?_ h2) λ_=>JI AW _ m trivial
      intro j e;rcases List.mem_append.1 e with e | e
      . cases jump with
        | none=>simp at e
        | some c=>simp at e;subst e;trivial
      . exact Ha h1 b j e
    | halt h n=>
      cases h
      case panic v=>exact Dq (Dt (Og h1 _) h2) λ_=>JI AW _ m trivial
      all_goals exact Dq trivial λc=>c.elim
  . trivial
  . exact Qq dy w h1 h2 (J8 q _ _)
  . rename_i row args k b
    have x:row= "runtime.print$piece" :=h1 (.extern row args) (by rw[b];exact DX);subst x;rw[UR];exact Qq dy w h1 h2 (NT _ _ _)
  . rename_i s y draw k b
    split
    . exact d _ (I5 trivial (Ha h1 b))
    . split
      . exact Dt (fr:={fr with todo:=.inRegion y _::k}) (I5 trivial (Ha h1 b)) h2
      . trivial
  . rename_i b;exact d _ (Ha h1 b)
  . split
    . exact vl q dy w h1 h2
    . exact Dt (Ij h1 _) h2
theorem fq (q:OkP P)(dy:Option Dying)(d:Deferred)(w:World)(h1:Ze fr)(h2:ED cs):(callDeferred P fr cs dy d w).fine:=by
  have e:=J8 q d.target d.args;have p:=Zw (w:=w) (es:=#[]) e;unfold callDeferred;dsimp only;split<;>split<;>(try trivial)
  all_goals
    generalize j:Sem.runT P _ w #[]=r at p;obtain⟨r,ev⟩:=r;cases r with
    | ok a n=>
      refine Dq ?_ λ_=>IA e _ j trivial
      have o:=p a ⟨n,rfl⟩;cases a<;>first | exact o.elim | skip
      case value v=>exact Dt h1 h2
      case skip=>exact Dt h1 h2
      case enter f args=>exact Dt (Qo _ _ _) (Le h1 h2)
      case round l f t a b=>exact Dt (UO _ _ _ _ _ _) (Le h1 h2)
      case defer d=>exact Dt h1 h2
      case spawn d=>exact Dt h1 h2
      case comm c b x=>exact Dt h1 h2
      case row r args=>
        obtain rfl:r= "runtime.print$piece" :=o;exact Dt (Wg _ _) (Le h1 h2)
      case recover=>
        dsimp only;split
        . rename_i s;exact Dt h1 (Ry h2 s)
        . exact Dt h1 h2
      case coroswitch c b=>
        cases b
        . trivial
        . exact⟨⟨h1,h2⟩,rfl⟩
    | halt h n=>
      cases h
      case panic v=>exact Dq (Dt (Og h1 _) h2) λ_=>IA e _ j trivial
      case goexit=>exact Dq (Dt (Og h1 _) h2) λ_=>IA e _ j trivial
      case blocked=>exact Dq (Dt (fr:={fr with defers:=d::fr.defers}) h1 h2) λc=>by cases c
      case waiting=>exact Dq (Dt (fr:={fr with defers:=d::fr.defers}) h1 h2) λc=>by cases c
      case exit c=>exact Pm
      case fatal m=>exact Dq (RJ dy m n h1) λ_=>IA e _ j trivial
      case throw m=>exact Dq (Um _ _ _ n h1) λ_=>IA e _ j trivial
      case stuck m=>exact Pm
      case unsupported u=>exact Pm
theorem nr (d:OkP P)(main:Bool)(dy:Option Dying)(w:World)(h1:Ze fr)(h2:ED cs):(unwind P main fr cs dy w).fine:=by
  unfold unwind;split
  . rename_i block _ e _
    generalize c:Sem.runT P _ w #[]=r;obtain⟨r,ev⟩:=r;cases r with
    | ok a b=>exact Dq (Dt (fr:={fr with defers:=a++e}) h1 h2) λ_=>JI AW _ c trivial
    | halt h b=>exact Pm
  . exact fq d (fr:={fr with defers:=_}) dy _ w h1 h2
  . split
    . trivial
    . split
      . trivial
      . split
        . exact Dt (Og (h2 _ DX) _) (λx f=>h2 x (CH _ f))
        . split
          . split
            . exact Dt h1 Jn
            . split
              . exact Dt h1 Jn
              . trivial
              . trivial
          . split
            . exact V4 _ w h1
            . trivial
    . split
      . exact Vj main dy _ w h1 h2
      . generalize c:Sem.runT P _ w #[]=r
        obtain⟨r,ev⟩:=r;cases r with
        | ok a b=>exact Dq (Vj main dy a b h1 h2) λ_=>JI (R9 _ _) _ c trivial
        | halt h b=>cases h<;>exact Pm
theorem ZS (m:OkP P)(d:Dying)(w:World)(h1:Ze fr):(die P fr d w).fine:=by
  unfold die;split
  . rename_i f _
    cases l:f.pieces with
    | nil=>unfold writeOn;simp only[l];trivial
    | cons piece rest=>
      obtain⟨X,n,hF⟩:=Rm (P:=P) fr d f piece rest l;have j:=X6 n w #[] rfl Vr;rw[hF];generalize X.runT P w #[]=r at j;obtain⟨r,ev⟩:=r;cases r with
      | ok a b=>exact⟨⟨h1,Jn⟩,(λ_ h=>by cases h),λ_=>j.2 trivial⟩
      | halt h b=>cases h<;>first | exact Dt h1 Jn | trivial
  . split
    . split
      . exact Dt h1 Jn
      . unfold endWith
        dsimp only;repeat' first | trivial | split
    . dsimp only
      split
      . exact Dt h1 Jn
      . split
        . exact Dt h1 Jn
        . trivial
      . rename_i t recv name _
        have e:=J8 m (.fn (.method name) #[]) #[.iface t recv];generalize c:Sem.runT P _ w #[]=r;obtain⟨r,ev⟩:=r;cases r with
        | ok a b=>
          cases a
          case enter f args=>exact Dq (Dt (Qo _ _ _) Jn) λ_=>IA e _ c trivial
          case value x=>
            cases x
            case string s=>exact Dq (Dt h1 Jn) λ_=>IA e _ c trivial
            all_goals exact Pm
          all_goals exact Pm
        | halt h b=>
          cases h
          case panic v=>exact Dq (V4 v b h1) λ_=>IA e _ c trivial
          all_goals exact Pm
      . trivial
theorem Uk (a:OkP P)(main:Bool)(g:Goroutine)(hg:OkG g)(w:World):(stepG P main g w).fine:=by
  unfold stepG;obtain⟨fr,cs,b,c,off⟩:=g;dsimp only;split
  . exact ZS a _ w hg.1
  . exact vn a main _ w hg.1 hg.2
  . exact nr a main _ w hg.1 hg.2
end
open Go.Conc
def Zb (gs:Array Goroutine):Prop:=∀g∈gs,g.status≠.blocked
abbrev GN (ready:List (Nat × CommCase × List Way)):Sem (Nat × CommCase × Way):=do
 let a <-choose (.select ready.length)
 let (k,c,ws):=ready.getD a (0,default,[])
 let b <-choose (.extern "which waiting goroutine is the partner" ws.length)
 pure (k,c,ws.getD b .closed)
section
variable {P : Program}{w : World}{gs gs' : Array Goroutine}
theorem G6 (h:Zb gs)(r:Nat)(b:Bool):partners gs r b=[]:=by
 unfold partners;refine List.flatMap_eq_nil_iff.2 λx e=>?_
 obtain⟨g,i⟩:=x;have c:g∈gs:=by
  have a:=Array.mem_zipIdx (Array.mem_toList_iff.1 e);rw[a.2.2];exact Array.getElem_mem _
 have:=h g c
 dsimp only;split
 .rename_i d _;exact absurd d this
 .rfl
def zf0 {p:Prop}(h:p:=by
 split at hx
 .simp at hx;subst hx;simp
 .rw[G6 h] at hx
  dsimp only at hx;split at hx
  .simp at hx;subst hx;simp
  .simp at hx):p:=h
theorem NR (h:Zb gs)(c:CommCase):ways w gs c=ways w #[] c/\∀x∈ways w gs c,∀a b,x≠.partner a b:=by
 have d:Zb #[]:=λg e=>by simp at e
 constructor
 .unfold ways
  split
  .split
   .split
    .rfl
    .rw[G6 h,G6 d]
   .split
    .rfl
    .rw[G6 h,G6 d]
   .rfl
  .rfl
 .intro x hx a b
  unfold ways at hx;split at hx
  .split at hx
   .exact zf0
   .exact zf0
   .simp at hx
  .simp at hx
def tA (ready:List (Nat × CommCase × List Way)):Calm P (GN ready):=Calm.bind J3 λ_=>Calm.bind J3 λ_=>Ae
theorem OB {ready:List (Nat × CommCase × List Way)}(hr:∀x∈ready,∀y∈x.2.2,∀a b,y≠.partner a b){k:Nat}{c:CommCase}{way:Way}{w':World}(h:(GN ready).run P w=.ok (k,c,way) w'):∀a b,way≠.partner a b:=by
 have key:∀(a b:Nat) (k:Nat) (c:CommCase) (d:List Way),ready.getD a (0,default,[])=(k,c,d)->∀x y,d.getD b .closed≠.partner x y:=by
  intro a b k c d e x y;have m:∀z∈d,∀x y,z≠.partner x y:=by
   rw[List.getD_eq_getElem?_getD] at e;cases f:ready[a]? with
   | none=>rw[f] at e;cases e;intro z j;simp at j
   | some q=>
    rw[f] at e;simp only[Option.getD_some] at e;intro z j;exact hr q (JD f) z (by rw[e];exact j)
  rw[List.getD_eq_getElem?_getD];cases f:d[b]? with
  | none=>simp
  | some q=>exact m q (JD f) x y
 have l:CZ P (λz:Nat × CommCase × Way=>∀a b,z.2.2≠.partner a b) 0 (GN ready):=by
  refine D9 J3 λa=>?_
  generalize n:ready.getD a (0,default,[])=z;obtain⟨k,c,d⟩:=z;refine D9 J3 λb=>G5 ?_
  exact key a b k c d n
 have:=Zw (w:=w) (es:=#[]) l (k,c,way) ⟨w',by rw[Sem.runT_eq];exact h⟩
 exact this
def fin:Goroutine:={(default:Goroutine) with status:=.finished}
def Uo (P:Program)(g:Goroutine)(cs:Array CommCase)(b:Bool)(sh:CommShape)(w:World):GStep:=
 match communicate P {timers:=#[],alone:=none,slice:=none} #[fin] 0 g cs b sh w with
 | (.next m,_)=>.go (m.gs.getD 0 default) m.world
 | (.ended o w,_)=>.ended o w
def K2 (P:Program)(g:Goroutine)(cs:Array CommCase)(b:Bool)(sh:CommShape)(w:World):Array MemOp:=
 (communicate P {timers:=#[],alone:=none,slice:=none} #[fin] 0 g cs b sh w).2
theorem Jq:Zb #[fin]:=λg a=>by
 simp at a;subst a;simp[fin]
theorem Zm (rest:Rest)(h:rest.timers=#[])(cs:Array CommCase)(w:World):waitingAt rest cs w=some w:=by
 unfold waitingAt;have:timerAhead rest w.os.mono cs=false:=by
  unfold timerAhead;rw[h];rw[Array.any_eq_false];intro i hi;split<;>simp
 rw[this];rfl
def M6 (h:Zb gs)(l:List (CommCase × Nat)):∀x∈(l.map λ(c,k)=>(k,c,ways w gs c)).filter (λ(_,_,e)=>!e.isEmpty),∀y∈x.2.2,∀a b,y≠.partner a b:=by
 intro x f y d;obtain⟨z,_,rfl⟩:=List.mem_map.1 (List.mem_filter.1 f).1;exact(NR h z.1).2 y d
theorem SS {sl:Option (Nat × Nat)}(h:Zb gs)(_h0:0<gs.size)(g:Goroutine)(cs:Array CommCase)(b:Bool)(sh:CommShape)(w:World):
  communicate P {timers:=#[],alone:=none,slice:=sl} gs 0 g cs b sh w=
   (match Uo P g cs b sh w with
    | .go n d _=>.next {world:=d,gs:=gs.setIfInBounds 0 n,rest:={timers:=#[],alone:=none,slice:=sl} }
    | .ended o d _=>.ended o d
    | _=>.ended default default,K2 P g cs b sh w):=by
 unfold Uo K2;have l:∀c,ways w gs c=ways w #[fin] c:=λc=>((NR h c).1).trans ((NR Jq c).1).symm
 unfold communicate;simp only[l];have m:=M6 (w:=w) Jq cs.zipIdx.toList;split
 .rfl
 .split
  .split
   .rw[Zm _ rfl,Zm _ rfl]
    simp
   .simp
  .generalize p:(List.filter _ _:List (Nat × CommCase × List Way))=ready
   have r:∀x∈ready,∀y∈x.2.2,∀a b,y≠.partner a b:=by rw[<-p];exact m
   cases j:(GN ready).run P w with
   | halt e d=>rfl
   | ok z d=>
    obtain⟨k,c,way⟩:=z;have q:=OB r j;dsimp only;cases way with
    | partner a b=>exact absurd rfl (q a b)
    | sendClosed=>
     dsimp only;cases s:(runtimePanic (.plain "send on closed channel"):Sem Unit).run P d with
     | ok a f=>rfl
     | halt e f=>cases e<;>first | rfl | simp
    | closed=>simp
    | buffer=>
     rw[G6 h,G6 Jq];split<;>first | (simp;done) | (exfalso;simp_all;done)
end
section
variable {P : Program}{w : World}
def chanOf (c:CommCase):Nat:=match c.chan with | .chan (some r)=>r | _=>0
def IJ (P:Program)(g:Goroutine)(cs:Array CommCase)(sh:CommShape)(k:Nat)(c:CommCase)(way:Way)(w:World):GStep:=
  match way with
  | .sendClosed=>match (runtimePanic (.plain "send on closed channel"):Sem Unit).run P w with
    | .halt (.panic v) w=>.go {g with frame:=g.frame.raise [{v,recovered:=false}]} w
    | _=>.ended (.stuck "communicate" "") w
  | .closed=>.go (g.finishComm P cs sh k c.zero false) w
  | .buffer=>match w.heap[chanOf c]?,c.send with
    | some (.chan cap a d s r b),some v=>.go (g.finishComm P cs sh k undef false) {w with heap:=w.heap.setIfInBounds (chanOf c) (.chan cap (a.push v) d (s+1) r b)}
    | some (.chan cap a d s r b),none=>.go (g.finishComm P cs sh k (a.getD 0 undef) true) {w with heap:=w.heap.setIfInBounds (chanOf c) (.chan cap (a.extract 1 a.size) d s (r+1) b)}
    | _,_=>.ended (.stuck "communicate: no such channel" "") w
  | _=>.ended (.stuck "communicate: no such channel" "") w
def KZ (P:Program)(g:Goroutine)(cs:Array CommCase)(sh:CommShape):Result (Nat × CommCase × Way)->GStep
  | .ok (k,c,way) a=>IJ P g cs sh k c way a
  | .halt _ a=>.ended (.stuck "communicate" "") a
def Wq (cs:Array CommCase)(w:World):List (Nat × CommCase × List Way):=(cs.zipIdx.toList.map λ(c,k)=>(k,c,ways w #[fin] c)).filter λ(_,_,a)=>!a.isEmpty
theorem SU (g:Goroutine)(cs:Array CommCase)(b:Bool)(sh:CommShape)(w:World):
    (∃o,∀d:World,d.heap=w.heap->Uo P g cs b sh d=.ended o d)\/
    (∃j,j={g with status:=.blocked,offers:=some (cs,sh)}/\∀d:World,d.heap=w.heap->Uo P g cs b sh d=.go j d)\/
    (∃j,j=g.finishComm P cs sh (-1) undef false/\∀d:World,d.heap=w.heap->Uo P g cs b sh d=.go j d)\/
    (∀d:World,d.heap=w.heap->Uo P g cs b sh d=KZ P g cs sh ((GN (Wq cs w)).run P d)):=by
  have q:∀d:World,d.heap=w.heap->∀c,ways d #[fin] c=ways w #[fin] c:=λd h c=>by unfold ways;rw[h]
  have B:∀x∈Wq cs w,∀y∈x.2.2,∀a b,y≠.partner a b:=M6 (w:=w) Jq cs.zipIdx.toList;by_cases f:cs.any (λc=>match c.chan with | .chan none=>false | .chan (some r)=>!(w.heap[r]? matches some (.chan ..)) | _=>true)=true
  . refine .inl ⟨.stuck "a communication at a channel whose block is no channel's" (g.frame.pos P),λd h=>?_⟩
    unfold Uo communicate;rw[h];dsimp only;split
    . rename_i e;split at e
      . cases e
      . rename_i n;exact absurd f n
    . rename_i e;split at e
      . cases e;rfl
      . rename_i n;exact absurd f n
  . by_cases p:(Wq cs w).isEmpty=true
    . cases b
      . refine .inr (.inr (.inl ⟨_,rfl,λd h=>?_⟩))
        unfold Uo communicate;simp only[q d h];rw[h];refine(congrArg (λx:Stepped × Array MemOp=>match x with | (.next m,_)=>GStep.go (m.gs.getD 0 default) m.world | (.ended o w,_)=>.ended o w) ((if_neg f).trans (if_pos p))).trans ?_;simp
      . refine .inr (.inl ⟨_,rfl,λd h=>?_⟩)
        unfold Uo communicate;simp only[q d h];rw[h];refine(congrArg (λx:Stepped × Array MemOp=>match x with | (.next m,_)=>GStep.go (m.gs.getD 0 default) m.world | (.ended o w,_)=>.ended o w) ((if_neg f).trans (if_pos p))).trans ?_;rw[Zm _ rfl];simp
    . refine .inr (.inr (.inr λd h=>?_))
      unfold Uo communicate;simp only[q d h];rw[h];refine(congrArg (λx:Stepped × Array MemOp=>match x with | (.next m,_)=>GStep.go (m.gs.getD 0 default) m.world | (.ended o w,_)=>.ended o w) ((if_neg f).trans (if_neg p))).trans ?_;generalize C:(List.filter _ _:List (Nat × CommCase × List Way))=ready;obtain rfl:Wq cs w=ready:=C;cases v:(GN (Wq cs w)).run P d with
      | halt t l=>rfl
      | ok z l=>
        obtain⟨k,c,way⟩:=z;have A:=OB B v;cases way with
        | partner a b=>exact absurd rfl (A a b)
        | sendClosed=>
          simp only[KZ,IJ];cases (runtimePanic (.plain "send on closed channel"):Sem Unit).run P l with
          | ok a u=>rfl
          | halt t u=>cases t<;>rfl
        | closed=>rfl
        | buffer=>
          simp only[KZ,IJ];rw[G6 Jq]
          cases D:c.send<;>(cases s:c.chan<;>first
            | (rename_i o
               cases o<;>simp only[chanOf,s]<;>(generalize (l.heap[(_:Nat)]?:Option Obj)=o;rcases o with _ | o<;>first | rfl | (cases o<;>first | rfl | simp)))
            | (simp only[chanOf,s];(generalize (l.heap[(_:Nat)]?:Option Obj)=o;rcases o with _ | o<;>first | rfl | (cases o<;>first | rfl | simp))))
end
section
variable {g:Goroutine}
variable {P : Program}{w : World}
def _root_.Go.GStep.put (w:World):GStep->GStep:=GStep.turn λ_=>w
theorem Gg.next {F:World->GStep}(nxt:GStep->GStep)(hF:Gg F w)(h:Gg (λr=>nxt ((F w).put r)) (F w).w)(v:(nxt (F w)).cont->(F w).cont):Gg (λw=>nxt (F w)) w:=by
 obtain⟨h1,l,K,z,o,t⟩:=hF;have x:(F w).put (F w).w=F w:=by cases F w<;>rfl
 obtain⟨d,b,L,n,f,m⟩:=h;simp only[x] at d b n f m;refine⟨d.trans h1,CB l b,max K L,CB n (LJ _ _),λc=>?_,fun a s e j hA=>?_⟩
 .rw[o (v c),f c]
  exact Nat.max_eq_right b
 .have u:=t a s e j (hA.mono (J2 _ _))
  have q:=m a s e (CB j l) yEe;have y:(F w).turn (rt a s e)=(F w).put (rt a s e (F w).w):=by cases F w<;>rfl
  simp only[u];rw[y];exact q
theorem vd (g:Goroutine)(cs:Array CommCase)(sh:CommShape)(k:Nat)(c:CommCase)(way:Way)(w:World):Gg (λw=>IJ P g cs sh k c way w) w:=by
 unfold IJ;cases way with
 | partner a b=>exact(Ar _ _).loc w
 | closed=>exact(Du _ _).loc w
 | sendClosed=>
  have m:=Calm.loc (Ox (P:=P) (α:=Unit) (.plain "send on closed channel")) w #[];have e:∀w,(runtimePanic (.plain "send on closed channel"):Sem Unit).run P w=((runtimePanic (.plain "send on closed channel"):Sem Unit).runT P w #[]).1:=λw=>by rw[Sem.runT_eq]
  simp only[e];generalize l:(runtimePanic (.plain "send on closed channel"):Sem Unit).runT P w #[]=r;obtain⟨r,ev⟩:=r;cases r with
  | ok a t=>exact Gg.caseOld m l (Ar (.stuck "communicate" "") #[]) (λw c=>c) λq u h=>by simp only[h,Result.put]
  | halt h t=>
   cases h
   case panic v=>exact Gg.case m l ((Du {g with frame:=g.frame.raise [{v,recovered:=false}]} #[]).loc t) (λ_ x=>x) λq u h=>by simp only[h,Result.put]
   all_goals exact Gg.caseOld m l (Ar (.stuck "communicate" "") #[]) (λw c=>c) λq u h=>by simp only[h,Result.put]
 | buffer=>
  refine Gg.const ?_ ?_ fun j s e _=>?_
  .dsimp only
   split<;>rfl
  .dsimp only
   split<;>rfl
  .dsimp only
   show(match w.heap[chanOf c]?,c.send with
    | some (.chan cap d p f r n),some v=>GStep.go (g.finishComm P cs sh k undef false) {rt j s e w with heap:=w.heap.setIfInBounds (chanOf c) (.chan cap (d.push v) p (f+1) r n)}
    | some (.chan cap d p f r n),none=>GStep.go (g.finishComm P cs sh k (d.getD 0 undef) true) {rt j s e w with heap:=w.heap.setIfInBounds (chanOf c) (.chan cap (d.extract 1 d.size) p f (r+1) n)}
    | _,_=>GStep.ended (.stuck "communicate: no such channel" "") (rt j s e w))=_
   rcases w.heap[chanOf c]? with _ | o
   .cases c.send<;>rfl
   .cases o<;>cases c.send<;>rfl
theorem vb (g:Goroutine)(cs:Array CommCase)(b:Bool)(sh:CommShape)(w:World):Gg (λw=>Uo P g cs b sh w) w:=by
 rcases SU (P:=P) g cs b sh w with⟨o,h⟩ | ⟨d,_,h⟩ | ⟨d,_,h⟩ | h
 .exact((Ar o #[]).loc w).like (h w rfl) fun f s e=>h _ rfl
 .exact((Du d #[]).loc w).like (h w rfl) fun f s e=>h _ rfl
 .exact((Du d #[]).loc w).like (h w rfl) fun f s e=>h _ rfl
 .refine Gg.like (G:=λj=>KZ P g cs sh ((GN (Wq cs w)).run P j)) ?_ (h w rfl) fun f s e=>h _ rfl
  refine Gg.bindR (P:=P) (x:=GN (Wq cs w)) (KZ P g cs sh) (Calm.loc (tA _) w #[]) ?_ ?_
  .generalize Sem.run P _ w=r
   cases r with
   | ok a w'=>obtain⟨k,c,way⟩:=a;exact vd g cs sh k c way w'
   | halt h w'=>exact(Ar _ _).loc _
  .exact zb0
def Pe (h:OkG g)(cs:Array CommCase)(sh:CommShape)(k:Int)(v:Value)(ok:Bool):OkG (g.finishComm P cs sh k v ok):=⟨Ij h.1 _,h.2⟩
theorem s7 (hg:OkG g)(hr:g.status=.running)(cs:Array CommCase)(b:Bool)(sh:CommShape)(w:World):(∃o d,Uo P g cs b sh w=.ended o d)\/∃e d,Uo P g cs b sh w=.go e d/\OkG e/\∀t,e.status≠.sleeping t:=by
 have j:∀k c way w,(∃o d,IJ P g cs sh k c way w=.ended o d)\/∃e d,IJ P g cs sh k c way w=.go e d/\OkG e/\∀t,e.status≠.sleeping t:=by
  intro k c way w;unfold IJ;have f:∀(k:Int) v ok,∀t,(g.finishComm P cs sh k v ok).status≠.sleeping t:=λ_ _ _ _ h=>by cases h
  cases way with
  | partner a b=>exact .inl ⟨_,_,rfl⟩
  | closed=>exact .inr ⟨_,_,rfl,Pe hg _ _ _ _ _,f _ _ _⟩
  | sendClosed=>
   dsimp only;split
   .exact .inr ⟨_,_,rfl,⟨Og hg.1 _,hg.2⟩,λt h=>by rw[show g.status=_ from h] at hr;cases hr⟩
   .exact .inl ⟨_,_,rfl⟩
  | buffer=>
   dsimp only;split
   .exact .inr ⟨_,_,rfl,Pe hg _ _ _ _ _,f _ _ _⟩
   .exact .inr ⟨_,_,rfl,Pe hg _ _ _ _ _,f _ _ _⟩
   .exact .inl ⟨_,_,rfl⟩
 rcases SU (P:=P) g cs b sh w with⟨o,h⟩ | ⟨e,rfl,h⟩ | ⟨e,rfl,h⟩ | h
 .exact .inl ⟨_,_,h w rfl⟩
 .exact .inr ⟨_,_,h w rfl,hg,λt h=>by cases h⟩
 .exact .inr ⟨_,_,h w rfl,Pe hg _ _ _ _ _,λt h=>by cases h⟩
 .rw[h w rfl]
  generalize (GN (Wq cs w)).run P w=r;cases r with
  | ok a d=>obtain⟨k,c,way⟩:=a;exact j k c way d
  | halt h d=>exact .inl ⟨_,_,rfl⟩
end
