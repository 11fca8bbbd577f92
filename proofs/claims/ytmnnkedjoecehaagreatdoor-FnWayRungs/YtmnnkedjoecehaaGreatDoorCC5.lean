import Derived.Test.YtmnnkedjoecehaaGreatDoorCB9
set_option linter.defProp false
namespace Go.Co
def EK (cs:List Frame):Prop:=∀c∈cs,DI c
def _root_.Go.GStep.fine:GStep->Prop
 | .go g _ a=>OkG g/\(∀t,g.status≠.sleeping t)/\(g.status=.running->deafBehind 0 a=0)
 | .comm g _ _ _ _ a=>OkG g/\g.status=.running/\deafBehind 0 a=0
 | .coroswitch g _ _ _ a=>OkG g/\deafBehind 0 a=0
 | .spawn .. | .ended ..=>True
 | _=>False
section
variable {cs:List Frame}{fr:Frame}
variable {P : Program}{w : World}
theorem QD (es a:Array Event)(h:deafBehind 0 es=0):deafBehind 0 (es++a)=deafBehind 0 a:=by
 unfold deafBehind at*;rw[Array.foldl_append,h]
theorem D6 {es:Array Event}{x:GStep}(h:x.fine)(hd:x.cont->deafBehind 0 es=0):(GStep.after es x).fine:=by
 cases x with
 | go g w a=>exact⟨h.1,h.2.1,λd=>by rw[QD _ _ (hd d)];exact h.2.2 d⟩
 | comm g c b e w a=>exact⟨h.1,h.2.1,by rw[QD _ _ (hd trivial)];exact h.2.2⟩
 | coroswitch g c b w a=>exact⟨h.1,by rw[QD _ _ (hd trivial)];exact h.2⟩
 | spawn g c w a=>trivial
 | ended o w a=>trivial
 | _=>exact h
def D7 {st:GoStatus}{dy:Option Dying}(h1:DI fr)(h2:EK cs)(hst:∀t,st≠.sleeping t:=by intro _ h;cases h):(GStep.go {frame:=fr,callers:=cs,status:=st,dying:=dy} w).fine:=⟨⟨h1,h2⟩,hst,λ_=>rfl⟩
theorem Lm:EK []:=λ_ h=>by cases h
def Oh (h1:DI fr)(b:EK cs):EK (fr::cs):=λc a=>(List.mem_cons.1 a).elim (λe=>e ▸ h1) (b c)
def Qh (h:DI fr)(vs:List PanicEntry):DI (fr.raise vs):=by
 unfold Frame.raise;split<;>exact h
theorem Ub (f:FuncId)(args:Array Value)(k:CallKind):DI (Frame.enter P f args k):=by
 intro i hi;simp only[Frame.enter,oa] at hi;subst hi;trivial
theorem XE (l:Nat)(f:FuncId)(t:Array Value)(a b:Code)(k:CallKind):DI (Frame.round l f t a b k):=by
 intro i hi;simp only[Frame.round,C7,EA,DR] at hi;rcases hi with rfl | rfl | rfl<;>trivial
theorem Z0 (args:Array Value)(k:CallKind):DI (Frame.ofRow P "runtime.print$piece" args k):=by
 intro i hi;simp only[Frame.ofRow,oa] at hi;subst hi;rfl
theorem Jp (h:DI fr)(v:Value):DI (fr.finish v):=by
 unfold Frame.finish;unfold DI at h;split
 ·rename_i f i rest k e
  rw[e] at h;intro j c;rcases List.mem_cons.1 c with rfl | c
  ·trivial
  ·exact h j (CN _ c)
 ·rename_i l k e
  rw[e] at h;intro j c;rcases List.mem_cons.1 c with rfl | c
  ·trivial
  ·exact h j (CN _ c)
 ·rename_i k e
  rw[e] at h;exact λj c=>h j (CN _ c)
 ·rename_i d b r s k e
  rw[e] at h;intro j c;rcases List.mem_cons.1 c with rfl | c
  ·exact h (.call d b r s) ET
  ·exact h j (CN _ c)
 ·rename_i r a k e
  rw[e] at h;exact λj c=>h j (CN _ c)
 ·exact h
theorem Va:∀{fr:Frame} {cs:List Frame} {v:Value} {a:List Frame},EK cs->tryRecover fr cs=some (v,a)->EK a:=by
 intro fr cs;induction cs generalizing fr with
 | nil=>
  intro v a _ h;unfold tryRecover at h;cases d:fr.kind<;>simp[d] at h
 | cons c cs l=>
  intro v a j h;have f:=j c ET;have e:EK cs:=λx m=>j x (CN _ m)
  unfold tryRecover at h;cases d:fr.kind<;>simp only[d] at h
  case deferred=>
   split at h
   ·cases h
    exact Oh f e
   ·cases h
  case wrapped=>
   cases b:tryRecover c cs with
   | none=>rw[b] at h;cases h
   | some x=>
    rw[b] at h;obtain⟨o,n⟩:=x;cases h;exact Oh f (l e b)
  all_goals cases h
theorem ov:∀{l:Nat} {cs:List Frame} {v:Value} {d:List Frame},EK cs->tryRecoverLoop l cs=some (v,d)->EK d:=by
 intro l cs;induction cs generalizing l with
 | nil=>intro v d _ h;cases h
 | cons c cs e=>
  intro v d f h;have m:=f c ET;have b:EK cs:=λx a=>f x (CN _ a)
  unfold tryRecoverLoop at h;obtain⟨x,a,j⟩:=Option.map_eq_some_iff.1 h;obtain⟨n,o⟩:=x;cases j;refine Oh m ?_;split at a
  ·exact e b a
  ·split at a
   ·exact Va b a
   ·exact e b a
  ·exact e b a
theorem Xn (main:Bool)(dy:Option Dying)(v:Value)(w:World)(h1:DI fr)(h2:EK cs):(doReturn P main fr cs dy v w).fine:=by
 unfold doReturn;cases cs with
 | cons c cs=>
  have a:=h2 c ET;have b:EK cs:=λx d=>h2 x (CN _ d)
  dsimp only;split
  ·exact D7 (Jp a v) b
  ·exact D7 (Jp a v) b
  ·exact D7 a b
  ·refine D7 ?_ b
   split
   ·split<;>exact a
   ·exact a
 | nil=>
  dsimp only;split
  ·exact D7 h1 Lm
  ·trivial
  ·split
   ·exact D7 h1 Lm
   ·split
    ·exact D7 (Ub _ _ _) Lm
    ·trivial
def Wn (l:List ByteArray)(m:String)(b:Bool)(w:World)(h:DI fr):(dieOf fr l m b w).fine:=D7 h Lm
def Yb (v:Value)(w:World)(h:DI fr):(endPrinting P fr v w).fine:=by
 unfold endPrinting;dsimp only;split
 ·exact Wn _ _ _ w h
 ·trivial
def T8 (a:Option Dying)(m:String)(w:World)(h:DI fr):(endFatal P fr cs a m w).fine:=by
 unfold endFatal;dsimp only;split
 ·exact Wn _ _ _ _ h
 ·trivial
 ·trivial
theorem Av0 (dy:Option Dying)(g:Nat)(w:World)(h1:DI fr)(h2:EK cs):(early P fr cs dy g w).fine:=by
 have a:∀w:World,(match w.heap[g]? with
   | some (.pending c elem)=>GStep.go {frame:=fr,callers:=cs,status:=.running,dying:=dy} {w with heap:=w.heap.setIfInBounds g (.cells c elem)}
   | _=>.ended (.stuck "early: the variable does not wait" (fr.pos P)) w).fine:=by
  intro w;split
  ·exact D7 h1 h2
  ·trivial
 have d:∀(f:FuncId) (w:World) (l:List FuncId),(GStep.go {frame:=Frame.enter P f #[] .early,callers:=l.map (Frame.enter P · #[] .early)++fr::cs,status:=.running,dying:=dy} w).fine:=by
  intro f w l;refine D7 (Ub _ _ _) λc b=>?_
  rcases List.mem_append.1 b with b | b
  ·obtain⟨x,_,rfl⟩:=List.mem_map.1 b
   exact Ub _ _ _
  ·exact Oh h1 h2 c b
 unfold early;dsimp only;split
 ·exact a w
 ·split
  ·trivial
  ·split
   ·exact a w
   ·split
    ·exact a w
    ·split
     ·trivial
     ·exact d _ _ _
     ·trivial
     ·exact a w
     ·split
      ·exact d _ _ _
      ·split
       ·exact a w
       ·split
        ·exact a _
        ·exact d _ _ _
        ·trivial
def Xw:Zf #[]:=λ_ h=>by simp at h
theorem Uf (dy:Option Dying){x:Sem Next}(w:World)(h1:DI fr)(h2:EK cs)(hx:C3 P Yf 0 x):(stepG.apply P true fr cs dy x w).fine:=by
 have s:=LV (w:=w) (es:=#[]) hx;have p:=Z5 hx w #[] rfl Xw;rw[eL];generalize D:x.runT P w #[]=r at s p;obtain⟨r,ev⟩:=r;have j:∀es:Array Event,(es=#[]\/es=ev)->(es=ev->GR r)->deafBehind 0 (seen P fr.fn (if fr.kind==.early then #[] else es))=0:=by
  intro es y A;split
  ·rfl
  ·rcases y with rfl | rfl
   ·rfl
   ·rw[PI _ _ p.1];exact p.2 (A rfl)
 cases r with
 | ok a e=>
  refine D6 ?_ λ_=>j _ (.inr rfl) λ_=>trivial
  have q:=s a ⟨e,rfl⟩;unfold stepG.apply;simp only[KB,if_true,Sem.runT,ite_self,I4,Hf,Result.w];cases a<;>first | exact q.elim | skip
  case value v=>exact D7 (Jp h1 v) h2
  case skip=>exact D7 (Jp h1 _) h2
  case enter f args=>exact D7 (Ub _ _ _) (Oh h1 h2)
  case round l f t a b=>exact D7 (XE _ _ _ _ _ _) (Oh h1 h2)
  case defer d=>exact D7 (Jp (fr:={fr with defers:=d::fr.defers}) h1 _) h2
  case recover=>
   dsimp only;split
   ·rename_i v G n
    refine D7 (Jp h1 _) ?_;split at n
    ·split at n
     ·exact Va h2 n
     ·exact ov h2 n
    ·exact Va h2 n
   ·exact D7 (Jp h1 _) h2
  case spawn d=>
   dsimp only;split<;>split<;>first | exact Wn _ _ _ _ h1 | trivial
  case comm c b E=>exact⟨⟨h1,h2⟩,rfl,rfl⟩
  case coroswitch c b=>exact⟨⟨h1,h2⟩,rfl⟩
  case row r args=>
   obtain rfl:r= "runtime.print$piece" :=q;dsimp only;split
   ·rename_i C F k z
    refine D7 ?_ h2;intro i hi;rcases List.mem_cons.1 hi with rfl | hi
    ·rfl
    ·exact h1 i (by rw[z];exact CN _ hi)
   ·exact D7 (Z0 _ _) (Oh h1 h2)
 | halt h e=>
  have o:∀h:Halt,JG h->∀es,(stepG.apply P true fr cs dy (.halt h) e).cont->deafBehind 0 es=0:=λh B es c=>absurd B (Y3 fr cs dy h e c)
  cases h
  case panic v=>
   refine D6 ?_ λ_=>j _ (.inr rfl) λ_=>trivial
   show(stepG.apply P true fr cs dy (.halt (.panic v)) e).fine
   unfold stepG.apply;simp only[if_true,Sem.runT,ite_self,I4,Hf];exact D7 (Qh h1 _) h2
  case goexit=>
   refine D6 ?_ λ_=>j _ (.inr rfl) λ_=>trivial
   show(stepG.apply P true fr cs dy (.halt .goexit) e).fine
   unfold stepG.apply;simp only[if_true,Sem.runT,ite_self,I4,Hf];exact D7 (Qh h1 _) h2
  case blocked=>
   refine D6 ?_ (o .blocked trivial _);show(stepG.apply P true fr cs dy (.halt .blocked) e).fine
   unfold stepG.apply;simp only[if_true,Sem.runT,ite_self,I4,Hf];exact D7 h1 h2
  case waiting=>
   refine D6 ?_ (o .waiting trivial _);show(stepG.apply P true fr cs dy (.halt .waiting) e).fine
   unfold stepG.apply;simp only[if_true,Sem.runT,ite_self,I4,Hf];exact D7 h1 h2
  case exit c=>
   refine D6 ?_ λ_=>j _ (.inr rfl) λ_=>trivial
   show(stepG.apply P true fr cs dy (.halt (.exit c)) e).fine
   unfold stepG.apply;simp only[if_true,Sem.runT,ite_self,I4,Hf];trivial
  case fatal m=>
   refine D6 ?_ λ_=>j _ (.inr rfl) λ_=>trivial
   show(stepG.apply P true fr cs dy (.halt (.fatal m)) e).fine
   unfold stepG.apply;simp only[if_true,Sem.runT,ite_self,I4,Hf];exact T8 dy m e h1
  case throw m=>
   refine D6 ?_ λ_=>j _ (.inr rfl) λ_=>trivial
   show(stepG.apply P true fr cs dy (.halt (.throw m)) e).fine
   unfold stepG.apply;simp only[if_true,Sem.runT,ite_self,I4,Hf];exact Wn _ _ _ e h1
  case stuck m=>
   refine D6 ?_ (o (.stuck m) trivial _);show(stepG.apply P true fr cs dy (.halt (.stuck m)) e).fine
   unfold stepG.apply;simp only[if_true,Sem.runT,ite_self,I4,Hf];trivial
  case unsupported u=>
   by_cases hi:∃g,u=.initOrder g
   ·obtain⟨g,rfl⟩:=hi
    refine D6 ?_ λ_=>by show deafBehind 0 (seen P fr.fn (if fr.kind==.early then #[] else #[]))=0;split<;>rfl
    show(stepG.apply P true fr cs dy (.halt (.unsupported (.initOrder g))) e).fine
    unfold stepG.apply;simp only[if_true,Sem.runT,ite_self,I4,Hf];exact Av0 dy g e h1 h2
   ·refine D6 ?_ (o (.unsupported u) (by cases u<;>first | trivial | exact absurd ⟨_,rfl⟩ hi) _)
    show(stepG.apply P true fr cs dy (.halt (.unsupported u)) e).fine
    unfold stepG.apply;cases u<;>first
     | exact absurd ⟨_,rfl⟩ hi
     | (simp only[if_true,Sem.runT,ite_self,I4,Hf];trivial)
end
section
variable {cs:List Frame}{ev:Array Event}{fr:Frame}{i:Item}{k:List Item}
variable {P : Program}{w : World}
def JZ {α:Type}{x:Sem α}(hx:Calm P x)(fn:FuncId){r:Result α}(hr:x.runT P w #[]=(r,ev))(hg:GR r):deafBehind 0 (seen P fn ev)=0:=by
  have a:=Z5 hx w #[] rfl Xw;rw[hr] at a;rw[PI _ _ a.1];exact a.2 hg
def II {x:Sem Next}(hx:C3 P Yf 0 x)(fn:FuncId){r:Result Next}(hr:x.runT P w #[]=(r,ev))(hg:GR r):deafBehind 0 (seen P fn ev)=0:=by
  have a:=Z5 hx w #[] rfl Xw;rw[hr] at a;rw[PI _ _ a.1];exact a.2 hg
def Ro {o:Outcome}{es a:Array Event}:(GStep.after es (.ended o w a)).fine:=trivial
def Ik (h:DI fr)(a:fr.todo=i::k):∀j∈k,X7 j:=λj b=>h j (by rw[a];exact CN _ b)
def J7 {c:Code}(h:∀j∈k,X7 j):∀j∈Item.code c::k,X7 j:=λj a=>(List.mem_cons.1 a).elim (λe=>e ▸ trivial) (h j)
def J6 (hi:X7 i)(h:∀j∈k,X7 j):∀j∈i::k,X7 j:=λj a=>(List.mem_cons.1 a).elim (λe=>e ▸ hi) (h j)
theorem sX {f:Nat}:∀{k a:List Item},(∀j∈k,X7 j)->exitTo f k=some a->∀j∈a,X7 j:=by
  intro k;induction k with
  | nil=>intro a _ h;cases h
  | cons i k c=>
    intro a e h;have b:=λj d=>e j (CN _ d)
    cases i<;>simp only[exitTo] at h<;>first
      | exact c b h
      | (split at h
         · cases h;exact b
         · exact c b h)
theorem sW {l:Nat}:∀{k a:List Item},(∀j∈k,X7 j)->gotoIn l k=some a->∀j∈a,X7 j:=by
  intro k;induction k with
  | nil=>intro a _ h;cases h
  | cons i k c=>
    intro a e h;have b:=λj d=>e j (CN _ d)
    cases i<;>simp only[gotoIn] at h<;>first
      | exact c b h
      | (split at h
         · cases h;exact J7 (J6 trivial b)
         · exact c b h)
theorem Avz (main:Bool)(dy:Option Dying)(jump:Option Code)(w:World)(h1:DI fr)(h2:EK cs):(
      match fr.roundOf with
      | none=>if jump matches none | some .ret then GStep.go {frame:={fr with mode:=.returning},callers:=cs,status:=.running,dying:=dy} w else .ended (.stuck "exit, goto: no such block or label" (fr.pos P)) w
      | some l=>
        let (r,es):=(Instr.endRound l jump).runT P w #[]
        GStep.after (seen P fr.fn es)<| match r with
        | .ok v w=>doReturn P main fr cs dy v w
        | .halt _ w=>.ended (.stuck "range over a function: no such loop" (fr.pos P)) w).fine:=by
  cases fr.roundOf with
  | none=>
    dsimp only;split<;>split<;>first | exact D7 h1 h2 | trivial
  | some l=>
    dsimp only;generalize b:Sem.runT P _ w #[]=r;obtain⟨r,ev⟩:=r;cases r with
    | ok v a=>exact D6 (Xn main dy v a h1 h2) λ_=>JZ AU _ b trivial
    | halt h a=>exact D6 trivial λc=>c.elim
def fW (c:OkP P)(a:Option Dying)(w:World)(h1:DI fr)(b:EK cs):(stepG.oper P true fr cs a w).fine:=by
  unfold stepG.oper;split
  · trivial
  · split
    · exact Uf a w h1 b (Em AU λ_=>Em AU λ_=>Ib trivial)
    · exact Uf a w h1 b (Wm c _ _)
theorem fY (q:OkP P)(main:Bool)(dy:Option Dying)(w:World)(h1:DI fr)(h2:EK cs):(stepG.exec P main true fr cs dy w).fine:=by
  have o:=λj=>Avz (P:=P) main dy j w h1 h2
  have d:∀todo:List Item,(∀j∈todo,X7 j)->(GStep.go {frame:={fr with todo},callers:=cs,status:=.running,dying:=dy} w).fine:=λtodo h=>D7 (fr:={fr with todo}) h h2
  unfold stepG.exec;dsimp only;split
  · exact o none
  · exact o (some .ret)
  · rename_i b;exact d _ (Ik h1 b)
  · rename_i b;exact d _ (Ik h1 b)
  · rename_i b;exact d _ (Ik h1 b)
  · rename_i b;exact d _ (Ik h1 b)
  · rename_i b;exact d _ (J7 (J7 (Ik h1 b)))
  · rename_i b
    split
    · exact d _ (J7 (Ik h1 b))
    · trivial
  · rename_i b;exact d _ (J7 (J6 trivial (Ik h1 b)))
  · rename_i b;exact d _ (J7 (J6 trivial (Ik h1 b)))
  · rename_i b;exact d _ (J7 (J6 trivial (Ik h1 b)))
  · rename_i b;exact d _ (J7 (J6 trivial (Ik h1 b)))
  · rename_i u k b
    cases s:exitTo u k with
    | none=>exact o (some (.exit u))
    | some t=>exact d _ (sX (Ik h1 b) s)
  · rename_i l k b
    cases s:gotoIn l k with
    | none=>exact o (some (.goto l))
    | some t=>exact d _ (sW (Ik h1 b) s)
  · rename_i f A assign body k b
    generalize m:Sem.runT P _ w #[]=r;obtain⟨r,ev⟩:=r;cases r with
    | ok a n=>
      obtain⟨l,x⟩:=a;exact D6 (Uf (fr:={fr with todo:=.inRangeFunc l::k,defers:=x++fr.defers}) dy n (J6 trivial (Ik h1 b)) h2 (Em AU λ_=>Ns q _ _)) λ_=>JZ AU _ m trivial
    | halt h n=>exact D6 trivial λc=>c.elim
  · trivial
  · refine Uf dy w h1 h2 (Em ?_ λ_=>Ib trivial)
    cases fr.roundOf with
    | none=>exact Ee
    | some l=>exact Rx l
  · rename_i l k b
    generalize m:Sem.runT P _ w #[]=r;obtain⟨r,ev⟩:=r;cases r with
    | ok jump n=>
      refine D6 (D7 (fr:={fr with todo:=(jump.map Item.code).toList++k}) ?_ h2) λ_=>JZ AU _ m trivial
      intro j e;rcases List.mem_append.1 e with e | e
      · cases jump with
        | none=>simp at e
        | some c=>simp at e;subst e;trivial
      · exact Ik h1 b j e
    | halt h n=>
      cases h
      case panic v=>exact D6 (D7 (Qh h1 _) h2) λ_=>JZ AU _ m trivial
      all_goals exact D6 trivial λc=>c.elim
  · trivial
  · exact Uf dy w h1 h2 (Ns q _ _)
  · rename_i row args k b
    have y:row= "runtime.print$piece" :=h1 (.extern row args) (by rw[b];exact ET);subst y;rw[XG];exact Uf dy w h1 h2 (PC _ _ _)
  · rename_i u z draw k b
    split
    · exact d _ (J6 trivial (Ik h1 b))
    · split
      · exact D7 (fr:={fr with todo:=.inRegion z _::k}) (J6 trivial (Ik h1 b)) h2
      · trivial
  · rename_i b;exact d _ (Ik h1 b)
  · split
    · exact fW q dy w h1 h2
    · exact D7 (Jp h1 _) h2
theorem ol (q:OkP P)(dy:Option Dying)(d:Deferred)(w:World)(h1:DI fr)(h2:EK cs):(callDeferred P fr cs dy d w).fine:=by
  have e:=Ns q d.target d.args;have p:=LV (w:=w) (es:=#[]) e;unfold callDeferred;dsimp only;split<;>split<;>(try trivial)
  all_goals
    generalize j:Sem.runT P _ w #[]=r at p;obtain⟨r,ev⟩:=r;cases r with
    | ok a n=>
      refine D6 ?_ λ_=>II e _ j trivial
      have o:=p a ⟨n,rfl⟩;cases a<;>first | exact o.elim | skip
      case value v=>exact D7 h1 h2
      case skip=>exact D7 h1 h2
      case enter f args=>exact D7 (Ub _ _ _) (Oh h1 h2)
      case round l f t a b=>exact D7 (XE _ _ _ _ _ _) (Oh h1 h2)
      case defer d=>exact D7 h1 h2
      case spawn d=>exact D7 h1 h2
      case comm c b x=>exact D7 h1 h2
      case row r args=>
        obtain rfl:r= "runtime.print$piece" :=o;exact D7 (Z0 _ _) (Oh h1 h2)
      case recover=>
        dsimp only;split
        · rename_i s;exact D7 h1 (Va h2 s)
        · exact D7 h1 h2
      case coroswitch c b=>
        cases b
        · trivial
        · exact⟨⟨h1,h2⟩,rfl⟩
    | halt h n=>
      cases h
      case panic v=>exact D6 (D7 (Qh h1 _) h2) λ_=>II e _ j trivial
      case goexit=>exact D6 (D7 (Qh h1 _) h2) λ_=>II e _ j trivial
      case blocked=>exact D6 (D7 (fr:={fr with defers:=d::fr.defers}) h1 h2) λc=>by cases c
      case waiting=>exact D6 (D7 (fr:={fr with defers:=d::fr.defers}) h1 h2) λc=>by cases c
      case exit c=>exact Ro
      case fatal m=>exact D6 (T8 dy m n h1) λ_=>II e _ j trivial
      case throw m=>exact D6 (Wn _ _ _ n h1) λ_=>II e _ j trivial
      case stuck m=>exact Ro
      case unsupported u=>exact Ro
theorem uv (e:OkP P)(main:Bool)(dy:Option Dying)(w:World)(h1:DI fr)(h2:EK cs):(unwind P main fr cs dy w).fine:=by
  unfold unwind;split
  · rename_i block _ d _
    generalize c:Sem.runT P _ w #[]=r;obtain⟨r,ev⟩:=r;cases r with
    | ok a b=>exact D6 (D7 (fr:={fr with defers:=a++d}) h1 h2) λ_=>JZ AU _ c trivial
    | halt h b=>exact Ro
  · exact ol e (fr:={fr with defers:=_}) dy _ w h1 h2
  · split
    · trivial
    · split
      · trivial
      · split
        · exact D7 (Qh (h2 _ ET) _) (λx f=>h2 x (CN _ f))
        · split
          · split
            · exact D7 h1 Lm
            · split
              · exact D7 h1 Lm
              · trivial
              · trivial
          · split
            · exact Yb _ w h1
            · trivial
    · split
      · exact Xn main dy _ w h1 h2
      · generalize c:Sem.runT P _ w #[]=r
        obtain⟨r,ev⟩:=r;cases r with
        | ok a b=>exact D6 (Xn main dy a b h1 h2) λ_=>JZ (UT _ _) _ c trivial
        | halt h b=>cases h<;>exact Ro
theorem jH (m:OkP P)(d:Dying)(w:World)(h1:DI fr):(die P fr d w).fine:=by
  unfold die;split
  · rename_i f _
    cases l:f.pieces with
    | nil=>unfold writeOn;simp only[l];trivial
    | cons piece rest=>
      obtain⟨X,n,hF⟩:=UL (P:=P) fr d f piece rest l;have j:=Z5 n w #[] rfl Xw;rw[hF];generalize X.runT P w #[]=r at j;obtain⟨r,ev⟩:=r;cases r with
      | ok a b=>exact⟨⟨h1,Lm⟩,(λ_ h=>by cases h),λ_=>j.2 trivial⟩
      | halt h b=>cases h<;>first | exact D7 h1 Lm | trivial
  · split
    · split
      · exact D7 h1 Lm
      · unfold endWith
        dsimp only;repeat' first | trivial | split
    · dsimp only
      split
      · exact D7 h1 Lm
      · split
        · exact D7 h1 Lm
        · trivial
      · rename_i t recv name _
        have e:=Ns m (.fn (.method name) #[]) #[.iface t recv];generalize c:Sem.runT P _ w #[]=r;obtain⟨r,ev⟩:=r;cases r with
        | ok a b=>
          cases a
          case enter f args=>exact D6 (D7 (Ub _ _ _) Lm) λ_=>II e _ c trivial
          case value x=>
            cases x
            case string s=>exact D6 (D7 h1 Lm) λ_=>II e _ c trivial
            all_goals exact Ro
          all_goals exact Ro
        | halt h b=>
          cases h
          case panic v=>exact D6 (Yb v b h1) λ_=>II e _ c trivial
          all_goals exact Ro
      · trivial
theorem Wl (a:OkP P)(main:Bool)(g:Goroutine)(hg:OkG g)(w:World):(stepG P main g w).fine:=by
  unfold stepG;obtain⟨fr,cs,c,b,off⟩:=g;dsimp only;split
  · exact jH a _ w hg.1
  · exact fY a main _ w hg.1 hg.2
  · exact uv a main _ w hg.1 hg.2
end
open Go.Conc
def JD (gs:Array Goroutine):Prop:=∀g∈gs,g.status≠.blocked
abbrev GY (ready:List (Nat × CommCase × List Way)):Sem (Nat × CommCase × Way):=do
 let a <-choose (.select ready.length)
 let (k,c,ws):=ready.getD a (0,default,[])
 let b <-choose (.extern "which waiting goroutine is the partner" ws.length)
 pure (k,c,ws.getD b .closed)
section
variable {P : Program}{w : World}{gs gs' : Array Goroutine}
theorem Ic (h:JD gs)(r:Nat)(b:Bool):partners gs r b=[]:=by
 unfold partners;refine List.flatMap_eq_nil_iff.2 λx e=>?_
 obtain⟨g,i⟩:=x;have d:g∈gs:=by
  have c:=Array.mem_zipIdx (Array.mem_toList_iff.1 e);rw[c.2.2];exact Array.getElem_mem _
 have:=h g d
 dsimp only;split
 ·rename_i a _;exact absurd a this
 ·rfl
def zr0 {p:Prop}(h:p:=by
 split at hx
 ·simp at hx;subst hx;simp
 ·rw[Ic h] at hx
  dsimp only at hx;split at hx
  ·simp at hx;subst hx;simp
  ·simp at hx):p:=h
theorem OY (h:JD gs)(c:CommCase):ways w gs c=ways w #[] c/\∀x∈ways w gs c,∀a b,x≠.partner a b:=by
 have d:JD #[]:=λg e=>by simp at e
 constructor
 ·unfold ways
  split
  ·split
   ·split
    ·rfl
    ·rw[Ic h,Ic d]
   ·split
    ·rfl
    ·rw[Ic h,Ic d]
   ·rfl
  ·rfl
 ·intro x hx a b
  unfold ways at hx;split at hx
  ·split at hx
   ·exact zr0
   ·exact zr0
   ·simp at hx
  ·simp at hx
def Awe (ready:List (Nat × CommCase × List Way)):Calm P (GY ready):=Calm.bind Nl λ_=>Calm.bind Nl λ_=>Ad
theorem PY {ready:List (Nat × CommCase × List Way)}(hr:∀x∈ready,∀y∈x.2.2,∀a b,y≠.partner a b){k:Nat}{c:CommCase}{way:Way}{w':World}(h:(GY ready).run P w=.ok (k,c,way) w'):∀a b,way≠.partner a b:=by
 have key:∀(a b:Nat) (k:Nat) (c:CommCase) (d:List Way),ready.getD a (0,default,[])=(k,c,d)->∀x y,d.getD b .closed≠.partner x y:=by
  intro a b k c d e x y;have m:∀z∈d,∀x y,z≠.partner x y:=by
   rw[List.getD_eq_getElem?_getD] at e;cases f:ready[a]? with
   | none=>rw[f] at e;cases e;intro z j;simp at j
   | some q=>
    rw[f] at e;simp only[Option.getD_some] at e;intro z j;exact hr q (Hv f) z (by rw[e];exact j)
  rw[List.getD_eq_getElem?_getD];cases f:d[b]? with
  | none=>simp
  | some q=>exact m q (Hv f) x y
 have n:C3 P (λz:Nat × CommCase × Way=>∀a b,z.2.2≠.partner a b) 0 (GY ready):=by
  refine Em Nl λa=>?_
  generalize l:ready.getD a (0,default,[])=z;obtain⟨k,c,d⟩:=z;refine Em Nl λb=>Ib ?_
  exact key a b k c d l
 have:=LV (w:=w) (es:=#[]) n (k,c,way) ⟨w',by rw[Sem.runT_eq];exact h⟩
 exact this
def fin:Goroutine:={(default:Goroutine) with status:=.finished}
def Wq (P:Program)(g:Goroutine)(cs:Array CommCase)(b:Bool)(sh:CommShape)(w:World):GStep:=
 match communicate P {timers:=#[],alone:=none,slice:=none} #[fin] 0 g cs b sh w with
 | (.next m,_)=>.go (m.gs.getD 0 default) m.world
 | (.ended o w,_)=>.ended o w
def KJ (P:Program)(g:Goroutine)(cs:Array CommCase)(b:Bool)(sh:CommShape)(w:World):Array MemOp:=
 (communicate P {timers:=#[],alone:=none,slice:=none} #[fin] 0 g cs b sh w).2
theorem L9:JD #[fin]:=λg a=>by
 simp at a;subst a;simp[fin]
theorem LQ (rest:Rest)(h:rest.timers=#[])(cs:Array CommCase)(w:World):waitingAt rest cs w=some w:=by
 unfold waitingAt;have:timerAhead rest w.os.mono cs=false:=by
  unfold timerAhead;rw[h];rw[Array.any_eq_false];intro i hi;split<;>simp
 rw[this];rfl
def OA (h:JD gs)(l:List (CommCase × Nat)):∀x∈(l.map λ(c,k)=>(k,c,ways w gs c)).filter (λ(_,_,e)=>!e.isEmpty),∀y∈x.2.2,∀a b,y≠.partner a b:=by
 intro x f y d;obtain⟨z,_,rfl⟩:=List.mem_map.1 (List.mem_filter.1 f).1;exact(OY h z.1).2 y d
theorem VL {sl:Option (Nat × Nat)}(h:JD gs)(_h0:0<gs.size)(g:Goroutine)(cs:Array CommCase)(b:Bool)(sh:CommShape)(w:World):
  communicate P {timers:=#[],alone:=none,slice:=sl} gs 0 g cs b sh w=
   (match Wq P g cs b sh w with
    | .go p d _=>.next {world:=d,gs:=gs.setIfInBounds 0 p,rest:={timers:=#[],alone:=none,slice:=sl} }
    | .ended o d _=>.ended o d
    | _=>.ended default default,KJ P g cs b sh w):=by
 unfold Wq KJ;have n:∀c,ways w gs c=ways w #[fin] c:=λc=>((OY h c).1).trans ((OY L9 c).1).symm
 unfold communicate;simp only[n];have l:=OA (w:=w) L9 cs.zipIdx.toList;split
 ·rfl
 ·split
  ·split
   ·rw[LQ _ rfl,LQ _ rfl]
    simp
   ·simp
  ·generalize f:(List.filter _ _:List (Nat × CommCase × List Way))=ready
   have j:∀x∈ready,∀y∈x.2.2,∀a b,y≠.partner a b:=by rw[<-f];exact l
   cases q:(GY ready).run P w with
   | halt e d=>rfl
   | ok z d=>
    obtain⟨k,c,way⟩:=z;have m:=PY j q;dsimp only;cases way with
    | partner a b=>exact absurd rfl (m a b)
    | sendClosed=>
     dsimp only;cases s:(runtimePanic (.plain "send on closed channel"):Sem Unit).run P d with
     | ok a r=>rfl
     | halt e r=>cases e<;>first | rfl | simp
    | closed=>simp
    | buffer=>
     rw[Ic h,Ic L9];split<;>first | (simp;done) | (exfalso;simp_all;done)
end
section
variable {P : Program}{w : World}
def chanOf (c:CommCase):Nat:=match c.chan with | .chan (some r)=>r | _=>0
def IU (P:Program)(g:Goroutine)(cs:Array CommCase)(sh:CommShape)(k:Nat)(c:CommCase)(way:Way)(w:World):GStep:=
  match way with
  | .sendClosed=>match (runtimePanic (.plain "send on closed channel"):Sem Unit).run P w with
    | .halt (.panic v) w=>.go {g with frame:=g.frame.raise [{v,recovered:=false}]} w
    | _=>.ended (.stuck "communicate" "") w
  | .closed=>.go (g.finishComm P cs sh k c.zero false) w
  | .buffer=>match w.heap[chanOf c]?,c.send with
    | some (.chan cap a d s r b),some v=>.go (g.finishComm P cs sh k undef false) {w with heap:=w.heap.setIfInBounds (chanOf c) (.chan cap (a.push v) d (s+1) r b)}
    | some (.chan cap a d s r b),none=>.go (g.finishComm P cs sh k (a.getD 0 undef) true) {w with heap:=w.heap.setIfInBounds (chanOf c) (.chan cap (a.extract 1 a.size) d s (r+1) b)}
    | _,_=>.ended (.stuck "communicate: no such channel" "") w
  | _=>.ended (.stuck "communicate: no such channel" "") w
def K3 (P:Program)(g:Goroutine)(cs:Array CommCase)(sh:CommShape):Result (Nat × CommCase × Way)->GStep
  | .ok (k,c,way) a=>IU P g cs sh k c way a
  | .halt _ a=>.ended (.stuck "communicate" "") a
def Yp (cs:Array CommCase)(w:World):List (Nat × CommCase × List Way):=(cs.zipIdx.toList.map λ(c,k)=>(k,c,ways w #[fin] c)).filter λ(_,_,a)=>!a.isEmpty
theorem VM (g:Goroutine)(cs:Array CommCase)(b:Bool)(sh:CommShape)(w:World):
    (∃o,∀d:World,d.heap=w.heap->Wq P g cs b sh d=.ended o d)\/
    (∃f,f={g with status:=.blocked,offers:=some (cs,sh)}/\∀d:World,d.heap=w.heap->Wq P g cs b sh d=.go f d)\/
    (∃f,f=g.finishComm P cs sh (-1) undef false/\∀d:World,d.heap=w.heap->Wq P g cs b sh d=.go f d)\/
    (∀d:World,d.heap=w.heap->Wq P g cs b sh d=K3 P g cs sh ((GY (Yp cs w)).run P d)):=by
  have p:∀d:World,d.heap=w.heap->∀c,ways d #[fin] c=ways w #[fin] c:=λd h c=>by unfold ways;rw[h]
  have v:∀x∈Yp cs w,∀y∈x.2.2,∀a b,y≠.partner a b:=OA (w:=w) L9 cs.zipIdx.toList;by_cases j:cs.any (λc=>match c.chan with | .chan none=>false | .chan (some r)=>!(w.heap[r]? matches some (.chan ..)) | _=>true)=true
  · refine .inl ⟨.stuck "a communication at a channel whose block is no channel's" (g.frame.pos P),λd h=>?_⟩
    unfold Wq communicate;rw[h];dsimp only;split
    · rename_i e;split at e
      · cases e
      · rename_i n;exact absurd j n
    · rename_i e;split at e
      · cases e;rfl
      · rename_i n;exact absurd j n
  · by_cases q:(Yp cs w).isEmpty=true
    · cases b
      · refine .inr (.inr (.inl ⟨_,rfl,λd h=>?_⟩))
        unfold Wq communicate;simp only[p d h];rw[h];refine(congrArg (λx:Stepped × Array MemOp=>match x with | (.next m,_)=>GStep.go (m.gs.getD 0 default) m.world | (.ended o w,_)=>.ended o w) ((if_neg j).trans (if_pos q))).trans ?_;simp
      · refine .inr (.inl ⟨_,rfl,λd h=>?_⟩)
        unfold Wq communicate;simp only[p d h];rw[h];refine(congrArg (λx:Stepped × Array MemOp=>match x with | (.next m,_)=>GStep.go (m.gs.getD 0 default) m.world | (.ended o w,_)=>.ended o w) ((if_neg j).trans (if_pos q))).trans ?_;rw[LQ _ rfl];simp
    · refine .inr (.inr (.inr λd h=>?_))
      unfold Wq communicate;simp only[p d h];rw[h];refine(congrArg (λx:Stepped × Array MemOp=>match x with | (.next m,_)=>GStep.go (m.gs.getD 0 default) m.world | (.ended o w,_)=>.ended o w) ((if_neg j).trans (if_neg q))).trans ?_;generalize u:(List.filter _ _:List (Nat × CommCase × List Way))=ready;obtain rfl:Yp cs w=ready:=u;cases B:(GY (Yp cs w)).run P d with
      | halt s l=>rfl
      | ok z l=>
        obtain⟨k,c,way⟩:=z;have A:=PY v B;cases way with
        | partner a b=>exact absurd rfl (A a b)
        | sendClosed=>
          simp only[K3,IU];cases (runtimePanic (.plain "send on closed channel"):Sem Unit).run P l with
          | ok a C=>rfl
          | halt s C=>cases s<;>rfl
        | closed=>rfl
        | buffer=>
          simp only[K3,IU];rw[Ic L9]
          cases D:c.send<;>(cases t:c.chan<;>first
            | (rename_i o
               cases o<;>simp only[chanOf,t]<;>(generalize (l.heap[(_:Nat)]?:Option Obj)=o;rcases o with _ | o<;>first | rfl | (cases o<;>first | rfl | simp)))
            | (simp only[chanOf,t];(generalize (l.heap[(_:Nat)]?:Option Obj)=o;rcases o with _ | o<;>first | rfl | (cases o<;>first | rfl | simp))))
end
section
variable {g:Goroutine}
variable {P : Program}{w : World}
def _root_.Go.GStep.put (w:World):GStep->GStep:=GStep.turn λ_=>w
theorem G6.next {F:World->GStep}(nxt:GStep->GStep)(hF:G6 F w)(h:G6 (λr=>nxt ((F w).put r)) (F w).w)(v:(nxt (F w)).cont->(F w).cont):G6 (λw=>nxt (F w)) w:=by
 obtain⟨h1,d,K,z,t,o⟩:=hF;have y:(F w).put (F w).w=F w:=by cases F w<;>rfl
 obtain⟨f,b,L,n,l,m⟩:=h;simp only[y] at f b n l m;refine⟨f.trans h1,CM d b,max K L,CM n (M6 _ _),λc=>?_,fun a s e j hA=>?_⟩
 ·rw[t (v c),l c]
  exact Nat.max_eq_right b
 ·have x:=o a s e j (hA.mono (K7 _ _))
  have q:=m a s e (CM j d) yFc;have u:(F w).turn (rt a s e)=(F w).put (rt a s e (F w).w):=by cases F w<;>rfl
  simp only[x];rw[u];exact q
theorem Azi (g:Goroutine)(cs:Array CommCase)(sh:CommShape)(k:Nat)(c:CommCase)(way:Way)(w:World):G6 (λw=>IU P g cs sh k c way w) w:=by
 unfold IU;cases way with
 | partner a b=>exact(A7 _ _).loc w
 | closed=>exact(D8 _ _).loc w
 | sendClosed=>
  have n:=Calm.loc (Qp (P:=P) (α:=Unit) (.plain "send on closed channel")) w #[];have e:∀w,(runtimePanic (.plain "send on closed channel"):Sem Unit).run P w=((runtimePanic (.plain "send on closed channel"):Sem Unit).runT P w #[]).1:=λw=>by rw[Sem.runT_eq]
  simp only[e];generalize l:(runtimePanic (.plain "send on closed channel"):Sem Unit).runT P w #[]=r;obtain⟨r,ev⟩:=r;cases r with
  | ok a q=>exact G6.caseOld n l (A7 (.stuck "communicate" "") #[]) (λw c=>c) λu t h=>by simp only[h,Result.put]
  | halt h q=>
   cases h
   case panic v=>exact G6.case n l ((D8 {g with frame:=g.frame.raise [{v,recovered:=false}]} #[]).loc q) (λ_ x=>x) λu t h=>by simp only[h,Result.put]
   all_goals exact G6.caseOld n l (A7 (.stuck "communicate" "") #[]) (λw c=>c) λu t h=>by simp only[h,Result.put]
 | buffer=>
  refine G6.const ?_ ?_ fun p s e _=>?_
  ·dsimp only
   split<;>rfl
  ·dsimp only
   split<;>rfl
  ·dsimp only
   show(match w.heap[chanOf c]?,c.send with
    | some (.chan cap d j m r f),some v=>GStep.go (g.finishComm P cs sh k undef false) {rt p s e w with heap:=w.heap.setIfInBounds (chanOf c) (.chan cap (d.push v) j (m+1) r f)}
    | some (.chan cap d j m r f),none=>GStep.go (g.finishComm P cs sh k (d.getD 0 undef) true) {rt p s e w with heap:=w.heap.setIfInBounds (chanOf c) (.chan cap (d.extract 1 d.size) j m (r+1) f)}
    | _,_=>GStep.ended (.stuck "communicate: no such channel" "") (rt p s e w))=_
   rcases w.heap[chanOf c]? with _ | o
   ·cases c.send<;>rfl
   ·cases o<;>cases c.send<;>rfl
theorem Azh (g:Goroutine)(cs:Array CommCase)(b:Bool)(sh:CommShape)(w:World):G6 (λw=>Wq P g cs b sh w) w:=by
 rcases VM (P:=P) g cs b sh w with⟨o,h⟩ | ⟨f,_,h⟩ | ⟨f,_,h⟩ | h
 ·exact((A7 o #[]).loc w).like (h w rfl) fun d s e=>h _ rfl
 ·exact((D8 f #[]).loc w).like (h w rfl) fun d s e=>h _ rfl
 ·exact((D8 f #[]).loc w).like (h w rfl) fun d s e=>h _ rfl
 ·refine G6.like (G:=λj=>K3 P g cs sh ((GY (Yp cs w)).run P j)) ?_ (h w rfl) fun d s e=>h _ rfl
  refine G6.bindR (P:=P) (x:=GY (Yp cs w)) (K3 P g cs sh) (Calm.loc (Awe _) w #[]) ?_ ?_
  ·generalize Sem.run P _ w=r
   cases r with
   | ok a w'=>obtain⟨k,c,way⟩:=a;exact Azi g cs sh k c way w'
   | halt h w'=>exact(A7 _ _).loc _
  ·exact zk0
def Qz (h:OkG g)(cs:Array CommCase)(sh:CommShape)(k:Int)(v:Value)(ok:Bool):OkG (g.finishComm P cs sh k v ok):=⟨Jp h.1 _,h.2⟩
theorem Av7 (hg:OkG g)(hr:g.status=.running)(cs:Array CommCase)(b:Bool)(sh:CommShape)(w:World):(∃o d,Wq P g cs b sh w=.ended o d)\/∃e d,Wq P g cs b sh w=.go e d/\OkG e/\∀t,e.status≠.sleeping t:=by
 have j:∀k c way w,(∃o d,IU P g cs sh k c way w=.ended o d)\/∃e d,IU P g cs sh k c way w=.go e d/\OkG e/\∀t,e.status≠.sleeping t:=by
  intro k c way w;unfold IU;have f:∀(k:Int) v ok,∀t,(g.finishComm P cs sh k v ok).status≠.sleeping t:=λ_ _ _ _ h=>by cases h
  cases way with
  | partner a b=>exact .inl ⟨_,_,rfl⟩
  | closed=>exact .inr ⟨_,_,rfl,Qz hg _ _ _ _ _,f _ _ _⟩
  | sendClosed=>
   dsimp only;split
   ·exact .inr ⟨_,_,rfl,⟨Qh hg.1 _,hg.2⟩,λt h=>by rw[show g.status=_ from h] at hr;cases hr⟩
   ·exact .inl ⟨_,_,rfl⟩
  | buffer=>
   dsimp only;split
   ·exact .inr ⟨_,_,rfl,Qz hg _ _ _ _ _,f _ _ _⟩
   ·exact .inr ⟨_,_,rfl,Qz hg _ _ _ _ _,f _ _ _⟩
   ·exact .inl ⟨_,_,rfl⟩
 rcases VM (P:=P) g cs b sh w with⟨o,h⟩ | ⟨e,rfl,h⟩ | ⟨e,rfl,h⟩ | h
 ·exact .inl ⟨_,_,h w rfl⟩
 ·exact .inr ⟨_,_,h w rfl,hg,λt h=>by cases h⟩
 ·exact .inr ⟨_,_,h w rfl,Qz hg _ _ _ _ _,λt h=>by cases h⟩
 ·rw[h w rfl]
  generalize (GY (Yp cs w)).run P w=r;cases r with
  | ok a d=>obtain⟨k,c,way⟩:=a;exact j k c way d
  | halt h d=>exact .inl ⟨_,_,rfl⟩
end
