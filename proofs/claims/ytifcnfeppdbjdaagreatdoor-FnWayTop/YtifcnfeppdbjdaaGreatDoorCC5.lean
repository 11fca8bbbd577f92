import Derived.Test.YtifcnfeppdbjdaaGreatDoorCB9
namespace Go.Co
def EH (cs:List Frame):Prop:=∀c∈cs,DJ c
def _root_.Go.GStep.fine:GStep->Prop
 | .go g _ a=>OkG g/\(∀t,g.status≠.sleeping t)/\(g.status=.running->deafBehind 0 a=0)
 | .comm g _ _ _ _ a=>OkG g/\g.status=.running/\deafBehind 0 a=0
 | .coroswitch g _ _ _ a=>OkG g/\deafBehind 0 a=0
 | .spawn .. | .ended ..=>True
 | _=>False
section
variable {cs:List Frame}{fr:Frame}
variable {P : Program}{w : World}
theorem PY (es a:Array Event)(h:deafBehind 0 es=0):deafBehind 0 (es++a)=deafBehind 0 a:=by
 unfold deafBehind at*;rw[Array.foldl_append,h]
theorem D6 {es:Array Event}{x:GStep}(h:x.fine)(hd:x.cont->deafBehind 0 es=0):(GStep.after es x).fine:=by
 cases x with
 | go g w a=>exact⟨h.1,h.2.1,λd=>by rw[PY _ _ (hd d)];exact h.2.2 d⟩
 | comm g c b e w a=>exact⟨h.1,h.2.1,by rw[PY _ _ (hd trivial)];exact h.2.2⟩
 | coroswitch g c b w a=>exact⟨h.1,by rw[PY _ _ (hd trivial)];exact h.2⟩
 | spawn g c w a=>trivial
 | ended o w a=>trivial
 | _=>exact h
theorem D7 {st:GoStatus}{dy:Option Dying}(h1:DJ fr)(h2:EH cs)(hst:∀t,st≠.sleeping t:=by intro _ h;cases h):(GStep.go {frame:=fr,callers:=cs,status:=st,dying:=dy} w).fine:=⟨⟨h1,h2⟩,hst,λ_=>rfl⟩
theorem Lh:EH []:=λ_ h=>by cases h
theorem Ob (h1:DJ fr)(a:EH cs):EH (fr::cs):=λc b=>(List.mem_cons.1 b).elim (λe=>e ▸ h1) (a c)
theorem P9 (h:DJ fr)(vs:List PanicEntry):DJ (fr.raise vs):=by
 unfold Frame.raise;split<;>exact h
theorem Tj (f:FuncId)(args:Array Value)(k:CallKind):DJ (Frame.enter P f args k):=by
 intro i hi;simp only[Frame.enter,oY] at hi;subst hi;trivial
theorem Wc (l:Nat)(f:FuncId)(t:Array Value)(a b:Code)(k:CallKind):DJ (Frame.round l f t a b k):=by
 intro i hi;simp only[Frame.round,DF,Da,DK] at hi;rcases hi with rfl | rfl | rfl<;>trivial
theorem ZJ (args:Array Value)(k:CallKind):DJ (Frame.ofRow P "runtime.print$piece" args k):=by
 intro i hi;simp only[Frame.ofRow,oY] at hi;subst hi;rfl
theorem Jt (h:DJ fr)(v:Value):DJ (fr.finish v):=by
 unfold Frame.finish;unfold DJ at h;split
 ·rename_i f i rest k e
  rw[e] at h;intro j c;rcases List.mem_cons.1 c with rfl | c
  ·trivial
  ·exact h j (CQ _ c)
 ·rename_i l k e
  rw[e] at h;intro j c;rcases List.mem_cons.1 c with rfl | c
  ·trivial
  ·exact h j (CQ _ c)
 ·rename_i k e
  rw[e] at h;exact λj c=>h j (CQ _ c)
 ·rename_i d b r s k e
  rw[e] at h;intro j c;rcases List.mem_cons.1 c with rfl | c
  ·exact h (.call d b r s) E4
  ·exact h j (CQ _ c)
 ·rename_i r a k e
  rw[e] at h;exact λj c=>h j (CQ _ c)
 ·exact h
theorem U1:∀{fr:Frame} {cs:List Frame} {v:Value} {a:List Frame},EH cs->tryRecover fr cs=some (v,a)->EH a:=by
 intro fr cs;induction cs generalizing fr with
 | nil=>
  intro v a _ h;unfold tryRecover at h;cases d:fr.kind<;>simp[d] at h
 | cons c cs m=>
  intro v a f h;have e:=f c E4;have j:EH cs:=λx l=>f x (CQ _ l)
  unfold tryRecover at h;cases d:fr.kind<;>simp only[d] at h
  case deferred=>
   split at h
   ·cases h
    exact Ob e j
   ·cases h
  case wrapped=>
   cases b:tryRecover c cs with
   | none=>rw[b] at h;cases h
   | some x=>
    rw[b] at h;obtain⟨o,n⟩:=x;cases h;exact Ob e (m j b)
  all_goals cases h
theorem oy:∀{l:Nat} {cs:List Frame} {v:Value} {b:List Frame},EH cs->tryRecoverLoop l cs=some (v,b)->EH b:=by
 intro l cs;induction cs generalizing l with
 | nil=>intro v b _ h;cases h
 | cons c cs e=>
  intro v b f h;have j:=f c E4;have d:EH cs:=λx a=>f x (CQ _ a)
  unfold tryRecoverLoop at h;obtain⟨x,a,m⟩:=Option.map_eq_some_iff.1 h;obtain⟨n,o⟩:=x;cases m;refine Ob j ?_;split at a
  ·exact e d a
  ·split at a
   ·exact U1 d a
   ·exact e d a
  ·exact e d a
theorem Wx (main:Bool)(dy:Option Dying)(v:Value)(w:World)(h1:DJ fr)(h2:EH cs):(doReturn P main fr cs dy v w).fine:=by
 unfold doReturn;cases cs with
 | cons c cs=>
  have a:=h2 c E4;have b:EH cs:=λx d=>h2 x (CQ _ d)
  dsimp only;split
  ·exact D7 (Jt a v) b
  ·exact D7 (Jt a v) b
  ·exact D7 a b
  ·refine D7 ?_ b
   split
   ·split<;>exact a
   ·exact a
 | nil=>
  dsimp only;split
  ·exact D7 h1 Lh
  ·trivial
  ·split
   ·exact D7 h1 Lh
   ·split
    ·exact D7 (Tj _ _ _) Lh
    ·trivial
theorem Vx (l:List ByteArray)(m:String)(b:Bool)(w:World)(h:DJ fr):(dieOf fr l m b w).fine:=D7 h Lh
theorem Xu (v:Value)(w:World)(h:DJ fr):(endPrinting P fr v w).fine:=by
 unfold endPrinting;dsimp only;split
 ·exact Vx _ _ _ w h
 ·trivial
theorem TB (a:Option Dying)(m:String)(w:World)(h:DJ fr):(endFatal P fr cs a m w).fine:=by
 unfold endFatal;dsimp only;split
 ·exact Vx _ _ _ _ h
 ·trivial
 ·trivial
theorem Avq (dy:Option Dying)(g:Nat)(w:World)(h1:DJ fr)(h2:EH cs):(early P fr cs dy g w).fine:=by
 have a:∀w:World,(match w.heap[g]? with
   | some (.pending c elem)=>GStep.go {frame:=fr,callers:=cs,status:=.running,dying:=dy} {w with heap:=w.heap.setIfInBounds g (.cells c elem)}
   | _=>.ended (.stuck "early: the variable does not wait" (fr.pos P)) w).fine:=by
  intro w;split
  ·exact D7 h1 h2
  ·trivial
 have d:∀(f:FuncId) (w:World) (l:List FuncId),(GStep.go {frame:=Frame.enter P f #[] .early,callers:=l.map (Frame.enter P · #[] .early)++fr::cs,status:=.running,dying:=dy} w).fine:=by
  intro f w l;refine D7 (Tj _ _ _) λc b=>?_
  rcases List.mem_append.1 b with b | b
  ·obtain⟨x,_,rfl⟩:=List.mem_map.1 b
   exact Tj _ _ _
  ·exact Ob h1 h2 c b
 unfold early;dsimp only;split
 ·exact a w
 ·split
  ·trivial
  ·split
   ·exact a w
   ·split
    ·exact a w
    ·split
     ·trivial
     ·exact d _ _ _
     ·trivial
     ·exact a w
     ·split
      ·exact d _ _ _
      ·split
       ·exact a w
       ·split
        ·exact a _
        ·exact d _ _ _
        ·trivial
theorem Xh:Yz #[]:=λ_ h=>by simp at h
theorem Tq (dy:Option Dying){x:Sem Next}(w:World)(h1:DJ fr)(h2:EH cs)(hx:C2 P Xy 0 x):(stepG.apply P true fr cs dy x w).fine:=by
 have s:=LN (w:=w) (es:=#[]) hx;have p:=Zl hx w #[] rfl Xh;rw[Z3];generalize D:x.runT P w #[]=r at s p;obtain⟨r,ev⟩:=r;have j:∀es:Array Event,(es=#[]\/es=ev)->(es=ev->Zy r)->deafBehind 0 (seen P fr.fn (if fr.kind==.early then #[] else es))=0:=by
  intro es B y;split
  ·rfl
  ·rcases B with rfl | rfl
   ·rfl
   ·rw[PP _ _ p.1];exact p.2 (y rfl)
 cases r with
 | ok a e=>
  refine D6 ?_ λ_=>j _ (.inr rfl) λ_=>trivial
  have q:=s a ⟨e,rfl⟩;unfold stepG.apply;simp only[JY,if_true,Sem.runT,ite_self,I8,Hq,Result.w];cases a<;>first | exact q.elim | skip
  case value v=>exact D7 (Jt h1 v) h2
  case skip=>exact D7 (Jt h1 _) h2
  case enter f args=>exact D7 (Tj _ _ _) (Ob h1 h2)
  case round l f t a b=>exact D7 (Wc _ _ _ _ _ _) (Ob h1 h2)
  case defer d=>exact D7 (Jt (fr:={fr with defers:=d::fr.defers}) h1 _) h2
  case recover=>
   dsimp only;split
   ·rename_i v E n
    refine D7 (Jt h1 _) ?_;split at n
    ·split at n
     ·exact U1 h2 n
     ·exact oy h2 n
    ·exact U1 h2 n
   ·exact D7 (Jt h1 _) h2
  case spawn d=>
   dsimp only;split<;>split<;>first | exact Vx _ _ _ _ h1 | trivial
  case comm c b G=>exact⟨⟨h1,h2⟩,rfl,rfl⟩
  case coroswitch c b=>exact⟨⟨h1,h2⟩,rfl⟩
  case row r args=>
   obtain rfl:r= "runtime.print$piece" :=q;dsimp only;split
   ·rename_i C F k A
    refine D7 ?_ h2;intro i hi;rcases List.mem_cons.1 hi with rfl | hi
    ·rfl
    ·exact h1 i (by rw[A];exact CQ _ hi)
   ·exact D7 (ZJ _ _) (Ob h1 h2)
 | halt h e=>
  have o:∀h:Halt,I3 h->∀es,(stepG.apply P true fr cs dy (.halt h) e).cont->deafBehind 0 es=0:=λh z es c=>absurd z (Ym fr cs dy h e c)
  cases h
  case panic v=>
   refine D6 ?_ λ_=>j _ (.inr rfl) λ_=>trivial
   show(stepG.apply P true fr cs dy (.halt (.panic v)) e).fine
   unfold stepG.apply;simp only[if_true,Sem.runT,ite_self,I8,Hq];exact D7 (P9 h1 _) h2
  case goexit=>
   refine D6 ?_ λ_=>j _ (.inr rfl) λ_=>trivial
   show(stepG.apply P true fr cs dy (.halt .goexit) e).fine
   unfold stepG.apply;simp only[if_true,Sem.runT,ite_self,I8,Hq];exact D7 (P9 h1 _) h2
  case blocked=>
   refine D6 ?_ (o .blocked trivial _);show(stepG.apply P true fr cs dy (.halt .blocked) e).fine
   unfold stepG.apply;simp only[if_true,Sem.runT,ite_self,I8,Hq];exact D7 h1 h2
  case waiting=>
   refine D6 ?_ (o .waiting trivial _);show(stepG.apply P true fr cs dy (.halt .waiting) e).fine
   unfold stepG.apply;simp only[if_true,Sem.runT,ite_self,I8,Hq];exact D7 h1 h2
  case exit c=>
   refine D6 ?_ λ_=>j _ (.inr rfl) λ_=>trivial
   show(stepG.apply P true fr cs dy (.halt (.exit c)) e).fine
   unfold stepG.apply;simp only[if_true,Sem.runT,ite_self,I8,Hq];trivial
  case fatal m=>
   refine D6 ?_ λ_=>j _ (.inr rfl) λ_=>trivial
   show(stepG.apply P true fr cs dy (.halt (.fatal m)) e).fine
   unfold stepG.apply;simp only[if_true,Sem.runT,ite_self,I8,Hq];exact TB dy m e h1
  case throw m=>
   refine D6 ?_ λ_=>j _ (.inr rfl) λ_=>trivial
   show(stepG.apply P true fr cs dy (.halt (.throw m)) e).fine
   unfold stepG.apply;simp only[if_true,Sem.runT,ite_self,I8,Hq];exact Vx _ _ _ e h1
  case stuck m=>
   refine D6 ?_ (o (.stuck m) trivial _);show(stepG.apply P true fr cs dy (.halt (.stuck m)) e).fine
   unfold stepG.apply;simp only[if_true,Sem.runT,ite_self,I8,Hq];trivial
  case unsupported u=>
   by_cases hi:∃g,u=.initOrder g
   ·obtain⟨g,rfl⟩:=hi
    refine D6 ?_ λ_=>by show deafBehind 0 (seen P fr.fn (if fr.kind==.early then #[] else #[]))=0;split<;>rfl
    show(stepG.apply P true fr cs dy (.halt (.unsupported (.initOrder g))) e).fine
    unfold stepG.apply;simp only[if_true,Sem.runT,ite_self,I8,Hq];exact Avq dy g e h1 h2
   ·refine D6 ?_ (o (.unsupported u) (by cases u<;>first | trivial | exact absurd ⟨_,rfl⟩ hi) _)
    show(stepG.apply P true fr cs dy (.halt (.unsupported u)) e).fine
    unfold stepG.apply;cases u<;>first
     | exact absurd ⟨_,rfl⟩ hi
     | (simp only[if_true,Sem.runT,ite_self,I8,Hq];trivial)
end
section
variable {cs:List Frame}{ev:Array Event}{fr:Frame}{i:Item}{k:List Item}
variable {P : Program}{w : World}
theorem JR {α:Type}{x:Sem α}(hx:Calm P x)(fn:FuncId){r:Result α}(hr:x.runT P w #[]=(r,ev))(hg:Zy r):deafBehind 0 (seen P fn ev)=0:=by
  have a:=Zl hx w #[] rfl Xh;rw[hr] at a;rw[PP _ _ a.1];exact a.2 hg
theorem Hv {x:Sem Next}(hx:C2 P Xy 0 x)(fn:FuncId){r:Result Next}(hr:x.runT P w #[]=(r,ev))(hg:Zy r):deafBehind 0 (seen P fn ev)=0:=by
  have a:=Zl hx w #[] rfl Xh;rw[hr] at a;rw[PP _ _ a.1];exact a.2 hg
theorem Rf {o:Outcome}{es a:Array Event}:(GStep.after es (.ended o w a)).fine:=trivial
theorem Ip (h:DJ fr)(a:fr.todo=i::k):∀j∈k,Xp j:=λj b=>h j (by rw[a];exact CQ _ b)
theorem Ko {c:Code}(h:∀j∈k,Xp j):∀j∈Item.code c::k,Xp j:=λj a=>(List.mem_cons.1 a).elim (λe=>e ▸ trivial) (h j)
theorem J9 (hi:Xp i)(h:∀j∈k,Xp j):∀j∈i::k,Xp j:=λj a=>(List.mem_cons.1 a).elim (λe=>e ▸ hi) (h j)
theorem sU {f:Nat}:∀{k a:List Item},(∀j∈k,Xp j)->exitTo f k=some a->∀j∈a,Xp j:=by
  intro k;induction k with
  | nil=>intro a _ h;cases h
  | cons i k c=>
    intro a d h;have b:=λj e=>d j (CQ _ e)
    cases i<;>simp only[exitTo] at h<;>first
      | exact c b h
      | (split at h
         · cases h;exact b
         · exact c b h)
theorem r7 {l:Nat}:∀{k a:List Item},(∀j∈k,Xp j)->gotoIn l k=some a->∀j∈a,Xp j:=by
  intro k;induction k with
  | nil=>intro a _ h;cases h
  | cons i k c=>
    intro a d h;have b:=λj e=>d j (CQ _ e)
    cases i<;>simp only[gotoIn] at h<;>first
      | exact c b h
      | (split at h
         · cases h;exact Ko (J9 trivial b)
         · exact c b h)
theorem Avp (main:Bool)(dy:Option Dying)(jump:Option Code)(w:World)(h1:DJ fr)(h2:EH cs):(
      match fr.roundOf with
      | none=>if jump matches none | some .ret then GStep.go {frame:={fr with mode:=.returning},callers:=cs,status:=.running,dying:=dy} w else .ended (.stuck "exit, goto: no such block or label" (fr.pos P)) w
      | some l=>
        let (r,es):=(Instr.endRound l jump).runT P w #[]
        GStep.after (seen P fr.fn es)<| match r with
        | .ok v w=>doReturn P main fr cs dy v w
        | .halt _ w=>.ended (.stuck "range over a function: no such loop" (fr.pos P)) w).fine:=by
  cases fr.roundOf with
  | none=>
    dsimp only;split<;>split<;>first | exact D7 h1 h2 | trivial
  | some l=>
    dsimp only;generalize b:Sem.runT P _ w #[]=r;obtain⟨r,ev⟩:=r;cases r with
    | ok v a=>exact D6 (Wx main dy v a h1 h2) λ_=>JR AU _ b trivial
    | halt h a=>exact D6 trivial λc=>c.elim
theorem ei (c:OkP P)(a:Option Dying)(w:World)(h1:DJ fr)(b:EH cs):(stepG.oper P true fr cs a w).fine:=by
  unfold stepG.oper;split
  · trivial
  · split
    · exact Tq a w h1 b (Ei AU λ_=>Ei AU λ_=>Ii trivial)
    · exact Tq a w h1 b (WM c _ _)
theorem ek (q:OkP P)(main:Bool)(dy:Option Dying)(w:World)(h1:DJ fr)(h2:EH cs):(stepG.exec P main true fr cs dy w).fine:=by
  have n:=λj=>Avp (P:=P) main dy j w h1 h2
  have d:∀todo:List Item,(∀j∈todo,Xp j)->(GStep.go {frame:={fr with todo},callers:=cs,status:=.running,dying:=dy} w).fine:=λtodo h=>D7 (fr:={fr with todo}) h h2
  unfold stepG.exec;dsimp only;split
  · exact n none
  · exact n (some .ret)
  · rename_i b;exact d _ (Ip h1 b)
  · rename_i b;exact d _ (Ip h1 b)
  · rename_i b;exact d _ (Ip h1 b)
  · rename_i b;exact d _ (Ip h1 b)
  · rename_i b;exact d _ (Ko (Ko (Ip h1 b)))
  · rename_i b
    split
    · exact d _ (Ko (Ip h1 b))
    · trivial
  · rename_i b;exact d _ (Ko (J9 trivial (Ip h1 b)))
  · rename_i b;exact d _ (Ko (J9 trivial (Ip h1 b)))
  · rename_i b;exact d _ (Ko (J9 trivial (Ip h1 b)))
  · rename_i b;exact d _ (Ko (J9 trivial (Ip h1 b)))
  · rename_i s k b
    cases u:exitTo s k with
    | none=>exact n (some (.exit s))
    | some t=>exact d _ (sU (Ip h1 b) u)
  · rename_i l k b
    cases u:gotoIn l k with
    | none=>exact n (some (.goto l))
    | some t=>exact d _ (r7 (Ip h1 b) u)
  · rename_i f A assign body k b
    generalize m:Sem.runT P _ w #[]=r;obtain⟨r,ev⟩:=r;cases r with
    | ok a o=>
      obtain⟨l,x⟩:=a;exact D6 (Tq (fr:={fr with todo:=.inRangeFunc l::k,defers:=x++fr.defers}) dy o (J9 trivial (Ip h1 b)) h2 (Ei AU λ_=>Nk q _ _)) λ_=>JR AU _ m trivial
    | halt h o=>exact D6 trivial λc=>c.elim
  · trivial
  · refine Tq dy w h1 h2 (Ei ?_ λ_=>Ii trivial)
    cases fr.roundOf with
    | none=>exact Ec
    | some l=>exact Rl l
  · rename_i l k b
    generalize m:Sem.runT P _ w #[]=r;obtain⟨r,ev⟩:=r;cases r with
    | ok jump o=>
      refine D6 (D7 (fr:={fr with todo:=(jump.map Item.code).toList++k}) ?_ h2) λ_=>JR AU _ m trivial
      intro j e;rcases List.mem_append.1 e with e | e
      · cases jump with
        | none=>simp at e
        | some c=>simp at e;subst e;trivial
      · exact Ip h1 b j e
    | halt h o=>
      cases h
      case panic v=>exact D6 (D7 (P9 h1 _) h2) λ_=>JR AU _ m trivial
      all_goals exact D6 trivial λc=>c.elim
  · trivial
  · exact Tq dy w h1 h2 (Nk q _ _)
  · rename_i row args k b
    have y:row= "runtime.print$piece" :=h1 (.extern row args) (by rw[b];exact E4);subst y;rw[Vn];exact Tq dy w h1 h2 (OX _ _ _)
  · rename_i s z draw k b
    split
    · exact d _ (J9 trivial (Ip h1 b))
    · split
      · exact D7 (fr:={fr with todo:=.inRegion z _::k}) (J9 trivial (Ip h1 b)) h2
      · trivial
  · rename_i b;exact d _ (Ip h1 b)
  · split
    · exact ei q dy w h1 h2
    · exact D7 (Jt h1 _) h2
theorem od (q:OkP P)(dy:Option Dying)(d:Deferred)(w:World)(h1:DJ fr)(h2:EH cs):(callDeferred P fr cs dy d w).fine:=by
  have e:=Nk q d.target d.args;have p:=LN (w:=w) (es:=#[]) e;unfold callDeferred;dsimp only;split<;>split<;>(try trivial)
  all_goals
    generalize j:Sem.runT P _ w #[]=r at p;obtain⟨r,ev⟩:=r;cases r with
    | ok a n=>
      refine D6 ?_ λ_=>Hv e _ j trivial
      have o:=p a ⟨n,rfl⟩;cases a<;>first | exact o.elim | skip
      case value v=>exact D7 h1 h2
      case skip=>exact D7 h1 h2
      case enter f args=>exact D7 (Tj _ _ _) (Ob h1 h2)
      case round l f t a b=>exact D7 (Wc _ _ _ _ _ _) (Ob h1 h2)
      case defer d=>exact D7 h1 h2
      case spawn d=>exact D7 h1 h2
      case comm c b x=>exact D7 h1 h2
      case row r args=>
        obtain rfl:r= "runtime.print$piece" :=o;exact D7 (ZJ _ _) (Ob h1 h2)
      case recover=>
        dsimp only;split
        · rename_i s;exact D7 h1 (U1 h2 s)
        · exact D7 h1 h2
      case coroswitch c b=>
        cases b
        · trivial
        · exact⟨⟨h1,h2⟩,rfl⟩
    | halt h n=>
      cases h
      case panic v=>exact D6 (D7 (P9 h1 _) h2) λ_=>Hv e _ j trivial
      case goexit=>exact D6 (D7 (P9 h1 _) h2) λ_=>Hv e _ j trivial
      case blocked=>exact D6 (D7 (fr:={fr with defers:=d::fr.defers}) h1 h2) λc=>by cases c
      case waiting=>exact D6 (D7 (fr:={fr with defers:=d::fr.defers}) h1 h2) λc=>by cases c
      case exit c=>exact Rf
      case fatal m=>exact D6 (TB dy m n h1) λ_=>Hv e _ j trivial
      case throw m=>exact D6 (Vx _ _ _ n h1) λ_=>Hv e _ j trivial
      case stuck m=>exact Rf
      case unsupported u=>exact Rf
theorem uh (f:OkP P)(main:Bool)(dy:Option Dying)(w:World)(h1:DJ fr)(h2:EH cs):(unwind P main fr cs dy w).fine:=by
  unfold unwind;split
  · rename_i block _ e _
    generalize c:Sem.runT P _ w #[]=r;obtain⟨r,ev⟩:=r;cases r with
    | ok a b=>exact D6 (D7 (fr:={fr with defers:=a++e}) h1 h2) λ_=>JR AU _ c trivial
    | halt h b=>exact Rf
  · exact od f (fr:={fr with defers:=_}) dy _ w h1 h2
  · split
    · trivial
    · split
      · trivial
      · split
        · exact D7 (P9 (h2 _ E4) _) (λx d=>h2 x (CQ _ d))
        · split
          · split
            · exact D7 h1 Lh
            · split
              · exact D7 h1 Lh
              · trivial
              · trivial
          · split
            · exact Xu _ w h1
            · trivial
    · split
      · exact Wx main dy _ w h1 h2
      · generalize c:Sem.runT P _ w #[]=r
        obtain⟨r,ev⟩:=r;cases r with
        | ok a b=>exact D6 (Wx main dy a b h1 h2) λ_=>JR (TQ _ _) _ c trivial
        | halt h b=>cases h<;>exact Rf
theorem ip (m:OkP P)(d:Dying)(w:World)(h1:DJ fr):(die P fr d w).fine:=by
  unfold die;split
  · rename_i f _
    cases j:f.pieces with
    | nil=>unfold writeOn;simp only[j];trivial
    | cons piece rest=>
      obtain⟨X,n,hF⟩:=TV (P:=P) fr d f piece rest j;have l:=Zl n w #[] rfl Xh;rw[hF];generalize X.runT P w #[]=r at l;obtain⟨r,ev⟩:=r;cases r with
      | ok a b=>exact⟨⟨h1,Lh⟩,(λ_ h=>by cases h),λ_=>l.2 trivial⟩
      | halt h b=>cases h<;>first | exact D7 h1 Lh | trivial
  · split
    · split
      · exact D7 h1 Lh
      · unfold endWith
        dsimp only;repeat' first | trivial | split
    · dsimp only
      split
      · exact D7 h1 Lh
      · split
        · exact D7 h1 Lh
        · trivial
      · rename_i t recv name _
        have e:=Nk m (.fn (.method name) #[]) #[.iface t recv];generalize c:Sem.runT P _ w #[]=r;obtain⟨r,ev⟩:=r;cases r with
        | ok a b=>
          cases a
          case enter f args=>exact D6 (D7 (Tj _ _ _) Lh) λ_=>Hv e _ c trivial
          case value x=>
            cases x
            case string s=>exact D6 (D7 h1 Lh) λ_=>Hv e _ c trivial
            all_goals exact Rf
          all_goals exact Rf
        | halt h b=>
          cases h
          case panic v=>exact D6 (Xu v b h1) λ_=>Hv e _ c trivial
          all_goals exact Rf
      · trivial
theorem Vw (a:OkP P)(main:Bool)(g:Goroutine)(hg:OkG g)(w:World):(stepG P main g w).fine:=by
  unfold stepG;obtain⟨fr,cs,c,b,off⟩:=g;dsimp only;split
  · exact ip a _ w hg.1
  · exact ek a main _ w hg.1 hg.2
  · exact uh a main _ w hg.1 hg.2
end
open Go.Conc
def IP (gs:Array Goroutine):Prop:=∀g∈gs,g.status≠.blocked
abbrev GL (ready:List (Nat × CommCase × List Way)):Sem (Nat × CommCase × Way):=do
 let a <-choose (.select ready.length)
 let (k,c,ws):=ready.getD a (0,default,[])
 let b <-choose (.extern "which waiting goroutine is the partner" ws.length)
 pure (k,c,ws.getD b .closed)
section
variable {P : Program}{w : World}{gs gs' : Array Goroutine}
theorem Ij (h:IP gs)(r:Nat)(b:Bool):partners gs r b=[]:=by
 unfold partners;refine List.flatMap_eq_nil_iff.2 λx a=>?_
 obtain⟨g,i⟩:=x;have c:g∈gs:=by
  have e:=Array.mem_zipIdx (Array.mem_toList_iff.1 a);rw[e.2.2];exact Array.getElem_mem _
 have:=h g c
 dsimp only;split
 ·rename_i d _;exact absurd d this
 ·rfl
theorem zr0 {p:Prop}(h:p:=by
 split at hx
 ·simp at hx;subst hx;simp
 ·rw[Ij h] at hx
  dsimp only at hx;split at hx
  ·simp at hx;subst hx;simp
  ·simp at hx):p:=h
theorem OQ (h:IP gs)(c:CommCase):ways w gs c=ways w #[] c/\∀x∈ways w gs c,∀a b,x≠.partner a b:=by
 have d:IP #[]:=λg e=>by simp at e
 constructor
 ·unfold ways
  split
  ·split
   ·split
    ·rfl
    ·rw[Ij h,Ij d]
   ·split
    ·rfl
    ·rw[Ij h,Ij d]
   ·rfl
  ·rfl
 ·intro x hx a b
  unfold ways at hx;split at hx
  ·split at hx
   ·exact zr0
   ·exact zr0
   ·simp at hx
  ·simp at hx
theorem Av2 (ready:List (Nat × CommCase × List Way)):Calm P (GL ready):=Calm.bind Nc λ_=>Calm.bind Nc λ_=>Ad
theorem P0 {ready:List (Nat × CommCase × List Way)}(hr:∀x∈ready,∀y∈x.2.2,∀a b,y≠.partner a b){k:Nat}{c:CommCase}{way:Way}{w':World}(h:(GL ready).run P w=.ok (k,c,way) w'):∀a b,way≠.partner a b:=by
 have key:∀(a b:Nat) (k:Nat) (c:CommCase) (d:List Way),ready.getD a (0,default,[])=(k,c,d)->∀x y,d.getD b .closed≠.partner x y:=by
  intro a b k c d e x y;have l:∀z∈d,∀x y,z≠.partner x y:=by
   rw[List.getD_eq_getElem?_getD] at e;cases f:ready[a]? with
   | none=>rw[f] at e;cases e;intro z j;simp at j
   | some q=>
    rw[f] at e;simp only[Option.getD_some] at e;intro z j;exact hr q (G2 f) z (by rw[e];exact j)
  rw[List.getD_eq_getElem?_getD];cases f:d[b]? with
  | none=>simp
  | some q=>exact l q (G2 f) x y
 have n:C2 P (λz:Nat × CommCase × Way=>∀a b,z.2.2≠.partner a b) 0 (GL ready):=by
  refine Ei Nc λa=>?_
  generalize m:ready.getD a (0,default,[])=z;obtain⟨k,c,d⟩:=z;refine Ei Nc λb=>Ii ?_
  exact key a b k c d m
 have:=LN (w:=w) (es:=#[]) n (k,c,way) ⟨w',by rw[Sem.runT_eq];exact h⟩
 exact this
def fin:Goroutine:={(default:Goroutine) with status:=.finished}
def Vz (P:Program)(g:Goroutine)(cs:Array CommCase)(b:Bool)(sh:CommShape)(w:World):GStep:=
 match communicate P {timers:=#[],alone:=none,slice:=none} #[fin] 0 g cs b sh w with
 | (.next m,_)=>.go (m.gs.getD 0 default) m.world
 | (.ended o w,_)=>.ended o w
def KB (P:Program)(g:Goroutine)(cs:Array CommCase)(b:Bool)(sh:CommShape)(w:World):Array MemOp:=
 (communicate P {timers:=#[],alone:=none,slice:=none} #[fin] 0 g cs b sh w).2
theorem L6:IP #[fin]:=λg a=>by
 simp at a;subst a;simp[fin]
theorem LI (rest:Rest)(h:rest.timers=#[])(cs:Array CommCase)(w:World):waitingAt rest cs w=some w:=by
 unfold waitingAt;have:timerAhead rest w.os.mono cs=false:=by
  unfold timerAhead;rw[h];rw[Array.any_eq_false];intro i hi;split<;>simp
 rw[this];rfl
theorem OG (h:IP gs)(l:List (CommCase × Nat)):∀x∈(l.map λ(c,k)=>(k,c,ways w gs c)).filter (λ(_,_,d)=>!d.isEmpty),∀y∈x.2.2,∀a b,y≠.partner a b:=by
 intro x f y e;obtain⟨z,_,rfl⟩:=List.mem_map.1 (List.mem_filter.1 f).1;exact(OQ h z.1).2 y e
theorem VQ {sl:Option (Nat × Nat)}(h:IP gs)(_h0:0<gs.size)(g:Goroutine)(cs:Array CommCase)(b:Bool)(sh:CommShape)(w:World):
  communicate P {timers:=#[],alone:=none,slice:=sl} gs 0 g cs b sh w=
   (match Vz P g cs b sh w with
    | .go r d _=>.next {world:=d,gs:=gs.setIfInBounds 0 r,rest:={timers:=#[],alone:=none,slice:=sl} }
    | .ended o d _=>.ended o d
    | _=>.ended default default,KB P g cs b sh w):=by
 unfold Vz KB;have q:∀c,ways w gs c=ways w #[fin] c:=λc=>((OQ h c).1).trans ((OQ L6 c).1).symm
 unfold communicate;simp only[q];have j:=OG (w:=w) L6 cs.zipIdx.toList;split
 ·rfl
 ·split
  ·split
   ·rw[LI _ rfl,LI _ rfl]
    simp
   ·simp
  ·generalize l:(List.filter _ _:List (Nat × CommCase × List Way))=ready
   have n:∀x∈ready,∀y∈x.2.2,∀a b,y≠.partner a b:=by rw[<-l];exact j
   cases m:(GL ready).run P w with
   | halt e d=>rfl
   | ok z d=>
    obtain⟨k,c,way⟩:=z;have p:=P0 n m;dsimp only;cases way with
    | partner a b=>exact absurd rfl (p a b)
    | sendClosed=>
     dsimp only;cases s:(runtimePanic (.plain "send on closed channel"):Sem Unit).run P d with
     | ok a f=>rfl
     | halt e f=>cases e<;>first | rfl | simp
    | closed=>simp
    | buffer=>
     rw[Ij h,Ij L6];split<;>first | (simp;done) | (exfalso;simp_all;done)
end
section
variable {P : Program}{w : World}
def chanOf (c:CommCase):Nat:=match c.chan with | .chan (some r)=>r | _=>0
def IC (P:Program)(g:Goroutine)(cs:Array CommCase)(sh:CommShape)(k:Nat)(c:CommCase)(way:Way)(w:World):GStep:=
  match way with
  | .sendClosed=>match (runtimePanic (.plain "send on closed channel"):Sem Unit).run P w with
    | .halt (.panic v) w=>.go {g with frame:=g.frame.raise [{v,recovered:=false}]} w
    | _=>.ended (.stuck "communicate" "") w
  | .closed=>.go (g.finishComm P cs sh k c.zero false) w
  | .buffer=>match w.heap[chanOf c]?,c.send with
    | some (.chan cap a d s r b),some v=>.go (g.finishComm P cs sh k undef false) {w with heap:=w.heap.setIfInBounds (chanOf c) (.chan cap (a.push v) d (s+1) r b)}
    | some (.chan cap a d s r b),none=>.go (g.finishComm P cs sh k (a.getD 0 undef) true) {w with heap:=w.heap.setIfInBounds (chanOf c) (.chan cap (a.extract 1 a.size) d s (r+1) b)}
    | _,_=>.ended (.stuck "communicate: no such channel" "") w
  | _=>.ended (.stuck "communicate: no such channel" "") w
def KZ (P:Program)(g:Goroutine)(cs:Array CommCase)(sh:CommShape):Result (Nat × CommCase × Way)->GStep
  | .ok (k,c,way) a=>IC P g cs sh k c way a
  | .halt _ a=>.ended (.stuck "communicate" "") a
def Yb (cs:Array CommCase)(w:World):List (Nat × CommCase × List Way):=(cs.zipIdx.toList.map λ(c,k)=>(k,c,ways w #[fin] c)).filter λ(_,_,a)=>!a.isEmpty
theorem VR (g:Goroutine)(cs:Array CommCase)(b:Bool)(sh:CommShape)(w:World):
    (∃o,∀d:World,d.heap=w.heap->Vz P g cs b sh d=.ended o d)\/
    (∃e,e={g with status:=.blocked,offers:=some (cs,sh)}/\∀d:World,d.heap=w.heap->Vz P g cs b sh d=.go e d)\/
    (∃e,e=g.finishComm P cs sh (-1) undef false/\∀d:World,d.heap=w.heap->Vz P g cs b sh d=.go e d)\/
    (∀d:World,d.heap=w.heap->Vz P g cs b sh d=KZ P g cs sh ((GL (Yb cs w)).run P d)):=by
  have p:∀d:World,d.heap=w.heap->∀c,ways d #[fin] c=ways w #[fin] c:=λd h c=>by unfold ways;rw[h]
  have v:∀x∈Yb cs w,∀y∈x.2.2,∀a b,y≠.partner a b:=OG (w:=w) L6 cs.zipIdx.toList;by_cases j:cs.any (λc=>match c.chan with | .chan none=>false | .chan (some r)=>!(w.heap[r]? matches some (.chan ..)) | _=>true)=true
  · refine .inl ⟨.stuck "a communication at a channel whose block is no channel's" (g.frame.pos P),λd h=>?_⟩
    unfold Vz communicate;rw[h];dsimp only;split
    · rename_i f;split at f
      · cases f
      · rename_i n;exact absurd j n
    · rename_i f;split at f
      · cases f;rfl
      · rename_i n;exact absurd j n
  · by_cases q:(Yb cs w).isEmpty=true
    · cases b
      · refine .inr (.inr (.inl ⟨_,rfl,λd h=>?_⟩))
        unfold Vz communicate;simp only[p d h];rw[h];refine(congrArg (λx:Stepped × Array MemOp=>match x with | (.next m,_)=>GStep.go (m.gs.getD 0 default) m.world | (.ended o w,_)=>.ended o w) ((if_neg j).trans (if_pos q))).trans ?_;simp
      · refine .inr (.inl ⟨_,rfl,λd h=>?_⟩)
        unfold Vz communicate;simp only[p d h];rw[h];refine(congrArg (λx:Stepped × Array MemOp=>match x with | (.next m,_)=>GStep.go (m.gs.getD 0 default) m.world | (.ended o w,_)=>.ended o w) ((if_neg j).trans (if_pos q))).trans ?_;rw[LI _ rfl];simp
    · refine .inr (.inr (.inr λd h=>?_))
      unfold Vz communicate;simp only[p d h];rw[h];refine(congrArg (λx:Stepped × Array MemOp=>match x with | (.next m,_)=>GStep.go (m.gs.getD 0 default) m.world | (.ended o w,_)=>.ended o w) ((if_neg j).trans (if_neg q))).trans ?_;generalize A:(List.filter _ _:List (Nat × CommCase × List Way))=ready;obtain rfl:Yb cs w=ready:=A;cases B:(GL (Yb cs w)).run P d with
      | halt s l=>rfl
      | ok z l=>
        obtain⟨k,c,way⟩:=z;have C:=P0 v B;cases way with
        | partner a b=>exact absurd rfl (C a b)
        | sendClosed=>
          simp only[KZ,IC];cases (runtimePanic (.plain "send on closed channel"):Sem Unit).run P l with
          | ok a u=>rfl
          | halt s u=>cases s<;>rfl
        | closed=>rfl
        | buffer=>
          simp only[KZ,IC];rw[Ij L6]
          cases D:c.send<;>(cases t:c.chan<;>first
            | (rename_i o
               cases o<;>simp only[chanOf,t]<;>(generalize (l.heap[(_:Nat)]?:Option Obj)=o;rcases o with _ | o<;>first | rfl | (cases o<;>first | rfl | simp)))
            | (simp only[chanOf,t];(generalize (l.heap[(_:Nat)]?:Option Obj)=o;rcases o with _ | o<;>first | rfl | (cases o<;>first | rfl | simp))))
end
section
variable {g:Goroutine}
variable {P : Program}{w : World}
def _root_.Go.GStep.put (w:World):GStep->GStep:=GStep.turn λ_=>w
theorem He.next {F:World->GStep}(nxt:GStep->GStep)(hF:He F w)(h:He (λr=>nxt ((F w).put r)) (F w).w)(v:(nxt (F w)).cont->(F w).cont):He (λw=>nxt (F w)) w:=by
 obtain⟨h1,n,K,z,o,x⟩:=hF;have t:(F w).put (F w).w=F w:=by cases F w<;>rfl
 obtain⟨l,b,L,j,f,m⟩:=h;simp only[t] at l b j f m;refine⟨l.trans h1,CJ n b,max K L,CJ j (MZ _ _),λc=>?_,fun a s e d hA=>?_⟩
 ·rw[o (v c),f c]
  exact Nat.max_eq_right b
 ·have q:=x a s e d (hA.mono (Kx _ _))
  have y:=m a s e (CJ d n) yFd;have u:(F w).turn (rt a s e)=(F w).put (rt a s e (F w).w):=by cases F w<;>rfl
  simp only[q];rw[u];exact y
theorem Azb (g:Goroutine)(cs:Array CommCase)(sh:CommShape)(k:Nat)(c:CommCase)(way:Way)(w:World):He (λw=>IC P g cs sh k c way w) w:=by
 unfold IC;cases way with
 | partner a b=>exact(Az _ _).loc w
 | closed=>exact(D8 _ _).loc w
 | sendClosed=>
  have p:=Calm.loc (Qi (P:=P) (α:=Unit) (.plain "send on closed channel")) w #[];have e:∀w,(runtimePanic (.plain "send on closed channel"):Sem Unit).run P w=((runtimePanic (.plain "send on closed channel"):Sem Unit).runT P w #[]).1:=λw=>by rw[Sem.runT_eq]
  simp only[e];generalize j:(runtimePanic (.plain "send on closed channel"):Sem Unit).runT P w #[]=r;obtain⟨r,ev⟩:=r;cases r with
  | ok a u=>exact He.caseOld p j (Az (.stuck "communicate" "") #[]) (λw c=>c) λq t h=>by simp only[h,Result.put]
  | halt h u=>
   cases h
   case panic v=>exact He.case p j ((D8 {g with frame:=g.frame.raise [{v,recovered:=false}]} #[]).loc u) (λ_ x=>x) λq t h=>by simp only[h,Result.put]
   all_goals exact He.caseOld p j (Az (.stuck "communicate" "") #[]) (λw c=>c) λq t h=>by simp only[h,Result.put]
 | buffer=>
  refine He.const ?_ ?_ fun n s e _=>?_
  ·dsimp only
   split<;>rfl
  ·dsimp only
   split<;>rfl
  ·dsimp only
   show(match w.heap[chanOf c]?,c.send with
    | some (.chan cap d m l r f),some v=>GStep.go (g.finishComm P cs sh k undef false) {rt n s e w with heap:=w.heap.setIfInBounds (chanOf c) (.chan cap (d.push v) m (l+1) r f)}
    | some (.chan cap d m l r f),none=>GStep.go (g.finishComm P cs sh k (d.getD 0 undef) true) {rt n s e w with heap:=w.heap.setIfInBounds (chanOf c) (.chan cap (d.extract 1 d.size) m l (r+1) f)}
    | _,_=>GStep.ended (.stuck "communicate: no such channel" "") (rt n s e w))=_
   rcases w.heap[chanOf c]? with _ | o
   ·cases c.send<;>rfl
   ·cases o<;>cases c.send<;>rfl
theorem Aza (g:Goroutine)(cs:Array CommCase)(b:Bool)(sh:CommShape)(w:World):He (λw=>Vz P g cs b sh w) w:=by
 rcases VR (P:=P) g cs b sh w with⟨o,h⟩ | ⟨f,_,h⟩ | ⟨f,_,h⟩ | h
 ·exact((Az o #[]).loc w).like (h w rfl) fun d s e=>h _ rfl
 ·exact((D8 f #[]).loc w).like (h w rfl) fun d s e=>h _ rfl
 ·exact((D8 f #[]).loc w).like (h w rfl) fun d s e=>h _ rfl
 ·refine He.like (G:=λj=>KZ P g cs sh ((GL (Yb cs w)).run P j)) ?_ (h w rfl) fun d s e=>h _ rfl
  refine He.bindR (P:=P) (x:=GL (Yb cs w)) (KZ P g cs sh) (Calm.loc (Av2 _) w #[]) ?_ ?_
  ·generalize Sem.run P _ w=r
   cases r with
   | ok a w'=>obtain⟨k,c,way⟩:=a;exact Azb g cs sh k c way w'
   | halt h w'=>exact(Az _ _).loc _
  ·exact zk0
theorem Qq (h:OkG g)(cs:Array CommCase)(sh:CommShape)(k:Int)(v:Value)(ok:Bool):OkG (g.finishComm P cs sh k v ok):=⟨Jt h.1 _,h.2⟩
theorem Avz (hg:OkG g)(hr:g.status=.running)(cs:Array CommCase)(b:Bool)(sh:CommShape)(w:World):(∃o d,Vz P g cs b sh w=.ended o d)\/∃e d,Vz P g cs b sh w=.go e d/\OkG e/\∀t,e.status≠.sleeping t:=by
 have j:∀k c way w,(∃o d,IC P g cs sh k c way w=.ended o d)\/∃e d,IC P g cs sh k c way w=.go e d/\OkG e/\∀t,e.status≠.sleeping t:=by
  intro k c way w;unfold IC;have f:∀(k:Int) v ok,∀t,(g.finishComm P cs sh k v ok).status≠.sleeping t:=λ_ _ _ _ h=>by cases h
  cases way with
  | partner a b=>exact .inl ⟨_,_,rfl⟩
  | closed=>exact .inr ⟨_,_,rfl,Qq hg _ _ _ _ _,f _ _ _⟩
  | sendClosed=>
   dsimp only;split
   ·exact .inr ⟨_,_,rfl,⟨P9 hg.1 _,hg.2⟩,λt h=>by rw[show g.status=_ from h] at hr;cases hr⟩
   ·exact .inl ⟨_,_,rfl⟩
  | buffer=>
   dsimp only;split
   ·exact .inr ⟨_,_,rfl,Qq hg _ _ _ _ _,f _ _ _⟩
   ·exact .inr ⟨_,_,rfl,Qq hg _ _ _ _ _,f _ _ _⟩
   ·exact .inl ⟨_,_,rfl⟩
 rcases VR (P:=P) g cs b sh w with⟨o,h⟩ | ⟨e,rfl,h⟩ | ⟨e,rfl,h⟩ | h
 ·exact .inl ⟨_,_,h w rfl⟩
 ·exact .inr ⟨_,_,h w rfl,hg,λt h=>by cases h⟩
 ·exact .inr ⟨_,_,h w rfl,Qq hg _ _ _ _ _,λt h=>by cases h⟩
 ·rw[h w rfl]
  generalize (GL (Yb cs w)).run P w=r;cases r with
  | ok a d=>obtain⟨k,c,way⟩:=a;exact j k c way d
  | halt h d=>exact .inl ⟨_,_,rfl⟩
end
