import Derived.Test.YtobbpffcggchmaaGreatDoorCB9
namespace Go.Co
def Aiw (cs:List Frame):Prop:=∀c∈cs,Zi c
def _root_.Go.GStep.fine:GStep->Prop
 | .go g _ a=>OkG g/\(∀t,g.status≠.sleeping t)/\(g.status=.running->deafBehind 0 a=0)
 | .comm g _ _ _ _ a=>OkG g/\g.status=.running/\deafBehind 0 a=0
 | .coroswitch g _ _ _ a=>OkG g/\deafBehind 0 a=0
 | .spawn .. | .ended ..=>True
 | _=>False
section
variable {cs:List Frame}{fr:Frame}
variable {P : Program}{w : World}
theorem Ajj (es a:Array Event)(h:deafBehind 0 es=0):deafBehind 0 (es++a)=deafBehind 0 a:=by
 unfold deafBehind at*;rw[Array.foldl_append,h]
theorem Dl {es:Array Event}{x:GStep}(h:x.fine)(hd:x.cont->deafBehind 0 es=0):(GStep.after es x).fine:=by
 cases x with
 | go g w a=>exact⟨h.1,h.2.1,λd=>by rw[Ajj _ _ (hd d)];exact h.2.2 d⟩
 | comm g c b e w a=>exact⟨h.1,h.2.1,by rw[Ajj _ _ (hd trivial)];exact h.2.2⟩
 | coroswitch g c b w a=>exact⟨h.1,by rw[Ajj _ _ (hd trivial)];exact h.2⟩
 | spawn g c w a=>trivial
 | ended o w a=>trivial
 | _=>exact h
theorem Dn {st:GoStatus}{dy:Option Dying}(h1:Zi fr)(h2:Aiw cs)(hst:∀t,st≠.sleeping t:=by intro _ h;cases h):(GStep.go {frame:=fr,callers:=cs,status:=st,dying:=dy} w).fine:=⟨⟨h1,h2⟩,hst,λ_=>rfl⟩
theorem Ko:Aiw []:=λ_ h=>by cases h
theorem Nc (h1:Zi fr)(a:Aiw cs):Aiw (fr::cs):=λc b=>(List.mem_cons.1 b).elim (λe=>e ▸ h1) (a c)
theorem O9 (h:Zi fr)(vs:List PanicEntry):Zi (fr.raise vs):=by
 unfold Frame.raise;split<;>exact h
theorem Q9 (f:FuncId)(args:Array Value)(k:CallKind):Zi (Frame.enter P f args k):=by
 intro i hi;simp only[Frame.enter,A9i] at hi;subst hi;trivial
theorem Ahf (l:Nat)(f:FuncId)(t:Array Value)(a b:Code)(k:CallKind):Zi (Frame.round l f t a b k):=by
 intro i hi;simp only[Frame.round,A9o,A99,Bax] at hi;rcases hi with rfl | rfl | rfl<;>trivial
theorem Aqw (args:Array Value)(k:CallKind):Zi (Frame.ofRow P "runtime.print$piece" args k):=by
 intro i hi;simp only[Frame.ofRow,A9i] at hi;subst hi;rfl
theorem I8 (h:Zi fr)(v:Value):Zi (fr.finish v):=by
 unfold Frame.finish;unfold Zi at h;split
 ·rename_i f i rest k e
  rw[e] at h;intro j c;rcases List.mem_cons.1 c with rfl | c
  ·trivial
  ·exact h j (A87 _ c)
 ·rename_i l k e
  rw[e] at h;intro j c;rcases List.mem_cons.1 c with rfl | c
  ·trivial
  ·exact h j (A87 _ c)
 ·rename_i k e
  rw[e] at h;exact λj c=>h j (A87 _ c)
 ·rename_i d b r s k e
  rw[e] at h;intro j c;rcases List.mem_cons.1 c with rfl | c
  ·exact h (.call d b r s) Bau
  ·exact h j (A87 _ c)
 ·rename_i r a k e
  rw[e] at h;exact λj c=>h j (A87 _ c)
 ·exact h
theorem Tc:∀{fr:Frame} {cs:List Frame} {v:Value} {a:List Frame},Aiw cs->tryRecover fr cs=some (v,a)->Aiw a:=by
 intro fr cs;induction cs generalizing fr with
 | nil=>
  intro v a _ h;unfold tryRecover at h;cases d:fr.kind<;>simp[d] at h
 | cons c cs m=>
  intro v a e h;have j:=e c Bau;have f:Aiw cs:=λx l=>e x (A87 _ l)
  unfold tryRecover at h;cases d:fr.kind<;>simp only[d] at h
  case deferred=>
   split at h
   ·cases h
    exact Nc j f
   ·cases h
  case wrapped=>
   cases b:tryRecover c cs with
   | none=>rw[b] at h;cases h
   | some x=>
    rw[b] at h;obtain⟨o,n⟩:=x;cases h;exact Nc j (m f b)
  all_goals cases h
theorem Acx:∀{l:Nat} {cs:List Frame} {v:Value} {b:List Frame},Aiw cs->tryRecoverLoop l cs=some (v,b)->Aiw b:=by
 intro l cs;induction cs generalizing l with
 | nil=>intro v b _ h;cases h
 | cons c cs e=>
  intro v b f h;have m:=f c Bau;have d:Aiw cs:=λx a=>f x (A87 _ a)
  unfold tryRecoverLoop at h;obtain⟨x,a,j⟩:=Option.map_eq_some_iff.1 h;obtain⟨n,o⟩:=x;cases j;refine Nc m ?_;split at a
  ·exact e d a
  ·split at a
   ·exact Tc d a
   ·exact e d a
  ·exact e d a
theorem Vm (main:Bool)(dy:Option Dying)(v:Value)(w:World)(h1:Zi fr)(h2:Aiw cs):(doReturn P main fr cs dy v w).fine:=by
 unfold doReturn;cases cs with
 | cons c cs=>
  have a:=h2 c Bau;have b:Aiw cs:=λx d=>h2 x (A87 _ d)
  dsimp only;split
  ·exact Dn (I8 a v) b
  ·exact Dn (I8 a v) b
  ·exact Dn a b
  ·refine Dn ?_ b
   split
   ·split<;>exact a
   ·exact a
 | nil=>
  dsimp only;split
  ·exact Dn h1 Ko
  ·trivial
  ·split
   ·exact Dn h1 Ko
   ·split
    ·exact Dn (Q9 _ _ _) Ko
    ·trivial
theorem Us (l:List ByteArray)(m:String)(b:Bool)(w:World)(h:Zi fr):(dieOf fr l m b w).fine:=Dn h Ko
theorem V7 (v:Value)(w:World)(h:Zi fr):(endPrinting P fr v w).fine:=by
 unfold endPrinting;dsimp only;split
 ·exact Us _ _ _ w h
 ·trivial
theorem Aak (a:Option Dying)(m:String)(w:World)(h:Zi fr):(endFatal P fr cs a m w).fine:=by
 unfold endFatal;dsimp only;split
 ·exact Us _ _ _ _ h
 ·trivial
 ·trivial
theorem Atw (dy:Option Dying)(g:Nat)(w:World)(h1:Zi fr)(h2:Aiw cs):(early P fr cs dy g w).fine:=by
 have a:∀w:World,(match w.heap[g]? with
   | some (.pending c elem)=>GStep.go {frame:=fr,callers:=cs,status:=.running,dying:=dy} {w with heap:=w.heap.setIfInBounds g (.cells c elem)}
   | _=>.ended (.stuck "early: the variable does not wait" (fr.pos P)) w).fine:=by
  intro w;split
  ·exact Dn h1 h2
  ·trivial
 have d:∀(f:FuncId) (w:World) (l:List FuncId),(GStep.go {frame:=Frame.enter P f #[] .early,callers:=l.map (Frame.enter P · #[] .early)++fr::cs,status:=.running,dying:=dy} w).fine:=by
  intro f w l;refine Dn (Q9 _ _ _) λc b=>?_
  rcases List.mem_append.1 b with b | b
  ·obtain⟨x,_,rfl⟩:=List.mem_map.1 b
   exact Q9 _ _ _
  ·exact Nc h1 h2 c b
 unfold early;dsimp only;split
 ·exact a w
 ·split
  ·trivial
  ·split
   ·exact a w
   ·split
    ·exact a w
    ·split
     ·trivial
     ·exact d _ _ _
     ·trivial
     ·exact a w
     ·split
      ·exact d _ _ _
      ·split
       ·exact a w
       ·split
        ·exact a _
        ·exact d _ _ _
        ·trivial
theorem Vu:Xt #[]:=λ_ h=>by simp at h
theorem Ri (dy:Option Dying){x:Sem Next}(w:World)(h1:Zi fr)(h2:Aiw cs)(hx:Sat P We 0 x):(stepG.apply P true fr cs dy x w).fine:=by
 have s:=Z5 (w:=w) (es:=#[]) hx;have p:=Ya hx w #[] rfl Vu;rw[Ary];generalize E:x.runT P w #[]=r at s p;obtain⟨r,ev⟩:=r;have j:∀es:Array Event,(es=#[]\/es=ev)->(es=ev->Yj r)->deafBehind 0 (seen P fr.fn (if fr.kind==.early then #[] else es))=0:=by
  intro es z y;split
  ·rfl
  ·rcases z with rfl | rfl
   ·rfl
   ·rw[Ae6 _ _ p.1];exact p.2 (y rfl)
 cases r with
 | ok a e=>
  refine Dl ?_ λ_=>j _ (.inr rfl) λ_=>trivial
  have q:=s a ⟨e,rfl⟩;unfold stepG.apply;simp only[Ar5,if_true,Sem.runT,ite_self,Hw,Gp,Result.w];cases a<;>first | exact q.elim | skip
  case value v=>exact Dn (I8 h1 v) h2
  case skip=>exact Dn (I8 h1 _) h2
  case enter f args=>exact Dn (Q9 _ _ _) (Nc h1 h2)
  case round l f t a b=>exact Dn (Ahf _ _ _ _ _ _) (Nc h1 h2)
  case defer d=>exact Dn (I8 (fr:={fr with defers:=d::fr.defers}) h1 _) h2
  case recover=>
   dsimp only;split
   ·rename_i v D n
    refine Dn (I8 h1 _) ?_;split at n
    ·split at n
     ·exact Tc h2 n
     ·exact Acx h2 n
    ·exact Tc h2 n
   ·exact Dn (I8 h1 _) h2
  case spawn d=>
   dsimp only;split<;>split<;>first | exact Us _ _ _ _ h1 | trivial
  case comm c b F=>exact⟨⟨h1,h2⟩,rfl,rfl⟩
  case coroswitch c b=>exact⟨⟨h1,h2⟩,rfl⟩
  case row r args=>
   obtain rfl:r= "runtime.print$piece" :=q;dsimp only;split
   ·rename_i C G k B
    refine Dn ?_ h2;intro i hi;rcases List.mem_cons.1 hi with rfl | hi
    ·rfl
    ·exact h1 i (by rw[B];exact A87 _ hi)
   ·exact Dn (Aqw _ _) (Nc h1 h2)
 | halt h e=>
  have o:∀h:Halt,Aej h->∀es,(stepG.apply P true fr cs dy (.halt h) e).cont->deafBehind 0 es=0:=λh A es c=>absurd A (Xi fr cs dy h e c)
  cases h
  case panic v=>
   refine Dl ?_ λ_=>j _ (.inr rfl) λ_=>trivial
   show(stepG.apply P true fr cs dy (.halt (.panic v)) e).fine
   unfold stepG.apply;simp only[if_true,Sem.runT,ite_self,Hw,Gp];exact Dn (O9 h1 _) h2
  case goexit=>
   refine Dl ?_ λ_=>j _ (.inr rfl) λ_=>trivial
   show(stepG.apply P true fr cs dy (.halt .goexit) e).fine
   unfold stepG.apply;simp only[if_true,Sem.runT,ite_self,Hw,Gp];exact Dn (O9 h1 _) h2
  case blocked=>
   refine Dl ?_ (o .blocked trivial _);show(stepG.apply P true fr cs dy (.halt .blocked) e).fine
   unfold stepG.apply;simp only[if_true,Sem.runT,ite_self,Hw,Gp];exact Dn h1 h2
  case waiting=>
   refine Dl ?_ (o .waiting trivial _);show(stepG.apply P true fr cs dy (.halt .waiting) e).fine
   unfold stepG.apply;simp only[if_true,Sem.runT,ite_self,Hw,Gp];exact Dn h1 h2
  case exit c=>
   refine Dl ?_ λ_=>j _ (.inr rfl) λ_=>trivial
   show(stepG.apply P true fr cs dy (.halt (.exit c)) e).fine
   unfold stepG.apply;simp only[if_true,Sem.runT,ite_self,Hw,Gp];trivial
  case fatal m=>
   refine Dl ?_ λ_=>j _ (.inr rfl) λ_=>trivial
   show(stepG.apply P true fr cs dy (.halt (.fatal m)) e).fine
   unfold stepG.apply;simp only[if_true,Sem.runT,ite_self,Hw,Gp];exact Aak dy m e h1
  case throw m=>
   refine Dl ?_ λ_=>j _ (.inr rfl) λ_=>trivial
   show(stepG.apply P true fr cs dy (.halt (.throw m)) e).fine
   unfold stepG.apply;simp only[if_true,Sem.runT,ite_self,Hw,Gp];exact Us _ _ _ e h1
  case stuck m=>
   refine Dl ?_ (o (.stuck m) trivial _);show(stepG.apply P true fr cs dy (.halt (.stuck m)) e).fine
   unfold stepG.apply;simp only[if_true,Sem.runT,ite_self,Hw,Gp];trivial
  case unsupported u=>
   by_cases hi:∃g,u=.initOrder g
   ·obtain⟨g,rfl⟩:=hi
    refine Dl ?_ λ_=>by show deafBehind 0 (seen P fr.fn (if fr.kind==.early then #[] else #[]))=0;split<;>rfl
    show(stepG.apply P true fr cs dy (.halt (.unsupported (.initOrder g))) e).fine
    unfold stepG.apply;simp only[if_true,Sem.runT,ite_self,Hw,Gp];exact Atw dy g e h1 h2
   ·refine Dl ?_ (o (.unsupported u) (by cases u<;>first | trivial | exact absurd ⟨_,rfl⟩ hi) _)
    show(stepG.apply P true fr cs dy (.halt (.unsupported u)) e).fine
    unfold stepG.apply;cases u<;>first
     | exact absurd ⟨_,rfl⟩ hi
     | (simp only[if_true,Sem.runT,ite_self,Hw,Gp];trivial)
end
section
variable {cs:List Frame}{ev:Array Event}{fr:Frame}{i:Item}{k:List Item}
variable {P : Program}{w : World}
theorem Abn {α:Type}{x:Sem α}(hx:Calm P x)(fn:FuncId){r:Result α}(hr:x.runT P w #[]=(r,ev))(hg:Yj r):deafBehind 0 (seen P fn ev)=0:=by
  have a:=Ya hx w #[] rfl Vu;rw[hr] at a;rw[Ae6 _ _ a.1];exact a.2 hg
theorem Ace {x:Sem Next}(hx:Sat P We 0 x)(fn:FuncId){r:Result Next}(hr:x.runT P w #[]=(r,ev))(hg:Yj r):deafBehind 0 (seen P fn ev)=0:=by
  have a:=Ya hx w #[] rfl Vu;rw[hr] at a;rw[Ae6 _ _ a.1];exact a.2 hg
theorem Qj {o:Outcome}{es a:Array Event}:(GStep.after es (.ended o w a)).fine:=trivial
theorem Hl (h:Zi fr)(a:fr.todo=i::k):∀j∈k,V3 j:=λj b=>h j (by rw[a];exact A87 _ b)
theorem Jk {c:Code}(h:∀j∈k,V3 j):∀j∈Item.code c::k,V3 j:=λj a=>(List.mem_cons.1 a).elim (λe=>e ▸ trivial) (h j)
theorem Jj (hi:V3 i)(h:∀j∈k,V3 j):∀j∈i::k,V3 j:=λj a=>(List.mem_cons.1 a).elim (λe=>e ▸ hi) (h j)
theorem Alc {d:Nat}:∀{k a:List Item},(∀j∈k,V3 j)->exitTo d k=some a->∀j∈a,V3 j:=by
  intro k;induction k with
  | nil=>intro a _ h;cases h
  | cons i k c=>
    intro a e h;have b:=λj f=>e j (A87 _ f)
    cases i<;>simp only[exitTo] at h<;>first
      | exact c b h
      | (split at h
         · cases h;exact b
         · exact c b h)
theorem Alb {l:Nat}:∀{k a:List Item},(∀j∈k,V3 j)->gotoIn l k=some a->∀j∈a,V3 j:=by
  intro k;induction k with
  | nil=>intro a _ h;cases h
  | cons i k c=>
    intro a d h;have b:=λj e=>d j (A87 _ e)
    cases i<;>simp only[gotoIn] at h<;>first
      | exact c b h
      | (split at h
         · cases h;exact Jk (Jj trivial b)
         · exact c b h)
theorem Atv (main:Bool)(dy:Option Dying)(jump:Option Code)(w:World)(h1:Zi fr)(h2:Aiw cs):(
      match fr.roundOf with
      | none=>if jump matches none | some .ret then GStep.go {frame:={fr with mode:=.returning},callers:=cs,status:=.running,dying:=dy} w else .ended (.stuck "exit, goto: no such block or label" (fr.pos P)) w
      | some l=>
        let (r,es):=(Instr.endRound l jump).runT P w #[]
        GStep.after (seen P fr.fn es)<| match r with
        | .ok v w=>doReturn P main fr cs dy v w
        | .halt _ w=>.ended (.stuck "range over a function: no such loop" (fr.pos P)) w).fine:=by
  cases fr.roundOf with
  | none=>
    dsimp only;split<;>split<;>first | exact Dn h1 h2 | trivial
  | some l=>
    dsimp only;generalize b:Sem.runT P _ w #[]=r;obtain⟨r,ev⟩:=r;cases r with
    | ok v a=>exact Dl (Vm main dy v a h1 h2) λ_=>Abn spz _ b trivial
    | halt h a=>exact Dl trivial λc=>c.elim
theorem Azo (c:OkP P)(a:Option Dying)(w:World)(h1:Zi fr)(b:Aiw cs):(stepG.oper P true fr cs a w).fine:=by
  unfold stepG.oper;split
  · trivial
  · split
    · exact Ri a w h1 b (Ea spz λ_=>Ea spz λ_=>He trivial)
    · exact Ri a w h1 b (Agz c _ _)
theorem Azp (q:OkP P)(main:Bool)(dy:Option Dying)(w:World)(h1:Zi fr)(h2:Aiw cs):(stepG.exec P main true fr cs dy w).fine:=by
  have n:=λj=>Atv (P:=P) main dy j w h1 h2
  have d:∀todo:List Item,(∀j∈todo,V3 j)->(GStep.go {frame:={fr with todo},callers:=cs,status:=.running,dying:=dy} w).fine:=λtodo h=>Dn (fr:={fr with todo}) h h2
  unfold stepG.exec;dsimp only;split
  · exact n none
  · exact n (some .ret)
  · rename_i b;exact d _ (Hl h1 b)
  · rename_i b;exact d _ (Hl h1 b)
  · rename_i b;exact d _ (Hl h1 b)
  · rename_i b;exact d _ (Hl h1 b)
  · rename_i b;exact d _ (Jk (Jk (Hl h1 b)))
  · rename_i b
    split
    · exact d _ (Jk (Hl h1 b))
    · trivial
  · rename_i b;exact d _ (Jk (Jj trivial (Hl h1 b)))
  · rename_i b;exact d _ (Jk (Jj trivial (Hl h1 b)))
  · rename_i b;exact d _ (Jk (Jj trivial (Hl h1 b)))
  · rename_i b;exact d _ (Jk (Jj trivial (Hl h1 b)))
  · rename_i u k b
    cases s:exitTo u k with
    | none=>exact n (some (.exit u))
    | some t=>exact d _ (Alc (Hl h1 b) s)
  · rename_i l k b
    cases s:gotoIn l k with
    | none=>exact n (some (.goto l))
    | some t=>exact d _ (Alb (Hl h1 b) s)
  · rename_i f A assign body k b
    generalize m:Sem.runT P _ w #[]=r;obtain⟨r,ev⟩:=r;cases r with
    | ok a o=>
      obtain⟨l,x⟩:=a;exact Dl (Ri (fr:={fr with todo:=.inRangeFunc l::k,defers:=x++fr.defers}) dy o (Jj trivial (Hl h1 b)) h2 (Ea spz λ_=>Lr q _ _)) λ_=>Abn spz _ m trivial
    | halt h o=>exact Dl trivial λc=>c.elim
  · trivial
  · refine Ri dy w h1 h2 (Ea ?_ λ_=>He trivial)
    cases fr.roundOf with
    | none=>exact Dy
    | some l=>exact Qq l
  · rename_i l k b
    generalize m:Sem.runT P _ w #[]=r;obtain⟨r,ev⟩:=r;cases r with
    | ok jump o=>
      refine Dl (Dn (fr:={fr with todo:=(jump.map Item.code).toList++k}) ?_ h2) λ_=>Abn spz _ m trivial
      intro j e;rcases List.mem_append.1 e with e | e
      · cases jump with
        | none=>simp at e
        | some c=>simp at e;subst e;trivial
      · exact Hl h1 b j e
    | halt h o=>
      cases h
      case panic v=>exact Dl (Dn (O9 h1 _) h2) λ_=>Abn spz _ m trivial
      all_goals exact Dl trivial λc=>c.elim
  · trivial
  · exact Ri dy w h1 h2 (Lr q _ _)
  · rename_i row args k b
    have z:row= "runtime.print$piece" :=h1 (.extern row args) (by rw[b];exact Bau);subst z;rw[Ahh];exact Ri dy w h1 h2 (Ad0 _ _ _)
  · rename_i u y draw k b
    split
    · exact d _ (Jj trivial (Hl h1 b))
    · split
      · exact Dn (fr:={fr with todo:=.inRegion y _::k}) (Jj trivial (Hl h1 b)) h2
      · trivial
  · rename_i b;exact d _ (Hl h1 b)
  · split
    · exact Azo q dy w h1 h2
    · exact Dn (I8 h1 _) h2
theorem Abm (q:OkP P)(dy:Option Dying)(d:Deferred)(w:World)(h1:Zi fr)(h2:Aiw cs):(callDeferred P fr cs dy d w).fine:=by
  have e:=Lr q d.target d.args;have p:=Z5 (w:=w) (es:=#[]) e;unfold callDeferred;dsimp only;split<;>split<;>(try trivial)
  all_goals
    generalize j:Sem.runT P _ w #[]=r at p;obtain⟨r,ev⟩:=r;cases r with
    | ok a n=>
      refine Dl ?_ λ_=>Ace e _ j trivial
      have o:=p a ⟨n,rfl⟩;cases a<;>first | exact o.elim | skip
      case value v=>exact Dn h1 h2
      case skip=>exact Dn h1 h2
      case enter f args=>exact Dn (Q9 _ _ _) (Nc h1 h2)
      case round l f t a b=>exact Dn (Ahf _ _ _ _ _ _) (Nc h1 h2)
      case defer d=>exact Dn h1 h2
      case spawn d=>exact Dn h1 h2
      case comm c b x=>exact Dn h1 h2
      case row r args=>
        obtain rfl:r= "runtime.print$piece" :=o;exact Dn (Aqw _ _) (Nc h1 h2)
      case recover=>
        dsimp only;split
        · rename_i s;exact Dn h1 (Tc h2 s)
        · exact Dn h1 h2
      case coroswitch c b=>
        cases b
        · trivial
        · exact⟨⟨h1,h2⟩,rfl⟩
    | halt h n=>
      cases h
      case panic v=>exact Dl (Dn (O9 h1 _) h2) λ_=>Ace e _ j trivial
      case goexit=>exact Dl (Dn (O9 h1 _) h2) λ_=>Ace e _ j trivial
      case blocked=>exact Dl (Dn (fr:={fr with defers:=d::fr.defers}) h1 h2) λc=>by cases c
      case waiting=>exact Dl (Dn (fr:={fr with defers:=d::fr.defers}) h1 h2) λc=>by cases c
      case exit c=>exact Qj
      case fatal m=>exact Dl (Aak dy m n h1) λ_=>Ace e _ j trivial
      case throw m=>exact Dl (Us _ _ _ n h1) λ_=>Ace e _ j trivial
      case stuck m=>exact Qj
      case unsupported u=>exact Qj
theorem Ao6 (d:OkP P)(main:Bool)(dy:Option Dying)(w:World)(h1:Zi fr)(h2:Aiw cs):(unwind P main fr cs dy w).fine:=by
  unfold unwind;split
  · rename_i block _ f _
    generalize c:Sem.runT P _ w #[]=r;obtain⟨r,ev⟩:=r;cases r with
    | ok a b=>exact Dl (Dn (fr:={fr with defers:=a++f}) h1 h2) λ_=>Abn spz _ c trivial
    | halt h b=>exact Qj
  · exact Abm d (fr:={fr with defers:=_}) dy _ w h1 h2
  · split
    · trivial
    · split
      · trivial
      · split
        · exact Dn (O9 (h2 _ Bau) _) (λx e=>h2 x (A87 _ e))
        · split
          · split
            · exact Dn h1 Ko
            · split
              · exact Dn h1 Ko
              · trivial
              · trivial
          · split
            · exact V7 _ w h1
            · trivial
    · split
      · exact Vm main dy _ w h1 h2
      · generalize c:Sem.runT P _ w #[]=r
        obtain⟨r,ev⟩:=r;cases r with
        | ok a b=>exact Dl (Vm main dy a b h1 h2) λ_=>Abn (Acg _ _) _ c trivial
        | halt h b=>cases h<;>exact Qj
theorem A24 (m:OkP P)(d:Dying)(w:World)(h1:Zi fr):(die P fr d w).fine:=by
  unfold die;split
  · rename_i f _
    cases l:f.pieces with
    | nil=>unfold writeOn;simp only[l];trivial
    | cons piece rest=>
      obtain⟨X,n,hF⟩:=Abw (P:=P) fr d f piece rest l;have j:=Ya n w #[] rfl Vu;rw[hF];generalize X.runT P w #[]=r at j;obtain⟨r,ev⟩:=r;cases r with
      | ok a b=>exact⟨⟨h1,Ko⟩,(λ_ h=>by cases h),λ_=>j.2 trivial⟩
      | halt h b=>cases h<;>first | exact Dn h1 Ko | trivial
  · split
    · split
      · exact Dn h1 Ko
      · unfold endWith
        dsimp only;repeat' first | trivial | split
    · dsimp only
      split
      · exact Dn h1 Ko
      · split
        · exact Dn h1 Ko
        · trivial
      · rename_i t recv name _
        have c:=Lr m (.fn (.method name) #[]) #[.iface t recv];generalize e:Sem.runT P _ w #[]=r;obtain⟨r,ev⟩:=r;cases r with
        | ok a b=>
          cases a
          case enter f args=>exact Dl (Dn (Q9 _ _ _) Ko) λ_=>Ace c _ e trivial
          case value x=>
            cases x
            case string s=>exact Dl (Dn h1 Ko) λ_=>Ace c _ e trivial
            all_goals exact Qj
          all_goals exact Qj
        | halt h b=>
          cases h
          case panic v=>exact Dl (V7 v b h1) λ_=>Ace c _ e trivial
          all_goals exact Qj
      · trivial
theorem Ur (a:OkP P)(main:Bool)(g:Goroutine)(hg:OkG g)(w:World):(stepG P main g w).fine:=by
  unfold stepG;obtain⟨fr,cs,c,b,off⟩:=g;dsimp only;split
  · exact A24 a _ w hg.1
  · exact Azp a main _ w hg.1 hg.2
  · exact Ao6 a main _ w hg.1 hg.2
end
open Go.Conc
def Zf (gs:Array Goroutine):Prop:=∀g∈gs,g.status≠.blocked
abbrev Aga (ready:List (Nat × CommCase × List Way)):Sem (Nat × CommCase × Way):=do
 let a <-choose (.select ready.length)
 let (k,c,ws):=ready.getD a (0,default,[])
 let b <-choose (.extern "which waiting goroutine is the partner" ws.length)
 pure (k,c,ws.getD b .closed)
section
variable {P : Program}{w : World}{gs gs' : Array Goroutine}
theorem Hf (h:Zf gs)(r:Nat)(b:Bool):partners gs r b=[]:=by
 unfold partners;refine List.flatMap_eq_nil_iff.2 λx e=>?_
 obtain⟨g,i⟩:=x;have a:g∈gs:=by
  have d:=Array.mem_zipIdx (Array.mem_toList_iff.1 e);rw[d.2.2];exact Array.getElem_mem _
 have:=h g a
 dsimp only;split
 ·rename_i c _;exact absurd c this
 ·rfl
theorem zs0 {p:Prop}(h:p:=by
 split at hx
 ·simp at hx;subst hx;simp
 ·rw[Hf h] at hx
  dsimp only at hx;split at hx
  ·simp at hx;subst hx;simp
  ·simp at hx):p:=h
theorem Adp (h:Zf gs)(c:CommCase):ways w gs c=ways w #[] c/\∀x∈ways w gs c,∀a b,x≠.partner a b:=by
 have d:Zf #[]:=λg e=>by simp at e
 constructor
 ·unfold ways
  split
  ·split
   ·split
    ·rfl
    ·rw[Hf h,Hf d]
   ·split
    ·rfl
    ·rw[Hf h,Hf d]
   ·rfl
  ·rfl
 ·intro x hx a b
  unfold ways at hx;split at hx
  ·split at hx
   ·exact zs0
   ·exact zs0
   ·simp at hx
  ·simp at hx
theorem Aup (ready:List (Nat × CommCase × List Way)):Calm P (Aga ready):=Calm.bind Ld λ_=>Calm.bind Ld λ_=>Ak
theorem Aiu {ready:List (Nat × CommCase × List Way)}(hr:∀x∈ready,∀y∈x.2.2,∀a b,y≠.partner a b){k:Nat}{c:CommCase}{way:Way}{w':World}(h:(Aga ready).run P w=.ok (k,c,way) w'):∀a b,way≠.partner a b:=by
 have key:∀(a b:Nat) (k:Nat) (c:CommCase) (d:List Way),ready.getD a (0,default,[])=(k,c,d)->∀x y,d.getD b .closed≠.partner x y:=by
  intro a b k c d e x y;have l:∀z∈d,∀x y,z≠.partner x y:=by
   rw[List.getD_eq_getElem?_getD] at e;cases f:ready[a]? with
   | none=>rw[f] at e;cases e;intro z j;simp at j
   | some q=>
    rw[f] at e;simp only[Option.getD_some] at e;intro z j;exact hr q (Baz f) z (by rw[e];exact j)
  rw[List.getD_eq_getElem?_getD];cases f:d[b]? with
  | none=>simp
  | some q=>exact l q (Baz f) x y
 have n:Sat P (λz:Nat × CommCase × Way=>∀a b,z.2.2≠.partner a b) 0 (Aga ready):=by
  refine Ea Ld λa=>?_
  generalize m:ready.getD a (0,default,[])=z;obtain⟨k,c,d⟩:=z;refine Ea Ld λb=>He ?_
  exact key a b k c d m
 have:=Z5 (w:=w) (es:=#[]) n (k,c,way) ⟨w',by rw[Sem.runT_eq];exact h⟩
 exact this
def fin:Goroutine:={(default:Goroutine) with status:=.finished}
def Uu (P:Program)(g:Goroutine)(cs:Array CommCase)(b:Bool)(sh:CommShape)(w:World):GStep:=
 match communicate P {timers:=#[],alone:=none,slice:=none} #[fin] 0 g cs b sh w with
 | (.next m,_)=>.go (m.gs.getD 0 default) m.world
 | (.ended o w,_)=>.ended o w
def Azz (P:Program)(g:Goroutine)(cs:Array CommCase)(b:Bool)(sh:CommShape)(w:World):Array MemOp:=
 (communicate P {timers:=#[],alone:=none,slice:=none} #[fin] 0 g cs b sh w).2
theorem Kv:Zf #[fin]:=λg a=>by
 simp at a;subst a;simp[fin]
theorem Zq (rest:Rest)(h:rest.timers=#[])(cs:Array CommCase)(w:World):waitingAt rest cs w=some w:=by
 unfold waitingAt;have:timerAhead rest w.os.mono cs=false:=by
  unfold timerAhead;rw[h];rw[Array.any_eq_false];intro i hi;split<;>simp
 rw[this];rfl
theorem Aa9 (h:Zf gs)(l:List (CommCase × Nat)):∀x∈(l.map λ(c,k)=>(k,c,ways w gs c)).filter (λ(_,_,d)=>!d.isEmpty),∀y∈x.2.2,∀a b,y≠.partner a b:=by
 intro x e y f;obtain⟨z,_,rfl⟩:=List.mem_map.1 (List.mem_filter.1 e).1;exact(Adp h z.1).2 y f
theorem Ae7 {sl:Option (Nat × Nat)}(h:Zf gs)(_h0:0<gs.size)(g:Goroutine)(cs:Array CommCase)(b:Bool)(sh:CommShape)(w:World):
  communicate P {timers:=#[],alone:=none,slice:=sl} gs 0 g cs b sh w=
   (match Uu P g cs b sh w with
    | .go p d _=>.next {world:=d,gs:=gs.setIfInBounds 0 p,rest:={timers:=#[],alone:=none,slice:=sl} }
    | .ended o d _=>.ended o d
    | _=>.ended default default,Azz P g cs b sh w):=by
 unfold Uu Azz;have q:∀c,ways w gs c=ways w #[fin] c:=λc=>((Adp h c).1).trans ((Adp Kv c).1).symm
 unfold communicate;simp only[q];have f:=Aa9 (w:=w) Kv cs.zipIdx.toList;split
 ·rfl
 ·split
  ·split
   ·rw[Zq _ rfl,Zq _ rfl]
    simp
   ·simp
  ·generalize l:(List.filter _ _:List (Nat × CommCase × List Way))=ready
   have m:∀x∈ready,∀y∈x.2.2,∀a b,y≠.partner a b:=by rw[<-l];exact f
   cases n:(Aga ready).run P w with
   | halt e d=>rfl
   | ok z d=>
    obtain⟨k,c,way⟩:=z;have j:=Aiu m n;dsimp only;cases way with
    | partner a b=>exact absurd rfl (j a b)
    | sendClosed=>
     dsimp only;cases s:(runtimePanic (.plain "send on closed channel"):Sem Unit).run P d with
     | ok a r=>rfl
     | halt e r=>cases e<;>first | rfl | simp
    | closed=>simp
    | buffer=>
     rw[Hf h,Hf Kv];split<;>first | (simp;done) | (exfalso;simp_all;done)
end
section
variable {P : Program}{w : World}
def chanOf (c:CommCase):Nat:=match c.chan with | .chan (some r)=>r | _=>0
def Amj (P:Program)(g:Goroutine)(cs:Array CommCase)(sh:CommShape)(k:Nat)(c:CommCase)(way:Way)(w:World):GStep:=
  match way with
  | .sendClosed=>match (runtimePanic (.plain "send on closed channel"):Sem Unit).run P w with
    | .halt (.panic v) w=>.go {g with frame:=g.frame.raise [{v,recovered:=false}]} w
    | _=>.ended (.stuck "communicate" "") w
  | .closed=>.go (g.finishComm P cs sh k c.zero false) w
  | .buffer=>match w.heap[chanOf c]?,c.send with
    | some (.chan cap a d s r b),some v=>.go (g.finishComm P cs sh k undef false) {w with heap:=w.heap.setIfInBounds (chanOf c) (.chan cap (a.push v) d (s+1) r b)}
    | some (.chan cap a d s r b),none=>.go (g.finishComm P cs sh k (a.getD 0 undef) true) {w with heap:=w.heap.setIfInBounds (chanOf c) (.chan cap (a.extract 1 a.size) d s (r+1) b)}
    | _,_=>.ended (.stuck "communicate: no such channel" "") w
  | _=>.ended (.stuck "communicate: no such channel" "") w
def Axx (P:Program)(g:Goroutine)(cs:Array CommCase)(sh:CommShape):Result (Nat × CommCase × Way)->GStep
  | .ok (k,c,way) a=>Amj P g cs sh k c way a
  | .halt _ a=>.ended (.stuck "communicate" "") a
def Wx (cs:Array CommCase)(w:World):List (Nat × CommCase × List Way):=(cs.zipIdx.toList.map λ(c,k)=>(k,c,ways w #[fin] c)).filter λ(_,_,a)=>!a.isEmpty
theorem Ae8 (g:Goroutine)(cs:Array CommCase)(b:Bool)(sh:CommShape)(w:World):
    (∃o,∀d:World,d.heap=w.heap->Uu P g cs b sh d=.ended o d)\/
    (∃j,j={g with status:=.blocked,offers:=some (cs,sh)}/\∀d:World,d.heap=w.heap->Uu P g cs b sh d=.go j d)\/
    (∃j,j=g.finishComm P cs sh (-1) undef false/\∀d:World,d.heap=w.heap->Uu P g cs b sh d=.go j d)\/
    (∀d:World,d.heap=w.heap->Uu P g cs b sh d=Axx P g cs sh ((Aga (Wx cs w)).run P d)):=by
  have n:∀d:World,d.heap=w.heap->∀c,ways d #[fin] c=ways w #[fin] c:=λd h c=>by unfold ways;rw[h]
  have u:∀x∈Wx cs w,∀y∈x.2.2,∀a b,y≠.partner a b:=Aa9 (w:=w) Kv cs.zipIdx.toList;by_cases e:cs.any (λc=>match c.chan with | .chan none=>false | .chan (some r)=>!(w.heap[r]? matches some (.chan ..)) | _=>true)=true
  · refine .inl ⟨.stuck "a communication at a channel whose block is no channel's" (g.frame.pos P),λd h=>?_⟩
    unfold Uu communicate;rw[h];dsimp only;split
    · rename_i f;split at f
      · cases f
      · rename_i q;exact absurd e q
    · rename_i f;split at f
      · cases f;rfl
      · rename_i q;exact absurd e q
  · by_cases p:(Wx cs w).isEmpty=true
    · cases b
      · refine .inr (.inr (.inl ⟨_,rfl,λd h=>?_⟩))
        unfold Uu communicate;simp only[n d h];rw[h];refine(congrArg (λx:Stepped × Array MemOp=>match x with | (.next m,_)=>GStep.go (m.gs.getD 0 default) m.world | (.ended o w,_)=>.ended o w) ((if_neg e).trans (if_pos p))).trans ?_;simp
      · refine .inr (.inl ⟨_,rfl,λd h=>?_⟩)
        unfold Uu communicate;simp only[n d h];rw[h];refine(congrArg (λx:Stepped × Array MemOp=>match x with | (.next m,_)=>GStep.go (m.gs.getD 0 default) m.world | (.ended o w,_)=>.ended o w) ((if_neg e).trans (if_pos p))).trans ?_;rw[Zq _ rfl];simp
    · refine .inr (.inr (.inr λd h=>?_))
      unfold Uu communicate;simp only[n d h];rw[h];refine(congrArg (λx:Stepped × Array MemOp=>match x with | (.next m,_)=>GStep.go (m.gs.getD 0 default) m.world | (.ended o w,_)=>.ended o w) ((if_neg e).trans (if_neg p))).trans ?_;generalize v:(List.filter _ _:List (Nat × CommCase × List Way))=ready;obtain rfl:Wx cs w=ready:=v;cases A:(Aga (Wx cs w)).run P d with
      | halt t l=>rfl
      | ok z l=>
        obtain⟨k,c,way⟩:=z;have B:=Aiu u A;cases way with
        | partner a b=>exact absurd rfl (B a b)
        | sendClosed=>
          simp only[Axx,Amj];cases (runtimePanic (.plain "send on closed channel"):Sem Unit).run P l with
          | ok a C=>rfl
          | halt t C=>cases t<;>rfl
        | closed=>rfl
        | buffer=>
          simp only[Axx,Amj];rw[Hf Kv]
          cases D:c.send<;>(cases s:c.chan<;>first
            | (rename_i o
               cases o<;>simp only[chanOf,s]<;>(generalize (l.heap[(_:Nat)]?:Option Obj)=o;rcases o with _ | o<;>first | rfl | (cases o<;>first | rfl | simp)))
            | (simp only[chanOf,s];(generalize (l.heap[(_:Nat)]?:Option Obj)=o;rcases o with _ | o<;>first | rfl | (cases o<;>first | rfl | simp))))
end
section
variable {g:Goroutine}
variable {P : Program}{w : World}
def _root_.Go.GStep.put (w:World):GStep->GStep:=GStep.turn λ_=>w
theorem Gl.next {F:World->GStep}(nxt:GStep->GStep)(hF:Gl F w)(h:Gl (λx=>nxt ((F w).put x)) (F w).w)(q:(nxt (F w)).cont->(F w).cont):Gl (λw=>nxt (F w)) w:=by
 obtain⟨h1,l,K,z,t,y⟩:=hF;have u:(F w).put (F w).w=F w:=by cases F w<;>rfl
 obtain⟨f,b,L,j,d,m⟩:=h;simp only[u] at f b j d m;refine⟨f.trans h1,A9f l b,max K L,A9f j (Bbp _ _),λc=>?_,fun a s e n hA=>?_⟩
 ·rw[t (q c),d c]
  exact Nat.max_eq_right b
 ·have r:=y a s e n (hA.mono (Bb6 _ _))
  have v:=m a s e (A9f n l) yEd;have o:(F w).turn (rt a s e)=(F w).put (rt a s e (F w).w):=by cases F w<;>rfl
  simp only[r];rw[o];exact v
theorem Ayk (g:Goroutine)(cs:Array CommCase)(sh:CommShape)(k:Nat)(c:CommCase)(way:Way)(w:World):Gl (λw=>Amj P g cs sh k c way w) w:=by
 unfold Amj;cases way with
 | partner a b=>exact(Ba _ _).loc w
 | closed=>exact(Dp _ _).loc w
 | sendClosed=>
  have f:=Calm.loc (Ph (P:=P) (α:=Unit) (.plain "send on closed channel")) w #[];have e:∀w,(runtimePanic (.plain "send on closed channel"):Sem Unit).run P w=((runtimePanic (.plain "send on closed channel"):Sem Unit).runT P w #[]).1:=λw=>by rw[Sem.runT_eq]
  simp only[e];generalize j:(runtimePanic (.plain "send on closed channel"):Sem Unit).runT P w #[]=r;obtain⟨r,ev⟩:=r;cases r with
  | ok a u=>exact Gl.caseOld f j (Ba (.stuck "communicate" "") #[]) (λw c=>c) λq t h=>by simp only[h,Result.put]
  | halt h u=>
   cases h
   case panic v=>exact Gl.case f j ((Dp {g with frame:=g.frame.raise [{v,recovered:=false}]} #[]).loc u) (λ_ x=>x) λq t h=>by simp only[h,Result.put]
   all_goals exact Gl.caseOld f j (Ba (.stuck "communicate" "") #[]) (λw c=>c) λq t h=>by simp only[h,Result.put]
 | buffer=>
  refine Gl.const ?_ ?_ fun p s e _=>?_
  ·dsimp only
   split<;>rfl
  ·dsimp only
   split<;>rfl
  ·dsimp only
   show(match w.heap[chanOf c]?,c.send with
    | some (.chan cap d n m r l),some v=>GStep.go (g.finishComm P cs sh k undef false) {rt p s e w with heap:=w.heap.setIfInBounds (chanOf c) (.chan cap (d.push v) n (m+1) r l)}
    | some (.chan cap d n m r l),none=>GStep.go (g.finishComm P cs sh k (d.getD 0 undef) true) {rt p s e w with heap:=w.heap.setIfInBounds (chanOf c) (.chan cap (d.extract 1 d.size) n m (r+1) l)}
    | _,_=>GStep.ended (.stuck "communicate: no such channel" "") (rt p s e w))=_
   rcases w.heap[chanOf c]? with _ | o
   ·cases c.send<;>rfl
   ·cases o<;>cases c.send<;>rfl
theorem Ayj (g:Goroutine)(cs:Array CommCase)(b:Bool)(sh:CommShape)(w:World):Gl (λw=>Uu P g cs b sh w) w:=by
 rcases Ae8 (P:=P) g cs b sh w with⟨o,h⟩ | ⟨d,_,h⟩ | ⟨d,_,h⟩ | h
 ·exact((Ba o #[]).loc w).like (h w rfl) fun f s e=>h _ rfl
 ·exact((Dp d #[]).loc w).like (h w rfl) fun f s e=>h _ rfl
 ·exact((Dp d #[]).loc w).like (h w rfl) fun f s e=>h _ rfl
 ·refine Gl.like (G:=λj=>Axx P g cs sh ((Aga (Wx cs w)).run P j)) ?_ (h w rfl) fun f s e=>h _ rfl
  refine Gl.bindR (P:=P) (x:=Aga (Wx cs w)) (Axx P g cs sh) (Calm.loc (Aup _) w #[]) ?_ ?_
  ·generalize Sem.run P _ w=r
   cases r with
   | ok a w'=>obtain⟨k,c,way⟩:=a;exact Ayk g cs sh k c way w'
   | halt h w'=>exact(Ba _ _).loc _
  ·exact zn0
theorem P9 (h:OkG g)(cs:Array CommCase)(sh:CommShape)(k:Int)(v:Value)(ok:Bool):OkG (g.finishComm P cs sh k v ok):=⟨I8 h.1 _,h.2⟩
theorem At5 (hg:OkG g)(hr:g.status=.running)(cs:Array CommCase)(b:Bool)(sh:CommShape)(w:World):(∃o d,Uu P g cs b sh w=.ended o d)\/∃e d,Uu P g cs b sh w=.go e d/\OkG e/\∀t,e.status≠.sleeping t:=by
 have j:∀k c way w,(∃o d,Amj P g cs sh k c way w=.ended o d)\/∃e d,Amj P g cs sh k c way w=.go e d/\OkG e/\∀t,e.status≠.sleeping t:=by
  intro k c way w;unfold Amj;have f:∀(k:Int) v ok,∀t,(g.finishComm P cs sh k v ok).status≠.sleeping t:=λ_ _ _ _ h=>by cases h
  cases way with
  | partner a b=>exact .inl ⟨_,_,rfl⟩
  | closed=>exact .inr ⟨_,_,rfl,P9 hg _ _ _ _ _,f _ _ _⟩
  | sendClosed=>
   dsimp only;split
   ·exact .inr ⟨_,_,rfl,⟨O9 hg.1 _,hg.2⟩,λt h=>by rw[show g.status=_ from h] at hr;cases hr⟩
   ·exact .inl ⟨_,_,rfl⟩
  | buffer=>
   dsimp only;split
   ·exact .inr ⟨_,_,rfl,P9 hg _ _ _ _ _,f _ _ _⟩
   ·exact .inr ⟨_,_,rfl,P9 hg _ _ _ _ _,f _ _ _⟩
   ·exact .inl ⟨_,_,rfl⟩
 rcases Ae8 (P:=P) g cs b sh w with⟨o,h⟩ | ⟨e,rfl,h⟩ | ⟨e,rfl,h⟩ | h
 ·exact .inl ⟨_,_,h w rfl⟩
 ·exact .inr ⟨_,_,h w rfl,hg,λt h=>by cases h⟩
 ·exact .inr ⟨_,_,h w rfl,P9 hg _ _ _ _ _,λt h=>by cases h⟩
 ·rw[h w rfl]
  generalize (Aga (Wx cs w)).run P w=r;cases r with
  | ok a d=>obtain⟨k,c,way⟩:=a;exact j k c way d
  | halt h d=>exact .inl ⟨_,_,rfl⟩
end
end Go.Co
