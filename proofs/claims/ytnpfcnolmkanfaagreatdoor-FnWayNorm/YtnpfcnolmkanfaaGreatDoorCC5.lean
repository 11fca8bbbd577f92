import Derived.Test.YtnpfcnolmkanfaaGreatDoorCB9
namespace Go.Co
def Ah8 (cs:List Frame):Prop:=∀c∈cs,Zx c
def _root_.Go.GStep.fine:GStep->Prop
 | .go g _ a=>OkG g/\(∀t,g.status≠.sleeping t)/\(g.status=.running->deafBehind 0 a=0)
 | .comm g _ _ _ _ a=>OkG g/\g.status=.running/\deafBehind 0 a=0
 | .coroswitch g _ _ _ a=>OkG g/\deafBehind 0 a=0
 | .spawn .. | .ended ..=>True
 | _=>False
section
variable {cs:List Frame}{fr:Frame}
variable {P : Program}{w : World}
theorem Aix (es a:Array Event)(h:deafBehind 0 es=0):deafBehind 0 (es++a)=deafBehind 0 a:=by
 unfold deafBehind at*;rw[Array.foldl_append,h]
theorem Dl {es:Array Event}{x:GStep}(h:x.fine)(hd:x.cont->deafBehind 0 es=0):(GStep.after es x).fine:=by
 cases x with
 | go g w a=>exact⟨h.1,h.2.1,λd=>by rw[Aix _ _ (hd d)];exact h.2.2 d⟩
 | comm g c b e w a=>exact⟨h.1,h.2.1,by rw[Aix _ _ (hd trivial)];exact h.2.2⟩
 | coroswitch g c b w a=>exact⟨h.1,by rw[Aix _ _ (hd trivial)];exact h.2⟩
 | spawn g c w a=>trivial
 | ended o w a=>trivial
 | _=>exact h
theorem Dn {st:GoStatus}{dy:Option Dying}(h1:Zx fr)(h2:Ah8 cs)(hst:∀t,st≠.sleeping t:=by intro _ h;cases h):(GStep.go {frame:=fr,callers:=cs,status:=st,dying:=dy} w).fine:=⟨⟨h1,h2⟩,hst,λ_=>rfl⟩
theorem J4:Ah8 []:=λ_ h=>by cases h
theorem Me (h1:Zx fr)(b:Ah8 cs):Ah8 (fr::cs):=λc a=>(List.mem_cons.1 a).elim (λe=>e ▸ h1) (b c)
theorem Ox (h:Zx fr)(vs:List PanicEntry):Zx (fr.raise vs):=by
 unfold Frame.raise;split<;>exact h
theorem Rf (f:FuncId)(args:Array Value)(k:CallKind):Zx (Frame.enter P f args k):=by
 intro i hi;simp only[Frame.enter,A6h] at hi;subst hi;trivial
theorem Agv (l:Nat)(f:FuncId)(t:Array Value)(a b:Code)(k:CallKind):Zx (Frame.round l f t a b k):=by
 intro i hi;simp only[Frame.round,A6n,A68,A7u] at hi;rcases hi with rfl | rfl | rfl<;>trivial
theorem Apj (args:Array Value)(k:CallKind):Zx (Frame.ofRow P "runtime.print$piece" args k):=by
 intro i hi;simp only[Frame.ofRow,A6h] at hi;subst hi;rfl
theorem I9 (h:Zx fr)(v:Value):Zx (fr.finish v):=by
 unfold Frame.finish;unfold Zx at h;split
 ·rename_i f i rest k e
  rw[e] at h;intro j c;rcases List.mem_cons.1 c with rfl | c
  ·trivial
  ·exact h j (A56 _ c)
 ·rename_i l k e
  rw[e] at h;intro j c;rcases List.mem_cons.1 c with rfl | c
  ·trivial
  ·exact h j (A56 _ c)
 ·rename_i k e
  rw[e] at h;exact λj c=>h j (A56 _ c)
 ·rename_i d b r s k e
  rw[e] at h;intro j c;rcases List.mem_cons.1 c with rfl | c
  ·exact h (.call d b r s) A7r
  ·exact h j (A56 _ c)
 ·rename_i r a k e
  rw[e] at h;exact λj c=>h j (A56 _ c)
 ·exact h
theorem Tc:∀{fr:Frame} {cs:List Frame} {v:Value} {a:List Frame},Ah8 cs->tryRecover fr cs=some (v,a)->Ah8 a:=by
 intro fr cs;induction cs generalizing fr with
 | nil=>
  intro v a _ h;unfold tryRecover at h;cases b:fr.kind<;>simp[b] at h
 | cons c cs m=>
  intro v a f h;have e:=f c A7r;have j:Ah8 cs:=λx l=>f x (A56 _ l)
  unfold tryRecover at h;cases b:fr.kind<;>simp only[b] at h
  case deferred=>
   split at h
   ·cases h
    exact Me e j
   ·cases h
  case wrapped=>
   cases d:tryRecover c cs with
   | none=>rw[d] at h;cases h
   | some x=>
    rw[d] at h;obtain⟨o,n⟩:=x;cases h;exact Me e (m j d)
  all_goals cases h
theorem Acu:∀{l:Nat} {cs:List Frame} {v:Value} {b:List Frame},Ah8 cs->tryRecoverLoop l cs=some (v,b)->Ah8 b:=by
 intro l cs;induction cs generalizing l with
 | nil=>intro v b _ h;cases h
 | cons c cs e=>
  intro v b f h;have m:=f c A7r;have d:Ah8 cs:=λx a=>f x (A56 _ a)
  unfold tryRecoverLoop at h;obtain⟨x,a,j⟩:=Option.map_eq_some_iff.1 h;obtain⟨n,o⟩:=x;cases j;refine Me m ?_;split at a
  ·exact e d a
  ·split at a
   ·exact Tc d a
   ·exact e d a
  ·exact e d a
theorem Ve (main:Bool)(dy:Option Dying)(v:Value)(w:World)(h1:Zx fr)(h2:Ah8 cs):(doReturn P main fr cs dy v w).fine:=by
 unfold doReturn;cases cs with
 | cons c cs=>
  have a:=h2 c A7r;have b:Ah8 cs:=λx d=>h2 x (A56 _ d)
  dsimp only;split
  ·exact Dn (I9 a v) b
  ·exact Dn (I9 a v) b
  ·exact Dn a b
  ·refine Dn ?_ b
   split
   ·split<;>exact a
   ·exact a
 | nil=>
  dsimp only;split
  ·exact Dn h1 J4
  ·trivial
  ·split
   ·exact Dn h1 J4
   ·split
    ·exact Dn (Rf _ _ _) J4
    ·trivial
theorem Un (l:List ByteArray)(m:String)(b:Bool)(w:World)(h:Zx fr):(dieOf fr l m b w).fine:=Dn h J4
theorem V7 (v:Value)(w:World)(h:Zx fr):(endPrinting P fr v w).fine:=by
 unfold endPrinting;dsimp only;split
 ·exact Un _ _ _ w h
 ·trivial
theorem Aau (a:Option Dying)(m:String)(w:World)(h:Zx fr):(endFatal P fr cs a m w).fine:=by
 unfold endFatal;dsimp only;split
 ·exact Un _ _ _ _ h
 ·trivial
 ·trivial
theorem Asi (dy:Option Dying)(g:Nat)(w:World)(h1:Zx fr)(h2:Ah8 cs):(early P fr cs dy g w).fine:=by
 have a:∀w:World,(match w.heap[g]? with
   | some (.pending c elem)=>GStep.go {frame:=fr,callers:=cs,status:=.running,dying:=dy} {w with heap:=w.heap.setIfInBounds g (.cells c elem)}
   | _=>.ended (.stuck "early: the variable does not wait" (fr.pos P)) w).fine:=by
  intro w;split
  ·exact Dn h1 h2
  ·trivial
 have d:∀(f:FuncId) (w:World) (l:List FuncId),(GStep.go {frame:=Frame.enter P f #[] .early,callers:=l.map (Frame.enter P · #[] .early)++fr::cs,status:=.running,dying:=dy} w).fine:=by
  intro f w l;refine Dn (Rf _ _ _) λc b=>?_
  rcases List.mem_append.1 b with b | b
  ·obtain⟨x,_,rfl⟩:=List.mem_map.1 b
   exact Rf _ _ _
  ·exact Me h1 h2 c b
 unfold early;dsimp only;split
 ·exact a w
 ·split
  ·trivial
  ·split
   ·exact a w
   ·split
    ·exact a w
    ·split
     ·trivial
     ·exact d _ _ _
     ·trivial
     ·exact a w
     ·split
      ·exact d _ _ _
      ·split
       ·exact a w
       ·split
        ·exact a _
        ·exact d _ _ _
        ·trivial
theorem Vp:Xu #[]:=λ_ h=>by simp at h
theorem Ri (dy:Option Dying){x:Sem Next}(w:World)(h1:Zx fr)(h2:Ah8 cs)(hx:Sat P Wh 0 x):(stepG.apply P true fr cs dy x w).fine:=by
 have s:=Aah (w:=w) (es:=#[]) hx;have p:=Yj hx w #[] rfl Vp;rw[Aqm];generalize F:x.runT P w #[]=r at s p;obtain⟨r,ev⟩:=r;have j:∀es:Array Event,(es=#[]\/es=ev)->(es=ev->Yw r)->deafBehind 0 (seen P fr.fn (if fr.kind==.early then #[] else es))=0:=by
  intro es y B;split
  ·rfl
  ·rcases y with rfl | rfl
   ·rfl
   ·rw[Ae0 _ _ p.1];exact p.2 (B rfl)
 cases r with
 | ok a e=>
  refine Dl ?_ λ_=>j _ (.inr rfl) λ_=>trivial
  have q:=s a ⟨e,rfl⟩;unfold stepG.apply;simp only[Aqs,if_true,Sem.runT,ite_self,H9,Gs,Result.w];cases a<;>first | exact q.elim | skip
  case value v=>exact Dn (I9 h1 v) h2
  case skip=>exact Dn (I9 h1 _) h2
  case enter f args=>exact Dn (Rf _ _ _) (Me h1 h2)
  case round l f t a b=>exact Dn (Agv _ _ _ _ _ _) (Me h1 h2)
  case defer d=>exact Dn (I9 (fr:={fr with defers:=d::fr.defers}) h1 _) h2
  case recover=>
   dsimp only;split
   ·rename_i v E n
    refine Dn (I9 h1 _) ?_;split at n
    ·split at n
     ·exact Tc h2 n
     ·exact Acu h2 n
    ·exact Tc h2 n
   ·exact Dn (I9 h1 _) h2
  case spawn d=>
   dsimp only;split<;>split<;>first | exact Un _ _ _ _ h1 | trivial
  case comm c b C=>exact⟨⟨h1,h2⟩,rfl,rfl⟩
  case coroswitch c b=>exact⟨⟨h1,h2⟩,rfl⟩
  case row r args=>
   obtain rfl:r= "runtime.print$piece" :=q;dsimp only;split
   ·rename_i G D k z
    refine Dn ?_ h2;intro i hi;rcases List.mem_cons.1 hi with rfl | hi
    ·rfl
    ·exact h1 i (by rw[z];exact A56 _ hi)
   ·exact Dn (Apj _ _) (Me h1 h2)
 | halt h e=>
  have o:∀h:Halt,Ad7 h->∀es,(stepG.apply P true fr cs dy (.halt h) e).cont->deafBehind 0 es=0:=λh A es c=>absurd A (Xk fr cs dy h e c)
  cases h
  case panic v=>
   refine Dl ?_ λ_=>j _ (.inr rfl) λ_=>trivial
   show(stepG.apply P true fr cs dy (.halt (.panic v)) e).fine
   unfold stepG.apply;simp only[if_true,Sem.runT,ite_self,H9,Gs];exact Dn (Ox h1 _) h2
  case goexit=>
   refine Dl ?_ λ_=>j _ (.inr rfl) λ_=>trivial
   show(stepG.apply P true fr cs dy (.halt .goexit) e).fine
   unfold stepG.apply;simp only[if_true,Sem.runT,ite_self,H9,Gs];exact Dn (Ox h1 _) h2
  case blocked=>
   refine Dl ?_ (o .blocked trivial _);show(stepG.apply P true fr cs dy (.halt .blocked) e).fine
   unfold stepG.apply;simp only[if_true,Sem.runT,ite_self,H9,Gs];exact Dn h1 h2
  case waiting=>
   refine Dl ?_ (o .waiting trivial _);show(stepG.apply P true fr cs dy (.halt .waiting) e).fine
   unfold stepG.apply;simp only[if_true,Sem.runT,ite_self,H9,Gs];exact Dn h1 h2
  case exit c=>
   refine Dl ?_ λ_=>j _ (.inr rfl) λ_=>trivial
   show(stepG.apply P true fr cs dy (.halt (.exit c)) e).fine
   unfold stepG.apply;simp only[if_true,Sem.runT,ite_self,H9,Gs];trivial
  case fatal m=>
   refine Dl ?_ λ_=>j _ (.inr rfl) λ_=>trivial
   show(stepG.apply P true fr cs dy (.halt (.fatal m)) e).fine
   unfold stepG.apply;simp only[if_true,Sem.runT,ite_self,H9,Gs];exact Aau dy m e h1
  case throw m=>
   refine Dl ?_ λ_=>j _ (.inr rfl) λ_=>trivial
   show(stepG.apply P true fr cs dy (.halt (.throw m)) e).fine
   unfold stepG.apply;simp only[if_true,Sem.runT,ite_self,H9,Gs];exact Un _ _ _ e h1
  case stuck m=>
   refine Dl ?_ (o (.stuck m) trivial _);show(stepG.apply P true fr cs dy (.halt (.stuck m)) e).fine
   unfold stepG.apply;simp only[if_true,Sem.runT,ite_self,H9,Gs];trivial
  case unsupported u=>
   by_cases hi:∃g,u=.initOrder g
   ·obtain⟨g,rfl⟩:=hi
    refine Dl ?_ λ_=>by show deafBehind 0 (seen P fr.fn (if fr.kind==.early then #[] else #[]))=0;split<;>rfl
    show(stepG.apply P true fr cs dy (.halt (.unsupported (.initOrder g))) e).fine
    unfold stepG.apply;simp only[if_true,Sem.runT,ite_self,H9,Gs];exact Asi dy g e h1 h2
   ·refine Dl ?_ (o (.unsupported u) (by cases u<;>first | trivial | exact absurd ⟨_,rfl⟩ hi) _)
    show(stepG.apply P true fr cs dy (.halt (.unsupported u)) e).fine
    unfold stepG.apply;cases u<;>first
     | exact absurd ⟨_,rfl⟩ hi
     | (simp only[if_true,Sem.runT,ite_self,H9,Gs];trivial)
end
section
variable {cs:List Frame}{ev:Array Event}{fr:Frame}{i:Item}{k:List Item}
variable {P : Program}{w : World}
theorem Aby {α:Type}{x:Sem α}(hx:Calm P x)(fn:FuncId){r:Result α}(hr:x.runT P w #[]=(r,ev))(hg:Yw r):deafBehind 0 (seen P fn ev)=0:=by
  have a:=Yj hx w #[] rfl Vp;rw[hr] at a;rw[Ae0 _ _ a.1];exact a.2 hg
theorem Ach {x:Sem Next}(hx:Sat P Wh 0 x)(fn:FuncId){r:Result Next}(hr:x.runT P w #[]=(r,ev))(hg:Yw r):deafBehind 0 (seen P fn ev)=0:=by
  have a:=Yj hx w #[] rfl Vp;rw[hr] at a;rw[Ae0 _ _ a.1];exact a.2 hg
theorem P7 {o:Outcome}{es a:Array Event}:(GStep.after es (.ended o w a)).fine:=trivial
theorem Hr (h:Zx fr)(a:fr.todo=i::k):∀j∈k,Vz j:=λj b=>h j (by rw[a];exact A56 _ b)
theorem Jj {c:Code}(h:∀j∈k,Vz j):∀j∈Item.code c::k,Vz j:=λj a=>(List.mem_cons.1 a).elim (λe=>e ▸ trivial) (h j)
theorem Ji (hi:Vz i)(h:∀j∈k,Vz j):∀j∈i::k,Vz j:=λj a=>(List.mem_cons.1 a).elim (λe=>e ▸ hi) (h j)
theorem Akm {f:Nat}:∀{k a:List Item},(∀j∈k,Vz j)->exitTo f k=some a->∀j∈a,Vz j:=by
  intro k;induction k with
  | nil=>intro a _ h;cases h
  | cons i k c=>
    intro a d h;have b:=λj e=>d j (A56 _ e)
    cases i<;>simp only[exitTo] at h<;>first
      | exact c b h
      | (split at h
         · cases h;exact b
         · exact c b h)
theorem Akl {l:Nat}:∀{k a:List Item},(∀j∈k,Vz j)->gotoIn l k=some a->∀j∈a,Vz j:=by
  intro k;induction k with
  | nil=>intro a _ h;cases h
  | cons i k c=>
    intro a d h;have b:=λj e=>d j (A56 _ e)
    cases i<;>simp only[gotoIn] at h<;>first
      | exact c b h
      | (split at h
         · cases h;exact Jj (Ji trivial b)
         · exact c b h)
theorem Asg (main:Bool)(dy:Option Dying)(jump:Option Code)(w:World)(h1:Zx fr)(h2:Ah8 cs):(
      match fr.roundOf with
      | none=>if jump matches none | some .ret then GStep.go {frame:={fr with mode:=.returning},callers:=cs,status:=.running,dying:=dy} w else .ended (.stuck "exit, goto: no such block or label" (fr.pos P)) w
      | some l=>
        let (r,es):=(Instr.endRound l jump).runT P w #[]
        GStep.after (seen P fr.fn es)<| match r with
        | .ok v w=>doReturn P main fr cs dy v w
        | .halt _ w=>.ended (.stuck "range over a function: no such loop" (fr.pos P)) w).fine:=by
  cases fr.roundOf with
  | none=>
    dsimp only;split<;>split<;>first | exact Dn h1 h2 | trivial
  | some l=>
    dsimp only;generalize b:Sem.runT P _ w #[]=r;obtain⟨r,ev⟩:=r;cases r with
    | ok v a=>exact Dl (Ve main dy v a h1 h2) λ_=>Aby spz _ b trivial
    | halt h a=>exact Dl trivial λc=>c.elim
theorem Axv (c:OkP P)(a:Option Dying)(w:World)(h1:Zx fr)(b:Ah8 cs):(stepG.oper P true fr cs a w).fine:=by
  unfold stepG.oper;split
  · trivial
  · split
    · exact Ri a w h1 b (D6 spz λ_=>D6 spz λ_=>Hl trivial)
    · exact Ri a w h1 b (Agk c _ _)
theorem Axw (u:OkP P)(main:Bool)(dy:Option Dying)(w:World)(h1:Zx fr)(h2:Ah8 cs):(stepG.exec P main true fr cs dy w).fine:=by
  have o:=λj=>Asg (P:=P) main dy j w h1 h2
  have d:∀todo:List Item,(∀j∈todo,Vz j)->(GStep.go {frame:={fr with todo},callers:=cs,status:=.running,dying:=dy} w).fine:=λtodo h=>Dn (fr:={fr with todo}) h h2
  unfold stepG.exec;dsimp only;split
  · exact o none
  · exact o (some .ret)
  · rename_i b;exact d _ (Hr h1 b)
  · rename_i b;exact d _ (Hr h1 b)
  · rename_i b;exact d _ (Hr h1 b)
  · rename_i b;exact d _ (Hr h1 b)
  · rename_i b;exact d _ (Jj (Jj (Hr h1 b)))
  · rename_i b
    split
    · exact d _ (Jj (Hr h1 b))
    · trivial
  · rename_i b;exact d _ (Jj (Ji trivial (Hr h1 b)))
  · rename_i b;exact d _ (Jj (Ji trivial (Hr h1 b)))
  · rename_i b;exact d _ (Jj (Ji trivial (Hr h1 b)))
  · rename_i b;exact d _ (Jj (Ji trivial (Hr h1 b)))
  · rename_i s k b
    cases q:exitTo s k with
    | none=>exact o (some (.exit s))
    | some t=>exact d _ (Akm (Hr h1 b) q)
  · rename_i l k b
    cases q:gotoIn l k with
    | none=>exact o (some (.goto l))
    | some t=>exact d _ (Akl (Hr h1 b) q)
  · rename_i f A assign body k b
    generalize m:Sem.runT P _ w #[]=r;obtain⟨r,ev⟩:=r;cases r with
    | ok a n=>
      obtain⟨l,z⟩:=a;exact Dl (Ri (fr:={fr with todo:=.inRangeFunc l::k,defers:=z++fr.defers}) dy n (Ji trivial (Hr h1 b)) h2 (D6 spz λ_=>Ld u _ _)) λ_=>Aby spz _ m trivial
    | halt h n=>exact Dl trivial λc=>c.elim
  · trivial
  · refine Ri dy w h1 h2 (D6 ?_ λ_=>Hl trivial)
    cases fr.roundOf with
    | none=>exact Dy
    | some l=>exact Qd l
  · rename_i l k b
    generalize m:Sem.runT P _ w #[]=r;obtain⟨r,ev⟩:=r;cases r with
    | ok jump n=>
      refine Dl (Dn (fr:={fr with todo:=(jump.map Item.code).toList++k}) ?_ h2) λ_=>Aby spz _ m trivial
      intro j e;rcases List.mem_append.1 e with e | e
      · cases jump with
        | none=>simp at e
        | some c=>simp at e;subst e;trivial
      · exact Hr h1 b j e
    | halt h n=>
      cases h
      case panic v=>exact Dl (Dn (Ox h1 _) h2) λ_=>Aby spz _ m trivial
      all_goals exact Dl trivial λc=>c.elim
  · trivial
  · exact Ri dy w h1 h2 (Ld u _ _)
  · rename_i row args k b
    have y:row= "runtime.print$piece" :=h1 (.extern row args) (by rw[b];exact A7r);subst y;rw[Agx];exact Ri dy w h1 h2 (Ads _ _ _)
  · rename_i s x draw k b
    split
    · exact d _ (Ji trivial (Hr h1 b))
    · split
      · exact Dn (fr:={fr with todo:=.inRegion x _::k}) (Ji trivial (Hr h1 b)) h2
      · trivial
  · rename_i b;exact d _ (Hr h1 b)
  · split
    · exact Axv u dy w h1 h2
    · exact Dn (I9 h1 _) h2
theorem Abx (s:OkP P)(dy:Option Dying)(d:Deferred)(w:World)(h1:Zx fr)(h2:Ah8 cs):(callDeferred P fr cs dy d w).fine:=by
  have e:=Ld s d.target d.args;have p:=Aah (w:=w) (es:=#[]) e;unfold callDeferred;dsimp only;split<;>split<;>(try trivial)
  all_goals
    generalize j:Sem.runT P _ w #[]=r at p;obtain⟨r,ev⟩:=r;cases r with
    | ok a n=>
      refine Dl ?_ λ_=>Ach e _ j trivial
      have o:=p a ⟨n,rfl⟩;cases a<;>first | exact o.elim | skip
      case value v=>exact Dn h1 h2
      case skip=>exact Dn h1 h2
      case enter f args=>exact Dn (Rf _ _ _) (Me h1 h2)
      case round l f t a b=>exact Dn (Agv _ _ _ _ _ _) (Me h1 h2)
      case defer d=>exact Dn h1 h2
      case spawn d=>exact Dn h1 h2
      case comm c b x=>exact Dn h1 h2
      case row r args=>
        obtain rfl:r= "runtime.print$piece" :=o;exact Dn (Apj _ _) (Me h1 h2)
      case recover=>
        dsimp only;split
        · rename_i q;exact Dn h1 (Tc h2 q)
        · exact Dn h1 h2
      case coroswitch c b=>
        cases b
        · trivial
        · exact⟨⟨h1,h2⟩,rfl⟩
    | halt h n=>
      cases h
      case panic v=>exact Dl (Dn (Ox h1 _) h2) λ_=>Ach e _ j trivial
      case goexit=>exact Dl (Dn (Ox h1 _) h2) λ_=>Ach e _ j trivial
      case blocked=>exact Dl (Dn (fr:={fr with defers:=d::fr.defers}) h1 h2) λc=>by cases c
      case waiting=>exact Dl (Dn (fr:={fr with defers:=d::fr.defers}) h1 h2) λc=>by cases c
      case exit c=>exact P7
      case fatal m=>exact Dl (Aau dy m n h1) λ_=>Ach e _ j trivial
      case throw m=>exact Dl (Un _ _ _ n h1) λ_=>Ach e _ j trivial
      case stuck m=>exact P7
      case unsupported u=>exact P7
theorem Aoc (e:OkP P)(main:Bool)(dy:Option Dying)(w:World)(h1:Zx fr)(h2:Ah8 cs):(unwind P main fr cs dy w).fine:=by
  unfold unwind;split
  · rename_i block _ f _
    generalize c:Sem.runT P _ w #[]=r;obtain⟨r,ev⟩:=r;cases r with
    | ok a b=>exact Dl (Dn (fr:={fr with defers:=a++f}) h1 h2) λ_=>Aby spz _ c trivial
    | halt h b=>exact P7
  · exact Abx e (fr:={fr with defers:=_}) dy _ w h1 h2
  · split
    · trivial
    · split
      · trivial
      · split
        · exact Dn (Ox (h2 _ A7r) _) (λx d=>h2 x (A56 _ d))
        · split
          · split
            · exact Dn h1 J4
            · split
              · exact Dn h1 J4
              · trivial
              · trivial
          · split
            · exact V7 _ w h1
            · trivial
    · split
      · exact Ve main dy _ w h1 h2
      · generalize c:Sem.runT P _ w #[]=r
        obtain⟨r,ev⟩:=r;cases r with
        | ok a b=>exact Dl (Ve main dy a b h1 h2) λ_=>Aby (Acl _ _) _ c trivial
        | halt h b=>cases h<;>exact P7
theorem A0q (m:OkP P)(d:Dying)(w:World)(h1:Zx fr):(die P fr d w).fine:=by
  unfold die;split
  · rename_i f _
    cases l:f.pieces with
    | nil=>unfold writeOn;simp only[l];trivial
    | cons piece rest=>
      obtain⟨X,n,hF⟩:=Ab4 (P:=P) fr d f piece rest l;have j:=Yj n w #[] rfl Vp;rw[hF];generalize X.runT P w #[]=r at j;obtain⟨r,ev⟩:=r;cases r with
      | ok a b=>exact⟨⟨h1,J4⟩,(λ_ h=>by cases h),λ_=>j.2 trivial⟩
      | halt h b=>cases h<;>first | exact Dn h1 J4 | trivial
  · split
    · split
      · exact Dn h1 J4
      · unfold endWith
        dsimp only;repeat' first | trivial | split
    · dsimp only
      split
      · exact Dn h1 J4
      · split
        · exact Dn h1 J4
        · trivial
      · rename_i t recv name _
        have c:=Ld m (.fn (.method name) #[]) #[.iface t recv];generalize e:Sem.runT P _ w #[]=r;obtain⟨r,ev⟩:=r;cases r with
        | ok a b=>
          cases a
          case enter f args=>exact Dl (Dn (Rf _ _ _) J4) λ_=>Ach c _ e trivial
          case value x=>
            cases x
            case string s=>exact Dl (Dn h1 J4) λ_=>Ach c _ e trivial
            all_goals exact P7
          all_goals exact P7
        | halt h b=>
          cases h
          case panic v=>exact Dl (V7 v b h1) λ_=>Ach c _ e trivial
          all_goals exact P7
      · trivial
theorem Um (a:OkP P)(main:Bool)(g:Goroutine)(hg:OkG g)(w:World):(stepG P main g w).fine:=by
  unfold stepG;obtain⟨fr,cs,b,c,off⟩:=g;dsimp only;split
  · exact A0q a _ w hg.1
  · exact Axw a main _ w hg.1 hg.2
  · exact Aoc a main _ w hg.1 hg.2
end
open Go.Conc
def Zu (gs:Array Goroutine):Prop:=∀g∈gs,g.status≠.blocked
abbrev Af2 (ready:List (Nat × CommCase × List Way)):Sem (Nat × CommCase × Way):=do
 let a <-choose (.select ready.length)
 let (k,c,ws):=ready.getD a (0,default,[])
 let b <-choose (.extern "which waiting goroutine is the partner" ws.length)
 pure (k,c,ws.getD b .closed)
section
variable {P : Program}{w : World}{gs gs' : Array Goroutine}
theorem Hm (h:Zu gs)(r:Nat)(b:Bool):partners gs r b=[]:=by
 unfold partners;refine List.flatMap_eq_nil_iff.2 λx a=>?_
 obtain⟨g,i⟩:=x;have c:g∈gs:=by
  have e:=Array.mem_zipIdx (Array.mem_toList_iff.1 a);rw[e.2.2];exact Array.getElem_mem _
 have:=h g c
 dsimp only;split
 ·rename_i d _;exact absurd d this
 ·rfl
theorem zs0 {p:Prop}(h:p:=by
 split at hx
 ·simp at hx;subst hx;simp
 ·rw[Hm h] at hx
  dsimp only at hx;split at hx
  ·simp at hx;subst hx;simp
  ·simp at hx):p:=h
theorem Adi (h:Zu gs)(c:CommCase):ways w gs c=ways w #[] c/\∀x∈ways w gs c,∀a b,x≠.partner a b:=by
 have d:Zu #[]:=λg e=>by simp at e
 constructor
 ·unfold ways
  split
  ·split
   ·split
    ·rfl
    ·rw[Hm h,Hm d]
   ·split
    ·rfl
    ·rw[Hm h,Hm d]
   ·rfl
  ·rfl
 ·intro x hx a b
  unfold ways at hx;split at hx
  ·split at hx
   ·exact zs0
   ·exact zs0
   ·simp at hx
  ·simp at hx
theorem Atb (ready:List (Nat × CommCase × List Way)):Calm P (Af2 ready):=Calm.bind Kz λ_=>Calm.bind Kz λ_=>Af
theorem Ah7 {ready:List (Nat × CommCase × List Way)}(hr:∀x∈ready,∀y∈x.2.2,∀a b,y≠.partner a b){k:Nat}{c:CommCase}{way:Way}{w':World}(h:(Af2 ready).run P w=.ok (k,c,way) w'):∀a b,way≠.partner a b:=by
 have key:∀(a b:Nat) (k:Nat) (c:CommCase) (d:List Way),ready.getD a (0,default,[])=(k,c,d)->∀x y,d.getD b .closed≠.partner x y:=by
  intro a b k c d e x y;have l:∀z∈d,∀x y,z≠.partner x y:=by
   rw[List.getD_eq_getElem?_getD] at e;cases f:ready[a]? with
   | none=>rw[f] at e;cases e;intro z j;simp at j
   | some q=>
    rw[f] at e;simp only[Option.getD_some] at e;intro z j;exact hr q (A7w f) z (by rw[e];exact j)
  rw[List.getD_eq_getElem?_getD];cases f:d[b]? with
  | none=>simp
  | some q=>exact l q (A7w f) x y
 have n:Sat P (λz:Nat × CommCase × Way=>∀a b,z.2.2≠.partner a b) 0 (Af2 ready):=by
  refine D6 Kz λa=>?_
  generalize m:ready.getD a (0,default,[])=z;obtain⟨k,c,d⟩:=z;refine D6 Kz λb=>Hl ?_
  exact key a b k c d m
 have:=Aah (w:=w) (es:=#[]) n (k,c,way) ⟨w',by rw[Sem.runT_eq];exact h⟩
 exact this
def fin:Goroutine:={(default:Goroutine) with status:=.finished}
def Ur (P:Program)(g:Goroutine)(cs:Array CommCase)(b:Bool)(sh:CommShape)(w:World):GStep:=
 match communicate P {timers:=#[],alone:=none,slice:=none} #[fin] 0 g cs b sh w with
 | (.next m,_)=>.go (m.gs.getD 0 default) m.world
 | (.ended o w,_)=>.ended o w
def Ax5 (P:Program)(g:Goroutine)(cs:Array CommCase)(b:Bool)(sh:CommShape)(w:World):Array MemOp:=
 (communicate P {timers:=#[],alone:=none,slice:=none} #[fin] 0 g cs b sh w).2
theorem Kq:Zu #[fin]:=λg a=>by
 simp at a;subst a;simp[fin]
theorem Z9 (rest:Rest)(h:rest.timers=#[])(cs:Array CommCase)(w:World):waitingAt rest cs w=some w:=by
 unfold waitingAt;have:timerAhead rest w.os.mono cs=false:=by
  unfold timerAhead;rw[h];rw[Array.any_eq_false];intro i hi;split<;>simp
 rw[this];rfl
theorem Abl (h:Zu gs)(l:List (CommCase × Nat)):∀x∈(l.map λ(c,k)=>(k,c,ways w gs c)).filter (λ(_,_,e)=>!e.isEmpty),∀y∈x.2.2,∀a b,y≠.partner a b:=by
 intro x d y f;obtain⟨z,_,rfl⟩:=List.mem_map.1 (List.mem_filter.1 d).1;exact(Adi h z.1).2 y f
theorem Ae1 {sl:Option (Nat × Nat)}(h:Zu gs)(_h0:0<gs.size)(g:Goroutine)(cs:Array CommCase)(b:Bool)(sh:CommShape)(w:World):
  communicate P {timers:=#[],alone:=none,slice:=sl} gs 0 g cs b sh w=
   (match Ur P g cs b sh w with
    | .go j d _=>.next {world:=d,gs:=gs.setIfInBounds 0 j,rest:={timers:=#[],alone:=none,slice:=sl} }
    | .ended o d _=>.ended o d
    | _=>.ended default default,Ax5 P g cs b sh w):=by
 unfold Ur Ax5;have l:∀c,ways w gs c=ways w #[fin] c:=λc=>((Adi h c).1).trans ((Adi Kq c).1).symm
 unfold communicate;simp only[l];have f:=Abl (w:=w) Kq cs.zipIdx.toList;split
 ·rfl
 ·split
  ·split
   ·rw[Z9 _ rfl,Z9 _ rfl]
    simp
   ·simp
  ·generalize n:(List.filter _ _:List (Nat × CommCase × List Way))=ready
   have q:∀x∈ready,∀y∈x.2.2,∀a b,y≠.partner a b:=by rw[<-n];exact f
   cases p:(Af2 ready).run P w with
   | halt e d=>rfl
   | ok z d=>
    obtain⟨k,c,way⟩:=z;have r:=Ah7 q p;dsimp only;cases way with
    | partner a b=>exact absurd rfl (r a b)
    | sendClosed=>
     dsimp only;cases s:(runtimePanic (.plain "send on closed channel"):Sem Unit).run P d with
     | ok a m=>rfl
     | halt e m=>cases e<;>first | rfl | simp
    | closed=>simp
    | buffer=>
     rw[Hm h,Hm Kq];split<;>first | (simp;done) | (exfalso;simp_all;done)
end
section
variable {P : Program}{w : World}
def chanOf (c:CommCase):Nat:=match c.chan with | .chan (some r)=>r | _=>0
def Alk (P:Program)(g:Goroutine)(cs:Array CommCase)(sh:CommShape)(k:Nat)(c:CommCase)(way:Way)(w:World):GStep:=
  match way with
  | .sendClosed=>match (runtimePanic (.plain "send on closed channel"):Sem Unit).run P w with
    | .halt (.panic v) w=>.go {g with frame:=g.frame.raise [{v,recovered:=false}]} w
    | _=>.ended (.stuck "communicate" "") w
  | .closed=>.go (g.finishComm P cs sh k c.zero false) w
  | .buffer=>match w.heap[chanOf c]?,c.send with
    | some (.chan cap a d s r b),some v=>.go (g.finishComm P cs sh k undef false) {w with heap:=w.heap.setIfInBounds (chanOf c) (.chan cap (a.push v) d (s+1) r b)}
    | some (.chan cap a d s r b),none=>.go (g.finishComm P cs sh k (a.getD 0 undef) true) {w with heap:=w.heap.setIfInBounds (chanOf c) (.chan cap (a.extract 1 a.size) d s (r+1) b)}
    | _,_=>.ended (.stuck "communicate: no such channel" "") w
  | _=>.ended (.stuck "communicate: no such channel" "") w
def Awa (P:Program)(g:Goroutine)(cs:Array CommCase)(sh:CommShape):Result (Nat × CommCase × Way)->GStep
  | .ok (k,c,way) a=>Alk P g cs sh k c way a
  | .halt _ a=>.ended (.stuck "communicate" "") a
def Wy (cs:Array CommCase)(w:World):List (Nat × CommCase × List Way):=(cs.zipIdx.toList.map λ(c,k)=>(k,c,ways w #[fin] c)).filter λ(_,_,a)=>!a.isEmpty
theorem Ae2 (g:Goroutine)(cs:Array CommCase)(b:Bool)(sh:CommShape)(w:World):
    (∃o,∀d:World,d.heap=w.heap->Ur P g cs b sh d=.ended o d)\/
    (∃e,e={g with status:=.blocked,offers:=some (cs,sh)}/\∀d:World,d.heap=w.heap->Ur P g cs b sh d=.go e d)\/
    (∃e,e=g.finishComm P cs sh (-1) undef false/\∀d:World,d.heap=w.heap->Ur P g cs b sh d=.go e d)\/
    (∀d:World,d.heap=w.heap->Ur P g cs b sh d=Awa P g cs sh ((Af2 (Wy cs w)).run P d)):=by
  have q:∀d:World,d.heap=w.heap->∀c,ways d #[fin] c=ways w #[fin] c:=λd h c=>by unfold ways;rw[h]
  have u:∀x∈Wy cs w,∀y∈x.2.2,∀a b,y≠.partner a b:=Abl (w:=w) Kq cs.zipIdx.toList;by_cases j:cs.any (λc=>match c.chan with | .chan none=>false | .chan (some r)=>!(w.heap[r]? matches some (.chan ..)) | _=>true)=true
  · refine .inl ⟨.stuck "a communication at a channel whose block is no channel's" (g.frame.pos P),λd h=>?_⟩
    unfold Ur communicate;rw[h];dsimp only;split
    · rename_i f;split at f
      · cases f
      · rename_i p;exact absurd j p
    · rename_i f;split at f
      · cases f;rfl
      · rename_i p;exact absurd j p
  · by_cases n:(Wy cs w).isEmpty=true
    · cases b
      · refine .inr (.inr (.inl ⟨_,rfl,λd h=>?_⟩))
        unfold Ur communicate;simp only[q d h];rw[h];refine(congrArg (λx:Stepped × Array MemOp=>match x with | (.next m,_)=>GStep.go (m.gs.getD 0 default) m.world | (.ended o w,_)=>.ended o w) ((if_neg j).trans (if_pos n))).trans ?_;simp
      · refine .inr (.inl ⟨_,rfl,λd h=>?_⟩)
        unfold Ur communicate;simp only[q d h];rw[h];refine(congrArg (λx:Stepped × Array MemOp=>match x with | (.next m,_)=>GStep.go (m.gs.getD 0 default) m.world | (.ended o w,_)=>.ended o w) ((if_neg j).trans (if_pos n))).trans ?_;rw[Z9 _ rfl];simp
    · refine .inr (.inr (.inr λd h=>?_))
      unfold Ur communicate;simp only[q d h];rw[h];refine(congrArg (λx:Stepped × Array MemOp=>match x with | (.next m,_)=>GStep.go (m.gs.getD 0 default) m.world | (.ended o w,_)=>.ended o w) ((if_neg j).trans (if_neg n))).trans ?_;generalize B:(List.filter _ _:List (Nat × CommCase × List Way))=ready;obtain rfl:Wy cs w=ready:=B;cases C:(Af2 (Wy cs w)).run P d with
      | halt s l=>rfl
      | ok z l=>
        obtain⟨k,c,way⟩:=z;have v:=Ah7 u C;cases way with
        | partner a b=>exact absurd rfl (v a b)
        | sendClosed=>
          simp only[Awa,Alk];cases (runtimePanic (.plain "send on closed channel"):Sem Unit).run P l with
          | ok a A=>rfl
          | halt s A=>cases s<;>rfl
        | closed=>rfl
        | buffer=>
          simp only[Awa,Alk];rw[Hm Kq]
          cases D:c.send<;>(cases t:c.chan<;>first
            | (rename_i o
               cases o<;>simp only[chanOf,t]<;>(generalize (l.heap[(_:Nat)]?:Option Obj)=o;rcases o with _ | o<;>first | rfl | (cases o<;>first | rfl | simp)))
            | (simp only[chanOf,t];(generalize (l.heap[(_:Nat)]?:Option Obj)=o;rcases o with _ | o<;>first | rfl | (cases o<;>first | rfl | simp))))
end
section
variable {g:Goroutine}
variable {P : Program}{w : World}
def _root_.Go.GStep.put (w:World):GStep->GStep:=GStep.turn λ_=>w
theorem Gn.next {F:World->GStep}(nxt:GStep->GStep)(hF:Gn F w)(h:Gn (λt=>nxt ((F w).put t)) (F w).w)(v:(nxt (F w)).cont->(F w).cont):Gn (λw=>nxt (F w)) w:=by
 obtain⟨h1,n,K,z,y,u⟩:=hF;have o:(F w).put (F w).w=F w:=by cases F w<;>rfl
 obtain⟨f,b,L,d,l,m⟩:=h;simp only[o] at f b d l m;refine⟨f.trans h1,A6e n b,max K L,A6e d (A8m _ _),λc=>?_,fun a s e j hA=>?_⟩
 ·rw[y (v c),l c]
  exact Nat.max_eq_right b
 ·have x:=u a s e j (hA.mono (A83 _ _))
  have r:=m a s e (A6e j n) yEg;have q:(F w).turn (rt a s e)=(F w).put (rt a s e (F w).w):=by cases F w<;>rfl
  simp only[x];rw[q];exact r
theorem Awu (g:Goroutine)(cs:Array CommCase)(sh:CommShape)(k:Nat)(c:CommCase)(way:Way)(w:World):Gn (λw=>Alk P g cs sh k c way w) w:=by
 unfold Alk;cases way with
 | partner a b=>exact(Ba _ _).loc w
 | closed=>exact(Dq _ _).loc w
 | sendClosed=>
  have f:=Calm.loc (O8 (P:=P) (α:=Unit) (.plain "send on closed channel")) w #[];have e:∀w,(runtimePanic (.plain "send on closed channel"):Sem Unit).run P w=((runtimePanic (.plain "send on closed channel"):Sem Unit).runT P w #[]).1:=λw=>by rw[Sem.runT_eq]
  simp only[e];generalize m:(runtimePanic (.plain "send on closed channel"):Sem Unit).runT P w #[]=r;obtain⟨r,ev⟩:=r;cases r with
  | ok a q=>exact Gn.caseOld f m (Ba (.stuck "communicate" "") #[]) (λw c=>c) λu t h=>by simp only[h,Result.put]
  | halt h q=>
   cases h
   case panic v=>exact Gn.case f m ((Dq {g with frame:=g.frame.raise [{v,recovered:=false}]} #[]).loc q) (λ_ x=>x) λu t h=>by simp only[h,Result.put]
   all_goals exact Gn.caseOld f m (Ba (.stuck "communicate" "") #[]) (λw c=>c) λu t h=>by simp only[h,Result.put]
 | buffer=>
  refine Gn.const ?_ ?_ fun p s e _=>?_
  ·dsimp only
   split<;>rfl
  ·dsimp only
   split<;>rfl
  ·dsimp only
   show(match w.heap[chanOf c]?,c.send with
    | some (.chan cap d j l r n),some v=>GStep.go (g.finishComm P cs sh k undef false) {rt p s e w with heap:=w.heap.setIfInBounds (chanOf c) (.chan cap (d.push v) j (l+1) r n)}
    | some (.chan cap d j l r n),none=>GStep.go (g.finishComm P cs sh k (d.getD 0 undef) true) {rt p s e w with heap:=w.heap.setIfInBounds (chanOf c) (.chan cap (d.extract 1 d.size) j l (r+1) n)}
    | _,_=>GStep.ended (.stuck "communicate: no such channel" "") (rt p s e w))=_
   rcases w.heap[chanOf c]? with _ | o
   ·cases c.send<;>rfl
   ·cases o<;>cases c.send<;>rfl
theorem Awt (g:Goroutine)(cs:Array CommCase)(b:Bool)(sh:CommShape)(w:World):Gn (λw=>Ur P g cs b sh w) w:=by
 rcases Ae2 (P:=P) g cs b sh w with⟨o,h⟩ | ⟨f,_,h⟩ | ⟨f,_,h⟩ | h
 ·exact((Ba o #[]).loc w).like (h w rfl) fun d s e=>h _ rfl
 ·exact((Dq f #[]).loc w).like (h w rfl) fun d s e=>h _ rfl
 ·exact((Dq f #[]).loc w).like (h w rfl) fun d s e=>h _ rfl
 ·refine Gn.like (G:=λj=>Awa P g cs sh ((Af2 (Wy cs w)).run P j)) ?_ (h w rfl) fun d s e=>h _ rfl
  refine Gn.bindR (P:=P) (x:=Af2 (Wy cs w)) (Awa P g cs sh) (Calm.loc (Atb _) w #[]) ?_ ?_
  ·generalize Sem.run P _ w=r
   cases r with
   | ok a w'=>obtain⟨k,c,way⟩:=a;exact Awu g cs sh k c way w'
   | halt h w'=>exact(Ba _ _).loc _
  ·exact zl0
theorem Pn (h:OkG g)(cs:Array CommCase)(sh:CommShape)(k:Int)(v:Value)(ok:Bool):OkG (g.finishComm P cs sh k v ok):=⟨I9 h.1 _,h.2⟩
theorem Asr (hg:OkG g)(hr:g.status=.running)(cs:Array CommCase)(b:Bool)(sh:CommShape)(w:World):(∃o d,Ur P g cs b sh w=.ended o d)\/∃e d,Ur P g cs b sh w=.go e d/\OkG e/\∀t,e.status≠.sleeping t:=by
 have j:∀k c way w,(∃o d,Alk P g cs sh k c way w=.ended o d)\/∃e d,Alk P g cs sh k c way w=.go e d/\OkG e/\∀t,e.status≠.sleeping t:=by
  intro k c way w;unfold Alk;have f:∀(k:Int) v ok,∀t,(g.finishComm P cs sh k v ok).status≠.sleeping t:=λ_ _ _ _ h=>by cases h
  cases way with
  | partner a b=>exact .inl ⟨_,_,rfl⟩
  | closed=>exact .inr ⟨_,_,rfl,Pn hg _ _ _ _ _,f _ _ _⟩
  | sendClosed=>
   dsimp only;split
   ·exact .inr ⟨_,_,rfl,⟨Ox hg.1 _,hg.2⟩,λt h=>by rw[show g.status=_ from h] at hr;cases hr⟩
   ·exact .inl ⟨_,_,rfl⟩
  | buffer=>
   dsimp only;split
   ·exact .inr ⟨_,_,rfl,Pn hg _ _ _ _ _,f _ _ _⟩
   ·exact .inr ⟨_,_,rfl,Pn hg _ _ _ _ _,f _ _ _⟩
   ·exact .inl ⟨_,_,rfl⟩
 rcases Ae2 (P:=P) g cs b sh w with⟨o,h⟩ | ⟨e,rfl,h⟩ | ⟨e,rfl,h⟩ | h
 ·exact .inl ⟨_,_,h w rfl⟩
 ·exact .inr ⟨_,_,h w rfl,hg,λt h=>by cases h⟩
 ·exact .inr ⟨_,_,h w rfl,Pn hg _ _ _ _ _,λt h=>by cases h⟩
 ·rw[h w rfl]
  generalize (Af2 (Wy cs w)).run P w=r;cases r with
  | ok a d=>obtain⟨k,c,way⟩:=a;exact j k c way d
  | halt h d=>exact .inl ⟨_,_,rfl⟩
end
end Go.Co
