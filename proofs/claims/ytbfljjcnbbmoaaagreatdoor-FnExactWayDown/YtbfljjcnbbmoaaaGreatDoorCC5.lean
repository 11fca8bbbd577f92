import Derived.Test.YtbfljjcnbbmoaaaGreatDoorCB9
namespace Go.Co
def Agw (cs:List Frame):Prop:=∀c∈cs,Y6 c
def _root_.Go.GStep.fine:GStep->Prop
 | .go g _ es=>OkG g/\(∀t,g.status≠.sleeping t)/\(g.status=.running->deafBehind 0 es=0)
 | .comm g _ _ _ _ es=>OkG g/\g.status=.running/\deafBehind 0 es=0
 | .coroswitch g _ _ _ es=>OkG g/\deafBehind 0 es=0
 | .spawn .. | .ended ..=>True
 | _=>False
section
variable {cs:List Frame}{fr:Frame}
variable {P : Program}{w : World}
theorem Ahg (es es':Array Event)(h:deafBehind 0 es=0):deafBehind 0 (es++es')=deafBehind 0 es':=by
 unfold deafBehind at*;rw[Array.foldl_append,h]
theorem Dt {es:Array Event}{x:GStep}(h:x.fine)(hd:x.cont->deafBehind 0 es=0):(GStep.after es x).fine:=by
 cases x with
 | go g w es'=>exact⟨h.1,h.2.1,λhr=>by rw[Ahg _ _ (hd hr)];exact h.2.2 hr⟩
 | comm g c b sh w es'=>exact⟨h.1,h.2.1,by rw[Ahg _ _ (hd trivial)];exact h.2.2⟩
 | coroswitch g c b w es'=>exact⟨h.1,by rw[Ahg _ _ (hd trivial)];exact h.2⟩
 | spawn g c w es'=>trivial
 | ended o w es'=>trivial
 | _=>exact h
theorem Du {st:GoStatus}{dy:Option Dying}(h1:Y6 fr)(h2:Agw cs)(hst:∀t,st≠.sleeping t:=by intro _ h;cases h):(GStep.go {frame:=fr,callers:=cs,status:=st,dying:=dy} w).fine:=⟨⟨h1,h2⟩,hst,λ_=>rfl⟩
theorem Jo:Agw []:=λ_ h=>by cases h
theorem La (h1:Y6 fr)(h2:Agw cs):Agw (fr::cs):=λc hc=>(List.mem_cons.1 hc).elim (λe=>e ▸ h1) (h2 c)
theorem N7 (h:Y6 fr)(vs:List PanicEntry):Y6 (fr.raise vs):=by
 unfold Frame.raise;split<;>exact h
theorem Qa (f:FuncId)(args:Array Value)(k:CallKind):Y6 (Frame.enter P f args k):=by
 intro i hi;simp only[Frame.enter,A4n] at hi;subst hi;trivial
theorem Afr (l:Nat)(f:FuncId)(t:Array Value)(a b:Code)(k:CallKind):Y6 (Frame.round l f t a b k):=by
 intro i hi;simp only[Frame.round,A4t,List.not_mem_nil,or_false] at hi;rcases hi with rfl | rfl | rfl<;>trivial
theorem Anr (args:Array Value)(k:CallKind):Y6 (Frame.ofRow P "runtime.print$piece" args k):=by
 intro i hi;simp only[Frame.ofRow,A4n] at hi;subst hi;rfl
theorem Ii (h:Y6 fr)(v:Value):Y6 (fr.finish v):=by
 unfold Frame.finish;unfold Y6 at h;split
 ·rename_i ops i rest k hk
  rw[hk] at h;intro j hj;rcases List.mem_cons.1 hj with rfl | hj
  ·trivial
  ·exact h j (A4c _ hj)
 ·rename_i l k hk
  rw[hk] at h;intro j hj;rcases List.mem_cons.1 hj with rfl | hj
  ·trivial
  ·exact h j (A4c _ hj)
 ·rename_i k hk
  rw[hk] at h;exact λj hj=>h j (A4c _ hj)
 ·rename_i d b r s k hk
  rw[hk] at h;intro j hj;rcases List.mem_cons.1 hj with rfl | hj
  ·exact h (.call d b r s) List.mem_cons_self
  ·exact h j (A4c _ hj)
 ·rename_i r a k hk
  rw[hk] at h;exact λj hj=>h j (A4c _ hj)
 ·exact h
theorem Rw:∀{fr:Frame} {cs:List Frame} {v:Value} {cs':List Frame},Agw cs->tryRecover fr cs=some (v,cs')->Agw cs':=by
 intro fr cs;induction cs generalizing fr with
 | nil=>
  intro v cs' _ h;unfold tryRecover at h;cases hk:fr.kind<;>simp[hk] at h
 | cons c cs ih=>
  intro v cs' hc h;have h1:=hc c List.mem_cons_self;have h2:Agw cs:=λx hx=>hc x (A4c _ hx)
  unfold tryRecover at h;cases hk:fr.kind<;>simp only[hk] at h
  case deferred=>
   split at h
   ·cases h
    exact La h1 h2
   ·cases h
  case wrapped=>
   cases hr:tryRecover c cs with
   | none=>rw[hr] at h;cases h
   | some x=>
    rw[hr] at h;obtain⟨v',cs''⟩:=x;cases h;exact La h1 (ih h2 hr)
  all_goals cases h
theorem Abu:∀{l:Nat} {cs:List Frame} {v:Value} {cs':List Frame},Agw cs->tryRecoverLoop l cs=some (v,cs')->Agw cs':=by
 intro l cs;induction cs generalizing l with
 | nil=>intro v cs' _ h;cases h
 | cons c cs ih=>
  intro v cs' hc h;have h1:=hc c List.mem_cons_self;have h2:Agw cs:=λx hx=>hc x (A4c _ hx)
  unfold tryRecoverLoop at h;obtain⟨x,hx,he⟩:=Option.map_eq_some_iff.1 h;obtain⟨v',cs''⟩:=x;cases he;refine La h1 ?_;split at hx
  ·exact ih h2 hx
  ·split at hx
   ·exact Rw h2 hx
   ·exact ih h2 hx
  ·exact ih h2 hx
theorem U1 (main:Bool)(dy:Option Dying)(v:Value)(w:World)(h1:Y6 fr)(h2:Agw cs):(doReturn P main fr cs dy v w).fine:=by
 unfold doReturn;cases cs with
 | cons c cs=>
  have hc:=h2 c List.mem_cons_self;have hcs:Agw cs:=λx hx=>h2 x (A4c _ hx)
  dsimp only;split
  ·exact Du (Ii hc v) hcs
  ·exact Du (Ii hc v) hcs
  ·exact Du hc hcs
  ·refine Du ?_ hcs
   split
   ·split<;>exact hc
   ·exact hc
 | nil=>
  dsimp only;split
  ·exact Du h1 Jo
  ·trivial
  ·split
   ·exact Du h1 Jo
   ·split
    ·exact Du (Qa _ _ _) Jo
    ·trivial
theorem Ud (l:List ByteArray)(m:String)(b:Bool)(w:World)(h:Y6 fr):(dieOf fr l m b w).fine:=Du h Jo
theorem Vl (v:Value)(w:World)(h:Y6 fr):(endPrinting P fr v w).fine:=by
 unfold endPrinting;dsimp only;split
 ·exact Ud _ _ _ w h
 ·trivial
theorem Zw (dy:Option Dying)(m:String)(w:World)(h:Y6 fr):(endFatal P fr cs dy m w).fine:=by
 unfold endFatal;dsimp only;split
 ·exact Ud _ _ _ _ h
 ·trivial
 ·trivial
theorem Aqv (dy:Option Dying)(g:Nat)(w:World)(h1:Y6 fr)(h2:Agw cs):(early P fr cs dy g w).fine:=by
 have hny:∀w:World,(match w.heap[g]? with
   | some (.pending c elem)=>GStep.go {frame:=fr,callers:=cs,status:=.running,dying:=dy} {w with heap:=w.heap.setIfInBounds g (.cells c elem)}
   | _=>.ended (.stuck "early: the variable does not wait" (fr.pos P)) w).fine:=by
  intro w;split
  ·exact Du h1 h2
  ·trivial
 have hth:∀(f:FuncId) (w:World) (l:List FuncId),(GStep.go {frame:=Frame.enter P f #[] .early,callers:=l.map (Frame.enter P · #[] .early)++fr::cs,status:=.running,dying:=dy} w).fine:=by
  intro f w l;refine Du (Qa _ _ _) λc hc=>?_
  rcases List.mem_append.1 hc with hc | hc
  ·obtain⟨x,_,rfl⟩:=List.mem_map.1 hc
   exact Qa _ _ _
  ·exact La h1 h2 c hc
 unfold early;dsimp only;split
 ·exact hny w
 ·split
  ·trivial
  ·split
   ·exact hny w
   ·split
    ·exact hny w
    ·split
     ·trivial
     ·exact hth _ _ _
     ·trivial
     ·exact hny w
     ·split
      ·exact hth _ _ _
      ·split
       ·exact hny w
       ·split
        ·exact hny _
        ·exact hth _ _ _
        ·trivial
theorem U9:Xa #[]:=λ_ h=>by simp at h
theorem Qc (dy:Option Dying){x:Sem Next}(w:World)(h1:Y6 fr)(h2:Agw cs)(hx:Sat P Vr 0 x):(stepG.apply P true fr cs dy x w).fine:=by
 have hok:=Zj (w:=w) (es:=#[]) hx;have hb:=Xu hx w #[] rfl U9;rw[Aou];generalize hr:x.runT P w #[]=r at hok hb;obtain⟨r,ev⟩:=r;have hev:∀es:Array Event,(es=#[]\/es=ev)->(es=ev->X5 r)->deafBehind 0 (seen P fr.fn (if fr.kind==.early then #[] else es))=0:=by
  intro es he hg;split
  ·rfl
  ·rcases he with rfl | rfl
   ·rfl
   ·rw[Ad5 _ _ hb.1];exact hb.2 (hg rfl)
 cases r with
 | ok a w'=>
  refine Dt ?_ λ_=>hev _ (.inr rfl) λ_=>trivial
  have ha:=hok a ⟨w',rfl⟩;unfold stepG.apply;simp only[Ao2,if_true,Sem.runT,ite_self,Ht,Gi,Result.w];cases a<;>first | exact ha.elim | skip
  case value v=>exact Du (Ii h1 v) h2
  case skip=>exact Du (Ii h1 _) h2
  case enter f args=>exact Du (Qa _ _ _) (La h1 h2)
  case round l f t a b=>exact Du (Afr _ _ _ _ _ _) (La h1 h2)
  case defer d=>exact Du (Ii (fr:={fr with defers:=d::fr.defers}) h1 _) h2
  case recover=>
   dsimp only;split
   ·rename_i v cs' hrec
    refine Du (Ii h1 _) ?_;split at hrec
    ·split at hrec
     ·exact Rw h2 hrec
     ·exact Abu h2 hrec
    ·exact Rw h2 hrec
   ·exact Du (Ii h1 _) h2
  case spawn d=>
   dsimp only;split<;>split<;>first | exact Ud _ _ _ _ h1 | trivial
  case comm c b sh=>exact⟨⟨h1,h2⟩,rfl,rfl⟩
  case coroswitch c b=>exact⟨⟨h1,h2⟩,rfl⟩
  case row r args=>
   obtain rfl:r= "runtime.print$piece" :=ha;dsimp only;split
   ·rename_i r' a' k hk
    refine Du ?_ h2;intro i hi;rcases List.mem_cons.1 hi with rfl | hi
    ·rfl
    ·exact h1 i (by rw[hk];exact A4c _ hi)
   ·exact Du (Anr _ _) (La h1 h2)
 | halt h w'=>
  have hq:∀h:Halt,Ada h->∀es,(stepG.apply P true fr cs dy (.halt h) w').cont->deafBehind 0 es=0:=λh ho es c=>absurd ho (Wn fr cs dy h w' c)
  cases h
  case panic v=>
   refine Dt ?_ λ_=>hev _ (.inr rfl) λ_=>trivial
   show(stepG.apply P true fr cs dy (.halt (.panic v)) w').fine
   unfold stepG.apply;simp only[if_true,Sem.runT,ite_self,Ht,Gi];exact Du (N7 h1 _) h2
  case goexit=>
   refine Dt ?_ λ_=>hev _ (.inr rfl) λ_=>trivial
   show(stepG.apply P true fr cs dy (.halt .goexit) w').fine
   unfold stepG.apply;simp only[if_true,Sem.runT,ite_self,Ht,Gi];exact Du (N7 h1 _) h2
  case blocked=>
   refine Dt ?_ (hq .blocked trivial _);show(stepG.apply P true fr cs dy (.halt .blocked) w').fine
   unfold stepG.apply;simp only[if_true,Sem.runT,ite_self,Ht,Gi];exact Du h1 h2
  case waiting=>
   refine Dt ?_ (hq .waiting trivial _);show(stepG.apply P true fr cs dy (.halt .waiting) w').fine
   unfold stepG.apply;simp only[if_true,Sem.runT,ite_self,Ht,Gi];exact Du h1 h2
  case exit c=>
   refine Dt ?_ λ_=>hev _ (.inr rfl) λ_=>trivial
   show(stepG.apply P true fr cs dy (.halt (.exit c)) w').fine
   unfold stepG.apply;simp only[if_true,Sem.runT,ite_self,Ht,Gi];trivial
  case fatal m=>
   refine Dt ?_ λ_=>hev _ (.inr rfl) λ_=>trivial
   show(stepG.apply P true fr cs dy (.halt (.fatal m)) w').fine
   unfold stepG.apply;simp only[if_true,Sem.runT,ite_self,Ht,Gi];exact Zw dy m w' h1
  case throw m=>
   refine Dt ?_ λ_=>hev _ (.inr rfl) λ_=>trivial
   show(stepG.apply P true fr cs dy (.halt (.throw m)) w').fine
   unfold stepG.apply;simp only[if_true,Sem.runT,ite_self,Ht,Gi];exact Ud _ _ _ w' h1
  case stuck m=>
   refine Dt ?_ (hq (.stuck m) trivial _);show(stepG.apply P true fr cs dy (.halt (.stuck m)) w').fine
   unfold stepG.apply;simp only[if_true,Sem.runT,ite_self,Ht,Gi];trivial
  case unsupported u=>
   by_cases hi:∃g,u=.initOrder g
   ·obtain⟨g,rfl⟩:=hi
    refine Dt ?_ λ_=>by show deafBehind 0 (seen P fr.fn (if fr.kind==.early then #[] else #[]))=0;split<;>rfl
    show(stepG.apply P true fr cs dy (.halt (.unsupported (.initOrder g))) w').fine
    unfold stepG.apply;simp only[if_true,Sem.runT,ite_self,Ht,Gi];exact Aqv dy g w' h1 h2
   ·refine Dt ?_ (hq (.unsupported u) (by cases u<;>first | trivial | exact absurd ⟨_,rfl⟩ hi) _)
    show(stepG.apply P true fr cs dy (.halt (.unsupported u)) w').fine
    unfold stepG.apply;cases u<;>first
     | exact absurd ⟨_,rfl⟩ hi
     | (simp only[if_true,Sem.runT,ite_self,Ht,Gi];trivial)
end
end Go.Co
namespace Go.Co
section
variable {cs:List Frame}{ev:Array Event}{fr:Frame}{i:Item}{k:List Item}
variable {P : Program}{w : World}
theorem Aay {α:Type}{x:Sem α}(hx:Calm P x)(fn:FuncId){r:Result α}(hr:x.runT P w #[]=(r,ev))(hg:X5 r):deafBehind 0 (seen P fn ev)=0:=by
  have hb:=Xu hx w #[] rfl U9;rw[hr] at hb;rw[Ad5 _ _ hb.1];exact hb.2 hg
theorem Abk {x:Sem Next}(hx:Sat P Vr 0 x)(fn:FuncId){r:Result Next}(hr:x.runT P w #[]=(r,ev))(hg:X5 r):deafBehind 0 (seen P fn ev)=0:=by
  have hb:=Xu hx w #[] rfl U9;rw[hr] at hb;rw[Ad5 _ _ hb.1];exact hb.2 hg
theorem O0 {o:Outcome}{es es':Array Event}:(GStep.after es (.ended o w es')).fine:=trivial
theorem G9 (h:Y6 fr)(hk:fr.todo=i::k):∀j∈k,Vg j:=λj hj=>h j (by rw[hk];exact A4c _ hj)
theorem I4 {c:Code}(h:∀j∈k,Vg j):∀j∈Item.code c::k,Vg j:=λj hj=>(List.mem_cons.1 hj).elim (λe=>e ▸ trivial) (h j)
theorem Iz (hi:Vg i)(h:∀j∈k,Vg j):∀j∈i::k,Vg j:=λj hj=>(List.mem_cons.1 hj).elim (λe=>e ▸ hi) (h j)
theorem Ai3 {id:Nat}:∀{k k':List Item},(∀j∈k,Vg j)->exitTo id k=some k'->∀j∈k',Vg j:=by
  intro k;induction k with
  | nil=>intro k' _ h;cases h
  | cons i k ih=>
    intro k' hk h;have hk':=λj hj=>hk j (A4c _ hj)
    cases i<;>simp only[exitTo] at h<;>first
      | exact ih hk' h
      | (split at h
         · cases h;exact hk'
         · exact ih hk' h)
theorem Ai2 {l:Nat}:∀{k k':List Item},(∀j∈k,Vg j)->gotoIn l k=some k'->∀j∈k',Vg j:=by
  intro k;induction k with
  | nil=>intro k' _ h;cases h
  | cons i k ih=>
    intro k' hk h;have hk':=λj hj=>hk j (A4c _ hj)
    cases i<;>simp only[gotoIn] at h<;>first
      | exact ih hk' h
      | (split at h
         · cases h;exact I4 (Iz trivial hk')
         · exact ih hk' h)
theorem Aqu (main:Bool)(dy:Option Dying)(jump:Option Code)(w:World)(h1:Y6 fr)(h2:Agw cs):(
      match fr.roundOf with
      | none=>if jump matches none | some .ret then GStep.go {frame:={fr with mode:=.returning},callers:=cs,status:=.running,dying:=dy} w else .ended (.stuck "exit, goto: no such block or label" (fr.pos P)) w
      | some l=>
        let (r,es):=(Instr.endRound l jump).runT P w #[]
        GStep.after (seen P fr.fn es)<| match r with
        | .ok v w=>doReturn P main fr cs dy v w
        | .halt _ w=>.ended (.stuck "range over a function: no such loop" (fr.pos P)) w).fine:=by
  cases fr.roundOf with
  | none=>
    dsimp only;split<;>split<;>first | exact Du h1 h2 | trivial
  | some l=>
    dsimp only;generalize hr:Sem.runT P _ w #[]=r;obtain⟨r,ev⟩:=r;cases r with
    | ok v w'=>exact Dt (U1 main dy v w' h1 h2) λ_=>Aay spz _ hr trivial
    | halt h w'=>exact Dt trivial λc=>c.elim
theorem Av5 (hP:OkP P)(dy:Option Dying)(w:World)(h1:Y6 fr)(h2:Agw cs):(stepG.oper P true fr cs dy w).fine:=by
  unfold stepG.oper;split
  · trivial
  · split
    · exact Qc dy w h1 h2 (Ea spz λ_=>Ea spz λ_=>G5 trivial)
    · exact Qc dy w h1 h2 (Afh hP _ _)
theorem Av7 (hP:OkP P)(main:Bool)(dy:Option Dying)(w:World)(h1:Y6 fr)(h2:Agw cs):(stepG.exec P main true fr cs dy w).fine:=by
  have hl:=λj=>Aqu (P:=P) main dy j w h1 h2
  have hto:∀todo:List Item,(∀j∈todo,Vg j)->(GStep.go {frame:={fr with todo},callers:=cs,status:=.running,dying:=dy} w).fine:=λtodo h=>Du (fr:={fr with todo}) h h2
  unfold stepG.exec;dsimp only;split
  · exact hl none
  · exact hl (some .ret)
  · rename_i hk;exact hto _ (G9 h1 hk)
  · rename_i hk;exact hto _ (G9 h1 hk)
  · rename_i hk;exact hto _ (G9 h1 hk)
  · rename_i hk;exact hto _ (G9 h1 hk)
  · rename_i hk;exact hto _ (I4 (I4 (G9 h1 hk)))
  · rename_i hk
    split
    · exact hto _ (I4 (G9 h1 hk))
    · trivial
  · rename_i hk;exact hto _ (I4 (Iz trivial (G9 h1 hk)))
  · rename_i hk;exact hto _ (I4 (Iz trivial (G9 h1 hk)))
  · rename_i hk;exact hto _ (I4 (Iz trivial (G9 h1 hk)))
  · rename_i hk;exact hto _ (I4 (Iz trivial (G9 h1 hk)))
  · rename_i id k hk
    cases he:exitTo id k with
    | none=>exact hl (some (.exit id))
    | some t=>exact hto _ (Ai3 (G9 h1 hk) he)
  · rename_i l k hk
    cases he:gotoIn l k with
    | none=>exact hl (some (.goto l))
    | some t=>exact hto _ (Ai2 (G9 h1 hk) he)
  · rename_i f params assign body k hk
    generalize hr:Sem.runT P _ w #[]=r;obtain⟨r,ev⟩:=r;cases r with
    | ok a w'=>
      obtain⟨l,mk⟩:=a;exact Dt (Qc (fr:={fr with todo:=.inRangeFunc l::k,defers:=mk++fr.defers}) dy w' (Iz trivial (G9 h1 hk)) h2 (Ea spz λ_=>J7 hP _ _)) λ_=>Aay spz _ hr trivial
    | halt h w'=>exact Dt trivial λc=>c.elim
  · trivial
  · refine Qc dy w h1 h2 (Ea ?_ λ_=>G5 trivial)
    cases fr.roundOf with
    | none=>exact D5
    | some l=>exact O9 l
  · rename_i l k hk
    generalize hr:Sem.runT P _ w #[]=r;obtain⟨r,ev⟩:=r;cases r with
    | ok jump w'=>
      refine Dt (Du (fr:={fr with todo:=(jump.map Item.code).toList++k}) ?_ h2) λ_=>Aay spz _ hr trivial
      intro j hj;rcases List.mem_append.1 hj with hj | hj
      · cases jump with
        | none=>simp at hj
        | some c=>simp at hj;subst hj;trivial
      · exact G9 h1 hk j hj
    | halt h w'=>
      cases h
      case panic v=>exact Dt (Du (N7 h1 _) h2) λ_=>Aay spz _ hr trivial
      all_goals exact Dt trivial λc=>c.elim
  · trivial
  · exact Qc dy w h1 h2 (J7 hP _ _)
  · rename_i row args k hk
    have hrow:row= "runtime.print$piece" :=h1 (.extern row args) (by rw[hk];exact List.mem_cons_self);subst hrow;rw[Aft];exact Qc dy w h1 h2 (Acw _ _ _)
  · rename_i id ops draw k hk
    split
    · exact hto _ (Iz trivial (G9 h1 hk))
    · split
      · exact Du (fr:={fr with todo:=.inRegion ops _::k}) (Iz trivial (G9 h1 hk)) h2
      · trivial
  · rename_i hk;exact hto _ (G9 h1 hk)
  · split
    · exact Av5 hP dy w h1 h2
    · exact Du (Ii h1 _) h2
theorem Aaw (hP:OkP P)(dy:Option Dying)(d:Deferred)(w:World)(h1:Y6 fr)(h2:Agw cs):(callDeferred P fr cs dy d w).fine:=by
  have hx:=J7 hP d.target d.args;have hok:=Zj (w:=w) (es:=#[]) hx;unfold callDeferred;dsimp only;split<;>split<;>(try trivial)
  all_goals
    generalize hr:Sem.runT P _ w #[]=r at hok;obtain⟨r,ev⟩:=r;cases r with
    | ok a w'=>
      refine Dt ?_ λ_=>Abk hx _ hr trivial
      have ha:=hok a ⟨w',rfl⟩;cases a<;>first | exact ha.elim | skip
      case value v=>exact Du h1 h2
      case skip=>exact Du h1 h2
      case enter f args=>exact Du (Qa _ _ _) (La h1 h2)
      case round l f t a b=>exact Du (Afr _ _ _ _ _ _) (La h1 h2)
      case defer d=>exact Du h1 h2
      case spawn d=>exact Du h1 h2
      case comm c b sh=>exact Du h1 h2
      case row r args=>
        obtain rfl:r= "runtime.print$piece" :=ha;exact Du (Anr _ _) (La h1 h2)
      case recover=>
        dsimp only;split
        · rename_i hrec;exact Du h1 (Rw h2 hrec)
        · exact Du h1 h2
      case coroswitch c b=>
        cases b
        · trivial
        · exact⟨⟨h1,h2⟩,rfl⟩
    | halt h w'=>
      cases h
      case panic v=>exact Dt (Du (N7 h1 _) h2) λ_=>Abk hx _ hr trivial
      case goexit=>exact Dt (Du (N7 h1 _) h2) λ_=>Abk hx _ hr trivial
      case blocked=>exact Dt (Du (fr:={fr with defers:=d::fr.defers}) h1 h2) λc=>by cases c
      case waiting=>exact Dt (Du (fr:={fr with defers:=d::fr.defers}) h1 h2) λc=>by cases c
      case exit c=>exact O0
      case fatal m=>exact Dt (Zw dy m w' h1) λ_=>Abk hx _ hr trivial
      case throw m=>exact Dt (Ud _ _ _ w' h1) λ_=>Abk hx _ hr trivial
      case stuck m=>exact O0
      case unsupported u=>exact O0
theorem Amk (hP:OkP P)(main:Bool)(dy:Option Dying)(w:World)(h1:Y6 fr)(h2:Agw cs):(unwind P main fr cs dy w).fine:=by
  unfold unwind;split
  · rename_i block _ ds _
    generalize hr:Sem.runT P _ w #[]=r;obtain⟨r,ev⟩:=r;cases r with
    | ok a w'=>exact Dt (Du (fr:={fr with defers:=a++ds}) h1 h2) λ_=>Aay spz _ hr trivial
    | halt h w'=>exact O0
  · exact Aaw hP (fr:={fr with defers:=_}) dy _ w h1 h2
  · split
    · trivial
    · split
      · trivial
      · split
        · exact Du (N7 (h2 _ List.mem_cons_self) _) (λx hx=>h2 x (A4c _ hx))
        · split
          · split
            · exact Du h1 Jo
            · split
              · exact Du h1 Jo
              · trivial
              · trivial
          · split
            · exact Vl _ w h1
            · trivial
    · split
      · exact U1 main dy _ w h1 h2
      · generalize hr:Sem.runT P _ w #[]=r
        obtain⟨r,ev⟩:=r;cases r with
        | ok a w'=>exact Dt (U1 main dy a w' h1 h2) λ_=>Aay (Abl _ _) _ hr trivial
        | halt h w'=>cases h<;>exact O0
theorem Ayu (hP:OkP P)(d:Dying)(w:World)(h1:Y6 fr):(die P fr d w).fine:=by
  unfold die;split
  · rename_i f _
    cases hp:f.pieces with
    | nil=>unfold writeOn;simp only[hp];trivial
    | cons piece rest=>
      obtain⟨X,hX,hF⟩:=Aa8 (P:=P) fr d f piece rest hp;have hb:=Xu hX w #[] rfl U9;rw[hF];generalize X.runT P w #[]=r at hb;obtain⟨r,ev⟩:=r;cases r with
      | ok a w'=>exact⟨⟨h1,Jo⟩,(λ_ h=>by cases h),λ_=>hb.2 trivial⟩
      | halt h w'=>cases h<;>first | exact Du h1 Jo | trivial
  · split
    · split
      · exact Du h1 Jo
      · unfold endWith
        dsimp only;repeat' first | trivial | split
    · dsimp only
      split
      · exact Du h1 Jo
      · split
        · exact Du h1 Jo
        · trivial
      · rename_i t recv name _
        have hx:=J7 hP (.fn (.method name) #[]) #[.iface t recv];generalize hr:Sem.runT P _ w #[]=r;obtain⟨r,ev⟩:=r;cases r with
        | ok a w'=>
          cases a
          case enter f args=>exact Dt (Du (Qa _ _ _) Jo) λ_=>Abk hx _ hr trivial
          case value x=>
            cases x
            case string s=>exact Dt (Du h1 Jo) λ_=>Abk hx _ hr trivial
            all_goals exact O0
          all_goals exact O0
        | halt h w'=>
          cases h
          case panic v=>exact Dt (Vl v w' h1) λ_=>Abk hx _ hr trivial
          all_goals exact O0
      · trivial
theorem Uc (hP:OkP P)(main:Bool)(g:Goroutine)(hg:OkG g)(w:World):(stepG P main g w).fine:=by
  unfold stepG;obtain⟨fr,cs,st,dy,off⟩:=g;dsimp only;split
  · exact Ayu hP _ w hg.1
  · exact Av7 hP main _ w hg.1 hg.2
  · exact Amk hP main _ w hg.1 hg.2
end
end Go.Co
namespace Go.Co
open Go.Conc
def Y3 (gs:Array Goroutine):Prop:=∀g∈gs,g.status≠.blocked
abbrev Ae1 (ready:List (Nat × CommCase × List Way)):Sem (Nat × CommCase × Way):=do
 let a <-choose (.select ready.length)
 let (k,c,ws):=ready.getD a (0,default,[])
 let b <-choose (.extern "which waiting goroutine is the partner" ws.length)
 pure (k,c,ws.getD b .closed)
section
variable {P : Program}{w : World}{gs gs' : Array Goroutine}
theorem G6 (h:Y3 gs)(r:Nat)(b:Bool):partners gs r b=[]:=by
 unfold partners;refine List.flatMap_eq_nil_iff.2 λx hx=>?_
 obtain⟨g,i⟩:=x;have hg:g∈gs:=by
  have h2:=Array.mem_zipIdx (Array.mem_toList_iff.1 hx);rw[h2.2.2];exact Array.getElem_mem _
 have:=h g hg
 dsimp only;split
 ·rename_i hs _;exact absurd hs this
 ·rfl
theorem zw0 {p:Prop}(h:p:=by
 split at hx
 ·simp at hx;subst hx;simp
 ·rw[G6 h] at hx
  dsimp only at hx;split at hx
  ·simp at hx;subst hx;simp
  ·simp at hx):p:=h
theorem Acm (h:Y3 gs)(c:CommCase):ways w gs c=ways w #[] c/\∀x∈ways w gs c,∀a b,x≠.partner a b:=by
 have h0:Y3 #[]:=λg hg=>by simp at hg
 constructor
 ·unfold ways
  split
  ·split
   ·split
    ·rfl
    ·rw[G6 h,G6 h0]
   ·split
    ·rfl
    ·rw[G6 h,G6 h0]
   ·rfl
  ·rfl
 ·intro x hx a b
  unfold ways at hx;split at hx
  ·split at hx
   ·exact zw0
   ·exact zw0
   ·simp at hx
  ·simp at hx
theorem Arq (ready:List (Nat × CommCase × List Way)):Calm P (Ae1 ready):=Calm.bind Jy λ_=>Calm.bind Jy λ_=>Ae
theorem Agv {ready:List (Nat × CommCase × List Way)}(hr:∀x∈ready,∀y∈x.2.2,∀a b,y≠.partner a b){k:Nat}{c:CommCase}{way:Way}{w':World}(h:(Ae1 ready).run P w=.ok (k,c,way) w'):∀a b,way≠.partner a b:=by
 have key:∀(a b:Nat) (k:Nat) (c:CommCase) (ws:List Way),ready.getD a (0,default,[])=(k,c,ws)->∀x y,ws.getD b .closed≠.partner x y:=by
  intro a b k c ws he x y;have hws:∀z∈ws,∀x y,z≠.partner x y:=by
   rw[List.getD_eq_getElem?_getD] at he;cases hq:ready[a]? with
   | none=>rw[hq] at he;cases he;intro z hz;simp at hz
   | some q=>
    rw[hq] at he;simp only[Option.getD_some] at he;intro z hz;exact hr q (List.mem_of_getElem? hq) z (by rw[he];exact hz)
  rw[List.getD_eq_getElem?_getD];cases hq:ws[b]? with
  | none=>simp
  | some q=>exact hws q (List.mem_of_getElem? hq) x y
 have hs:Sat P (λz:Nat × CommCase × Way=>∀a b,z.2.2≠.partner a b) 0 (Ae1 ready):=by
  refine Ea Jy λa=>?_
  generalize hh:ready.getD a (0,default,[])=z;obtain⟨k,c,ws⟩:=z;refine Ea Jy λb=>G5 ?_
  exact key a b k c ws hh
 have:=Zj (w:=w) (es:=#[]) hs (k,c,way) ⟨w',by rw[Sem.runT_eq];exact h⟩
 exact this
def fin:Goroutine:={(default:Goroutine) with status:=.finished}
def Uf (P:Program)(g:Goroutine)(cs:Array CommCase)(b:Bool)(sh:CommShape)(w:World):GStep:=
 match communicate P {timers:=#[],alone:=none,slice:=none} #[fin] 0 g cs b sh w with
 | (.next m,_)=>.go (m.gs.getD 0 default) m.world
 | (.ended o w,_)=>.ended o w
def Awe (P:Program)(g:Goroutine)(cs:Array CommCase)(b:Bool)(sh:CommShape)(w:World):Array MemOp:=
 (communicate P {timers:=#[],alone:=none,slice:=none} #[fin] 0 g cs b sh w).2
theorem Jr:Y3 #[fin]:=λg hg=>by
 simp at hg;subst hg;simp[fin]
theorem Zd (rest:Rest)(h:rest.timers=#[])(cs:Array CommCase)(w:World):waitingAt rest cs w=some w:=by
 unfold waitingAt;have:timerAhead rest w.os.mono cs=false:=by
  unfold timerAhead;rw[h];rw[Array.any_eq_false];intro i hi;split<;>simp
 rw[this];rfl
theorem Aap (h:Y3 gs)(l:List (CommCase × Nat)):∀x∈(l.map λ(c,k)=>(k,c,ways w gs c)).filter (λ(_,_,ws)=>!ws.isEmpty),∀y∈x.2.2,∀a b,y≠.partner a b:=by
 intro x hx y hy;obtain⟨z,_,rfl⟩:=List.mem_map.1 (List.mem_filter.1 hx).1;exact(Acm h z.1).2 y hy
theorem Ad6 {sl:Option (Nat × Nat)}(h:Y3 gs)(_h0:0<gs.size)(g:Goroutine)(cs:Array CommCase)(b:Bool)(sh:CommShape)(w:World):
  communicate P {timers:=#[],alone:=none,slice:=sl} gs 0 g cs b sh w=
   (match Uf P g cs b sh w with
    | .go g' w' _=>.next {world:=w',gs:=gs.setIfInBounds 0 g',rest:={timers:=#[],alone:=none,slice:=sl} }
    | .ended o w' _=>.ended o w'
    | _=>.ended default default,Awe P g cs b sh w):=by
 unfold Uf Awe;have hw:∀c,ways w gs c=ways w #[fin] c:=λc=>((Acm h c).1).trans ((Acm Jr c).1).symm
 unfold communicate;simp only[hw];have hrw:=Aap (w:=w) Jr cs.zipIdx.toList;split
 ·rfl
 ·split
  ·split
   ·rw[Zd _ rfl,Zd _ rfl]
    simp
   ·simp
  ·generalize eP:(List.filter _ _:List (Nat × CommCase × List Way))=ready
   have uG:∀x∈ready,∀y∈x.2.2,∀a b,y≠.partner a b:=by rw[<-eP];exact hrw
   cases hp:(Ae1 ready).run P w with
   | halt hh w'=>rfl
   | ok z w'=>
    obtain⟨k,c,way⟩:=z;have eH:=Agv uG hp;dsimp only;cases way with
    | partner a b=>exact absurd rfl (eH a b)
    | sendClosed=>
     dsimp only;cases hs:(runtimePanic (.plain "send on closed channel"):Sem Unit).run P w' with
     | ok a w''=>rfl
     | halt hh w''=>cases hh<;>first | rfl | simp
    | closed=>simp
    | buffer=>
     rw[G6 h,G6 Jr];split<;>first | (simp;done) | (exfalso;simp_all;done)
end
end Go.Co
namespace Go.Co
open Go.Conc
section
variable {P : Program}{w : World}
def chanOf (c:CommCase):Nat:=match c.chan with | .chan (some r)=>r | _=>0
def Aj4 (P:Program)(g:Goroutine)(cs:Array CommCase)(sh:CommShape)(k:Nat)(c:CommCase)(way:Way)(w:World):GStep:=
  match way with
  | .sendClosed=>match (runtimePanic (.plain "send on closed channel"):Sem Unit).run P w with
    | .halt (.panic v) w=>.go {g with frame:=g.frame.raise [{v,recovered:=false}]} w
    | _=>.ended (.stuck "communicate" "") w
  | .closed=>.go (g.finishComm P cs sh k c.zero false) w
  | .buffer=>match w.heap[chanOf c]?,c.send with
    | some (.chan cap buf cl s r tm),some v=>.go (g.finishComm P cs sh k undef false) {w with heap:=w.heap.setIfInBounds (chanOf c) (.chan cap (buf.push v) cl (s+1) r tm)}
    | some (.chan cap buf cl s r tm),none=>.go (g.finishComm P cs sh k (buf.getD 0 undef) true) {w with heap:=w.heap.setIfInBounds (chanOf c) (.chan cap (buf.extract 1 buf.size) cl s (r+1) tm)}
    | _,_=>.ended (.stuck "communicate: no such channel" "") w
  | _=>.ended (.stuck "communicate: no such channel" "") w
def Aul (P:Program)(g:Goroutine)(cs:Array CommCase)(sh:CommShape):Result (Nat × CommCase × Way)->GStep
  | .ok (k,c,way) w'=>Aj4 P g cs sh k c way w'
  | .halt _ w'=>.ended (.stuck "communicate" "") w'
def V3 (cs:Array CommCase)(w:World):List (Nat × CommCase × List Way):=(cs.zipIdx.toList.map λ(c,k)=>(k,c,ways w #[fin] c)).filter λ(_,_,ws)=>!ws.isEmpty
theorem Ad7 (g:Goroutine)(cs:Array CommCase)(b:Bool)(sh:CommShape)(w:World):
    (∃o,∀w₁:World,w₁.heap=w.heap->Uf P g cs b sh w₁=.ended o w₁)\/
    (∃g',g'={g with status:=.blocked,offers:=some (cs,sh)}/\∀w₁:World,w₁.heap=w.heap->Uf P g cs b sh w₁=.go g' w₁)\/
    (∃g',g'=g.finishComm P cs sh (-1) undef false/\∀w₁:World,w₁.heap=w.heap->Uf P g cs b sh w₁=.go g' w₁)\/
    (∀w₁:World,w₁.heap=w.heap->Uf P g cs b sh w₁=Aul P g cs sh ((Ae1 (V3 cs w)).run P w₁)):=by
  have eH:∀w₁:World,w₁.heap=w.heap->∀c,ways w₁ #[fin] c=ways w #[fin] c:=λw₁ h c=>by unfold ways;rw[h]
  have hrw:∀x∈V3 cs w,∀y∈x.2.2,∀a b,y≠.partner a b:=Aap (w:=w) Jr cs.zipIdx.toList;by_cases nT:cs.any (λc=>match c.chan with | .chan none=>false | .chan (some r)=>!(w.heap[r]? matches some (.chan ..)) | _=>true)=true
  · refine .inl ⟨.stuck "a communication at a channel whose block is no channel's" (g.frame.pos P),λw₁ h=>?_⟩
    unfold Uf communicate;rw[h];dsimp only;split
    · rename_i heq;split at heq
      · cases heq
      · rename_i hn;exact absurd nT hn
    · rename_i heq;split at heq
      · cases heq;rfl
      · rename_i hn;exact absurd nT hn
  · by_cases hre:(V3 cs w).isEmpty=true
    · cases b
      · refine .inr (.inr (.inl ⟨_,rfl,λw₁ h=>?_⟩))
        unfold Uf communicate;simp only[eH w₁ h];rw[h];refine(congrArg (λx:Stepped × Array MemOp=>match x with | (.next m,_)=>GStep.go (m.gs.getD 0 default) m.world | (.ended o w,_)=>.ended o w) ((if_neg nT).trans (if_pos hre))).trans ?_;simp
      · refine .inr (.inl ⟨_,rfl,λw₁ h=>?_⟩)
        unfold Uf communicate;simp only[eH w₁ h];rw[h];refine(congrArg (λx:Stepped × Array MemOp=>match x with | (.next m,_)=>GStep.go (m.gs.getD 0 default) m.world | (.ended o w,_)=>.ended o w) ((if_neg nT).trans (if_pos hre))).trans ?_;rw[Zd _ rfl];simp
    · refine .inr (.inr (.inr λw₁ h=>?_))
      unfold Uf communicate;simp only[eH w₁ h];rw[h];refine(congrArg (λx:Stepped × Array MemOp=>match x with | (.next m,_)=>GStep.go (m.gs.getD 0 default) m.world | (.ended o w,_)=>.ended o w) ((if_neg nT).trans (if_neg hre))).trans ?_;generalize eP:(List.filter _ _:List (Nat × CommCase × List Way))=ready;obtain rfl:V3 cs w=ready:=eP;cases hp:(Ae1 (V3 cs w)).run P w₁ with
      | halt hh w'=>rfl
      | ok z w'=>
        obtain⟨k,c,way⟩:=z;have hw:=Agv hrw hp;cases way with
        | partner a b=>exact absurd rfl (hw a b)
        | sendClosed=>
          simp only[Aul,Aj4];cases (runtimePanic (.plain "send on closed channel"):Sem Unit).run P w' with
          | ok a w''=>rfl
          | halt hh w''=>cases hh<;>rfl
        | closed=>rfl
        | buffer=>
          simp only[Aul,Aj4];rw[G6 Jr]
          cases hs:c.send<;>(cases hc:c.chan<;>first
            | (rename_i o
               cases o<;>simp only[chanOf,hc]<;>(generalize (w'.heap[(_:Nat)]?:Option Obj)=o;rcases o with _ | o<;>first | rfl | (cases o<;>first | rfl | simp)))
            | (simp only[chanOf,hc];(generalize (w'.heap[(_:Nat)]?:Option Obj)=o;rcases o with _ | o<;>first | rfl | (cases o<;>first | rfl | simp))))
end
end Go.Co
namespace Go.Co
open Go.Conc
section
variable {g:Goroutine}
variable {P : Program}{w : World}
def _root_.Go.GStep.put (w:World):GStep->GStep:=GStep.turn λ_=>w
theorem Gf.next {F:World->GStep}(nxt:GStep->GStep)(hF:Gf F w)(h:Gf (λw'=>nxt ((F w).put w')) (F w).w)(hc:(nxt (F w)).cont->(F w).cont):Gf (λw=>nxt (F w)) w:=by
 obtain⟨h1,h2,K,h3,h4,h5⟩:=hF;have hput:(F w).put (F w).w=F w:=by cases F w<;>rfl
 obtain⟨g1,g2,L,g3,g4,g5⟩:=h;simp only[hput] at g1 g2 g3 g4 g5;refine⟨g1.trans h1,A4k h2 g2,max K L,A4k g3 (Nat.le_max_right _ _),λc=>?_,fun τ s e hs hA=>?_⟩
 ·rw[h4 (hc c),g4 c]
  exact Nat.max_eq_right g2
 ·have e1:=h5 τ s e hs (hA.mono (Nat.le_max_left _ _))
  have e2:=g5 τ s e (A4k hs h2) (by rw[h1];exact hA.mono (Nat.le_max_right _ _));have hturn:(F w).turn (rt τ s e)=(F w).put (rt τ s e (F w).w):=by cases F w<;>rfl
  simp only[e1];rw[hturn];exact e2
theorem Au3 (g:Goroutine)(cs:Array CommCase)(sh:CommShape)(k:Nat)(c:CommCase)(way:Way)(w:World):Gf (λw=>Aj4 P g cs sh k c way w) w:=by
 unfold Aj4;cases way with
 | partner a b=>exact(Be _ _).loc w
 | closed=>exact(Dw _ _).loc w
 | sendClosed=>
  have hx:=Calm.loc (Ob (P:=P) (α:=Unit) (.plain "send on closed channel")) w #[];have e:∀w,(runtimePanic (.plain "send on closed channel"):Sem Unit).run P w=((runtimePanic (.plain "send on closed channel"):Sem Unit).runT P w #[]).1:=λw=>by rw[Sem.runT_eq]
  simp only[e];generalize hr:(runtimePanic (.plain "send on closed channel"):Sem Unit).runT P w #[]=r;obtain⟨r,ev⟩:=r;cases r with
  | ok a w'=>exact Gf.caseOld hx hr (Be (.stuck "communicate" "") #[]) (λw c=>c) λw₁ w₂ h=>by simp only[h,Result.put]
  | halt h w'=>
   cases h
   case panic v=>exact Gf.case hx hr ((Dw {g with frame:=g.frame.raise [{v,recovered:=false}]} #[]).loc w') (λ_ x=>x) λw₁ w₂ h=>by simp only[h,Result.put]
   all_goals exact Gf.caseOld hx hr (Be (.stuck "communicate" "") #[]) (λw c=>c) λw₁ w₂ h=>by simp only[h,Result.put]
 | buffer=>
  refine Gf.const ?_ ?_ fun τ s e _=>?_
  ·dsimp only
   split<;>rfl
  ·dsimp only
   split<;>rfl
  ·dsimp only
   show(match w.heap[chanOf c]?,c.send with
    | some (.chan cap buf cl s' r tm),some v=>GStep.go (g.finishComm P cs sh k undef false) {rt τ s e w with heap:=w.heap.setIfInBounds (chanOf c) (.chan cap (buf.push v) cl (s'+1) r tm)}
    | some (.chan cap buf cl s' r tm),none=>GStep.go (g.finishComm P cs sh k (buf.getD 0 undef) true) {rt τ s e w with heap:=w.heap.setIfInBounds (chanOf c) (.chan cap (buf.extract 1 buf.size) cl s' (r+1) tm)}
    | _,_=>GStep.ended (.stuck "communicate: no such channel" "") (rt τ s e w))=_
   rcases w.heap[chanOf c]? with _ | o
   ·cases c.send<;>rfl
   ·cases o<;>cases c.send<;>rfl
theorem Au2 (g:Goroutine)(cs:Array CommCase)(b:Bool)(sh:CommShape)(w:World):Gf (λw=>Uf P g cs b sh w) w:=by
 rcases Ad7 (P:=P) g cs b sh w with⟨o,h⟩ | ⟨g',_,h⟩ | ⟨g',_,h⟩ | h
 ·exact((Be o #[]).loc w).like (h w rfl) fun τ s e=>h _ rfl
 ·exact((Dw g' #[]).loc w).like (h w rfl) fun τ s e=>h _ rfl
 ·exact((Dw g' #[]).loc w).like (h w rfl) fun τ s e=>h _ rfl
 ·refine Gf.like (G:=λw₁=>Aul P g cs sh ((Ae1 (V3 cs w)).run P w₁)) ?_ (h w rfl) fun τ s e=>h _ rfl
  refine Gf.bindR (P:=P) (x:=Ae1 (V3 cs w)) (Aul P g cs sh) (Calm.loc (Arq _) w #[]) ?_ ?_
  ·generalize Sem.run P _ w=r
   cases r with
   | ok a w'=>obtain⟨k,c,way⟩:=a;exact Au3 g cs sh k c way w'
   | halt h w'=>exact(Be _ _).loc _
  ·exact zn0
theorem Oq (h:OkG g)(cs:Array CommCase)(sh:CommShape)(k:Int)(v:Value)(ok:Bool):OkG (g.finishComm P cs sh k v ok):=⟨Ii h.1 _,h.2⟩
theorem Aq3 (hg:OkG g)(hr:g.status=.running)(cs:Array CommCase)(b:Bool)(sh:CommShape)(w:World):(∃o w',Uf P g cs b sh w=.ended o w')\/∃g' w',Uf P g cs b sh w=.go g' w'/\OkG g'/\∀t,g'.status≠.sleeping t:=by
 have hB:∀k c way w,(∃o w',Aj4 P g cs sh k c way w=.ended o w')\/∃g' w',Aj4 P g cs sh k c way w=.go g' w'/\OkG g'/\∀t,g'.status≠.sleeping t:=by
  intro k c way w;unfold Aj4;have hfin:∀(k:Int) v ok,∀t,(g.finishComm P cs sh k v ok).status≠.sleeping t:=λ_ _ _ _ h=>by cases h
  cases way with
  | partner a b=>exact .inl ⟨_,_,rfl⟩
  | closed=>exact .inr ⟨_,_,rfl,Oq hg _ _ _ _ _,hfin _ _ _⟩
  | sendClosed=>
   dsimp only;split
   ·exact .inr ⟨_,_,rfl,⟨N7 hg.1 _,hg.2⟩,λt h=>by rw[show g.status=_ from h] at hr;cases hr⟩
   ·exact .inl ⟨_,_,rfl⟩
  | buffer=>
   dsimp only;split
   ·exact .inr ⟨_,_,rfl,Oq hg _ _ _ _ _,hfin _ _ _⟩
   ·exact .inr ⟨_,_,rfl,Oq hg _ _ _ _ _,hfin _ _ _⟩
   ·exact .inl ⟨_,_,rfl⟩
 rcases Ad7 (P:=P) g cs b sh w with⟨o,h⟩ | ⟨g',rfl,h⟩ | ⟨g',rfl,h⟩ | h
 ·exact .inl ⟨_,_,h w rfl⟩
 ·exact .inr ⟨_,_,h w rfl,hg,λt h=>by cases h⟩
 ·exact .inr ⟨_,_,h w rfl,Oq hg _ _ _ _ _,λt h=>by cases h⟩
 ·rw[h w rfl]
  generalize (Ae1 (V3 cs w)).run P w=r;cases r with
  | ok a w'=>obtain⟨k,c,way⟩:=a;exact hB k c way w'
  | halt h w'=>exact .inl ⟨_,_,rfl⟩
end
end Go.Co
