import Derived.Test.YtbfljjcnbbmoaaaGreatDoorCB9
namespace Go.Co
def Af4 (cs:List Frame):Prop:=∀c∈cs,Yk c
def _root_.Go.GStep.fine:GStep->Prop
  | .go g _ es=>OkG g/\(∀t,g.status≠.sleeping t)/\(g.status=.running->deafBehind 0 es=0)
  | .comm g _ _ _ _ es=>OkG g/\g.status=.running/\deafBehind 0 es=0
  | .coroswitch g _ _ _ es=>OkG g/\deafBehind 0 es=0
  | .spawn .. | .ended ..=>True
  | _=>False
section
variable {P : Program} {w : World}
theorem Ago (es es':Array Event) (h:deafBehind 0 es=0):deafBehind 0 (es++es')=deafBehind 0 es':=by
  unfold deafBehind at*;rw[Array.foldl_append,h]
theorem Dj {es:Array Event} {x:GStep} (h:x.fine) (hd:x.cont->deafBehind 0 es=0):(GStep.after es x).fine:=by
  cases x with
  | go g w es'=>exact⟨h.1,h.2.1,λhr=>by rw[Ago _ _ (hd hr)];exact h.2.2 hr⟩
  | comm g c b sh w es'=>exact⟨h.1,h.2.1,by rw[Ago _ _ (hd trivial)];exact h.2.2⟩
  | coroswitch g c b w es'=>exact⟨h.1,by rw[Ago _ _ (hd trivial)];exact h.2⟩
  | spawn g c w es'=>trivial
  | ended o w es'=>trivial
  | _=>exact h
theorem Dk {fr:Frame} {cs:List Frame} {st:GoStatus} {dy:Option Dying} (h1:Yk fr) (h2:Af4 cs) (hst:∀t,st≠.sleeping t:=by intro _ h;cases h):(GStep.go {frame:=fr,callers:=cs,status:=st,dying:=dy} w).fine:=⟨⟨h1,h2⟩,hst,λ_=>rfl⟩
theorem Jg:Af4 []:=λ_ h=>by cases h
theorem J8 {fr:Frame} {cs:List Frame} (h1:Yk fr) (h2:Af4 cs):Af4 (fr::cs):=λc hc=>(List.mem_cons.1 hc).elim (λe=>e ▸ h1) (h2 c)
theorem Nh {fr:Frame} (h:Yk fr) (vs:List PanicEntry):Yk (fr.raise vs):=by
  unfold Frame.raise;split<;>exact h
theorem Pj (f:FuncId) (args:Array Value) (k:CallKind):Yk (Frame.enter P f args k):=by
  intro i hi;simp only[Frame.enter,A4s] at hi;subst hi;trivial
theorem Aez (l:Nat) (f:FuncId) (t:Array Value) (a b:Code) (k:CallKind):Yk (Frame.round l f t a b k):=by
  intro i hi;simp only[Frame.round,A4y,List.not_mem_nil,or_false] at hi;rcases hi with rfl | rfl | rfl<;>trivial
theorem Am9 (args:Array Value) (k:CallKind):Yk (Frame.ofRow P "runtime.print$piece" args k):=by
  intro i hi;simp only[Frame.ofRow,A4s] at hi;subst hi;rfl
theorem H9 {fr:Frame} (h:Yk fr) (v:Value):Yk (fr.finish v):=by
  unfold Frame.finish;unfold Yk at h;split
  · rename_i ops i rest k hk
    rw[hk] at h;intro j hj;rcases List.mem_cons.1 hj with rfl | hj
    · trivial
    · exact h j (A4h _ hj)
  · rename_i l k hk
    rw[hk] at h;intro j hj;rcases List.mem_cons.1 hj with rfl | hj
    · trivial
    · exact h j (A4h _ hj)
  · rename_i k hk
    rw[hk] at h;exact λj hj=>h j (A4h _ hj)
  · rename_i d b r s k hk
    rw[hk] at h;intro j hj;rcases List.mem_cons.1 hj with rfl | hj
    · exact h (.call d b r s) List.mem_cons_self
    · exact h j (A4h _ hj)
  · rename_i r a k hk
    rw[hk] at h;exact λj hj=>h j (A4h _ hj)
  · exact h
theorem Qw:∀{fr:Frame} {cs:List Frame} {v:Value} {cs':List Frame},Af4 cs->tryRecover fr cs=some (v,cs')->Af4 cs':=by
  intro fr cs;induction cs generalizing fr with
  | nil=>
    intro v cs' _ h;unfold tryRecover at h;cases hk:fr.kind<;>simp[hk] at h
  | cons c cs ih=>
    intro v cs' hc h;have h1:=hc c List.mem_cons_self;have h2:Af4 cs:=λx hx=>hc x (A4h _ hx)
    unfold tryRecover at h;cases hk:fr.kind<;>simp only[hk] at h
    case deferred=>
      split at h
      · cases h
        exact J8 h1 h2
      · cases h
    case wrapped=>
      cases hr:tryRecover c cs with
      | none=>rw[hr] at h;cases h
      | some x=>
        rw[hr] at h;obtain⟨v',cs''⟩:=x;cases h;exact J8 h1 (ih h2 hr)
    all_goals cases h
theorem Aa5:∀{l:Nat} {cs:List Frame} {v:Value} {cs':List Frame},Af4 cs->tryRecoverLoop l cs=some (v,cs')->Af4 cs':=by
  intro l cs;induction cs generalizing l with
  | nil=>intro v cs' _ h;cases h
  | cons c cs ih=>
    intro v cs' hc h;have h1:=hc c List.mem_cons_self;have h2:Af4 cs:=λx hx=>hc x (A4h _ hx)
    unfold tryRecoverLoop at h;obtain⟨x,hx,he⟩:=Option.map_eq_some_iff.1 h;obtain⟨v',cs''⟩:=x;cases he;refine J8 h1 ?_;split at hx
    · exact ih h2 hx
    · split at hx
      · exact Qw h2 hx
      · exact ih h2 hx
    · exact ih h2 hx
theorem Uf (main:Bool) {fr:Frame} {cs:List Frame} (dy:Option Dying) (v:Value) (w:World) (h1:Yk fr) (h2:Af4 cs):(doReturn P main fr cs dy v w).fine:=by
  unfold doReturn;cases cs with
  | cons c cs=>
    have hc:=h2 c List.mem_cons_self;have hcs:Af4 cs:=λx hx=>h2 x (A4h _ hx)
    dsimp only;split
    · exact Dk (H9 hc v) hcs
    · exact Dk (H9 hc v) hcs
    · exact Dk hc hcs
    · refine Dk ?_ hcs
      split
      · split<;>exact hc
      · exact hc
  | nil=>
    dsimp only;split
    · exact Dk h1 Jg
    · trivial
    · split
      · exact Dk h1 Jg
      · split
        · exact Dk (Pj _ _ _) Jg
        · trivial
theorem Sm {fr:Frame} (l:List ByteArray) (m:String) (b:Bool) (w:World) (h:Yk fr):(dieOf fr l m b w).fine:=Dk h Jg
theorem Uz {fr:Frame} (v:Value) (w:World) (h:Yk fr):(endPrinting P fr v w).fine:=by
  unfold endPrinting;dsimp only;split
  · exact Sm _ _ _ w h
  · trivial
theorem Zc {fr:Frame} {cs:List Frame} (dy:Option Dying) (m:String) (w:World) (h:Yk fr):(endFatal P fr cs dy m w).fine:=by
  unfold endFatal;dsimp only;split
  · exact Sm _ _ _ _ h
  · trivial
  · trivial
theorem Aqa {fr:Frame} {cs:List Frame} (dy:Option Dying) (g:Nat) (w:World) (h1:Yk fr) (h2:Af4 cs):(early P fr cs dy g w).fine:=by
  have hny:∀w:World,(match w.heap[g]? with
      | some (.pending c elem)=>GStep.go {frame:=fr,callers:=cs,status:=.running,dying:=dy} {w with heap:=w.heap.setIfInBounds g (.cells c elem)}
      | _=>.ended (.stuck "early: the variable does not wait" (fr.pos P)) w).fine:=by
    intro w;split
    · exact Dk h1 h2
    · trivial
  have hth:∀(f:FuncId) (w:World) (l:List FuncId),(GStep.go {frame:=Frame.enter P f #[] .early,callers:=l.map (Frame.enter P · #[] .early)++fr::cs,status:=.running,dying:=dy} w).fine:=by
    intro f w l;refine Dk (Pj _ _ _) λc hc=>?_
    rcases List.mem_append.1 hc with hc | hc
    · obtain⟨x,_,rfl⟩:=List.mem_map.1 hc
      exact Pj _ _ _
    · exact J8 h1 h2 c hc
  unfold early;dsimp only;split
  · exact hny w
  · split
    · trivial
    · split
      · exact hny w
      · split
        · exact hny w
        · split
          · trivial
          · exact hth _ _ _
          · trivial
          · exact hny w
          · split
            · exact hth _ _ _
            · split
              · exact hny w
              · split
                · exact hny _
                · exact hth _ _ _
                · trivial
theorem Un:V3 #[]:=λ_ h=>by simp at h
theorem Pn {fr:Frame} {cs:List Frame} (dy:Option Dying) {x:Sem Next} (w:World) (h1:Yk fr) (h2:Af4 cs) (hx:Sat P U4 0 x):(stepG.apply P true fr cs dy x w).fine:=by
  have hok:=Yz (w:=w) (es:=#[]) hx;have hb:=Wy hx w #[] rfl Un;rw[Aob];generalize hr:x.runT P w #[]=r at hok hb;obtain⟨r,ev⟩:=r;have hev:∀es:Array Event,(es=#[]\/es=ev)->(es=ev->Xj r)->deafBehind 0 (seen P fr.fn (if fr.kind==.early then #[] else es))=0:=by
    intro es he hg;split
    · rfl
    · rcases he with rfl | rfl
      · rfl
      · rw[Ac9 _ _ hb.1];exact hb.2 (hg rfl)
  cases r with
  | ok a w'=>
    refine Dj ?_ λ_=>hev _ (.inr rfl) λ_=>trivial
    have ha:=hok a ⟨w',rfl⟩;unfold stepG.apply;simp only[Aok,if_true,Sem.runT,ite_self,Hf,F5,Result.w];cases a<;>first | exact ha.elim | skip
    case value v=>exact Dk (H9 h1 v) h2
    case skip=>exact Dk (H9 h1 _) h2
    case enter f args=>exact Dk (Pj _ _ _) (J8 h1 h2)
    case round l f t a b=>exact Dk (Aez _ _ _ _ _ _) (J8 h1 h2)
    case defer d=>exact Dk (H9 (fr:={fr with defers:=d::fr.defers}) h1 _) h2
    case recover=>
      dsimp only;split
      · rename_i v cs' hrec
        refine Dk (H9 h1 _) ?_;split at hrec
        · split at hrec
          · exact Qw h2 hrec
          · exact Aa5 h2 hrec
        · exact Qw h2 hrec
      · exact Dk (H9 h1 _) h2
    case spawn d=>
      dsimp only
      split<;>split<;>first | exact Sm _ _ _ _ h1 | trivial
    case comm c b sh=>exact⟨⟨h1,h2⟩,rfl,rfl⟩
    case coroswitch c b=>exact⟨⟨h1,h2⟩,rfl⟩
    case row r args=>
      obtain rfl:r= "runtime.print$piece" :=ha;dsimp only;split
      · rename_i r' a' k hk
        refine Dk ?_ h2;intro i hi;rcases List.mem_cons.1 hi with rfl | hi
        · rfl
        · exact h1 i (by rw[hk];exact A4h _ hi)
      · exact Dk (Am9 _ _) (J8 h1 h2)
  | halt h w'=>
    have hq:∀h:Halt,Acg h->∀es,(stepG.apply P true fr cs dy (.halt h) w').cont->deafBehind 0 es=0:=λh ho es c=>absurd ho (Vr fr cs dy h w' c)
    cases h
    case panic v=>
      refine Dj ?_ λ_=>hev _ (.inr rfl) λ_=>trivial
      show(stepG.apply P true fr cs dy (.halt (.panic v)) w').fine
      unfold stepG.apply;simp only[if_true,Sem.runT,ite_self,Hf,F5];exact Dk (Nh h1 _) h2
    case goexit=>
      refine Dj ?_ λ_=>hev _ (.inr rfl) λ_=>trivial
      show(stepG.apply P true fr cs dy (.halt .goexit) w').fine
      unfold stepG.apply;simp only[if_true,Sem.runT,ite_self,Hf,F5];exact Dk (Nh h1 _) h2
    case blocked=>
      refine Dj ?_ (hq .blocked trivial _);show(stepG.apply P true fr cs dy (.halt .blocked) w').fine
      unfold stepG.apply;simp only[if_true,Sem.runT,ite_self,Hf,F5];exact Dk h1 h2
    case waiting=>
      refine Dj ?_ (hq .waiting trivial _);show(stepG.apply P true fr cs dy (.halt .waiting) w').fine
      unfold stepG.apply;simp only[if_true,Sem.runT,ite_self,Hf,F5];exact Dk h1 h2
    case exit c=>
      refine Dj ?_ λ_=>hev _ (.inr rfl) λ_=>trivial
      show(stepG.apply P true fr cs dy (.halt (.exit c)) w').fine
      unfold stepG.apply;simp only[if_true,Sem.runT,ite_self,Hf,F5];trivial
    case fatal m=>
      refine Dj ?_ λ_=>hev _ (.inr rfl) λ_=>trivial
      show(stepG.apply P true fr cs dy (.halt (.fatal m)) w').fine
      unfold stepG.apply;simp only[if_true,Sem.runT,ite_self,Hf,F5];exact Zc dy m w' h1
    case throw m=>
      refine Dj ?_ λ_=>hev _ (.inr rfl) λ_=>trivial
      show(stepG.apply P true fr cs dy (.halt (.throw m)) w').fine
      unfold stepG.apply;simp only[if_true,Sem.runT,ite_self,Hf,F5];exact Sm _ _ _ w' h1
    case stuck m=>
      refine Dj ?_ (hq (.stuck m) trivial _);show(stepG.apply P true fr cs dy (.halt (.stuck m)) w').fine
      unfold stepG.apply;simp only[if_true,Sem.runT,ite_self,Hf,F5];trivial
    case unsupported u=>
      by_cases hi:∃g,u=.initOrder g
      · obtain⟨g,rfl⟩:=hi
        refine Dj ?_ λ_=>by show deafBehind 0 (seen P fr.fn (if fr.kind==.early then #[] else #[]))=0;split<;>rfl
        show(stepG.apply P true fr cs dy (.halt (.unsupported (.initOrder g))) w').fine
        unfold stepG.apply;simp only[if_true,Sem.runT,ite_self,Hf,F5];exact Aqa dy g w' h1 h2
      · refine Dj ?_ (hq (.unsupported u) (by cases u<;>first | trivial | exact absurd ⟨_,rfl⟩ hi) _)
        show(stepG.apply P true fr cs dy (.halt (.unsupported u)) w').fine
        unfold stepG.apply;cases u<;>first
          | exact absurd ⟨_,rfl⟩ hi
          | (simp only[if_true,Sem.runT,ite_self,Hf,F5];trivial)
end
end Go.Co
namespace Go.Co
section
variable {P : Program} {w : World}
theorem Aac {α:Type} {x:Sem α} (hx:Calm P x) (fn:FuncId) {r:Result α} {ev:Array Event} (hr:x.runT P w #[]=(r,ev)) (hg:Xj r):deafBehind 0 (seen P fn ev)=0:=by
  have hb:=Wy hx w #[] rfl Un;rw[hr] at hb;rw[Ac9 _ _ hb.1];exact hb.2 hg
theorem Aax {x:Sem Next} (hx:Sat P U4 0 x) (fn:FuncId) {r:Result Next} {ev:Array Event} (hr:x.runT P w #[]=(r,ev)) (hg:Xj r):deafBehind 0 (seen P fn ev)=0:=by
  have hb:=Wy hx w #[] rfl Un;rw[hr] at hb;rw[Ac9 _ _ hb.1];exact hb.2 hg
theorem Og {o:Outcome} {es es':Array Event}:(GStep.after es (.ended o w es')).fine:=trivial
theorem Gz {fr:Frame} {i:Item} {k:List Item} (h:Yk fr) (hk:fr.todo=i::k):∀j∈k,Uu j:=λj hj=>h j (by rw[hk];exact A4h _ hj)
theorem Io {c:Code} {k:List Item} (h:∀j∈k,Uu j):∀j∈Item.code c::k,Uu j:=λj hj=>(List.mem_cons.1 hj).elim (λe=>e ▸ trivial) (h j)
theorem Il {i:Item} {k:List Item} (hi:Uu i) (h:∀j∈k,Uu j):∀j∈i::k,Uu j:=λj hj=>(List.mem_cons.1 hj).elim (λe=>e ▸ hi) (h j)
theorem Ah9 {id:Nat}:∀{k k':List Item},(∀j∈k,Uu j)->exitTo id k=some k'->∀j∈k',Uu j:=by
  intro k;induction k with
  | nil=>intro k' _ h;cases h
  | cons i k ih=>
    intro k' hk h;have hk':=λj hj=>hk j (A4h _ hj)
    cases i<;>simp only[exitTo] at h<;>first
      | exact ih hk' h
      | (split at h
         · cases h;exact hk'
         · exact ih hk' h)
theorem Ah8 {l:Nat}:∀{k k':List Item},(∀j∈k,Uu j)->gotoIn l k=some k'->∀j∈k',Uu j:=by
  intro k;induction k with
  | nil=>intro k' _ h;cases h
  | cons i k ih=>
    intro k' hk h;have hk':=λj hj=>hk j (A4h _ hj)
    cases i<;>simp only[gotoIn] at h<;>first
      | exact ih hk' h
      | (split at h
         · cases h;exact Io (Il trivial hk')
         · exact ih hk' h)
theorem Ap9 (main:Bool) {fr:Frame} {cs:List Frame} (dy:Option Dying) (jump:Option Code) (w:World) (h1:Yk fr) (h2:Af4 cs):(
      match fr.roundOf with
      | none=>if jump matches none | some .ret then GStep.go {frame:={fr with mode:=.returning},callers:=cs,status:=.running,dying:=dy} w else .ended (.stuck "exit, goto: no such block or label" (fr.pos P)) w
      | some l=>
        let (r,es):=(Instr.endRound l jump).runT P w #[]
        GStep.after (seen P fr.fn es)<| match r with
        | .ok v w=>doReturn P main fr cs dy v w
        | .halt _ w=>.ended (.stuck "range over a function: no such loop" (fr.pos P)) w).fine:=by
  cases fr.roundOf with
  | none=>
    dsimp only;split<;>split<;>first | exact Dk h1 h2 | trivial
  | some l=>
    dsimp only;generalize hr:Sem.runT P _ w #[]=r;obtain⟨r,ev⟩:=r;cases r with
    | ok v w'=>exact Dj (Uf main dy v w' h1 h2) λ_=>Aac (by simp) _ hr trivial
    | halt h w'=>exact Dj trivial λc=>c.elim
theorem Avg (hP:OkP P) {fr:Frame} {cs:List Frame} (dy:Option Dying) (w:World) (h1:Yk fr) (h2:Af4 cs):(stepG.oper P true fr cs dy w).fine:=by
  unfold stepG.oper;split
  · trivial
  · split
    · exact Pn dy w h1 h2 (D5 (by simp) λ_=>D5 (by simp) λ_=>Gv trivial)
    · exact Pn dy w h1 h2 (Aep hP _ _)
theorem Avh (hP:OkP P) (main:Bool) {fr:Frame} {cs:List Frame} (dy:Option Dying) (w:World) (h1:Yk fr) (h2:Af4 cs):(stepG.exec P main true fr cs dy w).fine:=by
  have hl:=λj=>Ap9 (P:=P) main dy j w h1 h2
  have hto:∀todo:List Item,(∀j∈todo,Uu j)->(GStep.go {frame:={fr with todo},callers:=cs,status:=.running,dying:=dy} w).fine:=λtodo h=>Dk (fr:={fr with todo}) h h2
  unfold stepG.exec;dsimp only;split
  · exact hl none
  · exact hl (some .ret)
  · rename_i hk;exact hto _ (Gz h1 hk)
  · rename_i hk;exact hto _ (Gz h1 hk)
  · rename_i hk;exact hto _ (Gz h1 hk)
  · rename_i hk;exact hto _ (Gz h1 hk)
  · rename_i hk;exact hto _ (Io (Io (Gz h1 hk)))
  · rename_i hk
    split
    · exact hto _ (Io (Gz h1 hk))
    · trivial
  · rename_i hk;exact hto _ (Io (Il trivial (Gz h1 hk)))
  · rename_i hk;exact hto _ (Io (Il trivial (Gz h1 hk)))
  · rename_i hk;exact hto _ (Io (Il trivial (Gz h1 hk)))
  · rename_i hk;exact hto _ (Io (Il trivial (Gz h1 hk)))
  · rename_i id k hk
    cases he:exitTo id k with
    | none=>exact hl (some (.exit id))
    | some t=>exact hto _ (Ah9 (Gz h1 hk) he)
  · rename_i l k hk
    cases he:gotoIn l k with
    | none=>exact hl (some (.goto l))
    | some t=>exact hto _ (Ah8 (Gz h1 hk) he)
  · rename_i f params assign body k hk
    generalize hr:Sem.runT P _ w #[]=r;obtain⟨r,ev⟩:=r;cases r with
    | ok a w'=>
      obtain⟨l,mk⟩:=a;exact Dj (Pn (fr:={fr with todo:=.inRangeFunc l::k,defers:=mk++fr.defers}) dy w' (Il trivial (Gz h1 hk)) h2 (D5 (by simp) λ_=>Jw hP _ _)) λ_=>Aac (by simp) _ hr trivial
    | halt h w'=>exact Dj trivial λc=>c.elim
  · trivial
  · refine Pn dy w h1 h2 (D5 ?_ λ_=>Gv trivial)
    cases fr.roundOf with
    | none=>exact Dw
    | some l=>exact Oq l
  · rename_i l k hk
    generalize hr:Sem.runT P _ w #[]=r;obtain⟨r,ev⟩:=r;cases r with
    | ok jump w'=>
      refine Dj (Dk (fr:={fr with todo:=(jump.map Item.code).toList++k}) ?_ h2) λ_=>Aac (by simp) _ hr trivial
      intro j hj;rcases List.mem_append.1 hj with hj | hj
      · cases jump with
        | none=>simp at hj
        | some c=>simp at hj;subst hj;trivial
      · exact Gz h1 hk j hj
    | halt h w'=>
      cases h
      case panic v=>exact Dj (Dk (Nh h1 _) h2) λ_=>Aac (by simp) _ hr trivial
      all_goals exact Dj trivial λc=>c.elim
  · trivial
  · exact Pn dy w h1 h2 (Jw hP _ _)
  · rename_i row args k hk
    have hrow:row= "runtime.print$piece" :=h1 (.extern row args) (by rw[hk];exact List.mem_cons_self);subst hrow;rw[Ae1];exact Pn dy w h1 h2 (Ab1 _ _ _)
  · rename_i id ops draw k hk
    split
    · exact hto _ (Il trivial (Gz h1 hk))
    · split
      · exact Dk (fr:={fr with todo:=.inRegion ops _::k}) (Il trivial (Gz h1 hk)) h2
      · trivial
  · rename_i hk;exact hto _ (Gz h1 hk)
  · split
    · exact Avg hP dy w h1 h2
    · exact Dk (H9 h1 _) h2
theorem Aab (hP:OkP P) {fr:Frame} {cs:List Frame} (dy:Option Dying) (d:Deferred) (w:World) (h1:Yk fr) (h2:Af4 cs):(callDeferred P fr cs dy d w).fine:=by
  have hx:=Jw hP d.target d.args;have hok:=Yz (w:=w) (es:=#[]) hx;unfold callDeferred;dsimp only;split<;>split<;>(try trivial)
  all_goals
    generalize hr:Sem.runT P _ w #[]=r at hok;obtain⟨r,ev⟩:=r;cases r with
    | ok a w'=>
      refine Dj ?_ λ_=>Aax hx _ hr trivial
      have ha:=hok a ⟨w',rfl⟩;cases a<;>first | exact ha.elim | skip
      case value v=>exact Dk h1 h2
      case skip=>exact Dk h1 h2
      case enter f args=>exact Dk (Pj _ _ _) (J8 h1 h2)
      case round l f t a b=>exact Dk (Aez _ _ _ _ _ _) (J8 h1 h2)
      case defer d=>exact Dk h1 h2
      case spawn d=>exact Dk h1 h2
      case comm c b sh=>exact Dk h1 h2
      case row r args=>
        obtain rfl:r= "runtime.print$piece" :=ha;exact Dk (Am9 _ _) (J8 h1 h2)
      case recover=>
        dsimp only;split
        · rename_i hrec;exact Dk h1 (Qw h2 hrec)
        · exact Dk h1 h2
      case coroswitch c b=>
        cases b
        · trivial
        · exact⟨⟨h1,h2⟩,rfl⟩
    | halt h w'=>
      cases h
      case panic v=>exact Dj (Dk (Nh h1 _) h2) λ_=>Aax hx _ hr trivial
      case goexit=>exact Dj (Dk (Nh h1 _) h2) λ_=>Aax hx _ hr trivial
      case blocked=>exact Dj (Dk (fr:={fr with defers:=d::fr.defers}) h1 h2) λc=>by cases c
      case waiting=>exact Dj (Dk (fr:={fr with defers:=d::fr.defers}) h1 h2) λc=>by cases c
      case exit c=>exact Og
      case fatal m=>exact Dj (Zc dy m w' h1) λ_=>Aax hx _ hr trivial
      case throw m=>exact Dj (Sm _ _ _ w' h1) λ_=>Aax hx _ hr trivial
      case stuck m=>exact Og
      case unsupported u=>exact Og
theorem Alt (hP:OkP P) (main:Bool) {fr:Frame} {cs:List Frame} (dy:Option Dying) (w:World) (h1:Yk fr) (h2:Af4 cs):(unwind P main fr cs dy w).fine:=by
  unfold unwind;split
  · rename_i block _ ds _
    generalize hr:Sem.runT P _ w #[]=r;obtain⟨r,ev⟩:=r;cases r with
    | ok a w'=>exact Dj (Dk (fr:={fr with defers:=a++ds}) h1 h2) λ_=>Aac (by simp) _ hr trivial
    | halt h w'=>exact Og
  · exact Aab hP (fr:={fr with defers:=_}) dy _ w h1 h2
  · split
    · trivial
    · split
      · trivial
      · split
        · exact Dk (Nh (h2 _ List.mem_cons_self) _) (λx hx=>h2 x (A4h _ hx))
        · split
          · split
            · exact Dk h1 Jg
            · split
              · exact Dk h1 Jg
              · trivial
              · trivial
          · split
            · exact Uz _ w h1
            · trivial
    · split
      · exact Uf main dy _ w h1 h2
      · generalize hr:Sem.runT P _ w #[]=r
        obtain⟨r,ev⟩:=r;cases r with
        | ok a w'=>exact Dj (Uf main dy a w' h1 h2) λ_=>Aac (Aay _ _) _ hr trivial
        | halt h w'=>cases h<;>exact Og
theorem Ayc (hP:OkP P) {fr:Frame} (d:Dying) (w:World) (h1:Yk fr):(die P fr d w).fine:=by
  unfold die;split
  · rename_i f _
    cases hp:f.pieces with
    | nil=>unfold writeOn;simp only[hp];trivial
    | cons piece rest=>
      obtain⟨X,hX,hF⟩:=Aal (P:=P) fr d f piece rest hp;have hb:=Wy hX w #[] rfl Un;rw[hF];generalize X.runT P w #[]=r at hb;obtain⟨r,ev⟩:=r;cases r with
      | ok a w'=>exact⟨⟨h1,Jg⟩,(λ_ h=>by cases h),λ_=>hb.2 trivial⟩
      | halt h w'=>cases h<;>first | exact Dk h1 Jg | trivial
  · split
    · split
      · exact Dk h1 Jg
      · unfold endWith
        dsimp only;repeat' first | trivial | split
    · dsimp only
      split
      · exact Dk h1 Jg
      · split
        · exact Dk h1 Jg
        · trivial
      · rename_i t recv name _
        have hx:=Jw hP (.fn (.method name) #[]) #[.iface t recv];generalize hr:Sem.runT P _ w #[]=r;obtain⟨r,ev⟩:=r;cases r with
        | ok a w'=>
          cases a
          case enter f args=>exact Dj (Dk (Pj _ _ _) Jg) λ_=>Aax hx _ hr trivial
          case value x=>
            cases x
            case string s=>exact Dj (Dk h1 Jg) λ_=>Aax hx _ hr trivial
            all_goals exact Og
          all_goals exact Og
        | halt h w'=>
          cases h
          case panic v=>exact Dj (Uz v w' h1) λ_=>Aax hx _ hr trivial
          all_goals exact Og
      · trivial
theorem Sl (hP:OkP P) (main:Bool) (g:Goroutine) (hg:OkG g) (w:World):(stepG P main g w).fine:=by
  unfold stepG;obtain⟨fr,cs,st,dy,off⟩:=g;dsimp only;split
  · exact Ayc hP _ w hg.1
  · exact Avh hP main _ w hg.1 hg.2
  · exact Alt hP main _ w hg.1 hg.2
end
end Go.Co
