import Derived.Test.YtbfljjcnbbmoaaaGreatDoorCB3
namespace Go.Co
section
variable {P : Program} {w : World}
theorem Fh.like {F G:World->GStep} (h:Fh G w) (e1:F w=G w) (e2:∀(τ:Nat->Question->Nat) (s e:Nat),F (rt τ s e w)=G (rt τ s e w)):Fh F w:=by
 obtain⟨h1,h2,K,h3,h4,h5⟩:=h;exact⟨by rw[e1];exact h1,by rw[e1];exact h2,K,by rw[e1];exact h3,by rw[e1];exact h4,fun τ s e hs hA=>by rw[e2,e1];exact h5 τ s e hs hA⟩
theorem Aug (fr:Frame) (cs:List Frame) (dy:Option Dying) (g:Nat) (w:World):Fh (λw=>early P fr cs dy g w) w:=by
 have hny:∀w,Fh (λw=>match w.heap[g]? with
   | some (.pending c elem)=>GStep.go {frame:=fr,callers:=cs,status:=.running,dying:=dy} {w with heap:=w.heap.setIfInBounds g (.cells c elem)}
   | _=>.ended (.stuck "early: the variable does not wait" (fr.pos P)) w) w:=by
  intro w;refine Fh.const ?_ ?_ fun τ s e _=>?_
  ·split<;>rfl
  ·split<;>rfl
  ·show(match w.heap[g]? with
    | some (.pending c elem)=>GStep.go _ {rt τ s e w with heap:=w.heap.setIfInBounds g (.cells c elem)} _
    | _=>GStep.ended _ (rt τ s e w) _)=_
   split<;>(rename_i heq;try simp only)<;>first | rfl | skip
 have hth:∀f w,Fh (λw=>GStep.go {frame:=Frame.enter P f #[] .early,callers:=(if(P.code? f).any P.plainData then(P.brought w (2*P.funcs.size+1) [f] []).drop 1 else []).map (Frame.enter P · #[] .early)++fr::cs,status:=.running,dying:=dy} w #[]) w:=by
  intro f w;refine Fh.const rfl rfl fun τ s e _=>?_
  simp only[Agn,GStep.turn]
 unfold early;dsimp only;by_cases h1:(!P.follows .staticDataAhead)=true
 ·simp only[h1,if_true];exact hny w
 ·simp only[h1,if_false,A4j]
  cases h2:P.stepOf g with
  | none=>exact(Bc _ _).loc w
  | some f=>
   simp only;by_cases h3:((P.code? f).any P.atRunTime)=true
   ·simp only[h3,if_true];exact hny w
   ·simp only[h3,if_false,A4j]
    by_cases h4:((((P.code? f).bind λc=>(readies c).getLast?).bind w.shape?).isSome)=true
    ·refine(hny w).like ?_ fun τ s e=>?_
     ·simp only[h4,if_true];try rfl
     ·simp only[show(((P.code? f).bind λc=>(readies c).getLast?).bind (rt τ s e w).shape?).isSome=true from h4,if_true];try rfl
    ·generalize hk:(fr.kind==CallKind.early)=kk
     have hend:Fh (λw=>GStep.ended (.unsupported (.initOrder g) (fr.pos P)) w #[]) w:=(Bc _ _).loc w;cases hf:P.found w P.funcs.size f<;>cases kk
     ·refine hend.like ?_ fun τ s e=>?_
      ·simp only[h4,if_false,A4j,hf];try rfl
      ·simp only[show ¬(((P.code? f).bind λc=>(readies c).getLast?).bind (rt τ s e w).shape?).isSome=true from h4,if_false,Jo,hf,A4j];try rfl
     ·refine hend.like ?_ fun τ s e=>?_
      ·simp only[h4,if_false,A4j,hf];try rfl
      ·simp only[show ¬(((P.code? f).bind λc=>(readies c).getLast?).bind (rt τ s e w).shape?).isSome=true from h4,if_false,Jo,hf,A4j];try rfl
     ·refine(hny w).like ?_ fun τ s e=>?_
      ·simp only[h4,if_false,A4j,hf];try rfl
      ·simp only[show ¬(((P.code? f).bind λc=>(readies c).getLast?).bind (rt τ s e w).shape?).isSome=true from h4,if_false,Jo,hf,A4j];try rfl
     ·refine hend.like ?_ fun τ s e=>?_
      ·simp only[h4,if_false,A4j,hf];try rfl
      ·simp only[show ¬(((P.code? f).bind λc=>(readies c).getLast?).bind (rt τ s e w).shape?).isSome=true from h4,if_false,Jo,hf,A4j];try rfl
     ·by_cases h6:(P.code? f).any P.plainData=true
      ·refine(hth f w).like ?_ fun τ s e=>?_
       ·simp only[h4,if_false,A4j,hf,h6,if_true];try rfl
       ·simp only[show ¬(((P.code? f).bind λc=>(readies c).getLast?).bind (rt τ s e w).shape?).isSome=true from h4,if_false,Jo,hf,h6,if_true,A4j];try rfl
      ·by_cases h7:(!(P.code? f).any P.bareCopy)=true
       ·refine(hny w).like ?_ fun τ s e=>?_
        ·simp only[h4,if_false,A4j,hf,h6,h7,if_true];try rfl
        ·simp only[show ¬(((P.code? f).bind λc=>(readies c).getLast?).bind (rt τ s e w).shape?).isSome=true from h4,if_false,A4j,Jo,hf,h6,h7,if_true];try rfl
       ·have hb:Fh (λw=>(λr:Result Nat=>match r with
         | .ok 0 w=>(match w.heap[g]? with
           | some (.pending c elem)=>GStep.go {frame:=fr,callers:=cs,status:=.running,dying:=dy} {w with heap:=w.heap.setIfInBounds g (.cells c elem)}
           | _=>.ended (.stuck "early: the variable does not wait" (fr.pos P)) w)
         | .ok _ w=>GStep.go {frame:=Frame.enter P f #[] .early,callers:=(if(P.code? f).any P.plainData then(P.brought w (2*P.funcs.size+1) [f] []).drop 1 else []).map (Frame.enter P · #[] .early)++fr::cs,status:=.running,dying:=dy} w #[]
         | .halt _ w=>.ended (.stuck "early" (fr.pos P)) w) ((choose (.early g)).run P w)) w:=by
         refine Fh.bindR (P:=P) (w:=w) (x:=choose (.early g)) (λr:Result Nat=>match r with
          | .ok 0 w=>(match w.heap[g]? with
            | some (.pending c elem)=>GStep.go {frame:=fr,callers:=cs,status:=.running,dying:=dy} {w with heap:=w.heap.setIfInBounds g (.cells c elem)}
            | _=>.ended (.stuck "early: the variable does not wait" (fr.pos P)) w)
          | .ok _ w=>GStep.go {frame:=Frame.enter P f #[] .early,callers:=(if(P.code? f).any P.plainData then(P.brought w (2*P.funcs.size+1) [f] []).drop 1 else []).map (Frame.enter P · #[] .early)++fr::cs,status:=.running,dying:=dy} w #[]
          | .halt _ w=>.ended (.stuck "early" (fr.pos P)) w) (Calm.loc Jq w #[]) ?_ ?_
         ·generalize Sem.run P _ w=r
          cases r with
          | ok a w'=>cases a with
           | zero=>exact hny w'
           | succ a=>exact hth f w'
          | halt h w'=>exact(Bc _ _).loc _
         ·generalize Sem.run P _ w=r
          cases r with
          | ok a w'=>exact λ_=>trivial
          | halt h w'=>exact λx=>x.elim
        refine hb.like ?_ fun τ s e=>?_
        ·simp only[h4,if_false,A4j,hf,h6,h7];rfl
        ·simp only[show ¬(((P.code? f).bind λc=>(readies c).getLast?).bind (rt τ s e w).shape?).isSome=true from h4,if_false,A4j,Jo,hf,h6,h7];rfl
     ·refine(hth f w).like ?_ fun τ s e=>?_
      ·simp only[h4,if_false,A4j,hf];try rfl
      ·simp only[show ¬(((P.code? f).bind λc=>(readies c).getLast?).bind (rt τ s e w).shape?).isSome=true from h4,if_false,Jo,hf,A4j];try rfl
end
end Go.Co
namespace Go.Co
section
variable {P : Program} {w : World}
def Aok {α:Type}:Result α->Sem α
 | .ok a _=>.pure a
 | .halt h _=>.halt h
def Y5 {α:Type} (es:Array Event):Result α->Array Event
 | .halt .blocked _ | .halt .waiting _ | .halt (.unsupported (.initOrder _)) _=>#[]
 | _=>es
theorem Hf (fn:FuncId):seen P fn #[]=#[]:=rfl
theorem F5 (x:GStep):GStep.after #[] x=x:=by cases x<;>simp[GStep.after]
theorem Aob (fr:Frame) (cs:List Frame) (dy:Option Dying) (x:Sem Next) (w:World):
  stepG.apply P true fr cs dy x w=GStep.after (seen P fr.fn (if fr.kind==.early then #[] else Y5 (x.runT P w #[]).2 (x.runT P w #[]).1)) (stepG.apply P true fr cs dy (Aok (x.runT P w #[]).1) (x.runT P w #[]).1.w):=by
 generalize hr:x.runT P w #[]=r;obtain⟨r,es⟩:=r;cases r with
 | ok a w'=>
  unfold stepG.apply;simp only[hr,if_true,Aok,Sem.runT,Result.w,Y5,ite_self,Hf,F5]
 | halt h w'=>
  unfold stepG.apply;simp only[hr,if_true,Aok,Sem.runT,Result.w];cases h with
  | unsupported u=>cases u<;>simp only[Y5,ite_self,Hf,F5]
  | _=>simp only[Y5,ite_self,Hf,F5]
theorem Aeh (fr:Frame) (cs:List Frame) (dy:Option Dying) (a:Next):Vx (λw=>stepG.apply P true fr cs dy (.pure a) w):=by
 intro w;unfold stepG.apply;simp only[if_true,Sem.runT,ite_self,Hf,F5];cases a<;>dsimp only<;>repeat' first
  | exact⟨rfl,λ_=>rfl⟩
  | split
theorem Aec (fr:Frame) (cs:List Frame) (dy:Option Dying) (h:Halt) (w:World):Fh (λw=>stepG.apply P true fr cs dy (.halt h) w) w:=by
 unfold stepG.apply;simp only[if_true,Sem.runT];cases h<;>(try dsimp only)<;>(try simp only[ite_self,Hf,F5])<;>first
  | exact(Dn _ _).loc _
  | exact(Bc _ _).loc _
  | exact Aaq _ _ _ _ _
  | exact Vx.loc (λ_=>⟨rfl,λ_=>rfl⟩) _
  | skip
 rename_i u;cases u<;>(try dsimp only)<;>(try simp only[ite_self,Hf,F5])<;>first
  | exact(Bc _ _).loc _
  | exact Aug _ _ _ _ _
theorem Vr (fr:Frame) (cs:List Frame) (dy:Option Dying) (h:Halt) (w:World) (hc:(stepG.apply P true fr cs dy (.halt h) w).cont):¬Acg h:=by
 revert hc
 unfold stepG.apply;simp only[if_true,Sem.runT];cases h<;>(try dsimp only)<;>(try simp only[ite_self,Hf,F5])<;>first
  | exact λ_ x=>x
  | (intro x;exact x.elim)
  | (intro x;cases x)
  | skip
 rename_i u;cases u<;>(try dsimp only)<;>(try simp only[ite_self,Hf,F5])<;>first
  | exact λ_ x=>x
  | (intro x;exact x.elim)
theorem Ry (fr:Frame) (cs:List Frame) (dy:Option Dying) (x:Sem Next) (w:World) (hx:Awo P x w #[]):Fh (λw=>stepG.apply P true fr cs dy x w) w:=by
 refine Fh.congr (G:=λw=>(λ(r:Result Next) es=>GStep.after (seen P fr.fn (if fr.kind==.early then #[] else Y5 es r)) (stepG.apply P true fr cs dy (Aok r) r.w)) (x.runT P w #[]).1 (x.runT P w #[]).2) ?_ (Aob fr cs dy x);refine Fh.bind (P:=P) (x:=x) (λ(r:Result Next) es=>GStep.after (seen P fr.fn (if fr.kind==.early then #[] else Y5 es r)) (stepG.apply P true fr cs dy (Aok r) r.w)) #[] hx ?_ ?_
 ·generalize x.runT P w #[]=r
  obtain⟨r,es⟩:=r;cases r with
  | ok a w'=>exact Fh.like (G:=λw=>GStep.after (seen P fr.fn (if fr.kind==.early then #[] else es)) (stepG.apply P true fr cs dy (.pure a) w)) (Fh.after _ ((Aeh fr cs dy a).loc w')) rfl λ_ _ _=>rfl
  | halt h w'=>
   refine Fh.like (G:=λw=>GStep.after (seen P fr.fn (if fr.kind==.early then #[] else Y5 es (Result.halt h w':Result Next))) (stepG.apply P true fr cs dy (.halt h) w)) (Fh.after _ (Aec fr cs dy h w')) rfl fun τ s e=>?_
   have:∀w'',Y5 es (Result.halt h w'':Result Next)=Y5 es (Result.halt h w':Result Next):=by
    intro w'';cases h<;>first | rfl | (rename_i u;cases u<;>rfl)
   simp only[Result.put,this];rfl
 ·rw[Gj]
  generalize x.runT P w #[]=r;obtain⟨r,es⟩:=r;cases r with
  | ok a w'=>exact λ_=>trivial
  | halt h w'=>exact λc=>Vr fr cs dy h w' c
end
end Go.Co
namespace Go.Co
def Uu:Item->Prop
 | .call _ _ r _=>r= "runtime.print$piece"
 | .extern r _=>r= "runtime.print$piece"
 | _=>True
def Yk (fr:Frame):Prop:=∀i∈fr.todo,Uu i
def OkG (g:Goroutine):Prop:=Yk g.frame/\∀c∈g.callers,Yk c
section
variable {P : Program} {w : World}
theorem Ae1:Extern.next "runtime.print$piece" =some (Extern.PrintPieces.piece #[] #[]):=by rfl
theorem Abe {α:Type} {x:Sem α} (hx:Calm P x) (H:Result α->Array Event->GStep) (hok:∀a es,Vx (λw=>H (.ok a w) es)) (hh:∀h es,Vx (λw=>H (.halt h w) es)) (hc:∀h w es,Acg h->¬(H (.halt h w) es).cont) (w:World):
  Fh (λw=>H (x.runT P w #[]).1 (x.runT P w #[]).2) w:=by
 refine Fh.bind (P:=P) H #[] (hx.loc w #[]) ?_ ?_
 ·generalize x.runT P w #[]=r
  obtain⟨r,es⟩:=r;cases r with
  | ok a w'=>exact(hok a es).loc w'
  | halt h w'=>exact(hh h es).loc w'
 ·generalize x.runT P w #[]=r
  obtain⟨r,es⟩:=r;cases r with
  | ok a w'=>exact λ_=>trivial
  | halt h w'=>exact λc k=>hc h w' es k c
theorem Gl {F:World->GStep} (es:Array Event) (h:Vx F):Vx (λw=>GStep.after es (F w)):=λw=>⟨by rw[Abx];exact(h w).1,λf=>by show GStep.after es (F (f w))=_;rw[Aen,(h w).2 f]⟩
theorem Auf (main:Bool) (fr:Frame) (cs:List Frame) (dy:Option Dying) (jump:Option Code) (w:World):Fh (λw=>
   match fr.roundOf with
   | none=>if jump matches none | some .ret then GStep.go {frame:={fr with mode:=.returning},callers:=cs,status:=.running,dying:=dy} w else .ended (.stuck "exit, goto: no such block or label" (fr.pos P)) w
   | some l=>
    let (r,es):=(Instr.endRound l jump).runT P w #[]
    GStep.after (seen P fr.fn es)<| match r with
    | .ok v w=>doReturn P main fr cs dy v w
    | .halt _ w=>.ended (.stuck "range over a function: no such loop" (fr.pos P)) w) w:=by
 cases fr.roundOf with
 | none=>
  dsimp only;split
  ·exact(Dn _ _).loc w
  ·exact(Dn _ _).loc w
  ·simp only[A4j,if_false];exact(Bc _ _).loc w
 | some l=>
  refine(Abe (P:=P) (x:=Instr.endRound l jump) (by simp) (λr es=>GStep.after (seen P fr.fn es) (match r with
    | .ok v w=>doReturn P main fr cs dy v w
    | .halt _ w=>.ended (.stuck "range over a function: no such loop" (fr.pos P)) w)) (λa es=>Gl _ (Ro main fr cs dy a)) (λh es=>Gl _ (Bc _ _)) (λh w es _ c=>by rw[Gj] at c;exact c) w).congr λw=>rfl
theorem Axu (hP:OkP P) (fr:Frame) (cs:List Frame) (dy:Option Dying) (w:World):Fh (λw=>stepG.oper P true fr cs dy w) w:=by
 unfold stepG.oper;cases fr.oper? with
 | none=>exact(Bc _ _).loc w
 | some o=>
  dsimp only;split
  ·exact Ry fr cs dy _ w (Calm.loc (Calm.bind (by simp) λ_=>Calm.bind (by simp) λ_=>Ae) w #[])
  ·exact Ry fr cs dy _ w (Ld _ 0 (Aep hP _ o) w #[])
theorem Axv (hP:OkP P) (main:Bool) (fr:Frame) (hfr:Yk fr) (cs:List Frame) (dy:Option Dying) (w:World):Fh (λw=>stepG.exec P main true fr cs dy w) w:=by
 have hl:=λj=>Auf (P:=P) main fr cs dy j w
 unfold stepG.exec;dsimp only;unfold Yk at hfr;split
 ·exact hl none
 ·exact hl (some .ret)
 ·exact(Dn _ _).loc w
 ·exact(Dn _ _).loc w
 ·exact(Dn _ _).loc w
 ·exact(Dn _ _).loc w
 ·exact(Dn _ _).loc w
 ·split
  ·exact(Dn _ _).loc w
  ·exact(Bc _ _).loc w
 ·exact(Dn _ _).loc w
 ·exact(Dn _ _).loc w
 ·exact(Dn _ _).loc w
 ·exact(Dn _ _).loc w
 ·rename_i id k _
  cases exitTo id k with
  | none=>exact hl (some (.exit id))
  | some t=>exact(Dn _ _).loc w
 ·rename_i l k _
  cases gotoIn l k with
  | none=>exact hl (some (.goto l))
  | some t=>exact(Dn _ _).loc w
 ·rename_i f params assign body k _
  refine Fh.congr (G:=λw=>(λ(r:Result (Nat × List Deferred)) es=>GStep.after (seen P fr.fn es) (match r with
   | .ok (l,mark) w=>stepG.apply P true {fr with todo:=.inRangeFunc l::k,defers:=mark++fr.defers} cs dy (do let d <-resolve ({fr with todo:=.inRangeFunc l::k,defers:=mark++fr.defers}:Frame).eval {callee:=.value f,args:=#[.const (.func (.yield l) #[] #[])],argTypes:=#[]} 0;invoke d.target d.args) w
   | .halt _ w=>.ended (.stuck "range over a function: no such loop" (fr.pos P)) w)) ((Instr.enterLoop fr.fn fr.tmps params assign body fr.roundOf).runT P w #[]).1 ((Instr.enterLoop fr.fn fr.tmps params assign body fr.roundOf).runT P w #[]).2) ?_ λw=>rfl
  refine Fh.bind (P:=P) (x:=Instr.enterLoop fr.fn fr.tmps params assign body fr.roundOf) (λ(r:Result (Nat × List Deferred)) es=>GStep.after (seen P fr.fn es) (match r with
   | .ok (l,mark) w=>stepG.apply P true {fr with todo:=.inRangeFunc l::k,defers:=mark++fr.defers} cs dy (do let d <-resolve ({fr with todo:=.inRangeFunc l::k,defers:=mark++fr.defers}:Frame).eval {callee:=.value f,args:=#[.const (.func (.yield l) #[] #[])],argTypes:=#[]} 0;invoke d.target d.args) w
   | .halt _ w=>.ended (.stuck "range over a function: no such loop" (fr.pos P)) w)) #[] (Calm.loc (by simp) w #[]) ?_ ?_
  ·generalize Sem.runT P _ w #[]=r
   obtain⟨r,es⟩:=r;cases r with
   | ok a w'=>obtain⟨l,mk⟩:=a;exact Fh.after _ (Ry _ cs dy _ w' (Ld _ 0 (D5 (by simp) λ_=>Jw hP _ _) w' #[]))
   | halt h w'=>exact(Gl _ (Bc _ _)).loc w'
  ·generalize Sem.runT P _ w #[]=r
   obtain⟨r,es⟩:=r;cases r with
   | ok a w'=>exact λ_=>trivial
   | halt h w'=>exact λc=>by rw[Gj] at c;exact c.elim
 ·exact(Bc _ _).loc w
 ·refine Ry fr cs dy _ w (Calm.loc (Calm.bind ?_ λ_=>Ae) w #[])
  cases fr.roundOf with
  | none=>exact Dw
  | some l=>exact Oq l
 ·rename_i l k _
  refine(Abe (P:=P) (x:=Instr.endLoop l) (by simp) (λr es=>GStep.after (seen P fr.fn es) (match r with
   | .ok jump w=>GStep.go {frame:={fr with todo:=(jump.map Item.code).toList++k},callers:=cs,status:=.running,dying:=dy} w
   | .halt (.panic v) w=>GStep.go {frame:=(fr.raise [{v,recovered:=false}]),callers:=cs,status:=.running,dying:=dy} w
   | .halt _ w=>.ended (.stuck "range over a function: no such loop" (fr.pos P)) w)) (λa es=>Gl _ (Dn _ _)) (λh es=>?_) (λh w es ok c=>?_) w).congr λw=>rfl
  ·cases h<;>first | exact Gl _ (Bc _ _) | exact Gl _ (Dn _ _)
  ·rw[Gj] at c;cases h<;>first | exact c | exact ok
 ·exact(Bc _ _).loc w
 ·exact Ry fr cs dy _ w (Ld _ 0 (Jw hP _ _) w #[])
 ·rename_i row args k hk
  have hr:row= "runtime.print$piece" :=hfr (.extern row args) (by rw[hk];exact List.mem_cons_self);subst hr;rw[Ae1];exact Ry fr cs dy _ w (Ld _ 0 (Ab1 _ _ _) w #[])
 ·rename_i id ops draw k _
  cases draw with
  | false=>exact(Dn _ _).loc w
  | true=>
   simp only[Bool.not_true,A4j,if_false];have hb:Fh (λw=>(λr:Result Nat=>match r with
     | .ok t w=>GStep.go {frame:={fr with todo:=.inRegion ops (Region.schedule (P.follows .mixedOrders) ops t)::k},callers:=cs,status:=.running,dying:=dy} w
     | .halt _ w=>.ended (.stuck "order" (fr.pos P)) w) ((choose (.order fr.fn id)).run P w)) w:=by
    refine Fh.bindR (P:=P) (x:=choose (.order fr.fn id)) (λr:Result Nat=>match r with
     | .ok t w=>GStep.go {frame:={fr with todo:=.inRegion ops (Region.schedule (P.follows .mixedOrders) ops t)::k},callers:=cs,status:=.running,dying:=dy} w
     | .halt _ w=>.ended (.stuck "order" (fr.pos P)) w) (Calm.loc Jq w #[]) ?_ ?_
    ·generalize Sem.run P _ w=r
     cases r with
     | ok a w'=>exact(Dn _ _).loc _
     | halt h w'=>exact(Bc _ _).loc _
    ·generalize Sem.run P _ w=r
     cases r with
     | ok a w'=>exact λ_=>trivial
     | halt h w'=>exact λx=>x.elim
   exact hb.congr λw=>rfl
 ·exact(Dn _ _).loc w
 ·split
  ·exact Axu hP fr cs dy w
  ·exact(Dn _ _).loc w
end
end Go.Co
