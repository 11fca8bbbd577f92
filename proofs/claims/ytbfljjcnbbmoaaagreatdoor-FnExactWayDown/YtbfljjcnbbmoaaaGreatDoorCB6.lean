import Derived.Test.YtbfljjcnbbmoaaaGreatDoorCB3
namespace Go.Co
section
variable {P : Program}{w : World}
theorem Gf.like {F G:World->GStep}(h:Gf G w)(e1:F w=G w)(e2:∀(τ:Nat->Question->Nat) (s e:Nat),F (rt τ s e w)=G (rt τ s e w)):Gf F w:=by
 obtain⟨h1,h2,K,h3,h4,h5⟩:=h;exact⟨by rw[e1];exact h1,by rw[e1];exact h2,K,by rw[e1];exact h3,by rw[e1];exact h4,fun τ s e hs hA=>by rw[e2,e1];exact h5 τ s e hs hA⟩
theorem zv {p:Prop}(h:p:=by
 simp only[show ¬(((P.code? f).bind λc=>(readies c).getLast?).bind (rt τ s e w).shape?).isSome=true from h4,if_false,Jv,hf,A4e];try rfl):p:=h
theorem zn0 {p:Prop}(h:p:=by
 generalize Sem.run P _ w=r
 cases r with
 | ok a w'=>exact λ_=>trivial
 | halt h w'=>exact λx=>x.elim):p:=h
theorem Au1 (fr:Frame)(cs:List Frame)(dy:Option Dying)(g:Nat)(w:World):Gf (λw=>early P fr cs dy g w) w:=by
 have hny:∀w,Gf (λw=>match w.heap[g]? with
   | some (.pending c elem)=>GStep.go {frame:=fr,callers:=cs,status:=.running,dying:=dy} {w with heap:=w.heap.setIfInBounds g (.cells c elem)}
   | _=>.ended (.stuck "early: the variable does not wait" (fr.pos P)) w) w:=by
  intro w;refine Gf.const ?_ ?_ fun τ s e _=>?_
  ·split<;>rfl
  ·split<;>rfl
  ·show(match w.heap[g]? with
    | some (.pending c elem)=>GStep.go _ {rt τ s e w with heap:=w.heap.setIfInBounds g (.cells c elem)} _
    | _=>GStep.ended _ (rt τ s e w) _)=_
   split<;>(rename_i heq;try simp only)<;>first | rfl | skip
 have hth:∀f w,Gf (λw=>GStep.go {frame:=Frame.enter P f #[] .early,callers:=(if(P.code? f).any P.plainData then(P.brought w (2*P.funcs.size+1) [f] []).drop 1 else []).map (Frame.enter P · #[] .early)++fr::cs,status:=.running,dying:=dy} w #[]) w:=by
  intro f w;refine Gf.const rfl rfl fun τ s e _=>?_
  simp only[Ahf,GStep.turn]
 unfold early;dsimp only;by_cases h1:(!P.follows .staticDataAhead)=true
 ·simp only[h1,if_true];exact hny w
 ·simp only[h1,if_false,A4e]
  cases h2:P.stepOf g with
  | none=>exact(Be _ _).loc w
  | some f=>
   simp only;by_cases h3:((P.code? f).any P.atRunTime)=true
   ·simp only[h3,if_true];exact hny w
   ·simp only[h3,if_false,A4e]
    by_cases h4:((((P.code? f).bind λc=>(readies c).getLast?).bind w.shape?).isSome)=true
    ·refine(hny w).like ?_ fun τ s e=>?_
     ·simp only[h4,if_true];try rfl
     ·simp only[show(((P.code? f).bind λc=>(readies c).getLast?).bind (rt τ s e w).shape?).isSome=true from h4,if_true];try rfl
    ·generalize hk:(fr.kind==CallKind.early)=kk
     have hend:Gf (λw=>GStep.ended (.unsupported (.initOrder g) (fr.pos P)) w #[]) w:=(Be _ _).loc w;cases hf:P.found w P.funcs.size f<;>cases kk
     ·refine hend.like ?_ fun τ s e=>?_
      ·simp only[h4,if_false,A4e,hf];try rfl
      ·exact zv
     ·refine hend.like ?_ fun τ s e=>?_
      ·simp only[h4,if_false,A4e,hf];try rfl
      ·exact zv
     ·refine(hny w).like ?_ fun τ s e=>?_
      ·simp only[h4,if_false,A4e,hf];try rfl
      ·exact zv
     ·refine hend.like ?_ fun τ s e=>?_
      ·simp only[h4,if_false,A4e,hf];try rfl
      ·exact zv
     ·by_cases h6:(P.code? f).any P.plainData=true
      ·refine(hth f w).like ?_ fun τ s e=>?_
       ·simp only[h4,if_false,A4e,hf,h6,if_true];try rfl
       ·simp only[show ¬(((P.code? f).bind λc=>(readies c).getLast?).bind (rt τ s e w).shape?).isSome=true from h4,if_false,Jv,hf,h6,if_true,A4e];try rfl
      ·by_cases h7:(!(P.code? f).any P.bareCopy)=true
       ·refine(hny w).like ?_ fun τ s e=>?_
        ·simp only[h4,if_false,A4e,hf,h6,h7,if_true];try rfl
        ·simp only[show ¬(((P.code? f).bind λc=>(readies c).getLast?).bind (rt τ s e w).shape?).isSome=true from h4,if_false,A4e,Jv,hf,h6,h7,if_true];try rfl
       ·have hb:Gf (λw=>(λr:Result Nat=>match r with
         | .ok 0 w=>(match w.heap[g]? with
           | some (.pending c elem)=>GStep.go {frame:=fr,callers:=cs,status:=.running,dying:=dy} {w with heap:=w.heap.setIfInBounds g (.cells c elem)}
           | _=>.ended (.stuck "early: the variable does not wait" (fr.pos P)) w)
         | .ok _ w=>GStep.go {frame:=Frame.enter P f #[] .early,callers:=(if(P.code? f).any P.plainData then(P.brought w (2*P.funcs.size+1) [f] []).drop 1 else []).map (Frame.enter P · #[] .early)++fr::cs,status:=.running,dying:=dy} w #[]
         | .halt _ w=>.ended (.stuck "early" (fr.pos P)) w) ((choose (.early g)).run P w)) w:=by
         refine Gf.bindR (P:=P) (w:=w) (x:=choose (.early g)) (λr:Result Nat=>match r with
          | .ok 0 w=>(match w.heap[g]? with
            | some (.pending c elem)=>GStep.go {frame:=fr,callers:=cs,status:=.running,dying:=dy} {w with heap:=w.heap.setIfInBounds g (.cells c elem)}
            | _=>.ended (.stuck "early: the variable does not wait" (fr.pos P)) w)
          | .ok _ w=>GStep.go {frame:=Frame.enter P f #[] .early,callers:=(if(P.code? f).any P.plainData then(P.brought w (2*P.funcs.size+1) [f] []).drop 1 else []).map (Frame.enter P · #[] .early)++fr::cs,status:=.running,dying:=dy} w #[]
          | .halt _ w=>.ended (.stuck "early" (fr.pos P)) w) (Calm.loc Jy w #[]) ?_ ?_
         ·generalize Sem.run P _ w=r
          cases r with
          | ok a w'=>cases a with
           | zero=>exact hny w'
           | succ a=>exact hth f w'
          | halt h w'=>exact(Be _ _).loc _
         ·exact zn0
        refine hb.like ?_ fun τ s e=>?_
        ·simp only[h4,if_false,A4e,hf,h6,h7];rfl
        ·simp only[show ¬(((P.code? f).bind λc=>(readies c).getLast?).bind (rt τ s e w).shape?).isSome=true from h4,if_false,A4e,Jv,hf,h6,h7];rfl
     ·refine(hth f w).like ?_ fun τ s e=>?_
      ·simp only[h4,if_false,A4e,hf];try rfl
      ·exact zv
end
end Go.Co
namespace Go.Co
section
variable {P : Program}{w : World}
def Ao2 {α:Type}:Result α->Sem α
 | .ok a _=>.pure a
 | .halt h _=>.halt h
def Zo {α:Type}(es:Array Event):Result α->Array Event
 | .halt .blocked _ | .halt .waiting _ | .halt (.unsupported (.initOrder _)) _=>#[]
 | _=>es
theorem Ht (fn:FuncId):seen P fn #[]=#[]:=rfl
theorem Gi (x:GStep):GStep.after #[] x=x:=by cases x<;>simp[GStep.after]
theorem Aou (fr:Frame)(cs:List Frame)(dy:Option Dying)(x:Sem Next)(w:World):
  stepG.apply P true fr cs dy x w=GStep.after (seen P fr.fn (if fr.kind==.early then #[] else Zo (x.runT P w #[]).2 (x.runT P w #[]).1)) (stepG.apply P true fr cs dy (Ao2 (x.runT P w #[]).1) (x.runT P w #[]).1.w):=by
 generalize hr:x.runT P w #[]=r;obtain⟨r,es⟩:=r;cases r with
 | ok a w'=>
  unfold stepG.apply;simp only[hr,if_true,Ao2,Sem.runT,Result.w,Zo,ite_self,Ht,Gi]
 | halt h w'=>
  unfold stepG.apply;simp only[hr,if_true,Ao2,Sem.runT,Result.w];cases h with
  | unsupported u=>cases u<;>simp only[Zo,ite_self,Ht,Gi]
  | _=>simp only[Zo,ite_self,Ht,Gi]
theorem Ae8 (fr:Frame)(cs:List Frame)(dy:Option Dying)(a:Next):Wy (λw=>stepG.apply P true fr cs dy (.pure a) w):=by
 intro w;unfold stepG.apply;simp only[if_true,Sem.runT,ite_self,Ht,Gi];cases a<;>dsimp only<;>repeat' first
  | exact⟨rfl,λ_=>rfl⟩
  | split
theorem Ae3 (fr:Frame)(cs:List Frame)(dy:Option Dying)(h:Halt)(w:World):Gf (λw=>stepG.apply P true fr cs dy (.halt h) w) w:=by
 unfold stepG.apply;simp only[if_true,Sem.runT];cases h<;>(try dsimp only)<;>(try simp only[ite_self,Ht,Gi])<;>first
  | exact(Dw _ _).loc _
  | exact(Be _ _).loc _
  | exact Abd _ _ _ _ _
  | exact Wy.loc (λ_=>⟨rfl,λ_=>rfl⟩) _
  | skip
 rename_i u;cases u<;>(try dsimp only)<;>(try simp only[ite_self,Ht,Gi])<;>first
  | exact(Be _ _).loc _
  | exact Au1 _ _ _ _ _
theorem Wn (fr:Frame)(cs:List Frame)(dy:Option Dying)(h:Halt)(w:World)(hc:(stepG.apply P true fr cs dy (.halt h) w).cont):¬Ada h:=by
 revert hc
 unfold stepG.apply;simp only[if_true,Sem.runT];cases h<;>(try dsimp only)<;>(try simp only[ite_self,Ht,Gi])<;>first
  | exact λ_ x=>x
  | (intro x;exact x.elim)
  | (intro x;cases x)
  | skip
 rename_i u;cases u<;>(try dsimp only)<;>(try simp only[ite_self,Ht,Gi])<;>first
  | exact λ_ x=>x
  | (intro x;exact x.elim)
theorem Tz (fr:Frame)(cs:List Frame)(dy:Option Dying)(x:Sem Next)(w:World)(hx:Axb P x w #[]):Gf (λw=>stepG.apply P true fr cs dy x w) w:=by
 refine Gf.congr (G:=λw=>(λ(r:Result Next) es=>GStep.after (seen P fr.fn (if fr.kind==.early then #[] else Zo es r)) (stepG.apply P true fr cs dy (Ao2 r) r.w)) (x.runT P w #[]).1 (x.runT P w #[]).2) ?_ (Aou fr cs dy x);refine Gf.bind (P:=P) (x:=x) (λ(r:Result Next) es=>GStep.after (seen P fr.fn (if fr.kind==.early then #[] else Zo es r)) (stepG.apply P true fr cs dy (Ao2 r) r.w)) #[] hx ?_ ?_
 ·generalize x.runT P w #[]=r
  obtain⟨r,es⟩:=r;cases r with
  | ok a w'=>exact Gf.like (G:=λw=>GStep.after (seen P fr.fn (if fr.kind==.early then #[] else es)) (stepG.apply P true fr cs dy (.pure a) w)) (Gf.after _ ((Ae8 fr cs dy a).loc w')) rfl λ_ _ _=>rfl
  | halt h w'=>
   refine Gf.like (G:=λw=>GStep.after (seen P fr.fn (if fr.kind==.early then #[] else Zo es (Result.halt h w':Result Next))) (stepG.apply P true fr cs dy (.halt h) w)) (Gf.after _ (Ae3 fr cs dy h w')) rfl fun τ s e=>?_
   have:∀w'',Zo es (Result.halt h w'':Result Next)=Zo es (Result.halt h w':Result Next):=by
    intro w'';cases h<;>first | rfl | (rename_i u;cases u<;>rfl)
   simp only[Result.put,this];rfl
 ·rw[Gq]
  generalize x.runT P w #[]=r;obtain⟨r,es⟩:=r;cases r with
  | ok a w'=>exact λ_=>trivial
  | halt h w'=>exact λc=>Wn fr cs dy h w' c
end
end Go.Co
namespace Go.Co
def Vg:Item->Prop
 | .call _ _ r _=>r= "runtime.print$piece"
 | .extern r _=>r= "runtime.print$piece"
 | _=>True
def Y6 (fr:Frame):Prop:=∀i∈fr.todo,Vg i
def OkG (g:Goroutine):Prop:=Y6 g.frame/\∀c∈g.callers,Y6 c
section
variable {P : Program}{w : World}
theorem Aft:Extern.next "runtime.print$piece" =some (Extern.PrintPieces.piece #[] #[]):=rrz
theorem Ab5 {α:Type}{x:Sem α}(hx:Calm P x)(H:Result α->Array Event->GStep)(hok:∀a es,Wy (λw=>H (.ok a w) es))(hh:∀h es,Wy (λw=>H (.halt h w) es))(hc:∀h w es,Ada h->¬(H (.halt h w) es).cont)(w:World):
  Gf (λw=>H (x.runT P w #[]).1 (x.runT P w #[]).2) w:=by
 refine Gf.bind (P:=P) H #[] (hx.loc w #[]) ?_ ?_
 ·generalize x.runT P w #[]=r
  obtain⟨r,es⟩:=r;cases r with
  | ok a w'=>exact(hok a es).loc w'
  | halt h w'=>exact(hh h es).loc w'
 ·generalize x.runT P w #[]=r
  obtain⟨r,es⟩:=r;cases r with
  | ok a w'=>exact λ_=>trivial
  | halt h w'=>exact λc k=>hc h w' es k c
theorem Gs {F:World->GStep}(es:Array Event)(h:Wy F):Wy (λw=>GStep.after es (F w)):=λw=>⟨by rw[Aco];exact(h w).1,λf=>by show GStep.after es (F (f w))=_;rw[Afe,(h w).2 f]⟩
theorem Au0 (main:Bool)(fr:Frame)(cs:List Frame)(dy:Option Dying)(jump:Option Code)(w:World):Gf (λw=>
   match fr.roundOf with
   | none=>if jump matches none | some .ret then GStep.go {frame:={fr with mode:=.returning},callers:=cs,status:=.running,dying:=dy} w else .ended (.stuck "exit, goto: no such block or label" (fr.pos P)) w
   | some l=>
    let (r,es):=(Instr.endRound l jump).runT P w #[]
    GStep.after (seen P fr.fn es)<| match r with
    | .ok v w=>doReturn P main fr cs dy v w
    | .halt _ w=>.ended (.stuck "range over a function: no such loop" (fr.pos P)) w) w:=by
 cases fr.roundOf with
 | none=>
  dsimp only;split
  ·exact(Dw _ _).loc w
  ·exact(Dw _ _).loc w
  ·simp only[A4e,if_false];exact(Be _ _).loc w
 | some l=>
  refine(Ab5 (P:=P) (x:=Instr.endRound l jump) spz (λr es=>GStep.after (seen P fr.fn es) (match r with
    | .ok v w=>doReturn P main fr cs dy v w
    | .halt _ w=>.ended (.stuck "range over a function: no such loop" (fr.pos P)) w)) (λa es=>Gs _ (Ti main fr cs dy a)) (λh es=>Gs _ (Be _ _)) (λh w es _ c=>by rw[Gq] at c;exact c) w).congr λw=>rfl
theorem Ax8 (hP:OkP P)(fr:Frame)(cs:List Frame)(dy:Option Dying)(w:World):Gf (λw=>stepG.oper P true fr cs dy w) w:=by
 unfold stepG.oper;cases fr.oper? with
 | none=>exact(Be _ _).loc w
 | some o=>
  dsimp only;split
  ·exact Tz fr cs dy _ w (Calm.loc (Calm.bind spz λ_=>Calm.bind spz λ_=>Ae) w #[])
  ·exact Tz fr cs dy _ w (L8 _ 0 (Afh hP _ o) w #[])
theorem Ax9 (hP:OkP P)(main:Bool)(fr:Frame)(hfr:Y6 fr)(cs:List Frame)(dy:Option Dying)(w:World):Gf (λw=>stepG.exec P main true fr cs dy w) w:=by
 have hl:=λj=>Au0 (P:=P) main fr cs dy j w
 unfold stepG.exec;dsimp only;unfold Y6 at hfr;split
 ·exact hl none
 ·exact hl (some .ret)
 ·exact(Dw _ _).loc w
 ·exact(Dw _ _).loc w
 ·exact(Dw _ _).loc w
 ·exact(Dw _ _).loc w
 ·exact(Dw _ _).loc w
 ·split
  ·exact(Dw _ _).loc w
  ·exact(Be _ _).loc w
 ·exact(Dw _ _).loc w
 ·exact(Dw _ _).loc w
 ·exact(Dw _ _).loc w
 ·exact(Dw _ _).loc w
 ·rename_i id k _
  cases exitTo id k with
  | none=>exact hl (some (.exit id))
  | some t=>exact(Dw _ _).loc w
 ·rename_i l k _
  cases gotoIn l k with
  | none=>exact hl (some (.goto l))
  | some t=>exact(Dw _ _).loc w
 ·rename_i f params assign body k _
  refine Gf.congr (G:=λw=>(λ(r:Result (Nat × List Deferred)) es=>GStep.after (seen P fr.fn es) (match r with
   | .ok (l,mark) w=>stepG.apply P true {fr with todo:=.inRangeFunc l::k,defers:=mark++fr.defers} cs dy (do let d <-resolve ({fr with todo:=.inRangeFunc l::k,defers:=mark++fr.defers}:Frame).eval {callee:=.value f,args:=#[.const (.func (.yield l) #[] #[])],argTypes:=#[]} 0;invoke d.target d.args) w
   | .halt _ w=>.ended (.stuck "range over a function: no such loop" (fr.pos P)) w)) ((Instr.enterLoop fr.fn fr.tmps params assign body fr.roundOf).runT P w #[]).1 ((Instr.enterLoop fr.fn fr.tmps params assign body fr.roundOf).runT P w #[]).2) ?_ λw=>rfl
  refine Gf.bind (P:=P) (x:=Instr.enterLoop fr.fn fr.tmps params assign body fr.roundOf) (λ(r:Result (Nat × List Deferred)) es=>GStep.after (seen P fr.fn es) (match r with
   | .ok (l,mark) w=>stepG.apply P true {fr with todo:=.inRangeFunc l::k,defers:=mark++fr.defers} cs dy (do let d <-resolve ({fr with todo:=.inRangeFunc l::k,defers:=mark++fr.defers}:Frame).eval {callee:=.value f,args:=#[.const (.func (.yield l) #[] #[])],argTypes:=#[]} 0;invoke d.target d.args) w
   | .halt _ w=>.ended (.stuck "range over a function: no such loop" (fr.pos P)) w)) #[] (Calm.loc spz w #[]) ?_ ?_
  ·generalize Sem.runT P _ w #[]=r
   obtain⟨r,es⟩:=r;cases r with
   | ok a w'=>obtain⟨l,mk⟩:=a;exact Gf.after _ (Tz _ cs dy _ w' (L8 _ 0 (Ea spz λ_=>J7 hP _ _) w' #[]))
   | halt h w'=>exact(Gs _ (Be _ _)).loc w'
  ·generalize Sem.runT P _ w #[]=r
   obtain⟨r,es⟩:=r;cases r with
   | ok a w'=>exact λ_=>trivial
   | halt h w'=>exact λc=>by rw[Gq] at c;exact c.elim
 ·exact(Be _ _).loc w
 ·refine Tz fr cs dy _ w (Calm.loc (Calm.bind ?_ λ_=>Ae) w #[])
  cases fr.roundOf with
  | none=>exact D5
  | some l=>exact O9 l
 ·rename_i l k _
  refine(Ab5 (P:=P) (x:=Instr.endLoop l) spz (λr es=>GStep.after (seen P fr.fn es) (match r with
   | .ok jump w=>GStep.go {frame:={fr with todo:=(jump.map Item.code).toList++k},callers:=cs,status:=.running,dying:=dy} w
   | .halt (.panic v) w=>GStep.go {frame:=(fr.raise [{v,recovered:=false}]),callers:=cs,status:=.running,dying:=dy} w
   | .halt _ w=>.ended (.stuck "range over a function: no such loop" (fr.pos P)) w)) (λa es=>Gs _ (Dw _ _)) (λh es=>?_) (λh w es ok c=>?_) w).congr λw=>rfl
  ·cases h<;>first | exact Gs _ (Be _ _) | exact Gs _ (Dw _ _)
  ·rw[Gq] at c;cases h<;>first | exact c | exact ok
 ·exact(Be _ _).loc w
 ·exact Tz fr cs dy _ w (L8 _ 0 (J7 hP _ _) w #[])
 ·rename_i row args k hk
  have hr:row= "runtime.print$piece" :=hfr (.extern row args) (by rw[hk];exact List.mem_cons_self);subst hr;rw[Aft];exact Tz fr cs dy _ w (L8 _ 0 (Acw _ _ _) w #[])
 ·rename_i id ops draw k _
  cases draw with
  | false=>exact(Dw _ _).loc w
  | true=>
   simp only[Bool.not_true,A4e,if_false]
   have hb:Gf (λw=>(λr:Result Nat=>match r with
     | .ok t w=>GStep.go {frame:={fr with todo:=.inRegion ops (Region.schedule (P.follows .mixedOrders) ops t)::k},callers:=cs,status:=.running,dying:=dy} w
     | .halt _ w=>.ended (.stuck "order" (fr.pos P)) w) ((choose (.order fr.fn id)).run P w)) w:=by
    refine Gf.bindR (P:=P) (x:=choose (.order fr.fn id)) (λr:Result Nat=>match r with
     | .ok t w=>GStep.go {frame:={fr with todo:=.inRegion ops (Region.schedule (P.follows .mixedOrders) ops t)::k},callers:=cs,status:=.running,dying:=dy} w
     | .halt _ w=>.ended (.stuck "order" (fr.pos P)) w) (Calm.loc Jy w #[]) ?_ ?_
    ·generalize Sem.run P _ w=r
     cases r with
     | ok a w'=>exact(Dw _ _).loc _
     | halt h w'=>exact(Be _ _).loc _
    ·exact zn0
   exact hb.congr λw=>rfl
 ·exact(Dw _ _).loc w
 ·split
  ·exact Ax8 hP fr cs dy w
  ·exact(Dw _ _).loc w
end
end Go.Co
