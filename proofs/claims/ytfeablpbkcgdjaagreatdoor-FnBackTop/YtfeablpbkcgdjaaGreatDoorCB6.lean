import Derived.Test.YtfeablpbkcgdjaaGreatDoorCB3
namespace Go.Co
section
variable {P : Program}{w : World}
theorem Gg.like {F G:World->GStep}(h:Gg G w)(a:F w=G w)(c:∀(b:Nat->Question->Nat) (s e:Nat),F (rt b s e w)=G (rt b s e w)):Gg F w:=by
 obtain⟨l,g,K,d,f,i⟩:=h;exact⟨by rw[a];exact l,by rw[a];exact g,K,by rw[a];exact d,by rw[a];exact f,fun b s e k j=>by rw[c,a];exact i b s e k j⟩
theorem zw {p:Prop}(h:p:=by
 simp only[show ¬(((P.code? f).bind λc=>(readies c).getLast?).bind (rt τ s e w).shape?).isSome=true from h4,C5,Jz,hf,DR];try rfl):p:=h
theorem zb0 {p:Prop}(h:p:=by
 generalize Sem.run P _ w=r
 cases r with
 | ok a w'=>exact λ_=>trivial
 | halt h w'=>exact λx=>x.elim):p:=h
theorem va (fr:Frame)(cs:List Frame)(b:Option Dying)(g:Nat)(w:World):Gg (λw=>early P fr cs b g w) w:=by
 have d:∀w,Gg (λw=>match w.heap[g]? with
   | some (.pending c elem)=>GStep.go {frame:=fr,callers:=cs,status:=.running,dying:=b} {w with heap:=w.heap.setIfInBounds g (.cells c elem)}
   | _=>.ended (.stuck "early: the variable does not wait" (fr.pos P)) w) w:=by
  intro w;refine Gg.const ?_ ?_ fun τ s e _=>?_
  .split<;>rfl
  .split<;>rfl
  .show(match w.heap[g]? with
    | some (.pending c elem)=>GStep.go _ {rt τ s e w with heap:=w.heap.setIfInBounds g (.cells c elem)} _
    | _=>GStep.ended _ (rt τ s e w) _)=_
   split<;>(rename_i q;try simp only)<;>first | rfl | skip
 have l:∀f w,Gg (λw=>GStep.go {frame:=Frame.enter P f #[] .early,callers:=(if(P.code? f).any P.plainData then(P.brought w (2*P.funcs.size+1) [f] []).drop 1 else []).map (Frame.enter P · #[] .early)++fr::cs,status:=.running,dying:=b} w #[]) w:=by
  intro f w;refine Gg.const rfl rfl fun τ s e _=>?_
  simp only[jK,GStep.turn]
 unfold early;dsimp only;by_cases n:(!P.follows .staticDataAhead)=true
 .simp only[n,if_true];exact d w
 .simp only[n,C5,DR]
  cases t:P.stepOf g with
  | none=>exact(Ar _ _).loc w
  | some f=>
   simp only;by_cases m:((P.code? f).any P.atRunTime)=true
   .simp only[m,if_true];exact d w
   .simp only[m,C5,DR]
    by_cases h4:((((P.code? f).bind λc=>(readies c).getLast?).bind w.shape?).isSome)=true
    .refine(d w).like ?_ fun τ s e=>?_
     .simp only[h4,if_true];try rfl
     .simp only[show(((P.code? f).bind λc=>(readies c).getLast?).bind (rt τ s e w).shape?).isSome=true from h4,if_true];try rfl
    .generalize u:(fr.kind==CallKind.early)=kk
     have k:Gg (λw=>GStep.ended (.unsupported (.initOrder g) (fr.pos P)) w #[]) w:=(Ar _ _).loc w;cases hf:P.found w P.funcs.size f<;>cases kk
     .refine k.like ?_ fun τ s e=>?_
      .simp only[h4,C5,DR,hf];try rfl
      .exact zw
     .refine k.like ?_ fun τ s e=>?_
      .simp only[h4,C5,DR,hf];try rfl
      .exact zw
     .refine(d w).like ?_ fun τ s e=>?_
      .simp only[h4,C5,DR,hf];try rfl
      .exact zw
     .refine k.like ?_ fun τ s e=>?_
      .simp only[h4,C5,DR,hf];try rfl
      .exact zw
     .by_cases i:(P.code? f).any P.plainData=true
      .refine(l f w).like ?_ fun τ s e=>?_
       .simp only[h4,C5,DR,hf,i,if_true];try rfl
       .simp only[show ¬(((P.code? f).bind λc=>(readies c).getLast?).bind (rt τ s e w).shape?).isSome=true from h4,C5,Jz,hf,i,if_true,DR];try rfl
      .by_cases j:(!(P.code? f).any P.bareCopy)=true
       .refine(d w).like ?_ fun τ s e=>?_
        .simp only[h4,C5,DR,hf,i,j,if_true];try rfl
        .simp only[show ¬(((P.code? f).bind λc=>(readies c).getLast?).bind (rt τ s e w).shape?).isSome=true from h4,C5,DR,Jz,hf,i,j,if_true];try rfl
       .have o:Gg (λw=>(λr:Result Nat=>match r with
         | .ok 0 w=>(match w.heap[g]? with
           | some (.pending c elem)=>GStep.go {frame:=fr,callers:=cs,status:=.running,dying:=b} {w with heap:=w.heap.setIfInBounds g (.cells c elem)}
           | _=>.ended (.stuck "early: the variable does not wait" (fr.pos P)) w)
         | .ok _ w=>GStep.go {frame:=Frame.enter P f #[] .early,callers:=(if(P.code? f).any P.plainData then(P.brought w (2*P.funcs.size+1) [f] []).drop 1 else []).map (Frame.enter P · #[] .early)++fr::cs,status:=.running,dying:=b} w #[]
         | .halt _ w=>.ended (.stuck "early" (fr.pos P)) w) ((choose (.early g)).run P w)) w:=by
         refine Gg.bindR (P:=P) (w:=w) (x:=choose (.early g)) (λr:Result Nat=>match r with
          | .ok 0 w=>(match w.heap[g]? with
            | some (.pending c elem)=>GStep.go {frame:=fr,callers:=cs,status:=.running,dying:=b} {w with heap:=w.heap.setIfInBounds g (.cells c elem)}
            | _=>.ended (.stuck "early: the variable does not wait" (fr.pos P)) w)
          | .ok _ w=>GStep.go {frame:=Frame.enter P f #[] .early,callers:=(if(P.code? f).any P.plainData then(P.brought w (2*P.funcs.size+1) [f] []).drop 1 else []).map (Frame.enter P · #[] .early)++fr::cs,status:=.running,dying:=b} w #[]
          | .halt _ w=>.ended (.stuck "early" (fr.pos P)) w) (Calm.loc J3 w #[]) ?_ ?_
         .generalize Sem.run P _ w=r
          cases r with
          | ok a w'=>cases a with
           | zero=>exact d w'
           | succ a=>exact l f w'
          | halt h w'=>exact(Ar _ _).loc _
         .exact zb0
        refine o.like ?_ fun τ s e=>?_
        .simp only[h4,C5,DR,hf,i,j];rfl
        .simp only[show ¬(((P.code? f).bind λc=>(readies c).getLast?).bind (rt τ s e w).shape?).isSome=true from h4,C5,DR,Jz,hf,i,j];rfl
     .refine(l f w).like ?_ fun τ s e=>?_
      .simp only[h4,C5,DR,hf];try rfl
      .exact zw
end
section
variable {P : Program}{w : World}
def JP {α:Type}:Result α->Sem α
 | .ok a _=>.pure a
 | .halt h _=>.halt h
def Z7 {α:Type}(es:Array Event):Result α->Array Event
 | .halt .blocked _ | .halt .waiting _ | .halt (.unsupported (.initOrder _)) _=>#[]
 | _=>es
theorem Ht (fn:FuncId):seen P fn #[]=#[]:=rfl
theorem Gl (x:GStep):GStep.after #[] x=x:=by cases x<;>simp[GStep.after]
theorem XD (fr:Frame)(cs:List Frame)(b:Option Dying)(x:Sem Next)(w:World):
  stepG.apply P true fr cs b x w=GStep.after (seen P fr.fn (if fr.kind==.early then #[] else Z7 (x.runT P w #[]).2 (x.runT P w #[]).1)) (stepG.apply P true fr cs b (JP (x.runT P w #[]).1) (x.runT P w #[]).1.w):=by
 generalize c:x.runT P w #[]=r;obtain⟨r,e⟩:=r;cases r with
 | ok a d=>
  unfold stepG.apply;simp only[c,if_true,JP,Sem.runT,Result.w,Z7,ite_self,Ht,Gl]
 | halt h d=>
  unfold stepG.apply;simp only[c,if_true,JP,Sem.runT,Result.w];cases h with
  | unsupported u=>cases u<;>simp only[Z7,ite_self,Ht,Gl]
  | _=>simp only[Z7,ite_self,Ht,Gl]
theorem gv (fr:Frame)(cs:List Frame)(b:Option Dying)(a:Next):Xm (λw=>stepG.apply P true fr cs b (.pure a) w):=by
 intro w;unfold stepG.apply;simp only[if_true,Sem.runT,ite_self,Ht,Gl];cases a<;>dsimp only<;>repeat' first
  | exact⟨rfl,λ_=>rfl⟩
  | split
theorem iW (fr:Frame)(cs:List Frame)(a:Option Dying)(h:Halt)(w:World):Gg (λw=>stepG.apply P true fr cs a (.halt h) w) w:=by
 unfold stepG.apply;simp only[if_true,Sem.runT];cases h<;>(try dsimp only)<;>(try simp only[ite_self,Ht,Gl])<;>first
  | exact(Du _ _).loc _
  | exact(Ar _ _).loc _
  | exact RS _ _ _ _ _
  | exact Xm.loc (λ_=>⟨rfl,λ_=>rfl⟩) _
  | skip
 rename_i u;cases u<;>(try dsimp only)<;>(try simp only[ite_self,Ht,Gl])<;>first
  | exact(Ar _ _).loc _
  | exact va _ _ _ _ _
theorem Xe (fr:Frame)(cs:List Frame)(b:Option Dying)(h:Halt)(w:World)(a:(stepG.apply P true fr cs b (.halt h) w).cont):¬IZ h:=by
 revert a
 unfold stepG.apply;simp only[if_true,Sem.runT];cases h<;>(try dsimp only)<;>(try simp only[ite_self,Ht,Gl])<;>first
  | exact λ_ x=>x
  | (intro x;exact x.elim)
  | (intro x;cases x)
  | skip
 rename_i u;cases u<;>(try dsimp only)<;>(try simp only[ite_self,Ht,Gl])<;>first
  | exact λ_ x=>x
  | (intro x;exact x.elim)
theorem Uf (fr:Frame)(cs:List Frame)(d:Option Dying)(x:Sem Next)(w:World)(hx:GX P x w #[]):Gg (λw=>stepG.apply P true fr cs d x w) w:=by
 refine Gg.congr (G:=λw=>(λ(r:Result Next) b=>GStep.after (seen P fr.fn (if fr.kind==.early then #[] else Z7 b r)) (stepG.apply P true fr cs d (JP r) r.w)) (x.runT P w #[]).1 (x.runT P w #[]).2) ?_ (XD fr cs d x);refine Gg.bind (P:=P) (x:=x) (λ(r:Result Next) b=>GStep.after (seen P fr.fn (if fr.kind==.early then #[] else Z7 b r)) (stepG.apply P true fr cs d (JP r) r.w)) #[] hx ?_ ?_
 .generalize x.runT P w #[]=r
  obtain⟨r,b⟩:=r;cases r with
  | ok a f=>exact Gg.like (G:=λw=>GStep.after (seen P fr.fn (if fr.kind==.early then #[] else b)) (stepG.apply P true fr cs d (.pure a) w)) (Gg.after _ ((gv fr cs d a).loc f)) rfl λ_ _ _=>rfl
  | halt h f=>
   refine Gg.like (G:=λw=>GStep.after (seen P fr.fn (if fr.kind==.early then #[] else Z7 b (Result.halt h f:Result Next))) (stepG.apply P true fr cs d (.halt h) w)) (Gg.after _ (iW fr cs d h f)) rfl fun i s e=>?_
   have:∀g,Z7 b (Result.halt h g:Result Next)=Z7 b (Result.halt h f:Result Next):=by
    intro g;cases h<;>first | rfl | (rename_i u;cases u<;>rfl)
   simp only[Result.put,this];rfl
 .rw[Gs]
  generalize x.runT P w #[]=r;obtain⟨r,b⟩:=r;cases r with
  | ok a f=>exact λ_=>trivial
  | halt h f=>exact λc=>Xe fr cs d h f c
end
def Vw:Item->Prop
 | .call _ _ r _=>r= "runtime.print$piece"
 | .extern r _=>r= "runtime.print$piece"
 | _=>True
def Ze (fr:Frame):Prop:=∀i∈fr.todo,Vw i
def OkG (g:Goroutine):Prop:=Ze g.frame/\∀c∈g.callers,Ze c
section
variable {P : Program}{w : World}
theorem UR:Extern.next "runtime.print$piece" =some (Extern.PrintPieces.piece #[] #[]):=A0
theorem LV {α:Type}{x:Sem α}(hx:Calm P x)(H:Result α->Array Event->GStep)(f:∀a b,Xm (λw=>H (.ok a w) b))(g:∀h b,Xm (λw=>H (.halt h w) b))(e:∀h w b,IZ h->¬(H (.halt h w) b).cont)(w:World):
  Gg (λw=>H (x.runT P w #[]).1 (x.runT P w #[]).2) w:=by
 refine Gg.bind (P:=P) H #[] (hx.loc w #[]) ?_ ?_
 .generalize x.runT P w #[]=r
  obtain⟨r,b⟩:=r;cases r with
  | ok a d=>exact(f a b).loc d
  | halt h d=>exact(g h b).loc d
 .generalize x.runT P w #[]=r
  obtain⟨r,b⟩:=r;cases r with
  | ok a d=>exact λ_=>trivial
  | halt h d=>exact λc k=>e h d b k c
theorem Gt {F:World->GStep}(es:Array Event)(h:Xm F):Xm (λw=>GStep.after es (F w)):=λw=>⟨by rw[KJ];exact(h w).1,λf=>by show GStep.after es (F (f w))=_;rw[T0,(h w).2 f]⟩
theorem vZ (main:Bool)(fr:Frame)(cs:List Frame)(d:Option Dying)(jump:Option Code)(w:World):Gg (λw=>
   match fr.roundOf with
   | none=>if jump matches none | some .ret then GStep.go {frame:={fr with mode:=.returning},callers:=cs,status:=.running,dying:=d} w else .ended (.stuck "exit, goto: no such block or label" (fr.pos P)) w
   | some l=>
    let (r,b):=(Instr.endRound l jump).runT P w #[]
    GStep.after (seen P fr.fn b)<| match r with
    | .ok v w=>doReturn P main fr cs d v w
    | .halt _ w=>.ended (.stuck "range over a function: no such loop" (fr.pos P)) w) w:=by
 cases fr.roundOf with
 | none=>
  dsimp only;split
  .exact(Du _ _).loc w
  .exact(Du _ _).loc w
  .simp only[DR,C5];exact(Ar _ _).loc w
 | some l=>
  refine(LV (P:=P) (x:=Instr.endRound l jump) AW (λr b=>GStep.after (seen P fr.fn b) (match r with
    | .ok v w=>doReturn P main fr cs d v w
    | .halt _ w=>.ended (.stuck "range over a function: no such loop" (fr.pos P)) w)) (λa b=>Gt _ (Tn main fr cs d a)) (λh b=>Gt _ (Ar _ _)) (λh w b _ c=>by rw[Gs] at c;exact c) w).congr λw=>rfl
theorem YG (b:OkP P)(fr:Frame)(cs:List Frame)(a:Option Dying)(w:World):Gg (λw=>stepG.oper P true fr cs a w) w:=by
 unfold stepG.oper;cases fr.oper? with
 | none=>exact(Ar _ _).loc w
 | some o=>
  dsimp only;split
  .exact Uf fr cs a _ w (Calm.loc (Calm.bind AW λ_=>Calm.bind AW λ_=>Ae) w #[])
  .exact Uf fr cs a _ w (Nb _ 0 (UC b _ o) w #[])
theorem YH (n:OkP P)(main:Bool)(fr:Frame)(q:Ze fr)(cs:List Frame)(b:Option Dying)(w:World):Gg (λw=>stepG.exec P main true fr cs b w) w:=by
 have m:=λj=>vZ (P:=P) main fr cs b j w
 unfold stepG.exec;dsimp only;unfold Ze at q;split
 .exact m none
 .exact m (some .ret)
 .exact(Du _ _).loc w
 .exact(Du _ _).loc w
 .exact(Du _ _).loc w
 .exact(Du _ _).loc w
 .exact(Du _ _).loc w
 .split
  .exact(Du _ _).loc w
  .exact(Ar _ _).loc w
 .exact(Du _ _).loc w
 .exact(Du _ _).loc w
 .exact(Du _ _).loc w
 .exact(Du _ _).loc w
 .rename_i g k _
  cases exitTo g k with
  | none=>exact m (some (.exit g))
  | some t=>exact(Du _ _).loc w
 .rename_i l k _
  cases gotoIn l k with
  | none=>exact m (some (.goto l))
  | some t=>exact(Du _ _).loc w
 .rename_i f o assign body k _
  refine Gg.congr (G:=λw=>(λ(r:Result (Nat × List Deferred)) e=>GStep.after (seen P fr.fn e) (match r with
   | .ok (l,mark) w=>stepG.apply P true {fr with todo:=.inRangeFunc l::k,defers:=mark++fr.defers} cs b (do let d <-resolve ({fr with todo:=.inRangeFunc l::k,defers:=mark++fr.defers}:Frame).eval {callee:=.value f,args:=#[.const (.func (.yield l) #[] #[])],argTypes:=#[]} 0;invoke d.target d.args) w
   | .halt _ w=>.ended (.stuck "range over a function: no such loop" (fr.pos P)) w)) ((Instr.enterLoop fr.fn fr.tmps o assign body fr.roundOf).runT P w #[]).1 ((Instr.enterLoop fr.fn fr.tmps o assign body fr.roundOf).runT P w #[]).2) ?_ λw=>rfl
  refine Gg.bind (P:=P) (x:=Instr.enterLoop fr.fn fr.tmps o assign body fr.roundOf) (λ(r:Result (Nat × List Deferred)) e=>GStep.after (seen P fr.fn e) (match r with
   | .ok (l,mark) w=>stepG.apply P true {fr with todo:=.inRangeFunc l::k,defers:=mark++fr.defers} cs b (do let d <-resolve ({fr with todo:=.inRangeFunc l::k,defers:=mark++fr.defers}:Frame).eval {callee:=.value f,args:=#[.const (.func (.yield l) #[] #[])],argTypes:=#[]} 0;invoke d.target d.args) w
   | .halt _ w=>.ended (.stuck "range over a function: no such loop" (fr.pos P)) w)) #[] (Calm.loc AW w #[]) ?_ ?_
  .generalize Sem.runT P _ w #[]=r
   obtain⟨r,e⟩:=r;cases r with
   | ok a w'=>obtain⟨l,z⟩:=a;exact Gg.after _ (Uf _ cs b _ w' (Nb _ 0 (D9 AW λ_=>J8 n _ _) w' #[]))
   | halt h w'=>exact(Gt _ (Ar _ _)).loc w'
  .generalize Sem.runT P _ w #[]=r
   obtain⟨r,e⟩:=r;cases r with
   | ok a w'=>exact λ_=>trivial
   | halt h w'=>exact λc=>by rw[Gs] at c;exact c.elim
 .exact(Ar _ _).loc w
 .refine Uf fr cs b _ w (Calm.loc (Calm.bind ?_ λ_=>Ae) w #[])
  cases fr.roundOf with
  | none=>exact D7
  | some l=>exact Py l
 .rename_i l k _
  refine(LV (P:=P) (x:=Instr.endLoop l) AW (λr e=>GStep.after (seen P fr.fn e) (match r with
   | .ok jump w=>GStep.go {frame:={fr with todo:=(jump.map Item.code).toList++k},callers:=cs,status:=.running,dying:=b} w
   | .halt (.panic v) w=>GStep.go {frame:=(fr.raise [{v,recovered:=false}]),callers:=cs,status:=.running,dying:=b} w
   | .halt _ w=>.ended (.stuck "range over a function: no such loop" (fr.pos P)) w)) (λa e=>Gt _ (Du _ _)) (λh e=>?_) (λh w e ok c=>?_) w).congr λw=>rfl
  .cases h<;>first | exact Gt _ (Ar _ _) | exact Gt _ (Du _ _)
  .rw[Gs] at c;cases h<;>first | exact c | exact ok
 .exact(Ar _ _).loc w
 .exact Uf fr cs b _ w (Nb _ 0 (J8 n _ _) w #[])
 .rename_i row args k y
  have u:row= "runtime.print$piece" :=q (.extern row args) (by rw[y];exact DX);subst u;rw[UR];exact Uf fr cs b _ w (Nb _ 0 (NT _ _ _) w #[])
 .rename_i g i draw k _
  cases draw with
  | false=>exact(Du _ _).loc w
  | true=>
   simp only[J1,DR,C5]
   have s:Gg (λw=>(λr:Result Nat=>match r with
     | .ok t w=>GStep.go {frame:={fr with todo:=.inRegion i (Region.schedule (P.follows .mixedOrders) i t)::k},callers:=cs,status:=.running,dying:=b} w
     | .halt _ w=>.ended (.stuck "order" (fr.pos P)) w) ((choose (.order fr.fn g)).run P w)) w:=by
    refine Gg.bindR (P:=P) (x:=choose (.order fr.fn g)) (λr:Result Nat=>match r with
     | .ok t w=>GStep.go {frame:={fr with todo:=.inRegion i (Region.schedule (P.follows .mixedOrders) i t)::k},callers:=cs,status:=.running,dying:=b} w
     | .halt _ w=>.ended (.stuck "order" (fr.pos P)) w) (Calm.loc J3 w #[]) ?_ ?_
    .generalize Sem.run P _ w=r
     cases r with
     | ok a w'=>exact(Du _ _).loc _
     | halt h w'=>exact(Ar _ _).loc _
    .exact zb0
   exact s.congr λw=>rfl
 .exact(Du _ _).loc w
 .split
  .exact YG n fr cs b w
  .exact(Du _ _).loc w
end
