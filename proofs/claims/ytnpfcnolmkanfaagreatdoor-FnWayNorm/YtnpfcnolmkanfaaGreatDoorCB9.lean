import Derived.Test.YtnpfcnolmkanfaaGreatDoorCB6
namespace Go.Co
section
variable {es:Array Event}{α:Type}
variable {P : Program}{w : World}
theorem Aah {N:α->Prop}{x:Sem α}{d:Nat}(hx:Sat P N d x):∀a,(∃e,(x.runT P w es).1=.ok a e)->N a:=by
  induction x generalizing d w es with
  | pure a=>rintro b ⟨e,h⟩;cases h;exact hx.2
  | halt h=>rintro b ⟨e,h⟩;cases h
  | load m a k f=>
    rintro b ⟨e,h⟩;simp only[Sem.runT] at h;split at h
    · exact f _ (hx _) b ⟨e,h⟩
    · split at h
      · exact f _ (hx _) b ⟨e,h⟩
      · cases h
  | store m a v k f=>
    rintro b ⟨e,h⟩;cases v<;>simp only[Sem.runT] at h<;>first
      | (cases h;done)
      | (split at h
         · split at h
           · cases h
           · exact f hx b ⟨e,h⟩
         · split at h
           · exact f hx b ⟨e,h⟩
           · cases h)
  | new o k f=>rintro b ⟨e,h⟩;exact f _ (hx _) b ⟨e,h⟩
  | shape r k f=>rintro b ⟨e,h⟩;exact f _ (hx _) b ⟨e,h⟩
  | freeze a n k f=>rintro b ⟨e,h⟩;exact f hx b ⟨e,h⟩
  | frozen a k f=>rintro b ⟨e,h⟩;exact f _ (hx _) b ⟨e,h⟩
  | getObj r k f=>
    rintro b ⟨e,h⟩;simp only[Sem.runT] at h;split at h
    · cases h
    · exact f _ (hx _) b ⟨e,h⟩
    · cases h
  | setObj r o k f=>
    rintro b ⟨e,h⟩;simp only[Sem.runT] at h;split at h
    · cases h
    · exact f hx b ⟨e,h⟩
    · cases h
  | choose q k f=>
    rintro b ⟨e,h⟩;simp only[Sem.runT] at h;split at h
    · exact f _ (hx _) b ⟨e,h⟩
    · exact f _ (hx _) b ⟨e,h⟩
  | sys c k f=>rintro b ⟨e,h⟩;exact f _ (hx.2 _) b ⟨e,h⟩
  | program k f=>rintro b ⟨e,h⟩;exact f _ hx b ⟨e,h⟩
  | mark m k f=>rintro b ⟨e,h⟩;exact f hx b ⟨e,h⟩
theorem Gn.case {F:World->GStep}{x:Sem α}{ev:Array Event}(hx:Ay8 P x w es){r:Result α}(hr:x.runT P w es=(r,ev)){G:World->GStep}(y:Gn G r.w)(v:(G r.w).cont->r.cont)
    (hF:∀n j,x.runT P n es=(r.put j,ev)->F n=G j):Gn F w:=by
  obtain⟨h1,f,K,A,m,i⟩:=hx;obtain⟨t,l,L,q,z,u⟩:=y;rw[hr] at h1 f A m i;have B:r.put r.w=r:=by cases r<;>rfl
  have b:=hF w r.w (by rw[B];exact hr);refine⟨by rw[b];exact t.trans h1,by rw[b];exact A6e f l,max K L,by rw[b];exact A6e q (A8m _ _),λc=>?_,fun d s e g hA=>?_⟩
  · rw[b] at c ⊢
    rw[m (v c),z c];exact Nat.max_eq_right l
  · have k:=i d s e g (hA.mono (A83 _ _))
    have o:r.turn (rt d s e)=r.put (rt d s e r.w):=by cases r<;>rfl
    rw[o] at k;rw[hF _ _ k,b];exact u d s e (A6e g f) yEg
theorem Az5 {d:Deferred}{fr:Frame}(h:((d.target matches .nil) && (fr.mode matches .panicking _))=true):d.target=.nil/\∃c,fr.mode=.panicking c:=by
  cases b:d.target<;>cases e:fr.mode<;>simp[b,e] at h ⊢
theorem zE {p:Prop}(h:p:=by
 exact go {frame:=fr,callers:=cs,status:=.running,dying:=dy} λw₁ w₂ h=>by unfold callDeferred;refine(if_neg hn).trans ?_;simp only[h]):p:=h
theorem Acv (s:OkP P)(fr:Frame)(cs:List Frame)(dy:Option Dying)(d:Deferred)(w:World):Gn (λw=>callDeferred P fr cs dy d w) w:=by
  by_cases n:d.target=.nil/\∃c,fr.mode=.panicking c
  · obtain⟨t,c,A⟩:=n
    refine Gn.congr ((Ba (.unsupported (.noEntry "machine/Return: a deferred call of a nil function value, made while the frame is unwinding") (fr.pos P)) #[]).loc w) λw=>?_
    unfold callDeferred;simp[t,A]
  · have hn:=λh=>n (Az5 h)
    have o:=Ld s d.target d.args;have i:=Nw _ 0 o w #[];have q:=Aah (w:=w) (es:=#[]) o;generalize j:(invoke d.target d.args).runT P w #[]=r at q;obtain⟨r,k⟩:=r;cases r with
    | ok a e=>
      have go:∀(g:Goroutine),(∀w₁ w₂,(invoke d.target d.args).runT P w₁ #[]=(.ok a w₂,k)->callDeferred P fr cs dy d w₁=GStep.after (seen P fr.fn k) (.go g w₂))->Gn (λw=>callDeferred P fr cs dy d w) w:=
        λg h=>Gn.case i j (Gn.after _ ((Dq g #[]).loc e)) (λ_=>trivial) h
      cases a<;>first | exact(q _ ⟨_,rfl⟩).elim | skip
      case value v=>exact zE
      case skip=>exact zE
      case enter f args=>exact go {frame:=Frame.enter P f args .deferred,callers:=fr::cs,status:=.running,dying:=dy} λw₁ w₂ h=>by unfold callDeferred;refine(if_neg hn).trans ?_;simp only[h]
      case round l f z assign body=>exact go {frame:=Frame.round l f z assign body .deferred,callers:=fr::cs,status:=.running,dying:=dy} λw₁ w₂ h=>by unfold callDeferred;refine(if_neg hn).trans ?_;simp only[h]
      case defer y=>exact zE
      case spawn y=>exact zE
      case comm c b B=>exact zE
      case row row args=>exact go {frame:=Frame.ofRow P row args .deferred,callers:=fr::cs,status:=.running,dying:=dy} λw₁ w₂ h=>by unfold callDeferred;refine(if_neg hn).trans ?_;simp only[h]
      case recover=>
        refine go {frame:=fr,callers:=(match fr.mode,tryRecover fr cs with | .returning,some (_,callers)=>callers | _,_=>cs),status:=.running,dying:=dy} λw₁ w₂ h=>?_
        unfold callDeferred;refine(if_neg hn).trans ?_;simp only[h];split<;>simp_all
      case coroswitch c x=>
        cases x with
        | true=>exact Gn.case i j (Gn.after (seen P fr.fn k) (Xr.loc (F:=λw=>GStep.coroswitch {frame:=fr,callers:=cs,status:=.running,dying:=dy} c true w) (λ_=>⟨rfl,λ_=>rfl⟩) e)) (λ_=>trivial) λw₁ w₂ h=>by unfold callDeferred;refine(if_neg hn).trans ?_;simp only[h,Result.put]
        | false=>exact Gn.case i j (Gn.after (seen P fr.fn k) ((Ba (.unsupported (.noEntry "a deferred call of iter.newcoro or iter.coroswitch") (fr.pos P)) #[]).loc e)) (λ_=>trivial) λw₁ w₂ h=>by unfold callDeferred;refine(if_neg hn).trans ?_;simp only[h,Result.put]
    | halt h e=>
      cases h
      case panic v=>exact Gn.case i j (Gn.after (seen P fr.fn k) ((Dq {frame:=fr.raise [{v,recovered:=false}],callers:=cs,status:=.running,dying:=dy} #[]).loc e)) (λ_ x=>x) λw₁ w₂ h=>by unfold callDeferred;refine(if_neg hn).trans ?_;simp only[h,Result.put]
      case exit c=>exact Gn.case i j (Gn.after (seen P fr.fn k) ((Ba (.exit c) #[]).loc e)) (λ_ x=>x) λw₁ w₂ h=>by unfold callDeferred;refine(if_neg hn).trans ?_;simp only[h,Result.put]
      case fatal m=>exact Gn.case i j (Gn.after (seen P fr.fn k) (Ab9 (P:=P) fr cs dy m e)) (λ_ x=>x) λw₁ w₂ h=>by unfold callDeferred;refine(if_neg hn).trans ?_;simp only[h,Result.put]
      case throw m=>exact Gn.case i j (Gn.after (seen P fr.fn k) (Xr.loc (F:=λw=>endThrow fr m w) (λ_=>⟨rfl,λ_=>rfl⟩) e)) (λ_ x=>x) λw₁ w₂ h=>by unfold callDeferred;refine(if_neg hn).trans ?_;simp only[h,Result.put]
      case unsupported u=>exact Gn.case i j (Gn.after (seen P fr.fn k) ((Ba (.unsupported u (fr.pos P)) #[]).loc e)) (λc=>by rw[G5] at c;exact c.elim) λw₁ w₂ h=>by unfold callDeferred;refine(if_neg hn).trans ?_;simp only[h,Result.put]
      case stuck m=>exact Gn.case i j (Gn.after (seen P fr.fn k) ((Ba (.stuck m (fr.pos P)) #[]).loc e)) (λc=>by rw[G5] at c;exact c.elim) λw₁ w₂ h=>by unfold callDeferred;refine(if_neg hn).trans ?_;simp only[h,Result.put]
      case goexit=>exact Gn.case i j (Gn.after (seen P fr.fn k) ((Dq {frame:=fr.raise [goexitEntry],callers:=cs,status:=.running,dying:=dy} #[]).loc e)) (λ_ x=>x) λw₁ w₂ h=>by unfold callDeferred;refine(if_neg hn).trans ?_;simp only[h,Result.put]
      case blocked=>exact Gn.case i j (Gn.after (seen P fr.fn #[]) ((Dq {frame:={fr with defers:=d::fr.defers},callers:=cs,status:=.blocked,dying:=dy} #[]).loc e)) (λc=>by rw[G5] at c;cases c) λw₁ w₂ h=>by unfold callDeferred;refine(if_neg hn).trans ?_;simp only[h,Result.put]
      case waiting=>exact Gn.case i j (Gn.after (seen P fr.fn #[]) ((Dq {frame:={fr with defers:=d::fr.defers},callers:=cs,status:=.waiting,dying:=dy} #[]).loc e)) (λc=>by rw[G5] at c;cases c) λw₁ w₂ h=>by unfold callDeferred;refine(if_neg hn).trans ?_;simp only[h,Result.put]
theorem Aru (g:OkP P)(main:Bool)(fr:Frame)(cs:List Frame)(b:Option Dying)(w:World):Gn (λw=>unwind P main fr cs b w) w:=by
  unfold unwind;split
  · rename_i block _ i _
    refine(Ac3 (P:=P) (x:=Instr.takeDeferred block) spz (λr es=>GStep.after (seen P fr.fn es) (match r with
      | .ok calls w=>GStep.go {frame:={fr with defers:=calls++i},callers:=cs,status:=.running,dying:=b} w
      | .halt _ w=>.ended (.stuck "the deferred calls of a range-over-func loop have been taken" (fr.pos P)) w)) (λa es=>G6 _ (Dq _ _)) (λh es=>G6 _ (Ba _ _)) (λh w es _ c=>by rw[G5] at c;exact c) w).congr λw=>rfl
  · exact Acv g _ _ _ _ w
  · split
    · exact(Ba _ _).loc w
    · rename_i chain _
      split
      · exact(Ba _ _).loc w
      · split
        · exact(Dq _ _).loc w
        · split
          · split
            · exact(Dq _ _).loc w
            · have e:Gn (λw=>(λr:Result (List (Value × String))=>match r with | .ok todo w=>GStep.go {frame:=fr,callers:=[],status:=.running,dying:=some {todo:=todo,texts:=[],calling:=false,pending:= "",runtimeError:=isRuntimeError P (chain.head?.map (·.v))} } w | .halt (.unsupported u) w=>.ended (.unsupported u "") w | .halt _ w=>.ended (.stuck "the report of a panic" "") w) ((reportChain chain false).run P w)) w:=by
                refine Gn.bindR (P:=P) (x:=reportChain chain false) (λr:Result (List (Value × String))=>match r with | .ok todo w=>GStep.go {frame:=fr,callers:=[],status:=.running,dying:=some {todo:=todo,texts:=[],calling:=false,pending:= "",runtimeError:=isRuntimeError P (chain.head?.map (·.v))} } w | .halt (.unsupported u) w=>.ended (.unsupported u "") w | .halt _ w=>.ended (.stuck "the report of a panic" "") w) (Calm.loc (V9 _ _) w #[]) ?_ ?_
                · generalize Sem.run P _ w=r
                  cases r with
                  | ok a d=>exact(Dq _ _).loc _
                  | halt h d=>cases h<;>exact(Ba _ _).loc _
                · generalize Sem.run P _ w=r
                  cases r with
                  | ok a d=>exact λ_=>trivial
                  | halt h d=>cases h<;>exact λx=>x.elim
              exact e.congr λw=>rfl
          · split
            · exact(Uo fr _).loc w
            · exact(Ba _ _).loc w
    · split
      · exact(Ub _ _ _ _ _).loc w
      · rename_i f _
        refine(Ac3 (P:=P) (x:=results f fr.tmps) (Acl _ _) (λr es=>GStep.after (seen P fr.fn es) (match r with
          | .ok v w=>doReturn P main fr cs b v w
          | .halt (.stuck s) w=>.ended (.stuck s (fr.pos P)) w
          | .halt _ w=>.ended (.stuck "return: the result variables cannot be read" (fr.pos P)) w)) (λa es=>G6 _ (Ub _ _ _ _ _)) (λh es=>?_) (λh w es _ c=>?_) w).congr λw=>rfl
        · cases h<;>exact G6 _ (Ba _ _)
        · rw[G5] at c;cases h<;>exact c
end
section
variable {P : Program}{w : World}
theorem Gn.caseOld {α:Type}{F:World->GStep}{x:Sem α}{es ev:Array Event}(hx:Ay8 P x w es){r:Result α}(hr:x.runT P w es=(r,ev)){G:World->GStep}(k:Xr G)(t:∀w,¬(G w).cont)
  (hF:∀g q,x.runT P g es=(r.put q,ev)->F g=G g):Gn F w:=by
 obtain⟨p,m,K,l,v,j⟩:=hx;rw[hr] at p m l v j;have y:r.put r.w=r:=by cases r<;>rfl
 have b:=hF w r.w (by rw[y];exact hr);have f:=(k w).1;refine⟨by rw[b,f],by rw[b,f];exact A57 _,K,by rw[b,f];exact A6e m l,λc=>by rw[b] at c;exact(t w c).elim,fun d s e o u=>?_⟩;have i:=j d s e o u;have n:r.turn (rt d s e)=r.put (rt d s e r.w):=by cases r<;>rfl
 rw[n] at i;rw[hF _ _ i,b];exact(k w).2 _
theorem Anu (b:Nat)(text:ByteArray)(o:Outcome)(w:World):Gn (λw=>endWith w b text o) w:=by
 obtain⟨i,q,k,g⟩:=Ao8 (.write b text) w;have l:∀w,∃f,endWith w b text o=.ended f (w.sys (.write b text)).2:=by
  intro w;unfold endWith;generalize w.sys (.write b text)=x;obtain⟨r,n⟩:=x;cases r<;>dsimp only<;>first
   | exact⟨_,rfl⟩
   | (split<;>exact⟨_,rfl⟩)
 obtain⟨f,c⟩:=l w;have t:(w.sys (.write b text)).2.drawn<=(w.ask (Kernel.perform (.write b text) w.os)).2.drawn:=by
  by_cases d:(w.sys (.write b text)).1=.wouldBlock
  ·exact g d
  ·exact Nat.le_of_eq (k d)
 refine⟨by rw[c];exact i,by rw[c];exact q,(w.ask (Kernel.perform (.write b text) w.os)).2.drawn,by rw[c];exact t,by rw[c];exact λx=>x.elim,fun u s e j p=>?_⟩;have m:=Amw (.write b text) w j p;unfold endWith;rw[m];generalize w.sys (.write b text)=x;obtain⟨r,n⟩:=x;cases r<;>dsimp only<;>first
  | rfl
  | (split<;>rfl)
theorem Ab4 (fr:Frame)(d:Dying)(f:Fatal)(piece:ByteArray)(rest:List ByteArray)(b:f.pieces=piece::rest):∃X:Sem Unit,Sat P (λ_=>True) 0 X/\
  ∀w,writeOn P fr d f w=match X.runT P w #[] with
   | (.ok _ w,es)=>GStep.go {frame:=fr,callers:=[],status:=.running,dying:=some {d with fatal:=some {f with pieces:=rest,begun:=true} } } w es
   | (.halt .blocked w,_)=>GStep.go {frame:=fr,callers:=[],status:=.blocked,dying:=some {d with fatal:=some f} } w #[]
   | (.halt (.unsupported u) w,_)=>.ended (.unsupported u "") w
   | (.halt _ w,_)=>.ended (.stuck "the report of a fatal error" "") w:=by
 unfold writeOn;simp only[b];refine⟨_,?_,λw=>rfl⟩;repeat' first
  | exact Hl trivial
  | refine Adt ?_
  | refine Agl ?_
  | refine Ajz (λ_=>?_)
  | with_reducible refine Nr ?_
  | refine Agj ?_
  | exact .inl rfl
  | exact .inr trivial
  | refine D6 Js (λ_=>?_)
  | (refine⟨trivial,λr=>?_⟩;cases r)
  | split
 all_goals
  show Sat P (λ_=>True) 0 (if _ then unsupported _ else pure ())
  split
  ·exact .inl rfl
  ·exact Hl trivial
theorem Ant (fr:Frame)(d:Dying)(f:Fatal)(w:World):Gn (λw=>writeOn P fr d f w) w:=by
 cases k:f.pieces with
 | nil=>
  refine Gn.congr ((Ba (.fatal f.text) #[]).loc w) λw=>?_
  unfold writeOn;simp only[k]
 | cons piece rest=>
  obtain⟨X,l,hF⟩:=Ab4 (P:=P) fr d f piece rest k;have e:=Nw X 0 l w #[];generalize g:X.runT P w #[]=r;obtain⟨r,m⟩:=r;cases r with
  | ok a b=>exact Gn.case e g ((Dq {frame:=fr,callers:=[],status:=.running,dying:=some {d with fatal:=some {f with pieces:=rest,begun:=true} } } m).loc b) (λ_=>trivial) λj i h=>by rw[hF,h];rfl
  | halt h b=>
   cases h<;>first
    | exact Gn.case e g ((Dq {frame:=fr,callers:=[],status:=.blocked,dying:=some {d with fatal:=some f} } #[]).loc b) (λc=>by cases c) λj i h=>by rw[hF,h];rfl
    | (rename_i u;exact Gn.case e g ((Ba (.unsupported u "") #[]).loc b) (λc=>c.elim) λj i h=>by rw[hF,h];rfl)
    | exact Gn.case e g ((Ba (.stuck "the report of a fatal error" "") #[]).loc b) (λc=>c.elim) λj i h=>by rw[hF,h];rfl
theorem zu0 {p:Prop}(h:p:=by
 exact Gn.case hx hr (Gn.after _ ((Dq _ #[]).loc w')) (λ_=>trivial) λw₁ w₂ h=>by simp only[h,Result.put];rfl):p:=h
theorem A21 (i:OkP P)(fr:Frame)(d:Dying)(w:World):Gn (λw=>die P fr d w) w:=by
 unfold die;split
 ·exact Ant fr d _ w
 ·split
  ·by_cases b:printLockHeld P w=true
   ·exact Gn.like (G:=λw=>GStep.go {frame:=fr,callers:=[],status:=.blocked,dying:=some d} w #[]) ((Dq _ _).loc w) (if_pos b) fun g s e=>if_pos (show printLockHeld P (rt g s e w)=true from b)
   ·exact Gn.like (Anu _ _ _ w) (if_neg b) fun g s e=>if_neg (show ¬printLockHeld P (rt g s e w)=true from b)
  ·rename_i v mark rest _
   dsimp only;split
   ·exact(Dq _ _).loc w
   ·rename_i s _
    have hx:=Calm.loc (V8 (P:=P) s) w #[];have e:∀w,(withAddress s).run P w=((withAddress s).runT P w #[]).1:=λw=>by rw[Sem.runT_eq]
    simp only[e];generalize hr:(withAddress s).runT P w #[]=r;obtain⟨r,j⟩:=r;cases r with
    | ok a w'=>exact Gn.case hx hr ((Dq _ #[]).loc w') (λ_=>trivial) λw₁ w₂ h=>by simp only[h,Result.put];rfl
    | halt h w'=>exact Gn.case hx hr ((Ba _ #[]).loc w') (λc=>c.elim) λw₁ w₂ h=>by simp only[h,Result.put];rfl
   ·rename_i t recv name _
    have hx:=Nw _ 0 (Ld i (.fn (.method name) #[]) #[.iface t recv]) w #[];generalize hr:(invoke (.fn (.method name) #[]) #[.iface t recv]).runT P w #[]=r;obtain⟨r,j⟩:=r;cases r with
    | ok a w'=>
     cases a
     case enter f args=>exact zu0
     case value x=>
      cases x
      case string s=>exact zu0
      all_goals exact Gn.caseOld hx hr (G6 _ (Ba _ #[])) (λw c=>by rw[G5] at c;exact c) λw₁ w₂ h=>by simp only[h,Result.put];rfl
     all_goals exact Gn.caseOld hx hr (G6 _ (Ba _ #[])) (λw c=>by rw[G5] at c;exact c) λw₁ w₂ h=>by simp only[h,Result.put];rfl
    | halt h w'=>
     cases h
     case panic v=>exact Gn.case hx hr (Gn.after _ ((Uo fr v).loc w')) (λ_ x=>x) λw₁ w₂ h=>by simp only[h,Result.put];rfl
     case unsupported u=>exact Gn.case hx hr (Gn.after _ ((Ba _ #[]).loc w')) (λc=>by rw[G5] at c;exact c.elim) λw₁ w₂ h=>by simp only[h,Result.put];rfl
     all_goals exact Gn.caseOld hx hr (G6 _ (Ba _ #[])) (λw c=>by rw[G5] at c;exact c) λw₁ w₂ h=>by simp only[h,Result.put];rfl
   ·exact(Ba _ _).loc w
theorem Awp (b:OkP P)(main:Bool)(g:Goroutine)(hg:Zx g.frame)(w:World):Gn (λw=>stepG P main g w) w:=by
 unfold stepG;obtain⟨e,d,f,c,off⟩:=g;dsimp only;split
 ·exact A21 b _ _ w
 ·exact A0b b main _ hg _ _ w
 ·exact Aru b main _ _ _ w
end
section
variable {a:Addr}{h:Halt}{α:Type}
variable {P : Program}{w : World}
def Yw {α:Type}:Result α->Prop
  | .ok _ _=>True
  | .halt .blocked _ | .halt .waiting _ | .halt (.unsupported _) _ | .halt (.stuck _) _=>False
  | _=>True
def Xu (es:Array Event):Prop:=∀e∈es,∀m,e.loc=.mark m->e.sync=true
theorem N8 {es:Array Event}{e:Event}(h:Xu es)(c:∀m,e.loc=.mark m->e.sync=true):Xu (es.push e):=by
  intro x b;rcases Array.mem_push.1 b with b | rfl
  · exact h x b
  · exact c
theorem deaf_push (d:Nat)(es:Array Event)(e:Event):deafBehind d (es.push e)=match e.loc with | .mark .disable=>deafBehind d es+1 | .mark .enable=>deafBehind d es - 1 | _=>deafBehind d es:=by
  unfold deafBehind;rw[Array.foldl_push];rfl
theorem Y2 (d:Nat)(es:Array Event)(a:Addr)(b c:Bool):deafBehind d (es.push ⟨.cell a,b,c⟩)=deafBehind d es:=by rw[deaf_push]
theorem Ye (d:Nat)(es:Array Event)(b c:Bool)(l:List Addr):deafBehind d (es++l.toArray.map (⟨.cell ·,b,c⟩))=deafBehind d es/\(Xu es->Xu (es++l.toArray.map (⟨.cell ·,b,c⟩))):=by
  refine⟨?_,λh x e=>?_⟩
  · unfold deafBehind
    rw[Array.foldl_append];simp only[A7c,A55,A6i,List.foldl_toArray'];generalize Array.foldl _ d es=n;induction l generalizing n with
    | nil=>rfl
    | cons a l g=>exact g n
  · rcases Array.mem_append.1 e with e | e
    · exact h x e
    · obtain⟨a,_,rfl⟩:=Array.mem_map.1 e
      intro m f;cases f
theorem Aip {b:Bool}(c:w.farLoad P a b=.error h):¬Yw (.halt h w:Result Unit):=by
  unfold World.farLoad at c;have d:∀s,¬Yw (.halt (w.noCell a s) w:Result Unit):=by
    intro s;unfold World.noCell;split<;>exact id
  split at c
  · split at c
    · cases c
    · cases c;exact id
  · cases c;exact d _
theorem Af6 {v:Value}{b:Bool}(c:w.farStore P a v b=.error h):¬Yw (.halt h w:Result Unit):=by
  unfold World.farStore at c;have d:∀s,¬Yw (.halt (w.noCell a s) w:Result Unit):=by
    intro s;unfold World.noCell;split<;>exact id
  split at c
  · split at c
    · cases c
    · cases c;exact id
  · cases c;exact d _
theorem Aes {w w':World}:Yw (.halt h w:Result α)↔Yw (.halt h w':Result Unit):=by cases h<;>exact Iff.rfl
theorem Yj {N:α->Prop}{x:Sem α}:∀{d:Nat} (_:Sat P N d x) (w:World) (es:Array Event),deafBehind 0 es=d->Xu es->Xu (x.runT P w es).2/\(Yw (x.runT P w es).1->deafBehind 0 (x.runT P w es).2=0):=by
  induction x with
  | pure a=>intro d e w es hd b;exact⟨b,λ_=>hd.trans e.1⟩
  | halt h=>
    intro d e w es hd b;refine⟨b,λg=>?_⟩;rcases e with j | j
    · exact hd.trans j
    · cases h<;>first | exact g.elim | exact j.elim
  | load m a k f=>
    intro d e w es hd b;simp only[Sem.runT];split
    · exact f _ (e _) w _ (by rw[Y2];exact hd) (N8 b (λm i=>by cases i))
    · split
      · rename_i v l _
        exact f _ (e _) w _ (by rw[(Ye 0 es _ _ l).1];exact hd) ((Ye 0 es _ _ l).2 b)
      · rename_i h p
        exact⟨b,λg=>absurd (Aes.1 g) (Aip p)⟩
  | store m a v k f=>
    intro d e w es hd b;cases v<;>simp only[Sem.runT]<;>first
      | exact⟨b,λg=>g.elim⟩
      | (split
         · split
           · exact⟨b,λg=>g.elim⟩
           · exact f e _ _ (by rw[Y2];exact hd) (N8 b (λm i=>by cases i))
         · split
           · rename_i s l _
             exact f e _ _ (by rw[(Ye 0 es _ _ l).1];exact hd) ((Ye 0 es _ _ l).2 b)
           · rename_i h p
             exact⟨b,λg=>absurd (Aes.1 g) (Af6 p)⟩)
  | new o k f=>intro d e w es hd b;exact f _ (e _) _ es hd b
  | shape r k f=>intro d e w es hd b;exact f _ (e _) _ es hd b
  | freeze a n k f=>intro d e w es hd b;exact f e _ es hd b
  | frozen a k f=>intro d e w es hd b;exact f _ (e _) _ es hd b
  | getObj r k f=>
    intro d e w es hd b;simp only[Sem.runT];split
    · exact⟨b,λg=>g.elim⟩
    · exact f _ (e _) w _ (by rw[deaf_push];exact hd) (N8 b (λm i=>by cases i))
    · exact⟨b,λg=>g.elim⟩
  | setObj r o k f=>
    intro d e w es hd b;simp only[Sem.runT];split
    · exact⟨b,λg=>g.elim⟩
    · exact f e _ _ (by rw[deaf_push];exact hd) (N8 b (λm i=>by cases i))
    · exact⟨b,λg=>g.elim⟩
  | choose q k f=>
    intro d e w es hd b;simp only[Sem.runT];split
    · exact f _ (e _) w es hd b
    · exact f _ (e _) _ es hd b
  | sys c k f=>intro d e w es hd b;exact f _ (e.2 _) _ _ (by rw[deaf_push];exact hd) (N8 b (λm i=>by cases i))
  | program k f=>intro d e w es hd b;exact f _ e w es hd b
  | mark m k f=>
    intro d e w es hd b;refine f e w _ ?_ (N8 b (λ_ _=>rfl));rw[deaf_push,hd];cases m<;>rfl
theorem Ae0 (fn:FuncId)(es:Array Event)(h:Xu es):deafBehind 0 (seen P fn es)=deafBehind 0 es:=by
  have key:∀(l:List Event) (q:Bool) (kept:Array Event),(∀e∈l,∀m,e.loc=.mark m->e.sync=true)->
      deafBehind 0 (l.foldl (λ(x:Bool × Array Event) e=>match e.loc with
        | .mark (.extern f)=>((P.funcs[f]?).any (·.norace),x.2)
        | _=>(x.1,if x.1 && !e.sync then x.2 else x.2.push e)) (q,kept)).2=l.foldl (λd e=>match e.loc with | .mark .disable=>d+1 | .mark .enable=>d - 1 | _=>d) (deafBehind 0 kept):=by
    intro l;induction l with
    | nil=>exact λq kept _=>rfl
    | cons e l b=>
      intro q kept g;simp only[List.foldl_cons];have i:=λx j=>g x (A56 _ j)
      obtain⟨o,wr,c⟩:=e;cases o with
      | mark m=>
        have n:c=true:=g ⟨.mark m,wr,c⟩ A7r m rfl;subst n;cases m<;>(simp only[A82,Bool.and_false,A58,A7k];rw[b _ _ i];try rw[deaf_push])
      | _=>
        simp only;rw[b _ _ i];split
        · rfl
        · rw[deaf_push]
  unfold seen;dsimp only;rw[<-Array.foldl_toList];refine(key es.toList _ #[] (λe k=>h e (Array.mem_toList_iff.1 k))).trans ?_;show List.foldl _ 0 es.toList=deafBehind 0 es
  unfold deafBehind;rw[<-Array.foldl_toList];rfl
end
end Go.Co
