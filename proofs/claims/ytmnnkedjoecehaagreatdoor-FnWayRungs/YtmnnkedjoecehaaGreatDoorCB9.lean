import Derived.Test.YtmnnkedjoecehaaGreatDoorCB6
namespace Go.Co
section
variable {es:Array Event}{α:Type}
variable {P : Program}{w : World}
theorem LV {N:α->Prop}{x:Sem α}{d:Nat}(hx:C3 P N d x):∀a,(∃e,(x.runT P w es).1=.ok a e)->N a:=by
  induction x generalizing d w es with
  | pure a=>rintro b ⟨e,h⟩;cases h;exact hx.2
  | halt h=>rintro b ⟨e,h⟩;cases h
  | load m a k f=>
    rintro b ⟨e,h⟩;simp only[Sem.runT] at h;split at h
    · exact f _ (hx _) b ⟨e,h⟩
    · split at h
      · exact f _ (hx _) b ⟨e,h⟩
      · cases h
  | store m a v k f=>
    rintro b ⟨e,h⟩;cases v<;>simp only[Sem.runT] at h<;>first
      | (cases h;done)
      | (split at h
         · split at h
           · cases h
           · exact f hx b ⟨e,h⟩
         · split at h
           · exact f hx b ⟨e,h⟩
           · cases h)
  | new o k f=>rintro b ⟨e,h⟩;exact f _ (hx _) b ⟨e,h⟩
  | shape r k f=>rintro b ⟨e,h⟩;exact f _ (hx _) b ⟨e,h⟩
  | freeze a n k f=>rintro b ⟨e,h⟩;exact f hx b ⟨e,h⟩
  | frozen a k f=>rintro b ⟨e,h⟩;exact f _ (hx _) b ⟨e,h⟩
  | getObj r k f=>
    rintro b ⟨e,h⟩;simp only[Sem.runT] at h;split at h
    · cases h
    · exact f _ (hx _) b ⟨e,h⟩
    · cases h
  | setObj r o k f=>
    rintro b ⟨e,h⟩;simp only[Sem.runT] at h;split at h
    · cases h
    · exact f hx b ⟨e,h⟩
    · cases h
  | choose q k f=>
    rintro b ⟨e,h⟩;simp only[Sem.runT] at h;split at h
    · exact f _ (hx _) b ⟨e,h⟩
    · exact f _ (hx _) b ⟨e,h⟩
  | sys c k f=>rintro b ⟨e,h⟩;exact f _ (hx.2 _) b ⟨e,h⟩
  | program k f=>rintro b ⟨e,h⟩;exact f _ hx b ⟨e,h⟩
  | mark m k f=>rintro b ⟨e,h⟩;exact f hx b ⟨e,h⟩
theorem G6.case {F:World->GStep}{x:Sem α}{ev:Array Event}(hx:GN P x w es){r:Result α}(hr:x.runT P w es=(r,ev)){G:World->GStep}(o:G6 G r.w)(y:(G r.w).cont->r.cont)
    (hF:∀m j,x.runT P m es=(r.put j,ev)->F m=G j):G6 F w:=by
  obtain⟨h1,f,K,q,k,i⟩:=hx;obtain⟨t,g,L,A,v,z⟩:=o;rw[hr] at h1 f q k i;have B:r.put r.w=r:=by cases r<;>rfl
  have b:=hF w r.w (by rw[B];exact hr);refine⟨by rw[b];exact t.trans h1,by rw[b];exact CM f g,max K L,by rw[b];exact CM A (M6 _ _),λc=>?_,fun d s e l hA=>?_⟩
  · rw[b] at c ⊢
    rw[k (y c),v c];exact Nat.max_eq_right g
  · have n:=i d s e l (hA.mono (K7 _ _))
    have u:r.turn (rt d s e)=r.put (rt d s e r.w):=by cases r<;>rfl
    rw[u] at n;rw[hF _ _ n,b];exact z d s e (CM l f) yFc
theorem ij {d:Deferred}{fr:Frame}(h:((d.target matches .nil) && (fr.mode matches .panicking _))=true):d.target=.nil/\∃c,fr.mode=.panicking c:=by
  cases b:d.target<;>cases e:fr.mode<;>simp[b,e] at h ⊢
theorem zE {p:Prop}(h:p:=by
 exact go {frame:=fr,callers:=cs,status:=.running,dying:=dy} λw₁ w₂ h=>by unfold callDeferred;refine(if_neg hn).trans ?_;simp only[h]):p:=h
theorem ox (t:OkP P)(fr:Frame)(cs:List Frame)(dy:Option Dying)(d:Deferred)(w:World):G6 (λw=>callDeferred P fr cs dy d w) w:=by
  by_cases n:d.target=.nil/\∃c,fr.mode=.panicking c
  · obtain⟨A,c,y⟩:=n
    refine G6.congr ((A7 (.unsupported (.noEntry "machine/Return: a deferred call of a nil function value, made while the frame is unwinding") (fr.pos P)) #[]).loc w) λw=>?_
    unfold callDeferred;simp[A,y]
  · have hn:=λh=>n (ij h)
    have q:=Ns t d.target d.args;have j:=Pi _ 0 q w #[];have o:=LV (w:=w) (es:=#[]) q;generalize i:(invoke d.target d.args).runT P w #[]=r at o;obtain⟨r,k⟩:=r;cases r with
    | ok a e=>
      have go:∀(g:Goroutine),(∀w₁ w₂,(invoke d.target d.args).runT P w₁ #[]=(.ok a w₂,k)->callDeferred P fr cs dy d w₁=GStep.after (seen P fr.fn k) (.go g w₂))->G6 (λw=>callDeferred P fr cs dy d w) w:=
        λg h=>G6.case j i (G6.after _ ((D8 g #[]).loc e)) (λ_=>trivial) h
      cases a<;>first | exact(o _ ⟨_,rfl⟩).elim | skip
      case value v=>exact zE
      case skip=>exact zE
      case enter f args=>exact go {frame:=Frame.enter P f args .deferred,callers:=fr::cs,status:=.running,dying:=dy} λw₁ w₂ h=>by unfold callDeferred;refine(if_neg hn).trans ?_;simp only[h]
      case round l f z assign body=>exact go {frame:=Frame.round l f z assign body .deferred,callers:=fr::cs,status:=.running,dying:=dy} λw₁ w₂ h=>by unfold callDeferred;refine(if_neg hn).trans ?_;simp only[h]
      case defer s=>exact zE
      case spawn s=>exact zE
      case comm c b B=>exact zE
      case row row args=>exact go {frame:=Frame.ofRow P row args .deferred,callers:=fr::cs,status:=.running,dying:=dy} λw₁ w₂ h=>by unfold callDeferred;refine(if_neg hn).trans ?_;simp only[h]
      case recover=>
        refine go {frame:=fr,callers:=(match fr.mode,tryRecover fr cs with | .returning,some (_,callers)=>callers | _,_=>cs),status:=.running,dying:=dy} λw₁ w₂ h=>?_
        unfold callDeferred;refine(if_neg hn).trans ?_;simp only[h];split<;>simp_all
      case coroswitch c x=>
        cases x with
        | true=>exact G6.case j i (G6.after (seen P fr.fn k) (Zd.loc (F:=λw=>GStep.coroswitch {frame:=fr,callers:=cs,status:=.running,dying:=dy} c true w) (λ_=>⟨rfl,λ_=>rfl⟩) e)) (λ_=>trivial) λw₁ w₂ h=>by unfold callDeferred;refine(if_neg hn).trans ?_;simp only[h,Result.put]
        | false=>exact G6.case j i (G6.after (seen P fr.fn k) ((A7 (.unsupported (.noEntry "a deferred call of iter.newcoro or iter.coroswitch") (fr.pos P)) #[]).loc e)) (λ_=>trivial) λw₁ w₂ h=>by unfold callDeferred;refine(if_neg hn).trans ?_;simp only[h,Result.put]
    | halt h e=>
      cases h
      case panic v=>exact G6.case j i (G6.after (seen P fr.fn k) ((D8 {frame:=fr.raise [{v,recovered:=false}],callers:=cs,status:=.running,dying:=dy} #[]).loc e)) (λ_ x=>x) λw₁ w₂ h=>by unfold callDeferred;refine(if_neg hn).trans ?_;simp only[h,Result.put]
      case exit c=>exact G6.case j i (G6.after (seen P fr.fn k) ((A7 (.exit c) #[]).loc e)) (λ_ x=>x) λw₁ w₂ h=>by unfold callDeferred;refine(if_neg hn).trans ?_;simp only[h,Result.put]
      case fatal m=>exact G6.case j i (G6.after (seen P fr.fn k) (UG (P:=P) fr cs dy m e)) (λ_ x=>x) λw₁ w₂ h=>by unfold callDeferred;refine(if_neg hn).trans ?_;simp only[h,Result.put]
      case throw m=>exact G6.case j i (G6.after (seen P fr.fn k) (Zd.loc (F:=λw=>endThrow fr m w) (λ_=>⟨rfl,λ_=>rfl⟩) e)) (λ_ x=>x) λw₁ w₂ h=>by unfold callDeferred;refine(if_neg hn).trans ?_;simp only[h,Result.put]
      case unsupported u=>exact G6.case j i (G6.after (seen P fr.fn k) ((A7 (.unsupported u (fr.pos P)) #[]).loc e)) (λc=>by rw[Hu] at c;exact c.elim) λw₁ w₂ h=>by unfold callDeferred;refine(if_neg hn).trans ?_;simp only[h,Result.put]
      case stuck m=>exact G6.case j i (G6.after (seen P fr.fn k) ((A7 (.stuck m (fr.pos P)) #[]).loc e)) (λc=>by rw[Hu] at c;exact c.elim) λw₁ w₂ h=>by unfold callDeferred;refine(if_neg hn).trans ?_;simp only[h,Result.put]
      case goexit=>exact G6.case j i (G6.after (seen P fr.fn k) ((D8 {frame:=fr.raise [goexitEntry],callers:=cs,status:=.running,dying:=dy} #[]).loc e)) (λ_ x=>x) λw₁ w₂ h=>by unfold callDeferred;refine(if_neg hn).trans ?_;simp only[h,Result.put]
      case blocked=>exact G6.case j i (G6.after (seen P fr.fn #[]) ((D8 {frame:={fr with defers:=d::fr.defers},callers:=cs,status:=.blocked,dying:=dy} #[]).loc e)) (λc=>by rw[Hu] at c;cases c) λw₁ w₂ h=>by unfold callDeferred;refine(if_neg hn).trans ?_;simp only[h,Result.put]
      case waiting=>exact G6.case j i (G6.after (seen P fr.fn #[]) ((D8 {frame:={fr with defers:=d::fr.defers},callers:=cs,status:=.waiting,dying:=dy} #[]).loc e)) (λc=>by rw[Hu] at c;cases c) λw₁ w₂ h=>by unfold callDeferred;refine(if_neg hn).trans ?_;simp only[h,Result.put]
theorem xT (g:OkP P)(main:Bool)(fr:Frame)(cs:List Frame)(d:Option Dying)(w:World):G6 (λw=>unwind P main fr cs d w) w:=by
  unfold unwind;split
  · rename_i block _ i _
    refine(Ly (P:=P) (x:=Instr.takeDeferred block) AU (λr es=>GStep.after (seen P fr.fn es) (match r with
      | .ok calls w=>GStep.go {frame:={fr with defers:=calls++i},callers:=cs,status:=.running,dying:=d} w
      | .halt _ w=>.ended (.stuck "the deferred calls of a range-over-func loop have been taken" (fr.pos P)) w)) (λa es=>Hw _ (D8 _ _)) (λh es=>Hw _ (A7 _ _)) (λh w es _ c=>by rw[Hu] at c;exact c) w).congr λw=>rfl
  · exact ox g _ _ _ _ w
  · split
    · exact(A7 _ _).loc w
    · rename_i chain _
      split
      · exact(A7 _ _).loc w
      · split
        · exact(D8 _ _).loc w
        · split
          · split
            · exact(D8 _ _).loc w
            · have e:G6 (λw=>(λr:Result (List (Value × String))=>match r with | .ok todo w=>GStep.go {frame:=fr,callers:=[],status:=.running,dying:=some {todo:=todo,texts:=[],calling:=false,pending:= "",runtimeError:=isRuntimeError P (chain.head?.map (·.v))} } w | .halt (.unsupported u) w=>.ended (.unsupported u "") w | .halt _ w=>.ended (.stuck "the report of a panic" "") w) ((reportChain chain false).run P w)) w:=by
                refine G6.bindR (P:=P) (x:=reportChain chain false) (λr:Result (List (Value × String))=>match r with | .ok todo w=>GStep.go {frame:=fr,callers:=[],status:=.running,dying:=some {todo:=todo,texts:=[],calling:=false,pending:= "",runtimeError:=isRuntimeError P (chain.head?.map (·.v))} } w | .halt (.unsupported u) w=>.ended (.unsupported u "") w | .halt _ w=>.ended (.stuck "the report of a panic" "") w) (Calm.loc (Yd _ _) w #[]) ?_ ?_
                · generalize Sem.run P _ w=r
                  cases r with
                  | ok a b=>exact(D8 _ _).loc _
                  | halt h b=>cases h<;>exact(A7 _ _).loc _
                · generalize Sem.run P _ w=r
                  cases r with
                  | ok a b=>exact λ_=>trivial
                  | halt h b=>cases h<;>exact λx=>x.elim
              exact e.congr λw=>rfl
          · split
            · exact(Wp fr _).loc w
            · exact(A7 _ _).loc w
    · split
      · exact(Vt _ _ _ _ _).loc w
      · rename_i f _
        refine(Ly (P:=P) (x:=results f fr.tmps) (UT _ _) (λr es=>GStep.after (seen P fr.fn es) (match r with
          | .ok v w=>doReturn P main fr cs d v w
          | .halt (.stuck s) w=>.ended (.stuck s (fr.pos P)) w
          | .halt _ w=>.ended (.stuck "return: the result variables cannot be read" (fr.pos P)) w)) (λa es=>Hw _ (Vt _ _ _ _ _)) (λh es=>?_) (λh w es _ c=>?_) w).congr λw=>rfl
        · cases h<;>exact Hw _ (A7 _ _)
        · rw[Hu] at c;cases h<;>exact c
end
section
variable {P : Program}{w : World}
theorem G6.caseOld {α:Type}{F:World->GStep}{x:Sem α}{es ev:Array Event}(hx:GN P x w es){r:Result α}(hr:x.runT P w es=(r,ev)){G:World->GStep}(k:Zd G)(o:∀w,¬(G w).cont)
  (hF:∀d t,x.runT P d es=(r.put t,ev)->F d=G d):G6 F w:=by
 obtain⟨p,i,K,l,u,j⟩:=hx;rw[hr] at p i l u j;have q:r.put r.w=r:=by cases r<;>rfl
 have b:=hF w r.w (by rw[q];exact hr);have g:=(k w).1;refine⟨by rw[b,g],by rw[b,g];exact CG _,K,by rw[b,g];exact CM i l,λc=>by rw[b] at c;exact(o w c).elim,fun f s e y n=>?_⟩;have m:=j f s e y n;have v:r.turn (rt f s e)=r.put (rt f s e r.w):=by cases r<;>rfl
 rw[v] at m;rw[hF _ _ m,b];exact(k w).2 _
theorem vL (b:Nat)(text:ByteArray)(o:Outcome)(w:World):G6 (λw=>endWith w b text o) w:=by
 obtain⟨t,i,m,p⟩:=ZR (.write b text) w;have q:∀w,∃f,endWith w b text o=.ended f (w.sys (.write b text)).2:=by
  intro w;unfold endWith;generalize w.sys (.write b text)=x;obtain⟨r,l⟩:=x;cases r<;>dsimp only<;>first
   | exact⟨_,rfl⟩
   | (split<;>exact⟨_,rfl⟩)
 obtain⟨f,c⟩:=q w;have k:(w.sys (.write b text)).2.drawn<=(w.ask (Kernel.perform (.write b text) w.os)).2.drawn:=by
  by_cases d:(w.sys (.write b text)).1=.wouldBlock
  ·exact p d
  ·exact Nat.le_of_eq (m d)
 refine⟨by rw[c];exact t,by rw[c];exact i,(w.ask (Kernel.perform (.write b text) w.os)).2.drawn,by rw[c];exact k,by rw[c];exact λx=>x.elim,fun u s e n g=>?_⟩;have j:=QN (.write b text) w n g;unfold endWith;rw[j];generalize w.sys (.write b text)=x;obtain⟨r,l⟩:=x;cases r<;>dsimp only<;>first
  | rfl
  | (split<;>rfl)
theorem UL (fr:Frame)(d:Dying)(f:Fatal)(piece:ByteArray)(rest:List ByteArray)(b:f.pieces=piece::rest):∃X:Sem Unit,C3 P (λ_=>True) 0 X/\
  ∀w,writeOn P fr d f w=match X.runT P w #[] with
   | (.ok _ w,es)=>GStep.go {frame:=fr,callers:=[],status:=.running,dying:=some {d with fatal:=some {f with pieces:=rest,begun:=true} } } w es
   | (.halt .blocked w,_)=>GStep.go {frame:=fr,callers:=[],status:=.blocked,dying:=some {d with fatal:=some f} } w #[]
   | (.halt (.unsupported u) w,_)=>.ended (.unsupported u "") w
   | (.halt _ w,_)=>.ended (.stuck "the report of a fatal error" "") w:=by
 unfold writeOn;simp only[b];refine⟨_,?_,λw=>rfl⟩;repeat' first
  | exact Ib trivial
  | refine VD ?_
  | refine Wt ?_
  | refine YI (λ_=>?_)
  | with_reducible refine O9 ?_
  | refine Wg ?_
  | exact .inl rfl
  | exact .inr trivial
  | refine Em Kw (λ_=>?_)
  | (refine⟨trivial,λr=>?_⟩;cases r)
  | split
 all_goals
  show C3 P (λ_=>True) 0 (if _ then unsupported _ else pure ())
  split
  ·exact .inl rfl
  ·exact Ib trivial
theorem vK (fr:Frame)(d:Dying)(f:Fatal)(w:World):G6 (λw=>writeOn P fr d f w) w:=by
 cases k:f.pieces with
 | nil=>
  refine G6.congr ((A7 (.fatal f.text) #[]).loc w) λw=>?_
  unfold writeOn;simp only[k]
 | cons piece rest=>
  obtain⟨X,m,hF⟩:=UL (P:=P) fr d f piece rest k;have g:=Pi X 0 m w #[];generalize e:X.runT P w #[]=r;obtain⟨r,l⟩:=r;cases r with
  | ok a b=>exact G6.case g e ((D8 {frame:=fr,callers:=[],status:=.running,dying:=some {d with fatal:=some {f with pieces:=rest,begun:=true} } } l).loc b) (λ_=>trivial) λj i h=>by rw[hF,h];rfl
  | halt h b=>
   cases h<;>first
    | exact G6.case g e ((D8 {frame:=fr,callers:=[],status:=.blocked,dying:=some {d with fatal:=some f} } #[]).loc b) (λc=>by cases c) λj i h=>by rw[hF,h];rfl
    | (rename_i u;exact G6.case g e ((A7 (.unsupported u "") #[]).loc b) (λc=>c.elim) λj i h=>by rw[hF,h];rfl)
    | exact G6.case g e ((A7 (.stuck "the report of a fatal error" "") #[]).loc b) (λc=>c.elim) λj i h=>by rw[hF,h];rfl
theorem zu0 {p:Prop}(h:p:=by
 exact G6.case hx hr (G6.after _ ((D8 _ #[]).loc w')) (λ_=>trivial) λw₁ w₂ h=>by simp only[h,Result.put];rfl):p:=h
theorem k7 (i:OkP P)(fr:Frame)(d:Dying)(w:World):G6 (λw=>die P fr d w) w:=by
 unfold die;split
 ·exact vK fr d _ w
 ·split
  ·by_cases b:printLockHeld P w=true
   ·exact G6.like (G:=λw=>GStep.go {frame:=fr,callers:=[],status:=.blocked,dying:=some d} w #[]) ((D8 _ _).loc w) (if_pos b) fun g s e=>if_pos (show printLockHeld P (rt g s e w)=true from b)
   ·exact G6.like (vL _ _ _ w) (if_neg b) fun g s e=>if_neg (show ¬printLockHeld P (rt g s e w)=true from b)
  ·rename_i v mark rest _
   dsimp only;split
   ·exact(D8 _ _).loc w
   ·rename_i s _
    have hx:=Calm.loc (Yc (P:=P) s) w #[];have e:∀w,(withAddress s).run P w=((withAddress s).runT P w #[]).1:=λw=>by rw[Sem.runT_eq]
    simp only[e];generalize hr:(withAddress s).runT P w #[]=r;obtain⟨r,j⟩:=r;cases r with
    | ok a w'=>exact G6.case hx hr ((D8 _ #[]).loc w') (λ_=>trivial) λw₁ w₂ h=>by simp only[h,Result.put];rfl
    | halt h w'=>exact G6.case hx hr ((A7 _ #[]).loc w') (λc=>c.elim) λw₁ w₂ h=>by simp only[h,Result.put];rfl
   ·rename_i t recv name _
    have hx:=Pi _ 0 (Ns i (.fn (.method name) #[]) #[.iface t recv]) w #[];generalize hr:(invoke (.fn (.method name) #[]) #[.iface t recv]).runT P w #[]=r;obtain⟨r,j⟩:=r;cases r with
    | ok a w'=>
     cases a
     case enter f args=>exact zu0
     case value x=>
      cases x
      case string s=>exact zu0
      all_goals exact G6.caseOld hx hr (Hw _ (A7 _ #[])) (λw c=>by rw[Hu] at c;exact c) λw₁ w₂ h=>by simp only[h,Result.put];rfl
     all_goals exact G6.caseOld hx hr (Hw _ (A7 _ #[])) (λw c=>by rw[Hu] at c;exact c) λw₁ w₂ h=>by simp only[h,Result.put];rfl
    | halt h w'=>
     cases h
     case panic v=>exact G6.case hx hr (G6.after _ ((Wp fr v).loc w')) (λ_ x=>x) λw₁ w₂ h=>by simp only[h,Result.put];rfl
     case unsupported u=>exact G6.case hx hr (G6.after _ ((A7 _ #[]).loc w')) (λc=>by rw[Hu] at c;exact c.elim) λw₁ w₂ h=>by simp only[h,Result.put];rfl
     all_goals exact G6.caseOld hx hr (Hw _ (A7 _ #[])) (λw c=>by rw[Hu] at c;exact c) λw₁ w₂ h=>by simp only[h,Result.put];rfl
   ·exact(A7 _ _).loc w
theorem Azd (b:OkP P)(main:Bool)(g:Goroutine)(hg:DI g.frame)(w:World):G6 (λw=>stepG P main g w) w:=by
 unfold stepG;obtain⟨e,f,d,c,off⟩:=g;dsimp only;split
 ·exact k7 b _ _ w
 ·exact gP b main _ hg _ _ w
 ·exact xT b main _ _ _ w
end
section
variable {a:Addr}{h:Halt}{α:Type}
variable {P : Program}{w : World}
def GR {α:Type}:Result α->Prop
  | .ok _ _=>True
  | .halt .blocked _ | .halt .waiting _ | .halt (.unsupported _) _ | .halt (.stuck _) _=>False
  | _=>True
def Zf (es:Array Event):Prop:=∀e∈es,∀m,e.loc=.mark m->e.sync=true
theorem Po {es:Array Event}{e:Event}(h:Zf es)(he:∀m,e.loc=.mark m->e.sync=true):Zf (es.push e):=by
  intro x b;rcases Array.mem_push.1 b with b | rfl
  · exact h x b
  · exact he
theorem deaf_push (d:Nat)(es:Array Event)(e:Event):deafBehind d (es.push e)=match e.loc with | .mark .disable=>deafBehind d es+1 | .mark .enable=>deafBehind d es - 1 | _=>deafBehind d es:=by
  unfold deafBehind;rw[Array.foldl_push];rfl
theorem TS (d:Nat)(es:Array Event)(a:Addr)(b c:Bool):deafBehind d (es.push ⟨.cell a,b,c⟩)=deafBehind d es:=by rw[deaf_push]
theorem Zx (d:Nat)(es:Array Event)(b c:Bool)(l:List Addr):deafBehind d (es++l.toArray.map (⟨.cell ·,b,c⟩))=deafBehind d es/\(Zf es->Zf (es++l.toArray.map (⟨.cell ·,b,c⟩))):=by
  refine⟨?_,λh x e=>?_⟩
  · unfold deafBehind
    rw[Array.foldl_append];simp only[ES,Cd,CW,List.foldl_toArray'];generalize Array.foldl _ d es=n;induction l generalizing n with
    | nil=>rfl
    | cons a l g=>exact g n
  · rcases Array.mem_append.1 e with e | e
    · exact h x e
    · obtain⟨a,_,rfl⟩:=Array.mem_map.1 e
      intro m f;cases f
theorem qn {b:Bool}(c:w.farLoad P a b=.error h):¬GR (.halt h w:Result Unit):=by
  unfold World.farLoad at c;have d:∀s,¬GR (.halt (w.noCell a s) w:Result Unit):=by
    intro s;unfold World.noCell;split<;>exact id
  split at c
  · split at c
    · cases c
    · cases c;exact id
  · cases c;exact d _
theorem qO {v:Value}{b:Bool}(c:w.farStore P a v b=.error h):¬GR (.halt h w:Result Unit):=by
  unfold World.farStore at c;have d:∀s,¬GR (.halt (w.noCell a s) w:Result Unit):=by
    intro s;unfold World.noCell;split<;>exact id
  split at c
  · split at c
    · cases c
    · cases c;exact id
  · cases c;exact d _
theorem V1 {w w':World}:GR (.halt h w:Result α)↔GR (.halt h w':Result Unit):=by cases h<;>exact Iff.rfl
theorem Z5 {N:α->Prop}{x:Sem α}:∀{d:Nat} (_:C3 P N d x) (w:World) (es:Array Event),deafBehind 0 es=d->Zf es->Zf (x.runT P w es).2/\(GR (x.runT P w es).1->deafBehind 0 (x.runT P w es).2=0):=by
  induction x with
  | pure a=>intro d e w es hd b;exact⟨b,λ_=>hd.trans e.1⟩
  | halt h=>
    intro d e w es hd b;refine⟨b,λg=>?_⟩;rcases e with j | j
    · exact hd.trans j
    · cases h<;>first | exact g.elim | exact j.elim
  | load m a k f=>
    intro d e w es hd b;simp only[Sem.runT];split
    · exact f _ (e _) w _ (by rw[TS];exact hd) (Po b (λm i=>by cases i))
    · split
      · rename_i v l _
        exact f _ (e _) w _ (by rw[(Zx 0 es _ _ l).1];exact hd) ((Zx 0 es _ _ l).2 b)
      · rename_i h p
        exact⟨b,λg=>absurd (V1.1 g) (qn p)⟩
  | store m a v k f=>
    intro d e w es hd b;cases v<;>simp only[Sem.runT]<;>first
      | exact⟨b,λg=>g.elim⟩
      | (split
         · split
           · exact⟨b,λg=>g.elim⟩
           · exact f e _ _ (by rw[TS];exact hd) (Po b (λm i=>by cases i))
         · split
           · rename_i s l _
             exact f e _ _ (by rw[(Zx 0 es _ _ l).1];exact hd) ((Zx 0 es _ _ l).2 b)
           · rename_i h p
             exact⟨b,λg=>absurd (V1.1 g) (qO p)⟩)
  | new o k f=>intro d e w es hd b;exact f _ (e _) _ es hd b
  | shape r k f=>intro d e w es hd b;exact f _ (e _) _ es hd b
  | freeze a n k f=>intro d e w es hd b;exact f e _ es hd b
  | frozen a k f=>intro d e w es hd b;exact f _ (e _) _ es hd b
  | getObj r k f=>
    intro d e w es hd b;simp only[Sem.runT];split
    · exact⟨b,λg=>g.elim⟩
    · exact f _ (e _) w _ (by rw[deaf_push];exact hd) (Po b (λm i=>by cases i))
    · exact⟨b,λg=>g.elim⟩
  | setObj r o k f=>
    intro d e w es hd b;simp only[Sem.runT];split
    · exact⟨b,λg=>g.elim⟩
    · exact f e _ _ (by rw[deaf_push];exact hd) (Po b (λm i=>by cases i))
    · exact⟨b,λg=>g.elim⟩
  | choose q k f=>
    intro d e w es hd b;simp only[Sem.runT];split
    · exact f _ (e _) w es hd b
    · exact f _ (e _) _ es hd b
  | sys c k f=>intro d e w es hd b;exact f _ (e.2 _) _ _ (by rw[deaf_push];exact hd) (Po b (λm i=>by cases i))
  | program k f=>intro d e w es hd b;exact f _ e w es hd b
  | mark m k f=>
    intro d e w es hd b;refine f e w _ ?_ (Po b (λ_ _=>rfl));rw[deaf_push,hd];cases m<;>rfl
theorem PI (fn:FuncId)(es:Array Event)(h:Zf es):deafBehind 0 (seen P fn es)=deafBehind 0 es:=by
  have key:∀(l:List Event) (q:Bool) (kept:Array Event),(∀e∈l,∀m,e.loc=.mark m->e.sync=true)->
      deafBehind 0 (l.foldl (λ(x:Bool × Array Event) e=>match e.loc with
        | .mark (.extern f)=>((P.funcs[f]?).any (·.norace),x.2)
        | _=>(x.1,if x.1 && !e.sync then x.2 else x.2.push e)) (q,kept)).2=l.foldl (λd e=>match e.loc with | .mark .disable=>d+1 | .mark .enable=>d - 1 | _=>d) (deafBehind 0 kept):=by
    intro l;induction l with
    | nil=>exact λq kept _=>rfl
    | cons e l c=>
      intro q kept i;simp only[List.foldl_cons];have b:=λx n=>i x (CN _ n)
      obtain⟨o,wr,g⟩:=e;cases o with
      | mark m=>
        have k:g=true:=i ⟨.mark m,wr,g⟩ ET m rfl;subst k;cases m<;>(simp only[K6,Bool.and_false,DU,DC];rw[c _ _ b];try rw[deaf_push])
      | _=>
        simp only;rw[c _ _ b];split
        · rfl
        · rw[deaf_push]
  unfold seen;dsimp only;rw[<-Array.foldl_toList];refine(key es.toList _ #[] (λe j=>h e (Array.mem_toList_iff.1 j))).trans ?_;show List.foldl _ 0 es.toList=deafBehind 0 es
  unfold deafBehind;rw[<-Array.foldl_toList];rfl
end
