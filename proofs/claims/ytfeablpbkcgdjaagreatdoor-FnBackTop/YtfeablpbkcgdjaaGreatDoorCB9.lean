import Derived.Test.YtfeablpbkcgdjaaGreatDoorCB6
namespace Go.Co
section
variable {es:Array Event}{α:Type}
variable {P : Program}{w : World}
theorem Zw {N:α->Prop}{x:Sem α}{d:Nat}(hx:CZ P N d x):∀a,(∃e,(x.runT P w es).1=.ok a e)->N a:=by
  induction x generalizing d w es with
  | pure a=>rintro b ⟨e,h⟩;cases h;exact hx.2
  | halt h=>rintro b ⟨e,h⟩;cases h
  | load m a k f=>
    rintro b ⟨e,h⟩;simp only[Sem.runT] at h;split at h
    . exact f _ (hx _) b ⟨e,h⟩
    . split at h
      . exact f _ (hx _) b ⟨e,h⟩
      . cases h
  | store m a v k f=>
    rintro b ⟨e,h⟩;cases v<;>simp only[Sem.runT] at h<;>first
      | (cases h;done)
      | (split at h
         . split at h
           . cases h
           . exact f hx b ⟨e,h⟩
         . split at h
           . exact f hx b ⟨e,h⟩
           . cases h)
  | new o k f=>rintro b ⟨e,h⟩;exact f _ (hx _) b ⟨e,h⟩
  | shape r k f=>rintro b ⟨e,h⟩;exact f _ (hx _) b ⟨e,h⟩
  | freeze a n k f=>rintro b ⟨e,h⟩;exact f hx b ⟨e,h⟩
  | frozen a k f=>rintro b ⟨e,h⟩;exact f _ (hx _) b ⟨e,h⟩
  | getObj r k f=>
    rintro b ⟨e,h⟩;simp only[Sem.runT] at h;split at h
    . cases h
    . exact f _ (hx _) b ⟨e,h⟩
    . cases h
  | setObj r o k f=>
    rintro b ⟨e,h⟩;simp only[Sem.runT] at h;split at h
    . cases h
    . exact f hx b ⟨e,h⟩
    . cases h
  | choose q k f=>
    rintro b ⟨e,h⟩;simp only[Sem.runT] at h;split at h
    . exact f _ (hx _) b ⟨e,h⟩
    . exact f _ (hx _) b ⟨e,h⟩
  | sys c k f=>rintro b ⟨e,h⟩;exact f _ (hx.2 _) b ⟨e,h⟩
  | program k f=>rintro b ⟨e,h⟩;exact f _ hx b ⟨e,h⟩
  | mark m k f=>rintro b ⟨e,h⟩;exact f hx b ⟨e,h⟩
theorem Gg.case {F:World->GStep}{x:Sem α}{ev:Array Event}(hx:GX P x w es){r:Result α}(hr:x.runT P w es=(r,ev)){G:World->GStep}(A:Gg G r.w)(v:(G r.w).cont->r.cont)
    (hF:∀k n,x.runT P k es=(r.put n,ev)->F k=G n):Gg F w:=by
  obtain⟨h1,f,K,o,g,l⟩:=hx;obtain⟨q,j,L,y,t,u⟩:=A;rw[hr] at h1 f o g l;have z:r.put r.w=r:=by cases r<;>rfl
  have b:=hF w r.w (by rw[z];exact hr);refine⟨by rw[b];exact q.trans h1,by rw[b];exact CB f j,max K L,by rw[b];exact CB y (LJ _ _),λc=>?_,fun d s e i hA=>?_⟩
  . rw[b] at c ⊢
    rw[g (v c),t c];exact Nat.max_eq_right j
  . have m:=l d s e i (hA.mono (J2 _ _))
    have B:r.turn (rt d s e)=r.put (rt d s e r.w):=by cases r<;>rfl
    rw[B] at m;rw[hF _ _ m,b];exact u d s e (CB i f) yEe
theorem ZG {d:Deferred}{fr:Frame}(h:((d.target matches .nil) && (fr.mode matches .panicking _))=true):d.target=.nil/\∃c,fr.mode=.panicking c:=by
  cases b:d.target<;>cases e:fr.mode<;>simp[b,e] at h ⊢
theorem zt {p:Prop}(h:p:=by
 exact go {frame:=fr,callers:=cs,status:=.running,dying:=dy} λw₁ w₂ h=>by unfold callDeferred;refine(if_neg hn).trans ?_;simp only[h]):p:=h
theorem f9 (s:OkP P)(fr:Frame)(cs:List Frame)(dy:Option Dying)(d:Deferred)(w:World):Gg (λw=>callDeferred P fr cs dy d w) w:=by
  by_cases o:d.target=.nil/\∃c,fr.mode=.panicking c
  . obtain⟨A,c,t⟩:=o
    refine Gg.congr ((Ar (.unsupported (.noEntry "machine/Return: a deferred call of a nil function value, made while the frame is unwinding") (fr.pos P)) #[]).loc w) λw=>?_
    unfold callDeferred;simp[A,t]
  . have hn:=λh=>o (ZG h)
    have n:=J8 s d.target d.args;have j:=Nb _ 0 n w #[];have q:=Zw (w:=w) (es:=#[]) n;generalize i:(invoke d.target d.args).runT P w #[]=r at q;obtain⟨r,k⟩:=r;cases r with
    | ok a e=>
      have go:∀(g:Goroutine),(∀w₁ w₂,(invoke d.target d.args).runT P w₁ #[]=(.ok a w₂,k)->callDeferred P fr cs dy d w₁=GStep.after (seen P fr.fn k) (.go g w₂))->Gg (λw=>callDeferred P fr cs dy d w) w:=
        λg h=>Gg.case j i (Gg.after _ ((Du g #[]).loc e)) (λ_=>trivial) h
      cases a<;>first | exact(q _ ⟨_,rfl⟩).elim | skip
      case value v=>exact zt
      case skip=>exact zt
      case enter f args=>exact go {frame:=Frame.enter P f args .deferred,callers:=fr::cs,status:=.running,dying:=dy} λw₁ w₂ h=>by unfold callDeferred;refine(if_neg hn).trans ?_;simp only[h]
      case round l f y assign body=>exact go {frame:=Frame.round l f y assign body .deferred,callers:=fr::cs,status:=.running,dying:=dy} λw₁ w₂ h=>by unfold callDeferred;refine(if_neg hn).trans ?_;simp only[h]
      case defer z=>exact zt
      case spawn z=>exact zt
      case comm c b B=>exact zt
      case row row args=>exact go {frame:=Frame.ofRow P row args .deferred,callers:=fr::cs,status:=.running,dying:=dy} λw₁ w₂ h=>by unfold callDeferred;refine(if_neg hn).trans ?_;simp only[h]
      case recover=>
        refine go {frame:=fr,callers:=(match fr.mode,tryRecover fr cs with | .returning,some (_,callers)=>callers | _,_=>cs),status:=.running,dying:=dy} λw₁ w₂ h=>?_
        unfold callDeferred;refine(if_neg hn).trans ?_;simp only[h];split<;>simp_all
      case coroswitch c x=>
        cases x with
        | true=>exact Gg.case j i (Gg.after (seen P fr.fn k) (Xm.loc (F:=λw=>GStep.coroswitch {frame:=fr,callers:=cs,status:=.running,dying:=dy} c true w) (λ_=>⟨rfl,λ_=>rfl⟩) e)) (λ_=>trivial) λw₁ w₂ h=>by unfold callDeferred;refine(if_neg hn).trans ?_;simp only[h,Result.put]
        | false=>exact Gg.case j i (Gg.after (seen P fr.fn k) ((Ar (.unsupported (.noEntry "a deferred call of iter.newcoro or iter.coroswitch") (fr.pos P)) #[]).loc e)) (λ_=>trivial) λw₁ w₂ h=>by unfold callDeferred;refine(if_neg hn).trans ?_;simp only[h,Result.put]
    | halt h e=>
      cases h
      case panic v=>exact Gg.case j i (Gg.after (seen P fr.fn k) ((Du {frame:=fr.raise [{v,recovered:=false}],callers:=cs,status:=.running,dying:=dy} #[]).loc e)) (λ_ x=>x) λw₁ w₂ h=>by unfold callDeferred;refine(if_neg hn).trans ?_;simp only[h,Result.put]
      case exit c=>exact Gg.case j i (Gg.after (seen P fr.fn k) ((Ar (.exit c) #[]).loc e)) (λ_ x=>x) λw₁ w₂ h=>by unfold callDeferred;refine(if_neg hn).trans ?_;simp only[h,Result.put]
      case fatal m=>exact Gg.case j i (Gg.after (seen P fr.fn k) (RS (P:=P) fr cs dy m e)) (λ_ x=>x) λw₁ w₂ h=>by unfold callDeferred;refine(if_neg hn).trans ?_;simp only[h,Result.put]
      case throw m=>exact Gg.case j i (Gg.after (seen P fr.fn k) (Xm.loc (F:=λw=>endThrow fr m w) (λ_=>⟨rfl,λ_=>rfl⟩) e)) (λ_ x=>x) λw₁ w₂ h=>by unfold callDeferred;refine(if_neg hn).trans ?_;simp only[h,Result.put]
      case unsupported u=>exact Gg.case j i (Gg.after (seen P fr.fn k) ((Ar (.unsupported u (fr.pos P)) #[]).loc e)) (λc=>by rw[Gs] at c;exact c.elim) λw₁ w₂ h=>by unfold callDeferred;refine(if_neg hn).trans ?_;simp only[h,Result.put]
      case stuck m=>exact Gg.case j i (Gg.after (seen P fr.fn k) ((Ar (.stuck m (fr.pos P)) #[]).loc e)) (λc=>by rw[Gs] at c;exact c.elim) λw₁ w₂ h=>by unfold callDeferred;refine(if_neg hn).trans ?_;simp only[h,Result.put]
      case goexit=>exact Gg.case j i (Gg.after (seen P fr.fn k) ((Du {frame:=fr.raise [goexitEntry],callers:=cs,status:=.running,dying:=dy} #[]).loc e)) (λ_ x=>x) λw₁ w₂ h=>by unfold callDeferred;refine(if_neg hn).trans ?_;simp only[h,Result.put]
      case blocked=>exact Gg.case j i (Gg.after (seen P fr.fn #[]) ((Du {frame:={fr with defers:=d::fr.defers},callers:=cs,status:=.blocked,dying:=dy} #[]).loc e)) (λc=>by rw[Gs] at c;cases c) λw₁ w₂ h=>by unfold callDeferred;refine(if_neg hn).trans ?_;simp only[h,Result.put]
      case waiting=>exact Gg.case j i (Gg.after (seen P fr.fn #[]) ((Du {frame:={fr with defers:=d::fr.defers},callers:=cs,status:=.waiting,dying:=dy} #[]).loc e)) (λc=>by rw[Gs] at c;cases c) λw₁ w₂ h=>by unfold callDeferred;refine(if_neg hn).trans ?_;simp only[h,Result.put]
theorem rN (f:OkP P)(main:Bool)(fr:Frame)(cs:List Frame)(b:Option Dying)(w:World):Gg (λw=>unwind P main fr cs b w) w:=by
  unfold unwind;split
  . rename_i block _ i _
    refine(LV (P:=P) (x:=Instr.takeDeferred block) AW (λr es=>GStep.after (seen P fr.fn es) (match r with
      | .ok calls w=>GStep.go {frame:={fr with defers:=calls++i},callers:=cs,status:=.running,dying:=b} w
      | .halt _ w=>.ended (.stuck "the deferred calls of a range-over-func loop have been taken" (fr.pos P)) w)) (λa es=>Gt _ (Du _ _)) (λh es=>Gt _ (Ar _ _)) (λh w es _ c=>by rw[Gs] at c;exact c) w).congr λw=>rfl
  . exact f9 f _ _ _ _ w
  . split
    . exact(Ar _ _).loc w
    . rename_i chain _
      split
      . exact(Ar _ _).loc w
      . split
        . exact(Du _ _).loc w
        . split
          . split
            . exact(Du _ _).loc w
            . have e:Gg (λw=>(λr:Result (List (Value × String))=>match r with | .ok todo w=>GStep.go {frame:=fr,callers:=[],status:=.running,dying:=some {todo:=todo,texts:=[],calling:=false,pending:= "",runtimeError:=isRuntimeError P (chain.head?.map (·.v))} } w | .halt (.unsupported u) w=>.ended (.unsupported u "") w | .halt _ w=>.ended (.stuck "the report of a panic" "") w) ((reportChain chain false).run P w)) w:=by
                refine Gg.bindR (P:=P) (x:=reportChain chain false) (λr:Result (List (Value × String))=>match r with | .ok todo w=>GStep.go {frame:=fr,callers:=[],status:=.running,dying:=some {todo:=todo,texts:=[],calling:=false,pending:= "",runtimeError:=isRuntimeError P (chain.head?.map (·.v))} } w | .halt (.unsupported u) w=>.ended (.unsupported u "") w | .halt _ w=>.ended (.stuck "the report of a panic" "") w) (Calm.loc (V7 _ _) w #[]) ?_ ?_
                . generalize Sem.run P _ w=r
                  cases r with
                  | ok a d=>exact(Du _ _).loc _
                  | halt h d=>cases h<;>exact(Ar _ _).loc _
                . generalize Sem.run P _ w=r
                  cases r with
                  | ok a d=>exact λ_=>trivial
                  | halt h d=>cases h<;>exact λx=>x.elim
              exact e.congr λw=>rfl
          . split
            . exact(Un fr _).loc w
            . exact(Ar _ _).loc w
    . split
      . exact(Tn _ _ _ _ _).loc w
      . rename_i g _
        refine(LV (P:=P) (x:=results g fr.tmps) (R9 _ _) (λr es=>GStep.after (seen P fr.fn es) (match r with
          | .ok v w=>doReturn P main fr cs b v w
          | .halt (.stuck s) w=>.ended (.stuck s (fr.pos P)) w
          | .halt _ w=>.ended (.stuck "return: the result variables cannot be read" (fr.pos P)) w)) (λa es=>Gt _ (Tn _ _ _ _ _)) (λh es=>?_) (λh w es _ c=>?_) w).congr λw=>rfl
        . cases h<;>exact Gt _ (Ar _ _)
        . rw[Gs] at c;cases h<;>exact c
end
section
variable {P : Program}{w : World}
theorem Gg.caseOld {α:Type}{F:World->GStep}{x:Sem α}{es ev:Array Event}(hx:GX P x w es){r:Result α}(hr:x.runT P w es=(r,ev)){G:World->GStep}(m:Xm G)(n:∀w,¬(G w).cont)
  (hF:∀d y,x.runT P d es=(r.put y,ev)->F d=G d):Gg F w:=by
 obtain⟨u,k,K,i,o,l⟩:=hx;rw[hr] at u k i o l;have t:r.put r.w=r:=by cases r<;>rfl
 have b:=hF w r.w (by rw[t];exact hr);have g:=(m w).1;refine⟨by rw[b,g],by rw[b,g];exact B7 _,K,by rw[b,g];exact CB k i,λc=>by rw[b] at c;exact(n w c).elim,fun f s e p q=>?_⟩;have j:=l f s e p q;have v:r.turn (rt f s e)=r.put (rt f s e r.w):=by cases r<;>rfl
 rw[v] at j;rw[hF _ _ j,b];exact(m w).2 _
theorem m7 (b:Nat)(text:ByteArray)(o:Outcome)(w:World):Gg (λw=>endWith w b text o) w:=by
 obtain⟨l,q,g,n⟩:=WV (.write b text) w;have t:∀w,∃f,endWith w b text o=.ended f (w.sys (.write b text)).2:=by
  intro w;unfold endWith;generalize w.sys (.write b text)=x;obtain⟨r,j⟩:=x;cases r<;>dsimp only<;>first
   | exact⟨_,rfl⟩
   | (split<;>exact⟨_,rfl⟩)
 obtain⟨f,c⟩:=t w;have m:(w.sys (.write b text)).2.drawn<=(w.ask (Kernel.perform (.write b text) w.os)).2.drawn:=by
  by_cases d:(w.sys (.write b text)).1=.wouldBlock
  .exact n d
  .exact Nat.le_of_eq (g d)
 refine⟨by rw[c];exact l,by rw[c];exact q,(w.ask (Kernel.perform (.write b text) w.os)).2.drawn,by rw[c];exact m,by rw[c];exact λx=>x.elim,fun u s e i k=>?_⟩;have p:=OX (.write b text) w i k;unfold endWith;rw[p];generalize w.sys (.write b text)=x;obtain⟨r,j⟩:=x;cases r<;>dsimp only<;>first
  | rfl
  | (split<;>rfl)
theorem Rm (fr:Frame)(d:Dying)(f:Fatal)(piece:ByteArray)(rest:List ByteArray)(b:f.pieces=piece::rest):∃X:Sem Unit,CZ P (λ_=>True) 0 X/\
  ∀w,writeOn P fr d f w=match X.runT P w #[] with
   | (.ok _ w,es)=>GStep.go {frame:=fr,callers:=[],status:=.running,dying:=some {d with fatal:=some {f with pieces:=rest,begun:=true} } } w es
   | (.halt .blocked w,_)=>GStep.go {frame:=fr,callers:=[],status:=.blocked,dying:=some {d with fatal:=some f} } w #[]
   | (.halt (.unsupported u) w,_)=>.ended (.unsupported u "") w
   | (.halt _ w,_)=>.ended (.stuck "the report of a fatal error" "") w:=by
 unfold writeOn;simp only[b];refine⟨_,?_,λw=>rfl⟩;repeat' first
  | exact G5 trivial
  | refine SJ ?_
  | refine UD ?_
  | refine VD (λ_=>?_)
  | with_reducible refine Md ?_
  | refine UB ?_
  | exact .inl rfl
  | exact .inr trivial
  | refine D9 Je (λ_=>?_)
  | (refine⟨trivial,λr=>?_⟩;cases r)
  | split
 all_goals
  show CZ P (λ_=>True) 0 (if _ then unsupported _ else pure ())
  split
  .exact .inl rfl
  .exact G5 trivial
theorem m6 (fr:Frame)(d:Dying)(f:Fatal)(w:World):Gg (λw=>writeOn P fr d f w) w:=by
 cases k:f.pieces with
 | nil=>
  refine Gg.congr ((Ar (.fatal f.text) #[]).loc w) λw=>?_
  unfold writeOn;simp only[k]
 | cons piece rest=>
  obtain⟨X,m,hF⟩:=Rm (P:=P) fr d f piece rest k;have g:=Nb X 0 m w #[];generalize e:X.runT P w #[]=r;obtain⟨r,l⟩:=r;cases r with
  | ok a b=>exact Gg.case g e ((Du {frame:=fr,callers:=[],status:=.running,dying:=some {d with fatal:=some {f with pieces:=rest,begun:=true} } } l).loc b) (λ_=>trivial) λj i h=>by rw[hF,h];rfl
  | halt h b=>
   cases h<;>first
    | exact Gg.case g e ((Du {frame:=fr,callers:=[],status:=.blocked,dying:=some {d with fatal:=some f} } #[]).loc b) (λc=>by cases c) λj i h=>by rw[hF,h];rfl
    | (rename_i u;exact Gg.case g e ((Ar (.unsupported u "") #[]).loc b) (λc=>c.elim) λj i h=>by rw[hF,h];rfl)
    | exact Gg.case g e ((Ar (.stuck "the report of a fatal error" "") #[]).loc b) (λc=>c.elim) λj i h=>by rw[hF,h];rfl
theorem zh0 {p:Prop}(h:p:=by
 exact Gg.case hx hr (Gg.after _ ((Du _ #[]).loc w')) (λ_=>trivial) λw₁ w₂ h=>by simp only[h,Result.put];rfl):p:=h
theorem cU (i:OkP P)(fr:Frame)(d:Dying)(w:World):Gg (λw=>die P fr d w) w:=by
 unfold die;split
 .exact m6 fr d _ w
 .split
  .by_cases b:printLockHeld P w=true
   .exact Gg.like (G:=λw=>GStep.go {frame:=fr,callers:=[],status:=.blocked,dying:=some d} w #[]) ((Du _ _).loc w) (if_pos b) fun g s e=>if_pos (show printLockHeld P (rt g s e w)=true from b)
   .exact Gg.like (m7 _ _ _ w) (if_neg b) fun g s e=>if_neg (show ¬printLockHeld P (rt g s e w)=true from b)
  .rename_i v mark rest _
   dsimp only;split
   .exact(Du _ _).loc w
   .rename_i s _
    have hx:=Calm.loc (V6 (P:=P) s) w #[];have e:∀w,(withAddress s).run P w=((withAddress s).runT P w #[]).1:=λw=>by rw[Sem.runT_eq]
    simp only[e];generalize hr:(withAddress s).runT P w #[]=r;obtain⟨r,j⟩:=r;cases r with
    | ok a w'=>exact Gg.case hx hr ((Du _ #[]).loc w') (λ_=>trivial) λw₁ w₂ h=>by simp only[h,Result.put];rfl
    | halt h w'=>exact Gg.case hx hr ((Ar _ #[]).loc w') (λc=>c.elim) λw₁ w₂ h=>by simp only[h,Result.put];rfl
   .rename_i t recv name _
    have hx:=Nb _ 0 (J8 i (.fn (.method name) #[]) #[.iface t recv]) w #[];generalize hr:(invoke (.fn (.method name) #[]) #[.iface t recv]).runT P w #[]=r;obtain⟨r,j⟩:=r;cases r with
    | ok a w'=>
     cases a
     case enter f args=>exact zh0
     case value x=>
      cases x
      case string s=>exact zh0
      all_goals exact Gg.caseOld hx hr (Gt _ (Ar _ #[])) (λw c=>by rw[Gs] at c;exact c) λw₁ w₂ h=>by simp only[h,Result.put];rfl
     all_goals exact Gg.caseOld hx hr (Gt _ (Ar _ #[])) (λw c=>by rw[Gs] at c;exact c) λw₁ w₂ h=>by simp only[h,Result.put];rfl
    | halt h w'=>
     cases h
     case panic v=>exact Gg.case hx hr (Gg.after _ ((Un fr v).loc w')) (λ_ x=>x) λw₁ w₂ h=>by simp only[h,Result.put];rfl
     case unsupported u=>exact Gg.case hx hr (Gg.after _ ((Ar _ #[]).loc w')) (λc=>by rw[Gs] at c;exact c.elim) λw₁ w₂ h=>by simp only[h,Result.put];rfl
     all_goals exact Gg.caseOld hx hr (Gt _ (Ar _ #[])) (λw c=>by rw[Gs] at c;exact c) λw₁ w₂ h=>by simp only[h,Result.put];rfl
   .exact(Ar _ _).loc w
theorem vY (b:OkP P)(main:Bool)(g:Goroutine)(hg:Ze g.frame)(w:World):Gg (λw=>stepG P main g w) w:=by
 unfold stepG;obtain⟨f,d,c,e,off⟩:=g;dsimp only;split
 .exact cU b _ _ w
 .exact YH b main _ hg _ _ w
 .exact rN b main _ _ _ w
end
section
variable {a:Addr}{h:Halt}{α:Type}
variable {P : Program}{w : World}
def Ye {α:Type}:Result α->Prop
  | .ok _ _=>True
  | .halt .blocked _ | .halt .waiting _ | .halt (.unsupported _) _ | .halt (.stuck _) _=>False
  | _=>True
def Xo (es:Array Event):Prop:=∀e∈es,∀m,e.loc=.mark m->e.sync=true
theorem Nj {es:Array Event}{e:Event}(h:Xo es)(c:∀m,e.loc=.mark m->e.sync=true):Xo (es.push e):=by
  intro x b;rcases Array.mem_push.1 b with b | rfl
  . exact h x b
  . exact c
theorem deaf_push (d:Nat)(es:Array Event)(e:Event):deafBehind d (es.push e)=match e.loc with | .mark .disable=>deafBehind d es+1 | .mark .enable=>deafBehind d es - 1 | _=>deafBehind d es:=by
  unfold deafBehind;rw[Array.foldl_push];rfl
theorem Yj (d:Nat)(es:Array Event)(a:Addr)(b c:Bool):deafBehind d (es.push ⟨.cell a,b,c⟩)=deafBehind d es:=by rw[deaf_push]
theorem X3 (d:Nat)(es:Array Event)(b c:Bool)(l:List Addr):deafBehind d (es++l.toArray.map (⟨.cell ·,b,c⟩))=deafBehind d es/\(Xo es->Xo (es++l.toArray.map (⟨.cell ·,b,c⟩))):=by
  refine⟨?_,λh x e=>?_⟩
  . unfold deafBehind
    rw[Array.foldl_append];simp only[fh,CS,CP,List.foldl_toArray'];generalize Array.foldl _ d es=n;induction l generalizing n with
    | nil=>rfl
    | cons a l g=>exact g n
  . rcases Array.mem_append.1 e with e | e
    . exact h x e
    . obtain⟨a,_,rfl⟩:=Array.mem_map.1 e
      intro m f;cases f
theorem jB {b:Bool}(c:w.farLoad P a b=.error h):¬Ye (.halt h w:Result Unit):=by
  unfold World.farLoad at c;have d:∀s,¬Ye (.halt (w.noCell a s) w:Result Unit):=by
    intro s;unfold World.noCell;split<;>exact id
  split at c
  . split at c
    . cases c
    . cases c;exact id
  . cases c;exact d _
theorem gm {v:Value}{b:Bool}(c:w.farStore P a v b=.error h):¬Ye (.halt h w:Result Unit):=by
  unfold World.farStore at c;have d:∀s,¬Ye (.halt (w.noCell a s) w:Result Unit):=by
    intro s;unfold World.noCell;split<;>exact id
  split at c
  . split at c
    . cases c
    . cases c;exact id
  . cases c;exact d _
theorem TF {w w':World}:Ye (.halt h w:Result α)↔Ye (.halt h w':Result Unit):=by cases h<;>exact Iff.rfl
theorem X6 {N:α->Prop}{x:Sem α}:∀{d:Nat} (_:CZ P N d x) (w:World) (es:Array Event),deafBehind 0 es=d->Xo es->Xo (x.runT P w es).2/\(Ye (x.runT P w es).1->deafBehind 0 (x.runT P w es).2=0):=by
  induction x with
  | pure a=>intro d e w es hd b;exact⟨b,λ_=>hd.trans e.1⟩
  | halt h=>
    intro d e w es hd b;refine⟨b,λg=>?_⟩;rcases e with p | p
    . exact hd.trans p
    . cases h<;>first | exact g.elim | exact p.elim
  | load m a k f=>
    intro d e w es hd b;simp only[Sem.runT];split
    . exact f _ (e _) w _ (by rw[Yj];exact hd) (Nj b (λm i=>by cases i))
    . split
      . rename_i v l _
        exact f _ (e _) w _ (by rw[(X3 0 es _ _ l).1];exact hd) ((X3 0 es _ _ l).2 b)
      . rename_i h j
        exact⟨b,λg=>absurd (TF.1 g) (jB j)⟩
  | store m a v k f=>
    intro d e w es hd b;cases v<;>simp only[Sem.runT]<;>first
      | exact⟨b,λg=>g.elim⟩
      | (split
         . split
           . exact⟨b,λg=>g.elim⟩
           . exact f e _ _ (by rw[Yj];exact hd) (Nj b (λm i=>by cases i))
         . split
           . rename_i s l _
             exact f e _ _ (by rw[(X3 0 es _ _ l).1];exact hd) ((X3 0 es _ _ l).2 b)
           . rename_i h j
             exact⟨b,λg=>absurd (TF.1 g) (gm j)⟩)
  | new o k f=>intro d e w es hd b;exact f _ (e _) _ es hd b
  | shape r k f=>intro d e w es hd b;exact f _ (e _) _ es hd b
  | freeze a n k f=>intro d e w es hd b;exact f e _ es hd b
  | frozen a k f=>intro d e w es hd b;exact f _ (e _) _ es hd b
  | getObj r k f=>
    intro d e w es hd b;simp only[Sem.runT];split
    . exact⟨b,λg=>g.elim⟩
    . exact f _ (e _) w _ (by rw[deaf_push];exact hd) (Nj b (λm i=>by cases i))
    . exact⟨b,λg=>g.elim⟩
  | setObj r o k f=>
    intro d e w es hd b;simp only[Sem.runT];split
    . exact⟨b,λg=>g.elim⟩
    . exact f e _ _ (by rw[deaf_push];exact hd) (Nj b (λm i=>by cases i))
    . exact⟨b,λg=>g.elim⟩
  | choose q k f=>
    intro d e w es hd b;simp only[Sem.runT];split
    . exact f _ (e _) w es hd b
    . exact f _ (e _) _ es hd b
  | sys c k f=>intro d e w es hd b;exact f _ (e.2 _) _ _ (by rw[deaf_push];exact hd) (Nj b (λm i=>by cases i))
  | program k f=>intro d e w es hd b;exact f _ e w es hd b
  | mark m k f=>
    intro d e w es hd b;refine f e w _ ?_ (Nj b (λ_ _=>rfl));rw[deaf_push,hd];cases m<;>rfl
theorem N4 (fn:FuncId)(es:Array Event)(h:Xo es):deafBehind 0 (seen P fn es)=deafBehind 0 es:=by
  have key:∀(l:List Event) (q:Bool) (kept:Array Event),(∀e∈l,∀m,e.loc=.mark m->e.sync=true)->
      deafBehind 0 (l.foldl (λ(x:Bool × Array Event) e=>match e.loc with
        | .mark (.extern f)=>((P.funcs[f]?).any (·.norace),x.2)
        | _=>(x.1,if x.1 && !e.sync then x.2 else x.2.push e)) (q,kept)).2=l.foldl (λd e=>match e.loc with | .mark .disable=>d+1 | .mark .enable=>d - 1 | _=>d) (deafBehind 0 kept):=by
    intro l;induction l with
    | nil=>exact λq kept _=>rfl
    | cons e l i=>
      intro q kept g;simp only[List.foldl_cons];have c:=λx k=>g x (CH _ k)
      obtain⟨j,wr,b⟩:=e;cases j with
      | mark m=>
        have o:b=true:=g ⟨.mark m,wr,b⟩ DX m rfl;subst o;cases m<;>(simp only[J1,Bool.and_false,DR,C5];rw[i _ _ c];try rw[deaf_push])
      | _=>
        simp only;rw[i _ _ c];split
        . rfl
        . rw[deaf_push]
  unfold seen;dsimp only;rw[<-Array.foldl_toList];refine(key es.toList _ #[] (λe n=>h e (Array.mem_toList_iff.1 n))).trans ?_;show List.foldl _ 0 es.toList=deafBehind 0 es
  unfold deafBehind;rw[<-Array.foldl_toList];rfl
end
