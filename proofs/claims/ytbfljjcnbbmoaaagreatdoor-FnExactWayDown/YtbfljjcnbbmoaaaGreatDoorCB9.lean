import Derived.Test.YtbfljjcnbbmoaaaGreatDoorCB6
namespace Go.Co
section
variable {es:Array Event}{α:Type}
variable {P : Program}{w : World}
theorem Zj {N:α->Prop}{x:Sem α}{d:Nat}(hx:Sat P N d x):∀a,(∃w',(x.runT P w es).1=.ok a w')->N a:=by
  induction x generalizing d w es with
  | pure a=>rintro b ⟨w',h⟩;cases h;exact hx.2
  | halt h=>rintro b ⟨w',h⟩;cases h
  | load m a k ih=>
    rintro b ⟨w',h⟩;simp only[Sem.runT] at h;split at h
    · exact ih _ (hx _) b ⟨w',h⟩
    · split at h
      · exact ih _ (hx _) b ⟨w',h⟩
      · cases h
  | store m a v k ih=>
    rintro b ⟨w',h⟩;cases v<;>simp only[Sem.runT] at h<;>first
      | (cases h;done)
      | (split at h
         · split at h
           · cases h
           · exact ih hx b ⟨w',h⟩
         · split at h
           · exact ih hx b ⟨w',h⟩
           · cases h)
  | new o k ih=>rintro b ⟨w',h⟩;exact ih _ (hx _) b ⟨w',h⟩
  | shape r k ih=>rintro b ⟨w',h⟩;exact ih _ (hx _) b ⟨w',h⟩
  | freeze a n k ih=>rintro b ⟨w',h⟩;exact ih hx b ⟨w',h⟩
  | frozen a k ih=>rintro b ⟨w',h⟩;exact ih _ (hx _) b ⟨w',h⟩
  | getObj r k ih=>
    rintro b ⟨w',h⟩;simp only[Sem.runT] at h;split at h
    · cases h
    · exact ih _ (hx _) b ⟨w',h⟩
    · cases h
  | setObj r o k ih=>
    rintro b ⟨w',h⟩;simp only[Sem.runT] at h;split at h
    · cases h
    · exact ih hx b ⟨w',h⟩
    · cases h
  | choose q k ih=>
    rintro b ⟨w',h⟩;simp only[Sem.runT] at h;split at h
    · exact ih _ (hx _) b ⟨w',h⟩
    · exact ih _ (hx _) b ⟨w',h⟩
  | sys c k ih=>rintro b ⟨w',h⟩;exact ih _ (hx.2 _) b ⟨w',h⟩
  | program k ih=>rintro b ⟨w',h⟩;exact ih _ hx b ⟨w',h⟩
  | mark m k ih=>rintro b ⟨w',h⟩;exact ih hx b ⟨w',h⟩
theorem Gf.case {F:World->GStep}{x:Sem α}{ev:Array Event}(hx:Axb P x w es){r:Result α}(hr:x.runT P w es=(r,ev)){G:World->GStep}(hG:Gf G r.w)(hc:(G r.w).cont->r.cont)
    (hF:∀w₁ w₂,x.runT P w₁ es=(r.put w₂,ev)->F w₁=G w₂):Gf F w:=by
  obtain⟨h1,h2,K,h3,h4,h5⟩:=hx;obtain⟨g1,g2,L,g3,g4,g5⟩:=hG;rw[hr] at h1 h2 h3 h4 h5;have hput:r.put r.w=r:=by cases r<;>rfl
  have e0:=hF w r.w (by rw[hput];exact hr);refine⟨by rw[e0];exact g1.trans h1,by rw[e0];exact A4k h2 g2,max K L,by rw[e0];exact A4k g3 (Nat.le_max_right _ _),λc=>?_,fun τ s e hs hA=>?_⟩
  · rw[e0] at c ⊢
    rw[h4 (hc c),g4 c];exact Nat.max_eq_right g2
  · have e1:=h5 τ s e hs (hA.mono (Nat.le_max_left _ _))
    have hturn:r.turn (rt τ s e)=r.put (rt τ s e r.w):=by cases r<;>rfl
    rw[hturn] at e1;rw[hF _ _ e1,e0];exact g5 τ s e (A4k hs h2) (by rw[h1];exact hA.mono (Nat.le_max_right _ _))
theorem Ax5 {d:Deferred}{fr:Frame}(h:((d.target matches .nil) && (fr.mode matches .panicking _))=true):d.target=.nil/\∃c,fr.mode=.panicking c:=by
  cases ht:d.target<;>cases hm:fr.mode<;>simp[ht,hm] at h ⊢
theorem zw {p:Prop}(h:p:=by
 exact go {frame:=fr,callers:=cs,status:=.running,dying:=dy} λw₁ w₂ h=>by unfold callDeferred;refine(if_neg hn).trans ?_;simp only[h]):p:=h
theorem Abv (hP:OkP P)(fr:Frame)(cs:List Frame)(dy:Option Dying)(d:Deferred)(w:World):Gf (λw=>callDeferred P fr cs dy d w) w:=by
  by_cases h0:d.target=.nil/\∃c,fr.mode=.panicking c
  · obtain⟨ht,c,hm⟩:=h0
    refine Gf.congr ((Be (.unsupported (.noEntry "machine/Return: a deferred call of a nil function value, made while the frame is unwinding") (fr.pos P)) #[]).loc w) λw=>?_
    unfold callDeferred;simp[ht,hm]
  · have hn:=λh=>h0 (Ax5 h)
    have hs:=J7 hP d.target d.args;have hx:=L8 _ 0 hs w #[];have hok:=Zj (w:=w) (es:=#[]) hs;generalize hr:(invoke d.target d.args).runT P w #[]=r at hok;obtain⟨r,ev⟩:=r;cases r with
    | ok a w'=>
      have go:∀(g:Goroutine),(∀w₁ w₂,(invoke d.target d.args).runT P w₁ #[]=(.ok a w₂,ev)->callDeferred P fr cs dy d w₁=GStep.after (seen P fr.fn ev) (.go g w₂))->Gf (λw=>callDeferred P fr cs dy d w) w:=
        λg h=>Gf.case hx hr (Gf.after _ ((Dw g #[]).loc w')) (λ_=>trivial) h
      cases a<;>first | exact(hok _ ⟨_,rfl⟩).elim | skip
      case value v=>exact zw
      case skip=>exact zw
      case enter f args=>exact go {frame:=Frame.enter P f args .deferred,callers:=fr::cs,status:=.running,dying:=dy} λw₁ w₂ h=>by unfold callDeferred;refine(if_neg hn).trans ?_;simp only[h]
      case round l f tmps assign body=>exact go {frame:=Frame.round l f tmps assign body .deferred,callers:=fr::cs,status:=.running,dying:=dy} λw₁ w₂ h=>by unfold callDeferred;refine(if_neg hn).trans ?_;simp only[h]
      case defer d'=>exact zw
      case spawn d'=>exact zw
      case comm c b sh=>exact zw
      case row row args=>exact go {frame:=Frame.ofRow P row args .deferred,callers:=fr::cs,status:=.running,dying:=dy} λw₁ w₂ h=>by unfold callDeferred;refine(if_neg hn).trans ?_;simp only[h]
      case recover=>
        refine go {frame:=fr,callers:=(match fr.mode,tryRecover fr cs with | .returning,some (_,callers)=>callers | _,_=>cs),status:=.running,dying:=dy} λw₁ w₂ h=>?_
        unfold callDeferred;refine(if_neg hn).trans ?_;simp only[h];split<;>simp_all
      case coroswitch c x=>
        cases x with
        | true=>exact Gf.case hx hr (Gf.after (seen P fr.fn ev) (Wy.loc (F:=λw=>GStep.coroswitch {frame:=fr,callers:=cs,status:=.running,dying:=dy} c true w) (λ_=>⟨rfl,λ_=>rfl⟩) w')) (λ_=>trivial) λw₁ w₂ h=>by unfold callDeferred;refine(if_neg hn).trans ?_;simp only[h,Result.put]
        | false=>exact Gf.case hx hr (Gf.after (seen P fr.fn ev) ((Be (.unsupported (.noEntry "a deferred call of iter.newcoro or iter.coroswitch") (fr.pos P)) #[]).loc w')) (λ_=>trivial) λw₁ w₂ h=>by unfold callDeferred;refine(if_neg hn).trans ?_;simp only[h,Result.put]
    | halt h w'=>
      cases h
      case panic v=>exact Gf.case hx hr (Gf.after (seen P fr.fn ev) ((Dw {frame:=fr.raise [{v,recovered:=false}],callers:=cs,status:=.running,dying:=dy} #[]).loc w')) (λ_ x=>x) λw₁ w₂ h=>by unfold callDeferred;refine(if_neg hn).trans ?_;simp only[h,Result.put]
      case exit c=>exact Gf.case hx hr (Gf.after (seen P fr.fn ev) ((Be (.exit c) #[]).loc w')) (λ_ x=>x) λw₁ w₂ h=>by unfold callDeferred;refine(if_neg hn).trans ?_;simp only[h,Result.put]
      case fatal m=>exact Gf.case hx hr (Gf.after (seen P fr.fn ev) (Abd (P:=P) fr cs dy m w')) (λ_ x=>x) λw₁ w₂ h=>by unfold callDeferred;refine(if_neg hn).trans ?_;simp only[h,Result.put]
      case throw m=>exact Gf.case hx hr (Gf.after (seen P fr.fn ev) (Wy.loc (F:=λw=>endThrow fr m w) (λ_=>⟨rfl,λ_=>rfl⟩) w')) (λ_ x=>x) λw₁ w₂ h=>by unfold callDeferred;refine(if_neg hn).trans ?_;simp only[h,Result.put]
      case unsupported u=>exact Gf.case hx hr (Gf.after (seen P fr.fn ev) ((Be (.unsupported u (fr.pos P)) #[]).loc w')) (λc=>by rw[Gq] at c;exact c.elim) λw₁ w₂ h=>by unfold callDeferred;refine(if_neg hn).trans ?_;simp only[h,Result.put]
      case stuck m=>exact Gf.case hx hr (Gf.after (seen P fr.fn ev) ((Be (.stuck m (fr.pos P)) #[]).loc w')) (λc=>by rw[Gq] at c;exact c.elim) λw₁ w₂ h=>by unfold callDeferred;refine(if_neg hn).trans ?_;simp only[h,Result.put]
      case goexit=>exact Gf.case hx hr (Gf.after (seen P fr.fn ev) ((Dw {frame:=fr.raise [goexitEntry],callers:=cs,status:=.running,dying:=dy} #[]).loc w')) (λ_ x=>x) λw₁ w₂ h=>by unfold callDeferred;refine(if_neg hn).trans ?_;simp only[h,Result.put]
      case blocked=>exact Gf.case hx hr (Gf.after (seen P fr.fn #[]) ((Dw {frame:={fr with defers:=d::fr.defers},callers:=cs,status:=.blocked,dying:=dy} #[]).loc w')) (λc=>by rw[Gq] at c;cases c) λw₁ w₂ h=>by unfold callDeferred;refine(if_neg hn).trans ?_;simp only[h,Result.put]
      case waiting=>exact Gf.case hx hr (Gf.after (seen P fr.fn #[]) ((Dw {frame:={fr with defers:=d::fr.defers},callers:=cs,status:=.waiting,dying:=dy} #[]).loc w')) (λc=>by rw[Gq] at c;cases c) λw₁ w₂ h=>by unfold callDeferred;refine(if_neg hn).trans ?_;simp only[h,Result.put]
theorem Ap9 (hP:OkP P)(main:Bool)(fr:Frame)(cs:List Frame)(dy:Option Dying)(w:World):Gf (λw=>unwind P main fr cs dy w) w:=by
  unfold unwind;split
  · rename_i block _ ds _
    refine(Ab5 (P:=P) (x:=Instr.takeDeferred block) spz (λr es=>GStep.after (seen P fr.fn es) (match r with
      | .ok calls w=>GStep.go {frame:={fr with defers:=calls++ds},callers:=cs,status:=.running,dying:=dy} w
      | .halt _ w=>.ended (.stuck "the deferred calls of a range-over-func loop have been taken" (fr.pos P)) w)) (λa es=>Gs _ (Dw _ _)) (λh es=>Gs _ (Be _ _)) (λh w es _ c=>by rw[Gq] at c;exact c) w).congr λw=>rfl
  · exact Abv hP _ _ _ _ w
  · split
    · exact(Be _ _).loc w
    · rename_i chain _
      split
      · exact(Be _ _).loc w
      · split
        · exact(Dw _ _).loc w
        · split
          · split
            · exact(Dw _ _).loc w
            · have hb:Gf (λw=>(λr:Result (List (Value × String))=>match r with | .ok todo w=>GStep.go {frame:=fr,callers:=[],status:=.running,dying:=some {todo:=todo,texts:=[],calling:=false,pending:= "",runtimeError:=isRuntimeError P (chain.head?.map (·.v))} } w | .halt (.unsupported u) w=>.ended (.unsupported u "") w | .halt _ w=>.ended (.stuck "the report of a panic" "") w) ((reportChain chain false).run P w)) w:=by
                refine Gf.bindR (P:=P) (x:=reportChain chain false) (λr:Result (List (Value × String))=>match r with | .ok todo w=>GStep.go {frame:=fr,callers:=[],status:=.running,dying:=some {todo:=todo,texts:=[],calling:=false,pending:= "",runtimeError:=isRuntimeError P (chain.head?.map (·.v))} } w | .halt (.unsupported u) w=>.ended (.unsupported u "") w | .halt _ w=>.ended (.stuck "the report of a panic" "") w) (Calm.loc (Vp _ _) w #[]) ?_ ?_
                · generalize Sem.run P _ w=r
                  cases r with
                  | ok a w'=>exact(Dw _ _).loc _
                  | halt h w'=>cases h<;>exact(Be _ _).loc _
                · generalize Sem.run P _ w=r
                  cases r with
                  | ok a w'=>exact λ_=>trivial
                  | halt h w'=>cases h<;>exact λx=>x.elim
              exact hb.congr λw=>rfl
          · split
            · exact(Ue fr _).loc w
            · exact(Be _ _).loc w
    · split
      · exact(Ti _ _ _ _ _).loc w
      · rename_i fn _
        refine(Ab5 (P:=P) (x:=results fn fr.tmps) (Abl _ _) (λr es=>GStep.after (seen P fr.fn es) (match r with
          | .ok v w=>doReturn P main fr cs dy v w
          | .halt (.stuck s) w=>.ended (.stuck s (fr.pos P)) w
          | .halt _ w=>.ended (.stuck "return: the result variables cannot be read" (fr.pos P)) w)) (λa es=>Gs _ (Ti _ _ _ _ _)) (λh es=>?_) (λh w es _ c=>?_) w).congr λw=>rfl
        · cases h<;>exact Gs _ (Be _ _)
        · rw[Gq] at c;cases h<;>exact c
end
end Go.Co
namespace Go.Co
section
variable {P : Program}{w : World}
theorem Gf.caseOld {α:Type}{F:World->GStep}{x:Sem α}{es ev:Array Event}(hx:Axb P x w es){r:Result α}(hr:x.runT P w es=(r,ev)){G:World->GStep}(hG:Wy G)(hn:∀w,¬(G w).cont)
  (hF:∀w₁ w₂,x.runT P w₁ es=(r.put w₂,ev)->F w₁=G w₁):Gf F w:=by
 obtain⟨h1,h2,K,h3,h4,h5⟩:=hx;rw[hr] at h1 h2 h3 h4 h5;have hput:r.put r.w=r:=by cases r<;>rfl
 have e0:=hF w r.w (by rw[hput];exact hr);have e1:=(hG w).1;refine⟨by rw[e0,e1],by rw[e0,e1];exact A4d _,K,by rw[e0,e1];exact A4k h2 h3,λc=>by rw[e0] at c;exact(hn w c).elim,fun τ s e hs hA=>?_⟩;have e2:=h5 τ s e hs hA;have hturn:r.turn (rt τ s e)=r.put (rt τ s e r.w):=by cases r<;>rfl
 rw[hturn] at e2;rw[hF _ _ e2,e0];exact(hG w).2 _
theorem Al3 (fd:Nat)(text:ByteArray)(o:Outcome)(w:World):Gf (λw=>endWith w fd text o) w:=by
 obtain⟨k1,k2,k3,k4⟩:=Anh (.write fd text) w;have hend:∀w,∃o',endWith w fd text o=.ended o' (w.sys (.write fd text)).2:=by
  intro w;unfold endWith;generalize w.sys (.write fd text)=x;obtain⟨r,w'⟩:=x;cases r<;>dsimp only<;>first
   | exact⟨_,rfl⟩
   | (split<;>exact⟨_,rfl⟩)
 obtain⟨o',he⟩:=hend w;have hle:(w.sys (.write fd text)).2.drawn<=(w.ask (Kernel.perform (.write fd text) w.os)).2.drawn:=by
  by_cases hb:(w.sys (.write fd text)).1=.wouldBlock
  ·exact k4 hb
  ·exact Nat.le_of_eq (k3 hb)
 refine⟨by rw[he];exact k1,by rw[he];exact k2,(w.ask (Kernel.perform (.write fd text) w.os)).2.drawn,by rw[he];exact hle,by rw[he];exact λx=>x.elim,fun τ s e hs hA=>?_⟩;have h1:=Ak4 (.write fd text) w hs hA;unfold endWith;rw[h1];generalize w.sys (.write fd text)=x;obtain⟨r,w'⟩:=x;cases r<;>dsimp only<;>first
  | rfl
  | (split<;>rfl)
theorem Aa8 (fr:Frame)(d:Dying)(f:Fatal)(piece:ByteArray)(rest:List ByteArray)(hp:f.pieces=piece::rest):∃X:Sem Unit,Sat P (λ_=>True) 0 X/\
  ∀w,writeOn P fr d f w=match X.runT P w #[] with
   | (.ok _ w,es)=>GStep.go {frame:=fr,callers:=[],status:=.running,dying:=some {d with fatal:=some {f with pieces:=rest,begun:=true} } } w es
   | (.halt .blocked w,_)=>GStep.go {frame:=fr,callers:=[],status:=.blocked,dying:=some {d with fatal:=some f} } w #[]
   | (.halt (.unsupported u) w,_)=>.ended (.unsupported u "") w
   | (.halt _ w,_)=>.ended (.stuck "the report of a fatal error" "") w:=by
 unfold writeOn;simp only[hp];refine⟨_,?_,λw=>rfl⟩;repeat' first
  | exact G5 trivial
  | refine Acx ?_
  | refine Afi ?_
  | refine Aii (λ_=>?_)
  | with_reducible refine Lr ?_
  | refine Afg ?_
  | exact .inl rfl
  | exact .inr trivial
  | refine Ea Jf (λ_=>?_)
  | (refine⟨trivial,λr=>?_⟩;cases r)
  | split
 all_goals
  show Sat P (λ_=>True) 0 (if _ then unsupported _ else pure ())
  split
  ·exact .inl rfl
  ·exact G5 trivial
theorem Al2 (fr:Frame)(d:Dying)(f:Fatal)(w:World):Gf (λw=>writeOn P fr d f w) w:=by
 cases hp:f.pieces with
 | nil=>
  refine Gf.congr ((Be (.fatal f.text) #[]).loc w) λw=>?_
  unfold writeOn;simp only[hp]
 | cons piece rest=>
  obtain⟨X,hX,hF⟩:=Aa8 (P:=P) fr d f piece rest hp;have hx:=L8 X 0 hX w #[];generalize hr:X.runT P w #[]=r;obtain⟨r,ev⟩:=r;cases r with
  | ok a w'=>exact Gf.case hx hr ((Dw {frame:=fr,callers:=[],status:=.running,dying:=some {d with fatal:=some {f with pieces:=rest,begun:=true} } } ev).loc w') (λ_=>trivial) λw₁ w₂ h=>by rw[hF,h];rfl
  | halt h w'=>
   cases h<;>first
    | exact Gf.case hx hr ((Dw {frame:=fr,callers:=[],status:=.blocked,dying:=some {d with fatal:=some f} } #[]).loc w') (λc=>by cases c) λw₁ w₂ h=>by rw[hF,h];rfl
    | (rename_i u;exact Gf.case hx hr ((Be (.unsupported u "") #[]).loc w') (λc=>c.elim) λw₁ w₂ h=>by rw[hF,h];rfl)
    | exact Gf.case hx hr ((Be (.stuck "the report of a fatal error" "") #[]).loc w') (λc=>c.elim) λw₁ w₂ h=>by rw[hF,h];rfl
theorem zy0 {p:Prop}(h:p:=by
 exact Gf.case hx hr (Gf.after _ ((Dw _ #[]).loc w')) (λ_=>trivial) λw₁ w₂ h=>by simp only[h,Result.put];rfl):p:=h
theorem A0w (hP:OkP P)(fr:Frame)(d:Dying)(w:World):Gf (λw=>die P fr d w) w:=by
 unfold die;split
 ·exact Al2 fr d _ w
 ·split
  ·by_cases hl:printLockHeld P w=true
   ·exact Gf.like (G:=λw=>GStep.go {frame:=fr,callers:=[],status:=.blocked,dying:=some d} w #[]) ((Dw _ _).loc w) (if_pos hl) fun τ s e=>if_pos (show printLockHeld P (rt τ s e w)=true from hl)
   ·exact Gf.like (Al3 _ _ _ w) (if_neg hl) fun τ s e=>if_neg (show ¬printLockHeld P (rt τ s e w)=true from hl)
  ·rename_i v mark rest _
   dsimp only;split
   ·exact(Dw _ _).loc w
   ·rename_i s _
    have hx:=Calm.loc (Vo (P:=P) s) w #[];have e:∀w,(withAddress s).run P w=((withAddress s).runT P w #[]).1:=λw=>by rw[Sem.runT_eq]
    simp only[e];generalize hr:(withAddress s).runT P w #[]=r;obtain⟨r,ev⟩:=r;cases r with
    | ok a w'=>exact Gf.case hx hr ((Dw _ #[]).loc w') (λ_=>trivial) λw₁ w₂ h=>by simp only[h,Result.put];rfl
    | halt h w'=>exact Gf.case hx hr ((Be _ #[]).loc w') (λc=>c.elim) λw₁ w₂ h=>by simp only[h,Result.put];rfl
   ·rename_i t recv name _
    have hx:=L8 _ 0 (J7 hP (.fn (.method name) #[]) #[.iface t recv]) w #[];generalize hr:(invoke (.fn (.method name) #[]) #[.iface t recv]).runT P w #[]=r;obtain⟨r,ev⟩:=r;cases r with
    | ok a w'=>
     cases a
     case enter f args=>exact zy0
     case value x=>
      cases x
      case string s=>exact zy0
      all_goals exact Gf.caseOld hx hr (Gs _ (Be _ #[])) (λw c=>by rw[Gq] at c;exact c) λw₁ w₂ h=>by simp only[h,Result.put];rfl
     all_goals exact Gf.caseOld hx hr (Gs _ (Be _ #[])) (λw c=>by rw[Gq] at c;exact c) λw₁ w₂ h=>by simp only[h,Result.put];rfl
    | halt h w'=>
     cases h
     case panic v=>exact Gf.case hx hr (Gf.after _ ((Ue fr v).loc w')) (λ_ x=>x) λw₁ w₂ h=>by simp only[h,Result.put];rfl
     case unsupported u=>exact Gf.case hx hr (Gf.after _ ((Be _ #[]).loc w')) (λc=>by rw[Gq] at c;exact c.elim) λw₁ w₂ h=>by simp only[h,Result.put];rfl
     all_goals exact Gf.caseOld hx hr (Gs _ (Be _ #[])) (λw c=>by rw[Gq] at c;exact c) λw₁ w₂ h=>by simp only[h,Result.put];rfl
   ·exact(Be _ _).loc w
theorem Auy (hP:OkP P)(main:Bool)(g:Goroutine)(hg:Y6 g.frame)(w:World):Gf (λw=>stepG P main g w) w:=by
 unfold stepG;obtain⟨fr,cs,st,dy,off⟩:=g;dsimp only;split
 ·exact A0w hP _ _ w
 ·exact Ax9 hP main _ hg _ _ w
 ·exact Ap9 hP main _ _ _ w
end
end Go.Co
namespace Go.Co
section
variable {a:Addr}{h:Halt}{α:Type}
variable {P : Program}{w : World}
def X5 {α:Type}:Result α->Prop
  | .ok _ _=>True
  | .halt .blocked _ | .halt .waiting _ | .halt (.unsupported _) _ | .halt (.stuck _) _=>False
  | _=>True
def Xa (es:Array Event):Prop:=∀e∈es,∀m,e.loc=.mark m->e.sync=true
theorem Me {es:Array Event}{e:Event}(h:Xa es)(he:∀m,e.loc=.mark m->e.sync=true):Xa (es.push e):=by
  intro x hx;rcases Array.mem_push.1 hx with hx | rfl
  · exact h x hx
  · exact he
theorem deaf_push (d:Nat)(es:Array Event)(e:Event):deafBehind d (es.push e)=match e.loc with | .mark .disable=>deafBehind d es+1 | .mark .enable=>deafBehind d es - 1 | _=>deafBehind d es:=by
  unfold deafBehind;rw[Array.foldl_push];rfl
theorem Yb (d:Nat)(es:Array Event)(a:Addr)(b c:Bool):deafBehind d (es.push ⟨.cell a,b,c⟩)=deafBehind d es:=by rw[deaf_push]
theorem Xp (d:Nat)(es:Array Event)(b c:Bool)(l:List Addr):deafBehind d (es++l.toArray.map (⟨.cell ·,b,c⟩))=deafBehind d es/\(Xa es->Xa (es++l.toArray.map (⟨.cell ·,b,c⟩))):=by
  refine⟨?_,λh x hx=>?_⟩
  · unfold deafBehind
    rw[Array.foldl_append];simp only[List.map_toArray,A4b,A4o,List.foldl_toArray'];generalize Array.foldl _ d es=n;induction l generalizing n with
    | nil=>rfl
    | cons a l ih=>exact ih n
  · rcases Array.mem_append.1 hx with hx | hx
    · exact h x hx
    · obtain⟨a,_,rfl⟩:=Array.mem_map.1 hx
      intro m hm;cases hm
theorem Aha {b:Bool}(hf:w.farLoad P a b=.error h):¬X5 (.halt h w:Result Unit):=by
  unfold World.farLoad at hf;have hn:∀s,¬X5 (.halt (w.noCell a s) w:Result Unit):=by
    intro s;unfold World.noCell;split<;>exact id
  split at hf
  · split at hf
    · cases hf
    · cases hf;exact id
  · cases hf;exact hn _
theorem Ae6 {v:Value}{b:Bool}(hf:w.farStore P a v b=.error h):¬X5 (.halt h w:Result Unit):=by
  unfold World.farStore at hf;have hn:∀s,¬X5 (.halt (w.noCell a s) w:Result Unit):=by
    intro s;unfold World.noCell;split<;>exact id
  split at hf
  · split at hf
    · cases hf
    · cases hf;exact id
  · cases hf;exact hn _
theorem Adx {w w':World}:X5 (.halt h w:Result α)↔X5 (.halt h w':Result Unit):=by cases h<;>exact Iff.rfl
theorem Xu {N:α->Prop}{x:Sem α}:∀{d:Nat} (_:Sat P N d x) (w:World) (es:Array Event),deafBehind 0 es=d->Xa es->Xa (x.runT P w es).2/\(X5 (x.runT P w es).1->deafBehind 0 (x.runT P w es).2=0):=by
  induction x with
  | pure a=>intro d hx w es hd hs;exact⟨hs,λ_=>hd.trans hx.1⟩
  | halt h=>
    intro d hx w es hd hs;refine⟨hs,λhg=>?_⟩;rcases hx with h0 | h0
    · exact hd.trans h0
    · cases h<;>first | exact hg.elim | exact h0.elim
  | load m a k ih=>
    intro d hx w es hd hs;simp only[Sem.runT];split
    · exact ih _ (hx _) w _ (by rw[Yb];exact hd) (Me hs (λm hm=>by cases hm))
    · split
      · rename_i v l _
        exact ih _ (hx _) w _ (by rw[(Xp 0 es _ _ l).1];exact hd) ((Xp 0 es _ _ l).2 hs)
      · rename_i h hf
        exact⟨hs,λhg=>absurd (Adx.1 hg) (Aha hf)⟩
  | store m a v k ih=>
    intro d hx w es hd hs;cases v<;>simp only[Sem.runT]<;>first
      | exact⟨hs,λhg=>hg.elim⟩
      | (split
         · split
           · exact⟨hs,λhg=>hg.elim⟩
           · exact ih hx _ _ (by rw[Yb];exact hd) (Me hs (λm hm=>by cases hm))
         · split
           · rename_i w' l _
             exact ih hx _ _ (by rw[(Xp 0 es _ _ l).1];exact hd) ((Xp 0 es _ _ l).2 hs)
           · rename_i h hf
             exact⟨hs,λhg=>absurd (Adx.1 hg) (Ae6 hf)⟩)
  | new o k ih=>intro d hx w es hd hs;exact ih _ (hx _) _ es hd hs
  | shape r k ih=>intro d hx w es hd hs;exact ih _ (hx _) _ es hd hs
  | freeze a n k ih=>intro d hx w es hd hs;exact ih hx _ es hd hs
  | frozen a k ih=>intro d hx w es hd hs;exact ih _ (hx _) _ es hd hs
  | getObj r k ih=>
    intro d hx w es hd hs;simp only[Sem.runT];split
    · exact⟨hs,λhg=>hg.elim⟩
    · exact ih _ (hx _) w _ (by rw[deaf_push];exact hd) (Me hs (λm hm=>by cases hm))
    · exact⟨hs,λhg=>hg.elim⟩
  | setObj r o k ih=>
    intro d hx w es hd hs;simp only[Sem.runT];split
    · exact⟨hs,λhg=>hg.elim⟩
    · exact ih hx _ _ (by rw[deaf_push];exact hd) (Me hs (λm hm=>by cases hm))
    · exact⟨hs,λhg=>hg.elim⟩
  | choose q k ih=>
    intro d hx w es hd hs;simp only[Sem.runT];split
    · exact ih _ (hx _) w es hd hs
    · exact ih _ (hx _) _ es hd hs
  | sys c k ih=>intro d hx w es hd hs;exact ih _ (hx.2 _) _ _ (by rw[deaf_push];exact hd) (Me hs (λm hm=>by cases hm))
  | program k ih=>intro d hx w es hd hs;exact ih _ hx w es hd hs
  | mark m k ih=>
    intro d hx w es hd hs;refine ih hx w _ ?_ (Me hs (λ_ _=>rfl));rw[deaf_push,hd];cases m<;>rfl
theorem Ad5 (fn:FuncId)(es:Array Event)(h:Xa es):deafBehind 0 (seen P fn es)=deafBehind 0 es:=by
  have key:∀(l:List Event) (q:Bool) (kept:Array Event),(∀e∈l,∀m,e.loc=.mark m->e.sync=true)->
      deafBehind 0 (l.foldl (λ(x:Bool × Array Event) e=>match e.loc with
        | .mark (.extern f)=>((P.funcs[f]?).any (·.norace),x.2)
        | _=>(x.1,if x.1 && !e.sync then x.2 else x.2.push e)) (q,kept)).2=l.foldl (λd e=>match e.loc with | .mark .disable=>d+1 | .mark .enable=>d - 1 | _=>d) (deafBehind 0 kept):=by
    intro l;induction l with
    | nil=>exact λq kept _=>rfl
    | cons e l ih=>
      intro q kept hl;simp only[List.foldl_cons];have hl':=λx hx=>hl x (A4c _ hx)
      obtain⟨loc,wr,sy⟩:=e;cases loc with
      | mark m=>
        have hsy:sy=true:=hl ⟨.mark m,wr,sy⟩ List.mem_cons_self m rfl;subst hsy;cases m<;>(simp only[Bool.not_true,Bool.and_false,A4e,if_false];rw[ih _ _ hl'];try rw[deaf_push])
      | _=>
        simp only;rw[ih _ _ hl'];split
        · rfl
        · rw[deaf_push]
  unfold seen;dsimp only;rw[<-Array.foldl_toList];refine(key es.toList _ #[] (λe he=>h e (Array.mem_toList_iff.1 he))).trans ?_;show List.foldl _ 0 es.toList=deafBehind 0 es
  unfold deafBehind;rw[<-Array.foldl_toList];rfl
end
end Go.Co
