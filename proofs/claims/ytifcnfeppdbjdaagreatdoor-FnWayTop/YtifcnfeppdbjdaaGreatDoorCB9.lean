import Derived.Test.YtifcnfeppdbjdaaGreatDoorCB6
namespace Go.Co
section
variable {es:Array Event}{α:Type}
variable {P : Program}{w : World}
theorem LN {N:α->Prop}{x:Sem α}{d:Nat}(hx:C2 P N d x):∀a,(∃e,(x.runT P w es).1=.ok a e)->N a:=by
  induction x generalizing d w es with
  | pure a=>rintro b ⟨e,h⟩;cases h;exact hx.2
  | halt h=>rintro b ⟨e,h⟩;cases h
  | load m a k f=>
    rintro b ⟨e,h⟩;simp only[Sem.runT] at h;split at h
    · exact f _ (hx _) b ⟨e,h⟩
    · split at h
      · exact f _ (hx _) b ⟨e,h⟩
      · cases h
  | store m a v k f=>
    rintro b ⟨e,h⟩;cases v<;>simp only[Sem.runT] at h<;>first
      | (cases h;done)
      | (split at h
         · split at h
           · cases h
           · exact f hx b ⟨e,h⟩
         · split at h
           · exact f hx b ⟨e,h⟩
           · cases h)
  | new o k f=>rintro b ⟨e,h⟩;exact f _ (hx _) b ⟨e,h⟩
  | shape r k f=>rintro b ⟨e,h⟩;exact f _ (hx _) b ⟨e,h⟩
  | freeze a n k f=>rintro b ⟨e,h⟩;exact f hx b ⟨e,h⟩
  | frozen a k f=>rintro b ⟨e,h⟩;exact f _ (hx _) b ⟨e,h⟩
  | getObj r k f=>
    rintro b ⟨e,h⟩;simp only[Sem.runT] at h;split at h
    · cases h
    · exact f _ (hx _) b ⟨e,h⟩
    · cases h
  | setObj r o k f=>
    rintro b ⟨e,h⟩;simp only[Sem.runT] at h;split at h
    · cases h
    · exact f hx b ⟨e,h⟩
    · cases h
  | choose q k f=>
    rintro b ⟨e,h⟩;simp only[Sem.runT] at h;split at h
    · exact f _ (hx _) b ⟨e,h⟩
    · exact f _ (hx _) b ⟨e,h⟩
  | sys c k f=>rintro b ⟨e,h⟩;exact f _ (hx.2 _) b ⟨e,h⟩
  | program k f=>rintro b ⟨e,h⟩;exact f _ hx b ⟨e,h⟩
  | mark m k f=>rintro b ⟨e,h⟩;exact f hx b ⟨e,h⟩
theorem He.case {F:World->GStep}{x:Sem α}{ev:Array Event}(hx:F4 P x w es){r:Result α}(hr:x.runT P w es=(r,ev)){G:World->GStep}(v:He G r.w)(B:(G r.w).cont->r.cont)
    (hF:∀g l,x.runT P g es=(r.put l,ev)->F g=G l):He F w:=by
  obtain⟨h1,f,K,o,i,n⟩:=hx;obtain⟨z,k,L,t,q,A⟩:=v;rw[hr] at h1 f o i n;have u:r.put r.w=r:=by cases r<;>rfl
  have b:=hF w r.w (by rw[u];exact hr);refine⟨by rw[b];exact z.trans h1,by rw[b];exact CJ f k,max K L,by rw[b];exact CJ t (MZ _ _),λc=>?_,fun d s e m hA=>?_⟩
  · rw[b] at c ⊢
    rw[i (B c),q c];exact Nat.max_eq_right k
  · have j:=n d s e m (hA.mono (Kx _ _))
    have y:r.turn (rt d s e)=r.put (rt d s e r.w):=by cases r<;>rfl
    rw[y] at j;rw[hF _ _ j,b];exact A d s e (CJ m f) yFd
theorem g9 {d:Deferred}{fr:Frame}(h:((d.target matches .nil) && (fr.mode matches .panicking _))=true):d.target=.nil/\∃c,fr.mode=.panicking c:=by
  cases b:d.target<;>cases e:fr.mode<;>simp[b,e] at h ⊢
theorem zE {p:Prop}(h:p:=by
 exact go {frame:=fr,callers:=cs,status:=.running,dying:=dy} λw₁ w₂ h=>by unfold callDeferred;refine(if_neg hn).trans ?_;simp only[h]):p:=h
theorem o9 (y:OkP P)(fr:Frame)(cs:List Frame)(dy:Option Dying)(d:Deferred)(w:World):He (λw=>callDeferred P fr cs dy d w) w:=by
  by_cases n:d.target=.nil/\∃c,fr.mode=.panicking c
  · obtain⟨s,c,t⟩:=n
    refine He.congr ((Az (.unsupported (.noEntry "machine/Return: a deferred call of a nil function value, made while the frame is unwinding") (fr.pos P)) #[]).loc w) λw=>?_
    unfold callDeferred;simp[s,t]
  · have hn:=λh=>n (g9 h)
    have q:=Nk y d.target d.args;have j:=O7 _ 0 q w #[];have o:=LN (w:=w) (es:=#[]) q;generalize i:(invoke d.target d.args).runT P w #[]=r at o;obtain⟨r,k⟩:=r;cases r with
    | ok a e=>
      have go:∀(g:Goroutine),(∀w₁ w₂,(invoke d.target d.args).runT P w₁ #[]=(.ok a w₂,k)->callDeferred P fr cs dy d w₁=GStep.after (seen P fr.fn k) (.go g w₂))->He (λw=>callDeferred P fr cs dy d w) w:=
        λg h=>He.case j i (He.after _ ((D8 g #[]).loc e)) (λ_=>trivial) h
      cases a<;>first | exact(o _ ⟨_,rfl⟩).elim | skip
      case value v=>exact zE
      case skip=>exact zE
      case enter f args=>exact go {frame:=Frame.enter P f args .deferred,callers:=fr::cs,status:=.running,dying:=dy} λw₁ w₂ h=>by unfold callDeferred;refine(if_neg hn).trans ?_;simp only[h]
      case round l f A assign body=>exact go {frame:=Frame.round l f A assign body .deferred,callers:=fr::cs,status:=.running,dying:=dy} λw₁ w₂ h=>by unfold callDeferred;refine(if_neg hn).trans ?_;simp only[h]
      case defer z=>exact zE
      case spawn z=>exact zE
      case comm c b B=>exact zE
      case row row args=>exact go {frame:=Frame.ofRow P row args .deferred,callers:=fr::cs,status:=.running,dying:=dy} λw₁ w₂ h=>by unfold callDeferred;refine(if_neg hn).trans ?_;simp only[h]
      case recover=>
        refine go {frame:=fr,callers:=(match fr.mode,tryRecover fr cs with | .returning,some (_,callers)=>callers | _,_=>cs),status:=.running,dying:=dy} λw₁ w₂ h=>?_
        unfold callDeferred;refine(if_neg hn).trans ?_;simp only[h];split<;>simp_all
      case coroswitch c x=>
        cases x with
        | true=>exact He.case j i (He.after (seen P fr.fn k) (Yx.loc (F:=λw=>GStep.coroswitch {frame:=fr,callers:=cs,status:=.running,dying:=dy} c true w) (λ_=>⟨rfl,λ_=>rfl⟩) e)) (λ_=>trivial) λw₁ w₂ h=>by unfold callDeferred;refine(if_neg hn).trans ?_;simp only[h,Result.put]
        | false=>exact He.case j i (He.after (seen P fr.fn k) ((Az (.unsupported (.noEntry "a deferred call of iter.newcoro or iter.coroswitch") (fr.pos P)) #[]).loc e)) (λ_=>trivial) λw₁ w₂ h=>by unfold callDeferred;refine(if_neg hn).trans ?_;simp only[h,Result.put]
    | halt h e=>
      cases h
      case panic v=>exact He.case j i (He.after (seen P fr.fn k) ((D8 {frame:=fr.raise [{v,recovered:=false}],callers:=cs,status:=.running,dying:=dy} #[]).loc e)) (λ_ x=>x) λw₁ w₂ h=>by unfold callDeferred;refine(if_neg hn).trans ?_;simp only[h,Result.put]
      case exit c=>exact He.case j i (He.after (seen P fr.fn k) ((Az (.exit c) #[]).loc e)) (λ_ x=>x) λw₁ w₂ h=>by unfold callDeferred;refine(if_neg hn).trans ?_;simp only[h,Result.put]
      case fatal m=>exact He.case j i (He.after (seen P fr.fn k) (T8 (P:=P) fr cs dy m e)) (λ_ x=>x) λw₁ w₂ h=>by unfold callDeferred;refine(if_neg hn).trans ?_;simp only[h,Result.put]
      case throw m=>exact He.case j i (He.after (seen P fr.fn k) (Yx.loc (F:=λw=>endThrow fr m w) (λ_=>⟨rfl,λ_=>rfl⟩) e)) (λ_ x=>x) λw₁ w₂ h=>by unfold callDeferred;refine(if_neg hn).trans ?_;simp only[h,Result.put]
      case unsupported u=>exact He.case j i (He.after (seen P fr.fn k) ((Az (.unsupported u (fr.pos P)) #[]).loc e)) (λc=>by rw[H7] at c;exact c.elim) λw₁ w₂ h=>by unfold callDeferred;refine(if_neg hn).trans ?_;simp only[h,Result.put]
      case stuck m=>exact He.case j i (He.after (seen P fr.fn k) ((Az (.stuck m (fr.pos P)) #[]).loc e)) (λc=>by rw[H7] at c;exact c.elim) λw₁ w₂ h=>by unfold callDeferred;refine(if_neg hn).trans ?_;simp only[h,Result.put]
      case goexit=>exact He.case j i (He.after (seen P fr.fn k) ((D8 {frame:=fr.raise [goexitEntry],callers:=cs,status:=.running,dying:=dy} #[]).loc e)) (λ_ x=>x) λw₁ w₂ h=>by unfold callDeferred;refine(if_neg hn).trans ?_;simp only[h,Result.put]
      case blocked=>exact He.case j i (He.after (seen P fr.fn #[]) ((D8 {frame:={fr with defers:=d::fr.defers},callers:=cs,status:=.blocked,dying:=dy} #[]).loc e)) (λc=>by rw[H7] at c;cases c) λw₁ w₂ h=>by unfold callDeferred;refine(if_neg hn).trans ?_;simp only[h,Result.put]
      case waiting=>exact He.case j i (He.after (seen P fr.fn #[]) ((D8 {frame:={fr with defers:=d::fr.defers},callers:=cs,status:=.waiting,dying:=dy} #[]).loc e)) (λc=>by rw[H7] at c;cases c) λw₁ w₂ h=>by unfold callDeferred;refine(if_neg hn).trans ?_;simp only[h,Result.put]
theorem Auz (e:OkP P)(main:Bool)(fr:Frame)(cs:List Frame)(d:Option Dying)(w:World):He (λw=>unwind P main fr cs d w) w:=by
  unfold unwind;split
  · rename_i block _ g _
    refine(LY (P:=P) (x:=Instr.takeDeferred block) AU (λr es=>GStep.after (seen P fr.fn es) (match r with
      | .ok calls w=>GStep.go {frame:={fr with defers:=calls++g},callers:=cs,status:=.running,dying:=d} w
      | .halt _ w=>.ended (.stuck "the deferred calls of a range-over-func loop have been taken" (fr.pos P)) w)) (λa es=>H8 _ (D8 _ _)) (λh es=>H8 _ (Az _ _)) (λh w es _ c=>by rw[H7] at c;exact c) w).congr λw=>rfl
  · exact o9 e _ _ _ _ w
  · split
    · exact(Az _ _).loc w
    · rename_i chain _
      split
      · exact(Az _ _).loc w
      · split
        · exact(D8 _ _).loc w
        · split
          · split
            · exact(D8 _ _).loc w
            · have i:He (λw=>(λr:Result (List (Value × String))=>match r with | .ok todo w=>GStep.go {frame:=fr,callers:=[],status:=.running,dying:=some {todo:=todo,texts:=[],calling:=false,pending:= "",runtimeError:=isRuntimeError P (chain.head?.map (·.v))} } w | .halt (.unsupported u) w=>.ended (.unsupported u "") w | .halt _ w=>.ended (.stuck "the report of a panic" "") w) ((reportChain chain false).run P w)) w:=by
                refine He.bindR (P:=P) (x:=reportChain chain false) (λr:Result (List (Value × String))=>match r with | .ok todo w=>GStep.go {frame:=fr,callers:=[],status:=.running,dying:=some {todo:=todo,texts:=[],calling:=false,pending:= "",runtimeError:=isRuntimeError P (chain.head?.map (·.v))} } w | .halt (.unsupported u) w=>.ended (.unsupported u "") w | .halt _ w=>.ended (.stuck "the report of a panic" "") w) (Calm.loc (Xw _ _) w #[]) ?_ ?_
                · generalize Sem.run P _ w=r
                  cases r with
                  | ok a b=>exact(D8 _ _).loc _
                  | halt h b=>cases h<;>exact(Az _ _).loc _
                · generalize Sem.run P _ w=r
                  cases r with
                  | ok a b=>exact λ_=>trivial
                  | halt h b=>cases h<;>exact λx=>x.elim
              exact i.congr λw=>rfl
          · split
            · exact(Vy fr _).loc w
            · exact(Az _ _).loc w
    · split
      · exact(Vf _ _ _ _ _).loc w
      · rename_i f _
        refine(LY (P:=P) (x:=results f fr.tmps) (TQ _ _) (λr es=>GStep.after (seen P fr.fn es) (match r with
          | .ok v w=>doReturn P main fr cs d v w
          | .halt (.stuck s) w=>.ended (.stuck s (fr.pos P)) w
          | .halt _ w=>.ended (.stuck "return: the result variables cannot be read" (fr.pos P)) w)) (λa es=>H8 _ (Vf _ _ _ _ _)) (λh es=>?_) (λh w es _ c=>?_) w).congr λw=>rfl
        · cases h<;>exact H8 _ (Az _ _)
        · rw[H7] at c;cases h<;>exact c
end
section
variable {P : Program}{w : World}
theorem He.caseOld {α:Type}{F:World->GStep}{x:Sem α}{es ev:Array Event}(hx:F4 P x w es){r:Result α}(hr:x.runT P w es=(r,ev)){G:World->GStep}(j:Yx G)(n:∀w,¬(G w).cont)
  (hF:∀d p,x.runT P d es=(r.put p,ev)->F d=G d):He F w:=by
 obtain⟨y,l,K,i,o,k⟩:=hx;rw[hr] at y l i o k;have u:r.put r.w=r:=by cases r<;>rfl
 have b:=hF w r.w (by rw[u];exact hr);have f:=(j w).1;refine⟨by rw[b,f],by rw[b,f];exact CG _,K,by rw[b,f];exact CJ l i,λc=>by rw[b] at c;exact(n w c).elim,fun g s e q t=>?_⟩;have m:=k g s e q t;have v:r.turn (rt g s e)=r.put (rt g s e r.w):=by cases r<;>rfl
 rw[v] at m;rw[hF _ _ m,b];exact(j w).2 _
theorem vS (b:Nat)(text:ByteArray)(o:Outcome)(w:World):He (λw=>endWith w b text o) w:=by
 obtain⟨t,i,g,n⟩:=YU (.write b text) w;have l:∀w,∃d,endWith w b text o=.ended d (w.sys (.write b text)).2:=by
  intro w;unfold endWith;generalize w.sys (.write b text)=x;obtain⟨r,j⟩:=x;cases r<;>dsimp only<;>first
   | exact⟨_,rfl⟩
   | (split<;>exact⟨_,rfl⟩)
 obtain⟨d,c⟩:=l w;have q:(w.sys (.write b text)).2.drawn<=(w.ask (Kernel.perform (.write b text) w.os)).2.drawn:=by
  by_cases f:(w.sys (.write b text)).1=.wouldBlock
  ·exact n f
  ·exact Nat.le_of_eq (g f)
 refine⟨by rw[c];exact t,by rw[c];exact i,(w.ask (Kernel.perform (.write b text) w.os)).2.drawn,by rw[c];exact q,by rw[c];exact λx=>x.elim,fun u s e k m=>?_⟩;have p:=QN (.write b text) w k m;unfold endWith;rw[p];generalize w.sys (.write b text)=x;obtain⟨r,j⟩:=x;cases r<;>dsimp only<;>first
  | rfl
  | (split<;>rfl)
theorem TV (fr:Frame)(d:Dying)(f:Fatal)(piece:ByteArray)(rest:List ByteArray)(b:f.pieces=piece::rest):∃X:Sem Unit,C2 P (λ_=>True) 0 X/\
  ∀w,writeOn P fr d f w=match X.runT P w #[] with
   | (.ok _ w,es)=>GStep.go {frame:=fr,callers:=[],status:=.running,dying:=some {d with fatal:=some {f with pieces:=rest,begun:=true} } } w es
   | (.halt .blocked w,_)=>GStep.go {frame:=fr,callers:=[],status:=.blocked,dying:=some {d with fatal:=some f} } w #[]
   | (.halt (.unsupported u) w,_)=>.ended (.unsupported u "") w
   | (.halt _ w,_)=>.ended (.stuck "the report of a fatal error" "") w:=by
 unfold writeOn;simp only[b];refine⟨_,?_,λw=>rfl⟩;repeat' first
  | exact Ii trivial
  | refine UR ?_
  | refine WN ?_
  | refine XU (λ_=>?_)
  | with_reducible refine Ox ?_
  | refine WL ?_
  | exact .inl rfl
  | exact .inr trivial
  | refine Ei Kv (λ_=>?_)
  | (refine⟨trivial,λr=>?_⟩;cases r)
  | split
 all_goals
  show C2 P (λ_=>True) 0 (if _ then unsupported _ else pure ())
  split
  ·exact .inl rfl
  ·exact Ii trivial
theorem vR (fr:Frame)(d:Dying)(f:Fatal)(w:World):He (λw=>writeOn P fr d f w) w:=by
 cases k:f.pieces with
 | nil=>
  refine He.congr ((Az (.fatal f.text) #[]).loc w) λw=>?_
  unfold writeOn;simp only[k]
 | cons piece rest=>
  obtain⟨X,m,hF⟩:=TV (P:=P) fr d f piece rest k;have g:=O7 X 0 m w #[];generalize e:X.runT P w #[]=r;obtain⟨r,l⟩:=r;cases r with
  | ok a b=>exact He.case g e ((D8 {frame:=fr,callers:=[],status:=.running,dying:=some {d with fatal:=some {f with pieces:=rest,begun:=true} } } l).loc b) (λ_=>trivial) λi j h=>by rw[hF,h];rfl
  | halt h b=>
   cases h<;>first
    | exact He.case g e ((D8 {frame:=fr,callers:=[],status:=.blocked,dying:=some {d with fatal:=some f} } #[]).loc b) (λc=>by cases c) λi j h=>by rw[hF,h];rfl
    | (rename_i u;exact He.case g e ((Az (.unsupported u "") #[]).loc b) (λc=>c.elim) λi j h=>by rw[hF,h];rfl)
    | exact He.case g e ((Az (.stuck "the report of a fatal error" "") #[]).loc b) (λc=>c.elim) λi j h=>by rw[hF,h];rfl
theorem zt0 {p:Prop}(h:p:=by
 exact He.case hx hr (He.after _ ((D8 _ #[]).loc w')) (λ_=>trivial) λw₁ w₂ h=>by simp only[h,Result.put];rfl):p:=h
theorem k9 (i:OkP P)(fr:Frame)(d:Dying)(w:World):He (λw=>die P fr d w) w:=by
 unfold die;split
 ·exact vR fr d _ w
 ·split
  ·by_cases b:printLockHeld P w=true
   ·exact He.like (G:=λw=>GStep.go {frame:=fr,callers:=[],status:=.blocked,dying:=some d} w #[]) ((D8 _ _).loc w) (if_pos b) fun g s e=>if_pos (show printLockHeld P (rt g s e w)=true from b)
   ·exact He.like (vS _ _ _ w) (if_neg b) fun g s e=>if_neg (show ¬printLockHeld P (rt g s e w)=true from b)
  ·rename_i v mark rest _
   dsimp only;split
   ·exact(D8 _ _).loc w
   ·rename_i s _
    have hx:=Calm.loc (Xv (P:=P) s) w #[];have e:∀w,(withAddress s).run P w=((withAddress s).runT P w #[]).1:=λw=>by rw[Sem.runT_eq]
    simp only[e];generalize hr:(withAddress s).runT P w #[]=r;obtain⟨r,j⟩:=r;cases r with
    | ok a w'=>exact He.case hx hr ((D8 _ #[]).loc w') (λ_=>trivial) λw₁ w₂ h=>by simp only[h,Result.put];rfl
    | halt h w'=>exact He.case hx hr ((Az _ #[]).loc w') (λc=>c.elim) λw₁ w₂ h=>by simp only[h,Result.put];rfl
   ·rename_i t recv name _
    have hx:=O7 _ 0 (Nk i (.fn (.method name) #[]) #[.iface t recv]) w #[];generalize hr:(invoke (.fn (.method name) #[]) #[.iface t recv]).runT P w #[]=r;obtain⟨r,j⟩:=r;cases r with
    | ok a w'=>
     cases a
     case enter f args=>exact zt0
     case value x=>
      cases x
      case string s=>exact zt0
      all_goals exact He.caseOld hx hr (H8 _ (Az _ #[])) (λw c=>by rw[H7] at c;exact c) λw₁ w₂ h=>by simp only[h,Result.put];rfl
     all_goals exact He.caseOld hx hr (H8 _ (Az _ #[])) (λw c=>by rw[H7] at c;exact c) λw₁ w₂ h=>by simp only[h,Result.put];rfl
    | halt h w'=>
     cases h
     case panic v=>exact He.case hx hr (He.after _ ((Vy fr v).loc w')) (λ_ x=>x) λw₁ w₂ h=>by simp only[h,Result.put];rfl
     case unsupported u=>exact He.case hx hr (He.after _ ((Az _ #[]).loc w')) (λc=>by rw[H7] at c;exact c.elim) λw₁ w₂ h=>by simp only[h,Result.put];rfl
     all_goals exact He.caseOld hx hr (H8 _ (Az _ #[])) (λw c=>by rw[H7] at c;exact c) λw₁ w₂ h=>by simp only[h,Result.put];rfl
   ·exact(Az _ _).loc w
theorem Ay6 (b:OkP P)(main:Bool)(g:Goroutine)(hg:DJ g.frame)(w:World):He (λw=>stepG P main g w) w:=by
 unfold stepG;obtain⟨c,f,e,d,off⟩:=g;dsimp only;split
 ·exact k9 b _ _ w
 ·exact iN b main _ hg _ _ w
 ·exact Auz b main _ _ _ w
end
section
variable {a:Addr}{h:Halt}{α:Type}
variable {P : Program}{w : World}
def Zy {α:Type}:Result α->Prop
  | .ok _ _=>True
  | .halt .blocked _ | .halt .waiting _ | .halt (.unsupported _) _ | .halt (.stuck _) _=>False
  | _=>True
def Yz (es:Array Event):Prop:=∀e∈es,∀m,e.loc=.mark m->e.sync=true
theorem O9 {es:Array Event}{e:Event}(h:Yz es)(c:∀m,e.loc=.mark m->e.sync=true):Yz (es.push e):=by
  intro x b;rcases Array.mem_push.1 b with b | rfl
  · exact h x b
  · exact c
theorem deaf_push (d:Nat)(es:Array Event)(e:Event):deafBehind d (es.push e)=match e.loc with | .mark .disable=>deafBehind d es+1 | .mark .enable=>deafBehind d es - 1 | _=>deafBehind d es:=by
  unfold deafBehind;rw[Array.foldl_push];rfl
theorem Z9 (d:Nat)(es:Array Event)(a:Addr)(b c:Bool):deafBehind d (es.push ⟨.cell a,b,c⟩)=deafBehind d es:=by rw[deaf_push]
theorem Zh (d:Nat)(es:Array Event)(b c:Bool)(l:List Addr):deafBehind d (es++l.toArray.map (⟨.cell ·,b,c⟩))=deafBehind d es/\(Yz es->Yz (es++l.toArray.map (⟨.cell ·,b,c⟩))):=by
  refine⟨?_,λh x e=>?_⟩
  · unfold deafBehind
    rw[Array.foldl_append];simp only[EL,Cd,CW,List.foldl_toArray'];generalize Array.foldl _ d es=n;induction l generalizing n with
    | nil=>rfl
    | cons a l g=>exact g n
  · rcases Array.mem_append.1 e with e | e
    · exact h x e
    · obtain⟨a,_,rfl⟩:=Array.mem_map.1 e
      intro m f;cases f
theorem rL {b:Bool}(c:w.farLoad P a b=.error h):¬Zy (.halt h w:Result Unit):=by
  unfold World.farLoad at c;have d:∀s,¬Zy (.halt (w.noCell a s) w:Result Unit):=by
    intro s;unfold World.noCell;split<;>exact id
  split at c
  · split at c
    · cases c
    · cases c;exact id
  · cases c;exact d _
theorem pN {v:Value}{b:Bool}(c:w.farStore P a v b=.error h):¬Zy (.halt h w:Result Unit):=by
  unfold World.farStore at c;have d:∀s,¬Zy (.halt (w.noCell a s) w:Result Unit):=by
    intro s;unfold World.noCell;split<;>exact id
  split at c
  · split at c
    · cases c
    · cases c;exact id
  · cases c;exact d _
theorem VK {w w':World}:Zy (.halt h w:Result α)↔Zy (.halt h w':Result Unit):=by cases h<;>exact Iff.rfl
theorem Zl {N:α->Prop}{x:Sem α}:∀{d:Nat} (_:C2 P N d x) (w:World) (es:Array Event),deafBehind 0 es=d->Yz es->Yz (x.runT P w es).2/\(Zy (x.runT P w es).1->deafBehind 0 (x.runT P w es).2=0):=by
  induction x with
  | pure a=>intro d e w es hd b;exact⟨b,λ_=>hd.trans e.1⟩
  | halt h=>
    intro d e w es hd b;refine⟨b,λg=>?_⟩;rcases e with p | p
    · exact hd.trans p
    · cases h<;>first | exact g.elim | exact p.elim
  | load m a k f=>
    intro d e w es hd b;simp only[Sem.runT];split
    · exact f _ (e _) w _ (by rw[Z9];exact hd) (O9 b (λm i=>by cases i))
    · split
      · rename_i v l _
        exact f _ (e _) w _ (by rw[(Zh 0 es _ _ l).1];exact hd) ((Zh 0 es _ _ l).2 b)
      · rename_i h j
        exact⟨b,λg=>absurd (VK.1 g) (rL j)⟩
  | store m a v k f=>
    intro d e w es hd b;cases v<;>simp only[Sem.runT]<;>first
      | exact⟨b,λg=>g.elim⟩
      | (split
         · split
           · exact⟨b,λg=>g.elim⟩
           · exact f e _ _ (by rw[Z9];exact hd) (O9 b (λm i=>by cases i))
         · split
           · rename_i s l _
             exact f e _ _ (by rw[(Zh 0 es _ _ l).1];exact hd) ((Zh 0 es _ _ l).2 b)
           · rename_i h j
             exact⟨b,λg=>absurd (VK.1 g) (pN j)⟩)
  | new o k f=>intro d e w es hd b;exact f _ (e _) _ es hd b
  | shape r k f=>intro d e w es hd b;exact f _ (e _) _ es hd b
  | freeze a n k f=>intro d e w es hd b;exact f e _ es hd b
  | frozen a k f=>intro d e w es hd b;exact f _ (e _) _ es hd b
  | getObj r k f=>
    intro d e w es hd b;simp only[Sem.runT];split
    · exact⟨b,λg=>g.elim⟩
    · exact f _ (e _) w _ (by rw[deaf_push];exact hd) (O9 b (λm i=>by cases i))
    · exact⟨b,λg=>g.elim⟩
  | setObj r o k f=>
    intro d e w es hd b;simp only[Sem.runT];split
    · exact⟨b,λg=>g.elim⟩
    · exact f e _ _ (by rw[deaf_push];exact hd) (O9 b (λm i=>by cases i))
    · exact⟨b,λg=>g.elim⟩
  | choose q k f=>
    intro d e w es hd b;simp only[Sem.runT];split
    · exact f _ (e _) w es hd b
    · exact f _ (e _) _ es hd b
  | sys c k f=>intro d e w es hd b;exact f _ (e.2 _) _ _ (by rw[deaf_push];exact hd) (O9 b (λm i=>by cases i))
  | program k f=>intro d e w es hd b;exact f _ e w es hd b
  | mark m k f=>
    intro d e w es hd b;refine f e w _ ?_ (O9 b (λ_ _=>rfl));rw[deaf_push,hd];cases m<;>rfl
theorem PP (fn:FuncId)(es:Array Event)(h:Yz es):deafBehind 0 (seen P fn es)=deafBehind 0 es:=by
  have key:∀(l:List Event) (q:Bool) (kept:Array Event),(∀e∈l,∀m,e.loc=.mark m->e.sync=true)->
      deafBehind 0 (l.foldl (λ(x:Bool × Array Event) e=>match e.loc with
        | .mark (.extern f)=>((P.funcs[f]?).any (·.norace),x.2)
        | _=>(x.1,if x.1 && !e.sync then x.2 else x.2.push e)) (q,kept)).2=l.foldl (λd e=>match e.loc with | .mark .disable=>d+1 | .mark .enable=>d - 1 | _=>d) (deafBehind 0 kept):=by
    intro l;induction l with
    | nil=>exact λq kept _=>rfl
    | cons e l c=>
      intro q kept i;simp only[List.foldl_cons];have g:=λx k=>i x (CQ _ k)
      obtain⟨j,wr,b⟩:=e;cases j with
      | mark m=>
        have n:b=true:=i ⟨.mark m,wr,b⟩ E4 m rfl;subst n;cases m<;>(simp only[Ks,Bool.and_false,DU,C7];rw[c _ _ g];try rw[deaf_push])
      | _=>
        simp only;rw[c _ _ g];split
        · rfl
        · rw[deaf_push]
  unfold seen;dsimp only;rw[<-Array.foldl_toList];refine(key es.toList _ #[] (λe o=>h e (Array.mem_toList_iff.1 o))).trans ?_;show List.foldl _ 0 es.toList=deafBehind 0 es
  unfold deafBehind;rw[<-Array.foldl_toList];rfl
end
