import Derived.Test.YtobbpffcggchmaaGreatDoorCB6
namespace Go.Co
section
variable {es:Array Event}{α:Type}
variable {P : Program}{w : World}
theorem Z5 {N:α->Prop}{x:Sem α}{d:Nat}(hx:Sat P N d x):∀a,(∃e,(x.runT P w es).1=.ok a e)->N a:=by
  induction x generalizing d w es with
  | pure a=>rintro b ⟨e,h⟩;cases h;exact hx.2
  | halt h=>rintro b ⟨e,h⟩;cases h
  | load m a k f=>
    rintro b ⟨e,h⟩;simp only[Sem.runT] at h;split at h
    · exact f _ (hx _) b ⟨e,h⟩
    · split at h
      · exact f _ (hx _) b ⟨e,h⟩
      · cases h
  | store m a v k f=>
    rintro b ⟨e,h⟩;cases v<;>simp only[Sem.runT] at h<;>first
      | (cases h;done)
      | (split at h
         · split at h
           · cases h
           · exact f hx b ⟨e,h⟩
         · split at h
           · exact f hx b ⟨e,h⟩
           · cases h)
  | new o k f=>rintro b ⟨e,h⟩;exact f _ (hx _) b ⟨e,h⟩
  | shape r k f=>rintro b ⟨e,h⟩;exact f _ (hx _) b ⟨e,h⟩
  | freeze a n k f=>rintro b ⟨e,h⟩;exact f hx b ⟨e,h⟩
  | frozen a k f=>rintro b ⟨e,h⟩;exact f _ (hx _) b ⟨e,h⟩
  | getObj r k f=>
    rintro b ⟨e,h⟩;simp only[Sem.runT] at h;split at h
    · cases h
    · exact f _ (hx _) b ⟨e,h⟩
    · cases h
  | setObj r o k f=>
    rintro b ⟨e,h⟩;simp only[Sem.runT] at h;split at h
    · cases h
    · exact f hx b ⟨e,h⟩
    · cases h
  | choose q k f=>
    rintro b ⟨e,h⟩;simp only[Sem.runT] at h;split at h
    · exact f _ (hx _) b ⟨e,h⟩
    · exact f _ (hx _) b ⟨e,h⟩
  | sys c k f=>rintro b ⟨e,h⟩;exact f _ (hx.2 _) b ⟨e,h⟩
  | program k f=>rintro b ⟨e,h⟩;exact f _ hx b ⟨e,h⟩
  | mark m k f=>rintro b ⟨e,h⟩;exact f hx b ⟨e,h⟩
theorem Gl.case {F:World->GStep}{x:Sem α}{ev:Array Event}(hx:A03 P x w es){r:Result α}(hr:x.runT P w es=(r,ev)){G:World->GStep}(A:Gl G r.w)(u:(G r.w).cont->r.cont)
    (hF:∀g k,x.runT P g es=(r.put k,ev)->F g=G k):Gl F w:=by
  obtain⟨h1,f,K,B,j,n⟩:=hx;obtain⟨t,l,L,y,q,z⟩:=A;rw[hr] at h1 f B j n;have v:r.put r.w=r:=by cases r<;>rfl
  have b:=hF w r.w (by rw[v];exact hr);refine⟨by rw[b];exact t.trans h1,by rw[b];exact A9f f l,max K L,by rw[b];exact A9f y (Bbp _ _),λc=>?_,fun d s e m hA=>?_⟩
  · rw[b] at c ⊢
    rw[j (u c),q c];exact Nat.max_eq_right l
  · have i:=n d s e m (hA.mono (Bb6 _ _))
    have o:r.turn (rt d s e)=r.put (rt d s e r.w):=by cases r<;>rfl
    rw[o] at i;rw[hF _ _ i,b];exact z d s e (A9f m f) yEd
theorem A2h {d:Deferred}{fr:Frame}(h:((d.target matches .nil) && (fr.mode matches .panicking _))=true):d.target=.nil/\∃c,fr.mode=.panicking c:=by
  cases b:d.target<;>cases e:fr.mode<;>simp[b,e] at h ⊢
theorem z6 {p:Prop}(h:p:=by
 exact go {frame:=fr,callers:=cs,status:=.running,dying:=dy} λw₁ w₂ h=>by unfold callDeferred;refine(if_neg hn).trans ?_;simp only[h]):p:=h
theorem Acy (y:OkP P)(fr:Frame)(cs:List Frame)(dy:Option Dying)(d:Deferred)(w:World):Gl (λw=>callDeferred P fr cs dy d w) w:=by
  by_cases n:d.target=.nil/\∃c,fr.mode=.panicking c
  · obtain⟨s,c,A⟩:=n
    refine Gl.congr ((Ba (.unsupported (.noEntry "machine/Return: a deferred call of a nil function value, made while the frame is unwinding") (fr.pos P)) #[]).loc w) λw=>?_
    unfold callDeferred;simp[s,A]
  · have hn:=λh=>n (A2h h)
    have o:=Lr y d.target d.args;have i:=Ob _ 0 o w #[];have q:=Z5 (w:=w) (es:=#[]) o;generalize j:(invoke d.target d.args).runT P w #[]=r at q;obtain⟨r,k⟩:=r;cases r with
    | ok a e=>
      have go:∀(g:Goroutine),(∀w₁ w₂,(invoke d.target d.args).runT P w₁ #[]=(.ok a w₂,k)->callDeferred P fr cs dy d w₁=GStep.after (seen P fr.fn k) (.go g w₂))->Gl (λw=>callDeferred P fr cs dy d w) w:=
        λg h=>Gl.case i j (Gl.after _ ((Dp g #[]).loc e)) (λ_=>trivial) h
      cases a<;>first | exact(q _ ⟨_,rfl⟩).elim | skip
      case value v=>exact z6
      case skip=>exact z6
      case enter f args=>exact go {frame:=Frame.enter P f args .deferred,callers:=fr::cs,status:=.running,dying:=dy} λw₁ w₂ h=>by unfold callDeferred;refine(if_neg hn).trans ?_;simp only[h]
      case round l f t assign body=>exact go {frame:=Frame.round l f t assign body .deferred,callers:=fr::cs,status:=.running,dying:=dy} λw₁ w₂ h=>by unfold callDeferred;refine(if_neg hn).trans ?_;simp only[h]
      case defer z=>exact z6
      case spawn z=>exact z6
      case comm c b B=>exact z6
      case row row args=>exact go {frame:=Frame.ofRow P row args .deferred,callers:=fr::cs,status:=.running,dying:=dy} λw₁ w₂ h=>by unfold callDeferred;refine(if_neg hn).trans ?_;simp only[h]
      case recover=>
        refine go {frame:=fr,callers:=(match fr.mode,tryRecover fr cs with | .returning,some (_,callers)=>callers | _,_=>cs),status:=.running,dying:=dy} λw₁ w₂ h=>?_
        unfold callDeferred;refine(if_neg hn).trans ?_;simp only[h];split<;>simp_all
      case coroswitch c x=>
        cases x with
        | true=>exact Gl.case i j (Gl.after (seen P fr.fn k) (Xq.loc (F:=λw=>GStep.coroswitch {frame:=fr,callers:=cs,status:=.running,dying:=dy} c true w) (λ_=>⟨rfl,λ_=>rfl⟩) e)) (λ_=>trivial) λw₁ w₂ h=>by unfold callDeferred;refine(if_neg hn).trans ?_;simp only[h,Result.put]
        | false=>exact Gl.case i j (Gl.after (seen P fr.fn k) ((Ba (.unsupported (.noEntry "a deferred call of iter.newcoro or iter.coroswitch") (fr.pos P)) #[]).loc e)) (λ_=>trivial) λw₁ w₂ h=>by unfold callDeferred;refine(if_neg hn).trans ?_;simp only[h,Result.put]
    | halt h e=>
      cases h
      case panic v=>exact Gl.case i j (Gl.after (seen P fr.fn k) ((Dp {frame:=fr.raise [{v,recovered:=false}],callers:=cs,status:=.running,dying:=dy} #[]).loc e)) (λ_ x=>x) λw₁ w₂ h=>by unfold callDeferred;refine(if_neg hn).trans ?_;simp only[h,Result.put]
      case exit c=>exact Gl.case i j (Gl.after (seen P fr.fn k) ((Ba (.exit c) #[]).loc e)) (λ_ x=>x) λw₁ w₂ h=>by unfold callDeferred;refine(if_neg hn).trans ?_;simp only[h,Result.put]
      case fatal m=>exact Gl.case i j (Gl.after (seen P fr.fn k) (Ab5 (P:=P) fr cs dy m e)) (λ_ x=>x) λw₁ w₂ h=>by unfold callDeferred;refine(if_neg hn).trans ?_;simp only[h,Result.put]
      case throw m=>exact Gl.case i j (Gl.after (seen P fr.fn k) (Xq.loc (F:=λw=>endThrow fr m w) (λ_=>⟨rfl,λ_=>rfl⟩) e)) (λ_ x=>x) λw₁ w₂ h=>by unfold callDeferred;refine(if_neg hn).trans ?_;simp only[h,Result.put]
      case unsupported u=>exact Gl.case i j (Gl.after (seen P fr.fn k) ((Ba (.unsupported u (fr.pos P)) #[]).loc e)) (λc=>by rw[Gy] at c;exact c.elim) λw₁ w₂ h=>by unfold callDeferred;refine(if_neg hn).trans ?_;simp only[h,Result.put]
      case stuck m=>exact Gl.case i j (Gl.after (seen P fr.fn k) ((Ba (.stuck m (fr.pos P)) #[]).loc e)) (λc=>by rw[Gy] at c;exact c.elim) λw₁ w₂ h=>by unfold callDeferred;refine(if_neg hn).trans ?_;simp only[h,Result.put]
      case goexit=>exact Gl.case i j (Gl.after (seen P fr.fn k) ((Dp {frame:=fr.raise [goexitEntry],callers:=cs,status:=.running,dying:=dy} #[]).loc e)) (λ_ x=>x) λw₁ w₂ h=>by unfold callDeferred;refine(if_neg hn).trans ?_;simp only[h,Result.put]
      case blocked=>exact Gl.case i j (Gl.after (seen P fr.fn #[]) ((Dp {frame:={fr with defers:=d::fr.defers},callers:=cs,status:=.blocked,dying:=dy} #[]).loc e)) (λc=>by rw[Gy] at c;cases c) λw₁ w₂ h=>by unfold callDeferred;refine(if_neg hn).trans ?_;simp only[h,Result.put]
      case waiting=>exact Gl.case i j (Gl.after (seen P fr.fn #[]) ((Dp {frame:={fr with defers:=d::fr.defers},callers:=cs,status:=.waiting,dying:=dy} #[]).loc e)) (λc=>by rw[Gy] at c;cases c) λw₁ w₂ h=>by unfold callDeferred;refine(if_neg hn).trans ?_;simp only[h,Result.put]
theorem Ata (g:OkP P)(main:Bool)(fr:Frame)(cs:List Frame)(b:Option Dying)(w:World):Gl (λw=>unwind P main fr cs b w) w:=by
  unfold unwind;split
  · rename_i block _ i _
    refine(Ac9 (P:=P) (x:=Instr.takeDeferred block) spz (λr es=>GStep.after (seen P fr.fn es) (match r with
      | .ok calls w=>GStep.go {frame:={fr with defers:=calls++i},callers:=cs,status:=.running,dying:=b} w
      | .halt _ w=>.ended (.stuck "the deferred calls of a range-over-func loop have been taken" (fr.pos P)) w)) (λa es=>Gz _ (Dp _ _)) (λh es=>Gz _ (Ba _ _)) (λh w es _ c=>by rw[Gy] at c;exact c) w).congr λw=>rfl
  · exact Acy g _ _ _ _ w
  · split
    · exact(Ba _ _).loc w
    · rename_i chain _
      split
      · exact(Ba _ _).loc w
      · split
        · exact(Dp _ _).loc w
        · split
          · split
            · exact(Dp _ _).loc w
            · have f:Gl (λw=>(λr:Result (List (Value × String))=>match r with | .ok todo w=>GStep.go {frame:=fr,callers:=[],status:=.running,dying:=some {todo:=todo,texts:=[],calling:=false,pending:= "",runtimeError:=isRuntimeError P (chain.head?.map (·.v))} } w | .halt (.unsupported u) w=>.ended (.unsupported u "") w | .halt _ w=>.ended (.stuck "the report of a panic" "") w) ((reportChain chain false).run P w)) w:=by
                refine Gl.bindR (P:=P) (x:=reportChain chain false) (λr:Result (List (Value × String))=>match r with | .ok todo w=>GStep.go {frame:=fr,callers:=[],status:=.running,dying:=some {todo:=todo,texts:=[],calling:=false,pending:= "",runtimeError:=isRuntimeError P (chain.head?.map (·.v))} } w | .halt (.unsupported u) w=>.ended (.unsupported u "") w | .halt _ w=>.ended (.stuck "the report of a panic" "") w) (Calm.loc (V9 _ _) w #[]) ?_ ?_
                · generalize Sem.run P _ w=r
                  cases r with
                  | ok a d=>exact(Dp _ _).loc _
                  | halt h d=>cases h<;>exact(Ba _ _).loc _
                · generalize Sem.run P _ w=r
                  cases r with
                  | ok a d=>exact λ_=>trivial
                  | halt h d=>cases h<;>exact λx=>x.elim
              exact f.congr λw=>rfl
          · split
            · exact(Ut fr _).loc w
            · exact(Ba _ _).loc w
    · split
      · exact(Ub _ _ _ _ _).loc w
      · rename_i e _
        refine(Ac9 (P:=P) (x:=results e fr.tmps) (Acg _ _) (λr es=>GStep.after (seen P fr.fn es) (match r with
          | .ok v w=>doReturn P main fr cs b v w
          | .halt (.stuck s) w=>.ended (.stuck s (fr.pos P)) w
          | .halt _ w=>.ended (.stuck "return: the result variables cannot be read" (fr.pos P)) w)) (λa es=>Gz _ (Ub _ _ _ _ _)) (λh es=>?_) (λh w es _ c=>?_) w).congr λw=>rfl
        · cases h<;>exact Gz _ (Ba _ _)
        · rw[Gy] at c;cases h<;>exact c
end
section
variable {P : Program}{w : World}
theorem Gl.caseOld {α:Type}{F:World->GStep}{x:Sem α}{es ev:Array Event}(hx:A03 P x w es){r:Result α}(hr:x.runT P w es=(r,ev)){G:World->GStep}(k:Xq G)(y:∀w,¬(G w).cont)
  (hF:∀d q,x.runT P d es=(r.put q,ev)->F d=G d):Gl F w:=by
 obtain⟨v,j,K,m,o,l⟩:=hx;rw[hr] at v j m o l;have t:r.put r.w=r:=by cases r<;>rfl
 have b:=hF w r.w (by rw[t];exact hr);have f:=(k w).1;refine⟨by rw[b,f],by rw[b,f];exact A88 _,K,by rw[b,f];exact A9f j m,λc=>by rw[b] at c;exact(y w c).elim,fun g s e u p=>?_⟩;have i:=l g s e u p;have n:r.turn (rt g s e)=r.put (rt g s e r.w):=by cases r<;>rfl
 rw[n] at i;rw[hF _ _ i,b];exact(k w).2 _
theorem Aol (b:Nat)(text:ByteArray)(o:Outcome)(w:World):Gl (λw=>endWith w b text o) w:=by
 obtain⟨n,g,m,l⟩:=Aqd (.write b text) w;have k:∀w,∃d,endWith w b text o=.ended d (w.sys (.write b text)).2:=by
  intro w;unfold endWith;generalize w.sys (.write b text)=x;obtain⟨r,q⟩:=x;cases r<;>dsimp only<;>first
   | exact⟨_,rfl⟩
   | (split<;>exact⟨_,rfl⟩)
 obtain⟨d,c⟩:=k w;have j:(w.sys (.write b text)).2.drawn<=(w.ask (Kernel.perform (.write b text) w.os)).2.drawn:=by
  by_cases f:(w.sys (.write b text)).1=.wouldBlock
  ·exact l f
  ·exact Nat.le_of_eq (m f)
 refine⟨by rw[c];exact n,by rw[c];exact g,(w.ask (Kernel.perform (.write b text) w.os)).2.drawn,by rw[c];exact j,by rw[c];exact λx=>x.elim,fun u s e p i=>?_⟩;have t:=Ano (.write b text) w p i;unfold endWith;rw[t];generalize w.sys (.write b text)=x;obtain⟨r,q⟩:=x;cases r<;>dsimp only<;>first
  | rfl
  | (split<;>rfl)
theorem Abw (fr:Frame)(d:Dying)(f:Fatal)(piece:ByteArray)(rest:List ByteArray)(b:f.pieces=piece::rest):∃X:Sem Unit,Sat P (λ_=>True) 0 X/\
  ∀w,writeOn P fr d f w=match X.runT P w #[] with
   | (.ok _ w,es)=>GStep.go {frame:=fr,callers:=[],status:=.running,dying:=some {d with fatal:=some {f with pieces:=rest,begun:=true} } } w es
   | (.halt .blocked w,_)=>GStep.go {frame:=fr,callers:=[],status:=.blocked,dying:=some {d with fatal:=some f} } w #[]
   | (.halt (.unsupported u) w,_)=>.ended (.unsupported u "") w
   | (.halt _ w,_)=>.ended (.stuck "the report of a fatal error" "") w:=by
 unfold writeOn;simp only[b];refine⟨_,?_,λw=>rfl⟩;repeat' first
  | exact He trivial
  | refine Ad1 ?_
  | refine Ag0 ?_
  | refine Ako (λ_=>?_)
  | with_reducible refine Nz ?_
  | refine Agy ?_
  | exact .inl rfl
  | exact .inr trivial
  | refine Ea Jz (λ_=>?_)
  | (refine⟨trivial,λr=>?_⟩;cases r)
  | split
 all_goals
  show Sat P (λ_=>True) 0 (if _ then unsupported _ else pure ())
  split
  ·exact .inl rfl
  ·exact He trivial
theorem Aok (fr:Frame)(d:Dying)(f:Fatal)(w:World):Gl (λw=>writeOn P fr d f w) w:=by
 cases k:f.pieces with
 | nil=>
  refine Gl.congr ((Ba (.fatal f.text) #[]).loc w) λw=>?_
  unfold writeOn;simp only[k]
 | cons piece rest=>
  obtain⟨X,l,hF⟩:=Abw (P:=P) fr d f piece rest k;have e:=Ob X 0 l w #[];generalize g:X.runT P w #[]=r;obtain⟨r,m⟩:=r;cases r with
  | ok a b=>exact Gl.case e g ((Dp {frame:=fr,callers:=[],status:=.running,dying:=some {d with fatal:=some {f with pieces:=rest,begun:=true} } } m).loc b) (λ_=>trivial) λi j h=>by rw[hF,h];rfl
  | halt h b=>
   cases h<;>first
    | exact Gl.case e g ((Dp {frame:=fr,callers:=[],status:=.blocked,dying:=some {d with fatal:=some f} } #[]).loc b) (λc=>by cases c) λi j h=>by rw[hF,h];rfl
    | (rename_i u;exact Gl.case e g ((Ba (.unsupported u "") #[]).loc b) (λc=>c.elim) λi j h=>by rw[hF,h];rfl)
    | exact Gl.case e g ((Ba (.stuck "the report of a fatal error" "") #[]).loc b) (λc=>c.elim) λi j h=>by rw[hF,h];rfl
theorem zw0 {p:Prop}(h:p:=by
 exact Gl.case hx hr (Gl.after _ ((Dp _ #[]).loc w')) (λ_=>trivial) λw₁ w₂ h=>by simp only[h,Result.put];rfl):p:=h
theorem A5g (i:OkP P)(fr:Frame)(d:Dying)(w:World):Gl (λw=>die P fr d w) w:=by
 unfold die;split
 ·exact Aok fr d _ w
 ·split
  ·by_cases b:printLockHeld P w=true
   ·exact Gl.like (G:=λw=>GStep.go {frame:=fr,callers:=[],status:=.blocked,dying:=some d} w #[]) ((Dp _ _).loc w) (if_pos b) fun g s e=>if_pos (show printLockHeld P (rt g s e w)=true from b)
   ·exact Gl.like (Aol _ _ _ w) (if_neg b) fun g s e=>if_neg (show ¬printLockHeld P (rt g s e w)=true from b)
  ·rename_i v mark rest _
   dsimp only;split
   ·exact(Dp _ _).loc w
   ·rename_i s _
    have hx:=Calm.loc (V8 (P:=P) s) w #[];have e:∀w,(withAddress s).run P w=((withAddress s).runT P w #[]).1:=λw=>by rw[Sem.runT_eq]
    simp only[e];generalize hr:(withAddress s).runT P w #[]=r;obtain⟨r,j⟩:=r;cases r with
    | ok a w'=>exact Gl.case hx hr ((Dp _ #[]).loc w') (λ_=>trivial) λw₁ w₂ h=>by simp only[h,Result.put];rfl
    | halt h w'=>exact Gl.case hx hr ((Ba _ #[]).loc w') (λc=>c.elim) λw₁ w₂ h=>by simp only[h,Result.put];rfl
   ·rename_i t recv name _
    have hx:=Ob _ 0 (Lr i (.fn (.method name) #[]) #[.iface t recv]) w #[];generalize hr:(invoke (.fn (.method name) #[]) #[.iface t recv]).runT P w #[]=r;obtain⟨r,j⟩:=r;cases r with
    | ok a w'=>
     cases a
     case enter f args=>exact zw0
     case value x=>
      cases x
      case string s=>exact zw0
      all_goals exact Gl.caseOld hx hr (Gz _ (Ba _ #[])) (λw c=>by rw[Gy] at c;exact c) λw₁ w₂ h=>by simp only[h,Result.put];rfl
     all_goals exact Gl.caseOld hx hr (Gz _ (Ba _ #[])) (λw c=>by rw[Gy] at c;exact c) λw₁ w₂ h=>by simp only[h,Result.put];rfl
    | halt h w'=>
     cases h
     case panic v=>exact Gl.case hx hr (Gl.after _ ((Ut fr v).loc w')) (λ_ x=>x) λw₁ w₂ h=>by simp only[h,Result.put];rfl
     case unsupported u=>exact Gl.case hx hr (Gl.after _ ((Ba _ #[]).loc w')) (λc=>by rw[Gy] at c;exact c.elim) λw₁ w₂ h=>by simp only[h,Result.put];rfl
     all_goals exact Gl.caseOld hx hr (Gz _ (Ba _ #[])) (λw c=>by rw[Gy] at c;exact c) λw₁ w₂ h=>by simp only[h,Result.put];rfl
   ·exact(Ba _ _).loc w
theorem Ayf (b:OkP P)(main:Bool)(g:Goroutine)(hg:Zi g.frame)(w:World):Gl (λw=>stepG P main g w) w:=by
 unfold stepG;obtain⟨f,e,d,c,off⟩:=g;dsimp only;split
 ·exact A5g b _ _ w
 ·exact A2r b main _ hg _ _ w
 ·exact Ata b main _ _ _ w
end
section
variable {a:Addr}{h:Halt}{α:Type}
variable {P : Program}{w : World}
def Yj {α:Type}:Result α->Prop
  | .ok _ _=>True
  | .halt .blocked _ | .halt .waiting _ | .halt (.unsupported _) _ | .halt (.stuck _) _=>False
  | _=>True
def Xt (es:Array Event):Prop:=∀e∈es,∀m,e.loc=.mark m->e.sync=true
theorem Oh {es:Array Event}{e:Event}(h:Xt es)(c:∀m,e.loc=.mark m->e.sync=true):Xt (es.push e):=by
  intro x b;rcases Array.mem_push.1 b with b | rfl
  · exact h x b
  · exact c
theorem deaf_push (d:Nat)(es:Array Event)(e:Event):deafBehind d (es.push e)=match e.loc with | .mark .disable=>deafBehind d es+1 | .mark .enable=>deafBehind d es - 1 | _=>deafBehind d es:=by
  unfold deafBehind;rw[Array.foldl_push];rfl
theorem Yo (d:Nat)(es:Array Event)(a:Addr)(b c:Bool):deafBehind d (es.push ⟨.cell a,b,c⟩)=deafBehind d es:=by rw[deaf_push]
theorem X6 (d:Nat)(es:Array Event)(b c:Bool)(l:List Addr):deafBehind d (es++l.toArray.map (⟨.cell ·,b,c⟩))=deafBehind d es/\(Xt es->Xt (es++l.toArray.map (⟨.cell ·,b,c⟩))):=by
  refine⟨?_,λh x e=>?_⟩
  · unfold deafBehind
    rw[Array.foldl_append];simp only[Bad,A86,A9j,List.foldl_toArray'];generalize Array.foldl _ d es=n;induction l generalizing n with
    | nil=>rfl
    | cons a l f=>exact f n
  · rcases Array.mem_append.1 e with e | e
    · exact h x e
    · obtain⟨a,_,rfl⟩:=Array.mem_map.1 e
      intro m g;cases g
theorem Ajb {b:Bool}(c:w.farLoad P a b=.error h):¬Yj (.halt h w:Result Unit):=by
  unfold World.farLoad at c;have d:∀s,¬Yj (.halt (w.noCell a s) w:Result Unit):=by
    intro s;unfold World.noCell;split<;>exact id
  split at c
  · split at c
    · cases c
    · cases c;exact id
  · cases c;exact d _
theorem Agl {v:Value}{b:Bool}(c:w.farStore P a v b=.error h):¬Yj (.halt h w:Result Unit):=by
  unfold World.farStore at c;have d:∀s,¬Yj (.halt (w.noCell a s) w:Result Unit):=by
    intro s;unfold World.noCell;split<;>exact id
  split at c
  · split at c
    · cases c
    · cases c;exact id
  · cases c;exact d _
theorem Ae0 {w w':World}:Yj (.halt h w:Result α)↔Yj (.halt h w':Result Unit):=by cases h<;>exact Iff.rfl
theorem Ya {N:α->Prop}{x:Sem α}:∀{d:Nat} (_:Sat P N d x) (w:World) (es:Array Event),deafBehind 0 es=d->Xt es->Xt (x.runT P w es).2/\(Yj (x.runT P w es).1->deafBehind 0 (x.runT P w es).2=0):=by
  induction x with
  | pure a=>intro d e w es hd b;exact⟨b,λ_=>hd.trans e.1⟩
  | halt h=>
    intro d e w es hd b;refine⟨b,λg=>?_⟩;rcases e with j | j
    · exact hd.trans j
    · cases h<;>first | exact g.elim | exact j.elim
  | load m a k f=>
    intro d e w es hd b;simp only[Sem.runT];split
    · exact f _ (e _) w _ (by rw[Yo];exact hd) (Oh b (λm i=>by cases i))
    · split
      · rename_i v l _
        exact f _ (e _) w _ (by rw[(X6 0 es _ _ l).1];exact hd) ((X6 0 es _ _ l).2 b)
      · rename_i h p
        exact⟨b,λg=>absurd (Ae0.1 g) (Ajb p)⟩
  | store m a v k f=>
    intro d e w es hd b;cases v<;>simp only[Sem.runT]<;>first
      | exact⟨b,λg=>g.elim⟩
      | (split
         · split
           · exact⟨b,λg=>g.elim⟩
           · exact f e _ _ (by rw[Yo];exact hd) (Oh b (λm i=>by cases i))
         · split
           · rename_i s l _
             exact f e _ _ (by rw[(X6 0 es _ _ l).1];exact hd) ((X6 0 es _ _ l).2 b)
           · rename_i h p
             exact⟨b,λg=>absurd (Ae0.1 g) (Agl p)⟩)
  | new o k f=>intro d e w es hd b;exact f _ (e _) _ es hd b
  | shape r k f=>intro d e w es hd b;exact f _ (e _) _ es hd b
  | freeze a n k f=>intro d e w es hd b;exact f e _ es hd b
  | frozen a k f=>intro d e w es hd b;exact f _ (e _) _ es hd b
  | getObj r k f=>
    intro d e w es hd b;simp only[Sem.runT];split
    · exact⟨b,λg=>g.elim⟩
    · exact f _ (e _) w _ (by rw[deaf_push];exact hd) (Oh b (λm i=>by cases i))
    · exact⟨b,λg=>g.elim⟩
  | setObj r o k f=>
    intro d e w es hd b;simp only[Sem.runT];split
    · exact⟨b,λg=>g.elim⟩
    · exact f e _ _ (by rw[deaf_push];exact hd) (Oh b (λm i=>by cases i))
    · exact⟨b,λg=>g.elim⟩
  | choose q k f=>
    intro d e w es hd b;simp only[Sem.runT];split
    · exact f _ (e _) w es hd b
    · exact f _ (e _) _ es hd b
  | sys c k f=>intro d e w es hd b;exact f _ (e.2 _) _ _ (by rw[deaf_push];exact hd) (Oh b (λm i=>by cases i))
  | program k f=>intro d e w es hd b;exact f _ e w es hd b
  | mark m k f=>
    intro d e w es hd b;refine f e w _ ?_ (Oh b (λ_ _=>rfl));rw[deaf_push,hd];cases m<;>rfl
theorem Ae6 (fn:FuncId)(es:Array Event)(h:Xt es):deafBehind 0 (seen P fn es)=deafBehind 0 es:=by
  have key:∀(l:List Event) (q:Bool) (kept:Array Event),(∀e∈l,∀m,e.loc=.mark m->e.sync=true)->
      deafBehind 0 (l.foldl (λ(x:Bool × Array Event) e=>match e.loc with
        | .mark (.extern f)=>((P.funcs[f]?).any (·.norace),x.2)
        | _=>(x.1,if x.1 && !e.sync then x.2 else x.2.push e)) (q,kept)).2=l.foldl (λd e=>match e.loc with | .mark .disable=>d+1 | .mark .enable=>d - 1 | _=>d) (deafBehind 0 kept):=by
    intro l;induction l with
    | nil=>exact λq kept _=>rfl
    | cons e l g=>
      intro q kept b;simp only[List.foldl_cons];have c:=λx j=>b x (A87 _ j)
      obtain⟨o,wr,i⟩:=e;cases o with
      | mark m=>
        have k:i=true:=b ⟨.mark m,wr,i⟩ Bau m rfl;subst k;cases m<;>(simp only[Bb5,Bool.and_false,A89,Bam];rw[g _ _ c];try rw[deaf_push])
      | _=>
        simp only;rw[g _ _ c];split
        · rfl
        · rw[deaf_push]
  unfold seen;dsimp only;rw[<-Array.foldl_toList];refine(key es.toList _ #[] (λe n=>h e (Array.mem_toList_iff.1 n))).trans ?_;show List.foldl _ 0 es.toList=deafBehind 0 es
  unfold deafBehind;rw[<-Array.foldl_toList];rfl
end
end Go.Co
