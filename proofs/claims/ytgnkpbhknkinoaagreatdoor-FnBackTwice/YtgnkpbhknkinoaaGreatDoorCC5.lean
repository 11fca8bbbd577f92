import Derived.Test.YtgnkpbhknkinoaaGreatDoorCB6
set_option linter.defProp false
namespace Go.Co
section
variable {es:Array Event}{α:Type}
variable {P : AY}{w : AU}
theorem NT{N:α->Prop}{x:Sem α}{d:Nat}(hx:EA P N d x):∀a,(∃e,(x.runT P w es).1=.ok a e)->N a:=by
 induction x generalizing d w es with
 |pure a=>rintro b⟨e,h⟩;cases h;exact hx.2
 |halt h=>rintro b⟨e,h⟩;cases h
 |load m a k f=>
  rintro b⟨e,h⟩;simp only[Sem.runT]at h;split at h
  . exact f _ (hx _) b ⟨e,h⟩
  . split at h
    . exact f _ (hx _) b ⟨e,h⟩
    . cases h
 |store m a v k f=>
  rintro b⟨e,h⟩;cases v<;>simp only[Sem.runT]at h<;>first
   |(cases h;done)
   | (split at h
      . split at h
        . cases h
        . exact f hx b ⟨e,h⟩
      . split at h
        . exact f hx b ⟨e,h⟩
        . cases h)
 |new o k f=>rintro b⟨e,h⟩;exact f _ (hx _) b ⟨e,h⟩
 |shape r k f=>rintro b⟨e,h⟩;exact f _ (hx _) b ⟨e,h⟩
 |freeze a n k f=>rintro b⟨e,h⟩;exact f hx b ⟨e,h⟩
 |frozen a k f=>rintro b⟨e,h⟩;exact f _ (hx _) b ⟨e,h⟩
 |getObj r k f=>
  rintro b⟨e,h⟩;simp only[Sem.runT]at h;split at h
  . cases h
  . exact f _ (hx _) b ⟨e,h⟩
  . cases h
 |setObj r o k f=>
  rintro b⟨e,h⟩;simp only[Sem.runT]at h;split at h
  . cases h
  . exact f hx b ⟨e,h⟩
  . cases h
 |choose q k f=>
  rintro b⟨e,h⟩;simp only[Sem.runT]at h;split at h
  . exact f _ (hx _) b ⟨e,h⟩
  . exact f _ (hx _) b ⟨e,h⟩
 |sys c k f=>rintro b⟨e,h⟩;exact f _ (hx.2 _) b ⟨e,h⟩
 |program k f=>rintro b⟨e,h⟩;exact f _ hx b ⟨e,h⟩
 |mark m k f=>rintro b⟨e,h⟩;exact f hx b ⟨e,h⟩
theorem G7.case{F:AU->GStep}{x:Sem α}{ev:Array Event}(hx:IX P x w es){r:Result α}(hr:x.runT P w es=(r,ev)){G:AU->GStep}(E:G7 G r.w)(B:(G r.w).cont->r.cont)
    (hF:∀l q,x.runT P l es=(r.put q,ev)->F l=G q):G7 F w:=by
 obtain⟨h1,f,K,A,t,m⟩:=hx;obtain⟨z,o,L,C,v,u⟩:=E;rw[hr]at h1 f A t m;have D:r.put r.w=r:=by cases r<;>rfl
 have b:=hF w r.w (by rwa[D]);refine⟨by rw[b];exact z.tr h1,by rw[b];exact DR f o,max K L,by rw[b];exact DR C (Of _ _),λc=>?_,fun d s e j hA=>?_⟩
 . rw[b]at c⊢
   rw[t (B c),v c];exact Nat.max_eq_right o
 . have n:=m d s e j (hA.mo (MZ _ _))
   have y:r.turn (rt d s e)=r.put (rt d s e r.w):=by cases r<;>rfl
   rw[y]at n;rw[hF _ _ n,b];exact u d s e (DR j f) yEi
theorem kA{d:Deferred}{fr:Frame}(h:((d.target matches .nil) && (fr.mode matches .panicking _))=true):d.target=.nil/\∃c,fr.mode=.panicking c:=by cases e:d.target<;>cases b:fr.mode<;>simp[e,b]at h⊢
def zE{p:Prop}(h:p:=by exact go {frame:=fr,callers:=cs,status:=.running,dying:=dy} λw₁ w₂ h=>by unfold callDeferred;refine(BQ hn).tr ?_;simp only[h]):p:=h
theorem qJ(z:OkP P)(fr:Frame)(cs:List Frame)(dy:Option Dying)(d:Deferred)(w:AU):G7 (λw=>callDeferred P fr cs dy d w) w:=by
 by_cases o:d.target=.nil/\∃c,fr.mode=.panicking c
 . obtain⟨B,c,A⟩:=o
   refine G7.congr ((Bf (.unsupported (.noEntry "machine/Return: a deferred call of a nil function value, made while the frame is unwinding") (fr.pos P)) #[]).loc w) λw=>?_
   unfold callDeferred;simp[B,A]
 . have hn:=λh=>o (kA h)
   have q:=Nk z d.target d.args;have n:=Ox _ 0 q w #[];have s:=NT (w:=w) (es:=#[]) q;generalize j:(invoke d.target d.args).runT P w #[]=r at s;obtain⟨r,ev⟩:=r;cases r with
   |ok a e=>
     have go:∀(g:AX),(∀w₁ w₂,(invoke d.target d.args).runT P w₁ #[]=(.ok a w₂,ev)->callDeferred P fr cs dy d w₁=GStep.after (seen P fr.fn ev) (.go g w₂))->G7 (λw=>callDeferred P fr cs dy d w) w:=
       λg h=>G7.case n j (G7.after _ ((D7 g #[]).loc e)) (λ_=>trivial) h
     cases a<;>first|exact(s _ ⟨_,rfl⟩).elim|skip
     case value v=>exact zE
     case skip=>exact zE
     case enter f args=>exact go {frame:=Frame.enter P f args .deferred,callers:=fr::cs,status:=.running,dying:=dy} λw₁ w₂ h=>by unfold callDeferred;refine(BQ hn).tr ?_;simp only[h]
     case round l f t assign body=>exact go {frame:=Frame.round l f t assign body .deferred,callers:=fr::cs,status:=.running,dying:=dy} λw₁ w₂ h=>by unfold callDeferred;refine(BQ hn).tr ?_;simp only[h]
     case defer y=>exact zE
     case spawn y=>exact zE
     case comm c b C=>exact zE
     case row row args=>exact go {frame:=Frame.ofRow P row args .deferred,callers:=fr::cs,status:=.running,dying:=dy} λw₁ w₂ h=>by unfold callDeferred;refine(BQ hn).tr ?_;simp only[h]
     case recover=>
       refine go {frame:=fr,callers:=(match fr.mode,tryRecover fr cs with|.returning,some (_,callers)=>callers|_,_=>cs),status:=.running,dying:=dy} λw₁ w₂ h=>?_
       unfold callDeferred;refine(BQ hn).tr ?_;simp only[h];split<;>simp_all
     case coroswitch c x=>
       cases x with
       |true=>exact G7.case n j (G7.after (seen P fr.fn ev) (Yo.loc (F:=λw=>GStep.coroswitch {frame:=fr,callers:=cs,status:=.running,dying:=dy} c true w) (λ_=>⟨rfl,λ_=>rfl⟩) e)) (λ_=>trivial) λw₁ w₂ h=>by unfold callDeferred;refine(BQ hn).tr ?_;simp only[h,Result.put]
       |false=>exact G7.case n j (G7.after (seen P fr.fn ev) ((Bf (.unsupported (.noEntry "a deferred call of iter.newcoro or iter.coroswitch") (fr.pos P)) #[]).loc e)) (λ_=>trivial) λw₁ w₂ h=>by unfold callDeferred;refine(BQ hn).tr ?_;simp only[h,Result.put]
   |halt h e=>
     cases h
     case panic v=>exact G7.case n j (G7.after (seen P fr.fn ev) ((D7 {frame:=fr.raise [{v,recovered:=false}],callers:=cs,status:=.running,dying:=dy} #[]).loc e)) (λ_ x=>x) λw₁ w₂ h=>by unfold callDeferred;refine(BQ hn).tr ?_;simp only[h,Result.put]
     case exit c=>exact G7.case n j (G7.after (seen P fr.fn ev) ((Bf (.exit c) #[]).loc e)) (λ_ x=>x) λw₁ w₂ h=>by unfold callDeferred;refine(BQ hn).tr ?_;simp only[h,Result.put]
     case fatal m=>exact G7.case n j (G7.after (seen P fr.fn ev) (V1 (P:=P) fr cs dy m e)) (λ_ x=>x) λw₁ w₂ h=>by unfold callDeferred;refine(BQ hn).tr ?_;simp only[h,Result.put]
     case throw m=>exact G7.case n j (G7.after (seen P fr.fn ev) (Yo.loc (F:=λw=>endThrow fr m w) (λ_=>⟨rfl,λ_=>rfl⟩) e)) (λ_ x=>x) λw₁ w₂ h=>by unfold callDeferred;refine(BQ hn).tr ?_;simp only[h,Result.put]
     case unsupported u=>exact G7.case n j (G7.after (seen P fr.fn ev) ((Bf (.unsupported u (fr.pos P)) #[]).loc e)) (λc=>by rw[Hu]at c;exact c.elim) λw₁ w₂ h=>by unfold callDeferred;refine(BQ hn).tr ?_;simp only[h,Result.put]
     case stuck m=>exact G7.case n j (G7.after (seen P fr.fn ev) ((Bf (.stuck m (fr.pos P)) #[]).loc e)) (λc=>by rw[Hu]at c;exact c.elim) λw₁ w₂ h=>by unfold callDeferred;refine(BQ hn).tr ?_;simp only[h,Result.put]
     case goexit=>exact G7.case n j (G7.after (seen P fr.fn ev) ((D7 {frame:=fr.raise [goexitEntry],callers:=cs,status:=.running,dying:=dy} #[]).loc e)) (λ_ x=>x) λw₁ w₂ h=>by unfold callDeferred;refine(BQ hn).tr ?_;simp only[h,Result.put]
     case blocked=>exact G7.case n j (G7.after (seen P fr.fn #[]) ((D7 {frame:={fr with defers:=d::fr.defers},callers:=cs,status:=.blocked,dying:=dy} #[]).loc e)) (λc=>by rw[Hu]at c;cases c) λw₁ w₂ h=>by unfold callDeferred;refine(BQ hn).tr ?_;simp only[h,Result.put]
     case waiting=>exact G7.case n j (G7.after (seen P fr.fn #[]) ((D7 {frame:={fr with defers:=d::fr.defers},callers:=cs,status:=.waiting,dying:=dy} #[]).loc e)) (λc=>by rw[Hu]at c;cases c) λw₁ w₂ h=>by unfold callDeferred;refine(BQ hn).tr ?_;simp only[h,Result.put]
theorem Aup(e:OkP P)(main:Bool)(fr:Frame)(cs:List Frame)(d:Option Dying)(w:AU):G7 (λw=>unwind P main fr cs d w) w:=by
 unfold unwind;split
 . rename_i block _ l _
   refine(N6 (P:=P) (x:=Instr.takeDeferred block) BU (λr es=>GStep.after (seen P fr.fn es) (match r with
     |.ok calls w=>GStep.go {frame:={fr with defers:=calls++l},callers:=cs,status:=.running,dying:=d} w
     | .halt _ w=>.ended (.stuck "the deferred calls of a range-over-func loop have been taken" (fr.pos P)) w)) (λa es=>Hw _ (D7 _ _)) (λh es=>Hw _ (Bf _ _)) (λh w es _ c=>by rw[Hu] at c;exact c) w).congr λw=>rfl
 . exact qJ e _ _ _ _ w
 . split
   . exact(Bf _ _).loc w
   . rename_i chain _
     split
     . exact(Bf _ _).loc w
     . split
       . exact(D7 _ _).loc w
       . split
         . split
           . exact(D7 _ _).loc w
           . have j:G7 (λw=>(λr:Result (List (AW × String))=>match r with|.ok todo w=>GStep.go {frame:=fr,callers:=[],status:=.running,dying:=some {todo:=todo,texts:=[],calling:=false,pending:= "",runtimeError:=isRuntimeError P (chain.head?.map (·.v))} } w|.halt (.unsupported u) w=>.ended (.unsupported u "") w|.halt _ w=>.ended (.stuck "the report of a panic" "") w) ((reportChain chain false).run P w)) w:=by
               refine G7.bindR (P:=P) (x:=reportChain chain false) (λr:Result (List (AW × String))=>match r with|.ok todo w=>GStep.go {frame:=fr,callers:=[],status:=.running,dying:=some {todo:=todo,texts:=[],calling:=false,pending:= "",runtimeError:=isRuntimeError P (chain.head?.map (·.v))} } w|.halt (.unsupported u) w=>.ended (.unsupported u "") w|.halt _ w=>.ended (.stuck "the report of a panic" "") w) (Calm.loc (Xt _ _) w #[]) ?_ ?_
               . generalize Sem.run P _ w=r
                 cases r with
                 |ok a b=>exact(D7 _ _).loc _
                 |halt h b=>cases h<;>exact(Bf _ _).loc _
               . generalize Sem.run P _ w=r
                 cases r with
                 |ok a b=>exact λ_=>trivial
                 |halt h b=>cases h<;>exact λx=>x.elim
             exact j.congr λw=>rfl
         . split
           . exact(Vt fr _).loc w
           . exact(Bf _ _).loc w
   . split
     . exact(U7 _ _ _ _ _).loc w
     . rename_i f _
       refine(N6 (P:=P) (x:=results f fr.tmps) (WJ _ _) (λr es=>GStep.after (seen P fr.fn es) (match r with
         |.ok v w=>doReturn P main fr cs d v w
         |.halt (.stuck s) w=>.ended (.stuck s (fr.pos P)) w
         | .halt _ w=>.ended (.stuck "return: the result variables cannot be read" (fr.pos P)) w)) (λa es=>Hw _ (U7 _ _ _ _ _)) (λh es=>?_) (λh w es _ c=>?_) w).congr λw=>rfl
       . cases h<;>exact Hw _ (Bf _ _)
       . rw[Hu]at c;cases h<;>exact c
end
section
variable {P : AY}{w : AU}
theorem G7.caseOld{α:Type}{F:AU->GStep}{x:Sem α}{es ev:Array Event}(hx:IX P x w es){r:Result α}(hr:x.runT P w es=(r,ev)){G:AU->GStep}(p:Yo G)(z:∀w,¬(G w).cont)
  (hF:∀d A,x.runT P d es=(r.put A,ev)->F d=G d):G7 F w:=by
 obtain⟨v,l,K,o,B,n⟩:=hx;rw[hr]at v l o B n;have y:r.put r.w=r:=by cases r<;>rfl
 have b:=hF w r.w (by rwa[y]);have j:=(p w).1;refine⟨by rw[b,j],by rw[b,j];exact DK _,K,by rw[b,j];exact DR l o,λc=>by rw[b]at c;exact(z w c).elim,fun f s e t q=>?_⟩;have m:=n f s e t q;have u:r.turn (rt f s e)=r.put (rt f s e r.w):=by cases r<;>rfl
 rw[u]at m;rw[hF _ _ m,b];exact(p w).2 _
theorem vx(b:Nat)(text:ByteArray)(o:Outcome)(w:AU):G7 (λw=>endWith w b text o) w:=by
 have⟨u,j,q,m⟩:=dI (.write b text) w;have v:∀w,∃f,endWith w b text o=.ended f (w.sys (.write b text)).2:=by intro w;unfold endWith;generalize w.sys (.write b text)=x;obtain⟨r,p⟩:=x;cases r<;>dsimp only<;>first|exact⟨_,rfl⟩|(split<;>exact⟨_,rfl⟩)
 have⟨f,c⟩:=v w;have y:(w.sys (.write b text)).2.drawn<=(w.ask (Kernel.perform (.write b text) w.os)).2.drawn:=by by_cases d:(w.sys (.write b text)).1=.wouldBlock;{exact m d};exact Nat.le_of_eq (q d)
 refine⟨by rwa[c],by rwa[c],(w.ask (Kernel.perform (.write b text) w.os)).2.drawn,by rwa[c],by rw[c];exact λx=>x.elim,fun z s e n l=>?_⟩;have t:=SH (.write b text) w n l;unfold endWith;rw[t];generalize w.sys (.write b text)=x;obtain⟨r,p⟩:=x;cases r<;>dsimp only<;>first|rfl|(split<;>rfl)
theorem VX(fr:Frame)(d:Dying)(f:Fatal)(piece:ByteArray)(rest:List ByteArray)(b:f.pieces=piece::rest):∃X:Sem Unit,EA P (λ_=>True) 0 X/\
  ∀w,writeOn P fr d f w=match X.runT P w #[] with
   |(.ok _ w,es)=>GStep.go {frame:=fr,callers:=[],status:=.running,dying:=some {d with fatal:=some {f with pieces:=rest,begun:=true} } } w es
   |(.halt .blocked w,_)=>GStep.go {frame:=fr,callers:=[],status:=.blocked,dying:=some {d with fatal:=some f} } w #[]
   |(.halt (.unsupported u) w,_)=>.ended (.unsupported u "") w
   |(.halt _ w,_)=>.ended (.stuck "the report of a fatal error" "") w:=by
 unfold writeOn;simp only[b];refine⟨_,?_,λw=>rfl⟩;repeat' first|exact Ib trivial|refine WW ?_|refine YH ?_|refine ZT (λ_=>?_)|with_reducible refine Oq ?_|refine YF ?_|exact .inl rfl|exact .inr trivial|refine Eg Kv (λ_=>?_)|(refine⟨trivial,λr=>?_⟩;cases r)|split
 all_goals show EA P (λ_=>True) 0 (if _ then unsupported _ else pure ());split;{exact .inl rfl};exact Ib trivial
theorem vv(fr:Frame)(d:Dying)(f:Fatal)(w:AU):G7 (λw=>writeOn P fr d f w) w:=by
 cases n:f.pieces with
 |nil=>refine G7.congr ((Bf (.fatal f.text) #[]).loc w) λw=>?_;unfold writeOn;simp only[n]
 |cons piece rest=>
  have⟨X,o,hF⟩:=VX (P:=P) fr d f piece rest n;have j:=Ox X 0 o w #[];generalize e:X.runT P w #[]=r;obtain⟨r,ev⟩:=r;cases r with
  |ok a b=>exact G7.case j e ((D7 {frame:=fr,callers:=[],status:=.running,dying:=some {d with fatal:=some {f with pieces:=rest,begun:=true} } } ev).loc b) (λ_=>trivial) λl m h=>by rw[hF,h];rfl|halt h b=>cases h<;>first|exact G7.case j e ((D7 {frame:=fr,callers:=[],status:=.blocked,dying:=some {d with fatal:=some f} } #[]).loc b) (λc=>by cases c) λl m h=>by rw[hF,h];rfl|(rename_i u;exact G7.case j e ((Bf (.unsupported u "") #[]).loc b) (λc=>c.elim) λl m h=>by rw[hF,h];rfl)|exact G7.case j e ((Bf (.stuck "the report of a fatal error" "") #[]).loc b) (λc=>c.elim) λl m h=>by rw[hF,h];rfl
def zp0{p:Prop}(h:p:=by exact G7.case hx hr (G7.after _ ((D7 _ #[]).loc w')) (λ_=>trivial) λw₁ w₂ h=>by simp only[h,Result.put];rfl):p:=h
theorem mz(l:OkP P)(fr:Frame)(d:Dying)(w:AU):G7 (λw=>die P fr d w) w:=by
 unfold die;split
 .exact vv fr d _ w
 split
 .by_cases b:printLockHeld P w=true;{exact G7.like (G:=λw=>GStep.go {frame:=fr,callers:=[],status:=.blocked,dying:=some d} w #[]) ((D7 _ _).loc w) (BR b) fun j s e=>BR (show printLockHeld P (rt j s e w)=true from b)};exact G7.like (vx _ _ _ w) (BQ b) fun j s e=>BQ (show ¬printLockHeld P (rt j s e w)=true from b)
 rename_i v mark rest _;dsimp only;split
 .exact(D7 _ _).loc w
 .rename_i s _;have hx:=Calm.loc (Xr (P:=P) s) w #[];have e:∀w,(withAddress s).run P w=((withAddress s).runT P w #[]).1:=λw=>by rw[Sem.runT_eq]
  simp only[e];generalize hr:(withAddress s).runT P w #[]=r;obtain⟨r,ev⟩:=r;cases r with
  |ok a w'=>exact G7.case hx hr ((D7 _ #[]).loc w') (λ_=>trivial) λw₁ w₂ h=>by simp only[h,Result.put];rfl|halt h w'=>exact G7.case hx hr ((Bf _ #[]).loc w') (λc=>c.elim) λw₁ w₂ h=>by simp only[h,Result.put];rfl
 .rename_i t recv name _;have hx:=Ox _ 0 (Nk l (.fn (.method name) #[]) #[.iface t recv]) w #[];generalize hr:(invoke (.fn (.method name) #[]) #[.iface t recv]).runT P w #[]=r;obtain⟨r,ev⟩:=r;cases r with
  |ok a w'=>
   cases a;case enter f args=>exact zp0
   case value x=>
    cases x;case string s=>exact zp0
    all_goals exact G7.caseOld hx hr (Hw _ (Bf _ #[])) (λw c=>by rwa[Hu]at c) λw₁ w₂ h=>by simp only[h,Result.put];rfl
   all_goals exact G7.caseOld hx hr (Hw _ (Bf _ #[])) (λw c=>by rwa[Hu]at c) λw₁ w₂ h=>by simp only[h,Result.put];rfl
  |halt h w'=>
   cases h;case panic v=>exact G7.case hx hr (G7.after _ ((Vt fr v).loc w')) (λ_ x=>x) λw₁ w₂ h=>by simp only[h,Result.put];rfl
   case unsupported u=>exact G7.case hx hr (G7.after _ ((Bf _ #[]).loc w')) (λc=>by rw[Hu]at c;exact c.elim) λw₁ w₂ h=>by simp only[h,Result.put];rfl
   all_goals exact G7.caseOld hx hr (Hw _ (Bf _ #[])) (λw c=>by rwa[Hu]at c) λw₁ w₂ h=>by simp only[h,Result.put];rfl
 exact(Bf _ _).loc w
def Ay1(b:OkP P)(main:Bool)(g:AX)(hg:EQ g.frame)(w:AU):G7 (λw=>stepG P main g w) w:=by
 unfold stepG;obtain⟨fr,cs,c,d,off⟩:=g;dsimp only;split
 .exact mz b _ _ w
 .exact kQ b main _ hg _ _ w
 exact Aup b main _ _ _ w
end
section
variable {a:Ab}{h:Halt}{α:Type}
variable {P : AY}{w : AU}
def Zh{α:Type}:Result α->Prop
  |.ok _ _=>True
  |.halt .blocked _|.halt .waiting _|.halt (.unsupported _) _|.halt (.stuck _) _=>False
  |_=>True
def Yq(es:Array Event):Prop:=∀e∈es,∀m,e.loc=.mark m->e.sync=true
theorem O6{es:Array Event}{e:Event}(h:Yq es)(c:∀m,e.loc=.mark m->e.sync=true):Yq (es.push e):=by
 intro x b;rcases Array.mem_push.1 b with b|rfl
 . exact h x b
 . exact c
def deaf_push(d:Nat)(es:Array Event)(e:Event):deafBehind d (es.push e)=match e.loc with|.mark .disable=>deafBehind d es+1|.mark .enable=>deafBehind d es - 1|_=>deafBehind d es:=by unfold deafBehind;rw[Array.foldl_push];rfl
def Zm(d:Nat)(es:Array Event)(a:Ab)(b c:Bool):deafBehind d (es.push ⟨.cell a,b,c⟩)=deafBehind d es:=by rw[deaf_push]
theorem Y5(d:Nat)(es:Array Event)(b c:Bool)(l:List Ab):deafBehind d (es++l.toArray.map (⟨.cell ·,b,c⟩))=deafBehind d es/\(Yq es->Yq (es++l.toArray.map (⟨.cell ·,b,c⟩))):=by
 refine⟨?_,λh x e=>?_⟩
 . unfold deafBehind
   rw[Array.foldl_append];simp only[Bb0,Db,DZ,List.foldl_toArray'];generalize Array.foldl _ d es=n;induction l generalizing n with
   |nil=>rfl
   |cons a l j=>exact j n
 . rcases Array.mem_append.1 e with e|e
   . exact h x e
   . obtain⟨a,_,rfl⟩:=Array.mem_map.1 e
     intro m f;cases f
theorem sY{b:Bool}(c:w.farLoad P a b=.error h):¬Zh (.halt h w:Result Unit):=by
 unfold World.farLoad at c;have d:∀s,¬Zh (.halt (w.noCell a s) w:Result Unit):=by intro s;unfold World.noCell;split<;>exact id
 split at c
 . split at c
   . cases c
   . cases c;exact id
 . cases c;exact d _
theorem ri{v:AW}{b:Bool}(c:w.farStore P a v b=.error h):¬Zh (.halt h w:Result Unit):=by
 unfold World.farStore at c;have d:∀s,¬Zh (.halt (w.noCell a s) w:Result Unit):=by intro s;unfold World.noCell;split<;>exact id
 split at c
 . split at c
   . cases c
   . cases c;exact id
 . cases c;exact d _
theorem XF{w w':AU}:Zh (.halt h w:Result α)↔Zh (.halt h w':Result Unit):=by cases h<;>exact Iff.rfl
theorem Y8{N:α->Prop}{x:Sem α}:∀{d:Nat}(_:EA P N d x)(w:AU)(es:Array Event),deafBehind 0 es=d->Yq es->Yq (x.runT P w es).2/\(Zh (x.runT P w es).1->deafBehind 0 (x.runT P w es).2=0):=by
 induction x with
 |pure a=>intro d e w es hd b;exact⟨b,λ_=>hd.tr e.1⟩
 |halt h=>
  intro d e w es hd b;refine⟨b,λj=>?_⟩;rcases e with s|s
  . exact hd.tr s
  . cases h<;>first|exact j.elim|exact s.elim
 |load m a k f=>
  intro d e w es hd b;simp only[Sem.runT];split
  . exact f _ (e _) w _ (by rwa[Zm]) (O6 b (λm p=>by cases p))
  . split
    . rename_i v l _
      exact f _ (e _) w _ (by rwa[(Y5 0 es _ _ l).1]) ((Y5 0 es _ _ l).2 b)
    . rename_i h t
      exact⟨b,λj=>absurd (XF.1 j) (sY t)⟩
 |store m a v k f=>
  intro d e w es hd b;cases v<;>simp only[Sem.runT]<;>first
   |exact⟨b,λj=>j.elim⟩
   | (split
      . split
        . exact⟨b,λj=>j.elim⟩
        . exact f e _ _ (by rwa[Zm]) (O6 b (λm p=>by cases p))
      . split
        . rename_i u l _
          exact f e _ _ (by rwa[(Y5 0 es _ _ l).1]) ((Y5 0 es _ _ l).2 b)
        . rename_i h t
          exact⟨b,λj=>absurd (XF.1 j) (ri t)⟩)
 |new o k f=>intro d e w es hd b;exact f _ (e _) _ es hd b|shape r k f=>intro d e w es hd b;exact f _ (e _) _ es hd b|freeze a n k f=>intro d e w es hd b;exact f e _ es hd b|frozen a k f=>intro d e w es hd b;exact f _ (e _) _ es hd b
 |getObj r k f=>
  intro d e w es hd b;simp only[Sem.runT];split
  . exact⟨b,λj=>j.elim⟩
  . exact f _ (e _) w _ (by rwa[deaf_push]) (O6 b (λm p=>by cases p))
  . exact⟨b,λj=>j.elim⟩
 |setObj r o k f=>
  intro d e w es hd b;simp only[Sem.runT];split
  . exact⟨b,λj=>j.elim⟩
  . exact f e _ _ (by rwa[deaf_push]) (O6 b (λm p=>by cases p))
  . exact⟨b,λj=>j.elim⟩
 |choose q k f=>
  intro d e w es hd b;simp only[Sem.runT];split
  . exact f _ (e _) w es hd b
  . exact f _ (e _) _ es hd b
 |sys c k f=>intro d e w es hd b;exact f _ (e.2 _) _ _ (by rwa[deaf_push]) (O6 b (λm p=>by cases p))
 |program k f=>intro d e w es hd b;exact f _ e w es hd b|mark m k f=>intro d e w es hd b;refine f e w _ ?_ (O6 b (λ_ _=>rfl));rw[deaf_push,hd];cases m<;>rfl
theorem RP(fn:FuncId)(es:Array Event)(h:Yq es):deafBehind 0 (seen P fn es)=deafBehind 0 es:=by
 have key:∀(l:List Event)(q:Bool)(kept:Array Event),(∀e∈l,∀m,e.loc=.mark m->e.sync=true)->
     deafBehind 0 (l.foldl (λ(x:Bool × Array Event) e=>match e.loc with
       |.mark (.extern f)=>((P.funcs[f]?).any (·.norace),x.2)
       | _=>(x.1,if x.1 && !e.sync then x.2 else x.2.push e)) (q,kept)).2=l.foldl (λd e=>match e.loc with | .mark .disable=>d+1 | .mark .enable=>d - 1 | _=>d) (deafBehind 0 kept):=by
   intro l;induction l with
   |nil=>exact λq kept _=>rfl
   |cons e l n=>
     intro q kept j;simp only[List.foldl_cons];have c:=λx r=>j x (DY _ r)
     obtain⟨s,wr,b⟩:=e;cases s with
     |mark m=>
       have p:b=true:=j ⟨.mark m,wr,b⟩ E1 m rfl;subst p;cases m<;>(simp only[MY,Bool.and_false,EZ,EH];rw[n _ _ c];try rw[deaf_push])
     |_=>
       simp only;rw[n _ _ c];split
       . rfl
       . rw[deaf_push]
 unfold seen;dsimp only;rw[<-Array.foldl_toList];refine(key es.toList _ #[] (λe o=>h e (Array.mem_toList_iff.1 o))).tr ?_;show List.foldl _ 0 es.toList=deafBehind 0 es;unfold deafBehind;rw[<-Array.foldl_toList];rfl
end
def FI(cs:List Frame):Prop:=∀c∈cs,EQ c
def _root_.Go.GStep.fine:GStep->Prop
 |.go g _ es=>OkG g/\(∀t,g.status≠.sleeping t)/\(g.status=.running->deafBehind 0 es=0)
 |.comm g _ _ _ _ es=>OkG g/\g.status=.running/\deafBehind 0 es=0
 |.coroswitch g _ _ _ es=>OkG g/\deafBehind 0 es=0
 |.spawn ..|.ended ..=>True
 |_=>False
section
variable {cs:List Frame}{fr:Frame}
variable {P : AY}{w : AU}
theorem R2(es b:Array Event)(h:deafBehind 0 es=0):deafBehind 0 (es++b)=deafBehind 0 b:=by unfold deafBehind at*;rw[Array.foldl_append,h]
theorem Dy{es:Array Event}{x:GStep}(h:x.fine)(hd:x.cont->deafBehind 0 es=0):(GStep.after es x).fine:=by cases x with|go g w d=>exact⟨h.1,h.2.1,λe=>by rw[R2 _ _ (hd e)];exact h.2.2 e⟩|comm g c b f w d=>exact⟨h.1,h.2.1,by rw[R2 _ _ (hd trivial)];exact h.2.2⟩|coroswitch g c b w d=>exact⟨h.1,by rw[R2 _ _ (hd trivial)];exact h.2⟩|spawn g c w d=>trivial|ended o w d=>trivial|_=>exact h
def D5{st:GoStatus}{dy:Option Dying}(h1:EQ fr)(h2:FI cs)(hst:∀t,st≠.sleeping t:=by intro _ h;cases h):(GStep.go {frame:=fr,callers:=cs,status:=st,dying:=dy} w).fine:=⟨⟨h1,h2⟩,hst,λ_=>rfl⟩
theorem Lm:FI []:=λ_ h=>by cases h
def N7(h1:EQ fr)(b:FI cs):FI (fr::cs):=λc d=>(BD.1 d).elim (λe=>e ▸ h1) (b c)
def Qb(h:EQ fr)(vs:List PanicEntry):EQ (fr.raise vs):=by unfold Frame.raise;split<;>exact h
theorem Sj(f:FuncId)(args:Array AW)(k:CallKind):EQ (Frame.enter P f args k):=by intro i hi;simp only[Frame.enter,fU]at hi;subst hi;trivial
theorem YV(l:Nat)(f:FuncId)(t:Array AW)(a b:Code)(k:CallKind):EQ (Frame.round l f t a b k):=by intro i hi;simp only[Frame.round,EK,FG,FH]at hi;rcases hi with rfl|rfl|rfl<;>trivial
theorem dr(args:Array AW)(k:CallKind):EQ (Frame.ofRow P "runtime.print$piece" args k):=by intro i hi;simp only[Frame.ofRow,fU]at hi;subst hi;rfl
theorem Ji(h:EQ fr)(v:AW):EQ (fr.finish v):=by
 unfold Frame.finish;unfold EQ at h;split
 .rename_i f i rest k e;rw[e]at h;intro j c;rcases BD.1 c with rfl|c;{trivial};exact h j (DY _ c)
 .rename_i l k e;rw[e]at h;intro j c;rcases BD.1 c with rfl|c;{trivial};exact h j (DY _ c)
 .rename_i k e;rw[e]at h;exact λj c=>h j (DY _ c)
 .rename_i d b r s k e;rw[e]at h;intro j c;rcases BD.1 c with rfl|c;{exact h (.call d b r s) E1};exact h j (DY _ c)
 .rename_i r a k e;rw[e]at h;exact λj c=>h j (DY _ c)
 exact h
theorem Un:∀{fr:Frame}{cs:List Frame}{v:AW}{b:List Frame},FI cs->tryRecover fr cs=some (v,b)->FI b:=by
 intro fr cs;induction cs generalizing fr with
 |nil=>intro v b _ h;unfold tryRecover at h;cases e:fr.kind<;>simp[e]at h
 |cons c cs n=>
  intro v b l h;have j:=l c E1;have f:FI cs:=λx m=>l x (DY _ m);unfold tryRecover at h;cases e:fr.kind<;>simp only[e]at h
  case deferred=>split at h;{cases h;exact N7 j f};cases h
  case wrapped=>
   cases d:tryRecover c cs with
   |none=>rw[d]at h;cases h
   |some x=>rw[d]at h;obtain⟨p,o⟩:=x;cases h;exact N7 j (n f d)
  all_goals cases h
theorem py:∀{l:Nat}{cs:List Frame}{v:AW}{d:List Frame},FI cs->tryRecoverLoop l cs=some (v,d)->FI d:=by
 intro l cs;induction cs generalizing l with
 |nil=>intro v d _ h;cases h
 |cons c cs f=>intro v d j h;have m:=j c E1;have e:FI cs:=λx b=>j x (DY _ b);unfold tryRecoverLoop at h;have⟨x,b,n⟩:=Option.map_eq_some_iff.1 h;obtain⟨o,p⟩:=x;cases n;refine N7 m ?_;split at b;{exact f e b};{split at b;{exact Un e b};exact f e b};exact f e b
theorem Xb(main:Bool)(dy:Option Dying)(v:AW)(w:AU)(h1:EQ fr)(h2:FI cs):(doReturn P main fr cs dy v w).fine:=by
 unfold doReturn;cases cs with
 |cons c cs=>have b:=h2 c E1;have d:FI cs:=λx e=>h2 x (DY _ e);dsimp only;split;{exact D5 (Ji b v) d};{exact D5 (Ji b v) d};{exact D5 b d};refine D5 ?_ d;split;{split<;>exact b};exact b|nil=>dsimp only;split;{exact D5 h1 Lm};{trivial};split;{exact D5 h1 Lm};split;{exact D5 (Sj _ _ _) Lm};trivial
def Vs(l:List ByteArray)(m:String)(b:Bool)(w:AU)(h:EQ fr):(dieOf fr l m b w).fine:=D5 h Lm
def Xq(v:AW)(w:AU)(h:EQ fr):(endPrinting P fr v w).fine:=by
 unfold endPrinting;dsimp only;split
 .exact Vs _ _ _ w h
 trivial
def VP(b:Option Dying)(m:String)(w:AU)(h:EQ fr):(endFatal P fr cs b m w).fine:=by
 unfold endFatal;dsimp only;split
 .exact Vs _ _ _ _ h
 .trivial
 trivial
theorem Avo(dy:Option Dying)(g:Nat)(w:AU)(h1:EQ fr)(h2:FI cs):(early P fr cs dy g w).fine:=by
 have b:∀w:AU,(match w.heap[g]? with
   |some (.pending c elem)=>GStep.go {frame:=fr,callers:=cs,status:=.running,dying:=dy} {w with heap:=w.heap.setIfInBounds g (.cells c elem)}
   | _=>.ended (.stuck "early: the variable does not wait" (fr.pos P)) w).fine:=by
  intro w;split
  .exact D5 h1 h2
  .trivial
 have e:∀(f:FuncId)(w:AU)(l:List FuncId),(GStep.go {frame:=Frame.enter P f #[] .early,callers:=l.map (Frame.enter P · #[] .early)++fr::cs,status:=.running,dying:=dy} w).fine:=by intro f w l;refine D5 (Sj _ _ _) λc d=>?_;rcases BI.1 d with d|d;{obtain⟨x,_,rfl⟩:=BM.1 d;exact Sj _ _ _};exact N7 h1 h2 c d
 unfold early;dsimp only;split
 .exact b w
 split
 .trivial
 split
 .exact b w
 split
 .exact b w
 split
 .trivial
 .exact e _ _ _
 .trivial
 .exact b w
 split
 .exact e _ _ _
 split
 .exact b w
 split
 .exact b _
 .exact e _ _ _
 trivial
def Xh:Yq #[]:=λ_ h=>by simp at h
theorem Su(dy:Option Dying){x:Sem Next}(w:AU)(h1:EQ fr)(h2:FI cs)(hx:EA P Xu 0 x):(stepG.apply P true fr cs dy x w).fine:=by
 have s:=NT (w:=w) (es:=#[]) hx;have p:=Y8 hx w #[] rfl Xh;rw[eC];generalize D:x.runT P w #[]=r at s p;obtain⟨r,ev⟩:=r;have j:∀es:Array Event,(es=#[]\/es=ev)->(es=ev->Zh r)->deafBehind 0 (seen P fr.fn (if fr.kind==.early then #[] else es))=0:=by intro es y A;split;{rfl};rcases y with rfl|rfl;{rfl};rw[RP _ _ p.1];exact p.2 (A rfl)
 cases r with
 |ok a e=>
  refine Dy ?_ λ_=>j _ (.inr rfl) λ_=>trivial;have q:=s a ⟨e,rfl⟩;unfold stepG.apply;simp only[LD,if_true,Sem.runT,ite_self,Ip,Ha,Result.w];cases a<;>first|exact q.elim|skip
  case value v=>exact D5 (Ji h1 v) h2
  case skip=>exact D5 (Ji h1 _) h2
  case enter f args=>exact D5 (Sj _ _ _) (N7 h1 h2)
  case round l f t a b=>exact D5 (YV _ _ _ _ _ _) (N7 h1 h2)
  case defer d=>exact D5 (Ji (fr:={fr with defers:=d::fr.defers}) h1 _) h2
  case recover=>dsimp only;split;{rename_i v C n;refine D5 (Ji h1 _) ?_;split at n;{split at n;{exact Un h2 n};exact py h2 n};exact Un h2 n};exact D5 (Ji h1 _) h2
  case spawn d=>dsimp only;split<;>split<;>first|exact Vs _ _ _ _ h1|trivial
  case comm c b E=>exact⟨⟨h1,h2⟩,rfl,rfl⟩
  case coroswitch c b=>exact⟨⟨h1,h2⟩,rfl⟩
  case row r args=>obtain rfl:r= "runtime.print$piece" :=q;dsimp only;split;{rename_i G F k z;refine D5 ?_ h2;intro i hi;rcases BD.1 hi with rfl|hi;{rfl};exact h1 i (by rw[z];exact DY _ hi)};exact D5 (dr _ _) (N7 h1 h2)
 |halt h e=>
  have o:∀h:Halt,KQ h->∀es,(stepG.apply P true fr cs dy (.halt h) e).cont->deafBehind 0 es=0:=λh B es c=>absurd B (Yi fr cs dy h e c);cases h;case panic v=>refine Dy ?_ λ_=>j _ (.inr rfl) λ_=>trivial;show(stepG.apply P true fr cs dy (.halt (.panic v)) e).fine;unfold stepG.apply;simp only[if_true,Sem.runT,ite_self,Ip,Ha];exact D5 (Qb h1 _) h2
  case goexit=>refine Dy ?_ λ_=>j _ (.inr rfl) λ_=>trivial;show(stepG.apply P true fr cs dy (.halt .goexit) e).fine;unfold stepG.apply;simp only[if_true,Sem.runT,ite_self,Ip,Ha];exact D5 (Qb h1 _) h2
  case blocked=>refine Dy ?_ (o .blocked trivial _);show(stepG.apply P true fr cs dy (.halt .blocked) e).fine;unfold stepG.apply;simp only[if_true,Sem.runT,ite_self,Ip,Ha];exact D5 h1 h2
  case waiting=>refine Dy ?_ (o .waiting trivial _);show(stepG.apply P true fr cs dy (.halt .waiting) e).fine;unfold stepG.apply;simp only[if_true,Sem.runT,ite_self,Ip,Ha];exact D5 h1 h2
  case exit c=>refine Dy ?_ λ_=>j _ (.inr rfl) λ_=>trivial;show(stepG.apply P true fr cs dy (.halt (.exit c)) e).fine;unfold stepG.apply;simp only[if_true,Sem.runT,ite_self,Ip,Ha];trivial
  case fatal m=>refine Dy ?_ λ_=>j _ (.inr rfl) λ_=>trivial;show(stepG.apply P true fr cs dy (.halt (.fatal m)) e).fine;unfold stepG.apply;simp only[if_true,Sem.runT,ite_self,Ip,Ha];exact VP dy m e h1
  case throw m=>refine Dy ?_ λ_=>j _ (.inr rfl) λ_=>trivial;show(stepG.apply P true fr cs dy (.halt (.throw m)) e).fine;unfold stepG.apply;simp only[if_true,Sem.runT,ite_self,Ip,Ha];exact Vs _ _ _ e h1
  case stuck m=>refine Dy ?_ (o (.stuck m) trivial _);show(stepG.apply P true fr cs dy (.halt (.stuck m)) e).fine;unfold stepG.apply;simp only[if_true,Sem.runT,ite_self,Ip,Ha];trivial
  case unsupported u=>by_cases hi:∃g,u=.initOrder g;{obtain⟨g,rfl⟩:=hi;(refine Dy ?_ λ_=>by show deafBehind 0 (seen P fr.fn (if fr.kind==.early then #[] else #[]))=0;split<;>rfl);show(stepG.apply P true fr cs dy (.halt (.unsupported (.initOrder g))) e).fine;unfold stepG.apply;simp only[if_true,Sem.runT,ite_self,Ip,Ha];exact Avo dy g e h1 h2};refine Dy ?_ (o (.unsupported u) (by cases u<;>first|trivial|exact absurd ⟨_,rfl⟩ hi) _);show(stepG.apply P true fr cs dy (.halt (.unsupported u)) e).fine;unfold stepG.apply;cases u<;>first|exact absurd ⟨_,rfl⟩ hi|(simp only[if_true,Sem.runT,ite_self,Ip,Ha];trivial)
end
section
variable {cs:List Frame}{ev:Array Event}{fr:Frame}{i:Item}{k:List Item}
variable {P : AY}{w : AU}
def K4{α:Type}{x:Sem α}(hx:Calm P x)(fn:FuncId){r:Result α}(hr:x.runT P w #[]=(r,ev))(hg:Zh r):deafBehind 0 (seen P fn ev)=0:=by have b:=Y8 hx w #[] rfl Xh;rw[hr]at b;rw[RP _ _ b.1];exact b.2 hg
def JY{x:Sem Next}(hx:EA P Xu 0 x)(fn:FuncId){r:Result Next}(hr:x.runT P w #[]=(r,ev))(hg:Zh r):deafBehind 0 (seen P fn ev)=0:=by have b:=Y8 hx w #[] rfl Xh;rw[hr]at b;rw[RP _ _ b.1];exact b.2 hg
def Q3{o:Outcome}{es b:Array Event}:(GStep.after es (.ended o w b)).fine:=trivial
def Ii(h:EQ fr)(c:fr.todo=i::k):∀j∈k,Xl j:=λj b=>h j (by rw[c];exact DY _ b)
def J5{c:Code}(h:∀j∈k,Xl j):∀j∈Item.code c::k,Xl j:=λj b=>(BD.1 b).elim (λe=>e ▸ trivial) (h j)
def J4(hi:Xl i)(h:∀j∈k,Xl j):∀j∈i::k,Xl j:=λj b=>(BD.1 b).elim (λe=>e ▸ hi) (h j)
theorem tR{l:Nat}:∀{k b:List Item},(∀j∈k,Xl j)->exitTo l k=some b->∀j∈b,Xl j:=by
 intro k;induction k with
 |nil=>intro b _ h;cases h
 |cons i k d=>
  intro b f h;have c:=λj e=>f j (DY _ e);cases i<;>simp only[exitTo]at h<;>first
   |exact d c h
   | (split at h
      . cases h;exact c
      . exact d c h)
theorem tQ{l:Nat}:∀{k b:List Item},(∀j∈k,Xl j)->gotoIn l k=some b->∀j∈b,Xl j:=by
 intro k;induction k with
 |nil=>intro b _ h;cases h
 |cons i k d=>
  intro b f h;have c:=λj e=>f j (DY _ e);cases i<;>simp only[gotoIn]at h<;>first
   |exact d c h
   | (split at h
      . cases h;exact J5 (J4 trivial c)
      . exact d c h)
theorem Avn (main:Bool)(dy:Option Dying)(jump:Option Code)(w:AU)(h1:EQ fr)(h2:FI cs):(
      match fr.roundOf with
      |none=>if jump matches none|some .ret then GStep.go {frame:={fr with mode:=.returning},callers:=cs,status:=.running,dying:=dy} w else .ended (.stuck "exit, goto: no such block or label" (fr.pos P)) w
      |some l=>
        let (r,es):=(Instr.endRound l jump).runT P w #[]
        GStep.after (seen P fr.fn es)<| match r with
        |.ok v w=>doReturn P main fr cs dy v w
        | .halt _ w=>.ended (.stuck "range over a function: no such loop" (fr.pos P)) w).fine:=by
 cases fr.roundOf with
 |none=>dsimp only;split<;>split<;>first|exact D5 h1 h2|trivial
 |some l=>
  dsimp only;generalize d:Sem.runT P _ w #[]=r;obtain⟨r,ev⟩:=r;cases r with
  |ok v b=>exact Dy (Xb main dy v b h1 h2) λ_=>K4 BU _ d trivial|halt h b=>exact Dy trivial λc=>c.elim
def fl(d:OkP P)(b:Option Dying)(w:AU)(h1:EQ fr)(c:FI cs):(stepG.oper P true fr cs b w).fine:=by
 unfold stepG.oper;split
 . trivial
 . split
   . exact Su b w h1 c (Eg BU λ_=>Eg BU λ_=>Ib trivial)
   . exact Su b w h1 c (YG d _ _)
theorem fo(u:OkP P)(main:Bool)(dy:Option Dying)(w:AU)(h1:EQ fr)(h2:FI cs):(stepG.exec P main true fr cs dy w).fine:=by
 have m:=λj=>Avn (P:=P) main dy j w h1 h2;have d:∀todo:List Item,(∀j∈todo,Xl j)->(GStep.go {frame:={fr with todo},callers:=cs,status:=.running,dying:=dy} w).fine:=λtodo h=>D5 (fr:={fr with todo}) h h2;unfold stepG.exec;dsimp only;split
 . exact m none
 . exact m (some .ret)
 . rename_i b;exact d _ (Ii h1 b)
 . rename_i b;exact d _ (Ii h1 b)
 . rename_i b;exact d _ (Ii h1 b)
 . rename_i b;exact d _ (Ii h1 b)
 . rename_i b;exact d _ (J5 (J5 (Ii h1 b)))
 . rename_i b
   split
   . exact d _ (J5 (Ii h1 b))
   . trivial
 . rename_i b;exact d _ (J5 (J4 trivial (Ii h1 b)))
 . rename_i b;exact d _ (J5 (J4 trivial (Ii h1 b)))
 . rename_i b;exact d _ (J5 (J4 trivial (Ii h1 b)))
 . rename_i b;exact d _ (J5 (J4 trivial (Ii h1 b)))
 . rename_i s k b
   cases q:exitTo s k with
   |none=>exact m (some (.exit s))
   |some t=>exact d _ (tR (Ii h1 b) q)
 . rename_i l k b
   cases q:gotoIn l k with
   |none=>exact m (some (.goto l))
   |some t=>exact d _ (tQ (Ii h1 b) q)
 . rename_i f A assign body k b
   generalize n:Sem.runT P _ w #[]=r;obtain⟨r,ev⟩:=r;cases r with
   |ok a o=>
     obtain⟨l,y⟩:=a;exact Dy (Su (fr:={fr with todo:=.inRangeFunc l::k,defers:=y++fr.defers}) dy o (J4 trivial (Ii h1 b)) h2 (Eg BU λ_=>Nk u _ _)) λ_=>K4 BU _ n trivial
   |halt h o=>exact Dy trivial λc=>c.elim
 . trivial
 . refine Su dy w h1 h2 (Eg ?_ λ_=>Ib trivial)
   cases fr.roundOf with
   |none=>exact Ed
   |some l=>exact Q9 l
 . rename_i l k b
   generalize n:Sem.runT P _ w #[]=r;obtain⟨r,ev⟩:=r;cases r with
   |ok jump o=>
     refine Dy (D5 (fr:={fr with todo:=(jump.map Item.code).toList++k}) ?_ h2) λ_=>K4 BU _ n trivial
     intro j e;rcases BI.1 e with e|e
     . cases jump with
       |none=>simp at e
       |some c=>simp at e;subst e;trivial
     . exact Ii h1 b j e
   |halt h o=>
     cases h
     case panic v=>exact Dy (D5 (Qb h1 _) h2) λ_=>K4 BU _ n trivial
     all_goals exact Dy trivial λc=>c.elim
 . trivial
 . exact Su dy w h1 h2 (Nk u _ _)
 . rename_i row args k b
   have z:row= "runtime.print$piece" :=h1 (.extern row args) (by rw[b];exact E1);subst z;rw[YX];exact Su dy w h1 h2 (Qf _ _ _)
 . rename_i s x draw k b
   split
   . exact d _ (J4 trivial (Ii h1 b))
   . split
     . exact D5 (fr:={fr with todo:=.inRegion x _::k}) (J4 trivial (Ii h1 b)) h2
     . trivial
 . rename_i b;exact d _ (Ii h1 b)
 . split
   . exact fl u dy w h1 h2
   . exact D5 (Ji h1 _) h2
theorem pq(q:OkP P)(dy:Option Dying)(d:Deferred)(w:AU)(h1:EQ fr)(h2:FI cs):(callDeferred P fr cs dy d w).fine:=by
 have e:=Nk q d.target d.args;have p:=NT (w:=w) (es:=#[]) e;unfold callDeferred;dsimp only;split<;>split<;>(try trivial)
 all_goals
  generalize j:Sem.runT P _ w #[]=r at p;obtain⟨r,ev⟩:=r;cases r with
  |ok a n=>
   refine Dy ?_ λ_=>JY e _ j trivial;(have o:=p a ⟨n,rfl⟩;cases a<;>first|exact o.elim|skip);case value v=>exact D5 h1 h2
   case skip=>exact D5 h1 h2
   case enter f args=>exact D5 (Sj _ _ _) (N7 h1 h2)
   case round l f t a b=>exact D5 (YV _ _ _ _ _ _) (N7 h1 h2)
   case defer d=>exact D5 h1 h2
   case spawn d=>exact D5 h1 h2
   case comm c b x=>exact D5 h1 h2
   case row r args=>obtain rfl:r= "runtime.print$piece" :=o;exact D5 (dr _ _) (N7 h1 h2)
   case recover=>
    dsimp only;split
    . rename_i s;exact D5 h1 (Un h2 s)
    . exact D5 h1 h2
   case coroswitch c b=>
    cases b
    . trivial
    . exact⟨⟨h1,h2⟩,rfl⟩
  |halt h n=>
   cases h;case panic v=>exact Dy (D5 (Qb h1 _) h2) λ_=>JY e _ j trivial
   case goexit=>exact Dy (D5 (Qb h1 _) h2) λ_=>JY e _ j trivial
   case blocked=>exact Dy (D5 (fr:={fr with defers:=d::fr.defers}) h1 h2) λc=>by cases c
   case waiting=>exact Dy (D5 (fr:={fr with defers:=d::fr.defers}) h1 h2) λc=>by cases c
   case exit c=>exact Q3
   case fatal m=>exact Dy (VP dy m n h1) λ_=>JY e _ j trivial
   case throw m=>exact Dy (Vs _ _ _ n h1) λ_=>JY e _ j trivial
   case stuck m=>exact Q3
   case unsupported u=>exact Q3
theorem wy(d:OkP P)(main:Bool)(dy:Option Dying)(w:AU)(h1:EQ fr)(h2:FI cs):(unwind P main fr cs dy w).fine:=by
 unfold unwind;split
 . rename_i block _ f _
   generalize c:Sem.runT P _ w #[]=r;obtain⟨r,ev⟩:=r;cases r with
   |ok a b=>exact Dy (D5 (fr:={fr with defers:=a++f}) h1 h2) λ_=>K4 BU _ c trivial
   |halt h b=>exact Q3
 . exact pq d (fr:={fr with defers:=_}) dy _ w h1 h2
 . split
   . trivial
   . split
     . trivial
     . split
       . exact D5 (Qb (h2 _ E1) _) (λx e=>h2 x (DY _ e))
       . split
         . split
           . exact D5 h1 Lm
           . split
             . exact D5 h1 Lm
             . trivial
             . trivial
         . split
           . exact Xq _ w h1
           . trivial
   . split
     . exact Xb main dy _ w h1 h2
     . generalize c:Sem.runT P _ w #[]=r
       obtain⟨r,ev⟩:=r;cases r with
       |ok a b=>exact Dy (Xb main dy a b h1 h2) λ_=>K4 (WJ _ _) _ c trivial
       |halt h b=>cases h<;>exact Q3
theorem jU(m:OkP P)(d:Dying)(w:AU)(h1:EQ fr):(die P fr d w).fine:=by
 unfold die;split
 . rename_i f _
   cases j:f.pieces with
   |nil=>unfold writeOn;simp only[j];trivial
   |cons piece rest=>
     have⟨X,n,hF⟩:=VX (P:=P) fr d f piece rest j;have l:=Y8 n w #[] rfl Xh;rw[hF];generalize X.runT P w #[]=r at l;obtain⟨r,ev⟩:=r;cases r with
     |ok a b=>exact⟨⟨h1,Lm⟩,(λ_ h=>by cases h),λ_=>l.2 trivial⟩
     |halt h b=>cases h<;>first|exact D5 h1 Lm|trivial
 . split
   . split
     . exact D5 h1 Lm
     . unfold endWith
       dsimp only;repeat' first|trivial|split
   . dsimp only
     split
     . exact D5 h1 Lm
     . split
       . exact D5 h1 Lm
       . trivial
     . rename_i t recv name _
       have e:=Nk m (.fn (.method name) #[]) #[.iface t recv];generalize c:Sem.runT P _ w #[]=r;obtain⟨r,ev⟩:=r;cases r with
       |ok a b=>
         cases a
         case enter f args=>exact Dy (D5 (Sj _ _ _) Lm) λ_=>JY e _ c trivial
         case value x=>
           cases x
           case string s=>exact Dy (D5 h1 Lm) λ_=>JY e _ c trivial
           all_goals exact Q3
         all_goals exact Q3
       |halt h b=>
         cases h
         case panic v=>exact Dy (Xq v b h1) λ_=>JY e _ c trivial
         all_goals exact Q3
     . trivial
theorem Vr(b:OkP P)(main:Bool)(g:AX)(hg:OkG g)(w:AU):(stepG P main g w).fine:=by
 unfold stepG;obtain⟨fr,cs,c,d,off⟩:=g;dsimp only;split
 . exact jU b _ w hg.1
 . exact fo b main _ w hg.1 hg.2
 . exact wy b main _ w hg.1 hg.2
end
open Go.Conc
def KN(gs:Array AX):Prop:=∀g∈gs,g.status≠.blocked
abbrev IZ(ready:List (Nat × CommCase × List Way)):Sem (Nat × CommCase × Way):=do
 let a <-choose (.select ready.length)
 let (k,c,ws):=ready.getD a (0,default,[])
 let b <-choose (.extern "which waiting goroutine is the partner" ws.length)
 pure (k,c,ws.getD b .closed)
section
variable {P : AY}{w : AU}{gs gs' : Array AX}
theorem Ic(h:KN gs)(r:Nat)(b:Bool):partners gs r b=[]:=by
 unfold partners;refine List.flatMap_eq_nil_iff.2 λx d=>?_;obtain⟨g,i⟩:=x;have f:g∈gs:=by have c:=Array.mem_zipIdx (Array.mem_toList_iff.1 d);rw[c.2.2];exact Array.getElem_mem _
 have:=h g f;dsimp only;split
 .rename_i e _;exact absurd e this
 rfl
def zn0 {p:Prop}(h:p:=by
 split at hx
 .simp at hx;subst hx;simp
 rw[Ic h]at hx;dsimp only at hx;split at hx
 .simp at hx;subst hx;simp
 simp at hx):p:=h
def QU(h:KN gs)(c:CommCase):ways w gs c=ways w #[] c/\∀x∈ways w gs c,∀a b,x≠.partner a b:=by
 have d:KN #[]:=λg e=>by simp at e
 constructor
 .unfold ways;split;{split;{split;{rfl};rw[Ic h,Ic d]};{split;{rfl};rw[Ic h,Ic d]};rfl};rfl
 intro x hx a b;unfold ways at hx;split at hx
 .split at hx;{exact zn0};{exact zn0};simp at hx
 simp at hx
def Avz(ready:List (Nat × CommCase × List Way)):Calm P (IZ ready):=Calm.bind Nb λ_=>Calm.bind Nb λ_=>Ae
theorem RQ{ready:List (Nat × CommCase × List Way)}(hr:∀x∈ready,∀y∈x.2.2,∀a b,y≠.partner a b){k:Nat}{c:CommCase}{way:Way}{w':AU}(h:(IZ ready).run P w=.ok (k,c,way) w'):∀a b,way≠.partner a b:=by
 have key:∀(a b:Nat)(k:Nat)(c:CommCase)(d:List Way),ready.getD a (0,default,[])=(k,c,d)->∀x y,d.getD b .closed≠.partner x y:=by
  intro a b k c d e x y;have m:∀z∈d,∀x y,z≠.partner x y:=by
   rw[List.getD_eq_getElem?_getD]at e;cases f:ready[a]? with
   |none=>rw[f]at e;cases e;intro z j;simp at j
   |some q=>rw[f]at e;simp only[Option.getD_some]at e;intro z j;exact hr q (LK f) z (by rwa[e])
  rw[List.getD_eq_getElem?_getD];cases f:d[b]? with
  |none=>simp|some q=>exact m q (LK f) x y
 have l:EA P (λz:Nat × CommCase × Way=>∀a b,z.2.2≠.partner a b) 0 (IZ ready):=by refine Eg Nb λa=>?_;generalize n:ready.getD a (0,default,[])=z;obtain⟨k,c,d⟩:=z;refine Eg Nb λb=>Ib ?_;exact key a b k c d n
 have:=NT (w:=w) (es:=#[]) l (k,c,way) ⟨w',by rwa[Sem.runT_eq]⟩;exact this
def fin:AX:={(default:AX) with status:=.finished}
def Vu(P:AY)(g:AX)(cs:Array CommCase)(b:Bool)(sh:CommShape)(w:AU):GStep:=
 match communicate P {timers:=#[],alone:=none,slice:=none} #[fin] 0 g cs b sh w with
 |(.next m,_)=>.go (m.gs.getD 0 default) m.world
 |(.ended o w,_)=>.ended o w
def LM(P:AY)(g:AX)(cs:Array CommCase)(b:Bool)(sh:CommShape)(w:AU):Array MemOp:=
 (communicate P {timers:=#[],alone:=none,slice:=none} #[fin] 0 g cs b sh w).2
theorem Ls:KN #[fin]:=λg b=>by
 simp at b;subst b;simp[fin]
def NK(rest:Rest)(h:rest.timers=#[])(cs:Array CommCase)(w:AU):waitingAt rest cs w=some w:=by
 unfold waitingAt;have:timerAhead rest w.os.mono cs=false:=by unfold timerAhead;rw[h];rw[Array.any_eq_false];intro i hi;split<;>simp
 rw[this];rfl
def QI(h:KN gs)(l:List (CommCase × Nat)):∀x∈(l.map λ(c,k)=>(k,c,ways w gs c)).filter (λ(_,_,e)=>!e.isEmpty),∀y∈x.2.2,∀a b,y≠.partner a b:=by intro x d y f;obtain⟨z,_,rfl⟩:=BM.1 (List.mem_filter.1 d).1;exact(QU h z.1).2 y f
theorem XL{sl:Option (Nat × Nat)}(h:KN gs)(_h0:0<gs.size)(g:AX)(cs:Array CommCase)(b:Bool)(sh:CommShape)(w:AU):
  communicate P {timers:=#[],alone:=none,slice:=sl} gs 0 g cs b sh w=
   (match Vu P g cs b sh w with
    |.go p d _=>.next {world:=d,gs:=gs.setIfInBounds 0 p,rest:={timers:=#[],alone:=none,slice:=sl} }
    |.ended o d _=>.ended o d
    | _=>.ended default default,LM P g cs b sh w):=by
 unfold Vu LM;have q:∀c,ways w gs c=ways w #[fin] c:=λc=>((QU h c).1).tr ((QU Ls c).1).symm;unfold communicate;simp only[q];have n:=QI (w:=w) Ls cs.zipIdx.toList;split
 .rfl
 split
 .split;{rw[NK _ rfl,NK _ rfl];simp};simp
 generalize m:(List.filter _ _:List (Nat × CommCase × List Way))=ready;have r:∀x∈ready,∀y∈x.2.2,∀a b,y≠.partner a b:=by rwa[<-m]
 cases j:(IZ ready).run P w with
 |halt e d=>rfl
 |ok z d=>
  obtain⟨k,c,way⟩:=z;have l:=RQ r j;dsimp only;cases way with
  |partner a b=>exact absurd rfl (l a b)
  |sendClosed=>
   dsimp only;cases s:(runtimePanic (.plain "send on closed channel"):Sem Unit).run P d with
   |ok a f=>rfl|halt e f=>cases e<;>first|rfl|simp
  |closed=>simp|buffer=>rw[Ic h,Ic Ls];split<;>first|(simp;done)|(exfalso;simp_all;done)
end
section
variable {P : AY}{w : AU}
def chanOf(c:CommCase):Nat:=match c.chan with|.chan (some r)=>r|_=>0
def Jx(P:AY)(g:AX)(cs:Array CommCase)(sh:CommShape)(k:Nat)(c:CommCase)(way:Way)(w:AU):GStep:=
  match way with
  |.sendClosed=>match (runtimePanic (.plain "send on closed channel"):Sem Unit).run P w with
    |.halt (.panic v) w=>.go {g with frame:=g.frame.raise [{v,recovered:=false}]} w
    |_=>.ended (.stuck "communicate" "") w
  |.closed=>.go (g.finishComm P cs sh k c.zero false) w
  |.buffer=>match w.heap[chanOf c]?,c.send with
    |some (.chan cap b d s r e),some v=>.go (g.finishComm P cs sh k AQ false) {w with heap:=w.heap.setIfInBounds (chanOf c) (.chan cap (b.push v) d (s+1) r e)}
    |some (.chan cap b d s r e),none=>.go (g.finishComm P cs sh k (b.getD 0 AQ) true) {w with heap:=w.heap.setIfInBounds (chanOf c) (.chan cap (b.extract 1 b.size) d s (r+1) e)}
    |_,_=>.ended (.stuck "communicate: no such channel" "") w
  |_=>.ended (.stuck "communicate: no such channel" "") w
def MR(P:AY)(g:AX)(cs:Array CommCase)(sh:CommShape):Result (Nat × CommCase × Way)->GStep
  |.ok (k,c,way) b=>Jx P g cs sh k c way b
  |.halt _ b=>.ended (.stuck "communicate" "") b
def X6(cs:Array CommCase)(w:AU):List (Nat × CommCase × List Way):=(cs.zipIdx.toList.map λ(c,k)=>(k,c,ways w #[fin] c)).filter λ(_,_,b)=>!b.isEmpty
theorem XM(g:AX)(cs:Array CommCase)(b:Bool)(sh:CommShape)(w:AU):
    (∃o,∀d:AU,d.heap=w.heap->Vu P g cs b sh d=.ended o d)\/
    (∃j,j={g with status:=.blocked,offers:=some (cs,sh)}/\∀d:AU,d.heap=w.heap->Vu P g cs b sh d=.go j d)\/
    (∃j,j=g.finishComm P cs sh (-1) AQ false/\∀d:AU,d.heap=w.heap->Vu P g cs b sh d=.go j d)\/
    (∀d:AU,d.heap=w.heap->Vu P g cs b sh d=MR P g cs sh ((IZ (X6 cs w)).run P d)):=by
 have p:∀d:AU,d.heap=w.heap->∀c,ways d #[fin] c=ways w #[fin] c:=λd h c=>by unfold ways;rw[h]
 have B:∀x∈X6 cs w,∀y∈x.2.2,∀a b,y≠.partner a b:=QI (w:=w) Ls cs.zipIdx.toList;by_cases f:cs.any (λc=>match c.chan with|.chan none=>false|.chan (some r)=>!(w.heap[r]? matches some (.chan ..))|_=>true)=true
 . refine .inl ⟨.stuck "a communication at a channel whose block is no channel's" (g.frame.pos P),λd h=>?_⟩
   unfold Vu communicate;rw[h];dsimp only;split
   . rename_i e;split at e
     . cases e
     . rename_i q;exact absurd f q
   . rename_i e;split at e
     . cases e;rfl
     . rename_i q;exact absurd f q
 . by_cases n:(X6 cs w).isEmpty=true
   . cases b
     . refine .inr (.inr (.inl ⟨_,rfl,λd h=>?_⟩))
       unfold Vu communicate;simp only[p d h];rw[h];refine(congrArg (λx:Stepped × Array MemOp=>match x with|(.next m,_)=>GStep.go (m.gs.getD 0 default) m.world|(.ended o w,_)=>.ended o w) ((BQ f).tr (BR n))).tr ?_;simp
     . refine .inr (.inl ⟨_,rfl,λd h=>?_⟩)
       unfold Vu communicate;simp only[p d h];rw[h];refine(congrArg (λx:Stepped × Array MemOp=>match x with|(.next m,_)=>GStep.go (m.gs.getD 0 default) m.world|(.ended o w,_)=>.ended o w) ((BQ f).tr (BR n))).tr ?_;rw[NK _ rfl];simp
   . refine .inr (.inr (.inr λd h=>?_))
     unfold Vu communicate;simp only[p d h];rw[h];refine(congrArg (λx:Stepped × Array MemOp=>match x with|(.next m,_)=>GStep.go (m.gs.getD 0 default) m.world|(.ended o w,_)=>.ended o w) ((BQ f).tr (BQ n))).tr ?_;generalize A:(List.filter _ _:List (Nat × CommCase × List Way))=ready;obtain rfl:X6 cs w=ready:=A;cases v:(IZ (X6 cs w)).run P d with
     |halt s l=>rfl
     |ok z l=>
       obtain⟨k,c,way⟩:=z;have C:=RQ B v;cases way with
       |partner a b=>exact absurd rfl (C a b)
       |sendClosed=>
         simp only[MR,Jx];cases (runtimePanic (.plain "send on closed channel"):Sem Unit).run P l with
         |ok a u=>rfl
         |halt s u=>cases s<;>rfl
       |closed=>rfl
       |buffer=>
         simp only[MR,Jx];rw[Ic Ls]
         cases D:c.send<;>(cases t:c.chan<;>first
           | (rename_i o
              cases o<;>simp only[chanOf,t]<;>(generalize (l.heap[(_:Nat)]?:Option Obj)=o;rcases o with _ | o<;>first | rfl | (cases o<;>first | rfl | simp)))
           | (simp only[chanOf,t];(generalize (l.heap[(_:Nat)]?:Option Obj)=o;rcases o with _ | o<;>first | rfl | (cases o<;>first | rfl | simp))))
end
section
variable {g:AX}
variable {P : AY}{w : AU}
def _root_.Go.GStep.put(w:AU):GStep->GStep:=GStep.turn λ_=>w
theorem G7.next{F:AU->GStep}(nxt:GStep->GStep)(hF:G7 F w)(h:G7 (λr=>nxt ((F w).put r)) (F w).w)(x:(nxt (F w)).cont->(F w).cont):G7 (λw=>nxt (F w)) w:=by
 obtain⟨h1,m,K,A,z,u⟩:=hF;have y:(F w).put (F w).w=F w:=by cases F w<;>rfl
 obtain⟨n,d,L,o,j,f⟩:=h;simp only[y]at n d o j f;refine⟨n.tr h1,DR m d,max K L,DR o (Of _ _),λc=>?_,fun b s e l hA=>?_⟩
 .rw[z (x c),j c];exact Nat.max_eq_right d
 have v:=u b s e l (hA.mo (MZ _ _));have t:=f b s e (DR l m) yEi;have q:(F w).turn (rt b s e)=(F w).put (rt b s e (F w).w):=by cases F w<;>rfl
 simp only[v];rwa[q]
theorem Ay6(g:AX)(cs:Array CommCase)(sh:CommShape)(k:Nat)(c:CommCase)(way:Way)(w:AU):G7 (λw=>Jx P g cs sh k c way w) w:=by
 unfold Jx;cases way with
 |partner a b=>exact(Bf _ _).loc w|closed=>exact(D7 _ _).loc w
 |sendClosed=>
  have m:=Calm.loc (Qh (P:=P) (α:=Unit) (.plain "send on closed channel")) w #[];have e:∀w,(runtimePanic (.plain "send on closed channel"):Sem Unit).run P w=((runtimePanic (.plain "send on closed channel"):Sem Unit).runT P w #[]).1:=λw=>by rw[Sem.runT_eq]
  simp only[e];generalize l:(runtimePanic (.plain "send on closed channel"):Sem Unit).runT P w #[]=r;obtain⟨r,ev⟩:=r;cases r with
  |ok a q=>exact G7.caseOld m l (Bf (.stuck "communicate" "") #[]) (λw c=>c) λt u h=>by simp only[h,Result.put]
  |halt h q=>
   cases h;case panic v=>exact G7.case m l ((D7 {g with frame:=g.frame.raise [{v,recovered:=false}]} #[]).loc q) (λ_ x=>x) λt u h=>by simp only[h,Result.put]
   all_goals exact G7.caseOld m l (Bf (.stuck "communicate" "") #[]) (λw c=>c) λt u h=>by simp only[h,Result.put]
 |buffer=>
  refine G7.const ?_ ?_ fun n s e _=>?_;{dsimp only;split<;>rfl};{dsimp only;split<;>rfl};dsimp only
  show(match w.heap[chanOf c]?,c.send with
   |some (.chan cap d f p r j),some v=>GStep.go (g.finishComm P cs sh k AQ false) {rt n s e w with heap:=w.heap.setIfInBounds (chanOf c) (.chan cap (d.push v) f (p+1) r j)}
   |some (.chan cap d f p r j),none=>GStep.go (g.finishComm P cs sh k (d.getD 0 AQ) true) {rt n s e w with heap:=w.heap.setIfInBounds (chanOf c) (.chan cap (d.extract 1 d.size) f p (r+1) j)}
   | _,_=>GStep.ended (.stuck "communicate: no such channel" "") (rt n s e w))=_
  rcases w.heap[chanOf c]? with _|o;{cases c.send<;>rfl};cases o<;>cases c.send<;>rfl
theorem Ay5(g:AX)(cs:Array CommCase)(b:Bool)(sh:CommShape)(w:AU):G7 (λw=>Vu P g cs b sh w) w:=by
 rcases XM (P:=P) g cs b sh w with⟨o,h⟩|⟨d,_,h⟩|⟨d,_,h⟩|h
 .exact((Bf o #[]).loc w).like (h w rfl) fun f s e=>h _ rfl
 .exact((D7 d #[]).loc w).like (h w rfl) fun f s e=>h _ rfl
 .exact((D7 d #[]).loc w).like (h w rfl) fun f s e=>h _ rfl
 refine G7.like (G:=λj=>MR P g cs sh ((IZ (X6 cs w)).run P j)) ?_ (h w rfl) fun f s e=>h _ rfl;refine G7.bindR (P:=P) (x:=IZ (X6 cs w)) (MR P g cs sh) (Calm.loc (Avz _) w #[]) ?_ ?_
 .generalize Sem.run P _ w=r;cases r with
  |ok a w'=>obtain⟨k,c,way⟩:=a;exact Ay6 g cs sh k c way w'
  |halt h w'=>exact(Bf _ _).loc _
 exact zi0
def Qq(h:OkG g)(cs:Array CommCase)(sh:CommShape)(k:Int)(v:AW)(ok:Bool):OkG (g.finishComm P cs sh k v ok):=⟨Ji h.1 _,h.2⟩
theorem Avw(hg:OkG g)(hr:g.status=.running)(cs:Array CommCase)(b:Bool)(sh:CommShape)(w:AU):(∃o d,Vu P g cs b sh w=.ended o d)\/∃e d,Vu P g cs b sh w=.go e d/\OkG e/\∀t,e.status≠.sleeping t:=by
 have j:∀k c way w,(∃o d,Jx P g cs sh k c way w=.ended o d)\/∃e d,Jx P g cs sh k c way w=.go e d/\OkG e/\∀t,e.status≠.sleeping t:=by
  intro k c way w;unfold Jx;have f:∀(k:Int)v ok,∀t,(g.finishComm P cs sh k v ok).status≠.sleeping t:=λ_ _ _ _ h=>by cases h
  cases way with
  |partner a b=>exact .inl ⟨_,_,rfl⟩|closed=>exact .inr ⟨_,_,rfl,Qq hg _ _ _ _ _,f _ _ _⟩|sendClosed=>dsimp only;split;{exact .inr ⟨_,_,rfl,⟨Qb hg.1 _,hg.2⟩,λt h=>by rw[show g.status=_ from h]at hr;cases hr⟩};exact .inl ⟨_,_,rfl⟩
  |buffer=>dsimp only;split;{exact .inr ⟨_,_,rfl,Qq hg _ _ _ _ _,f _ _ _⟩};{exact .inr ⟨_,_,rfl,Qq hg _ _ _ _ _,f _ _ _⟩};exact .inl ⟨_,_,rfl⟩
 rcases XM (P:=P) g cs b sh w with⟨o,h⟩|⟨e,rfl,h⟩|⟨e,rfl,h⟩|h
 .exact .inl ⟨_,_,h w rfl⟩
 .exact .inr ⟨_,_,h w rfl,hg,λt h=>by cases h⟩
 .exact .inr ⟨_,_,h w rfl,Qq hg _ _ _ _ _,λt h=>by cases h⟩
 rw[h w rfl];generalize (IZ (X6 cs w)).run P w=r;cases r with
 |ok a d=>obtain⟨k,c,way⟩:=a;exact j k c way d
 |halt h d=>exact .inl ⟨_,_,rfl⟩
end
