import Derived.Test.YthdogflpbpkbeaaGreatDoorCB6
set_option linter.defProp false
namespace Go.Co
section
variable {es:Array Event}{α:Type}
variable {P : AY}{w : AU}
theorem NT{N:α->Prop}{x:Sem α}{d:Nat}(hx:EC P N d x):∀a,(∃e,(x.runT P w es).1=.ok a e)->N a:=by
 induction x generalizing d w es with
 |pure a=>rintro b⟨e,h⟩;cases h;exact hx.2
 |halt h=>rintro b⟨e,h⟩;cases h
 |load m a k f=>
  rintro b⟨e,h⟩;simp only[Sem.runT]at h;split at h
  . exact f _ (hx _) b ⟨e,h⟩
  . split at h
    . exact f _ (hx _) b ⟨e,h⟩
    . cases h
 |store m a v k f=>
  rintro b⟨e,h⟩;cases v<;>simp only[Sem.runT]at h<;>first
   |(cases h;done)
   | (split at h
      . split at h
        . cases h
        . exact f hx b ⟨e,h⟩
      . split at h
        . exact f hx b ⟨e,h⟩
        . cases h)
 |new o k f=>rintro b⟨e,h⟩;exact f _ (hx _) b ⟨e,h⟩
 |shape r k f=>rintro b⟨e,h⟩;exact f _ (hx _) b ⟨e,h⟩
 |freeze a n k f=>rintro b⟨e,h⟩;exact f hx b ⟨e,h⟩
 |frozen a k f=>rintro b⟨e,h⟩;exact f _ (hx _) b ⟨e,h⟩
 |getObj r k f=>
  rintro b⟨e,h⟩;simp only[Sem.runT]at h;split at h
  . cases h
  . exact f _ (hx _) b ⟨e,h⟩
  . cases h
 |setObj r o k f=>
  rintro b⟨e,h⟩;simp only[Sem.runT]at h;split at h
  . cases h
  . exact f hx b ⟨e,h⟩
  . cases h
 |choose q k f=>
  rintro b⟨e,h⟩;simp only[Sem.runT]at h;split at h
  . exact f _ (hx _) b ⟨e,h⟩
  . exact f _ (hx _) b ⟨e,h⟩
 |sys c k f=>rintro b⟨e,h⟩;exact f _ (hx.2 _) b ⟨e,h⟩
 |program k f=>rintro b⟨e,h⟩;exact f _ hx b ⟨e,h⟩
 |mark m k f=>rintro b⟨e,h⟩;exact f hx b ⟨e,h⟩
theorem Hg.case{F:AU->GStep}{x:Sem α}{ev:Array Event}(hx:Ix P x w es){r:Result α}(hr:x.runT P w es=(r,ev)){G:AU->GStep}(E:Hg G r.w)(y:(G r.w).cont->r.cont)
    (hF:∀j t,x.runT P j es=(r.put t,ev)->F j=G t):Hg F w:=by
 obtain⟨h1,f,K,z,n,l⟩:=hx;obtain⟨v,q,L,A,B,D⟩:=E;rw[hr]at h1 f z n l;have C:r.put r.w=r:=by cases r<;>rfl
 have b:=hF w r.w (by rwa[C]);refine⟨by rw[b];exact v.tr h1,by rw[b];exact DU f q,max K L,by rw[b];exact DU A (PE _ _),λc=>?_,fun d s e o hA=>?_⟩
 . rw[b]at c⊢
   rw[n (y c),B c];exact Nat.max_eq_right q
 . have m:=l d s e o (hA.mo (M5 _ _))
   have u:r.turn (rt d s e)=r.put (rt d s e r.w):=by cases r<;>rfl
   rw[u]at m;rw[hF _ _ m,b];exact D d s e (DU o f) yEj
theorem mL{d:Deferred}{fr:Frame}(h:((d.target matches .nil) && (fr.mode matches .panicking _))=true):d.target=.nil/\∃c,fr.mode=.panicking c:=by cases b:d.target<;>cases e:fr.mode<;>simp[b,e]at h⊢
def zE{p:Prop}(h:p:=by exact go {frame:=fr,callers:=cs,status:=.running,dying:=dy} λw₁ w₂ h=>by unfold callDeferred;refine(BQ hn).tr ?_;simp only[h]):p:=h
theorem rz(z:OkP P)(fr:Frame)(cs:List Frame)(dy:Option Dying)(d:Deferred)(w:AU):Hg (λw=>callDeferred P fr cs dy d w) w:=by
 by_cases o:d.target=.nil/\∃c,fr.mode=.panicking c
 . obtain⟨A,c,t⟩:=o
   refine Hg.congr ((Bg (.unsupported (.noEntry "machine/Return: a deferred call of a nil function value, made while the frame is unwinding") (fr.pos P)) #[]).loc w) λw=>?_
   unfold callDeferred;simp[A,t]
 . have hn:=λh=>o (mL h)
   have q:=Np z d.target d.args;have n:=O6 _ 0 q w #[];have s:=NT (w:=w) (es:=#[]) q;generalize j:(invoke d.target d.args).runT P w #[]=r at s;obtain⟨r,ev⟩:=r;cases r with
   |ok a e=>
     have go:∀(g:AX),(∀w₁ w₂,(invoke d.target d.args).runT P w₁ #[]=(.ok a w₂,ev)->callDeferred P fr cs dy d w₁=GStep.after (seen P fr.fn ev) (.go g w₂))->Hg (λw=>callDeferred P fr cs dy d w) w:=
       λg h=>Hg.case n j (Hg.after _ ((D9 g #[]).loc e)) (λ_=>trivial) h
     cases a<;>first|exact(s _ ⟨_,rfl⟩).elim|skip
     case value v=>exact zE
     case skip=>exact zE
     case enter f args=>exact go {frame:=Frame.enter P f args .deferred,callers:=fr::cs,status:=.running,dying:=dy} λw₁ w₂ h=>by unfold callDeferred;refine(BQ hn).tr ?_;simp only[h]
     case round l f B assign body=>exact go {frame:=Frame.round l f B assign body .deferred,callers:=fr::cs,status:=.running,dying:=dy} λw₁ w₂ h=>by unfold callDeferred;refine(BQ hn).tr ?_;simp only[h]
     case defer y=>exact zE
     case spawn y=>exact zE
     case comm c b C=>exact zE
     case row row args=>exact go {frame:=Frame.ofRow P row args .deferred,callers:=fr::cs,status:=.running,dying:=dy} λw₁ w₂ h=>by unfold callDeferred;refine(BQ hn).tr ?_;simp only[h]
     case recover=>
       refine go {frame:=fr,callers:=(match fr.mode,tryRecover fr cs with|.returning,some (_,callers)=>callers|_,_=>cs),status:=.running,dying:=dy} λw₁ w₂ h=>?_
       unfold callDeferred;refine(BQ hn).tr ?_;simp only[h];split<;>simp_all
     case coroswitch c x=>
       cases x with
       |true=>exact Hg.case n j (Hg.after (seen P fr.fn ev) (Yw.loc (F:=λw=>GStep.coroswitch {frame:=fr,callers:=cs,status:=.running,dying:=dy} c true w) (λ_=>⟨rfl,λ_=>rfl⟩) e)) (λ_=>trivial) λw₁ w₂ h=>by unfold callDeferred;refine(BQ hn).tr ?_;simp only[h,Result.put]
       |false=>exact Hg.case n j (Hg.after (seen P fr.fn ev) ((Bg (.unsupported (.noEntry "a deferred call of iter.newcoro or iter.coroswitch") (fr.pos P)) #[]).loc e)) (λ_=>trivial) λw₁ w₂ h=>by unfold callDeferred;refine(BQ hn).tr ?_;simp only[h,Result.put]
   |halt h e=>
     cases h
     case panic v=>exact Hg.case n j (Hg.after (seen P fr.fn ev) ((D9 {frame:=fr.raise [{v,recovered:=false}],callers:=cs,status:=.running,dying:=dy} #[]).loc e)) (λ_ x=>x) λw₁ w₂ h=>by unfold callDeferred;refine(BQ hn).tr ?_;simp only[h,Result.put]
     case exit c=>exact Hg.case n j (Hg.after (seen P fr.fn ev) ((Bg (.exit c) #[]).loc e)) (λ_ x=>x) λw₁ w₂ h=>by unfold callDeferred;refine(BQ hn).tr ?_;simp only[h,Result.put]
     case fatal m=>exact Hg.case n j (Hg.after (seen P fr.fn ev) (WT (P:=P) fr cs dy m e)) (λ_ x=>x) λw₁ w₂ h=>by unfold callDeferred;refine(BQ hn).tr ?_;simp only[h,Result.put]
     case throw m=>exact Hg.case n j (Hg.after (seen P fr.fn ev) (Yw.loc (F:=λw=>endThrow fr m w) (λ_=>⟨rfl,λ_=>rfl⟩) e)) (λ_ x=>x) λw₁ w₂ h=>by unfold callDeferred;refine(BQ hn).tr ?_;simp only[h,Result.put]
     case unsupported u=>exact Hg.case n j (Hg.after (seen P fr.fn ev) ((Bg (.unsupported u (fr.pos P)) #[]).loc e)) (λc=>by rw[H6]at c;exact c.elim) λw₁ w₂ h=>by unfold callDeferred;refine(BQ hn).tr ?_;simp only[h,Result.put]
     case stuck m=>exact Hg.case n j (Hg.after (seen P fr.fn ev) ((Bg (.stuck m (fr.pos P)) #[]).loc e)) (λc=>by rw[H6]at c;exact c.elim) λw₁ w₂ h=>by unfold callDeferred;refine(BQ hn).tr ?_;simp only[h,Result.put]
     case goexit=>exact Hg.case n j (Hg.after (seen P fr.fn ev) ((D9 {frame:=fr.raise [goexitEntry],callers:=cs,status:=.running,dying:=dy} #[]).loc e)) (λ_ x=>x) λw₁ w₂ h=>by unfold callDeferred;refine(BQ hn).tr ?_;simp only[h,Result.put]
     case blocked=>exact Hg.case n j (Hg.after (seen P fr.fn #[]) ((D9 {frame:={fr with defers:=d::fr.defers},callers:=cs,status:=.blocked,dying:=dy} #[]).loc e)) (λc=>by rw[H6]at c;cases c) λw₁ w₂ h=>by unfold callDeferred;refine(BQ hn).tr ?_;simp only[h,Result.put]
     case waiting=>exact Hg.case n j (Hg.after (seen P fr.fn #[]) ((D9 {frame:={fr with defers:=d::fr.defers},callers:=cs,status:=.waiting,dying:=dy} #[]).loc e)) (λc=>by rw[H6]at c;cases c) λw₁ w₂ h=>by unfold callDeferred;refine(BQ hn).tr ?_;simp only[h,Result.put]
theorem Ave(j:OkP P)(main:Bool)(fr:Frame)(cs:List Frame)(b:Option Dying)(w:AU):Hg (λw=>unwind P main fr cs b w) w:=by
 unfold unwind;split
 . rename_i block _ f _
   refine(OB (P:=P) (x:=Instr.takeDeferred block) BU (λr es=>GStep.after (seen P fr.fn es) (match r with
     |.ok calls w=>GStep.go {frame:={fr with defers:=calls++f},callers:=cs,status:=.running,dying:=b} w
     | .halt _ w=>.ended (.stuck "the deferred calls of a range-over-func loop have been taken" (fr.pos P)) w)) (λa es=>H7 _ (D9 _ _)) (λh es=>H7 _ (Bg _ _)) (λh w es _ c=>by rw[H6] at c;exact c) w).congr λw=>rfl
 . exact rz j _ _ _ _ w
 . split
   . exact(Bg _ _).loc w
   . rename_i chain _
     split
     . exact(Bg _ _).loc w
     . split
       . exact(D9 _ _).loc w
       . split
         . split
           . exact(D9 _ _).loc w
           . have e:Hg (λw=>(λr:Result (List (AW × String))=>match r with|.ok todo w=>GStep.go {frame:=fr,callers:=[],status:=.running,dying:=some {todo:=todo,texts:=[],calling:=false,pending:= "",runtimeError:=isRuntimeError P (chain.head?.map (·.v))} } w|.halt (.unsupported u) w=>.ended (.unsupported u "") w|.halt _ w=>.ended (.stuck "the report of a panic" "") w) ((reportChain chain false).run P w)) w:=by
               refine Hg.bindR (P:=P) (x:=reportChain chain false) (λr:Result (List (AW × String))=>match r with|.ok todo w=>GStep.go {frame:=fr,callers:=[],status:=.running,dying:=some {todo:=todo,texts:=[],calling:=false,pending:= "",runtimeError:=isRuntimeError P (chain.head?.map (·.v))} } w|.halt (.unsupported u) w=>.ended (.unsupported u "") w|.halt _ w=>.ended (.stuck "the report of a panic" "") w) (Calm.loc (Xz _ _) w #[]) ?_ ?_
               . generalize Sem.run P _ w=r
                 cases r with
                 |ok a d=>exact(D9 _ _).loc _
                 |halt h d=>cases h<;>exact(Bg _ _).loc _
               . generalize Sem.run P _ w=r
                 cases r with
                 |ok a d=>exact λ_=>trivial
                 |halt h d=>cases h<;>exact λx=>x.elim
             exact e.congr λw=>rfl
         . split
           . exact(Vz fr _).loc w
           . exact(Bg _ _).loc w
   . split
     . exact(Vb _ _ _ _ _).loc w
     . rename_i l _
       refine(OB (P:=P) (x:=results l fr.tmps) (WC _ _) (λr es=>GStep.after (seen P fr.fn es) (match r with
         |.ok v w=>doReturn P main fr cs b v w
         |.halt (.stuck s) w=>.ended (.stuck s (fr.pos P)) w
         | .halt _ w=>.ended (.stuck "return: the result variables cannot be read" (fr.pos P)) w)) (λa es=>H7 _ (Vb _ _ _ _ _)) (λh es=>?_) (λh w es _ c=>?_) w).congr λw=>rfl
       . cases h<;>exact H7 _ (Bg _ _)
       . rw[H6]at c;cases h<;>exact c
end
section
variable {P : AY}{w : AU}
theorem Hg.caseOld{α:Type}{F:AU->GStep}{x:Sem α}{es ev:Array Event}(hx:Ix P x w es){r:Result α}(hr:x.runT P w es=(r,ev)){G:AU->GStep}(p:Yw G)(t:∀w,¬(G w).cont)
  (hF:∀d A,x.runT P d es=(r.put A,ev)->F d=G d):Hg F w:=by
 obtain⟨q,l,K,o,v,n⟩:=hx;rw[hr]at q l o v n;have z:r.put r.w=r:=by cases r<;>rfl
 have b:=hF w r.w (by rwa[z]);have f:=(p w).1;refine⟨by rw[b,f],by rw[b,f];exact DN _,K,by rw[b,f];exact DU l o,λc=>by rw[b]at c;exact(t w c).elim,fun j s e y B=>?_⟩;have m:=n j s e y B;have u:r.turn (rt j s e)=r.put (rt j s e r.w):=by cases r<;>rfl
 rw[u]at m;rw[hF _ _ m,b];exact(p w).2 _
theorem yV(b:Nat)(text:ByteArray)(o:Outcome)(w:AU):Hg (λw=>endWith w b text o) w:=by
 have⟨p,m,y,q⟩:=dj (.write b text) w;have n:∀w,∃f,endWith w b text o=.ended f (w.sys (.write b text)).2:=by intro w;unfold endWith;generalize w.sys (.write b text)=x;obtain⟨r,u⟩:=x;cases r<;>dsimp only<;>first|exact⟨_,rfl⟩|(split<;>exact⟨_,rfl⟩)
 have⟨f,c⟩:=n w;have l:(w.sys (.write b text)).2.drawn<=(w.ask (Kernel.perform (.write b text) w.os)).2.drawn:=by by_cases d:(w.sys (.write b text)).1=.wouldBlock;{exact q d};exact Nat.le_of_eq (y d)
 refine⟨by rwa[c],by rwa[c],(w.ask (Kernel.perform (.write b text) w.os)).2.drawn,by rwa[c],by rw[c];exact λx=>x.elim,fun z s e t v=>?_⟩;have j:=SZ (.write b text) w t v;unfold endWith;rw[j];generalize w.sys (.write b text)=x;obtain⟨r,u⟩:=x;cases r<;>dsimp only<;>first|rfl|(split<;>rfl)
theorem WL(fr:Frame)(d:Dying)(f:Fatal)(piece:ByteArray)(rest:List ByteArray)(b:f.pieces=piece::rest):∃X:Sem Unit,EC P (λ_=>True) 0 X/\
  ∀w,writeOn P fr d f w=match X.runT P w #[] with
   |(.ok _ w,es)=>GStep.go {frame:=fr,callers:=[],status:=.running,dying:=some {d with fatal:=some {f with pieces:=rest,begun:=true} } } w es
   |(.halt .blocked w,_)=>GStep.go {frame:=fr,callers:=[],status:=.blocked,dying:=some {d with fatal:=some f} } w #[]
   |(.halt (.unsupported u) w,_)=>.ended (.unsupported u "") w
   |(.halt _ w,_)=>.ended (.stuck "the report of a fatal error" "") w:=by
 unfold writeOn;simp only[b];refine⟨_,?_,λw=>rfl⟩;repeat' first|exact Ij trivial|refine Wt ?_|refine YW ?_|refine cE (λ_=>?_)|with_reducible refine Ox ?_|refine YU ?_|exact .inl rfl|exact .inr trivial|refine Em Ky (λ_=>?_)|(refine⟨trivial,λr=>?_⟩;cases r)|split
 all_goals show EC P (λ_=>True) 0 (if _ then unsupported _ else pure ());split;{exact .inl rfl};exact Ij trivial
theorem yO(fr:Frame)(d:Dying)(f:Fatal)(w:AU):Hg (λw=>writeOn P fr d f w) w:=by
 cases n:f.pieces with
 |nil=>refine Hg.congr ((Bg (.fatal f.text) #[]).loc w) λw=>?_;unfold writeOn;simp only[n]
 |cons piece rest=>
  have⟨X,o,hF⟩:=WL (P:=P) fr d f piece rest n;have j:=O6 X 0 o w #[];generalize e:X.runT P w #[]=r;obtain⟨r,ev⟩:=r;cases r with
  |ok a b=>exact Hg.case j e ((D9 {frame:=fr,callers:=[],status:=.running,dying:=some {d with fatal:=some {f with pieces:=rest,begun:=true} } } ev).loc b) (λ_=>trivial) λl m h=>by rw[hF,h];rfl|halt h b=>cases h<;>first|exact Hg.case j e ((D9 {frame:=fr,callers:=[],status:=.blocked,dying:=some {d with fatal:=some f} } #[]).loc b) (λc=>by cases c) λl m h=>by rw[hF,h];rfl|(rename_i u;exact Hg.case j e ((Bg (.unsupported u "") #[]).loc b) (λc=>c.elim) λl m h=>by rw[hF,h];rfl)|exact Hg.case j e ((Bg (.stuck "the report of a fatal error" "") #[]).loc b) (λc=>c.elim) λl m h=>by rw[hF,h];rfl
def zq0{p:Prop}(h:p:=by exact Hg.case hx hr (Hg.after _ ((D9 _ #[]).loc w')) (λ_=>trivial) λw₁ w₂ h=>by simp only[h,Result.put];rfl):p:=h
theorem pA(l:OkP P)(fr:Frame)(d:Dying)(w:AU):Hg (λw=>die P fr d w) w:=by
 unfold die;split
 .exact yO fr d _ w
 split
 .by_cases b:printLockHeld P w=true;{exact Hg.like (G:=λw=>GStep.go {frame:=fr,callers:=[],status:=.blocked,dying:=some d} w #[]) ((D9 _ _).loc w) (BR b) fun j s e=>BR (show printLockHeld P (rt j s e w)=true from b)};exact Hg.like (yV _ _ _ w) (BQ b) fun j s e=>BQ (show ¬printLockHeld P (rt j s e w)=true from b)
 rename_i v mark rest _;dsimp only;split
 .exact(D9 _ _).loc w
 .rename_i s _;have hx:=Calm.loc (Xy (P:=P) s) w #[];have e:∀w,(withAddress s).run P w=((withAddress s).runT P w #[]).1:=λw=>by rw[Sem.runT_eq]
  simp only[e];generalize hr:(withAddress s).runT P w #[]=r;obtain⟨r,ev⟩:=r;cases r with
  |ok a w'=>exact Hg.case hx hr ((D9 _ #[]).loc w') (λ_=>trivial) λw₁ w₂ h=>by simp only[h,Result.put];rfl|halt h w'=>exact Hg.case hx hr ((Bg _ #[]).loc w') (λc=>c.elim) λw₁ w₂ h=>by simp only[h,Result.put];rfl
 .rename_i t recv name _;have hx:=O6 _ 0 (Np l (.fn (.method name) #[]) #[.iface t recv]) w #[];generalize hr:(invoke (.fn (.method name) #[]) #[.iface t recv]).runT P w #[]=r;obtain⟨r,ev⟩:=r;cases r with
  |ok a w'=>
   cases a;case enter f args=>exact zq0
   case value x=>
    cases x;case string s=>exact zq0
    all_goals exact Hg.caseOld hx hr (H7 _ (Bg _ #[])) (λw c=>by rwa[H6]at c) λw₁ w₂ h=>by simp only[h,Result.put];rfl
   all_goals exact Hg.caseOld hx hr (H7 _ (Bg _ #[])) (λw c=>by rwa[H6]at c) λw₁ w₂ h=>by simp only[h,Result.put];rfl
  |halt h w'=>
   cases h;case panic v=>exact Hg.case hx hr (Hg.after _ ((Vz fr v).loc w')) (λ_ x=>x) λw₁ w₂ h=>by simp only[h,Result.put];rfl
   case unsupported u=>exact Hg.case hx hr (Hg.after _ ((Bg _ #[]).loc w')) (λc=>by rw[H6]at c;exact c.elim) λw₁ w₂ h=>by simp only[h,Result.put];rfl
   all_goals exact Hg.caseOld hx hr (H7 _ (Bg _ #[])) (λw c=>by rwa[H6]at c) λw₁ w₂ h=>by simp only[h,Result.put];rfl
 exact(Bg _ _).loc w
def Azs(b:OkP P)(main:Bool)(g:AX)(hg:ET g.frame)(w:AU):Hg (λw=>stepG P main g w) w:=by
 unfold stepG;obtain⟨fr,cs,d,c,off⟩:=g;dsimp only;split
 .exact pA b _ _ w
 .exact mV b main _ hg _ _ w
 exact Ave b main _ _ _ w
end
section
variable {a:Ab}{h:Halt}{α:Type}
variable {P : AY}{w : AU}
def Zp{α:Type}:Result α->Prop
  |.ok _ _=>True
  |.halt .blocked _|.halt .waiting _|.halt (.unsupported _) _|.halt (.stuck _) _=>False
  |_=>True
def Yy(es:Array Event):Prop:=∀e∈es,∀m,e.loc=.mark m->e.sync=true
theorem O9{es:Array Event}{e:Event}(h:Yy es)(c:∀m,e.loc=.mark m->e.sync=true):Yy (es.push e):=by
 intro x b;rcases Array.mem_push.1 b with b|rfl
 . exact h x b
 . exact c
def deaf_push(d:Nat)(es:Array Event)(e:Event):deafBehind d (es.push e)=match e.loc with|.mark .disable=>deafBehind d es+1|.mark .enable=>deafBehind d es - 1|_=>deafBehind d es:=by unfold deafBehind;rw[Array.foldl_push];rfl
def Zv(d:Nat)(es:Array Event)(a:Ab)(b c:Bool):deafBehind d (es.push ⟨.cell a,b,c⟩)=deafBehind d es:=by rw[deaf_push]
theorem Zc(d:Nat)(es:Array Event)(b c:Bool)(l:List Ab):deafBehind d (es++l.toArray.map (⟨.cell ·,b,c⟩))=deafBehind d es/\(Yy es->Yy (es++l.toArray.map (⟨.cell ·,b,c⟩))):=by
 refine⟨?_,λh x e=>?_⟩
 . unfold deafBehind
   rw[Array.foldl_append];simp only[Bcv,D1,Db,List.foldl_toArray'];generalize Array.foldl _ d es=n;induction l generalizing n with
   |nil=>rfl
   |cons a l f=>exact f n
 . rcases Array.mem_append.1 e with e|e
   . exact h x e
   . obtain⟨a,_,rfl⟩:=Array.mem_map.1 e
     intro m j;cases j
theorem tI{b:Bool}(c:w.farLoad P a b=.error h):¬Zp (.halt h w:Result Unit):=by
 unfold World.farLoad at c;have d:∀s,¬Zp (.halt (w.noCell a s) w:Result Unit):=by intro s;unfold World.noCell;split<;>exact id
 split at c
 . split at c
   . cases c
   . cases c;exact id
 . cases c;exact d _
theorem sg{v:AW}{b:Bool}(c:w.farStore P a v b=.error h):¬Zp (.halt h w:Result Unit):=by
 unfold World.farStore at c;have d:∀s,¬Zp (.halt (w.noCell a s) w:Result Unit):=by intro s;unfold World.noCell;split<;>exact id
 split at c
 . split at c
   . cases c
   . cases c;exact id
 . cases c;exact d _
theorem XW{w w':AU}:Zp (.halt h w:Result α)↔Zp (.halt h w':Result Unit):=by cases h<;>exact Iff.rfl
theorem Zf{N:α->Prop}{x:Sem α}:∀{d:Nat}(_:EC P N d x)(w:AU)(es:Array Event),deafBehind 0 es=d->Yy es->Yy (x.runT P w es).2/\(Zp (x.runT P w es).1->deafBehind 0 (x.runT P w es).2=0):=by
 induction x with
 |pure a=>intro d e w es hd b;exact⟨b,λ_=>hd.tr e.1⟩
 |halt h=>
  intro d e w es hd b;refine⟨b,λj=>?_⟩;rcases e with t|t
  . exact hd.tr t
  . cases h<;>first|exact j.elim|exact t.elim
 |load m a k f=>
  intro d e w es hd b;simp only[Sem.runT];split
  . exact f _ (e _) w _ (by rwa[Zv]) (O9 b (λm p=>by cases p))
  . split
    . rename_i v l _
      exact f _ (e _) w _ (by rwa[(Zc 0 es _ _ l).1]) ((Zc 0 es _ _ l).2 b)
    . rename_i h s
      exact⟨b,λj=>absurd (XW.1 j) (tI s)⟩
 |store m a v k f=>
  intro d e w es hd b;cases v<;>simp only[Sem.runT]<;>first
   |exact⟨b,λj=>j.elim⟩
   | (split
      . split
        . exact⟨b,λj=>j.elim⟩
        . exact f e _ _ (by rwa[Zv]) (O9 b (λm p=>by cases p))
      . split
        . rename_i u l _
          exact f e _ _ (by rwa[(Zc 0 es _ _ l).1]) ((Zc 0 es _ _ l).2 b)
        . rename_i h s
          exact⟨b,λj=>absurd (XW.1 j) (sg s)⟩)
 |new o k f=>intro d e w es hd b;exact f _ (e _) _ es hd b|shape r k f=>intro d e w es hd b;exact f _ (e _) _ es hd b|freeze a n k f=>intro d e w es hd b;exact f e _ es hd b|frozen a k f=>intro d e w es hd b;exact f _ (e _) _ es hd b
 |getObj r k f=>
  intro d e w es hd b;simp only[Sem.runT];split
  . exact⟨b,λj=>j.elim⟩
  . exact f _ (e _) w _ (by rwa[deaf_push]) (O9 b (λm p=>by cases p))
  . exact⟨b,λj=>j.elim⟩
 |setObj r o k f=>
  intro d e w es hd b;simp only[Sem.runT];split
  . exact⟨b,λj=>j.elim⟩
  . exact f e _ _ (by rwa[deaf_push]) (O9 b (λm p=>by cases p))
  . exact⟨b,λj=>j.elim⟩
 |choose q k f=>
  intro d e w es hd b;simp only[Sem.runT];split
  . exact f _ (e _) w es hd b
  . exact f _ (e _) _ es hd b
 |sys c k f=>intro d e w es hd b;exact f _ (e.2 _) _ _ (by rwa[deaf_push]) (O9 b (λm p=>by cases p))
 |program k f=>intro d e w es hd b;exact f _ e w es hd b|mark m k f=>intro d e w es hd b;refine f e w _ ?_ (O9 b (λ_ _=>rfl));rw[deaf_push,hd];cases m<;>rfl
theorem RY(fn:FuncId)(es:Array Event)(h:Yy es):deafBehind 0 (seen P fn es)=deafBehind 0 es:=by
 have key:∀(l:List Event)(q:Bool)(kept:Array Event),(∀e∈l,∀m,e.loc=.mark m->e.sync=true)->
     deafBehind 0 (l.foldl (λ(x:Bool × Array Event) e=>match e.loc with
       |.mark (.extern f)=>((P.funcs[f]?).any (·.norace),x.2)
       | _=>(x.1,if x.1 && !e.sync then x.2 else x.2.push e)) (q,kept)).2=l.foldl (λd e=>match e.loc with | .mark .disable=>d+1 | .mark .enable=>d - 1 | _=>d) (deafBehind 0 kept):=by
   intro l;induction l with
   |nil=>exact λq kept _=>rfl
   |cons e l c=>
     intro q kept n;simp only[List.foldl_cons];have b:=λx s=>n x (Da _ s)
     obtain⟨r,wr,j⟩:=e;cases r with
     |mark m=>
       have o:j=true:=n ⟨.mark m,wr,j⟩ E6 m rfl;subst o;cases m<;>(simp only[M4,Bool.and_false,E3,EL];rw[c _ _ b];try rw[deaf_push])
     |_=>
       simp only;rw[c _ _ b];split
       . rfl
       . rw[deaf_push]
 unfold seen;dsimp only;rw[<-Array.foldl_toList];refine(key es.toList _ #[] (λe p=>h e (Array.mem_toList_iff.1 p))).tr ?_;show List.foldl _ 0 es.toList=deafBehind 0 es;unfold deafBehind;rw[<-Array.foldl_toList];rfl
end
def FN(cs:List Frame):Prop:=∀c∈cs,ET c
def _root_.Go.GStep.fine:GStep->Prop
 |.go g _ es=>OkG g/\(∀t,g.status≠.sleeping t)/\(g.status=.running->deafBehind 0 es=0)
 |.comm g _ _ _ _ es=>OkG g/\g.status=.running/\deafBehind 0 es=0
 |.coroswitch g _ _ _ es=>OkG g/\deafBehind 0 es=0
 |.spawn ..|.ended ..=>True
 |_=>False
section
variable {cs:List Frame}{fr:Frame}
variable {P : AY}{w : AU}
theorem R9(es b:Array Event)(h:deafBehind 0 es=0):deafBehind 0 (es++b)=deafBehind 0 b:=by unfold deafBehind at*;rw[Array.foldl_append,h]
theorem D5{es:Array Event}{x:GStep}(h:x.fine)(hd:x.cont->deafBehind 0 es=0):(GStep.after es x).fine:=by cases x with|go g w d=>exact⟨h.1,h.2.1,λe=>by rw[R9 _ _ (hd e)];exact h.2.2 e⟩|comm g c b f w d=>exact⟨h.1,h.2.1,by rw[R9 _ _ (hd trivial)];exact h.2.2⟩|coroswitch g c b w d=>exact⟨h.1,by rw[R9 _ _ (hd trivial)];exact h.2⟩|spawn g c w d=>trivial|ended o w d=>trivial|_=>exact h
def D7{st:GoStatus}{dy:Option Dying}(h1:ET fr)(h2:FN cs)(hst:∀t,st≠.sleeping t:=by intro _ h;cases h):(GStep.go {frame:=fr,callers:=cs,status:=st,dying:=dy} w).fine:=⟨⟨h1,h2⟩,hst,λ_=>rfl⟩
theorem Lr:FN []:=λ_ h=>by cases h
def Oa(h1:ET fr)(d:FN cs):FN (fr::cs):=λc b=>(BD.1 b).elim (λe=>e ▸ h1) (d c)
def Qe(h:ET fr)(vs:List PanicEntry):ET (fr.raise vs):=by unfold Frame.raise;split<;>exact h
theorem Sz(f:FuncId)(args:δ)(k:CallKind):ET (Frame.enter P f args k):=by intro i hi;simp only[Frame.enter,gZ]at hi;subst hi;trivial
theorem YH(l:Nat)(f:FuncId)(t:δ)(a b:Code)(k:CallKind):ET (Frame.round l f t a b k):=by intro i hi;simp only[Frame.round,EN,FK,FM]at hi;rcases hi with rfl|rfl|rfl<;>trivial
theorem ei(args:δ)(k:CallKind):ET (Frame.ofRow P "runtime.print$piece" args k):=by intro i hi;simp only[Frame.ofRow,gZ]at hi;subst hi;rfl
theorem Jm(h:ET fr)(v:AW):ET (fr.finish v):=by
 unfold Frame.finish;unfold ET at h;split
 .rename_i f i rest k e;rw[e]at h;intro j c;rcases BD.1 c with rfl|c;{trivial};exact h j (Da _ c)
 .rename_i l k e;rw[e]at h;intro j c;rcases BD.1 c with rfl|c;{trivial};exact h j (Da _ c)
 .rename_i k e;rw[e]at h;exact λj c=>h j (Da _ c)
 .rename_i d b r s k e;rw[e]at h;intro j c;rcases BD.1 c with rfl|c;{exact h (.call d b r s) E6};exact h j (Da _ c)
 .rename_i r a k e;rw[e]at h;exact λj c=>h j (Da _ c)
 exact h
theorem Ut:∀{fr:Frame}{cs:List Frame}{v:AW}{b:List Frame},FN cs->tryRecover fr cs=some (v,b)->FN b:=by
 intro fr cs;induction cs generalizing fr with
 |nil=>intro v b _ h;unfold tryRecover at h;cases e:fr.kind<;>simp[e]at h
 |cons c cs m=>
  intro v b l h;have f:=l c E6;have j:FN cs:=λx n=>l x (Da _ n);unfold tryRecover at h;cases e:fr.kind<;>simp only[e]at h
  case deferred=>split at h;{cases h;exact Oa f j};cases h
  case wrapped=>
   cases d:tryRecover c cs with
   |none=>rw[d]at h;cases h
   |some x=>rw[d]at h;obtain⟨p,o⟩:=x;cases h;exact Oa f (m j d)
  all_goals cases h
theorem rx:∀{l:Nat}{cs:List Frame}{v:AW}{e:List Frame},FN cs->tryRecoverLoop l cs=some (v,e)->FN e:=by
 intro l cs;induction cs generalizing l with
 |nil=>intro v e _ h;cases h
 |cons c cs f=>intro v e j h;have m:=j c E6;have d:FN cs:=λx b=>j x (Da _ b);unfold tryRecoverLoop at h;have⟨x,b,n⟩:=Option.map_eq_some_iff.1 h;obtain⟨o,p⟩:=x;cases n;refine Oa m ?_;split at b;{exact f d b};{split at b;{exact Ut d b};exact f d b};exact f d b
theorem Xh(main:Bool)(dy:Option Dying)(v:AW)(w:AU)(h1:ET fr)(h2:FN cs):(doReturn P main fr cs dy v w).fine:=by
 unfold doReturn;cases cs with
 |cons c cs=>have b:=h2 c E6;have d:FN cs:=λx e=>h2 x (Da _ e);dsimp only;split;{exact D7 (Jm b v) d};{exact D7 (Jm b v) d};{exact D7 b d};refine D7 ?_ d;split;{split<;>exact b};exact b|nil=>dsimp only;split;{exact D7 h1 Lr};{trivial};split;{exact D7 h1 Lr};split;{exact D7 (Sz _ _ _) Lr};trivial
def Vy(l:List ByteArray)(m:String)(b:Bool)(w:AU)(h:ET fr):(dieOf fr l m b w).fine:=D7 h Lr
def Xx(v:AW)(w:AU)(h:ET fr):(endPrinting P fr v w).fine:=by
 unfold endPrinting;dsimp only;split
 .exact Vy _ _ _ w h
 trivial
def VP(b:Option Dying)(m:String)(w:AU)(h:ET fr):(endFatal P fr cs b m w).fine:=by
 unfold endFatal;dsimp only;split
 .exact Vy _ _ _ _ h
 .trivial
 trivial
theorem Awd(dy:Option Dying)(g:Nat)(w:AU)(h1:ET fr)(h2:FN cs):(early P fr cs dy g w).fine:=by
 have b:∀w:AU,(match w.heap[g]? with
   |some (.pending c elem)=>GStep.go {frame:=fr,callers:=cs,status:=.running,dying:=dy} {w with heap:=w.heap.setIfInBounds g (.cells c elem)}
   | _=>.ended (.stuck "early: the variable does not wait" (fr.pos P)) w).fine:=by
  intro w;split
  .exact D7 h1 h2
  .trivial
 have e:∀(f:FuncId)(w:AU)(l:List FuncId),(GStep.go {frame:=Frame.enter P f #[] .early,callers:=l.map (Frame.enter P · #[] .early)++fr::cs,status:=.running,dying:=dy} w).fine:=by intro f w l;refine D7 (Sz _ _ _) λc d=>?_;rcases BI.1 d with d|d;{obtain⟨x,_,rfl⟩:=BM.1 d;exact Sz _ _ _};exact Oa h1 h2 c d
 unfold early;dsimp only;split
 .exact b w
 split
 .trivial
 split
 .exact b w
 split
 .exact b w
 split
 .trivial
 .exact e _ _ _
 .trivial
 .exact b w
 split
 .exact e _ _ _
 split
 .exact b w
 split
 .exact b _
 .exact e _ _ _
 trivial
def Xn:Yy #[]:=λ_ h=>by simp at h
theorem Td(dy:Option Dying){x:Sem Next}(w:AU)(h1:ET fr)(h2:FN cs)(hx:EC P X0 0 x):(stepG.apply P true fr cs dy x w).fine:=by
 have s:=NT (w:=w) (es:=#[]) hx;have p:=Zf hx w #[] rfl Xn;rw[fN];generalize C:x.runT P w #[]=r at s p;obtain⟨r,ev⟩:=r;have j:∀es:Array Event,(es=#[]\/es=ev)->(es=ev->Zp r)->deafBehind 0 (seen P fr.fn (if fr.kind==.early then #[] else es))=0:=by intro es z A;split;{rfl};rcases z with rfl|rfl;{rfl};rw[RY _ _ p.1];exact p.2 (A rfl)
 cases r with
 |ok a e=>
  refine D5 ?_ λ_=>j _ (.inr rfl) λ_=>trivial;have q:=s a ⟨e,rfl⟩;unfold stepG.apply;simp only[LJ,if_true,Sem.runT,ite_self,Iz,Hq,Result.w];cases a<;>first|exact q.elim|skip
  case value v=>exact D7 (Jm h1 v) h2
  case skip=>exact D7 (Jm h1 _) h2
  case enter f args=>exact D7 (Sz _ _ _) (Oa h1 h2)
  case round l f t a b=>exact D7 (YH _ _ _ _ _ _) (Oa h1 h2)
  case defer d=>exact D7 (Jm (fr:={fr with defers:=d::fr.defers}) h1 _) h2
  case recover=>dsimp only;split;{rename_i v E n;refine D7 (Jm h1 _) ?_;split at n;{split at n;{exact Ut h2 n};exact rx h2 n};exact Ut h2 n};exact D7 (Jm h1 _) h2
  case spawn d=>dsimp only;split<;>split<;>first|exact Vy _ _ _ _ h1|trivial
  case comm c b G=>exact⟨⟨h1,h2⟩,rfl,rfl⟩
  case coroswitch c b=>exact⟨⟨h1,h2⟩,rfl⟩
  case row r args=>obtain rfl:r= "runtime.print$piece" :=q;dsimp only;split;{rename_i D F k B;refine D7 ?_ h2;intro i hi;rcases BD.1 hi with rfl|hi;{rfl};exact h1 i (by rw[B];exact Da _ hi)};exact D7 (ei _ _) (Oa h1 h2)
 |halt h e=>
  have o:∀h:Halt,KV h->∀es,(stepG.apply P true fr cs dy (.halt h) e).cont->deafBehind 0 es=0:=λh y es c=>absurd y (Yo fr cs dy h e c);cases h;case panic v=>refine D5 ?_ λ_=>j _ (.inr rfl) λ_=>trivial;show(stepG.apply P true fr cs dy (.halt (.panic v)) e).fine;unfold stepG.apply;simp only[if_true,Sem.runT,ite_self,Iz,Hq];exact D7 (Qe h1 _) h2
  case goexit=>refine D5 ?_ λ_=>j _ (.inr rfl) λ_=>trivial;show(stepG.apply P true fr cs dy (.halt .goexit) e).fine;unfold stepG.apply;simp only[if_true,Sem.runT,ite_self,Iz,Hq];exact D7 (Qe h1 _) h2
  case blocked=>refine D5 ?_ (o .blocked trivial _);show(stepG.apply P true fr cs dy (.halt .blocked) e).fine;unfold stepG.apply;simp only[if_true,Sem.runT,ite_self,Iz,Hq];exact D7 h1 h2
  case waiting=>refine D5 ?_ (o .waiting trivial _);show(stepG.apply P true fr cs dy (.halt .waiting) e).fine;unfold stepG.apply;simp only[if_true,Sem.runT,ite_self,Iz,Hq];exact D7 h1 h2
  case exit c=>refine D5 ?_ λ_=>j _ (.inr rfl) λ_=>trivial;show(stepG.apply P true fr cs dy (.halt (.exit c)) e).fine;unfold stepG.apply;simp only[if_true,Sem.runT,ite_self,Iz,Hq];trivial
  case fatal m=>refine D5 ?_ λ_=>j _ (.inr rfl) λ_=>trivial;show(stepG.apply P true fr cs dy (.halt (.fatal m)) e).fine;unfold stepG.apply;simp only[if_true,Sem.runT,ite_self,Iz,Hq];exact VP dy m e h1
  case throw m=>refine D5 ?_ λ_=>j _ (.inr rfl) λ_=>trivial;show(stepG.apply P true fr cs dy (.halt (.throw m)) e).fine;unfold stepG.apply;simp only[if_true,Sem.runT,ite_self,Iz,Hq];exact Vy _ _ _ e h1
  case stuck m=>refine D5 ?_ (o (.stuck m) trivial _);show(stepG.apply P true fr cs dy (.halt (.stuck m)) e).fine;unfold stepG.apply;simp only[if_true,Sem.runT,ite_self,Iz,Hq];trivial
  case unsupported u=>by_cases hi:∃g,u=.initOrder g;{obtain⟨g,rfl⟩:=hi;(refine D5 ?_ λ_=>by show deafBehind 0 (seen P fr.fn (if fr.kind==.early then #[] else #[]))=0;split<;>rfl);show(stepG.apply P true fr cs dy (.halt (.unsupported (.initOrder g))) e).fine;unfold stepG.apply;simp only[if_true,Sem.runT,ite_self,Iz,Hq];exact Awd dy g e h1 h2};refine D5 ?_ (o (.unsupported u) (by cases u<;>first|trivial|exact absurd ⟨_,rfl⟩ hi) _);show(stepG.apply P true fr cs dy (.halt (.unsupported u)) e).fine;unfold stepG.apply;cases u<;>first|exact absurd ⟨_,rfl⟩ hi|(simp only[if_true,Sem.runT,ite_self,Iz,Hq];trivial)
end
section
variable {cs:List Frame}{ev:Array Event}{fr:Frame}{i:Item}{k:List Item}
variable {P : AY}{w : AU}
def LD{α:Type}{x:Sem α}(hx:Calm P x)(fn:FuncId){r:Result α}(hr:x.runT P w #[]=(r,ev))(hg:Zp r):deafBehind 0 (seen P fn ev)=0:=by have b:=Zf hx w #[] rfl Xn;rw[hr]at b;rw[RY _ _ b.1];exact b.2 hg
def JY{x:Sem Next}(hx:EC P X0 0 x)(fn:FuncId){r:Result Next}(hr:x.runT P w #[]=(r,ev))(hg:Zp r):deafBehind 0 (seen P fn ev)=0:=by have b:=Zf hx w #[] rfl Xn;rw[hr]at b;rw[RY _ _ b.1];exact b.2 hg
def Q7{o:Outcome}{es b:Array Event}:(GStep.after es (.ended o w b)).fine:=trivial
def Iq(h:ET fr)(c:fr.todo=i::k):∀j∈k,Xr j:=λj b=>h j (by rw[c];exact Da _ b)
def J8{c:Code}(h:∀j∈k,Xr j):∀j∈Item.code c::k,Xr j:=λj b=>(BD.1 b).elim (λe=>e ▸ trivial) (h j)
def J7(hi:Xr i)(h:∀j∈k,Xr j):∀j∈i::k,Xr j:=λj b=>(BD.1 b).elim (λe=>e ▸ hi) (h j)
theorem uR{f:Nat}:∀{k b:List Item},(∀j∈k,Xr j)->exitTo f k=some b->∀j∈b,Xr j:=by
 intro k;induction k with
 |nil=>intro b _ h;cases h
 |cons i k d=>
  intro b l h;have c:=λj e=>l j (Da _ e);cases i<;>simp only[exitTo]at h<;>first
   |exact d c h
   | (split at h
      . cases h;exact c
      . exact d c h)
theorem vR{l:Nat}:∀{k b:List Item},(∀j∈k,Xr j)->gotoIn l k=some b->∀j∈b,Xr j:=by
 intro k;induction k with
 |nil=>intro b _ h;cases h
 |cons i k d=>
  intro b f h;have c:=λj e=>f j (Da _ e);cases i<;>simp only[gotoIn]at h<;>first
   |exact d c h
   | (split at h
      . cases h;exact J8 (J7 trivial c)
      . exact d c h)
theorem Awc (main:Bool)(dy:Option Dying)(jump:Option Code)(w:AU)(h1:ET fr)(h2:FN cs):(
      match fr.roundOf with
      |none=>if jump matches none|some .ret then GStep.go {frame:={fr with mode:=.returning},callers:=cs,status:=.running,dying:=dy} w else .ended (.stuck "exit, goto: no such block or label" (fr.pos P)) w
      |some l=>
        let (r,es):=(Instr.endRound l jump).runT P w #[]
        GStep.after (seen P fr.fn es)<| match r with
        |.ok v w=>doReturn P main fr cs dy v w
        | .halt _ w=>.ended (.stuck "range over a function: no such loop" (fr.pos P)) w).fine:=by
 cases fr.roundOf with
 |none=>dsimp only;split<;>split<;>first|exact D7 h1 h2|trivial
 |some l=>
  dsimp only;generalize d:Sem.runT P _ w #[]=r;obtain⟨r,ev⟩:=r;cases r with
  |ok v b=>exact D5 (Xh main dy v b h1 h2) λ_=>LD BU _ d trivial|halt h b=>exact D5 trivial λc=>c.elim
def gn(d:OkP P)(b:Option Dying)(w:AU)(h1:ET fr)(c:FN cs):(stepG.oper P true fr cs b w).fine:=by
 unfold stepG.oper;split
 . trivial
 . split
   . exact Td b w h1 c (Em BU λ_=>Em BU λ_=>Ij trivial)
   . exact Td b w h1 c (YV d _ _)
theorem gw(s:OkP P)(main:Bool)(dy:Option Dying)(w:AU)(h1:ET fr)(h2:FN cs):(stepG.exec P main true fr cs dy w).fine:=by
 have o:=λj=>Awc (P:=P) main dy j w h1 h2;have d:∀todo:List Item,(∀j∈todo,Xr j)->(GStep.go {frame:={fr with todo},callers:=cs,status:=.running,dying:=dy} w).fine:=λtodo h=>D7 (fr:={fr with todo}) h h2;unfold stepG.exec;dsimp only;split
 . exact o none
 . exact o (some .ret)
 . rename_i b;exact d _ (Iq h1 b)
 . rename_i b;exact d _ (Iq h1 b)
 . rename_i b;exact d _ (Iq h1 b)
 . rename_i b;exact d _ (Iq h1 b)
 . rename_i b;exact d _ (J8 (J8 (Iq h1 b)))
 . rename_i b
   split
   . exact d _ (J8 (Iq h1 b))
   . trivial
 . rename_i b;exact d _ (J8 (J7 trivial (Iq h1 b)))
 . rename_i b;exact d _ (J8 (J7 trivial (Iq h1 b)))
 . rename_i b;exact d _ (J8 (J7 trivial (Iq h1 b)))
 . rename_i b;exact d _ (J8 (J7 trivial (Iq h1 b)))
 . rename_i u k b
   cases q:exitTo u k with
   |none=>exact o (some (.exit u))
   |some t=>exact d _ (uR (Iq h1 b) q)
 . rename_i l k b
   cases q:gotoIn l k with
   |none=>exact o (some (.goto l))
   |some t=>exact d _ (vR (Iq h1 b) q)
 . rename_i f A assign body k b
   generalize m:Sem.runT P _ w #[]=r;obtain⟨r,ev⟩:=r;cases r with
   |ok a n=>
     obtain⟨l,x⟩:=a;exact D5 (Td (fr:={fr with todo:=.inRangeFunc l::k,defers:=x++fr.defers}) dy n (J7 trivial (Iq h1 b)) h2 (Em BU λ_=>Np s _ _)) λ_=>LD BU _ m trivial
   |halt h n=>exact D5 trivial λc=>c.elim
 . trivial
 . refine Td dy w h1 h2 (Em ?_ λ_=>Ij trivial)
   cases fr.roundOf with
   |none=>exact Ef
   |some l=>exact Ri l
 . rename_i l k b
   generalize m:Sem.runT P _ w #[]=r;obtain⟨r,ev⟩:=r;cases r with
   |ok jump n=>
     refine D5 (D7 (fr:={fr with todo:=(jump.map Item.code).toList++k}) ?_ h2) λ_=>LD BU _ m trivial
     intro j e;rcases BI.1 e with e|e
     . cases jump with
       |none=>simp at e
       |some c=>simp at e;subst e;trivial
     . exact Iq h1 b j e
   |halt h n=>
     cases h
     case panic v=>exact D5 (D7 (Qe h1 _) h2) λ_=>LD BU _ m trivial
     all_goals exact D5 trivial λc=>c.elim
 . trivial
 . exact Td dy w h1 h2 (Np s _ _)
 . rename_i row args k b
   have y:row= "runtime.print$piece" :=h1 (.extern row args) (by rw[b];exact E6);subst y;rw[YJ];exact Td dy w h1 h2 (RN _ _ _)
 . rename_i u z draw k b
   split
   . exact d _ (J7 trivial (Iq h1 b))
   . split
     . exact D7 (fr:={fr with todo:=.inRegion z _::k}) (J7 trivial (Iq h1 b)) h2
     . trivial
 . rename_i b;exact d _ (Iq h1 b)
 . split
   . exact gn s dy w h1 h2
   . exact D7 (Jm h1 _) h2
theorem rT(q:OkP P)(dy:Option Dying)(d:Deferred)(w:AU)(h1:ET fr)(h2:FN cs):(callDeferred P fr cs dy d w).fine:=by
 have e:=Np q d.target d.args;have p:=NT (w:=w) (es:=#[]) e;unfold callDeferred;dsimp only;split<;>split<;>(try trivial)
 all_goals
  generalize j:Sem.runT P _ w #[]=r at p;obtain⟨r,ev⟩:=r;cases r with
  |ok a n=>
   refine D5 ?_ λ_=>JY e _ j trivial;(have o:=p a ⟨n,rfl⟩;cases a<;>first|exact o.elim|skip);case value v=>exact D7 h1 h2
   case skip=>exact D7 h1 h2
   case enter f args=>exact D7 (Sz _ _ _) (Oa h1 h2)
   case round l f t a b=>exact D7 (YH _ _ _ _ _ _) (Oa h1 h2)
   case defer d=>exact D7 h1 h2
   case spawn d=>exact D7 h1 h2
   case comm c b x=>exact D7 h1 h2
   case row r args=>obtain rfl:r= "runtime.print$piece" :=o;exact D7 (ei _ _) (Oa h1 h2)
   case recover=>
    dsimp only;split
    . rename_i s;exact D7 h1 (Ut h2 s)
    . exact D7 h1 h2
   case coroswitch c b=>
    cases b
    . trivial
    . exact⟨⟨h1,h2⟩,rfl⟩
  |halt h n=>
   cases h;case panic v=>exact D5 (D7 (Qe h1 _) h2) λ_=>JY e _ j trivial
   case goexit=>exact D5 (D7 (Qe h1 _) h2) λ_=>JY e _ j trivial
   case blocked=>exact D5 (D7 (fr:={fr with defers:=d::fr.defers}) h1 h2) λc=>by cases c
   case waiting=>exact D5 (D7 (fr:={fr with defers:=d::fr.defers}) h1 h2) λc=>by cases c
   case exit c=>exact Q7
   case fatal m=>exact D5 (VP dy m n h1) λ_=>JY e _ j trivial
   case throw m=>exact D5 (Vy _ _ _ n h1) λ_=>JY e _ j trivial
   case stuck m=>exact Q7
   case unsupported u=>exact Q7
theorem xy(f:OkP P)(main:Bool)(dy:Option Dying)(w:AU)(h1:ET fr)(h2:FN cs):(unwind P main fr cs dy w).fine:=by
 unfold unwind;split
 . rename_i block _ e _
   generalize c:Sem.runT P _ w #[]=r;obtain⟨r,ev⟩:=r;cases r with
   |ok a b=>exact D5 (D7 (fr:={fr with defers:=a++e}) h1 h2) λ_=>LD BU _ c trivial
   |halt h b=>exact Q7
 . exact rT f (fr:={fr with defers:=_}) dy _ w h1 h2
 . split
   . trivial
   . split
     . trivial
     . split
       . exact D7 (Qe (h2 _ E6) _) (λx d=>h2 x (Da _ d))
       . split
         . split
           . exact D7 h1 Lr
           . split
             . exact D7 h1 Lr
             . trivial
             . trivial
         . split
           . exact Xx _ w h1
           . trivial
   . split
     . exact Xh main dy _ w h1 h2
     . generalize c:Sem.runT P _ w #[]=r
       obtain⟨r,ev⟩:=r;cases r with
       |ok a b=>exact D5 (Xh main dy a b h1 h2) λ_=>LD (WC _ _) _ c trivial
       |halt h b=>cases h<;>exact Q7
theorem nD(m:OkP P)(d:Dying)(w:AU)(h1:ET fr):(die P fr d w).fine:=by
 unfold die;split
 . rename_i f _
   cases l:f.pieces with
   |nil=>unfold writeOn;simp only[l];trivial
   |cons piece rest=>
     have⟨X,n,hF⟩:=WL (P:=P) fr d f piece rest l;have j:=Zf n w #[] rfl Xn;rw[hF];generalize X.runT P w #[]=r at j;obtain⟨r,ev⟩:=r;cases r with
     |ok a b=>exact⟨⟨h1,Lr⟩,(λ_ h=>by cases h),λ_=>j.2 trivial⟩
     |halt h b=>cases h<;>first|exact D7 h1 Lr|trivial
 . split
   . split
     . exact D7 h1 Lr
     . unfold endWith
       dsimp only;repeat' first|trivial|split
   . dsimp only
     split
     . exact D7 h1 Lr
     . split
       . exact D7 h1 Lr
       . trivial
     . rename_i t recv name _
       have e:=Np m (.fn (.method name) #[]) #[.iface t recv];generalize c:Sem.runT P _ w #[]=r;obtain⟨r,ev⟩:=r;cases r with
       |ok a b=>
         cases a
         case enter f args=>exact D5 (D7 (Sz _ _ _) Lr) λ_=>JY e _ c trivial
         case value x=>
           cases x
           case string s=>exact D5 (D7 h1 Lr) λ_=>JY e _ c trivial
           all_goals exact Q7
         all_goals exact Q7
       |halt h b=>
         cases h
         case panic v=>exact D5 (Xx v b h1) λ_=>JY e _ c trivial
         all_goals exact Q7
     . trivial
theorem Vx(b:OkP P)(main:Bool)(g:AX)(hg:OkG g)(w:AU):(stepG P main g w).fine:=by
 unfold stepG;obtain⟨fr,cs,d,c,off⟩:=g;dsimp only;split
 . exact nD b _ w hg.1
 . exact gw b main _ w hg.1 hg.2
 . exact xy b main _ w hg.1 hg.2
end
open Go.Conc
def KT(gs:Array AX):Prop:=∀g∈gs,g.status≠.blocked
abbrev I3(ready:List (Nat × CommCase × List Way)):Sem (Nat × CommCase × Way):=do
 let a <-choose (.select ready.length)
 let (k,c,ws):=ready.getD a (0,default,[])
 let b <-choose (.extern "which waiting goroutine is the partner" ws.length)
 pure (k,c,ws.getD b .closed)
section
variable {P : AY}{w : AU}{gs gs' : Array AX}
theorem Ik(h:KT gs)(r:Nat)(b:Bool):partners gs r b=[]:=by
 unfold partners;refine List.flatMap_eq_nil_iff.2 λx d=>?_;obtain⟨g,i⟩:=x;have e:g∈gs:=by have c:=Array.mem_zipIdx (Array.mem_toList_iff.1 d);rw[c.2.2];exact Array.getElem_mem _
 have:=h g e;dsimp only;split
 .rename_i f _;exact absurd f this
 rfl
def zn0 {p:Prop}(h:p:=by
 split at hx
 .simp at hx;subst hx;simp
 rw[Ik h]at hx;dsimp only at hx;split at hx
 .simp at hx;subst hx;simp
 simp at hx):p:=h
def RH(h:KT gs)(c:CommCase):ways w gs c=ways w #[] c/\∀x∈ways w gs c,∀a b,x≠.partner a b:=by
 have d:KT #[]:=λg e=>by simp at e
 constructor
 .unfold ways;split;{split;{split;{rfl};rw[Ik h,Ik d]};{split;{rfl};rw[Ik h,Ik d]};rfl};rfl
 intro x hx a b;unfold ways at hx;split at hx
 .split at hx;{exact zn0};{exact zn0};simp at hx
 simp at hx
def Awn(ready:List (Nat × CommCase × List Way)):Calm P (I3 ready):=Calm.bind Nh λ_=>Calm.bind Nh λ_=>Ae
theorem SG{ready:List (Nat × CommCase × List Way)}(hr:∀x∈ready,∀y∈x.2.2,∀a b,y≠.partner a b){k:Nat}{c:CommCase}{way:Way}{w':AU}(h:(I3 ready).run P w=.ok (k,c,way) w'):∀a b,way≠.partner a b:=by
 have key:∀(a b:Nat)(k:Nat)(c:CommCase)(d:List Way),ready.getD a (0,default,[])=(k,c,d)->∀x y,d.getD b .closed≠.partner x y:=by
  intro a b k c d e x y;have m:∀z∈d,∀x y,z≠.partner x y:=by
   rw[List.getD_eq_getElem?_getD]at e;cases f:ready[a]? with
   |none=>rw[f]at e;cases e;intro z j;simp at j
   |some q=>rw[f]at e;simp only[Option.getD_some]at e;intro z j;exact hr q (LO f) z (by rwa[e])
  rw[List.getD_eq_getElem?_getD];cases f:d[b]? with
  |none=>simp|some q=>exact m q (LO f) x y
 have n:EC P (λz:Nat × CommCase × Way=>∀a b,z.2.2≠.partner a b) 0 (I3 ready):=by refine Em Nh λa=>?_;generalize l:ready.getD a (0,default,[])=z;obtain⟨k,c,d⟩:=z;refine Em Nh λb=>Ij ?_;exact key a b k c d l
 have:=NT (w:=w) (es:=#[]) n (k,c,way) ⟨w',by rwa[Sem.runT_eq]⟩;exact this
def fin:AX:={(default:AX) with status:=.finished}
def V3(P:AY)(g:AX)(cs:Array CommCase)(b:Bool)(sh:CommShape)(w:AU):GStep:=
 match communicate P {timers:=#[],alone:=none,slice:=none} #[fin] 0 g cs b sh w with
 |(.next m,_)=>.go (m.gs.getD 0 default) m.world
 |(.ended o w,_)=>.ended o w
def LS(P:AY)(g:AX)(cs:Array CommCase)(b:Bool)(sh:CommShape)(w:AU):Array MemOp:=
 (communicate P {timers:=#[],alone:=none,slice:=none} #[fin] 0 g cs b sh w).2
theorem Lu:KT #[fin]:=λg b=>by
 simp at b;subst b;simp[fin]
def NM(rest:Rest)(h:rest.timers=#[])(cs:Array CommCase)(w:AU):waitingAt rest cs w=some w:=by
 unfold waitingAt;have:timerAhead rest w.os.mono cs=false:=by unfold timerAhead;rw[h];rw[Array.any_eq_false];intro i hi;split<;>simp
 rw[this];rfl
def QW(h:KT gs)(l:List (CommCase × Nat)):∀x∈(l.map λ(c,k)=>(k,c,ways w gs c)).filter (λ(_,_,d)=>!d.isEmpty),∀y∈x.2.2,∀a b,y≠.partner a b:=by intro x e y f;obtain⟨z,_,rfl⟩:=BM.1 (List.mem_filter.1 e).1;exact(RH h z.1).2 y f
theorem XD{sl:Option (Nat × Nat)}(h:KT gs)(_h0:0<gs.size)(g:AX)(cs:Array CommCase)(b:Bool)(sh:CommShape)(w:AU):
  communicate P {timers:=#[],alone:=none,slice:=sl} gs 0 g cs b sh w=
   (match V3 P g cs b sh w with
    |.go l d _=>.next {world:=d,gs:=gs.setIfInBounds 0 l,rest:={timers:=#[],alone:=none,slice:=sl} }
    |.ended o d _=>.ended o d
    | _=>.ended default default,LS P g cs b sh w):=by
 unfold V3 LS;have q:∀c,ways w gs c=ways w #[fin] c:=λc=>((RH h c).1).tr ((RH Lu c).1).symm;unfold communicate;simp only[q];have r:=QW (w:=w) Lu cs.zipIdx.toList;split
 .rfl
 split
 .split;{rw[NM _ rfl,NM _ rfl];simp};simp
 generalize p:(List.filter _ _:List (Nat × CommCase × List Way))=ready;have j:∀x∈ready,∀y∈x.2.2,∀a b,y≠.partner a b:=by rwa[<-p]
 cases n:(I3 ready).run P w with
 |halt e d=>rfl
 |ok z d=>
  obtain⟨k,c,way⟩:=z;have f:=SG j n;dsimp only;cases way with
  |partner a b=>exact absurd rfl (f a b)
  |sendClosed=>
   dsimp only;cases s:(runtimePanic (.plain "send on closed channel"):Sem Unit).run P d with
   |ok a m=>rfl|halt e m=>cases e<;>first|rfl|simp
  |closed=>simp|buffer=>rw[Ik h,Ik Lu];split<;>first|(simp;done)|(exfalso;simp_all;done)
end
section
variable {P : AY}{w : AU}
def chanOf(c:CommCase):Nat:=match c.chan with|.chan (some r)=>r|_=>0
def J1(P:AY)(g:AX)(cs:Array CommCase)(sh:CommShape)(k:Nat)(c:CommCase)(way:Way)(w:AU):GStep:=
  match way with
  |.sendClosed=>match (runtimePanic (.plain "send on closed channel"):Sem Unit).run P w with
    |.halt (.panic v) w=>.go {g with frame:=g.frame.raise [{v,recovered:=false}]} w
    |_=>.ended (.stuck "communicate" "") w
  |.closed=>.go (g.finishComm P cs sh k c.zero false) w
  |.buffer=>match w.heap[chanOf c]?,c.send with
    |some (.chan cap b e s r d),some v=>.go (g.finishComm P cs sh k AQ false) {w with heap:=w.heap.setIfInBounds (chanOf c) (.chan cap (b.push v) e (s+1) r d)}
    |some (.chan cap b e s r d),none=>.go (g.finishComm P cs sh k (b.getD 0 AQ) true) {w with heap:=w.heap.setIfInBounds (chanOf c) (.chan cap (b.extract 1 b.size) e s (r+1) d)}
    |_,_=>.ended (.stuck "communicate: no such channel" "") w
  |_=>.ended (.stuck "communicate: no such channel" "") w
def MU(P:AY)(g:AX)(cs:Array CommCase)(sh:CommShape):Result (Nat × CommCase × Way)->GStep
  |.ok (k,c,way) b=>J1 P g cs sh k c way b
  |.halt _ b=>.ended (.stuck "communicate" "") b
def Yc(cs:Array CommCase)(w:AU):List (Nat × CommCase × List Way):=(cs.zipIdx.toList.map λ(c,k)=>(k,c,ways w #[fin] c)).filter λ(_,_,b)=>!b.isEmpty
theorem XE(g:AX)(cs:Array CommCase)(b:Bool)(sh:CommShape)(w:AU):
    (∃o,∀d:AU,d.heap=w.heap->V3 P g cs b sh d=.ended o d)\/
    (∃j,j={g with status:=.blocked,offers:=some (cs,sh)}/\∀d:AU,d.heap=w.heap->V3 P g cs b sh d=.go j d)\/
    (∃j,j=g.finishComm P cs sh (-1) AQ false/\∀d:AU,d.heap=w.heap->V3 P g cs b sh d=.go j d)\/
    (∀d:AU,d.heap=w.heap->V3 P g cs b sh d=MU P g cs sh ((I3 (Yc cs w)).run P d)):=by
 have p:∀d:AU,d.heap=w.heap->∀c,ways d #[fin] c=ways w #[fin] c:=λd h c=>by unfold ways;rw[h]
 have C:∀x∈Yc cs w,∀y∈x.2.2,∀a b,y≠.partner a b:=QW (w:=w) Lu cs.zipIdx.toList;by_cases e:cs.any (λc=>match c.chan with|.chan none=>false|.chan (some r)=>!(w.heap[r]? matches some (.chan ..))|_=>true)=true
 . refine .inl ⟨.stuck "a communication at a channel whose block is no channel's" (g.frame.pos P),λd h=>?_⟩
   unfold V3 communicate;rw[h];dsimp only;split
   . rename_i f;split at f
     . cases f
     . rename_i n;exact absurd e n
   . rename_i f;split at f
     . cases f;rfl
     . rename_i n;exact absurd e n
 . by_cases q:(Yc cs w).isEmpty=true
   . cases b
     . refine .inr (.inr (.inl ⟨_,rfl,λd h=>?_⟩))
       unfold V3 communicate;simp only[p d h];rw[h];refine(congrArg (λx:Stepped × Array MemOp=>match x with|(.next m,_)=>GStep.go (m.gs.getD 0 default) m.world|(.ended o w,_)=>.ended o w) ((BQ e).tr (BR q))).tr ?_;simp
     . refine .inr (.inl ⟨_,rfl,λd h=>?_⟩)
       unfold V3 communicate;simp only[p d h];rw[h];refine(congrArg (λx:Stepped × Array MemOp=>match x with|(.next m,_)=>GStep.go (m.gs.getD 0 default) m.world|(.ended o w,_)=>.ended o w) ((BQ e).tr (BR q))).tr ?_;rw[NM _ rfl];simp
   . refine .inr (.inr (.inr λd h=>?_))
     unfold V3 communicate;simp only[p d h];rw[h];refine(congrArg (λx:Stepped × Array MemOp=>match x with|(.next m,_)=>GStep.go (m.gs.getD 0 default) m.world|(.ended o w,_)=>.ended o w) ((BQ e).tr (BQ q))).tr ?_;generalize A:(List.filter _ _:List (Nat × CommCase × List Way))=ready;obtain rfl:Yc cs w=ready:=A;cases v:(I3 (Yc cs w)).run P d with
     |halt t l=>rfl
     |ok z l=>
       obtain⟨k,c,way⟩:=z;have B:=SG C v;cases way with
       |partner a b=>exact absurd rfl (B a b)
       |sendClosed=>
         simp only[MU,J1];cases (runtimePanic (.plain "send on closed channel"):Sem Unit).run P l with
         |ok a u=>rfl
         |halt t u=>cases t<;>rfl
       |closed=>rfl
       |buffer=>
         simp only[MU,J1];rw[Ik Lu]
         cases D:c.send<;>(cases s:c.chan<;>first
           | (rename_i o
              cases o<;>simp only[chanOf,s]<;>(generalize (l.heap[(_:Nat)]?:Option Obj)=o;rcases o with _ | o<;>first | rfl | (cases o<;>first | rfl | simp)))
           | (simp only[chanOf,s];(generalize (l.heap[(_:Nat)]?:Option Obj)=o;rcases o with _ | o<;>first | rfl | (cases o<;>first | rfl | simp))))
end
section
variable {g:AX}
variable {P : AY}{w : AU}
def _root_.Go.GStep.put(w:AU):GStep->GStep:=GStep.turn λ_=>w
theorem Hg.next{F:AU->GStep}(nxt:GStep->GStep)(hF:Hg F w)(h:Hg (λy=>nxt ((F w).put y)) (F w).w)(v:(nxt (F w)).cont->(F w).cont):Hg (λw=>nxt (F w)) w:=by
 obtain⟨h1,f,K,A,x,r⟩:=hF;have z:(F w).put (F w).w=F w:=by cases F w<;>rfl
 obtain⟨j,d,L,l,m,o⟩:=h;simp only[z]at j d l m o;refine⟨j.tr h1,DU f d,max K L,DU l (PE _ _),λc=>?_,fun b s e n hA=>?_⟩
 .rw[x (v c),m c];exact Nat.max_eq_right d
 have u:=r b s e n (hA.mo (M5 _ _));have q:=o b s e (DU n f) yEj;have t:(F w).turn (rt b s e)=(F w).put (rt b s e (F w).w):=by cases F w<;>rfl
 simp only[u];rwa[t]
theorem Azx(g:AX)(cs:Array CommCase)(sh:CommShape)(k:Nat)(c:CommCase)(way:Way)(w:AU):Hg (λw=>J1 P g cs sh k c way w) w:=by
 unfold J1;cases way with
 |partner a b=>exact(Bg _ _).loc w|closed=>exact(D9 _ _).loc w
 |sendClosed=>
  have n:=Calm.loc (Ql (P:=P) (α:=Unit) (.plain "send on closed channel")) w #[];have e:∀w,(runtimePanic (.plain "send on closed channel"):Sem Unit).run P w=((runtimePanic (.plain "send on closed channel"):Sem Unit).runT P w #[]).1:=λw=>by rw[Sem.runT_eq]
  simp only[e];generalize f:(runtimePanic (.plain "send on closed channel"):Sem Unit).runT P w #[]=r;obtain⟨r,ev⟩:=r;cases r with
  |ok a t=>exact Hg.caseOld n f (Bg (.stuck "communicate" "") #[]) (λw c=>c) λq u h=>by simp only[h,Result.put]
  |halt h t=>
   cases h;case panic v=>exact Hg.case n f ((D9 {g with frame:=g.frame.raise [{v,recovered:=false}]} #[]).loc t) (λ_ x=>x) λq u h=>by simp only[h,Result.put]
   all_goals exact Hg.caseOld n f (Bg (.stuck "communicate" "") #[]) (λw c=>c) λq u h=>by simp only[h,Result.put]
 |buffer=>
  refine Hg.const ?_ ?_ fun j s e _=>?_;{dsimp only;split<;>rfl};{dsimp only;split<;>rfl};dsimp only
  show(match w.heap[chanOf c]?,c.send with
   |some (.chan cap d l p r m),some v=>GStep.go (g.finishComm P cs sh k AQ false) {rt j s e w with heap:=w.heap.setIfInBounds (chanOf c) (.chan cap (d.push v) l (p+1) r m)}
   |some (.chan cap d l p r m),none=>GStep.go (g.finishComm P cs sh k (d.getD 0 AQ) true) {rt j s e w with heap:=w.heap.setIfInBounds (chanOf c) (.chan cap (d.extract 1 d.size) l p (r+1) m)}
   | _,_=>GStep.ended (.stuck "communicate: no such channel" "") (rt j s e w))=_
  rcases w.heap[chanOf c]? with _|o;{cases c.send<;>rfl};cases o<;>cases c.send<;>rfl
theorem Azw(g:AX)(cs:Array CommCase)(b:Bool)(sh:CommShape)(w:AU):Hg (λw=>V3 P g cs b sh w) w:=by
 rcases XE (P:=P) g cs b sh w with⟨o,h⟩|⟨d,_,h⟩|⟨d,_,h⟩|h
 .exact((Bg o #[]).loc w).like (h w rfl) fun f s e=>h _ rfl
 .exact((D9 d #[]).loc w).like (h w rfl) fun f s e=>h _ rfl
 .exact((D9 d #[]).loc w).like (h w rfl) fun f s e=>h _ rfl
 refine Hg.like (G:=λj=>MU P g cs sh ((I3 (Yc cs w)).run P j)) ?_ (h w rfl) fun f s e=>h _ rfl;refine Hg.bindR (P:=P) (x:=I3 (Yc cs w)) (MU P g cs sh) (Calm.loc (Awn _) w #[]) ?_ ?_
 .generalize Sem.run P _ w=r;cases r with
  |ok a w'=>obtain⟨k,c,way⟩:=a;exact Azx g cs sh k c way w'
  |halt h w'=>exact(Bg _ _).loc _
 exact zi0
def Qv(h:OkG g)(cs:Array CommCase)(sh:CommShape)(k:Int)(v:AW)(ok:Bool):OkG (g.finishComm P cs sh k v ok):=⟨Jm h.1 _,h.2⟩
theorem Awk(hg:OkG g)(hr:g.status=.running)(cs:Array CommCase)(b:Bool)(sh:CommShape)(w:AU):(∃o d,V3 P g cs b sh w=.ended o d)\/∃e d,V3 P g cs b sh w=.go e d/\OkG e/\∀t,e.status≠.sleeping t:=by
 have j:∀k c way w,(∃o d,J1 P g cs sh k c way w=.ended o d)\/∃e d,J1 P g cs sh k c way w=.go e d/\OkG e/\∀t,e.status≠.sleeping t:=by
  intro k c way w;unfold J1;have f:∀(k:Int)v ok,∀t,(g.finishComm P cs sh k v ok).status≠.sleeping t:=λ_ _ _ _ h=>by cases h
  cases way with
  |partner a b=>exact .inl ⟨_,_,rfl⟩|closed=>exact .inr ⟨_,_,rfl,Qv hg _ _ _ _ _,f _ _ _⟩|sendClosed=>dsimp only;split;{exact .inr ⟨_,_,rfl,⟨Qe hg.1 _,hg.2⟩,λt h=>by rw[show g.status=_ from h]at hr;cases hr⟩};exact .inl ⟨_,_,rfl⟩
  |buffer=>dsimp only;split;{exact .inr ⟨_,_,rfl,Qv hg _ _ _ _ _,f _ _ _⟩};{exact .inr ⟨_,_,rfl,Qv hg _ _ _ _ _,f _ _ _⟩};exact .inl ⟨_,_,rfl⟩
 rcases XE (P:=P) g cs b sh w with⟨o,h⟩|⟨e,rfl,h⟩|⟨e,rfl,h⟩|h
 .exact .inl ⟨_,_,h w rfl⟩
 .exact .inr ⟨_,_,h w rfl,hg,λt h=>by cases h⟩
 .exact .inr ⟨_,_,h w rfl,Qv hg _ _ _ _ _,λt h=>by cases h⟩
 rw[h w rfl];generalize (I3 (Yc cs w)).run P w=r;cases r with
 |ok a d=>obtain⟨k,c,way⟩:=a;exact j k c way d
 |halt h d=>exact .inl ⟨_,_,rfl⟩
end
