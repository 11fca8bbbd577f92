import Derived.Test.YtbfljjcnbbmoaaaGreatDoorCA2
namespace Go.Co
section
variable {P : Program}
open Go.Instr in
@[simp] theorem Asy (elem:TypeId)(heap:Bool)(old:Value):Calm P (Go.Instr.alloc elem heap old:Sem Value):=by
 unfold Go.Instr.alloc;exact cmA
open Go.Instr in
@[simp] theorem Ake (x:Value)(y:Nat)(code:BoundsCode):Calm P (Go.Instr.sliceBound x y code:Sem Nat):=by
 unfold Go.Instr.sliceBound;exact cmA
open Go.Instr in
@[simp] theorem Aib (isSlice:Bool)(len:Nat)(cap:Nat)(low:Option Value)(high:Option Value)(max:Option Value):Calm P (Go.Instr.sliceBounds isSlice len cap low high max:Sem (Nat × Nat × Nat)):=by
 unfold Go.Instr.sliceBounds;exact cmA
open Go.Instr in
@[simp] theorem Asp (xType:TypeId)(x:Value)(low:Option Value)(high:Option Value)(max:Option Value):Calm P (Go.Instr.slice xType x low high max:Sem Value):=by
 unfold Go.Instr.slice;exact cmA
open Go.Instr in
@[simp] theorem Amu (x0:Value):Calm P (Go.Instr.sureAddr x0:Sem Addr):=by
 unfold Go.Instr.sureAddr;exact cmA
open Go.Instr in
@[simp] theorem Ary (t:TypeId)(addr:Value):Calm P (Go.Instr.loadAt t addr:Sem Value):=by
 unfold Go.Instr.loadAt;exact cmA
open Go.Instr in
@[simp] theorem Aof (t:TypeId)(addr:Value)(val:Value):Calm P (Go.Instr.storeAt t addr val:Sem Unit):=by
 unfold Go.Instr.storeAt;exact cmA
open Go.Instr in
@[simp] theorem Aok (s:TypeId)(addr:Value)(field:Nat):Calm P (Go.Instr.fieldAt s addr field:Sem Value):=by
 unfold Go.Instr.fieldAt;exact cmA
open Go.Instr in
@[simp] theorem Aoi (t:TypeId)(x:Value)(index:Value):Calm P (Go.Instr.indexAt t x index:Sem Value):=by
 unfold Go.Instr.indexAt;exact cmA
open Go.Instr in
@[simp] theorem Aog (t:TypeId)(x:Value)(low:Option Value)(high:Option Value)(max:Option Value):Calm P (Go.Instr.sliceAt t x low high max:Sem Value):=by
 unfold Go.Instr.sliceAt;exact cmA
open Go.Instr in
@[simp] theorem Aon (arr:TypeId)(x:Value):Calm P (Go.Instr.arrayAt arr x:Sem Value):=by
 unfold Go.Instr.arrayAt;exact cmA
open Go.Instr in
@[simp] theorem Axa (elem:TypeId)(v:Value):Calm P (Go.Instr.box elem v:Sem Value):=by
 unfold Go.Instr.box;exact cmA
open Go.Instr in
@[simp] theorem Asx (t:TypeId)(parts:Array (Nat × Value)):Calm P (Go.Instr.build t parts:Sem Value):=by
 unfold Go.Instr.build;exact cmA
open Go.Instr in
@[simp] theorem Akh (t:TypeId)(len:Nat)(parts:Array (Nat × Value)):Calm P (Go.Instr.buildSlice t len parts:Sem Value):=by
 unfold Go.Instr.buildSlice;exact cmA
open Go.Instr in
@[simp] theorem Aso (g:Nat):Calm P (Go.Instr.waits g:Sem Value):=by
 unfold Go.Instr.waits;exact cmA
open Go.Instr in
@[simp] theorem Asq (g:Nat):Calm P (Go.Instr.ready g:Sem Unit):=by
 unfold Go.Instr.ready;exact cmA
open Go.Instr in
@[simp] theorem Agb (xType:TypeId)(x:Value):Calm P (Go.Instr.makeInterface xType x:Sem Value):=by
 unfold Go.Instr.makeInterface;exact cmA
open Go.Instr in
@[simp] theorem Aoh (t:TypeId)(reserve:Option Value):Calm P (Go.Instr.makeMap t reserve:Sem Value):=by
 unfold Go.Instr.makeMap;exact cmA
open Go.Instr in
@[simp] theorem Amw (t:TypeId)(size:Value):Calm P (Go.Instr.makeChan t size:Sem Value):=by
 unfold Go.Instr.makeChan;exact cmA
open Go.Instr in
@[simp] theorem Akx (t:TypeId)(len:Value)(cap:Value):Calm P (Go.Instr.makeSlice t len cap:Sem Value):=by
 unfold Go.Instr.makeSlice;exact cmA
open Go.Instr in
@[simp] theorem Asv (xType:TypeId)(x:Value)(field:Nat):Calm P (Go.Instr.field xType x field:Sem Value):=by
 unfold Go.Instr.field;exact cmA
open Go.Instr in
@[simp] theorem Asu (xType:TypeId)(x:Value)(index:Value):Calm P (Go.Instr.index xType x index:Sem Value):=by
 unfold Go.Instr.index;exact cmA
open Go.Instr in
@[simp] theorem Amy:∀(x0:Nat) (empty:Bool) (x1:TypeId) (x2:Value),Calm P (Go.Instr.checkKey empty x0 x1 x2:Sem Unit):=by
 intro x0;induction x0 with
 | zero=>
  intros
  unfold Go.Instr.checkKey;repeat' first
   | exact Ae
   | assumption
   | (simp;done)
   | refine Calm.bind ?_ (λ_=>?_)
   | refine Gx _ (λ_ _=>?_) _
   | refine Gw _ (λ_ _=>?_) _
   | refine Gv _ (λ_ _=>?_) _
   | refine Gu _ (λ_=>?_)
   | refine Gt _ (λ_=>?_)
   | dsimp only
   | refine Calm.map ?_
   | split
   | intro _
 | succ n ih=>
  intros
  unfold Go.Instr.checkKey;exact cmE
@[simp] theorem Akf (keyType:TypeId)(k:Value):∀(es:List MapEntry) (i:Nat),Calm P (Instr.findAsking keyType k es i):=by
 intro es;induction es with
 | nil=>exact λ_=>Ae
 | cons e es ih=>
  intro i;refine Calm.bind spz λb=>?_
  cases b
  ·exact ih _
  ·exact Ae
open Go.Instr in
@[simp] theorem Aoj (keyType:TypeId)(k:Value)(es:List MapEntry):Calm P (Go.Instr.findKey keyType k es:Sem (Option (Nat × Value))):=by
 unfold Go.Instr.findKey;exact cmA
open Go.Instr in
@[simp] theorem Arx (xType:TypeId)(x:Value)(index:Value)(commaOk:Bool):Calm P (Go.Instr.lookup xType x index commaOk:Sem Value):=by
 unfold Go.Instr.lookup;exact cmA
open Go.Instr in
@[simp] theorem Ahp (old:Value)(new:Value):Calm P (Go.Instr.keyThatStays old new:Sem Value):=by
 unfold Go.Instr.keyThatStays;exact cmA
open Go.Instr in
@[simp] theorem Akw (mapType:TypeId)(map:Value)(key:Value)(value:Value):Calm P (Go.Instr.mapUpdate mapType map key value:Sem Unit):=by
 unfold Go.Instr.mapUpdate;exact cmA
open Go.Instr in
@[simp] theorem Amv (mapType:TypeId)(map:Value)(key:Value):Calm P (Go.Instr.mapEntry mapType map key:Sem Value):=by
 unfold Go.Instr.mapEntry;exact cmA
open Go.Instr in
@[simp] theorem Akg (_mapType:TypeId)(map:Value)(stamp:Value)(value:Value):Calm P (Go.Instr.entryStore _mapType map stamp value:Sem Unit):=by
 unfold Go.Instr.entryStore;exact cmA
open Go.Instr in
@[simp] theorem Asr (xType:TypeId)(x:Value):Calm P (Go.Instr.range xType x:Sem Value):=by
 unfold Go.Instr.range;exact cmA
open Go.Instr in
@[simp] theorem Awt (iter:Value)(isString:Bool)(_type:TypeId):Calm P (Go.Instr.next iter isString _type:Sem Value):=by
 unfold Go.Instr.next;exact cmA
open Go.Instr in
@[simp] theorem Asw (iter:Value):Calm P (Go.Instr.entry iter:Sem Value):=by
 unfold Go.Instr.entry;exact cmA
theorem Z5 (argTypes:Array TypeId)(t:TypeId)(a b:ByteArray):Calm P (Builtin.ssaWrapNilChk_ argTypes t #[.pointer none, .string a, .string b]):=by
 refine Calm.bind (s:=choose (Question.extern "ssa:wrapnilchk.dereferenced" 2)) spz (λn=>?_);repeat' first
  | exact Ae
  | assumption
  | (simp;done)
  | refine Calm.bind ?_ (λ_=>?_)
  | dsimp only
  | refine Calm.map ?_
  | split
  | intro _
@[simp] theorem Aep (argTypes:Array TypeId)(t:TypeId)(args:Array Value):Calm P (Builtin.ssaWrapNilChk_ argTypes t args):=by
 rcases args with⟨_ | ⟨y0,_ | ⟨y1,_ | ⟨y2,_ | ⟨y3,l⟩⟩⟩⟩⟩
 case cons.cons.cons.nil=>
  cases y1<;>first
   | exact D5
   | (cases y2<;>first
    | exact D5
    | (cases y0<;>first
     | exact D5
     | (rename_i o _ _;cases o<;>first | exact Ae (a:=Value.pointer (some _)) | exact Z5 _ _ _ _)
     | (rename_i o;cases o<;>first | exact Ae (a:=Value.pointer (some _)) | exact Z5 _ _ _ _)))
 all_goals exact D5
@[simp] theorem Aw7 (t:TypeId)(x0:Place):Calm P (Go.Place.get t x0:Sem Value):=by
 unfold Go.Place.get;exact cmA
@[simp] theorem A1q:∀(x0:List FieldStep) (x1:TypeId) (x2:Place),Calm P (Go.follow x0 x1 x2:Sem (TypeId × Place)):=by
 intro x0;induction x0 with
 | nil=>
  intros
  unfold Go.follow;repeat' first
   | exact Ae
   | assumption
   | (simp;done)
   | refine Calm.bind ?_ (λ_=>?_)
   | refine Gx _ (λ_ _=>?_) _
   | refine Gw _ (λ_ _=>?_) _
   | refine Gv _ (λ_ _=>?_) _
   | refine Gu _ (λ_=>?_)
   | refine Gt _ (λ_=>?_)
   | dsimp only
   | refine Calm.map ?_
   | split
   | intro _
 | cons y l ih=>
  intros
  unfold Go.follow;exact cmE
@[simp] theorem Awn (xt:TypeId)(x:Place)(pointerReceiver:Bool)(wrapper:Option String):Calm P (Go.receiverAt xt x pointerReceiver wrapper:Sem Value):=by
 unfold Go.receiverAt;exact cmA
@[simp] theorem Asf (t:TypeId)(v:Value)(path:Array FieldStep)(pointerReceiver:Bool):Calm P (Go.receiverVia t v path pointerReceiver:Sem Value):=by
 unfold Go.receiverVia;exact cmA
@[simp] theorem A1m:∀(x0:Nat) (x1:TypeId) (x2:Value) (x3:String),Calm P (Go.method x0 x1 x2 x3:Sem (FuncId × Value)):=by
 intro x0;induction x0 with
 | zero=>
  intros
  unfold Go.method;repeat' first
   | exact Ae
   | assumption
   | (simp;done)
   | refine Calm.bind ?_ (λ_=>?_)
   | refine Gx _ (λ_ _=>?_) _
   | refine Gw _ (λ_ _=>?_) _
   | refine Gv _ (λ_ _=>?_) _
   | refine Gu _ (λ_=>?_)
   | refine Gt _ (λ_=>?_)
   | dsimp only
   | refine Calm.map ?_
   | split
   | intro _
 | succ n ih=>
  intros
  unfold Go.method;exact cmE
@[simp] theorem Asj:∀(x0:List FieldStep) (x1:TypeId) (x2:Option Value),Calm P (Go.followBlind x0 x1 x2:Sem (Except (Option Bool) (TypeId × Option Value))):=by
 intro x0;induction x0 with
 | nil=>
  intros
  unfold Go.followBlind;repeat' first
   | exact Ae
   | assumption
   | (simp;done)
   | refine Calm.bind ?_ (λ_=>?_)
   | refine Gx _ (λ_ _=>?_) _
   | refine Gw _ (λ_ _=>?_) _
   | refine Gv _ (λ_ _=>?_) _
   | refine Gu _ (λ_=>?_)
   | refine Gt _ (λ_=>?_)
   | dsimp only
   | refine Calm.map ?_
   | split
   | intro _
 | cons y l ih=>
  intros
  unfold Go.followBlind;exact cmE
@[simp] theorem Ahm:∀(x0:Nat) (x1:TypeId) (x2:Value) (x3:String),Calm P (Go.nilAhead x0 x1 x2 x3:Sem (Option Bool)):=by
 intro x0;induction x0 with
 | zero=>
  intros
  unfold Go.nilAhead;repeat' first
   | exact Ae
   | assumption
   | (simp;done)
   | refine Calm.bind ?_ (λ_=>?_)
   | refine Gx _ (λ_ _=>?_) _
   | refine Gw _ (λ_ _=>?_) _
   | refine Gv _ (λ_ _=>?_) _
   | refine Gu _ (λ_=>?_)
   | refine Gt _ (λ_=>?_)
   | dsimp only
   | refine Calm.map ?_
   | split
   | intro _
 | succ n ih=>
  intros
  unfold Go.nilAhead;exact cmE
open Go.Instr in
@[simp] theorem Akd (x:Value)(xType:TypeId)(asserted:TypeId)(commaOk:Bool):Calm P (Go.Instr.typeAssert x xType asserted commaOk:Sem Value):=by
 unfold Go.Instr.typeAssert;exact cmA
open Go.Instr in
@[simp] theorem Aol (tuple:Value)(index:Nat):Calm P (Go.Instr.extract tuple index:Sem Value):=by
 unfold Go.Instr.extract;exact cmA
end
end Go.Co
namespace Go.Co
section
variable {P : Program}
@[simp] theorem Ahz (a:Addr)(cells:Nat):Calm P (Go.Builtin.holdsCells a cells:Sem Bool):=by
  unfold Go.Builtin.holdsCells;repeat' first
    | exact Ae
    | (simp;done)
    | refine Calm.bind ?_ (λ_=>?_)
    | split
@[simp] theorem Akj (size sLen n:Nat)(base:Option Addr)(x:Value):Calm P (Go.Builtin.mayShare size sLen n base x):=by
  unfold Go.Builtin.mayShare;repeat' first
    | exact Ae
    | (simp;done)
    | refine Calm.bind ?_ (λ_=>?_)
    | dsimp only
    | refine Calm.map ?_
    | split
@[simp] theorem Aoo (x:Value):Calm P (Go.Builtin.lenOf x):=by
  unfold Go.Builtin.lenOf;split<;>simp
@[simp] theorem Ah0 (size n:Nat)(x:Value):Calm P (Go.Builtin.firstCells size n x):=by
  unfold Go.Builtin.firstCells;split<;>simp
set_option maxRecDepth 10000 in
set_option maxHeartbeats 4000000 in
@[simp] theorem Am0 (argTypes:Array TypeId)(_type:TypeId)(args:Array Value) :Calm P (Builtin.append_ argTypes _type args):=by
  unfold Builtin.append_;split
  · refine Calm.bind spz λd=>?_
    split
    · split
      · refine Calm.bind spz λsize=>?_
        dsimp only;have two:∀z:Bool,Calm P (pure z:Sem Bool):=λ_=>Ae
        split
        · refine Calm.bind spz λu=>?_
          split<;>
          (refine Calm.bind (two _) λz=>?_
           cases z<;>simp only[A4e,if_false,Bool.not_false,if_true,Bool.not_true,false_or,true_or,and_true]<;>
           repeat' first
             | exact Ae
             | with_reducible refine Calm.bind ?_ (λ_=>?_)
             | with_reducible refine Calm.map ?_
             | split
             | (simp;done))
        · refine Calm.bind (two _) λz=>?_
          cases z<;>simp only[A4e,if_false,Bool.not_false,if_true,Bool.not_true,false_or,true_or,and_true]<;>
          repeat' first
            | exact Ae
            | with_reducible refine Calm.bind ?_ (λ_=>?_)
            | with_reducible refine Calm.map ?_
            | split
            | (simp;done)
      · simp
    · simp
  · simp
@[simp] theorem Aop (a:Array TypeId)(t:TypeId)(args:Array Value):Calm P (Builtin.close_ a t args):=by
  rcases args with⟨_ | ⟨y0,_ | ⟨y1,l⟩⟩⟩
  · exact D5
  · cases y0<;>first
      | exact D5
      | (rename_i o
         cases o
         · exact Ob (.plain "close of nil channel")
         · refine Calm.bind (s:=getObj _) Amr λo=>?_
           cases o<;>first
             | exact D5
             | (rename_i c _ _ _;cases c
                · exact Calm.bind (s:=setObj _ _) Aec λ_=>Ae
                · exact Calm.bind (s:=runtimePanic _) (Ob _) λ_=>Calm.bind (s:=setObj _ _) Aec λ_=>Ae))
  · exact D5
@[simp] theorem Ak0 (a:Array TypeId)(t:TypeId)(args:Array Value):Calm P (Builtin.complex_ a t args):=by
  rcases args with⟨_ | ⟨y0,_ | ⟨y1,_ | ⟨y2,l⟩⟩⟩⟩
  case cons.cons.nil=>
    cases y0<;>cases y1<;>first
      | exact D5
      | (show Calm P (if _=_ then pure _ else stuck _)
         split<;>simp)
  all_goals exact D5
@[simp] theorem Ar2 (a:Array TypeId)(t:TypeId)(args:Array Value):Calm P (Builtin.imag_ a t args):=by
  rcases args with⟨_ | ⟨y0,_ | ⟨y1,l⟩⟩⟩
  case cons.nil=>
    cases y0<;>first
      | exact D5
      | exact Ae
  all_goals exact D5
@[simp] theorem Arz (a:Array TypeId)(t:TypeId)(args:Array Value):Calm P (Builtin.real_ a t args):=by
  rcases args with⟨_ | ⟨y0,_ | ⟨y1,l⟩⟩⟩
  case cons.nil=>
    cases y0<;>first
      | exact D5
      | exact Ae
  all_goals exact D5
theorem zE {p:Prop}(h:p:=by
 cases y0<;>first
   | exact D5
   | (refine Calm.bind (s:=asInt y1) spz λn=>?_
      repeat' first
        | exact Ae
        | (simp;done)
        | refine Calm.bind ?_ (λ_=>?_)
        | split)):p:=h
@[simp] theorem Aie (a:Array TypeId)(t:TypeId)(args:Array Value):Calm P (Builtin.unsafeAdd_ a t args):=by
  rcases args with⟨_ | ⟨y0,_ | ⟨y1,_ | ⟨y2,l⟩⟩⟩⟩
  case cons.cons.nil=>exact zE
  all_goals exact D5
@[simp] theorem Agf (a:Array TypeId)(t:TypeId)(args:Array Value):Calm P (Builtin.unsafeSlice_ a t args):=by
  rcases args with⟨_ | ⟨y0,_ | ⟨y1,_ | ⟨y2,l⟩⟩⟩⟩
  case cons.cons.nil=>exact zE
  all_goals exact D5
@[simp] theorem Ace (a:Array TypeId)(t:TypeId)(args:Array Value):Calm P (Builtin.unsafeSliceData_ a t args):=by
  rcases args with⟨_ | ⟨y0,_ | ⟨y1,l⟩⟩⟩
  case cons.nil=>
    cases y0<;>first
      | exact D5
      | (rename_i o n c
         cases o
         · exact Ae
         · rename_i ad
           show Calm P (if _ then pure _ else _)
           repeat' first
             | exact Ae
             | (simp;done)
             | refine Calm.bind ?_ (λ_=>?_)
             | split)
  all_goals exact D5
@[simp] theorem Afc (a:Array TypeId)(t:TypeId)(args:Array Value):Calm P (Builtin.unsafeString_ a t args):=by
  rcases args with⟨_ | ⟨y0,_ | ⟨y1,_ | ⟨y2,l⟩⟩⟩⟩
  case cons.cons.nil=>exact zE
  all_goals exact D5
@[simp] theorem Abz (a:Array TypeId)(t:TypeId)(args:Array Value):Calm P (Builtin.unsafeStringData_ a t args):=by
  rcases args with⟨_ | ⟨y0,_ | ⟨y1,l⟩⟩⟩
  case cons.nil=>
    cases y0<;>first
      | exact D5
      | (rename_i o
         show Calm P (if _ then _ else _)
         repeat' first
             | exact Ae
             | (simp;done)
             | refine Calm.bind ?_ (λ_=>?_)
             | split)
  all_goals exact D5
end
end Go.Co
namespace Go.Co
section
variable {P : Program}
open Go.Builtin in
@[simp] theorem As3 (argTypes:Array TypeId)(_type:TypeId)(args:Array Value):Calm P (Go.Builtin.cap_ argTypes _type args:Sem Value):=by
 unfold Go.Builtin.cap_;exact cmB
open Go.Builtin in
@[simp] theorem Aoq (argTypes:Array TypeId)(_type:TypeId)(args:Array Value):Calm P (Go.Builtin.clear_ argTypes _type args:Sem Value):=by
 unfold Go.Builtin.clear_;exact cmB
open Go.Builtin in
@[simp] theorem Ar3 (argTypes:Array TypeId)(_type:TypeId)(args:Array Value):Calm P (Go.Builtin.copy_ argTypes _type args:Sem Value):=by
 unfold Go.Builtin.copy_;exact cmB
open Go.Builtin in
@[simp] theorem Amz (argTypes:Array TypeId)(_type:TypeId)(args:Array Value):Calm P (Go.Builtin.delete_ argTypes _type args:Sem Value):=by
 unfold Go.Builtin.delete_;exact cmB
open Go.Builtin in
@[simp] theorem As2 (argTypes:Array TypeId)(_type:TypeId)(args:Array Value):Calm P (Go.Builtin.len_ argTypes _type args:Sem Value):=by
 unfold Go.Builtin.len_;exact cmB
open Go.Builtin in
@[simp] theorem Ar1 (x0:Value)(x1:Value):Calm P (Go.Builtin.max2 x0 x1:Sem Value):=by
 unfold Go.Builtin.max2;exact cmB
open Go.Builtin in
@[simp] theorem As1 (_argTypes:Array TypeId)(_type:TypeId)(args:Array Value):Calm P (Go.Builtin.max_ _argTypes _type args:Sem Value):=by
 unfold Go.Builtin.max_;exact cmB
open Go.Builtin in
@[simp] theorem Ar0 (x0:Value)(x1:Value):Calm P (Go.Builtin.min2 x0 x1:Sem Value):=by
 unfold Go.Builtin.min2;exact cmB
open Go.Builtin in
@[simp] theorem As0 (_argTypes:Array TypeId)(_type:TypeId)(args:Array Value):Calm P (Go.Builtin.min_ _argTypes _type args:Sem Value):=by
 unfold Go.Builtin.min_;exact cmB
open Go.Builtin in
@[simp] theorem Aki (t:TypeId)(v:Value):Calm P (Go.Builtin.printOne t v:Sem (Array ByteArray)):=by
 unfold Go.Builtin.printOne;exact cmB
open Go.Builtin in
@[simp] theorem Yy (ln:Bool)(consts:Array Bool)(argTypes:Array TypeId)(args:Array Value):Calm P (Go.Builtin.pieces ln consts argTypes args:Sem (Array ByteArray)):=by
 unfold Go.Builtin.pieces;exact cmB
end
end Go.Co
namespace Go.Co
def Vr:Next->Prop
 | .value _ | .skip | .enter .. | .round .. | .defer _ | .recover | .spawn _ | .comm .. | .coroswitch ..=>True
 | .row r _=>r= "runtime.print$piece"
 | _=>False
section
variable {d:Nat}
variable {P : Program}{α β : Type}
theorem Acx {N:β->Prop}{f:Unit->Sem β}(h:Sat P N (d+1) (f ())):Sat P N d (mark .disable>>=f):=h
theorem Afi {N:β->Prop}{f:Unit->Sem β}(h:Sat P N d (f ())):Sat P N (d+1) (mark .enable>>=f):=h
theorem Afg {N:β->Prop}{f:Unit->Sem β}{a:Addr}{v:Value}{m:Mode}(h:Sat P N d (f ())):Sat P N d (store a v m>>=f):=h
theorem Lr {N:β->Prop}{f:Program->Sem β}(h:Sat P N d (f P)):Sat P N d (program>>=f):=h
theorem Aii {N:β->Prop}{f:Bool->Sem β}(h:∀b,Sat P N d (f b)):Sat P N d (Extern.PrintPieces.held>>=f):=by
 intro v;cases v<;>first | exact h _ | exact Or.inr trivial
theorem Ak9 {N:β->Prop}{fd:Nat}{b:ByteArray}{f:Unit->Sem β}(h:Sat P N 0 (f ())):Sat P N 0 (writeFd fd b>>=f):=by
 refine⟨trivial,λr=>?_⟩;cases r<;>first | exact h | exact .inl rfl
theorem Acw (a b:Array TypeId)(args:Array Value):Sat P Vr 0 (Extern.PrintPieces.piece a b args):=by
 unfold Extern.PrintPieces.piece;dsimp only;repeat' first
  | exact G5 trivial
  | exact G5 rfl
  | refine Ak9 ?_
  | refine Acx ?_
  | refine Afi ?_
  | refine Aii (λ_=>?_)
  | refine Lr ?_
  | refine Afg ?_
  | exact .inl rfl
  | exact .inr trivial
  | split
open Go.Instr in
@[simp] theorem Z7 (l:Nat):Calm P (Go.Instr.getLoop l:Sem Loop):=by
 unfold Go.Instr.getLoop;exact cmB
open Go.Instr in
@[simp] theorem Aky (fn:FuncId)(tmps:Array Value)(params:Array Tmp)(assign:Code)(body:Code)(around:Option Nat):Calm P (Go.Instr.enterLoop fn tmps params assign body around:Sem (Nat × List Deferred)):=by
 unfold Go.Instr.enterLoop;exact cmB
open Go.Instr in
@[simp] theorem O9 (l:Nat):Calm P (Go.Instr.beginRound l:Sem Unit):=by
 unfold Go.Instr.beginRound;exact cmB
open Go.Instr in
@[simp] theorem Amx (l:Nat)(jump:Option Code):Calm P (Go.Instr.endRound l jump:Sem Value):=by
 unfold Go.Instr.endRound;exact cmB
open Go.Instr in
@[simp] theorem Aom (l:Nat):Calm P (Go.Instr.endLoop l:Sem (Option Code)):=by
 unfold Go.Instr.endLoop;exact cmB
open Go.Instr in
@[simp] theorem Ahq (l:Nat)(d:Deferred):Calm P (Go.Instr.deferInRound l d:Sem Unit):=by
 unfold Go.Instr.deferInRound;exact cmB
open Go.Instr in
@[simp] theorem Aho (block:Nat):Calm P (Go.Instr.takeDeferred block:Sem (List Deferred)):=by
 unfold Go.Instr.takeDeferred;exact cmB
theorem Ats (l:Nat)(args:Array Value):Sat P Vr 0 (Instr.yield l args):=by
 unfold Instr.yield;repeat' first
  | exact G5 trivial
  | refine Ea (by first | exact Z7 _ | exact D5) (λ_=>?_)
  | split
theorem Ahl:Calm P Instr.panicnil:=by
 unfold Instr.panicnil;refine⟨trivial,λr=>?_⟩;cases r<;>first | exact .inl rfl | exact⟨rfl,trivial⟩
@[simp] theorem Ass (x:Value):Calm P (Instr.panic x):=by
 unfold Instr.panic;split
 ·simp
 ·refine Calm.bind Ahl λ_=>?_
  split<;>simp
 ·simp
theorem Ze {s:Sem Value}(h:Calm P s):Sat P Vr 0 (do pure (.value (<-s))):=Ea h λ_=>⟨rfl,trivial⟩
theorem Axg {s:Sem Unit}(h:Calm P s):Sat P Vr 0 (do s;pure .skip):=Ea h λ_=>⟨rfl,trivial⟩
theorem Acv (ln:Bool)(consts:Array Bool)(ts:Array TypeId)(args:Array Value):Sat P Vr 0 (Builtin.printMarked ln consts ts args):=by
 unfold Builtin.printMarked;refine Ea (by exact Yy _ _ _ _) λps=>?_
 split
 ·exact G5 trivial
 ·exact Acw _ _ _
theorem Ala (b:Builtin)(ts:Array TypeId)(t:TypeId)(cs:Array Bool)(args:Array Value):Sat P Vr 0 (builtin b ts t cs args):=by
 unfold builtin;cases b<;>first
  | exact Ze spz
  | exact Acv _ _ _ _
  | exact G5 trivial
  | exact .inl rfl
  | exact Ea (Ahk _) λ_=>G5 trivial
structure OkP (P:Program):Prop where
 name:∀(f:Nat) (fn:Func),P.funcs[f]?=some fn->(fn.name== "runtime.NumGoroutine")=false
 next:∀(f:Nat) (fn:Func),P.funcs[f]?=some fn->fn.body.isNone=true->Extern.findNext fn=none
 calm:∀(f:Nat) (fn:Func) (e:Array Value->Sem Value),P.funcs[f]?=some fn->fn.body.isNone=true->Extern.find fn=some e->∀args,Calm P (e args)
theorem Pj {N:α->Prop}(e:RuntimeError):Sat P N 0 (runtimePanic e:Sem α):=by
 unfold runtimePanic;refine Lr ?_;dsimp only;split<;>first | exact .inl rfl | (refine Ea spz λ_=>?_;first | exact .inl rfl | (refine Ea spz λ_=>?_;exact .inl rfl))
theorem Vz (hP:OkP P)(f:FuncId)(args:Array Value):Sat P Vr 0 (callFunc f args):=by
 unfold callFunc;refine Lr ?_;split
 ·exact .inl rfl
 ·rename_i fn hf
  rw[hP.name f fn hf];by_cases hb:fn.body.isNone=true
  ·rw[if_neg spz,if_pos hb]
   refine Ea spz λ_=>?_
   rw[hP.next f fn hf hb];simp only[];split
   ·rename_i e he
    exact Ze (hP.calm f fn e hf hb he args)
   ·split
    ·exact G5 trivial
    ·exact .inl rfl
  ·rw[if_neg spz,if_neg hb]
   exact G5 trivial
theorem X0 (hP:OkP P)(recv:Value)(name:String)(args:Array Value):Sat P Vr 0 (callMethod recv name args):=by
 unfold callMethod;split
 ·refine Lr ?_
  refine Ea spz λx=>?_
  exact Vz hP _ _
 ·exact Pj _
 ·exact .inl rfl
theorem J7 (hP:OkP P)(t:Target)(args:Array Value):Sat P Vr 0 (invoke t args):=by
 unfold invoke;split
 ·exact Pj _
 ·exact Ala _ _ _ _ _
 ·exact Vz hP _ _
 ·split
  ·exact X0 hP _ _ _
  ·exact .inl rfl
 ·split
  ·refine Ea spz λu=>?_
   exact X0 hP _ _ _
  ·exact .inl rfl
 ·split
  ·refine Ea spz λu=>?_
   exact Vz hP _ _
  ·exact .inl rfl
 ·exact Ats _ _
 ·exact .inl rfl
 ·exact G5 trivial
@[simp] theorem Azx (f:Value)(args:Array Value):Calm P (Deferred.ofValue f args):=by
 unfold Deferred.ofValue;split<;>simp
@[simp] theorem Wq (ρ:Operand->Value)(c:Call)(t:TypeId):Calm P (resolve ρ c t):=by
 unfold resolve;dsimp only;split<;>simp
@[simp] theorem Asi (t:TypeId)(x y:Value):Calm P (movedNumber t x y):=by
 unfold movedNumber;exact cmF
@[simp] theorem Arr (t:TypeId)(x y:Value):Calm P (movedPointer t x y):=by
 unfold movedPointer;exact cmF
@[simp] theorem Akb (op:BinOp)(t:TypeId)(x y:Operand)(a b:Value):Calm P (eqGuard op t x y a b):=by
 unfold eqGuard;exact cmF
@[simp] theorem Ars (op:BinOp)(t:TypeId)(x y:Value):Calm P (binOp op t x y):=by
 unfold binOp;exact cmF
@[simp] theorem Az0 (src dst:TypeId)(x:Value):Calm P (convert src dst x):=by
 unfold convert;exact cmF
theorem Afh (hP:OkP P)(ρ:Operand->Value)(o:Oper):Sat P Vr 0 (execOp ρ o):=by
 unfold execOp;dsimp only;cases o.op
 case nilCheck x=>
  dsimp only;repeat' first
   | exact G5 trivial
   | exact Pj _
   | refine Ea (Ahm _ _ _ _) (λ_=>?_)
   | with_reducible refine Lr ?_
   | refine Ea Jf (λ_=>?_)
   | split
 case binOp op t x y yt=>exact Ze (Calm.bind (Akb _ _ _ _ _ _) λ_=>Ars _ _ _ _)
 case recv t c k=>
  refine Ea (Aeb _) λd=>?_
  split
  ·exact Ea (Yc _) λ_=>G5 trivial
  ·exact .inl rfl
 case select cs b=>
  exact Ea (Gu _ λ_=>Calm.bind (Yc _) λ_=>Ae) λ_=>G5 trivial
 case call c=>exact Ea (Wq _ _ _) λ_=>J7 hP _ _
 case go c=>exact Ea (Wq _ _ _) λ_=>G5 trivial
 case defer c=>exact Ea (Wq _ _ _) λ_=>G5 trivial
 case pick a b c=>exact Ea spz λ_=>G5 trivial
 all_goals first
  | exact G5 trivial
  | exact Ze spz
  | exact Axg spz
end
end Go.Co
