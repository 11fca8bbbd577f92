import Derived.Test.YtnpfcnolmkanfaaGreatDoorCA2
namespace Go.Co
section
variable {P : Program}
open Go.Instr in
@[simp] theorem Aui (elem:TypeId)(heap:Bool)(old:Value):Calm P (Go.Instr.alloc elem heap old:Sem Value):=by
 unfold Go.Instr.alloc;exact cmA
open Go.Instr in
@[simp] theorem Alv (x:Value)(y:Nat)(code:BoundsCode):Calm P (Go.Instr.sliceBound x y code:Sem Nat):=by
 unfold Go.Instr.sliceBound;exact cmA
open Go.Instr in
@[simp] theorem Ajt (isSlice:Bool)(len:Nat)(cap:Nat)(low:Option Value)(high:Option Value)(max:Option Value):Calm P (Go.Instr.sliceBounds isSlice len cap low high max:Sem (Nat × Nat × Nat)):=by
 unfold Go.Instr.sliceBounds;exact cmA
open Go.Instr in
@[simp] theorem Aua (a:TypeId)(x:Value)(low:Option Value)(high:Option Value)(max:Option Value):Calm P (Go.Instr.slice a x low high max:Sem Value):=by
 unfold Go.Instr.slice;exact cmA
open Go.Instr in
@[simp] theorem Aok (a:Value):Calm P (Go.Instr.sureAddr a:Sem Addr):=by
 unfold Go.Instr.sureAddr;exact cmA
open Go.Instr in
@[simp] theorem Atj (t:TypeId)(addr:Value):Calm P (Go.Instr.loadAt t addr:Sem Value):=by
 unfold Go.Instr.loadAt;exact cmA
open Go.Instr in
@[simp] theorem Ap5 (t:TypeId)(addr:Value)(val:Value):Calm P (Go.Instr.storeAt t addr val:Sem Unit):=by
 unfold Go.Instr.storeAt;exact cmA
open Go.Instr in
@[simp] theorem Aqa (s:TypeId)(addr:Value)(field:Nat):Calm P (Go.Instr.fieldAt s addr field:Sem Value):=by
 unfold Go.Instr.fieldAt;exact cmA
open Go.Instr in
@[simp] theorem Ap8 (t:TypeId)(x:Value)(index:Value):Calm P (Go.Instr.indexAt t x index:Sem Value):=by
 unfold Go.Instr.indexAt;exact cmA
open Go.Instr in
@[simp] theorem Ap6 (t:TypeId)(x:Value)(low:Option Value)(high:Option Value)(max:Option Value):Calm P (Go.Instr.sliceAt t x low high max:Sem Value):=by
 unfold Go.Instr.sliceAt;exact cmA
open Go.Instr in
@[simp] theorem Aqd (arr:TypeId)(x:Value):Calm P (Go.Instr.arrayAt arr x:Sem Value):=by
 unfold Go.Instr.arrayAt;exact cmA
open Go.Instr in
@[simp] theorem Ay7 (elem:TypeId)(v:Value):Calm P (Go.Instr.box elem v:Sem Value):=by
 unfold Go.Instr.box;exact cmA
open Go.Instr in
@[simp] theorem Auh (t:TypeId)(parts:Array (Nat × Value)):Calm P (Go.Instr.build t parts:Sem Value):=by
 unfold Go.Instr.build;exact cmA
open Go.Instr in
@[simp] theorem Al0 (t:TypeId)(len:Nat)(parts:Array (Nat × Value)):Calm P (Go.Instr.buildSlice t len parts:Sem Value):=by
 unfold Go.Instr.buildSlice;exact cmA
open Go.Instr in
@[simp] theorem At9 (g:Nat):Calm P (Go.Instr.waits g:Sem Value):=by
 unfold Go.Instr.waits;exact cmA
open Go.Instr in
@[simp] theorem Aub (g:Nat):Calm P (Go.Instr.ready g:Sem Unit):=by
 unfold Go.Instr.ready;exact cmA
open Go.Instr in
@[simp] theorem Ahg (a:TypeId)(x:Value):Calm P (Go.Instr.makeInterface a x:Sem Value):=by
 unfold Go.Instr.makeInterface;exact cmA
open Go.Instr in
@[simp] theorem Ap7 (t:TypeId)(a:Option Value):Calm P (Go.Instr.makeMap t a:Sem Value):=by
 unfold Go.Instr.makeMap;exact cmA
open Go.Instr in
@[simp] theorem Aom (t:TypeId)(size:Value):Calm P (Go.Instr.makeChan t size:Sem Value):=by
 unfold Go.Instr.makeChan;exact cmA
open Go.Instr in
@[simp] theorem Aml (t:TypeId)(len:Value)(cap:Value):Calm P (Go.Instr.makeSlice t len cap:Sem Value):=by
 unfold Go.Instr.makeSlice;exact cmA
open Go.Instr in
@[simp] theorem Auf (a:TypeId)(x:Value)(field:Nat):Calm P (Go.Instr.field a x field:Sem Value):=by
 unfold Go.Instr.field;exact cmA
open Go.Instr in
@[simp] theorem Aue (a:TypeId)(x:Value)(index:Value):Calm P (Go.Instr.index a x index:Sem Value):=by
 unfold Go.Instr.index;exact cmA
open Go.Instr in
@[simp] theorem Aoo:∀(a:Nat) (empty:Bool) (b:TypeId) (c:Value),Calm P (Go.Instr.checkKey empty a b c:Sem Unit):=by
 intro a;induction a with
 | zero=>
  intros
  unfold Go.Instr.checkKey;repeat' first
   | exact Af
   | assumption
   | (simp;done)
   | refine Calm.bind ?_ (λ_=>?_)
   | refine He _ (λ_ _=>?_) _
   | refine Ha _ (λ_ _=>?_) _
   | refine G9 _ (λ_ _=>?_) _
   | refine G8 _ (λ_=>?_)
   | refine G7 _ (λ_=>?_)
   | dsimp only
   | refine Calm.map ?_
   | split
   | intro _
 | succ n ih=>
  intros
  unfold Go.Instr.checkKey;exact cmE
@[simp] theorem Aly (keyType:TypeId)(k:Value):∀(a:List MapEntry) (i:Nat),Calm P (Instr.findAsking keyType k a i):=by
 intro a;induction a with
 | nil=>exact λ_=>Af
 | cons e a c=>
  intro i;refine Calm.bind spz λb=>?_
  cases b
  ·exact c _
  ·exact Af
open Go.Instr in
@[simp] theorem Ap9 (keyType:TypeId)(k:Value)(es:List MapEntry):Calm P (Go.Instr.findKey keyType k es:Sem (Option (Nat × Value))):=by
 unfold Go.Instr.findKey;exact cmA
open Go.Instr in
@[simp] theorem Ati (a:TypeId)(x:Value)(index:Value)(b:Bool):Calm P (Go.Instr.lookup a x index b:Sem Value):=by
 unfold Go.Instr.lookup;exact cmA
open Go.Instr in
@[simp] theorem Ai6 (old:Value)(new:Value):Calm P (Go.Instr.keyThatStays old new:Sem Value):=by
 unfold Go.Instr.keyThatStays;exact cmA
open Go.Instr in
@[simp] theorem Amk (mapType:TypeId)(map:Value)(key:Value)(value:Value):Calm P (Go.Instr.mapUpdate mapType map key value:Sem Unit):=by
 unfold Go.Instr.mapUpdate;exact cmA
open Go.Instr in
@[simp] theorem Aol (mapType:TypeId)(map:Value)(key:Value):Calm P (Go.Instr.mapEntry mapType map key:Sem Value):=by
 unfold Go.Instr.mapEntry;exact cmA
open Go.Instr in
@[simp] theorem Alz (_mapType:TypeId)(map:Value)(stamp:Value)(value:Value):Calm P (Go.Instr.entryStore _mapType map stamp value:Sem Unit):=by
 unfold Go.Instr.entryStore;exact cmA
open Go.Instr in
@[simp] theorem Auc (a:TypeId)(x:Value):Calm P (Go.Instr.range a x:Sem Value):=by
 unfold Go.Instr.range;exact cmA
open Go.Instr in
@[simp] theorem Ayk (iter:Value)(isString:Bool)(_type:TypeId):Calm P (Go.Instr.next iter isString _type:Sem Value):=by
 unfold Go.Instr.next;exact cmA
open Go.Instr in
@[simp] theorem Aug (iter:Value):Calm P (Go.Instr.entry iter:Sem Value):=by
 unfold Go.Instr.entry;exact cmA
theorem Aa1 (argTypes:Array TypeId)(t:TypeId)(a b:ByteArray):Calm P (Builtin.ssaWrapNilChk_ argTypes t #[.pointer none, .string a, .string b]):=by
 refine Calm.bind (s:=choose (Question.extern "ssa:wrapnilchk.dereferenced" 2)) spz (λn=>?_);repeat' first
  | exact Af
  | assumption
  | (simp;done)
  | refine Calm.bind ?_ (λ_=>?_)
  | dsimp only
  | refine Calm.map ?_
  | split
  | intro _
@[simp] theorem Afo (argTypes:Array TypeId)(t:TypeId)(args:Array Value):Calm P (Builtin.ssaWrapNilChk_ argTypes t args):=by
 rcases args with⟨_ | ⟨b,_ | ⟨e,_ | ⟨c,_ | ⟨f,l⟩⟩⟩⟩⟩
 case cons.cons.cons.nil=>
  cases e<;>first
   | exact Dy
   | (cases c<;>first
    | exact Dy
    | (cases b<;>first
     | exact Dy
     | (rename_i o _ _;cases o<;>first | exact Af (a:=Value.pointer (some _)) | exact Aa1 _ _ _ _)
     | (rename_i o;cases o<;>first | exact Af (a:=Value.pointer (some _)) | exact Aa1 _ _ _ _)))
 all_goals exact Dy
@[simp] theorem Ay4 (t:TypeId)(a:Place):Calm P (Go.Place.get t a:Sem Value):=by
 unfold Go.Place.get;exact cmA
@[simp] theorem A3u:∀(a:List FieldStep) (b:TypeId) (c:Place),Calm P (Go.follow a b c:Sem (TypeId × Place)):=by
 intro a;induction a with
 | nil=>
  intros
  unfold Go.follow;repeat' first
   | exact Af
   | assumption
   | (simp;done)
   | refine Calm.bind ?_ (λ_=>?_)
   | refine He _ (λ_ _=>?_) _
   | refine Ha _ (λ_ _=>?_) _
   | refine G9 _ (λ_ _=>?_) _
   | refine G8 _ (λ_=>?_)
   | refine G7 _ (λ_=>?_)
   | dsimp only
   | refine Calm.map ?_
   | split
   | intro _
 | cons y l ih=>
  intros
  unfold Go.follow;exact cmE
@[simp] theorem Aye (a:TypeId)(x:Place)(c:Bool)(b:Option String):Calm P (Go.receiverAt a x c b:Sem Value):=by
 unfold Go.receiverAt;exact cmA
@[simp] theorem At1 (t:TypeId)(v:Value)(path:Array FieldStep)(a:Bool):Calm P (Go.receiverVia t v path a:Sem Value):=by
 unfold Go.receiverVia;exact cmA
@[simp] theorem A3q:∀(a:Nat) (b:TypeId) (e:Value) (c:String),Calm P (Go.method a b e c:Sem (FuncId × Value)):=by
 intro a;induction a with
 | zero=>
  intros
  unfold Go.method;repeat' first
   | exact Af
   | assumption
   | (simp;done)
   | refine Calm.bind ?_ (λ_=>?_)
   | refine He _ (λ_ _=>?_) _
   | refine Ha _ (λ_ _=>?_) _
   | refine G9 _ (λ_ _=>?_) _
   | refine G8 _ (λ_=>?_)
   | refine G7 _ (λ_=>?_)
   | dsimp only
   | refine Calm.map ?_
   | split
   | intro _
 | succ n ih=>
  intros
  unfold Go.method;exact cmE
@[simp] theorem At5:∀(a:List FieldStep) (b:TypeId) (c:Option Value),Calm P (Go.followBlind a b c:Sem (Except (Option Bool) (TypeId × Option Value))):=by
 intro a;induction a with
 | nil=>
  intros
  unfold Go.followBlind;repeat' first
   | exact Af
   | assumption
   | (simp;done)
   | refine Calm.bind ?_ (λ_=>?_)
   | refine He _ (λ_ _=>?_) _
   | refine Ha _ (λ_ _=>?_) _
   | refine G9 _ (λ_ _=>?_) _
   | refine G8 _ (λ_=>?_)
   | refine G7 _ (λ_=>?_)
   | dsimp only
   | refine Calm.map ?_
   | split
   | intro _
 | cons y l ih=>
  intros
  unfold Go.followBlind;exact cmE
@[simp] theorem Ai3:∀(a:Nat) (b:TypeId) (e:Value) (c:String),Calm P (Go.nilAhead a b e c:Sem (Option Bool)):=by
 intro a;induction a with
 | zero=>
  intros
  unfold Go.nilAhead;repeat' first
   | exact Af
   | assumption
   | (simp;done)
   | refine Calm.bind ?_ (λ_=>?_)
   | refine He _ (λ_ _=>?_) _
   | refine Ha _ (λ_ _=>?_) _
   | refine G9 _ (λ_ _=>?_) _
   | refine G8 _ (λ_=>?_)
   | refine G7 _ (λ_=>?_)
   | dsimp only
   | refine Calm.map ?_
   | split
   | intro _
 | succ n ih=>
  intros
  unfold Go.nilAhead;exact cmE
open Go.Instr in
@[simp] theorem Alu (x:Value)(a:TypeId)(asserted:TypeId)(b:Bool):Calm P (Go.Instr.typeAssert x a asserted b:Sem Value):=by
 unfold Go.Instr.typeAssert;exact cmA
open Go.Instr in
@[simp] theorem Aqb (tuple:Value)(index:Nat):Calm P (Go.Instr.extract tuple index:Sem Value):=by
 unfold Go.Instr.extract;exact cmA
end
section
variable {P : Program}
@[simp] theorem Ajg (a:Addr)(cells:Nat):Calm P (Go.Builtin.holdsCells a cells:Sem Bool):=by
  unfold Go.Builtin.holdsCells;repeat' first
    | exact Af
    | (simp;done)
    | refine Calm.bind ?_ (λ_=>?_)
    | split
@[simp] theorem Al2 (size a n:Nat)(base:Option Addr)(x:Value):Calm P (Go.Builtin.mayShare size a n base x):=by
  unfold Go.Builtin.mayShare;repeat' first
    | exact Af
    | (simp;done)
    | refine Calm.bind ?_ (λ_=>?_)
    | dsimp only
    | refine Calm.map ?_
    | split
@[simp] theorem Aqe (x:Value):Calm P (Go.Builtin.lenOf x):=by
  unfold Go.Builtin.lenOf;split<;>simp
@[simp] theorem Ajh (size n:Nat)(x:Value):Calm P (Go.Builtin.firstCells size n x):=by
  unfold Go.Builtin.firstCells;split<;>simp
set_option maxRecDepth 10000 in
set_option maxHeartbeats 4000000 in
@[simp] theorem Aoq (argTypes:Array TypeId)(_type:TypeId)(args:Array Value) :Calm P (Builtin.append_ argTypes _type args):=by
  unfold Builtin.append_;split
  · refine Calm.bind spz λd=>?_
    split
    · split
      · refine Calm.bind spz λsize=>?_
        dsimp only;have two:∀z:Bool,Calm P (pure z:Sem Bool):=λ_=>Af
        split
        · refine Calm.bind spz λu=>?_
          split<;>
          (refine Calm.bind (two _) λz=>?_
           cases z<;>simp only[A58,A7k,Bool.not_false,if_true,A82,false_or,true_or,A8u]<;>
           repeat' first
             | exact Af
             | with_reducible refine Calm.bind ?_ (λ_=>?_)
             | with_reducible refine Calm.map ?_
             | split
             | (simp;done))
        · refine Calm.bind (two _) λz=>?_
          cases z<;>simp only[A58,A7k,Bool.not_false,if_true,A82,false_or,true_or,A8u]<;>
          repeat' first
            | exact Af
            | with_reducible refine Calm.bind ?_ (λ_=>?_)
            | with_reducible refine Calm.map ?_
            | split
            | (simp;done)
      · simp
    · simp
  · simp
@[simp] theorem Aqf (a:Array TypeId)(t:TypeId)(args:Array Value):Calm P (Builtin.close_ a t args):=by
  rcases args with⟨_ | ⟨b,_ | ⟨e,l⟩⟩⟩
  · exact Dy
  · cases b<;>first
      | exact Dy
      | (rename_i o
         cases o
         · exact O8 (.plain "close of nil channel")
         · refine Calm.bind (s:=getObj _) Aoh λo=>?_
           cases o<;>first
             | exact Dy
             | (rename_i c _ _ _;cases c
                · exact Calm.bind (s:=setObj _ _) Ae8 λ_=>Af
                · exact Calm.bind (s:=runtimePanic _) (O8 _) λ_=>Calm.bind (s:=setObj _ _) Ae8 λ_=>Af))
  · exact Dy
@[simp] theorem Amo (a:Array TypeId)(t:TypeId)(args:Array Value):Calm P (Builtin.complex_ a t args):=by
  rcases args with⟨_ | ⟨b,_ | ⟨c,_ | ⟨e,l⟩⟩⟩⟩
  case cons.cons.nil=>
    cases b<;>cases c<;>first
      | exact Dy
      | (show Calm P (if _=_ then pure _ else stuck _)
         split<;>simp)
  all_goals exact Dy
@[simp] theorem Atn (a:Array TypeId)(t:TypeId)(args:Array Value):Calm P (Builtin.imag_ a t args):=by
  rcases args with⟨_ | ⟨b,_ | ⟨c,l⟩⟩⟩
  case cons.nil=>
    cases b<;>first
      | exact Dy
      | exact Af
  all_goals exact Dy
@[simp] theorem Atk (a:Array TypeId)(t:TypeId)(args:Array Value):Calm P (Builtin.real_ a t args):=by
  rcases args with⟨_ | ⟨b,_ | ⟨c,l⟩⟩⟩
  case cons.nil=>
    cases b<;>first
      | exact Dy
      | exact Af
  all_goals exact Dy
theorem z8 {p:Prop}(h:p:=by
 cases y0<;>first
   | exact Dy
   | (refine Calm.bind (s:=asInt y1) spz λn=>?_
      repeat' first
        | exact Af
        | (simp;done)
        | refine Calm.bind ?_ (λ_=>?_)
        | split)):p:=h
@[simp] theorem Ajw (a:Array TypeId)(t:TypeId)(args:Array Value):Calm P (Builtin.unsafeAdd_ a t args):=by
  rcases args with⟨_ | ⟨y0,_ | ⟨y1,_ | ⟨b,l⟩⟩⟩⟩
  case cons.cons.nil=>exact z8
  all_goals exact Dy
@[simp] theorem Ahj (a:Array TypeId)(t:TypeId)(args:Array Value):Calm P (Builtin.unsafeSlice_ a t args):=by
  rcases args with⟨_ | ⟨y0,_ | ⟨y1,_ | ⟨b,l⟩⟩⟩⟩
  case cons.cons.nil=>exact z8
  all_goals exact Dy
@[simp] theorem Ac9 (a:Array TypeId)(t:TypeId)(args:Array Value):Calm P (Builtin.unsafeSliceData_ a t args):=by
  rcases args with⟨_ | ⟨b,_ | ⟨e,l⟩⟩⟩
  case cons.nil=>
    cases b<;>first
      | exact Dy
      | (rename_i o n c
         cases o
         · exact Af
         · rename_i ad
           show Calm P (if _ then pure _ else _)
           repeat' first
             | exact Af
             | (simp;done)
             | refine Calm.bind ?_ (λ_=>?_)
             | split)
  all_goals exact Dy
@[simp] theorem Agc (a:Array TypeId)(t:TypeId)(args:Array Value):Calm P (Builtin.unsafeString_ a t args):=by
  rcases args with⟨_ | ⟨y0,_ | ⟨y1,_ | ⟨b,l⟩⟩⟩⟩
  case cons.cons.nil=>exact z8
  all_goals exact Dy
@[simp] theorem Acz (a:Array TypeId)(t:TypeId)(args:Array Value):Calm P (Builtin.unsafeStringData_ a t args):=by
  rcases args with⟨_ | ⟨b,_ | ⟨c,l⟩⟩⟩
  case cons.nil=>
    cases b<;>first
      | exact Dy
      | (rename_i o
         show Calm P (if _ then _ else _)
         repeat' first
             | exact Af
             | (simp;done)
             | refine Calm.bind ?_ (λ_=>?_)
             | split)
  all_goals exact Dy
end
section
variable {P : Program}
open Go.Builtin in
@[simp] theorem Aun (argTypes:Array TypeId)(_type:TypeId)(args:Array Value):Calm P (Go.Builtin.cap_ argTypes _type args:Sem Value):=by
 unfold Go.Builtin.cap_;exact cmB
open Go.Builtin in
@[simp] theorem Aqg (argTypes:Array TypeId)(_type:TypeId)(args:Array Value):Calm P (Go.Builtin.clear_ argTypes _type args:Sem Value):=by
 unfold Go.Builtin.clear_;exact cmB
open Go.Builtin in
@[simp] theorem Ato (argTypes:Array TypeId)(_type:TypeId)(args:Array Value):Calm P (Go.Builtin.copy_ argTypes _type args:Sem Value):=by
 unfold Go.Builtin.copy_;exact cmB
open Go.Builtin in
@[simp] theorem Aop (argTypes:Array TypeId)(_type:TypeId)(args:Array Value):Calm P (Go.Builtin.delete_ argTypes _type args:Sem Value):=by
 unfold Go.Builtin.delete_;exact cmB
open Go.Builtin in
@[simp] theorem Aum (argTypes:Array TypeId)(_type:TypeId)(args:Array Value):Calm P (Go.Builtin.len_ argTypes _type args:Sem Value):=by
 unfold Go.Builtin.len_;exact cmB
open Go.Builtin in
@[simp] theorem Atm (b:Value)(a:Value):Calm P (Go.Builtin.max2 b a:Sem Value):=by
 unfold Go.Builtin.max2;exact cmB
open Go.Builtin in
@[simp] theorem Aul (_argTypes:Array TypeId)(_type:TypeId)(args:Array Value):Calm P (Go.Builtin.max_ _argTypes _type args:Sem Value):=by
 unfold Go.Builtin.max_;exact cmB
open Go.Builtin in
@[simp] theorem Atl (b:Value)(a:Value):Calm P (Go.Builtin.min2 b a:Sem Value):=by
 unfold Go.Builtin.min2;exact cmB
open Go.Builtin in
@[simp] theorem Auk (_argTypes:Array TypeId)(_type:TypeId)(args:Array Value):Calm P (Go.Builtin.min_ _argTypes _type args:Sem Value):=by
 unfold Go.Builtin.min_;exact cmB
open Go.Builtin in
@[simp] theorem Al1 (t:TypeId)(v:Value):Calm P (Go.Builtin.printOne t v:Sem (Array ByteArray)):=by
 unfold Go.Builtin.printOne;exact cmB
open Go.Builtin in
@[simp] theorem Zl (b:Bool)(a:Array Bool)(argTypes:Array TypeId)(args:Array Value):Calm P (Go.Builtin.pieces b a argTypes args:Sem (Array ByteArray)):=by
 unfold Go.Builtin.pieces;exact cmB
end
def Wh:Next->Prop
 | .value _ | .skip | .enter .. | .round .. | .defer _ | .recover | .spawn _ | .comm .. | .coroswitch ..=>True
 | .row r _=>r= "runtime.print$piece"
 | _=>False
section
variable {d:Nat}
variable {P : Program}{α β : Type}
theorem Adt {N:β->Prop}{f:Unit->Sem β}(h:Sat P N (d+1) (f ())):Sat P N d (mark .disable>>=f):=h
theorem Agl {N:β->Prop}{f:Unit->Sem β}(h:Sat P N d (f ())):Sat P N (d+1) (mark .enable>>=f):=h
theorem Agj {N:β->Prop}{f:Unit->Sem β}{a:Addr}{v:Value}{m:Mode}(h:Sat P N d (f ())):Sat P N d (store a v m>>=f):=h
theorem Nr {N:β->Prop}{f:Program->Sem β}(h:Sat P N d (f P)):Sat P N d (program>>=f):=h
theorem Ajz {N:β->Prop}{f:Bool->Sem β}(h:∀b,Sat P N d (f b)):Sat P N d (Extern.PrintPieces.held>>=f):=by
 intro v;cases v<;>first | exact h _ | exact Or.inr trivial
theorem Am2 {N:β->Prop}{a:Nat}{b:ByteArray}{f:Unit->Sem β}(h:Sat P N 0 (f ())):Sat P N 0 (writeFd a b>>=f):=by
 refine⟨trivial,λr=>?_⟩;cases r<;>first | exact h | exact .inl rfl
theorem Ads (a b:Array TypeId)(args:Array Value):Sat P Wh 0 (Extern.PrintPieces.piece a b args):=by
 unfold Extern.PrintPieces.piece;dsimp only;repeat' first
  | exact Hl trivial
  | exact Hl rfl
  | refine Am2 ?_
  | refine Adt ?_
  | refine Agl ?_
  | refine Ajz (λ_=>?_)
  | refine Nr ?_
  | refine Agj ?_
  | exact .inl rfl
  | exact .inr trivial
  | split
open Go.Instr in
@[simp] theorem Aa2 (l:Nat):Calm P (Go.Instr.getLoop l:Sem Loop):=by
 unfold Go.Instr.getLoop;exact cmB
open Go.Instr in
@[simp] theorem Amm (fn:FuncId)(tmps:Array Value)(b:Array Tmp)(assign:Code)(body:Code)(a:Option Nat):Calm P (Go.Instr.enterLoop fn tmps b assign body a:Sem (Nat × List Deferred)):=by
 unfold Go.Instr.enterLoop;exact cmB
open Go.Instr in
@[simp] theorem Qd (l:Nat):Calm P (Go.Instr.beginRound l:Sem Unit):=by
 unfold Go.Instr.beginRound;exact cmB
open Go.Instr in
@[simp] theorem Aon (l:Nat)(jump:Option Code):Calm P (Go.Instr.endRound l jump:Sem Value):=by
 unfold Go.Instr.endRound;exact cmB
open Go.Instr in
@[simp] theorem Aqc (l:Nat):Calm P (Go.Instr.endLoop l:Sem (Option Code)):=by
 unfold Go.Instr.endLoop;exact cmB
open Go.Instr in
@[simp] theorem Ai7 (l:Nat)(d:Deferred):Calm P (Go.Instr.deferInRound l d:Sem Unit):=by
 unfold Go.Instr.deferInRound;exact cmB
open Go.Instr in
@[simp] theorem Ai5 (block:Nat):Calm P (Go.Instr.takeDeferred block:Sem (List Deferred)):=by
 unfold Go.Instr.takeDeferred;exact cmB
theorem Ave (l:Nat)(args:Array Value):Sat P Wh 0 (Instr.yield l args):=by
 unfold Instr.yield;repeat' first
  | exact Hl trivial
  | refine D6 (by first | exact Aa2 _ | exact Dy) (λ_=>?_)
  | split
theorem Ai2:Calm P Instr.panicnil:=by
 unfold Instr.panicnil;refine⟨trivial,λr=>?_⟩;cases r<;>first | exact .inl rfl | exact⟨rfl,trivial⟩
@[simp] theorem Aud (x:Value):Calm P (Instr.panic x):=by
 unfold Instr.panic;split
 ·simp
 ·refine Calm.bind Ai2 λ_=>?_
  split<;>simp
 ·simp
theorem Aac {s:Sem Value}(h:Calm P s):Sat P Wh 0 (do pure (.value (<-s))):=D6 h λ_=>⟨rfl,trivial⟩
theorem Azd {s:Sem Unit}(h:Calm P s):Sat P Wh 0 (do s;pure .skip):=D6 h λ_=>⟨rfl,trivial⟩
theorem Adr (b:Bool)(a:Array Bool)(c:Array TypeId)(args:Array Value):Sat P Wh 0 (Builtin.printMarked b a c args):=by
 unfold Builtin.printMarked;refine D6 (by exact Zl _ _ _ _) λe=>?_
 split
 ·exact Hl trivial
 ·exact Ads _ _ _
theorem Am3 (b:Builtin)(a:Array TypeId)(t:TypeId)(cs:Array Bool)(args:Array Value):Sat P Wh 0 (builtin b a t cs args):=by
 unfold builtin;cases b<;>first
  | exact Aac spz
  | exact Adr _ _ _ _
  | exact Hl trivial
  | exact .inl rfl
  | exact D6 (Ai1 _) λ_=>Hl trivial
structure OkP (P:Program):Prop where
 name:∀(f:Nat) (fn:Func),P.funcs[f]?=some fn->(fn.name== "runtime.NumGoroutine")=false
 next:∀(f:Nat) (fn:Func),P.funcs[f]?=some fn->fn.body.isNone=true->Extern.findNext fn=none
 calm:∀(f:Nat) (fn:Func) (e:Array Value->Sem Value),P.funcs[f]?=some fn->fn.body.isNone=true->Extern.find fn=some e->∀args,Calm P (e args)
theorem Qo {N:α->Prop}(e:RuntimeError):Sat P N 0 (runtimePanic e:Sem α):=by
 unfold runtimePanic;refine Nr ?_;dsimp only;split<;>first | exact .inl rfl | (refine D6 spz λ_=>?_;first | exact .inl rfl | (refine D6 spz λ_=>?_;exact .inl rfl))
theorem Wv (g:OkP P)(f:FuncId)(args:Array Value):Sat P Wh 0 (callFunc f args):=by
 unfold callFunc;refine Nr ?_;split
 ·exact .inl rfl
 ·rename_i a c
  rw[g.name f a c];by_cases b:a.body.isNone=true
  ·rw[if_neg spz,if_pos b]
   refine D6 spz λ_=>?_
   rw[g.next f a c b];simp only[];split
   ·rename_i e i
    exact Aac (g.calm f a e c b i args)
   ·split
    ·exact Hl trivial
    ·exact .inl rfl
  ·rw[if_neg spz,if_neg b]
   exact Hl trivial
theorem Yq (a:OkP P)(recv:Value)(name:String)(args:Array Value):Sat P Wh 0 (callMethod recv name args):=by
 unfold callMethod;split
 ·refine Nr ?_
  refine D6 spz λx=>?_
  exact Wv a _ _
 ·exact Qo _
 ·exact .inl rfl
theorem Ld (a:OkP P)(t:Target)(args:Array Value):Sat P Wh 0 (invoke t args):=by
 unfold invoke;split
 ·exact Qo _
 ·exact Am3 _ _ _ _ _
 ·exact Wv a _ _
 ·split
  ·exact Yq a _ _ _
  ·exact .inl rfl
 ·split
  ·refine D6 spz λu=>?_
   exact Yq a _ _ _
  ·exact .inl rfl
 ·split
  ·refine D6 spz λu=>?_
   exact Wv a _ _
  ·exact .inl rfl
 ·exact Ave _ _
 ·exact .inl rfl
 ·exact Hl trivial
@[simp] theorem A10 (f:Value)(args:Array Value):Calm P (Deferred.ofValue f args):=by
 unfold Deferred.ofValue;split<;>simp
@[simp] theorem Xl (a:Operand->Value)(c:Call)(t:TypeId):Calm P (resolve a c t):=by
 unfold resolve;dsimp only;split<;>simp
@[simp] theorem At4 (t:TypeId)(x y:Value):Calm P (movedNumber t x y):=by
 unfold movedNumber;exact cmF
@[simp] theorem Atc (t:TypeId)(x y:Value):Calm P (movedPointer t x y):=by
 unfold movedPointer;exact cmF
@[simp] theorem Als (op:BinOp)(t:TypeId)(x y:Operand)(a b:Value):Calm P (eqGuard op t x y a b):=by
 unfold eqGuard;exact cmF
@[simp] theorem Atd (op:BinOp)(t:TypeId)(x y:Value):Calm P (binOp op t x y):=by
 unfold binOp;exact cmF
@[simp] theorem A13 (src dst:TypeId)(x:Value):Calm P (convert src dst x):=by
 unfold convert;exact cmF
theorem Agk (f:OkP P)(e:Operand->Value)(o:Oper):Sat P Wh 0 (execOp e o):=by
 unfold execOp;dsimp only;cases o.op
 case nilCheck x=>
  dsimp only;repeat' first
   | exact Hl trivial
   | exact Qo _
   | refine D6 (Ai3 _ _ _ _) (λ_=>?_)
   | with_reducible refine Nr ?_
   | refine D6 Js (λ_=>?_)
   | split
 case binOp op t x y i=>exact Aac (Calm.bind (Als _ _ _ _ _ _) λ_=>Atd _ _ _ _)
 case recv t c k=>
  refine D6 (Ae7 _) λd=>?_
  split
  ·exact D6 (Y3 _) λ_=>Hl trivial
  ·exact .inl rfl
 case select g b=>
  exact D6 (G8 _ λ_=>Calm.bind (Y3 _) λ_=>Af) λ_=>Hl trivial
 case call c=>exact D6 (Xl _ _ _) λ_=>Ld f _ _
 case go c=>exact D6 (Xl _ _ _) λ_=>Hl trivial
 case defer c=>exact D6 (Xl _ _ _) λ_=>Hl trivial
 case pick a b c=>exact D6 spz λ_=>Hl trivial
 all_goals first
  | exact Hl trivial
  | exact Aac spz
  | exact Azd spz
end
end Go.Co
