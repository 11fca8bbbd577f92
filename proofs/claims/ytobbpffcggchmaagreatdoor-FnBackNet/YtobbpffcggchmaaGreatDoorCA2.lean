import Derived.Test.YtobbpffcggchmaaGreatDoorA00
import GoSem.Step
import Derived.Laws.Sem
namespace Go.Co
def Aej:Halt->Prop
 | .unsupported (.initOrder _)=>False
 | .blocked | .waiting | .unsupported _ | .stuck _=>True
 | _=>False
def A7c (d:Nat):Mark->Nat
 | .disable=>d+1
 | .enable=>d - 1
 | _=>d
def Ays {α:Type}:Sem α->Prop
 | .halt h=>Aej h
 | _=>False
def Sat (P:Program){α:Type}(N:α->Prop):Nat->Sem α->Prop
 | d, .pure a=>d=0/\N a
 | d, .load _ _ k=>∀v,Sat P N d (k v)
 | d, .store _ _ _ k=>Sat P N d k
 | d, .new _ k=>∀r,Sat P N d (k r)
 | d, .shape _ k=>∀s,Sat P N d (k s)
 | d, .freeze _ _ k=>Sat P N d k
 | d, .frozen _ k=>∀b,Sat P N d (k b)
 | d, .getObj _ k=>∀o,Sat P N d (k o)
 | d, .setObj _ _ k=>Sat P N d k
 | d, .choose _ k=>∀n,Sat P N d (k n)
 | d, .sys _ k=>Ays (k .wouldBlock)/\∀r,Sat P N d (k r)
 | d, .program k=>Sat P N d (k P)
 | d, .mark m k=>Sat P N (A7c d m) k
 | d, .halt h=>d=0\/Aej h
def Calm (P:Program){α:Type}(s:Sem α):Prop:=Sat P (λ_=>True) 0 s
section
variable {γ:Type}
variable {P : Program}{α β : Type}
theorem Aws {M:α->Prop}{N:β->Prop}{f:α->Sem β}(e:∀a,M a->Sat P N 0 (f a)):∀(s:Sem α) (d:Nat),Sat P M d s->Sat P N d (s.bind f):=by
 intro s;induction s with
 | pure a=>intro d h;obtain⟨rfl,h⟩:=h;exact e a h
 | load m a k b=>exact λd h v=>b v d (h v)
 | store m a v k b=>exact λd h=>b d h
 | new o k b=>exact λd h v=>b v d (h v)
 | shape r k b=>exact λd h v=>b v d (h v)
 | freeze a n k b=>exact λd h=>b d h
 | frozen a k b=>exact λd h v=>b v d (h v)
 | getObj r k b=>exact λd h v=>b v d (h v)
 | setObj r o k b=>exact λd h=>b d h
 | choose q k b=>exact λd h v=>b v d (h v)
 | sys c k b=>
  intro d h;refine⟨?_,λr=>b r d (h.2 r)⟩;have g:=h.1;show Ays ((k .wouldBlock).bind f)
  revert g
  cases k .wouldBlock<;>simp only[Ays,false_implies,Sem.bind]
  exact id
 | program k b=>exact λd h=>b P d h
 | mark m k b=>exact λd h=>b _ h
 | halt x=>exact λd h=>h
theorem Ea {N:β->Prop}{s:Sem α}{f:α->Sem β}(c:Calm P s)(b:∀a,Sat P N 0 (f a)):Sat P N 0 (s>>=f):=Aws (λa _=>b a) s 0 c
theorem He {N:α->Prop}{a:α}(h:N a):Sat P N 0 (pure a:Sem α):=⟨rfl,h⟩
@[simp] theorem Ak {a:α}:Calm P (pure a:Sem α):=⟨rfl,trivial⟩
@[simp] theorem A7o {a:Addr}{m:Mode}:Calm P (load a m):=λ_=>⟨rfl,trivial⟩
@[simp] theorem Auo {a:Addr}{v:Value}{m:Mode}:Calm P (store a v m):=⟨rfl,trivial⟩
@[simp] theorem A57 {o:Obj}:Calm P (newObj o):=λ_=>⟨rfl,trivial⟩
@[simp] theorem A6w {r:Nat}:Calm P (shape r):=λ_=>⟨rfl,trivial⟩
@[simp] theorem A6b {a:Addr}{n:Nat}:Calm P (freeze a n):=⟨rfl,trivial⟩
@[simp] theorem A6a {a:Addr}:Calm P (frozen a):=λ_=>⟨rfl,trivial⟩
@[simp] theorem Apf {r:Nat}:Calm P (getObj r):=λ_=>⟨rfl,trivial⟩
@[simp] theorem Afe {r:Nat}{o:Obj}:Calm P (setObj r o):=⟨rfl,trivial⟩
@[simp] theorem Ld {q:Question}:Calm P (choose q):=λ_=>⟨rfl,trivial⟩
@[simp] theorem Amm:Calm P program:=⟨rfl,trivial⟩
@[simp] theorem A54:Calm P (mark .noRoom):=⟨rfl,trivial⟩
@[simp] theorem A59 {f:FuncId}:Calm P (mark (.extern f)):=⟨rfl,trivial⟩
@[simp] theorem Dy {s:String}:Calm P (stuck s:Sem α):=.inl rfl
@[simp] theorem Jz {u:Unsupported}:Calm P (unsupported u:Sem α):=.inl rfl
@[simp] theorem A4g {v:Value}:Calm P (goPanic v:Sem α):=.inl rfl
@[simp] theorem A6v {s:String}:Calm P (throw s:Sem α):=.inl rfl
theorem Calm.bind {s:Sem α}{f:α->Sem β}(c:Calm P s)(b:∀a,Calm P (f a)):Calm P (s>>=f):=Ea c b
theorem cmF {P:Program}{α:Type}{x:Sem α}(h:Calm P x:=by repeat' first | exact Ak | (simp;done) | refine Calm.bind ?_ (λ_=>?_) | split):Calm P x:=h
theorem Calm.map {s:Sem α}{f:α->β}(a:Calm P s):Calm P (f<$>s):=Ea a λ_=>⟨rfl,trivial⟩
theorem cmG {P:Program}{α:Type}{x:Sem α}(h:Calm P x:=by repeat' first | exact Ak | exact Or.inl rfl | assumption | (simp;done) | refine Calm.bind ?_ (λ_=>?_) | dsimp only | refine Calm.map ?_ | split | intro _):Calm P x:=h
theorem cmC {P:Program}{α:Type}{x:Sem α}(h:Calm P x:=by repeat' first | exact Ak | exact Or.inl rfl | assumption | (simp;done) | refine Calm.bind ?_ (λ_=>?_) | dsimp only | refine Calm.map ?_ | split | intro _):Calm P x:=h
theorem G9 (l:List γ){f:γ->β->Sem (ForInStep β)}(c:∀a b,Calm P (f a b)):∀b,Calm P (forIn l b f):=by
 induction l with
 | nil=>exact λb=>by rw[List.forIn_nil];exact Ak
 | cons a l d=>
  intro b;rw[List.forIn_cons];refine Calm.bind (c a b) λr=>?_
  cases r with
  | done b=>exact Ak
  | yield b=>exact d b
theorem G8 (l:Array γ){f:γ->β->Sem (ForInStep β)}(c:∀a b,Calm P (f a b))(b:β):Calm P (forIn l b f):=by
 rw[<-Array.forIn_toList];exact G9 _ c b
theorem G7 (r:Std.Legacy.Range){f:Nat->β->Sem (ForInStep β)}(c:∀a b,Calm P (f a b))(b:β):Calm P (forIn r b f):=by
 rw[Std.Legacy.Range.forIn_eq_forIn_range'];exact G9 _ c b
theorem Amq (l:List γ):∀{f:(a:γ)->a∈l->β->Sem (ForInStep β)} (_:∀a h b,Calm P (f a h b)) (b:β),Calm P (forIn' l b f):=by
 induction l with
 | nil=>exact λ_ b=>by rw[List.forIn'_nil];exact Ak
 | cons a l d=>
  intro f c b;rw[List.forIn'_cons];refine Calm.bind (c _ _ b) λr=>?_
  cases r with
  | done b=>exact Ak
  | yield b=>exact d (λ_ _ _=>c _ _ _) b
theorem Amo (r:Std.Legacy.Range){f:(i:Nat)->i∈r->β->Sem (ForInStep β)}(c:∀a h b,Calm P (f a h b))(b:β):Calm P (forIn' r b f):=by
 rw[Std.Legacy.Range.forIn'_eq_forIn'_range'];exact Amq _ (λ_ _ _=>c _ _ _) b
theorem Apg (l:List γ){f:β->γ->Sem β}(c:∀a b,Calm P (f a b)):∀b,Calm P (l.foldlM f b):=by
 induction l with
 | nil=>exact λb=>Ak
 | cons a l d=>exact λb=>by rw[List.foldlM_cons];exact Calm.bind (c b a) d
theorem G5 (l:List γ){f:γ->Sem β}(b:∀a,Calm P (f a)):Calm P (l.mapM f):=by
 induction l with
 | nil=>rw[List.mapM_nil];exact Ak
 | cons a l c=>rw[List.mapM_cons];exact Calm.bind (b a) λ_=>Calm.bind c λ_=>Ak
theorem G6 (l:Array γ){f:γ->Sem β}(b:∀a,Calm P (f a)):Calm P (l.mapM f):=by
 rw[Array.mapM_eq_mapM_toList];exact Calm.map (G5 _ b)
theorem cmE {P:Program}{α:Type}{x:Sem α}(h:Calm P x:=by repeat' first | exact Ak | assumption | (simp;done) | exact ih _ | exact ih _ _ | exact ih _ _ _ | exact ih _ _ _ _ | refine Calm.bind ?_ (λ_=>?_) | refine G9 _ (λ_ _=>?_) _ | refine G8 _ (λ_ _=>?_) _ | refine G7 _ (λ_ _=>?_) _ | refine G6 _ (λ_=>?_) | refine G5 _ (λ_=>?_) | dsimp only | refine Calm.map ?_ | split | intro _):Calm P x:=h
theorem cmD {P:Program}{α:Type}{x:Sem α}(h:Calm P x:=by repeat' first | exact Ak | assumption | (simp;done) | refine Calm.bind ?_ (λ_=>?_) | refine G9 _ (λ_ _=>?_) _ | refine G8 _ (λ_ _=>?_) _ | refine G7 _ (λ_ _=>?_) _ | refine G6 _ (λ_=>?_) | refine G5 _ (λ_=>?_) | dsimp only | refine Calm.map ?_ | split | intro _):Calm P x:=h
theorem cmB {P:Program}{α:Type}{x:Sem α}(h:Calm P x:=by repeat' first | exact Ak | assumption | (simp;done) | refine Calm.bind ?_ (λ_=>?_) | refine G9 _ (λ_ _=>?_) _ | refine G8 _ (λ_ _=>?_) _ | refine G7 _ (λ_ _=>?_) _ | refine G6 _ (λ_=>?_) | refine G5 _ (λ_=>?_) | refine Apg _ (λ_ _=>?_) _ | refine Amo _ (λ_ _ _=>?_) _ | dsimp only | refine Calm.map ?_ | split | intro _):Calm P x:=h
theorem cmA {P:Program}{α:Type}{x:Sem α}(h:Calm P x:=by repeat' first | exact Ak | assumption | (simp;done) | refine Calm.bind ?_ (λ_=>?_) | refine G9 _ (λ_ _=>?_) _ | refine G8 _ (λ_ _=>?_) _ | refine G7 _ (λ_ _=>?_) _ | refine G6 _ (λ_=>?_) | refine G5 _ (λ_=>?_) | dsimp only | refine Calm.map ?_ | split | intro _):Calm P x:=h
end
section
variable {P : Program}
@[simp] theorem A4k (bytes:Nat):Calm P (Go.askRoom bytes:Sem Unit):=by
 unfold Go.askRoom;exact cmA
@[simp] theorem A50 (r:Nat):Calm P (Go.viewAt r:Sem (Option (Addr × TypeId))):=by
 unfold Go.viewAt;exact cmA
@[simp] theorem A3b (r:Nat):Calm P (Go.numberAt r:Sem (Option (Addr × Bool))):=by
 unfold Go.numberAt;exact cmA
@[simp] theorem A4j (r:Nat):Calm P (Go.cellsIn r:Sem (Option Nat)):=by
 unfold Go.cellsIn;exact cmA
@[simp] theorem A3e (a:Addr)(lost:Bool):Calm P (Go.asNumber a lost:Sem Value):=by
 unfold Go.asNumber;exact cmA
@[simp] theorem Aus (n:Addr):Calm P (Go.behindNumber n:Sem (Addr × Bool)):=by
 unfold Go.behindNumber;exact cmA
@[simp] theorem A53 (a:Addr):Calm P (Go.noView a:Sem Unit):=by
 unfold Go.noView;exact cmA
@[simp] theorem Ard (a:Addr):Calm P (Go.markStringish a:Sem Unit):=by
 unfold Go.markStringish;exact cmA
@[simp] theorem A0w (a:Addr):Calm P (Go.stringish a:Sem Bool):=by
 unfold Go.stringish;exact cmA
@[simp] theorem A3c (a:Addr)(b:Addr):Calm P (Go.mayBeOne a b:Sem Bool):=by
 unfold Go.mayBeOne;exact cmA
@[simp] theorem A3a (a:Addr)(b:Addr):Calm P (Go.sameAddr a b:Sem Bool):=by
 unfold Go.sameAddr;exact cmA
@[simp] theorem Avb (a:Option Addr)(b:Option Addr):Calm P (Go.samePointer a b:Sem Bool):=by
 unfold Go.samePointer;exact cmA
@[simp] theorem Ajn (t:TypeId):Calm P (Go.typeInfo t:Sem TypeInfo):=by
 unfold Go.typeInfo;exact cmA
@[simp] theorem Afd (t:TypeId):Calm P (Go.underlying t:Sem TypeDesc):=by
 unfold Go.underlying;exact cmA
@[simp] theorem A4h (name:String):Calm P (Go.cutType name:Sem TypeId):=by
 unfold Go.cutType;exact cmA
@[simp] theorem A4e (t:TypeId):Calm P (Go.typeStr t:Sem String):=by
 unfold Go.typeStr;exact cmA
@[simp] theorem Yp (t:TypeId):Calm P (Go.zeroValue t:Sem Value):=by
 unfold Go.zeroValue;exact cmA
@[simp] theorem A51 (t:TypeId):Calm P (Go.sizeOf t:Sem Nat):=by
 unfold Go.sizeOf;exact cmA
@[simp] theorem A6x (t:TypeId):Calm P (Go.isAgg t:Sem Bool):=by
 unfold Go.isAgg;exact cmA
@[simp] theorem Arf:∀(b:Nat) (a:Addr) (i:Nat) (c:Array Value),Calm P (Go.loadCellsFrom a i b c:Sem (Array Value)):=by
 intro b;induction b with
 | zero=>
  intros
  unfold Go.loadCellsFrom;repeat' first
   | exact Ak
   | assumption
   | (simp;done)
   | refine Calm.bind ?_ (λ_=>?_)
   | refine G9 _ (λ_ _=>?_) _
   | refine G8 _ (λ_ _=>?_) _
   | refine G7 _ (λ_ _=>?_) _
   | refine G6 _ (λ_=>?_)
   | refine G5 _ (λ_=>?_)
   | dsimp only
   | refine Calm.map ?_
   | split
   | intro _
 | succ n ih=>
  intros
  unfold Go.loadCellsFrom;exact cmE
@[simp] theorem A0x (a:Addr)(n:Nat):Calm P (Go.loadCells a n:Sem (Array Value)):=by
 unfold Go.loadCells;exact cmA
theorem Acz (a:Addr):∀(b:List Value) (i:Nat),Calm P (storeCells a b i):=by
 intro b;induction b with
 | nil=>exact λ_=>Ak
 | cons v l c=>exact λi=>Calm.bind Auo λ_=>c (i+1)
@[simp] theorem Az6 (a:Addr)(vs:List Value)(i:Nat):Calm P (storeCells a vs i):=Acz a vs i
@[simp] theorem Amn (t:TypeId)(a:Addr):Calm P (Go.loadVar t a:Sem Value):=by
 unfold Go.loadVar;exact cmA
@[simp] theorem A29 (t:TypeId)(a:Addr)(v:Value):Calm P (Go.storeVar t a v:Sem Unit):=by
 unfold Go.storeVar;exact cmA
@[simp] theorem A56 (elem:TypeId)(cells:Array Value):Calm P (Go.newRow elem cells:Sem Addr):=by
 unfold Go.newRow;exact cmA
@[simp] theorem A55 (t:TypeId)(v:Value):Calm P (Go.newVar t v:Sem Addr):=by
 unfold Go.newVar;exact cmA
@[simp] theorem A6d (t:TypeId):Calm P (Go.elemOf t:Sem TypeId):=by
 unfold Go.elemOf;exact cmA
@[simp] theorem A7n (t:TypeId)(cs:Array Value)(off:Nat):Calm P (Go.part t cs off:Sem Value):=by
 unfold Go.part;exact cmA
@[simp] theorem Avd {α:Type}(a:String):Calm P (Go.panicString a:Sem α):=by
 unfold Go.panicString;exact cmA
@[simp] theorem Ph {α:Type}(e:RuntimeError):Calm P (Go.runtimePanic e:Sem α):=by
 unfold Go.runtimePanic;exact cmA
@[simp] theorem Avg {α:Type}(k:IntKind)(x:Int)(y:Int)(code:BoundsCode):Calm P (Go.boundsPanic k x y code:Sem α):=by
 unfold Go.boundsPanic;exact cmA
@[simp] theorem A4l (a:Value):Calm P (Go.asIntOf a:Sem (IntKind × Int)):=by
 unfold Go.asIntOf;exact cmA
@[simp] theorem A6y (v:Value):Calm P (Go.asInt v:Sem Int):=by
 unfold Go.asInt;exact cmA
@[simp] theorem A6f (a:Value):Calm P (Go.asBool a:Sem Bool):=by
 unfold Go.asBool;exact cmA
@[simp] theorem A3d (a:Value):Calm P (Go.asString a:Sem ByteArray):=by
 unfold Go.asString;exact cmA
@[simp] theorem A6z (a:Value):Calm P (Go.asAgg a:Sem (Array Value)):=by
 unfold Go.asAgg;exact cmA
@[simp] theorem Aph (a:Value):Calm P (Go.asAddr a:Sem Addr):=by
 unfold Go.asAddr;exact cmA
@[simp] theorem A6e (a:Addr):Calm P (Go.byteOf a:Sem Nat):=by
 unfold Go.byteOf;exact cmA
@[simp] theorem A52 (base:Addr)(cells:Nat)(bytes:Nat):Calm P (Go.partAt base cells bytes:Sem Addr):=by
 unfold Go.partAt;exact cmA
@[simp] theorem Az8 (a:Addr)(f:Field):Calm P (Go.fieldPlace a f:Sem Addr):=by
 unfold Go.fieldPlace;exact cmA
@[simp] theorem Ava (a:Addr)(u:TypeId)(n:Nat):Calm P (Go.variablesAt a u n:Sem Bool):=by
 unfold Go.variablesAt;exact cmA
@[simp] theorem A0y:∀(b:Nat) (a:Addr) (acc:ByteArray),Calm P (Go.loadBytes a acc b:Sem ByteArray):=by
 intro b;induction b with
 | zero=>
  intros
  unfold Go.loadBytes;repeat' first
   | exact Ak
   | assumption
   | (simp;done)
   | refine Calm.bind ?_ (λ_=>?_)
   | refine G9 _ (λ_ _=>?_) _
   | refine G8 _ (λ_ _=>?_) _
   | refine G7 _ (λ_ _=>?_) _
   | refine G6 _ (λ_=>?_)
   | refine G5 _ (λ_=>?_)
   | dsimp only
   | refine Calm.map ?_
   | split
   | intro _
 | succ n ih=>
  intros
  unfold Go.loadBytes;exact cmE
end
section
variable {P : Program}
open Go.Op in
@[simp] theorem A00 (op:BinOp)(k:IntKind)(x:Int)(y:Int):Calm P (Go.Op.intDiv op k x y:Sem Value):=by
 unfold Go.Op.intDiv;exact cmA
open Go.Op in
@[simp] theorem A3g (op:BinOp)(k:IntKind)(x:Int)(_yk:IntKind)(y:Int):Calm P (Go.Op.shift op k x _yk y:Sem Value):=by
 unfold Go.Op.shift;exact cmA
open Go.Op in
@[simp] theorem A01 (op:BinOp)(x:Int)(y:Int):Calm P (Go.Op.intCmp op x y:Sem Value):=by
 unfold Go.Op.intCmp;exact cmA
open Go.Op in
@[simp] theorem Arh (op:BinOp)(k:FloatKind)(x:Nat)(y:Nat):Calm P (Go.Op.floatArith op k x y:Sem Value):=by
 unfold Go.Op.floatArith;exact cmA
open Go.Op in
@[simp] theorem Avi (op:BinOp)(k:FloatKind)(x:Nat)(y:Nat):Calm P (Go.Op.floatCmp op k x y:Sem Value):=by
 unfold Go.Op.floatCmp;exact cmA
open Go.Conv in
@[simp] theorem Ank (src:FloatKind)(bits:Nat)(dst:IntKind):Calm P (Go.Conv.floatToInt src bits dst:Sem Value):=by
 unfold Go.Conv.floatToInt;exact cmA
open Go.Conv in
@[simp] theorem Akf (src:FloatKind)(bits:Nat)(dst:FloatKind):Calm P (Go.Conv.floatToFloat src bits dst:Sem Value):=by
 unfold Go.Conv.floatToFloat;exact cmA
open Go.Conv in
@[simp] theorem Afv (src:FloatKind)(b:Nat)(a:Nat)(dst:FloatKind):Calm P (Go.Conv.complexToComplex src b a dst:Sem Value):=by
 unfold Go.Conv.complexToComplex;exact cmA
open Go.Conv in
@[simp] theorem Ajz (elem:TypeId)(s:ByteArray):Calm P (Go.Conv.stringToBytes elem s:Sem Value):=by
 unfold Go.Conv.stringToBytes;exact cmA
open Go.Conv in
@[simp] theorem Aj1 (x:Value):Calm P (Go.Conv.bytesToString x:Sem Value):=by
 unfold Go.Conv.bytesToString;exact cmA
open Go.Conv in
@[simp] theorem Ajy (elem:TypeId)(s:ByteArray):Calm P (Go.Conv.stringToRunes elem s:Sem Value):=by
 unfold Go.Conv.stringToRunes;exact cmA
open Go.Conv in
@[simp] theorem Aj0 (x:Value):Calm P (Go.Conv.runesToString x:Sem Value):=by
 unfold Go.Conv.runesToString;exact cmA
open Go.Conv in
@[simp] theorem Avt (a:Addr):Calm P (Go.Conv.seenAt a:Sem Addr):=by
 unfold Go.Conv.seenAt;exact cmA
open Go.Conv in
@[simp] theorem Ajx (src:TypeId)(dst:TypeId)(x:Value):Calm P (Go.Conv.unsafePointer src dst x:Sem Value):=by
 unfold Go.Conv.unsafePointer;exact cmA
open Go.Op.Complex in
@[simp] theorem Ams (op:BinOp)(k:FloatKind)(x:Nat)(y:Nat):Calm P (Go.Op.Complex.arith op k x y:Sem Nat):=by
 unfold Go.Op.Complex.arith;exact cmA
open Go.Op.Complex in
@[simp] theorem Ang (src:FloatKind)(x:Nat)(dst:FloatKind):Calm P (Go.Op.Complex.conv src x dst:Sem Nat):=by
 unfold Go.Op.Complex.conv;exact cmA
open Go.Op.Complex in
@[simp] theorem Ajq (a:Nat)(b:Nat)(c:Nat)(d:Nat):Calm P (Go.Op.Complex.product a b c d:Sem (Nat × Nat)):=by
 unfold Go.Op.Complex.product;exact cmA
open Go.Op.Complex in
@[simp] theorem Agp (scale:Nat)(a:Nat)(b:Nat)(c:Nat)(d:Nat):Calm P (Go.Op.Complex.corrected scale a b c d:Sem (Nat × Nat)):=by
 unfold Go.Op.Complex.corrected;exact cmA
open Go.Op.Complex in
@[simp] theorem Ah1 (a:Nat)(b:Nat)(c:Nat)(d:Nat):Calm P (Go.Op.Complex.quotient a b c d:Sem (Nat × Nat)):=by
 unfold Go.Op.Complex.quotient;exact cmA
open Go.Op in
@[simp] theorem Auv (op:BinOp)(k:FloatKind)(b:Nat)(c:Nat)(a:Nat)(d:Nat):Calm P (Go.Op.complexOp op k b c a d:Sem Value):=by
 unfold Go.Op.complexOp;exact cmA
open Go.Op in
@[simp] theorem Avh (op:BinOp)(x:ByteArray)(y:ByteArray):Calm P (Go.Op.stringOp op x y:Sem Value):=by
 unfold Go.Op.stringOp;exact cmA
open Go.Op in
@[simp] theorem Az9:∀(a:Nat) (b:TypeId) (d:Value) (c:Value),Calm P (Go.Op.equalIn a b d c:Sem Bool):=by
 intro a;induction a with
 | zero=>
  intros
  unfold Go.Op.equalIn;repeat' first
   | exact Ak
   | assumption
   | (simp;done)
   | refine Calm.bind ?_ (λ_=>?_)
   | refine G9 _ (λ_ _=>?_) _
   | refine G8 _ (λ_ _=>?_) _
   | refine G7 _ (λ_ _=>?_) _
   | refine G6 _ (λ_=>?_)
   | refine G5 _ (λ_=>?_)
   | dsimp only
   | refine Calm.map ?_
   | split
   | intro _
 | succ n ih=>
  intros
  unfold Go.Op.equalIn;exact cmE
open Go.Op in
@[simp] theorem A3h (t:TypeId)(x:Value)(y:Value):Calm P (Go.Op.equal t x y:Sem Bool):=by
 unfold Go.Op.equal;exact cmA
open Go.Op in
@[simp] theorem Auu:∀(a:Nat) (b:TypeId) (d:Value) (c:Value),Calm P (Go.Op.eqGuardIn a b d c:Sem Bool):=by
 intro a;induction a with
 | zero=>
  intros
  unfold Go.Op.eqGuardIn;repeat' first
   | exact Ak
   | assumption
   | (simp;done)
   | refine Calm.bind ?_ (λ_=>?_)
   | refine G9 _ (λ_ _=>?_) _
   | refine G8 _ (λ_ _=>?_) _
   | refine G7 _ (λ_ _=>?_) _
   | refine G6 _ (λ_=>?_)
   | refine G5 _ (λ_=>?_)
   | dsimp only
   | refine Calm.map ?_
   | split
   | intro _
 | succ n ih=>
  intros
  unfold Go.Op.eqGuardIn;exact cmE
open Go.Op in
@[simp] theorem Aut (a:Addr)(b:Addr):Calm P (Go.Op.twoPlaces a b:Sem (Nat × Nat)):=by
 unfold Go.Op.twoPlaces;exact cmA
open Go.Op in
@[simp] theorem A0a (k:IntKind)(a:Addr)(b:Addr):Calm P (Go.Op.addrSub k a b:Sem Value):=by
 unfold Go.Op.addrSub;exact cmA
open Go.Op in
@[simp] theorem A0c (op:BinOp)(a:Addr)(b:Addr):Calm P (Go.Op.addrCmp op a b:Sem Value):=by
 unfold Go.Op.addrCmp;exact cmA
open Go.Op in
@[simp] theorem A0b (k:IntKind)(a:Addr)(n:Int):Calm P (Go.Op.addrMod k a n:Sem Value):=by
 unfold Go.Op.addrMod;exact cmA
open Go.Op in
@[simp] theorem A3f (op:UnOp)(x:Value):Calm P (Go.Op.unary op x:Sem Value):=by
 unfold Go.Op.unary;exact cmA
end
end Go.Co
