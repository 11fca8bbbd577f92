import Derived.Test.YtifcnfeppdbjdaaGreatDoorA00
namespace Go.Co
def I3:Halt->Prop
 | .unsupported (.initOrder _)=>False
 | .blocked | .waiting | .unsupported _ | .stuck _=>True
 | _=>False
def m9 (d:Nat):Mark->Nat
 | .disable=>d+1
 | .enable=>d - 1
 | _=>d
def RG {α:Type}:Sem α->Prop
 | .halt h=>I3 h
 | _=>False
def C2 (P:Program){α:Type}(N:α->Prop):Nat->Sem α->Prop
 | d, .pure a=>d=0/\N a
 | d, .load _ _ k=>∀v,C2 P N d (k v)
 | d, .store _ _ _ k=>C2 P N d k
 | d, .new _ k=>∀r,C2 P N d (k r)
 | d, .shape _ k=>∀s,C2 P N d (k s)
 | d, .freeze _ _ k=>C2 P N d k
 | d, .frozen _ k=>∀b,C2 P N d (k b)
 | d, .getObj _ k=>∀o,C2 P N d (k o)
 | d, .setObj _ _ k=>C2 P N d k
 | d, .choose _ k=>∀n,C2 P N d (k n)
 | d, .sys _ k=>RG (k .wouldBlock)/\∀r,C2 P N d (k r)
 | d, .program k=>C2 P N d (k P)
 | d, .mark m k=>C2 P N (m9 d m) k
 | d, .halt h=>d=0\/I3 h
def Calm (P:Program){α:Type}(s:Sem α):Prop:=C2 P (λ_=>True) 0 s
section
variable {γ:Type}
variable {P : Program}{α β : Type}
theorem Axo {M:α->Prop}{N:β->Prop}{f:α->Sem β}(e:∀a,M a->C2 P N 0 (f a)):∀(s:Sem α) (d:Nat),C2 P M d s->C2 P N d (s.bind f):=by
 intro s;induction s with
 | pure a=>intro d h;obtain⟨rfl,h⟩:=h;exact e a h
 | load m a k b=>exact λd h v=>b v d (h v)
 | store m a v k b=>exact λd h=>b d h
 | new o k b=>exact λd h v=>b v d (h v)
 | shape r k b=>exact λd h v=>b v d (h v)
 | freeze a n k b=>exact λd h=>b d h
 | frozen a k b=>exact λd h v=>b v d (h v)
 | getObj r k b=>exact λd h v=>b v d (h v)
 | setObj r o k b=>exact λd h=>b d h
 | choose q k b=>exact λd h v=>b v d (h v)
 | sys c k b=>
  intro d h;refine⟨?_,λr=>b r d (h.2 r)⟩;have g:=h.1;show RG ((k .wouldBlock).bind f)
  revert g
  cases k .wouldBlock<;>simp only[RG,false_implies,Sem.bind]
  exact id
 | program k b=>exact λd h=>b P d h
 | mark m k b=>exact λd h=>b _ h
 | halt x=>exact λd h=>h
theorem Ei {N:β->Prop}{s:Sem α}{f:α->Sem β}(c:Calm P s)(b:∀a,C2 P N 0 (f a)):C2 P N 0 (s>>=f):=Axo (λa _=>b a) s 0 c
theorem Ii {N:α->Prop}{a:α}(h:N a):C2 P N 0 (pure a:Sem α):=⟨rfl,h⟩
@[simp] theorem Ad {a:α}:Calm P (pure a:Sem α):=⟨rfl,trivial⟩
@[simp] theorem A71 {a:Addr}{m:Mode}:Calm P (load a m):=λ_=>⟨rfl,trivial⟩
@[simp] theorem Av1 {a:Addr}{v:Value}{m:Mode}:Calm P (store a v m):=⟨rfl,trivial⟩
@[simp] theorem A6h {o:Obj}:Calm P (newObj o):=λ_=>⟨rfl,trivial⟩
@[simp] theorem A68 {r:Nat}:Calm P (shape r):=λ_=>⟨rfl,trivial⟩
@[simp] theorem A6l {a:Addr}{n:Nat}:Calm P (freeze a n):=⟨rfl,trivial⟩
@[simp] theorem A6k {a:Addr}:Calm P (frozen a):=λ_=>⟨rfl,trivial⟩
@[simp] theorem vA {r:Nat}:Calm P (getObj r):=λ_=>⟨rfl,trivial⟩
@[simp] theorem VU {r:Nat}{o:Obj}:Calm P (setObj r o):=⟨rfl,trivial⟩
@[simp] theorem Nc {q:Question}:Calm P (choose q):=λ_=>⟨rfl,trivial⟩
@[simp] theorem tI:Calm P program:=⟨rfl,trivial⟩
@[simp] theorem A6e:Calm P (mark .noRoom):=⟨rfl,trivial⟩
@[simp] theorem A6j {f:FuncId}:Calm P (mark (.extern f)):=⟨rfl,trivial⟩
@[simp] theorem Ec {s:String}:Calm P (stuck s:Sem α):=.inl rfl
@[simp] theorem Kv {u:Unsupported}:Calm P (unsupported u:Sem α):=.inl rfl
@[simp] theorem A4h {v:Value}:Calm P (goPanic v:Sem α):=.inl rfl
@[simp] theorem A67 {s:String}:Calm P (throw s:Sem α):=.inl rfl
theorem Calm.bind {s:Sem α}{f:α->Sem β}(c:Calm P s)(b:∀a,Calm P (f a)):Calm P (s>>=f):=Ei c b
theorem cmF {P:Program}{α:Type}{x:Sem α}(h:Calm P x:=by repeat' first | exact Ad | (simp;done) | refine Calm.bind ?_ (λ_=>?_) | split):Calm P x:=h
theorem Calm.map {s:Sem α}{f:α->β}(a:Calm P s):Calm P (f<$>s):=Ei a λ_=>⟨rfl,trivial⟩
theorem cmG {P:Program}{α:Type}{x:Sem α}(h:Calm P x:=by repeat' first | exact Ad | exact Or.inl rfl | assumption | (simp;done) | refine Calm.bind ?_ (λ_=>?_) | dsimp only | refine Calm.map ?_ | split | intro _):Calm P x:=h
theorem cmC {P:Program}{α:Type}{x:Sem α}(h:Calm P x:=by repeat' first | exact Ad | exact Or.inl rfl | assumption | (simp;done) | refine Calm.bind ?_ (λ_=>?_) | dsimp only | refine Calm.map ?_ | split | intro _):Calm P x:=h
theorem Ie (l:List γ){f:γ->β->Sem (ForInStep β)}(c:∀a b,Calm P (f a b)):∀b,Calm P (forIn l b f):=by
 induction l with
 | nil=>exact λb=>by rw[List.forIn_nil];exact Ad
 | cons a l e=>
  intro b;rw[List.forIn_cons];refine Calm.bind (c a b) λr=>?_
  cases r with
  | done b=>exact Ad
  | yield b=>exact e b
theorem Ic (l:Array γ){f:γ->β->Sem (ForInStep β)}(c:∀a b,Calm P (f a b))(b:β):Calm P (forIn l b f):=by
 rw[<-Array.forIn_toList];exact Ie _ c b
theorem Ib (r:Std.Legacy.Range){f:Nat->β->Sem (ForInStep β)}(c:∀a b,Calm P (f a b))(b:β):Calm P (forIn r b f):=by
 rw[Std.Legacy.Range.forIn_eq_forIn_range'];exact Ie _ c b
theorem tO (l:List γ):∀{f:(a:γ)->a∈l->β->Sem (ForInStep β)} (_:∀a h b,Calm P (f a h b)) (b:β),Calm P (forIn' l b f):=by
 induction l with
 | nil=>exact λ_ b=>by rw[List.forIn'_nil];exact Ad
 | cons a l e=>
  intro f c b;rw[List.forIn'_cons];refine Calm.bind (c _ _ b) λr=>?_
  cases r with
  | done b=>exact Ad
  | yield b=>exact e (λ_ _ _=>c _ _ _) b
theorem tM (r:Std.Legacy.Range){f:(i:Nat)->i∈r->β->Sem (ForInStep β)}(c:∀a h b,Calm P (f a h b))(b:β):Calm P (forIn' r b f):=by
 rw[Std.Legacy.Range.forIn'_eq_forIn'_range'];exact tO _ (λ_ _ _=>c _ _ _) b
theorem vB (l:List γ){f:β->γ->Sem β}(c:∀a b,Calm P (f a b)):∀b,Calm P (l.foldlM f b):=by
 induction l with
 | nil=>exact λb=>Ad
 | cons a l e=>exact λb=>by rw[List.foldlM_cons];exact Calm.bind (c b a) e
theorem H9 (l:List γ){f:γ->Sem β}(b:∀a,Calm P (f a)):Calm P (l.mapM f):=by
 induction l with
 | nil=>rw[List.mapM_nil];exact Ad
 | cons a l c=>rw[List.mapM_cons];exact Calm.bind (b a) λ_=>Calm.bind c λ_=>Ad
theorem Ia (l:Array γ){f:γ->Sem β}(b:∀a,Calm P (f a)):Calm P (l.mapM f):=by
 rw[Array.mapM_eq_mapM_toList];exact Calm.map (H9 _ b)
theorem cmE {P:Program}{α:Type}{x:Sem α}(h:Calm P x:=by repeat' first | exact Ad | assumption | (simp;done) | exact ih _ | exact ih _ _ | exact ih _ _ _ | exact ih _ _ _ _ | refine Calm.bind ?_ (λ_=>?_) | refine Ie _ (λ_ _=>?_) _ | refine Ic _ (λ_ _=>?_) _ | refine Ib _ (λ_ _=>?_) _ | refine Ia _ (λ_=>?_) | refine H9 _ (λ_=>?_) | dsimp only | refine Calm.map ?_ | split | intro _):Calm P x:=h
theorem cmD {P:Program}{α:Type}{x:Sem α}(h:Calm P x:=by repeat' first | exact Ad | assumption | (simp;done) | refine Calm.bind ?_ (λ_=>?_) | refine Ie _ (λ_ _=>?_) _ | refine Ic _ (λ_ _=>?_) _ | refine Ib _ (λ_ _=>?_) _ | refine Ia _ (λ_=>?_) | refine H9 _ (λ_=>?_) | dsimp only | refine Calm.map ?_ | split | intro _):Calm P x:=h
theorem BB {P:Program}{α:Type}{x:Sem α}(h:Calm P x:=by repeat' first | exact Ad | assumption | (simp;done) | refine Calm.bind ?_ (λ_=>?_) | refine Ie _ (λ_ _=>?_) _ | refine Ic _ (λ_ _=>?_) _ | refine Ib _ (λ_ _=>?_) _ | refine Ia _ (λ_=>?_) | refine H9 _ (λ_=>?_) | refine vB _ (λ_ _=>?_) _ | refine tM _ (λ_ _ _=>?_) _ | dsimp only | refine Calm.map ?_ | split | intro _):Calm P x:=h
theorem AZ {P:Program}{α:Type}{x:Sem α}(h:Calm P x:=by repeat' first | exact Ad | assumption | (simp;done) | refine Calm.bind ?_ (λ_=>?_) | refine Ie _ (λ_ _=>?_) _ | refine Ic _ (λ_ _=>?_) _ | refine Ib _ (λ_ _=>?_) _ | refine Ia _ (λ_=>?_) | refine H9 _ (λ_=>?_) | dsimp only | refine Calm.map ?_ | split | intro _):Calm P x:=h
end
section
variable {P : Program}
@[simp] theorem A4l (bytes):Calm P (askRoom bytes):=by
 unfold askRoom;exact AZ
@[simp] theorem A6a (r):Calm P (viewAt r):=by
 unfold viewAt;exact AZ
@[simp] theorem A3l (r):Calm P (numberAt r):=by
 unfold numberAt;exact AZ
@[simp] theorem A4k (r):Calm P (cellsIn r):=by
 unfold cellsIn;exact AZ
@[simp] theorem A3o (a lost):Calm P (asNumber a lost):=by
 unfold asNumber;exact AZ
@[simp] theorem Av5 (n):Calm P (behindNumber n):=by
 unfold behindNumber;exact AZ
@[simp] theorem A6d (a):Calm P (noView a):=by
 unfold noView;exact AZ
@[simp] theorem As2 (a):Calm P (markStringish a):=by
 unfold markStringish;exact AZ
@[simp] theorem A1m (a):Calm P (stringish a):=by
 unfold stringish;exact AZ
@[simp] theorem A3m (a b):Calm P (mayBeOne a b):=by
 unfold mayBeOne;exact AZ
@[simp] theorem A3k (a b):Calm P (sameAddr a b):=by
 unfold sameAddr;exact AZ
@[simp] theorem Awp (x0 x1):Calm P (samePointer x0 x1):=by
 unfold samePointer;exact AZ
@[simp] theorem qk (t):Calm P (typeInfo t):=by
 unfold typeInfo;exact AZ
@[simp] theorem pL (t):Calm P (underlying t):=by
 unfold underlying;exact AZ
@[simp] theorem A4i (name):Calm P (cutType name):=by
 unfold cutType;exact AZ
@[simp] theorem A4f (t):Calm P (typeStr t):=by
 unfold typeStr;exact AZ
@[simp] theorem TA (t):Calm P (zeroValue t):=by
 unfold zeroValue;exact AZ
@[simp] theorem A6b (t):Calm P (sizeOf t):=by
 unfold sizeOf;exact AZ
@[simp] theorem A69 (t):Calm P (isAgg t):=by
 unfold isAgg;exact AZ
@[simp] theorem As3:∀(b:Nat) (a:Addr) (i:Nat) (c:Array Value),Calm P (loadCellsFrom a i b c:Sem (Array Value)):=by
 intro b;induction b with
 | zero=>
  intros
  unfold loadCellsFrom;repeat' first
   | exact Ad
   | assumption
   | (simp;done)
   | refine Calm.bind ?_ (λ_=>?_)
   | refine Ie _ (λ_ _=>?_) _
   | refine Ic _ (λ_ _=>?_) _
   | refine Ib _ (λ_ _=>?_) _
   | refine Ia _ (λ_=>?_)
   | refine H9 _ (λ_=>?_)
   | dsimp only
   | refine Calm.map ?_
   | split
   | intro _
 | succ n ih=>
  intros
  unfold loadCellsFrom;exact cmE
@[simp] theorem A1n (a n):Calm P (loadCells a n):=by
 unfold loadCells;exact AZ
theorem pA (a:Addr):∀(b:List Value) (i:Nat),Calm P (storeCells a b i):=by
 intro b;induction b with
 | nil=>exact λ_=>Ad
 | cons v l c=>exact λi=>Calm.bind Av1 λ_=>c (i+1)
@[simp] theorem A0v (a:Addr)(vs:List Value)(i:Nat):Calm P (storeCells a vs i):=pA a vs i
@[simp] theorem tL (t a):Calm P (loadVar t a):=by
 unfold loadVar;exact AZ
@[simp] theorem A3j (t a v):Calm P (storeVar t a v):=by
 unfold storeVar;exact AZ
@[simp] theorem A6g (elem cells):Calm P (newRow elem cells):=by
 unfold newRow;exact AZ
@[simp] theorem A6f (t v):Calm P (newVar t v):=by
 unfold newVar;exact AZ
@[simp] theorem A6n (t):Calm P (elemOf t):=by
 unfold elemOf;exact AZ
@[simp] theorem A70 (t cs off):Calm P (part t cs off):=by
 unfold part;exact AZ
@[simp] theorem Awr {α:Type}(a:String):Calm P (panicString a:Sem α):=by
 unfold panicString;exact AZ
@[simp] theorem Qi {α:Type}(e:RuntimeError):Calm P (runtimePanic e:Sem α):=by
 unfold runtimePanic;exact AZ
@[simp] theorem Awu {α:Type}(k:IntKind)(x:Int)(y:Int)(code:BoundsCode):Calm P (boundsPanic k x y code:Sem α):=by
 unfold boundsPanic;exact AZ
@[simp] theorem A4m (x0):Calm P (asIntOf x0):=by
 unfold asIntOf;exact AZ
@[simp] theorem A7a (v):Calm P (asInt v):=by
 unfold asInt;exact AZ
@[simp] theorem A6p (x0):Calm P (asBool x0):=by
 unfold asBool;exact AZ
@[simp] theorem A3n (x0):Calm P (asString x0):=by
 unfold asString;exact AZ
@[simp] theorem A7b (x0):Calm P (asAgg x0):=by
 unfold asAgg;exact AZ
@[simp] theorem vD (x0):Calm P (asAddr x0):=by
 unfold asAddr;exact AZ
@[simp] theorem A6o (a):Calm P (byteOf a):=by
 unfold byteOf;exact AZ
@[simp] theorem A6c (base cells bytes):Calm P (partAt base cells bytes):=by
 unfold partAt;exact AZ
@[simp] theorem A0x (a f):Calm P (fieldPlace a f):=by
 unfold fieldPlace;exact AZ
@[simp] theorem Awo (a u n):Calm P (variablesAt a u n):=by
 unfold variablesAt;exact AZ
@[simp] theorem A1o:∀(b:Nat) (a:Addr) (acc:ByteArray),Calm P (loadBytes a acc b:Sem ByteArray):=by
 intro b;induction b with
 | zero=>
  intros
  unfold loadBytes;repeat' first
   | exact Ad
   | assumption
   | (simp;done)
   | refine Calm.bind ?_ (λ_=>?_)
   | refine Ie _ (λ_ _=>?_) _
   | refine Ic _ (λ_ _=>?_) _
   | refine Ib _ (λ_ _=>?_) _
   | refine Ia _ (λ_=>?_)
   | refine H9 _ (λ_=>?_)
   | dsimp only
   | refine Calm.map ?_
   | split
   | intro _
 | succ n ih=>
  intros
  unfold loadBytes;exact cmE
end
section
variable {P : Program}
@[simp] theorem A1q (op k x y):Calm P (Op.intDiv op k x y):=by
 unfold Op.intDiv;exact AZ
@[simp] theorem A3q (op k x _yk y):Calm P (Op.shift op k x _yk y):=by
 unfold Op.shift;exact AZ
@[simp] theorem A1r (op x y):Calm P (Op.intCmp op x y):=by
 unfold Op.intCmp;exact AZ
@[simp] theorem As4 (op k x y):Calm P (Op.floatArith op k x y):=by
 unfold Op.floatArith;exact AZ
@[simp] theorem Aww (op k x y):Calm P (Op.floatCmp op k x y):=by
 unfold Op.floatCmp;exact AZ
@[simp] theorem Ao2 (src bits dst):Calm P (Conv.floatToInt src bits dst):=by
 unfold Conv.floatToInt;exact AZ
@[simp] theorem Ama (src bits dst):Calm P (Conv.floatToFloat src bits dst):=by
 unfold Conv.floatToFloat;exact AZ
@[simp] theorem Ahf (src re im dst):Calm P (Conv.complexToComplex src re im dst):=by
 unfold Conv.complexToComplex;exact AZ
@[simp] theorem Alm (elem s):Calm P (Conv.stringToBytes elem s):=by
 unfold Conv.stringToBytes;exact AZ
@[simp] theorem Alo (x):Calm P (Conv.bytesToString x):=by
 unfold Conv.bytesToString;exact AZ
@[simp] theorem Alk (elem s):Calm P (Conv.stringToRunes elem s):=by
 unfold Conv.stringToRunes;exact AZ
@[simp] theorem Aln (x):Calm P (Conv.runesToString x):=by
 unfold Conv.runesToString;exact AZ
@[simp] theorem Aw7 (a):Calm P (Conv.seenAt a):=by
 unfold Conv.seenAt;exact AZ
@[simp] theorem Alj (src dst x):Calm P (Conv.unsafePointer src dst x):=by
 unfold Conv.unsafePointer;exact AZ
@[simp] theorem Aof (op k x y):Calm P (Op.Complex.arith op k x y):=by
 unfold Op.Complex.arith;exact AZ
@[simp] theorem Aoy (src x dst):Calm P (Op.Complex.conv src x dst):=by
 unfold Op.Complex.conv;exact AZ
@[simp] theorem Alc (a b c d):Calm P (Op.Complex.product a b c d):=by
 unfold Op.Complex.product;exact AZ
@[simp] theorem Ah5 (scale a b c d):Calm P (Op.Complex.corrected scale a b c d):=by
 unfold Op.Complex.corrected;exact AZ
@[simp] theorem Ajk (a b c d):Calm P (Op.Complex.quotient a b c d):=by
 unfold Op.Complex.quotient;exact AZ
@[simp] theorem Av8 (op k xr xi yr yi):Calm P (Op.complexOp op k xr xi yr yi):=by
 unfold Op.complexOp;exact AZ
@[simp] theorem Awv (op x y):Calm P (Op.stringOp op x y):=by
 unfold Op.stringOp;exact AZ
@[simp] theorem A0y:∀(a:Nat) (b:TypeId) (e:Value) (c:Value),Calm P (Op.equalIn a b e c:Sem Bool):=by
 intro a;induction a with
 | zero=>
  intros
  unfold Op.equalIn;repeat' first
   | exact Ad
   | assumption
   | (simp;done)
   | refine Calm.bind ?_ (λ_=>?_)
   | refine Ie _ (λ_ _=>?_) _
   | refine Ic _ (λ_ _=>?_) _
   | refine Ib _ (λ_ _=>?_) _
   | refine Ia _ (λ_=>?_)
   | refine H9 _ (λ_=>?_)
   | dsimp only
   | refine Calm.map ?_
   | split
   | intro _
 | succ n ih=>
  intros
  unfold Op.equalIn;exact cmE
@[simp] theorem A3r (t x y):Calm P (Op.equal t x y):=by
 unfold Op.equal;exact AZ
@[simp] theorem Av7:∀(a:Nat) (b:TypeId) (e:Value) (c:Value),Calm P (Op.eqGuardIn a b e c:Sem Bool):=by
 intro a;induction a with
 | zero=>
  intros
  unfold Op.eqGuardIn;repeat' first
   | exact Ad
   | assumption
   | (simp;done)
   | refine Calm.bind ?_ (λ_=>?_)
   | refine Ie _ (λ_ _=>?_) _
   | refine Ic _ (λ_ _=>?_) _
   | refine Ib _ (λ_ _=>?_) _
   | refine Ia _ (λ_=>?_)
   | refine H9 _ (λ_=>?_)
   | dsimp only
   | refine Calm.map ?_
   | split
   | intro _
 | succ n ih=>
  intros
  unfold Op.eqGuardIn;exact cmE
@[simp] theorem Av6 (a b):Calm P (Op.twoPlaces a b):=by
 unfold Op.twoPlaces;exact AZ
@[simp] theorem A0z (k a b):Calm P (Op.addrSub k a b):=by
 unfold Op.addrSub;exact AZ
@[simp] theorem A01 (op a b):Calm P (Op.addrCmp op a b):=by
 unfold Op.addrCmp;exact AZ
@[simp] theorem A00 (k a n):Calm P (Op.addrMod k a n):=by
 unfold Op.addrMod;exact AZ
@[simp] theorem A3p (op x):Calm P (Op.unary op x):=by
 unfold Op.unary;exact AZ
end
section
variable {P : Program}
@[simp] theorem Aw6 (elem heap old):Calm P (Instr.alloc elem heap old):=by
 unfold Instr.alloc;exact AZ
@[simp] theorem Aoh (x y code):Calm P (Instr.sliceBound x y code):=by
 unfold Instr.sliceBound;exact AZ
@[simp] theorem Al8 (isSlice len cap low high max):Calm P (Instr.sliceBounds isSlice len cap low high max):=by
 unfold Instr.sliceBounds;exact AZ
@[simp] theorem Awy (xType x low high max):Calm P (Instr.slice xType x low high max):=by
 unfold Instr.slice;exact AZ
@[simp] theorem Aq9 (x0):Calm P (Instr.sureAddr x0):=by
 unfold Instr.sureAddr;exact AZ
@[simp] theorem Awa (t addr):Calm P (Instr.loadAt t addr):=by
 unfold Instr.loadAt;exact AZ
@[simp] theorem As5 (t addr val):Calm P (Instr.storeAt t addr val):=by
 unfold Instr.storeAt;exact AZ
@[simp] theorem Ata (s addr field):Calm P (Instr.fieldAt s addr field):=by
 unfold Instr.fieldAt;exact AZ
@[simp] theorem As8 (t x index):Calm P (Instr.indexAt t x index):=by
 unfold Instr.indexAt;exact AZ
@[simp] theorem As6 (t x low high max):Calm P (Instr.sliceAt t x low high max):=by
 unfold Instr.sliceAt;exact AZ
@[simp] theorem Atd (arr x):Calm P (Instr.arrayAt arr x):=by
 unfold Instr.arrayAt;exact AZ
@[simp] theorem A1s (elem v):Calm P (Instr.box elem v):=by
 unfold Instr.box;exact AZ
@[simp] theorem Aw5 (t parts):Calm P (Instr.build t parts):=by
 unfold Instr.build;exact AZ
@[simp] theorem Aok (t len parts):Calm P (Instr.buildSlice t len parts):=by
 unfold Instr.buildSlice;exact AZ
@[simp] theorem Awx (g):Calm P (Instr.waits g):=by
 unfold Instr.waits;exact AZ
@[simp] theorem Awz (g):Calm P (Instr.ready g):=by
 unfold Instr.ready;exact AZ
@[simp] theorem Ajl (xType x):Calm P (Instr.makeInterface xType x):=by
 unfold Instr.makeInterface;exact AZ
@[simp] theorem As7 (t reserve):Calm P (Instr.makeMap t reserve):=by
 unfold Instr.makeMap;exact AZ
@[simp] theorem Arb (t size):Calm P (Instr.makeChan t size):=by
 unfold Instr.makeChan;exact AZ
@[simp] theorem Ao0 (t len cap):Calm P (Instr.makeSlice t len cap):=by
 unfold Instr.makeSlice;exact AZ
@[simp] theorem Aw3 (xType x field):Calm P (Instr.field xType x field):=by
 unfold Instr.field;exact AZ
@[simp] theorem Aw2 (xType x index):Calm P (Instr.index xType x index):=by
 unfold Instr.index;exact AZ
@[simp] theorem Ard:∀(a:Nat) (empty:Bool) (b:TypeId) (c:Value),Calm P (Instr.checkKey empty a b c:Sem Unit):=by
 intro a;induction a with
 | zero=>
  intros
  unfold Instr.checkKey;repeat' first
   | exact Ad
   | assumption
   | (simp;done)
   | refine Calm.bind ?_ (λ_=>?_)
   | refine Ie _ (λ_ _=>?_) _
   | refine Ic _ (λ_ _=>?_) _
   | refine Ib _ (λ_ _=>?_) _
   | refine Ia _ (λ_=>?_)
   | refine H9 _ (λ_=>?_)
   | dsimp only
   | refine Calm.map ?_
   | split
   | intro _
 | succ n ih=>
  intros
  unfold Instr.checkKey;exact cmE
@[simp] theorem Aoi (keyType:TypeId)(k:Value):∀(a:List MapEntry) (i:Nat),Calm P (Instr.findAsking keyType k a i):=by
 intro a;induction a with
 | nil=>exact λ_=>Ad
 | cons e a c=>
  intro i;refine Calm.bind AU λb=>?_
  cases b
  ·exact c _
  ·exact Ad
@[simp] theorem As9 (keyType k es):Calm P (Instr.findKey keyType k es):=by
 unfold Instr.findKey;exact AZ
@[simp] theorem Av9 (xType x index commaOk):Calm P (Instr.lookup xType x index commaOk):=by
 unfold Instr.lookup;exact AZ
@[simp] theorem Ale (old new):Calm P (Instr.keyThatStays old new):=by
 unfold Instr.keyThatStays;exact AZ
@[simp] theorem Aoz (mapType map key value):Calm P (Instr.mapUpdate mapType map key value):=by
 unfold Instr.mapUpdate;exact AZ
@[simp] theorem Ara (mapType map key):Calm P (Instr.mapEntry mapType map key):=by
 unfold Instr.mapEntry;exact AZ
@[simp] theorem Aoj (_mapType map stamp value):Calm P (Instr.entryStore _mapType map stamp value):=by
 unfold Instr.entryStore;exact AZ
@[simp] theorem Aw0 (xType x):Calm P (Instr.range xType x):=by
 unfold Instr.range;exact AZ
@[simp] theorem A02 (iter isString _type):Calm P (Instr.next iter isString _type):=by
 unfold Instr.next;exact AZ
@[simp] theorem Aw4 (iter):Calm P (Instr.entry iter):=by
 unfold Instr.entry;exact AZ
theorem TG (argTypes t a b):Calm P (Builtin.ssaWrapNilChk_ argTypes t #[.pointer none, .string a, .string b]):=by
 refine Calm.bind (s:=choose (Question.extern "ssa:wrapnilchk.dereferenced" 2)) AU (λn=>?_);repeat' first
  | exact Ad
  | assumption
  | (simp;done)
  | refine Calm.bind ?_ (λ_=>?_)
  | dsimp only
  | refine Calm.map ?_
  | split
  | intro _
@[simp] theorem Ahg (argTypes t args):Calm P (Builtin.ssaWrapNilChk_ argTypes t args):=by
 rcases args with⟨_ | ⟨e,_ | ⟨c,_ | ⟨b,_ | ⟨f,l⟩⟩⟩⟩⟩
 case cons.cons.cons.nil=>
  cases c<;>first
   | exact Ec
   | (cases b<;>first
    | exact Ec
    | (cases e<;>first
     | exact Ec
     | (rename_i o _ _;cases o<;>first | exact Ad (a:=Value.pointer (some _)) | exact TG _ _ _ _)
     | (rename_i o;cases o<;>first | exact Ad (a:=Value.pointer (some _)) | exact TG _ _ _ _)))
 all_goals exact Ec
@[simp] theorem A1p (t x0):Calm P (Place.get t x0):=by
 unfold Place.get;exact AZ
@[simp] theorem A6m:∀(a:List FieldStep) (b:TypeId) (c:Place),Calm P (follow a b c:Sem (TypeId × Place)):=by
 intro a;induction a with
 | nil=>
  intros
  unfold follow;repeat' first
   | exact Ad
   | assumption
   | (simp;done)
   | refine Calm.bind ?_ (λ_=>?_)
   | refine Ie _ (λ_ _=>?_) _
   | refine Ic _ (λ_ _=>?_) _
   | refine Ib _ (λ_ _=>?_) _
   | refine Ia _ (λ_=>?_)
   | refine H9 _ (λ_=>?_)
   | dsimp only
   | refine Calm.map ?_
   | split
   | intro _
 | cons y l ih=>
  intros
  unfold follow;exact cmE
@[simp] theorem A0w (xt x pointerReceiver wrapper):Calm P (receiverAt xt x pointerReceiver wrapper):=by
 unfold receiverAt;exact AZ
@[simp] theorem Awq (t v path pointerReceiver):Calm P (receiverVia t v path pointerReceiver):=by
 unfold receiverVia;exact AZ
@[simp] theorem A6i:∀(a:Nat) (b:TypeId) (e:Value) (c:String),Calm P (method a b e c:Sem (FuncId × Value)):=by
 intro a;induction a with
 | zero=>
  intros
  unfold method;repeat' first
   | exact Ad
   | assumption
   | (simp;done)
   | refine Calm.bind ?_ (λ_=>?_)
   | refine Ie _ (λ_ _=>?_) _
   | refine Ic _ (λ_ _=>?_) _
   | refine Ib _ (λ_ _=>?_) _
   | refine Ia _ (λ_=>?_)
   | refine H9 _ (λ_=>?_)
   | dsimp only
   | refine Calm.map ?_
   | split
   | intro _
 | succ n ih=>
  intros
  unfold method;exact cmE
@[simp] theorem Awt:∀(a:List FieldStep) (b:TypeId) (c:Option Value),Calm P (followBlind a b c:Sem (Except (Option Bool) (TypeId × Option Value))):=by
 intro a;induction a with
 | nil=>
  intros
  unfold followBlind;repeat' first
   | exact Ad
   | assumption
   | (simp;done)
   | refine Calm.bind ?_ (λ_=>?_)
   | refine Ie _ (λ_ _=>?_) _
   | refine Ic _ (λ_ _=>?_) _
   | refine Ib _ (λ_ _=>?_) _
   | refine Ia _ (λ_=>?_)
   | refine H9 _ (λ_=>?_)
   | dsimp only
   | refine Calm.map ?_
   | split
   | intro _
 | cons y l ih=>
  intros
  unfold followBlind;exact cmE
@[simp] theorem ri:∀(a:Nat) (b:TypeId) (e:Value) (c:String),Calm P (nilAhead a b e c:Sem (Option Bool)):=by
 intro a;induction a with
 | zero=>
  intros
  unfold nilAhead;repeat' first
   | exact Ad
   | assumption
   | (simp;done)
   | refine Calm.bind ?_ (λ_=>?_)
   | refine Ie _ (λ_ _=>?_) _
   | refine Ic _ (λ_ _=>?_) _
   | refine Ib _ (λ_ _=>?_) _
   | refine Ia _ (λ_=>?_)
   | refine H9 _ (λ_=>?_)
   | dsimp only
   | refine Calm.map ?_
   | split
   | intro _
 | succ n ih=>
  intros
  unfold nilAhead;exact cmE
@[simp] theorem Aog (x xType asserted commaOk):Calm P (Instr.typeAssert x xType asserted commaOk):=by
 unfold Instr.typeAssert;exact AZ
@[simp] theorem Atb (tuple index):Calm P (Instr.extract tuple index):=by
 unfold Instr.extract;exact AZ
end
section
variable {P : Program}
@[simp] theorem Alp (a:Addr)(cells:Nat):Calm P (Go.Builtin.holdsCells a cells:Sem Bool):=by
  unfold Go.Builtin.holdsCells;repeat' first
    | exact Ad
    | (simp;done)
    | refine Calm.bind ?_ (λ_=>?_)
    | split
@[simp] theorem Aom (size a n:Nat)(base:Option Addr)(x:Value):Calm P (Go.Builtin.mayShare size a n base x):=by
  unfold Go.Builtin.mayShare;repeat' first
    | exact Ad
    | (simp;done)
    | refine Calm.bind ?_ (λ_=>?_)
    | dsimp only
    | refine Calm.map ?_
    | split
@[simp] theorem Ate (x:Value):Calm P (Go.Builtin.lenOf x):=by
  unfold Go.Builtin.lenOf;split<;>simp
@[simp] theorem Alq (size n:Nat)(x:Value):Calm P (Go.Builtin.firstCells size n x):=by
  unfold Go.Builtin.firstCells;split<;>simp
set_option maxRecDepth 10000 in
set_option maxHeartbeats 4000000 in
@[simp] theorem Arh (argTypes:Array TypeId)(_type:TypeId)(args:Array Value) :Calm P (Builtin.append_ argTypes _type args):=by
  unfold Builtin.append_;split
  · refine Calm.bind AU λd=>?_
    split
    · split
      · refine Calm.bind AU λsize=>?_
        dsimp only;have two:∀z:Bool,Calm P (pure z:Sem Bool):=λ_=>Ad
        split
        · refine Calm.bind AU λu=>?_
          split<;>
          (refine Calm.bind (two _) λz=>?_
           cases z<;>simp only[DU,C7,Bool.not_false,if_true,Ks,false_or,true_or,E0]<;>
           repeat' first
             | exact Ad
             | with_reducible refine Calm.bind ?_ (λ_=>?_)
             | with_reducible refine Calm.map ?_
             | split
             | (simp;done))
        · refine Calm.bind (two _) λz=>?_
          cases z<;>simp only[DU,C7,Bool.not_false,if_true,Ks,false_or,true_or,E0]<;>
          repeat' first
            | exact Ad
            | with_reducible refine Calm.bind ?_ (λ_=>?_)
            | with_reducible refine Calm.map ?_
            | split
            | (simp;done)
      · simp
    · simp
  · simp
@[simp] theorem Atf (a:Array TypeId)(t:TypeId)(args:Array Value):Calm P (Builtin.close_ a t args):=by
  rcases args with⟨_ | ⟨b,_ | ⟨e,l⟩⟩⟩
  · exact Ec
  · cases b<;>first
      | exact Ec
      | (rename_i o
         cases o
         · exact Qi (.plain "close of nil channel")
         · refine Calm.bind (s:=getObj _) vA λo=>?_
           cases o<;>first
             | exact Ec
             | (rename_i c _ _ _;cases c
                · exact Calm.bind (s:=setObj _ _) VU λ_=>Ad
                · exact Calm.bind (s:=runtimePanic _) (Qi _) λ_=>Calm.bind (s:=setObj _ _) VU λ_=>Ad))
  · exact Ec
@[simp] theorem Ao3 (a:Array TypeId)(t:TypeId)(args:Array Value):Calm P (Builtin.complex_ a t args):=by
  rcases args with⟨_ | ⟨c,_ | ⟨b,_ | ⟨e,l⟩⟩⟩⟩
  case cons.cons.nil=>
    cases c<;>cases b<;>first
      | exact Ec
      | (show Calm P (if _=_ then pure _ else stuck _)
         split<;>simp)
  all_goals exact Ec
@[simp] theorem Awe (a:Array TypeId)(t:TypeId)(args:Array Value):Calm P (Builtin.imag_ a t args):=by
  rcases args with⟨_ | ⟨b,_ | ⟨c,l⟩⟩⟩
  case cons.nil=>
    cases b<;>first
      | exact Ec
      | exact Ad
  all_goals exact Ec
@[simp] theorem Awb (a:Array TypeId)(t:TypeId)(args:Array Value):Calm P (Builtin.real_ a t args):=by
  rcases args with⟨_ | ⟨b,_ | ⟨c,l⟩⟩⟩
  case cons.nil=>
    cases b<;>first
      | exact Ec
      | exact Ad
  all_goals exact Ec
theorem z7 {p:Prop}(h:p:=by
 cases y0<;>first
   | exact Ec
   | (refine Calm.bind (s:=asInt y1) AU λn=>?_
      repeat' first
        | exact Ad
        | (simp;done)
        | refine Calm.bind ?_ (λ_=>?_)
        | split)):p:=h
@[simp] theorem Amb (a:Array TypeId)(t:TypeId)(args:Array Value):Calm P (Builtin.unsafeAdd_ a t args):=by
  rcases args with⟨_ | ⟨y0,_ | ⟨y1,_ | ⟨b,l⟩⟩⟩⟩
  case cons.cons.nil=>exact z7
  all_goals exact Ec
@[simp] theorem Ajo (a:Array TypeId)(t:TypeId)(args:Array Value):Calm P (Builtin.unsafeSlice_ a t args):=by
  rcases args with⟨_ | ⟨y0,_ | ⟨y1,_ | ⟨b,l⟩⟩⟩⟩
  case cons.cons.nil=>exact z7
  all_goals exact Ec
@[simp] theorem Aes (a:Array TypeId)(t:TypeId)(args:Array Value):Calm P (Builtin.unsafeSliceData_ a t args):=by
  rcases args with⟨_ | ⟨b,_ | ⟨e,l⟩⟩⟩
  case cons.nil=>
    cases b<;>first
      | exact Ec
      | (rename_i o n c
         cases o
         · exact Ad
         · rename_i ad
           show Calm P (if _ then pure _ else _)
           repeat' first
             | exact Ad
             | (simp;done)
             | refine Calm.bind ?_ (λ_=>?_)
             | split)
  all_goals exact Ec
@[simp] theorem Ah7 (a:Array TypeId)(t:TypeId)(args:Array Value):Calm P (Builtin.unsafeString_ a t args):=by
  rcases args with⟨_ | ⟨y0,_ | ⟨y1,_ | ⟨b,l⟩⟩⟩⟩
  case cons.cons.nil=>exact z7
  all_goals exact Ec
@[simp] theorem Aei (a:Array TypeId)(t:TypeId)(args:Array Value):Calm P (Builtin.unsafeStringData_ a t args):=by
  rcases args with⟨_ | ⟨b,_ | ⟨c,l⟩⟩⟩
  case cons.nil=>
    cases b<;>first
      | exact Ec
      | (rename_i o
         show Calm P (if _ then _ else _)
         repeat' first
             | exact Ad
             | (simp;done)
             | refine Calm.bind ?_ (λ_=>?_)
             | split)
  all_goals exact Ec
end
section
variable {P : Program}
@[simp] theorem Axb (argTypes _type args):Calm P (Builtin.cap_ argTypes _type args):=by
 unfold Builtin.cap_;exact BB
@[simp] theorem Atg (argTypes _type args):Calm P (Builtin.clear_ argTypes _type args):=by
 unfold Builtin.clear_;exact BB
@[simp] theorem Awf (argTypes _type args):Calm P (Builtin.copy_ argTypes _type args):=by
 unfold Builtin.copy_;exact BB
@[simp] theorem Arf (argTypes _type args):Calm P (Builtin.delete_ argTypes _type args):=by
 unfold Builtin.delete_;exact BB
@[simp] theorem Axa (argTypes _type args):Calm P (Builtin.len_ argTypes _type args):=by
 unfold Builtin.len_;exact BB
@[simp] theorem Awd (x0 x1):Calm P (Builtin.max2 x0 x1):=by
 unfold Builtin.max2;exact BB
@[simp] theorem Aw9 (_argTypes _type args):Calm P (Builtin.max_ _argTypes _type args):=by
 unfold Builtin.max_;exact BB
@[simp] theorem Awc (x0 x1):Calm P (Builtin.min2 x0 x1):=by
 unfold Builtin.min2;exact BB
@[simp] theorem Aw8 (_argTypes _type args):Calm P (Builtin.min_ _argTypes _type args):=by
 unfold Builtin.min_;exact BB
@[simp] theorem Aol (t v):Calm P (Builtin.printOne t v):=by
 unfold Builtin.printOne;exact BB
@[simp] theorem oa (ln consts argTypes args):Calm P (Builtin.pieces ln consts argTypes args):=by
 unfold Builtin.pieces;exact BB
end
def Xy:Next->Prop
 | .value _ | .skip | .enter .. | .round .. | .defer _ | .recover | .spawn _ | .comm .. | .coroswitch ..=>True
 | .row r _=>r= "runtime.print$piece"
 | _=>False
section
variable {d:Nat}
variable {P : Program}{α β : Type}
theorem UR {N:β->Prop}{f:Unit->Sem β}(h:C2 P N (d+1) (f ())):C2 P N d (mark .disable>>=f):=h
theorem WN {N:β->Prop}{f:Unit->Sem β}(h:C2 P N d (f ())):C2 P N (d+1) (mark .enable>>=f):=h
theorem WL {N:β->Prop}{f:Unit->Sem β}{a:Addr}{v:Value}{m:Mode}(h:C2 P N d (f ())):C2 P N d (store a v m>>=f):=h
theorem Ox {N:β->Prop}{f:Program->Sem β}(h:C2 P N d (f P)):C2 P N d (program>>=f):=h
theorem XU {N:β->Prop}{f:Bool->Sem β}(h:∀b,C2 P N d (f b)):C2 P N d (Extern.PrintPieces.held>>=f):=by
 intro v;cases v<;>first | exact h _ | exact Or.inr trivial
theorem uE {N:β->Prop}{a:Nat}{b:ByteArray}{f:Unit->Sem β}(h:C2 P N 0 (f ())):C2 P N 0 (writeFd a b>>=f):=by
 refine⟨trivial,λr=>?_⟩;cases r<;>first | exact h | exact .inl rfl
theorem OX (a b:Array TypeId)(args:Array Value):C2 P Xy 0 (Extern.PrintPieces.piece a b args):=by
 unfold Extern.PrintPieces.piece;dsimp only;repeat' first
  | exact Ii trivial
  | exact Ii rfl
  | refine uE ?_
  | refine UR ?_
  | refine WN ?_
  | refine XU (λ_=>?_)
  | refine Ox ?_
  | refine WL ?_
  | exact .inl rfl
  | exact .inr trivial
  | split
open Go.Instr in
@[simp] theorem oc (l:Nat):Calm P (Go.Instr.getLoop l:Sem Loop):=by
 unfold Go.Instr.getLoop;exact BB
open Go.Instr in
@[simp] theorem Ao1 (fn:FuncId)(tmps:Array Value)(a:Array Tmp)(assign:Code)(body:Code)(b:Option Nat):Calm P (Go.Instr.enterLoop fn tmps a assign body b:Sem (Nat × List Deferred)):=by
 unfold Go.Instr.enterLoop;exact BB
open Go.Instr in
@[simp] theorem Rl (l:Nat):Calm P (Go.Instr.beginRound l:Sem Unit):=by
 unfold Go.Instr.beginRound;exact BB
open Go.Instr in
@[simp] theorem Arc (l:Nat)(jump:Option Code):Calm P (Go.Instr.endRound l jump:Sem Value):=by
 unfold Go.Instr.endRound;exact BB
open Go.Instr in
@[simp] theorem Atc (l:Nat):Calm P (Go.Instr.endLoop l:Sem (Option Code)):=by
 unfold Go.Instr.endLoop;exact BB
open Go.Instr in
@[simp] theorem Alf (l:Nat)(d:Deferred):Calm P (Go.Instr.deferInRound l d:Sem Unit):=by
 unfold Go.Instr.deferInRound;exact BB
open Go.Instr in
@[simp] theorem Ald (block:Nat):Calm P (Go.Instr.takeDeferred block:Sem (List Deferred)):=by
 unfold Go.Instr.takeDeferred;exact BB
theorem Axn (l:Nat)(args:Array Value):C2 P Xy 0 (Instr.yield l args):=by
 unfold Instr.yield;repeat' first
  | exact Ii trivial
  | refine Ei (by first | exact oc _ | exact Ec) (λ_=>?_)
  | split
theorem rT:Calm P Instr.panicnil:=by
 unfold Instr.panicnil;refine⟨trivial,λr=>?_⟩;cases r<;>first | exact .inl rfl | exact⟨rfl,trivial⟩
@[simp] theorem Aw1 (x:Value):Calm P (Instr.panic x):=by
 unfold Instr.panic;split
 ·simp
 ·refine Calm.bind rT λ_=>?_
  split<;>simp
 ·simp
theorem LK {s:Sem Value}(h:Calm P s):C2 P Xy 0 (do pure (.value (<-s))):=Ei h λ_=>⟨rfl,trivial⟩
theorem fm {s:Sem Unit}(h:Calm P s):C2 P Xy 0 (do s;pure .skip):=Ei h λ_=>⟨rfl,trivial⟩
theorem pC (c:Bool)(b:Array Bool)(a:Array TypeId)(args:Array Value):C2 P Xy 0 (Builtin.printMarked c b a args):=by
 unfold Builtin.printMarked;refine Ei (by exact oa _ _ _ _) λe=>?_
 split
 ·exact Ii trivial
 ·exact OX _ _ _
theorem uG (b:Builtin)(a:Array TypeId)(t:TypeId)(cs:Array Bool)(args:Array Value):C2 P Xy 0 (builtin b a t cs args):=by
 unfold builtin;cases b<;>first
  | exact LK AU
  | exact pC _ _ _ _
  | exact Ii trivial
  | exact .inl rfl
  | exact Ei (qk _) λ_=>Ii trivial
structure OkP (P:Program):Prop where
 name:∀(f:Nat) (fn:Func),P.funcs[f]?=some fn->(fn.name== "runtime.NumGoroutine")=false
 next:∀(f:Nat) (fn:Func),P.funcs[f]?=some fn->fn.body.isNone=true->Extern.findNext fn=none
 calm:∀(f:Nat) (fn:Func) (e:Array Value->Sem Value),P.funcs[f]?=some fn->fn.body.isNone=true->Extern.find fn=some e->∀args,Calm P (e args)
theorem Rz {N:α->Prop}(e:RuntimeError):C2 P N 0 (runtimePanic e:Sem α):=by
 unfold runtimePanic;refine Ox ?_;dsimp only;split<;>first | exact .inl rfl | (refine Ei AU λ_=>?_;first | exact .inl rfl | (refine Ei AU λ_=>?_;exact .inl rfl))
theorem X8 (c:OkP P)(f:FuncId)(args:Array Value):C2 P Xy 0 (callFunc f args):=by
 unfold callFunc;refine Ox ?_;split
 ·exact .inl rfl
 ·rename_i b g
  rw[c.name f b g];by_cases a:b.body.isNone=true
  ·rw[if_neg AU,if_pos a]
   refine Ei AU λ_=>?_
   rw[c.next f b g a];simp only[];split
   ·rename_i e i
    exact LK (c.calm f b e g a i args)
   ·split
    ·exact Ii trivial
    ·exact .inl rfl
  ·rw[if_neg AU,if_neg a]
   exact Ii trivial
theorem Zv (a:OkP P)(recv:Value)(name:String)(args:Array Value):C2 P Xy 0 (callMethod recv name args):=by
 unfold callMethod;split
 ·refine Ox ?_
  refine Ei AU λx=>?_
  exact X8 a _ _
 ·exact Rz _
 ·exact .inl rfl
theorem Nk (a:OkP P)(t:Target)(args:Array Value):C2 P Xy 0 (invoke t args):=by
 unfold invoke;split
 ·exact Rz _
 ·exact uG _ _ _ _ _
 ·exact X8 a _ _
 ·split
  ·exact Zv a _ _ _
  ·exact .inl rfl
 ·split
  ·refine Ei AU λu=>?_
   exact Zv a _ _ _
  ·exact .inl rfl
 ·split
  ·refine Ei AU λu=>?_
   exact X8 a _ _
  ·exact .inl rfl
 ·exact Axn _ _
 ·exact .inl rfl
 ·exact Ii trivial
@[simp] theorem A4g (f:Value)(args:Array Value):Calm P (Deferred.ofValue f args):=by
 unfold Deferred.ofValue;split<;>simp
@[simp] theorem Yo (a:Operand->Value)(c:Call)(t:TypeId):Calm P (resolve a c t):=by
 unfold resolve;dsimp only;split<;>simp
@[simp] theorem Aws (t:TypeId)(x y:Value):Calm P (movedNumber t x y):=by
 unfold movedNumber;exact cmF
@[simp] theorem Av3 (t:TypeId)(x y:Value):Calm P (movedPointer t x y):=by
 unfold movedPointer;exact cmF
@[simp] theorem tP (op:BinOp)(t:TypeId)(x y:Operand)(a b:Value):Calm P (eqGuard op t x y a b):=by
 unfold eqGuard;exact cmF
@[simp] theorem Av4 (op:BinOp)(t:TypeId)(x y:Value):Calm P (binOp op t x y):=by
 unfold binOp;exact cmF
@[simp] theorem A4j (src dst:TypeId)(x:Value):Calm P (convert src dst x):=by
 unfold convert;exact cmF
theorem WM (e:OkP P)(f:Operand->Value)(o:Oper):C2 P Xy 0 (execOp f o):=by
 unfold execOp;dsimp only;cases o.op
 case nilCheck x=>
  dsimp only;repeat' first
   | exact Ii trivial
   | exact Rz _
   | refine Ei (ri _ _ _ _) (λ_=>?_)
   | with_reducible refine Ox ?_
   | refine Ei Kv (λ_=>?_)
   | split
 case binOp op t x y g=>exact LK (Calm.bind (tP _ _ _ _ _ _) λ_=>Av4 _ _ _ _)
 case recv t c k=>
  refine Ei (pL _) λd=>?_
  split
  ·exact Ei (TA _) λ_=>Ii trivial
  ·exact .inl rfl
 case select i b=>
  exact Ei (Ia _ λ_=>Calm.bind (TA _) λ_=>Ad) λ_=>Ii trivial
 case call c=>exact Ei (Yo _ _ _) λ_=>Nk e _ _
 case go c=>exact Ei (Yo _ _ _) λ_=>Ii trivial
 case defer c=>exact Ei (Yo _ _ _) λ_=>Ii trivial
 case pick a b c=>exact Ei AU λ_=>Ii trivial
 all_goals first
  | exact Ii trivial
  | exact LK AU
  | exact fm AU
end
