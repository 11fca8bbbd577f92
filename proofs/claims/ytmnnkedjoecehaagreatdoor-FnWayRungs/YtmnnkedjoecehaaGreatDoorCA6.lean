import Derived.Test.YtmnnkedjoecehaaGreatDoorA00
set_option linter.defProp false
set_option maxRecDepth 10000
set_option maxHeartbeats 4000000
namespace Go.Co
def JG:Halt->Prop
 | .unsupported (.initOrder _)=>False
 | .blocked | .waiting | .unsupported _ | .stuck _=>True
 | _=>False
def nF (d:Nat):Mark->Nat
 | .disable=>d+1
 | .enable=>d - 1
 | _=>d
def RP {α:Type}:Sem α->Prop
 | .halt h=>JG h
 | _=>False
def C3 (P:Program){α:Type}(N:α->Prop):Nat->Sem α->Prop
 | d, .pure a=>d=0/\N a
 | d, .load _ _ k=>∀v,C3 P N d (k v)
 | d, .store _ _ _ k=>C3 P N d k
 | d, .new _ k=>∀r,C3 P N d (k r)
 | d, .shape _ k=>∀s,C3 P N d (k s)
 | d, .freeze _ _ k=>C3 P N d k
 | d, .frozen _ k=>∀b,C3 P N d (k b)
 | d, .getObj _ k=>∀o,C3 P N d (k o)
 | d, .setObj _ _ k=>C3 P N d k
 | d, .choose _ k=>∀n,C3 P N d (k n)
 | d, .sys _ k=>RP (k .wouldBlock)/\∀r,C3 P N d (k r)
 | d, .program k=>C3 P N d (k P)
 | d, .mark m k=>C3 P N (nF d m) k
 | d, .halt h=>d=0\/JG h
def Calm (P:Program){α:Type}(s:Sem α):Prop:=C3 P (λ_=>True) 0 s
section
variable {γ:Type}
variable {P:Program}{α β:Type}
theorem Ax2 {M:α->Prop}{N:β->Prop}{f:α->Sem β}(g:∀a,M a->C3 P N 0 (f a)):∀(s:Sem α) (d:Nat),C3 P M d s->C3 P N d (s.bind f):=by
 intro s;induction s with
 | pure a=>intro d h;obtain⟨rfl,h⟩:=h;exact g a h
 | load m a k b=>exact λd h v=>b v d (h v)
 | store m a v k b=>exact λd h=>b d h
 | new o k b=>exact λd h v=>b v d (h v)
 | shape r k b=>exact λd h v=>b v d (h v)
 | freeze a n k b=>exact λd h=>b d h
 | frozen a k b=>exact λd h v=>b v d (h v)
 | getObj r k b=>exact λd h v=>b v d (h v)
 | setObj r o k b=>exact λd h=>b d h
 | choose q k b=>exact λd h v=>b v d (h v)
 | sys c k b=>
  intro d h;refine⟨?_,λr=>b r d (h.2 r)⟩;have e:=h.1;show RP ((k .wouldBlock).bind f)
  revert e
  cases k .wouldBlock<;>simp only[RP,false_implies,Sem.bind]
  exact id
 | program k b=>exact λd h=>b P d h
 | mark m k b=>exact λd h=>b _ h
 | halt x=>exact λd h=>h
def Em {N:β->Prop}{s:Sem α}{f:α->Sem β}(b:Calm P s)(c:∀a,C3 P N 0 (f a)):C3 P N 0 (s>>=f):=Ax2 (λa _=>c a) s 0 b
def Ib {N:α->Prop}{a:α}(h:N a):C3 P N 0 (pure a:Sem α):=⟨rfl,h⟩
@[simp] theorem Ad {a:α}:Calm P (pure a:Sem α):=⟨rfl,trivial⟩
@[simp] theorem A72 {a:Addr}{m:Mode}:Calm P (load a m):=λ_=>⟨rfl,trivial⟩
@[simp] theorem Awd {a:Addr}{v:Value}{m:Mode}:Calm P (store a v m):=⟨rfl,trivial⟩
@[simp] theorem A6g {o:Obj}:Calm P (newObj o):=λ_=>⟨rfl,trivial⟩
@[simp] theorem A68 {r:Nat}:Calm P (shape r):=λ_=>⟨rfl,trivial⟩
@[simp] theorem A6k {a:Addr}{n:Nat}:Calm P (freeze a n):=⟨rfl,trivial⟩
@[simp] theorem A6j {a:Addr}:Calm P (frozen a):=λ_=>⟨rfl,trivial⟩
@[simp] theorem vn {r:Nat}:Calm P (getObj r):=λ_=>⟨rfl,trivial⟩
@[simp] theorem WC {r:Nat}{o:Obj}:Calm P (setObj r o):=⟨rfl,trivial⟩
@[simp] theorem Nl {q:Question}:Calm P (choose q):=λ_=>⟨rfl,trivial⟩
@[simp] theorem tD:Calm P program:=⟨rfl,trivial⟩
@[simp] theorem A6d:Calm P (mark .noRoom):=⟨rfl,trivial⟩
@[simp] theorem A6i {f:FuncId}:Calm P (mark (.extern f)):=⟨rfl,trivial⟩
@[simp] theorem Ee {s:String}:Calm P (stuck s:Sem α):=.inl rfl
@[simp] theorem Kw {u:Unsupported}:Calm P (unsupported u:Sem α):=.inl rfl
@[simp] theorem A4k {v:Value}:Calm P (goPanic v:Sem α):=.inl rfl
@[simp] theorem A67 {s:String}:Calm P (throw s:Sem α):=.inl rfl
def Calm.bind {s:Sem α}{f:α->Sem β}(b:Calm P s)(c:∀a,Calm P (f a)):Calm P (s>>=f):=Em b c
def cmF {P:Program}{α:Type}{x:Sem α}(h:Calm P x:=by repeat' first | exact Ad | (simp;done) | refine Calm.bind ?_ (λ_=>?_) | split):Calm P x:=h
def Calm.map {s:Sem α}{f:α->β}(a:Calm P s):Calm P (f<$>s):=Em a λ_=>⟨rfl,trivial⟩
def cmG {P:Program}{α:Type}{x:Sem α}(h:Calm P x:=by repeat' first | exact Ad | exact Or.inl rfl | assumption | (simp;done) | refine Calm.bind ?_ (λ_=>?_) | dsimp only | refine Calm.map ?_ | split | intro _):Calm P x:=h
def cmC {P:Program}{α:Type}{x:Sem α}(h:Calm P x:=by repeat' first | exact Ad | exact Or.inl rfl | assumption | (simp;done) | refine Calm.bind ?_ (λ_=>?_) | dsimp only | refine Calm.map ?_ | split | intro _):Calm P x:=h
theorem H7 (l:List γ){f:γ->β->Sem (ForInStep β)}(e:∀a b,Calm P (f a b)):∀b,Calm P (forIn l b f):=by
 induction l with
 | nil=>exact λb=>by rw[List.forIn_nil];exact Ad
 | cons a l c=>
  intro b;rw[List.forIn_cons];refine Calm.bind (e a b) λr=>?_
  cases r with
  | done b=>exact Ad
  | yield b=>exact c b
def H6 (l:Array γ){f:γ->β->Sem (ForInStep β)}(c:∀a b,Calm P (f a b))(b:β):Calm P (forIn l b f):=by
 rw[<-Array.forIn_toList];exact H7 _ c b
def H5 (r:Std.Legacy.Range){f:Nat->β->Sem (ForInStep β)}(c:∀a b,Calm P (f a b))(b:β):Calm P (forIn r b f):=by
 rw[Std.Legacy.Range.forIn_eq_forIn_range'];exact H7 _ c b
theorem tJ (l:List γ):∀{f:(a:γ)->a∈l->β->Sem (ForInStep β)} (_:∀a h b,Calm P (f a h b)) (b:β),Calm P (forIn' l b f):=by
 induction l with
 | nil=>exact λ_ b=>by rw[List.forIn'_nil];exact Ad
 | cons a l e=>
  intro f c b;rw[List.forIn'_cons];refine Calm.bind (c _ _ b) λr=>?_
  cases r with
  | done b=>exact Ad
  | yield b=>exact e (λ_ _ _=>c _ _ _) b
def tI (r:Std.Legacy.Range){f:(i:Nat)->i∈r->β->Sem (ForInStep β)}(c:∀a h b,Calm P (f a h b))(b:β):Calm P (forIn' r b f):=by
 rw[Std.Legacy.Range.forIn'_eq_forIn'_range'];exact tJ _ (λ_ _ _=>c _ _ _) b
def vo (l:List γ){f:β->γ->Sem β}(e:∀a b,Calm P (f a b)):∀b,Calm P (l.foldlM f b):=by
 induction l with
 | nil=>exact λb=>Ad
 | cons a l c=>exact λb=>by rw[List.foldlM_cons];exact Calm.bind (e b a) c
def Hy (l:List γ){f:γ->Sem β}(c:∀a,Calm P (f a)):Calm P (l.mapM f):=by
 induction l with
 | nil=>rw[List.mapM_nil];exact Ad
 | cons a l b=>rw[List.mapM_cons];exact Calm.bind (c a) λ_=>Calm.bind b λ_=>Ad
def Hz (l:Array γ){f:γ->Sem β}(b:∀a,Calm P (f a)):Calm P (l.mapM f):=by
 rw[Array.mapM_eq_mapM_toList];exact Calm.map (Hy _ b)
def cmE {P:Program}{α:Type}{x:Sem α}(h:Calm P x:=by repeat' first | exact Ad | assumption | (simp;done) | exact ih _ | exact ih _ _ | exact ih _ _ _ | exact ih _ _ _ _ | refine Calm.bind ?_ (λ_=>?_) | refine H7 _ (λ_ _=>?_) _ | refine H6 _ (λ_ _=>?_) _ | refine H5 _ (λ_ _=>?_) _ | refine Hz _ (λ_=>?_) | refine Hy _ (λ_=>?_) | dsimp only | refine Calm.map ?_ | split | intro _):Calm P x:=h
def cmD {P:Program}{α:Type}{x:Sem α}(h:Calm P x:=by repeat' first | exact Ad | assumption | (simp;done) | refine Calm.bind ?_ (λ_=>?_) | refine H7 _ (λ_ _=>?_) _ | refine H6 _ (λ_ _=>?_) _ | refine H5 _ (λ_ _=>?_) _ | refine Hz _ (λ_=>?_) | refine Hy _ (λ_=>?_) | dsimp only | refine Calm.map ?_ | split | intro _):Calm P x:=h
def BA {P:Program}{α:Type}{x:Sem α}(h:Calm P x:=by repeat' first | exact Ad | assumption | (simp;done) | refine Calm.bind ?_ (λ_=>?_) | refine H7 _ (λ_ _=>?_) _ | refine H6 _ (λ_ _=>?_) _ | refine H5 _ (λ_ _=>?_) _ | refine Hz _ (λ_=>?_) | refine Hy _ (λ_=>?_) | refine vo _ (λ_ _=>?_) _ | refine tI _ (λ_ _ _=>?_) _ | dsimp only | refine Calm.map ?_ | split | intro _):Calm P x:=h
def AZ {P:Program}{α:Type}{x:Sem α}(h:Calm P x:=by repeat' first | exact Ad | assumption | (simp;done) | refine Calm.bind ?_ (λ_=>?_) | refine H7 _ (λ_ _=>?_) _ | refine H6 _ (λ_ _=>?_) _ | refine H5 _ (λ_ _=>?_) _ | refine Hz _ (λ_=>?_) | refine Hy _ (λ_=>?_) | dsimp only | refine Calm.map ?_ | split | intro _):Calm P x:=h
end
section
variable {P:Program}
@[simp] theorem A4o (bytes):Calm P (askRoom bytes):=by
 unfold askRoom;exact AZ
@[simp] theorem A59 (r):Calm P (viewAt r):=by
 unfold viewAt;exact AZ
@[simp] theorem A3p (r):Calm P (numberAt r):=by
 unfold numberAt;exact AZ
@[simp] theorem A4n (r):Calm P (cellsIn r):=by
 unfold cellsIn;exact AZ
@[simp] theorem A3s (a lost):Calm P (asNumber a lost):=by
 unfold asNumber;exact AZ
@[simp] theorem Awh (n):Calm P (behindNumber n):=by
 unfold behindNumber;exact AZ
@[simp] theorem A6c (a):Calm P (noView a):=by
 unfold noView;exact AZ
@[simp] theorem As9 (a):Calm P (markStringish a):=by
 unfold markStringish;exact AZ
@[simp] theorem A1x (a):Calm P (stringish a):=by
 unfold stringish;exact AZ
@[simp] theorem A3q (a b):Calm P (mayBeOne a b):=by
 unfold mayBeOne;exact AZ
@[simp] theorem A3o (a b):Calm P (sameAddr a b):=by
 unfold sameAddr;exact AZ
@[simp] theorem Aw3 (x0 x1):Calm P (samePointer x0 x1):=by
 unfold samePointer;exact AZ
@[simp] theorem rx (t):Calm P (typeInfo t):=by
 unfold typeInfo;exact AZ
@[simp] theorem pL (t):Calm P (underlying t):=by
 unfold underlying;exact AZ
@[simp] theorem A4l (name):Calm P (cutType name):=by
 unfold cutType;exact AZ
@[simp] theorem A4i (t):Calm P (typeStr t):=by
 unfold typeStr;exact AZ
@[simp] theorem TT (t):Calm P (zeroValue t):=by
 unfold zeroValue;exact AZ
@[simp] theorem A6a (t):Calm P (sizeOf t):=by
 unfold sizeOf;exact AZ
@[simp] theorem A69 (t):Calm P (isAgg t):=by
 unfold isAgg;exact AZ
@[simp] theorem Ata:∀(b:Nat) (a:Addr) (i:Nat) (c:Array Value),Calm P (loadCellsFrom a i b c:Sem (Array Value)):=by
 intro b;induction b with
 | zero=>
  intros
  unfold loadCellsFrom;repeat' first
   | exact Ad
   | assumption
   | (simp;done)
   | refine Calm.bind ?_ (λ_=>?_)
   | refine H7 _ (λ_ _=>?_) _
   | refine H6 _ (λ_ _=>?_) _
   | refine H5 _ (λ_ _=>?_) _
   | refine Hz _ (λ_=>?_)
   | refine Hy _ (λ_=>?_)
   | dsimp only
   | refine Calm.map ?_
   | split
   | intro _
 | succ n ih=>
  intros
  unfold loadCellsFrom;exact cmE
@[simp] theorem A1y (a n):Calm P (loadCells a n):=by
 unfold loadCells;exact AZ
def oy (a:Addr):∀(b:List Value) (i:Nat),Calm P (storeCells a b i):=by
 intro b;induction b with
 | nil=>exact λ_=>Ad
 | cons v l c=>exact λi=>Calm.bind Awd λ_=>c (i+1)
@[simp] theorem A06 (a:Addr)(vs:List Value)(i:Nat):Calm P (storeCells a vs i):=oy a vs i
@[simp] theorem tG (t a):Calm P (loadVar t a):=by
 unfold loadVar;exact AZ
@[simp] theorem A3n (t a v):Calm P (storeVar t a v):=by
 unfold storeVar;exact AZ
@[simp] theorem A6f (elem cells):Calm P (newRow elem cells):=by
 unfold newRow;exact AZ
@[simp] theorem A6e (t v):Calm P (newVar t v):=by
 unfold newVar;exact AZ
@[simp] theorem A6m (t):Calm P (elemOf t):=by
 unfold elemOf;exact AZ
@[simp] theorem A71 (t cs off):Calm P (part t cs off):=by
 unfold part;exact AZ
@[simp] theorem Aw5 {α:Type}(a:String):Calm P (panicString a:Sem α):=by
 unfold panicString;exact AZ
@[simp] theorem Qp {α:Type}(e:RuntimeError):Calm P (runtimePanic e:Sem α):=by
 unfold runtimePanic;exact AZ
@[simp] theorem Aw8 {α:Type}(k:IntKind)(x:Int)(y:Int)(code:BoundsCode):Calm P (boundsPanic k x y code:Sem α):=by
 unfold boundsPanic;exact AZ
@[simp] theorem A4p (x0):Calm P (asIntOf x0):=by
 unfold asIntOf;exact AZ
@[simp] theorem A7a (v):Calm P (asInt v):=by
 unfold asInt;exact AZ
@[simp] theorem A6o (x0):Calm P (asBool x0):=by
 unfold asBool;exact AZ
@[simp] theorem A3r (x0):Calm P (asString x0):=by
 unfold asString;exact AZ
@[simp] theorem A7b (x0):Calm P (asAgg x0):=by
 unfold asAgg;exact AZ
@[simp] theorem vp (x0):Calm P (asAddr x0):=by
 unfold asAddr;exact AZ
@[simp] theorem A6n (a):Calm P (byteOf a):=by
 unfold byteOf;exact AZ
@[simp] theorem A6b (base cells bytes):Calm P (partAt base cells bytes):=by
 unfold partAt;exact AZ
@[simp] theorem A08 (a f):Calm P (fieldPlace a f):=by
 unfold fieldPlace;exact AZ
@[simp] theorem Aw2 (a u n):Calm P (variablesAt a u n):=by
 unfold variablesAt;exact AZ
@[simp] theorem A1z:∀(b:Nat) (a:Addr) (acc:ByteArray),Calm P (loadBytes a acc b:Sem ByteArray):=by
 intro b;induction b with
 | zero=>
  intros
  unfold loadBytes;repeat' first
   | exact Ad
   | assumption
   | (simp;done)
   | refine Calm.bind ?_ (λ_=>?_)
   | refine H7 _ (λ_ _=>?_) _
   | refine H6 _ (λ_ _=>?_) _
   | refine H5 _ (λ_ _=>?_) _
   | refine Hz _ (λ_=>?_)
   | refine Hy _ (λ_=>?_)
   | dsimp only
   | refine Calm.map ?_
   | split
   | intro _
 | succ n ih=>
  intros
  unfold loadBytes;exact cmE
end
section
variable {P:Program}
@[simp] theorem A11 (op k x y):Calm P (Op.intDiv op k x y):=by
 unfold Op.intDiv;exact AZ
@[simp] theorem A3u (op k x _yk y):Calm P (Op.shift op k x _yk y):=by
 unfold Op.shift;exact AZ
@[simp] theorem A12 (op x y):Calm P (Op.intCmp op x y):=by
 unfold Op.intCmp;exact AZ
@[simp] theorem Atb (op k x y):Calm P (Op.floatArith op k x y):=by
 unfold Op.floatArith;exact AZ
@[simp] theorem Axa (op k x y):Calm P (Op.floatCmp op k x y):=by
 unfold Op.floatCmp;exact AZ
@[simp] theorem Apc (src bits dst):Calm P (Conv.floatToInt src bits dst):=by
 unfold Conv.floatToInt;exact AZ
@[simp] theorem Amm (src bits dst):Calm P (Conv.floatToFloat src bits dst):=by
 unfold Conv.floatToFloat;exact AZ
@[simp] theorem Ahs (src re im dst):Calm P (Conv.complexToComplex src re im dst):=by
 unfold Conv.complexToComplex;exact AZ
@[simp] theorem Alz (elem s):Calm P (Conv.stringToBytes elem s):=by
 unfold Conv.stringToBytes;exact AZ
@[simp] theorem Al1 (x):Calm P (Conv.bytesToString x):=by
 unfold Conv.bytesToString;exact AZ
@[simp] theorem Aly (elem s):Calm P (Conv.stringToRunes elem s):=by
 unfold Conv.stringToRunes;exact AZ
@[simp] theorem Al0 (x):Calm P (Conv.runesToString x):=by
 unfold Conv.runesToString;exact AZ
@[simp] theorem Axl (a):Calm P (Conv.seenAt a):=by
 unfold Conv.seenAt;exact AZ
@[simp] theorem Alv (src dst x):Calm P (Conv.unsafePointer src dst x):=by
 unfold Conv.unsafePointer;exact AZ
@[simp] theorem Aop (op k x y):Calm P (Op.Complex.arith op k x y):=by
 unfold Op.Complex.arith;exact AZ
@[simp] theorem Ao8 (src x dst):Calm P (Op.Complex.conv src x dst):=by
 unfold Op.Complex.conv;exact AZ
@[simp] theorem Alo (a b c d):Calm P (Op.Complex.product a b c d):=by
 unfold Op.Complex.product;exact AZ
@[simp] theorem Aio (scale a b c d):Calm P (Op.Complex.corrected scale a b c d):=by
 unfold Op.Complex.corrected;exact AZ
@[simp] theorem Ajv (a b c d):Calm P (Op.Complex.quotient a b c d):=by
 unfold Op.Complex.quotient;exact AZ
@[simp] theorem Awk (op k xr xi yr yi):Calm P (Op.complexOp op k xr xi yr yi):=by
 unfold Op.complexOp;exact AZ
@[simp] theorem Aw9 (op x y):Calm P (Op.stringOp op x y):=by
 unfold Op.stringOp;exact AZ
@[simp] theorem A09:∀(a:Nat) (c:TypeId) (b:Value) (e:Value),Calm P (Op.equalIn a c b e:Sem Bool):=by
 intro a;induction a with
 | zero=>
  intros
  unfold Op.equalIn;repeat' first
   | exact Ad
   | assumption
   | (simp;done)
   | refine Calm.bind ?_ (λ_=>?_)
   | refine H7 _ (λ_ _=>?_) _
   | refine H6 _ (λ_ _=>?_) _
   | refine H5 _ (λ_ _=>?_) _
   | refine Hz _ (λ_=>?_)
   | refine Hy _ (λ_=>?_)
   | dsimp only
   | refine Calm.map ?_
   | split
   | intro _
 | succ n ih=>
  intros
  unfold Op.equalIn;exact cmE
@[simp] theorem A3v (t x y):Calm P (Op.equal t x y):=by
 unfold Op.equal;exact AZ
@[simp] theorem Awj:∀(a:Nat) (c:TypeId) (b:Value) (e:Value),Calm P (Op.eqGuardIn a c b e:Sem Bool):=by
 intro a;induction a with
 | zero=>
  intros
  unfold Op.eqGuardIn;repeat' first
   | exact Ad
   | assumption
   | (simp;done)
   | refine Calm.bind ?_ (λ_=>?_)
   | refine H7 _ (λ_ _=>?_) _
   | refine H6 _ (λ_ _=>?_) _
   | refine H5 _ (λ_ _=>?_) _
   | refine Hz _ (λ_=>?_)
   | refine Hy _ (λ_=>?_)
   | dsimp only
   | refine Calm.map ?_
   | split
   | intro _
 | succ n ih=>
  intros
  unfold Op.eqGuardIn;exact cmE
@[simp] theorem Awi (a b):Calm P (Op.twoPlaces a b):=by
 unfold Op.twoPlaces;exact AZ
@[simp] theorem A1a (k a b):Calm P (Op.addrSub k a b):=by
 unfold Op.addrSub;exact AZ
@[simp] theorem A1c (op a b):Calm P (Op.addrCmp op a b):=by
 unfold Op.addrCmp;exact AZ
@[simp] theorem A1b (k a n):Calm P (Op.addrMod k a n):=by
 unfold Op.addrMod;exact AZ
@[simp] theorem A3t (op x):Calm P (Op.unary op x):=by
 unfold Op.unary;exact AZ
end
section
variable {P:Program}
@[simp] theorem Axk (elem heap old):Calm P (Instr.alloc elem heap old):=by
 unfold Instr.alloc;exact AZ
@[simp] theorem Aor (x y code):Calm P (Instr.sliceBound x y code):=by
 unfold Instr.sliceBound;exact AZ
@[simp] theorem Amk (isSlice len cap low high max):Calm P (Instr.sliceBounds isSlice len cap low high max):=by
 unfold Instr.sliceBounds;exact AZ
@[simp] theorem Axc (xType x low high max):Calm P (Instr.slice xType x low high max):=by
 unfold Instr.slice;exact AZ
@[simp] theorem Ari (x0):Calm P (Instr.sureAddr x0):=by
 unfold Instr.sureAddr;exact AZ
@[simp] theorem Awm (t addr):Calm P (Instr.loadAt t addr):=by
 unfold Instr.loadAt;exact AZ
@[simp] theorem Atc (t addr val):Calm P (Instr.storeAt t addr val):=by
 unfold Instr.storeAt;exact AZ
@[simp] theorem Ath (s addr field):Calm P (Instr.fieldAt s addr field):=by
 unfold Instr.fieldAt;exact AZ
@[simp] theorem Atf (t x index):Calm P (Instr.indexAt t x index):=by
 unfold Instr.indexAt;exact AZ
@[simp] theorem Atd (t x low high max):Calm P (Instr.sliceAt t x low high max):=by
 unfold Instr.sliceAt;exact AZ
@[simp] theorem Atk (arr x):Calm P (Instr.arrayAt arr x):=by
 unfold Instr.arrayAt;exact AZ
@[simp] theorem A13 (elem v):Calm P (Instr.box elem v):=by
 unfold Instr.box;exact AZ
@[simp] theorem Axj (t parts):Calm P (Instr.build t parts):=by
 unfold Instr.build;exact AZ
@[simp] theorem Aou (t len parts):Calm P (Instr.buildSlice t len parts):=by
 unfold Instr.buildSlice;exact AZ
@[simp] theorem Axb (g):Calm P (Instr.waits g):=by
 unfold Instr.waits;exact AZ
@[simp] theorem Axd (g):Calm P (Instr.ready g):=by
 unfold Instr.ready;exact AZ
@[simp] theorem Ajw (xType x):Calm P (Instr.makeInterface xType x):=by
 unfold Instr.makeInterface;exact AZ
@[simp] theorem Ate (t reserve):Calm P (Instr.makeMap t reserve):=by
 unfold Instr.makeMap;exact AZ
@[simp] theorem Ark (t size):Calm P (Instr.makeChan t size):=by
 unfold Instr.makeChan;exact AZ
@[simp] theorem Apa (t len cap):Calm P (Instr.makeSlice t len cap):=by
 unfold Instr.makeSlice;exact AZ
@[simp] theorem Axh (xType x field):Calm P (Instr.field xType x field):=by
 unfold Instr.field;exact AZ
@[simp] theorem Axg (xType x index):Calm P (Instr.index xType x index):=by
 unfold Instr.index;exact AZ
@[simp] theorem Arn:∀(a:Nat) (empty:Bool) (c:TypeId) (b:Value),Calm P (Instr.checkKey empty a c b:Sem Unit):=by
 intro a;induction a with
 | zero=>
  intros
  unfold Instr.checkKey;repeat' first
   | exact Ad
   | assumption
   | (simp;done)
   | refine Calm.bind ?_ (λ_=>?_)
   | refine H7 _ (λ_ _=>?_) _
   | refine H6 _ (λ_ _=>?_) _
   | refine H5 _ (λ_ _=>?_) _
   | refine Hz _ (λ_=>?_)
   | refine Hy _ (λ_=>?_)
   | dsimp only
   | refine Calm.map ?_
   | split
   | intro _
 | succ n ih=>
  intros
  unfold Instr.checkKey;exact cmE
@[simp] theorem Aos (keyType:TypeId)(k:Value):∀(a:List MapEntry) (i:Nat),Calm P (Instr.findAsking keyType k a i):=by
 intro a;induction a with
 | nil=>exact λ_=>Ad
 | cons e a c=>
  intro i;refine Calm.bind AU λb=>?_
  cases b
  ·exact c _
  ·exact Ad
@[simp] theorem Atg (keyType k es):Calm P (Instr.findKey keyType k es):=by
 unfold Instr.findKey;exact AZ
@[simp] theorem Awl (xType x index commaOk):Calm P (Instr.lookup xType x index commaOk):=by
 unfold Instr.lookup;exact AZ
@[simp] theorem Alq (old new):Calm P (Instr.keyThatStays old new):=by
 unfold Instr.keyThatStays;exact AZ
@[simp] theorem Ao9 (mapType map key value):Calm P (Instr.mapUpdate mapType map key value):=by
 unfold Instr.mapUpdate;exact AZ
@[simp] theorem Arj (mapType map key):Calm P (Instr.mapEntry mapType map key):=by
 unfold Instr.mapEntry;exact AZ
@[simp] theorem Aot (_mapType map stamp value):Calm P (Instr.entryStore _mapType map stamp value):=by
 unfold Instr.entryStore;exact AZ
@[simp] theorem Axe (xType x):Calm P (Instr.range xType x):=by
 unfold Instr.range;exact AZ
@[simp] theorem A1d (iter isString _type):Calm P (Instr.next iter isString _type):=by
 unfold Instr.next;exact AZ
@[simp] theorem Axi (iter):Calm P (Instr.entry iter):=by
 unfold Instr.entry;exact AZ
theorem UB (argTypes t a b):Calm P (Builtin.ssaWrapNilChk_ argTypes t #[.pointer none, .string a, .string b]):=by
 refine Calm.bind (s:=choose (Question.extern "ssa:wrapnilchk.dereferenced" 2)) AU (λn=>?_);repeat' first
  | exact Ad
  | assumption
  | (simp;done)
  | refine Calm.bind ?_ (λ_=>?_)
  | dsimp only
  | refine Calm.map ?_
  | split
  | intro _
@[simp] theorem Aht (argTypes t args):Calm P (Builtin.ssaWrapNilChk_ argTypes t args):=by
 rcases args with⟨_ | ⟨c,_ | ⟨b,_ | ⟨e,_ | ⟨f,l⟩⟩⟩⟩⟩
 case cons.cons.cons.nil=>
  cases b<;>first
   | exact Ee
   | (cases e<;>first
    | exact Ee
    | (cases c<;>first
     | exact Ee
     | (rename_i o _ _;cases o<;>first | exact Ad (a:=Value.pointer (some _)) | exact UB _ _ _ _)
     | (rename_i o;cases o<;>first | exact Ad (a:=Value.pointer (some _)) | exact UB _ _ _ _)))
 all_goals exact Ee
@[simp] theorem A10 (t x0):Calm P (Place.get t x0):=by
 unfold Place.get;exact AZ
@[simp] theorem A6l:∀(a:List FieldStep) (c:TypeId) (b:Place),Calm P (follow a c b:Sem (TypeId × Place)):=by
 intro a;induction a with
 | nil=>
  intros
  unfold follow;repeat' first
   | exact Ad
   | assumption
   | (simp;done)
   | refine Calm.bind ?_ (λ_=>?_)
   | refine H7 _ (λ_ _=>?_) _
   | refine H6 _ (λ_ _=>?_) _
   | refine H5 _ (λ_ _=>?_) _
   | refine Hz _ (λ_=>?_)
   | refine Hy _ (λ_=>?_)
   | dsimp only
   | refine Calm.map ?_
   | split
   | intro _
 | cons y l ih=>
  intros
  unfold follow;exact cmE
@[simp] theorem A07 (xt x pointerReceiver wrapper):Calm P (receiverAt xt x pointerReceiver wrapper):=by
 unfold receiverAt;exact AZ
@[simp] theorem Aw4 (t v path pointerReceiver):Calm P (receiverVia t v path pointerReceiver):=by
 unfold receiverVia;exact AZ
@[simp] theorem A6h:∀(a:Nat) (c:TypeId) (b:Value) (e:String),Calm P (method a c b e:Sem (FuncId × Value)):=by
 intro a;induction a with
 | zero=>
  intros
  unfold method;repeat' first
   | exact Ad
   | assumption
   | (simp;done)
   | refine Calm.bind ?_ (λ_=>?_)
   | refine H7 _ (λ_ _=>?_) _
   | refine H6 _ (λ_ _=>?_) _
   | refine H5 _ (λ_ _=>?_) _
   | refine Hz _ (λ_=>?_)
   | refine Hy _ (λ_=>?_)
   | dsimp only
   | refine Calm.map ?_
   | split
   | intro _
 | succ n ih=>
  intros
  unfold method;exact cmE
@[simp] theorem Aw7:∀(a:List FieldStep) (c:TypeId) (b:Option Value),Calm P (followBlind a c b:Sem (Except (Option Bool) (TypeId × Option Value))):=by
 intro a;induction a with
 | nil=>
  intros
  unfold followBlind;repeat' first
   | exact Ad
   | assumption
   | (simp;done)
   | refine Calm.bind ?_ (λ_=>?_)
   | refine H7 _ (λ_ _=>?_) _
   | refine H6 _ (λ_ _=>?_) _
   | refine H5 _ (λ_ _=>?_) _
   | refine Hz _ (λ_=>?_)
   | refine Hy _ (λ_=>?_)
   | dsimp only
   | refine Calm.map ?_
   | split
   | intro _
 | cons y l ih=>
  intros
  unfold followBlind;exact cmE
@[simp] theorem r6:∀(a:Nat) (c:TypeId) (b:Value) (e:String),Calm P (nilAhead a c b e:Sem (Option Bool)):=by
 intro a;induction a with
 | zero=>
  intros
  unfold nilAhead;repeat' first
   | exact Ad
   | assumption
   | (simp;done)
   | refine Calm.bind ?_ (λ_=>?_)
   | refine H7 _ (λ_ _=>?_) _
   | refine H6 _ (λ_ _=>?_) _
   | refine H5 _ (λ_ _=>?_) _
   | refine Hz _ (λ_=>?_)
   | refine Hy _ (λ_=>?_)
   | dsimp only
   | refine Calm.map ?_
   | split
   | intro _
 | succ n ih=>
  intros
  unfold nilAhead;exact cmE
@[simp] theorem Aoq (x xType asserted commaOk):Calm P (Instr.typeAssert x xType asserted commaOk):=by
 unfold Instr.typeAssert;exact AZ
@[simp] theorem Ati (tuple index):Calm P (Instr.extract tuple index):=by
 unfold Instr.extract;exact AZ
end
section
variable {P:Program}
@[simp] theorem Al2 (a:Addr)(cells:Nat):Calm P (Go.Builtin.holdsCells a cells:Sem Bool):=by
  unfold Go.Builtin.holdsCells;repeat' first
    | exact Ad
    | (simp;done)
    | refine Calm.bind ?_ (λ_=>?_)
    | split
@[simp] theorem Aow (size a n:Nat)(base:Option Addr)(x:Value):Calm P (Go.Builtin.mayShare size a n base x):=by
  unfold Go.Builtin.mayShare;repeat' first
    | exact Ad
    | (simp;done)
    | refine Calm.bind ?_ (λ_=>?_)
    | dsimp only
    | refine Calm.map ?_
    | split
@[simp] theorem Atl (x:Value):Calm P (Go.Builtin.lenOf x):=by
  unfold Go.Builtin.lenOf;split<;>simp
@[simp] theorem Al3 (size n:Nat)(x:Value):Calm P (Go.Builtin.firstCells size n x):=by
  unfold Go.Builtin.firstCells;split<;>simp
@[simp] theorem Arp (argTypes:Array TypeId)(_type:TypeId)(args:Array Value) :Calm P (Builtin.append_ argTypes _type args):=by
  unfold Builtin.append_;split
  · refine Calm.bind AU λd=>?_
    split
    · split
      · refine Calm.bind AU λsize=>?_
        dsimp only;have two:∀z:Bool,Calm P (pure z:Sem Bool):=λ_=>Ad
        split
        · refine Calm.bind AU λu=>?_
          split<;>
          (refine Calm.bind (two _) λz=>?_
           cases z<;>simp only[DU,DC,Bool.not_false,if_true,K6,false_or,true_or,FG]<;>
           repeat' first
             | exact Ad
             | with_reducible refine Calm.bind ?_ (λ_=>?_)
             | with_reducible refine Calm.map ?_
             | split
             | (simp;done))
        · refine Calm.bind (two _) λz=>?_
          cases z<;>simp only[DU,DC,Bool.not_false,if_true,K6,false_or,true_or,FG]<;>
          repeat' first
            | exact Ad
            | with_reducible refine Calm.bind ?_ (λ_=>?_)
            | with_reducible refine Calm.map ?_
            | split
            | (simp;done)
      · simp
    · simp
  · simp
@[simp] theorem Atm (a:Array TypeId)(t:TypeId)(args:Array Value):Calm P (Builtin.close_ a t args):=by
  rcases args with⟨_ | ⟨b,_ | ⟨e,l⟩⟩⟩
  · exact Ee
  · cases b<;>first
      | exact Ee
      | (rename_i o
         cases o
         · exact Qp (.plain "close of nil channel")
         · refine Calm.bind (s:=getObj _) vn λo=>?_
           cases o<;>first
             | exact Ee
             | (rename_i c _ _ _;cases c
                · exact Calm.bind (s:=setObj _ _) WC λ_=>Ad
                · exact Calm.bind (s:=runtimePanic _) (Qp _) λ_=>Calm.bind (s:=setObj _ _) WC λ_=>Ad))
  · exact Ee
@[simp] theorem Apd (a:Array TypeId)(t:TypeId)(args:Array Value):Calm P (Builtin.complex_ a t args):=by
  rcases args with⟨_ | ⟨c,_ | ⟨b,_ | ⟨e,l⟩⟩⟩⟩
  case cons.cons.nil=>
    cases c<;>cases b<;>first
      | exact Ee
      | (show Calm P (if _=_ then pure _ else stuck _)
         split<;>simp)
  all_goals exact Ee
@[simp] theorem Awq (a:Array TypeId)(t:TypeId)(args:Array Value):Calm P (Builtin.imag_ a t args):=by
  rcases args with⟨_ | ⟨b,_ | ⟨c,l⟩⟩⟩
  case cons.nil=>
    cases b<;>first
      | exact Ee
      | exact Ad
  all_goals exact Ee
@[simp] theorem Awn (a:Array TypeId)(t:TypeId)(args:Array Value):Calm P (Builtin.real_ a t args):=by
  rcases args with⟨_ | ⟨b,_ | ⟨c,l⟩⟩⟩
  case cons.nil=>
    cases b<;>first
      | exact Ee
      | exact Ad
  all_goals exact Ee
def z7 {p:Prop}(h:p:=by
 cases y0<;>first
   | exact Ee
   | (refine Calm.bind (s:=asInt y1) AU λn=>?_
      repeat' first
        | exact Ad
        | (simp;done)
        | refine Calm.bind ?_ (λ_=>?_)
        | split)):p:=h
@[simp] theorem Amn (a:Array TypeId)(t:TypeId)(args:Array Value):Calm P (Builtin.unsafeAdd_ a t args):=by
  rcases args with⟨_ | ⟨y0,_ | ⟨y1,_ | ⟨b,l⟩⟩⟩⟩
  case cons.cons.nil=>exact z7
  all_goals exact Ee
@[simp] theorem Ajz (a:Array TypeId)(t:TypeId)(args:Array Value):Calm P (Builtin.unsafeSlice_ a t args):=by
  rcases args with⟨_ | ⟨y0,_ | ⟨y1,_ | ⟨b,l⟩⟩⟩⟩
  case cons.cons.nil=>exact z7
  all_goals exact Ee
@[simp] theorem Ae6 (a:Array TypeId)(t:TypeId)(args:Array Value):Calm P (Builtin.unsafeSliceData_ a t args):=by
  rcases args with⟨_ | ⟨b,_ | ⟨e,l⟩⟩⟩
  case cons.nil=>
    cases b<;>first
      | exact Ee
      | (rename_i o n c
         cases o
         · exact Ad
         · rename_i ad
           show Calm P (if _ then pure _ else _)
           repeat' first
             | exact Ad
             | (simp;done)
             | refine Calm.bind ?_ (λ_=>?_)
             | split)
  all_goals exact Ee
@[simp] theorem Aiq (a:Array TypeId)(t:TypeId)(args:Array Value):Calm P (Builtin.unsafeString_ a t args):=by
  rcases args with⟨_ | ⟨y0,_ | ⟨y1,_ | ⟨b,l⟩⟩⟩⟩
  case cons.cons.nil=>exact z7
  all_goals exact Ee
@[simp] theorem Aev (a:Array TypeId)(t:TypeId)(args:Array Value):Calm P (Builtin.unsafeStringData_ a t args):=by
  rcases args with⟨_ | ⟨b,_ | ⟨c,l⟩⟩⟩
  case cons.nil=>
    cases b<;>first
      | exact Ee
      | (rename_i o
         show Calm P (if _ then _ else _)
         repeat' first
             | exact Ad
             | (simp;done)
             | refine Calm.bind ?_ (λ_=>?_)
             | split)
  all_goals exact Ee
end
section
variable {P:Program}
@[simp] theorem Axp (argTypes _type args):Calm P (Builtin.cap_ argTypes _type args):=by
 unfold Builtin.cap_;exact BA
@[simp] theorem Atn (argTypes _type args):Calm P (Builtin.clear_ argTypes _type args):=by
 unfold Builtin.clear_;exact BA
@[simp] theorem Awr (argTypes _type args):Calm P (Builtin.copy_ argTypes _type args):=by
 unfold Builtin.copy_;exact BA
@[simp] theorem Aro (argTypes _type args):Calm P (Builtin.delete_ argTypes _type args):=by
 unfold Builtin.delete_;exact BA
@[simp] theorem Axo (argTypes _type args):Calm P (Builtin.len_ argTypes _type args):=by
 unfold Builtin.len_;exact BA
@[simp] theorem Awp (x0 x1):Calm P (Builtin.max2 x0 x1):=by
 unfold Builtin.max2;exact BA
@[simp] theorem Axn (_argTypes _type args):Calm P (Builtin.max_ _argTypes _type args):=by
 unfold Builtin.max_;exact BA
@[simp] theorem Awo (x0 x1):Calm P (Builtin.min2 x0 x1):=by
 unfold Builtin.min2;exact BA
@[simp] theorem Axm (_argTypes _type args):Calm P (Builtin.min_ _argTypes _type args):=by
 unfold Builtin.min_;exact BA
@[simp] theorem Aov (t v):Calm P (Builtin.printOne t v):=by
 unfold Builtin.printOne;exact BA
@[simp] theorem od (ln consts argTypes args):Calm P (Builtin.pieces ln consts argTypes args):=by
 unfold Builtin.pieces;exact BA
end
def Yf:Next->Prop
 | .value _ | .skip | .enter .. | .round .. | .defer _ | .recover | .spawn _ | .comm .. | .coroswitch ..=>True
 | .row r _=>r= "runtime.print$piece"
 | _=>False
section
variable {d:Nat}
variable {P:Program}{α β:Type}
def VD {N:β->Prop}{f:Unit->Sem β}(h:C3 P N (d+1) (f ())):C3 P N d (mark .disable>>=f):=h
def Wt {N:β->Prop}{f:Unit->Sem β}(h:C3 P N d (f ())):C3 P N (d+1) (mark .enable>>=f):=h
def Wg {N:β->Prop}{f:Unit->Sem β}{a:Addr}{v:Value}{m:Mode}(h:C3 P N d (f ())):C3 P N d (store a v m>>=f):=h
def O9 {N:β->Prop}{f:Program->Sem β}(h:C3 P N d (f P)):C3 P N d (program>>=f):=h
theorem YI {N:β->Prop}{f:Bool->Sem β}(h:∀b,C3 P N d (f b)):C3 P N d (Extern.PrintPieces.held>>=f):=by
 intro v;cases v<;>first | exact h _ | exact Or.inr trivial
theorem uE {N:β->Prop}{a:Nat}{b:ByteArray}{f:Unit->Sem β}(h:C3 P N 0 (f ())):C3 P N 0 (writeFd a b>>=f):=by
 refine⟨trivial,λr=>?_⟩;cases r<;>first | exact h | exact .inl rfl
def PC (a b:Array TypeId)(args:Array Value):C3 P Yf 0 (Extern.PrintPieces.piece a b args):=by
 unfold Extern.PrintPieces.piece;dsimp only;repeat' first
  | exact Ib trivial
  | exact Ib rfl
  | refine uE ?_
  | refine VD ?_
  | refine Wt ?_
  | refine YI (λ_=>?_)
  | refine O9 ?_
  | refine Wg ?_
  | exact .inl rfl
  | exact .inr trivial
  | split
open Go.Instr in
@[simp] theorem oj (l:Nat):Calm P (Go.Instr.getLoop l:Sem Loop):=by
 unfold Go.Instr.getLoop;exact BA
open Go.Instr in
@[simp] theorem Apb (fn:FuncId)(tmps:Array Value)(b:Array Tmp)(assign:Code)(body:Code)(a:Option Nat):Calm P (Go.Instr.enterLoop fn tmps b assign body a:Sem (Nat × List Deferred)):=by
 unfold Go.Instr.enterLoop;exact BA
open Go.Instr in
@[simp] theorem Rx (l:Nat):Calm P (Go.Instr.beginRound l:Sem Unit):=by
 unfold Go.Instr.beginRound;exact BA
open Go.Instr in
@[simp] theorem Arl (l:Nat)(jump:Option Code):Calm P (Go.Instr.endRound l jump:Sem Value):=by
 unfold Go.Instr.endRound;exact BA
open Go.Instr in
@[simp] theorem Atj (l:Nat):Calm P (Go.Instr.endLoop l:Sem (Option Code)):=by
 unfold Go.Instr.endLoop;exact BA
open Go.Instr in
@[simp] theorem Alr (l:Nat)(d:Deferred):Calm P (Go.Instr.deferInRound l d:Sem Unit):=by
 unfold Go.Instr.deferInRound;exact BA
open Go.Instr in
@[simp] theorem Alp (block:Nat):Calm P (Go.Instr.takeDeferred block:Sem (List Deferred)):=by
 unfold Go.Instr.takeDeferred;exact BA
def Ax1 (l:Nat)(args:Array Value):C3 P Yf 0 (Instr.yield l args):=by
 unfold Instr.yield;repeat' first
  | exact Ib trivial
  | refine Em (by first | exact oj _ | exact Ee) (λ_=>?_)
  | split
theorem rz:Calm P Instr.panicnil:=by
 unfold Instr.panicnil;refine⟨trivial,λr=>?_⟩;cases r<;>first | exact .inl rfl | exact⟨rfl,trivial⟩
@[simp] theorem Axf (x:Value):Calm P (Instr.panic x):=by
 unfold Instr.panic;split
 ·simp
 ·refine Calm.bind rz λ_=>?_
  split<;>simp
 ·simp
def LS {s:Sem Value}(h:Calm P s):C3 P Yf 0 (do pure (.value (<-s))):=Em h λ_=>⟨rfl,trivial⟩
def gn {s:Sem Unit}(h:Calm P s):C3 P Yf 0 (do s;pure .skip):=Em h λ_=>⟨rfl,trivial⟩
def pE (b:Bool)(a:Array Bool)(c:Array TypeId)(args:Array Value):C3 P Yf 0 (Builtin.printMarked b a c args):=by
 unfold Builtin.printMarked;refine Em (by exact od _ _ _ _) λe=>?_
 split
 ·exact Ib trivial
 ·exact PC _ _ _
theorem uF (b:Builtin)(a:Array TypeId)(t:TypeId)(cs:Array Bool)(args:Array Value):C3 P Yf 0 (builtin b a t cs args):=by
 unfold builtin;cases b<;>first
  | exact LS AU
  | exact pE _ _ _ _
  | exact Ib trivial
  | exact .inl rfl
  | exact Em (rx _) λ_=>Ib trivial
structure OkP (P:Program):Prop where
 name:∀(f:Nat) (fn:Func),P.funcs[f]?=some fn->(fn.name== "runtime.NumGoroutine")=false
 next:∀(f:Nat) (fn:Func),P.funcs[f]?=some fn->fn.body.isNone=true->Extern.findNext fn=none
 calm:∀(f:Nat) (fn:Func) (e:Array Value->Sem Value),P.funcs[f]?=some fn->fn.body.isNone=true->Extern.find fn=some e->∀args,Calm P (e args)
def Sv {N:α->Prop}(e:RuntimeError):C3 P N 0 (runtimePanic e:Sem α):=by
 unfold runtimePanic;refine O9 ?_;dsimp only;split<;>first | exact .inl rfl | (refine Em AU λ_=>?_;first | exact .inl rfl | (refine Em AU λ_=>?_;exact .inl rfl))
theorem Yn (g:OkP P)(f:FuncId)(args:Array Value):C3 P Yf 0 (callFunc f args):=by
 unfold callFunc;refine O9 ?_;split
 ·exact .inl rfl
 ·rename_i b c
  rw[g.name f b c];by_cases a:b.body.isNone=true
  ·rw[if_neg AU,if_pos a]
   refine Em AU λ_=>?_
   rw[g.next f b c a];simp only[];split
   ·rename_i e i
    exact LS (g.calm f b e c a i args)
   ·split
    ·exact Ib trivial
    ·exact .inl rfl
  ·rw[if_neg AU,if_neg a]
   exact Ib trivial
def TL (a:OkP P)(recv:Value)(name:String)(args:Array Value):C3 P Yf 0 (callMethod recv name args):=by
 unfold callMethod;split
 ·refine O9 ?_
  refine Em AU λx=>?_
  exact Yn a _ _
 ·exact Sv _
 ·exact .inl rfl
def Ns (a:OkP P)(t:Target)(args:Array Value):C3 P Yf 0 (invoke t args):=by
 unfold invoke;split
 ·exact Sv _
 ·exact uF _ _ _ _ _
 ·exact Yn a _ _
 ·split
  ·exact TL a _ _ _
  ·exact .inl rfl
 ·split
  ·refine Em AU λu=>?_
   exact TL a _ _ _
  ·exact .inl rfl
 ·split
  ·refine Em AU λu=>?_
   exact Yn a _ _
  ·exact .inl rfl
 ·exact Ax1 _ _
 ·exact .inl rfl
 ·exact Ib trivial
@[simp] theorem A4j (f:Value)(args:Array Value):Calm P (Deferred.ofValue f args):=by
 unfold Deferred.ofValue;split<;>simp
@[simp] theorem Y5 (a:Operand->Value)(c:Call)(t:TypeId):Calm P (resolve a c t):=by
 unfold resolve;dsimp only;split<;>simp
@[simp] theorem Aw6 (t:TypeId)(x y:Value):Calm P (movedNumber t x y):=by
 unfold movedNumber;exact cmF
@[simp] theorem Awf (t:TypeId)(x y:Value):Calm P (movedPointer t x y):=by
 unfold movedPointer;exact cmF
@[simp] theorem tL (op:BinOp)(t:TypeId)(x y:Operand)(a b:Value):Calm P (eqGuard op t x y a b):=by
 unfold eqGuard;exact cmF
@[simp] theorem Awg (op:BinOp)(t:TypeId)(x y:Value):Calm P (binOp op t x y):=by
 unfold binOp;exact cmF
@[simp] theorem A4m (src dst:TypeId)(x:Value):Calm P (convert src dst x):=by
 unfold convert;exact cmF
theorem Wm (f:OkP P)(e:Operand->Value)(o:Oper):C3 P Yf 0 (execOp e o):=by
 unfold execOp;dsimp only;cases o.op
 case nilCheck x=>
  dsimp only;repeat' first
   | exact Ib trivial
   | exact Sv _
   | refine Em (r6 _ _ _ _) (λ_=>?_)
   | with_reducible refine O9 ?_
   | refine Em Kw (λ_=>?_)
   | split
 case binOp op t x y i=>exact LS (Calm.bind (tL _ _ _ _ _ _) λ_=>Awg _ _ _ _)
 case recv t c k=>
  refine Em (pL _) λd=>?_
  split
  ·exact Em (TT _) λ_=>Ib trivial
  ·exact .inl rfl
 case select g b=>
  exact Em (Hz _ λ_=>Calm.bind (TT _) λ_=>Ad) λ_=>Ib trivial
 case call c=>exact Em (Y5 _ _ _) λ_=>Ns f _ _
 case go c=>exact Em (Y5 _ _ _) λ_=>Ib trivial
 case defer c=>exact Em (Y5 _ _ _) λ_=>Ib trivial
 case pick a b c=>exact Em AU λ_=>Ib trivial
 all_goals first
  | exact Ib trivial
  | exact LS AU
  | exact gn AU
end
