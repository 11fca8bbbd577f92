import Derived.Test.YtfeablpbkcgdjaaGreatDoorA00
set_option linter.defProp false
set_option maxRecDepth 10000
set_option maxHeartbeats 4000000
namespace Go.Co
def IZ:Halt->Prop
 | .unsupported (.initOrder _)=>False
 | .blocked | .waiting | .unsupported _ | .stuck _=>True
 | _=>False
def eR (d:Nat):Mark->Nat
 | .disable=>d+1
 | .enable=>d - 1
 | _=>d
def PU {α:Type}:Sem α->Prop
 | .halt h=>IZ h
 | _=>False
def CZ (P:Program){α:Type}(N:α->Prop):Nat->Sem α->Prop
 | d, .pure a=>d=0/\N a
 | d, .load _ _ k=>∀v,CZ P N d (k v)
 | d, .store _ _ _ k=>CZ P N d k
 | d, .new _ k=>∀r,CZ P N d (k r)
 | d, .shape _ k=>∀s,CZ P N d (k s)
 | d, .freeze _ _ k=>CZ P N d k
 | d, .frozen _ k=>∀b,CZ P N d (k b)
 | d, .getObj _ k=>∀o,CZ P N d (k o)
 | d, .setObj _ _ k=>CZ P N d k
 | d, .choose _ k=>∀n,CZ P N d (k n)
 | d, .sys _ k=>PU (k .wouldBlock)/\∀r,CZ P N d (k r)
 | d, .program k=>CZ P N d (k P)
 | d, .mark m k=>CZ P N (eR d m) k
 | d, .halt h=>d=0\/IZ h
def Calm (P:Program){α:Type}(s:Sem α):Prop:=CZ P (λ_=>True) 0 s
section
variable {γ:Type}
variable {P:Program}{α β:Type}
theorem ti {M:α->Prop}{N:β->Prop}{f:α->Sem β}(e:∀a,M a->CZ P N 0 (f a)):∀(s:Sem α) (d:Nat),CZ P M d s->CZ P N d (s.bind f):=by
 intro s;induction s with
 | pure a=>intro d h;obtain⟨rfl,h⟩:=h;exact e a h
 | load m a k b=>exact λd h v=>b v d (h v)
 | store m a v k b=>exact λd h=>b d h
 | new o k b=>exact λd h v=>b v d (h v)
 | shape r k b=>exact λd h v=>b v d (h v)
 | freeze a n k b=>exact λd h=>b d h
 | frozen a k b=>exact λd h v=>b v d (h v)
 | getObj r k b=>exact λd h v=>b v d (h v)
 | setObj r o k b=>exact λd h=>b d h
 | choose q k b=>exact λd h v=>b v d (h v)
 | sys c k b=>
  intro d h;refine⟨?_,λr=>b r d (h.2 r)⟩;have g:=h.1;show PU ((k .wouldBlock).bind f)
  revert g
  cases k .wouldBlock<;>simp only[PU,false_implies,Sem.bind]
  exact id
 | program k b=>exact λd h=>b P d h
 | mark m k b=>exact λd h=>b _ h
 | halt x=>exact λd h=>h
def D9 {N:β->Prop}{s:Sem α}{f:α->Sem β}(c:Calm P s)(b:∀a,CZ P N 0 (f a)):CZ P N 0 (s>>=f):=ti (λa _=>b a) s 0 c
def G5 {N:α->Prop}{a:α}(h:N a):CZ P N 0 (pure a:Sem α):=⟨rfl,h⟩
@[simp] theorem Ae {a:α}:Calm P (pure a:Sem α):=⟨rfl,trivial⟩
@[simp] theorem A5o {a:Addr}{m:Mode}:Calm P (load a m):=λ_=>⟨rfl,trivial⟩
@[simp] theorem s9 {a:Addr}{v:Value}{m:Mode}:Calm P (store a v m):=⟨rfl,trivial⟩
@[simp] theorem A38 {o:Obj}:Calm P (newObj o):=λ_=>⟨rfl,trivial⟩
@[simp] theorem A4x {r:Nat}:Calm P (shape r):=λ_=>⟨rfl,trivial⟩
@[simp] theorem A4c {a:Addr}{n:Nat}:Calm P (freeze a n):=⟨rfl,trivial⟩
@[simp] theorem A4b {a:Addr}:Calm P (frozen a):=λ_=>⟨rfl,trivial⟩
@[simp] theorem oK {r:Nat}:Calm P (getObj r):=λ_=>⟨rfl,trivial⟩
@[simp] theorem SZ {r:Nat}{o:Obj}:Calm P (setObj r o):=⟨rfl,trivial⟩
@[simp] theorem J3 {q:Question}:Calm P (choose q):=λ_=>⟨rfl,trivial⟩
@[simp] theorem k7:Calm P program:=⟨rfl,trivial⟩
@[simp] theorem A35:Calm P (mark .noRoom):=⟨rfl,trivial⟩
@[simp] theorem A4a {f:FuncId}:Calm P (mark (.extern f)):=⟨rfl,trivial⟩
@[simp] theorem D7 {s:String}:Calm P (stuck s:Sem α):=.inl rfl
@[simp] theorem Je {u:Unsupported}:Calm P (unsupported u:Sem α):=.inl rfl
@[simp] theorem A2h {v:Value}:Calm P (goPanic v:Sem α):=.inl rfl
@[simp] theorem A4w {s:String}:Calm P (throw s:Sem α):=.inl rfl
def Calm.bind {s:Sem α}{f:α->Sem β}(c:Calm P s)(b:∀a,Calm P (f a)):Calm P (s>>=f):=D9 c b
def cmF {P:Program}{α:Type}{x:Sem α}(h:Calm P x:=by repeat' first | exact Ae | (simp;done) | refine Calm.bind ?_ (λ_=>?_) | split):Calm P x:=h
def Calm.map {s:Sem α}{f:α->β}(a:Calm P s):Calm P (f<$>s):=D9 a λ_=>⟨rfl,trivial⟩
def cmG {P:Program}{α:Type}{x:Sem α}(h:Calm P x:=by repeat' first | exact Ae | exact Or.inl rfl | assumption | (simp;done) | refine Calm.bind ?_ (λ_=>?_) | dsimp only | refine Calm.map ?_ | split | intro _):Calm P x:=h
def cmC {P:Program}{α:Type}{x:Sem α}(h:Calm P x:=by repeat' first | exact Ae | exact Or.inl rfl | assumption | (simp;done) | refine Calm.bind ?_ (λ_=>?_) | dsimp only | refine Calm.map ?_ | split | intro _):Calm P x:=h
theorem Gy (l:List γ){f:γ->β->Sem (ForInStep β)}(c:∀a b,Calm P (f a b)):∀b,Calm P (forIn l b f):=by
 induction l with
 | nil=>exact λb=>by rw[List.forIn_nil];exact Ae
 | cons a l e=>
  intro b;rw[List.forIn_cons];refine Calm.bind (c a b) λr=>?_
  cases r with
  | done b=>exact Ae
  | yield b=>exact e b
def Gx (l:Array γ){f:γ->β->Sem (ForInStep β)}(c:∀a b,Calm P (f a b))(b:β):Calm P (forIn l b f):=by
 rw[<-Array.forIn_toList];exact Gy _ c b
def Gw (r:Std.Legacy.Range){f:Nat->β->Sem (ForInStep β)}(c:∀a b,Calm P (f a b))(b:β):Calm P (forIn r b f):=by
 rw[Std.Legacy.Range.forIn_eq_forIn_range'];exact Gy _ c b
theorem lB (l:List γ):∀{f:(a:γ)->a∈l->β->Sem (ForInStep β)} (_:∀a h b,Calm P (f a h b)) (b:β),Calm P (forIn' l b f):=by
 induction l with
 | nil=>exact λ_ b=>by rw[List.forIn'_nil];exact Ae
 | cons a l e=>
  intro f c b;rw[List.forIn'_cons];refine Calm.bind (c _ _ b) λr=>?_
  cases r with
  | done b=>exact Ae
  | yield b=>exact e (λ_ _ _=>c _ _ _) b
def lA (r:Std.Legacy.Range){f:(i:Nat)->i∈r->β->Sem (ForInStep β)}(c:∀a h b,Calm P (f a h b))(b:β):Calm P (forIn' r b f):=by
 rw[Std.Legacy.Range.forIn'_eq_forIn'_range'];exact lB _ (λ_ _ _=>c _ _ _) b
def oM (l:List γ){f:β->γ->Sem β}(c:∀a b,Calm P (f a b)):∀b,Calm P (l.foldlM f b):=by
 induction l with
 | nil=>exact λb=>Ae
 | cons a l e=>exact λb=>by rw[List.foldlM_cons];exact Calm.bind (c b a) e
def Gu (l:List γ){f:γ->Sem β}(b:∀a,Calm P (f a)):Calm P (l.mapM f):=by
 induction l with
 | nil=>rw[List.mapM_nil];exact Ae
 | cons a l c=>rw[List.mapM_cons];exact Calm.bind (b a) λ_=>Calm.bind c λ_=>Ae
def Gv (l:Array γ){f:γ->Sem β}(b:∀a,Calm P (f a)):Calm P (l.mapM f):=by
 rw[Array.mapM_eq_mapM_toList];exact Calm.map (Gu _ b)
def cmE {P:Program}{α:Type}{x:Sem α}(h:Calm P x:=by repeat' first | exact Ae | assumption | (simp;done) | exact ih _ | exact ih _ _ | exact ih _ _ _ | exact ih _ _ _ _ | refine Calm.bind ?_ (λ_=>?_) | refine Gy _ (λ_ _=>?_) _ | refine Gx _ (λ_ _=>?_) _ | refine Gw _ (λ_ _=>?_) _ | refine Gv _ (λ_=>?_) | refine Gu _ (λ_=>?_) | dsimp only | refine Calm.map ?_ | split | intro _):Calm P x:=h
def cmD {P:Program}{α:Type}{x:Sem α}(h:Calm P x:=by repeat' first | exact Ae | assumption | (simp;done) | refine Calm.bind ?_ (λ_=>?_) | refine Gy _ (λ_ _=>?_) _ | refine Gx _ (λ_ _=>?_) _ | refine Gw _ (λ_ _=>?_) _ | refine Gv _ (λ_=>?_) | refine Gu _ (λ_=>?_) | dsimp only | refine Calm.map ?_ | split | intro _):Calm P x:=h
def A9 {P:Program}{α:Type}{x:Sem α}(h:Calm P x:=by repeat' first | exact Ae | assumption | (simp;done) | refine Calm.bind ?_ (λ_=>?_) | refine Gy _ (λ_ _=>?_) _ | refine Gx _ (λ_ _=>?_) _ | refine Gw _ (λ_ _=>?_) _ | refine Gv _ (λ_=>?_) | refine Gu _ (λ_=>?_) | refine oM _ (λ_ _=>?_) _ | refine lA _ (λ_ _ _=>?_) _ | dsimp only | refine Calm.map ?_ | split | intro _):Calm P x:=h
def Ao {P:Program}{α:Type}{x:Sem α}(h:Calm P x:=by repeat' first | exact Ae | assumption | (simp;done) | refine Calm.bind ?_ (λ_=>?_) | refine Gy _ (λ_ _=>?_) _ | refine Gx _ (λ_ _=>?_) _ | refine Gw _ (λ_ _=>?_) _ | refine Gv _ (λ_=>?_) | refine Gu _ (λ_=>?_) | dsimp only | refine Calm.map ?_ | split | intro _):Calm P x:=h
end
section
variable {P:Program}
@[simp] theorem A2l (bytes):Calm P (askRoom bytes):=by
 unfold askRoom;exact Ao
@[simp] theorem A31 (r):Calm P (viewAt r):=by
 unfold viewAt;exact Ao
@[simp] theorem A1p (r):Calm P (numberAt r):=by
 unfold numberAt;exact Ao
@[simp] theorem A2k (r):Calm P (cellsIn r):=by
 unfold cellsIn;exact Ao
@[simp] theorem A1s (a lost):Calm P (asNumber a lost):=by
 unfold asNumber;exact Ao
@[simp] theorem Atx (n):Calm P (behindNumber n):=by
 unfold behindNumber;exact Ao
@[simp] theorem A34 (a):Calm P (noView a):=by
 unfold noView;exact Ao
@[simp] theorem Ap9 (a):Calm P (markStringish a):=by
 unfold markStringish;exact Ao
@[simp] theorem Azc (a):Calm P (stringish a):=by
 unfold stringish;exact Ao
@[simp] theorem A1q (a b):Calm P (mayBeOne a b):=by
 unfold mayBeOne;exact Ao
@[simp] theorem A1o (a b):Calm P (sameAddr a b):=by
 unfold sameAddr;exact Ao
@[simp] theorem Auj (x0 x1):Calm P (samePointer x0 x1):=by
 unfold samePointer;exact Ao
@[simp] theorem jW (t):Calm P (typeInfo t):=by
 unfold typeInfo;exact Ao
@[simp] theorem gj (t):Calm P (underlying t):=by
 unfold underlying;exact Ao
@[simp] theorem A2i (name):Calm P (cutType name):=by
 unfold cutType;exact Ao
@[simp] theorem A2f (t):Calm P (typeStr t):=by
 unfold typeStr;exact Ao
@[simp] theorem Yk (t):Calm P (zeroValue t):=by
 unfold zeroValue;exact Ao
@[simp] theorem A32 (t):Calm P (sizeOf t):=by
 unfold sizeOf;exact Ao
@[simp] theorem A4y (t):Calm P (isAgg t):=by
 unfold isAgg;exact Ao
@[simp] theorem Aqa:∀(b:Nat) (a:Addr) (i:Nat) (c:Array Value),Calm P (loadCellsFrom a i b c:Sem (Array Value)):=by
 intro b;induction b with
 | zero=>
  intros
  unfold loadCellsFrom;repeat' first
   | exact Ae
   | assumption
   | (simp;done)
   | refine Calm.bind ?_ (λ_=>?_)
   | refine Gy _ (λ_ _=>?_) _
   | refine Gx _ (λ_ _=>?_) _
   | refine Gw _ (λ_ _=>?_) _
   | refine Gv _ (λ_=>?_)
   | refine Gu _ (λ_=>?_)
   | dsimp only
   | refine Calm.map ?_
   | split
   | intro _
 | succ n ih=>
  intros
  unfold loadCellsFrom;exact cmE
@[simp] theorem Azd (a n):Calm P (loadCells a n):=by
 unfold loadCells;exact Ao
def gC (a:Addr):∀(b:List Value) (i:Nat),Calm P (storeCells a b i):=by
 intro b;induction b with
 | nil=>exact λ_=>Ae
 | cons v l c=>exact λi=>Calm.bind s9 λ_=>c (i+1)
@[simp] theorem Aym (a:Addr)(vs:List Value)(i:Nat):Calm P (storeCells a vs i):=gC a vs i
@[simp] theorem k9 (t a):Calm P (loadVar t a):=by
 unfold loadVar;exact Ao
@[simp] theorem A1n (t a v):Calm P (storeVar t a v):=by
 unfold storeVar;exact Ao
@[simp] theorem A37 (elem cells):Calm P (newRow elem cells):=by
 unfold newRow;exact Ao
@[simp] theorem A36 (t v):Calm P (newVar t v):=by
 unfold newVar;exact Ao
@[simp] theorem A4e (t):Calm P (elemOf t):=by
 unfold elemOf;exact Ao
@[simp] theorem A5n (t cs off):Calm P (part t cs off):=by
 unfold part;exact Ao
@[simp] theorem Aul {α:Type}(a:String):Calm P (panicString a:Sem α):=by
 unfold panicString;exact Ao
@[simp] theorem Ox {α:Type}(e:RuntimeError):Calm P (runtimePanic e:Sem α):=by
 unfold runtimePanic;exact Ao
@[simp] theorem Auo {α:Type}(k:IntKind)(x:Int)(y:Int)(code:BoundsCode):Calm P (boundsPanic k x y code:Sem α):=by
 unfold boundsPanic;exact Ao
@[simp] theorem A2m (x0):Calm P (asIntOf x0):=by
 unfold asIntOf;exact Ao
@[simp] theorem A4z (v):Calm P (asInt v):=by
 unfold asInt;exact Ao
@[simp] theorem A4g (x0):Calm P (asBool x0):=by
 unfold asBool;exact Ao
@[simp] theorem A1r (x0):Calm P (asString x0):=by
 unfold asString;exact Ao
@[simp] theorem A40 (x0):Calm P (asAgg x0):=by
 unfold asAgg;exact Ao
@[simp] theorem oP (x0):Calm P (asAddr x0):=by
 unfold asAddr;exact Ao
@[simp] theorem A4f (a):Calm P (byteOf a):=by
 unfold byteOf;exact Ao
@[simp] theorem A33 (base cells bytes):Calm P (partAt base cells bytes):=by
 unfold partAt;exact Ao
@[simp] theorem Ayo (a f):Calm P (fieldPlace a f):=by
 unfold fieldPlace;exact Ao
@[simp] theorem Aui (a u n):Calm P (variablesAt a u n):=by
 unfold variablesAt;exact Ao
@[simp] theorem Aze:∀(b:Nat) (a:Addr) (acc:ByteArray),Calm P (loadBytes a acc b:Sem ByteArray):=by
 intro b;induction b with
 | zero=>
  intros
  unfold loadBytes;repeat' first
   | exact Ae
   | assumption
   | (simp;done)
   | refine Calm.bind ?_ (λ_=>?_)
   | refine Gy _ (λ_ _=>?_) _
   | refine Gx _ (λ_ _=>?_) _
   | refine Gw _ (λ_ _=>?_) _
   | refine Gv _ (λ_=>?_)
   | refine Gu _ (λ_=>?_)
   | dsimp only
   | refine Calm.map ?_
   | split
   | intro _
 | succ n ih=>
  intros
  unfold loadBytes;exact cmE
end
section
variable {P:Program}
@[simp] theorem Azg (op k x y):Calm P (Op.intDiv op k x y):=by
 unfold Op.intDiv;exact Ao
@[simp] theorem A1u (op k x _yk y):Calm P (Op.shift op k x _yk y):=by
 unfold Op.shift;exact Ao
@[simp] theorem Azh (op x y):Calm P (Op.intCmp op x y):=by
 unfold Op.intCmp;exact Ao
@[simp] theorem Aqb (op k x y):Calm P (Op.floatArith op k x y):=by
 unfold Op.floatArith;exact Ao
@[simp] theorem Auq (op k x y):Calm P (Op.floatCmp op k x y):=by
 unfold Op.floatCmp;exact Ao
@[simp] theorem Amf (src bits dst):Calm P (Conv.floatToInt src bits dst):=by
 unfold Conv.floatToInt;exact Ao
@[simp] theorem Ajp (src bits dst):Calm P (Conv.floatToFloat src bits dst):=by
 unfold Conv.floatToFloat;exact Ao
@[simp] theorem Afj (src re im dst):Calm P (Conv.complexToComplex src re im dst):=by
 unfold Conv.complexToComplex;exact Ao
@[simp] theorem Ai8 (elem s):Calm P (Conv.stringToBytes elem s):=by
 unfold Conv.stringToBytes;exact Ao
@[simp] theorem Aja (x):Calm P (Conv.bytesToString x):=by
 unfold Conv.bytesToString;exact Ao
@[simp] theorem Ai7 (elem s):Calm P (Conv.stringToRunes elem s):=by
 unfold Conv.stringToRunes;exact Ao
@[simp] theorem Ai9 (x):Calm P (Conv.runesToString x):=by
 unfold Conv.runesToString;exact Ao
@[simp] theorem Au1 (a):Calm P (Conv.seenAt a):=by
 unfold Conv.seenAt;exact Ao
@[simp] theorem Ai6 (src dst x):Calm P (Conv.unsafePointer src dst x):=by
 unfold Conv.unsafePointer;exact Ao
@[simp] theorem Alt (op k x y):Calm P (Op.Complex.arith op k x y):=by
 unfold Op.Complex.arith;exact Ao
@[simp] theorem Amb (src x dst):Calm P (Op.Complex.conv src x dst):=by
 unfold Op.Complex.conv;exact Ao
@[simp] theorem Aiz (a b c d):Calm P (Op.Complex.product a b c d):=by
 unfold Op.Complex.product;exact Ao
@[simp] theorem Af6 (scale a b c d):Calm P (Op.Complex.corrected scale a b c d):=by
 unfold Op.Complex.corrected;exact Ao
@[simp] theorem Ahb (a b c d):Calm P (Op.Complex.quotient a b c d):=by
 unfold Op.Complex.quotient;exact Ao
@[simp] theorem At1 (op k xr xi yr yi):Calm P (Op.complexOp op k xr xi yr yi):=by
 unfold Op.complexOp;exact Ao
@[simp] theorem Aup (op x y):Calm P (Op.stringOp op x y):=by
 unfold Op.stringOp;exact Ao
@[simp] theorem Ayp:∀(a:Nat) (b:TypeId) (c:Value) (e:Value),Calm P (Op.equalIn a b c e:Sem Bool):=by
 intro a;induction a with
 | zero=>
  intros
  unfold Op.equalIn;repeat' first
   | exact Ae
   | assumption
   | (simp;done)
   | refine Calm.bind ?_ (λ_=>?_)
   | refine Gy _ (λ_ _=>?_) _
   | refine Gx _ (λ_ _=>?_) _
   | refine Gw _ (λ_ _=>?_) _
   | refine Gv _ (λ_=>?_)
   | refine Gu _ (λ_=>?_)
   | dsimp only
   | refine Calm.map ?_
   | split
   | intro _
 | succ n ih=>
  intros
  unfold Op.equalIn;exact cmE
@[simp] theorem A1v (t x y):Calm P (Op.equal t x y):=by
 unfold Op.equal;exact Ao
@[simp] theorem Atz:∀(a:Nat) (b:TypeId) (c:Value) (e:Value),Calm P (Op.eqGuardIn a b c e:Sem Bool):=by
 intro a;induction a with
 | zero=>
  intros
  unfold Op.eqGuardIn;repeat' first
   | exact Ae
   | assumption
   | (simp;done)
   | refine Calm.bind ?_ (λ_=>?_)
   | refine Gy _ (λ_ _=>?_) _
   | refine Gx _ (λ_ _=>?_) _
   | refine Gw _ (λ_ _=>?_) _
   | refine Gv _ (λ_=>?_)
   | refine Gu _ (λ_=>?_)
   | dsimp only
   | refine Calm.map ?_
   | split
   | intro _
 | succ n ih=>
  intros
  unfold Op.eqGuardIn;exact cmE
@[simp] theorem Aty (a b):Calm P (Op.twoPlaces a b):=by
 unfold Op.twoPlaces;exact Ao
@[simp] theorem Ayq (k a b):Calm P (Op.addrSub k a b):=by
 unfold Op.addrSub;exact Ao
@[simp] theorem Ays (op a b):Calm P (Op.addrCmp op a b):=by
 unfold Op.addrCmp;exact Ao
@[simp] theorem Ayr (k a n):Calm P (Op.addrMod k a n):=by
 unfold Op.addrMod;exact Ao
@[simp] theorem A1t (op x):Calm P (Op.unary op x):=by
 unfold Op.unary;exact Ao
end
section
variable {P:Program}
@[simp] theorem Au0 (elem heap old):Calm P (Instr.alloc elem heap old):=by
 unfold Instr.alloc;exact Ao
@[simp] theorem Alv (x y code):Calm P (Instr.sliceBound x y code):=by
 unfold Instr.sliceBound;exact Ao
@[simp] theorem Ajn (isSlice len cap low high max):Calm P (Instr.sliceBounds isSlice len cap low high max):=by
 unfold Instr.sliceBounds;exact Ao
@[simp] theorem Aus (xType x low high max):Calm P (Instr.slice xType x low high max):=by
 unfold Instr.slice;exact Ao
@[simp] theorem Aop (x0):Calm P (Instr.sureAddr x0):=by
 unfold Instr.sureAddr;exact Ao
@[simp] theorem At4 (t addr):Calm P (Instr.loadAt t addr):=by
 unfold Instr.loadAt;exact Ao
@[simp] theorem Aqc (t addr val):Calm P (Instr.storeAt t addr val):=by
 unfold Instr.storeAt;exact Ao
@[simp] theorem Aqh (s addr field):Calm P (Instr.fieldAt s addr field):=by
 unfold Instr.fieldAt;exact Ao
@[simp] theorem Aqf (t x index):Calm P (Instr.indexAt t x index):=by
 unfold Instr.indexAt;exact Ao
@[simp] theorem Aqd (t x low high max):Calm P (Instr.sliceAt t x low high max):=by
 unfold Instr.sliceAt;exact Ao
@[simp] theorem Aqk (arr x):Calm P (Instr.arrayAt arr x):=by
 unfold Instr.arrayAt;exact Ao
@[simp] theorem Azi (elem v):Calm P (Instr.box elem v):=by
 unfold Instr.box;exact Ao
@[simp] theorem Auz (t parts):Calm P (Instr.build t parts):=by
 unfold Instr.build;exact Ao
@[simp] theorem Al0 (t len parts):Calm P (Instr.buildSlice t len parts):=by
 unfold Instr.buildSlice;exact Ao
@[simp] theorem Aur (g):Calm P (Instr.waits g):=by
 unfold Instr.waits;exact Ao
@[simp] theorem Aut (g):Calm P (Instr.ready g):=by
 unfold Instr.ready;exact Ao
@[simp] theorem Ahc (xType x):Calm P (Instr.makeInterface xType x):=by
 unfold Instr.makeInterface;exact Ao
@[simp] theorem Aqe (t reserve):Calm P (Instr.makeMap t reserve):=by
 unfold Instr.makeMap;exact Ao
@[simp] theorem Aor (t size):Calm P (Instr.makeChan t size):=by
 unfold Instr.makeChan;exact Ao
@[simp] theorem Amd (t len cap):Calm P (Instr.makeSlice t len cap):=by
 unfold Instr.makeSlice;exact Ao
@[simp] theorem Aux (xType x field):Calm P (Instr.field xType x field):=by
 unfold Instr.field;exact Ao
@[simp] theorem Auw (xType x index):Calm P (Instr.index xType x index):=by
 unfold Instr.index;exact Ao
@[simp] theorem Aot:∀(a:Nat) (empty:Bool) (b:TypeId) (c:Value),Calm P (Instr.checkKey empty a b c:Sem Unit):=by
 intro a;induction a with
 | zero=>
  intros
  unfold Instr.checkKey;repeat' first
   | exact Ae
   | assumption
   | (simp;done)
   | refine Calm.bind ?_ (λ_=>?_)
   | refine Gy _ (λ_ _=>?_) _
   | refine Gx _ (λ_ _=>?_) _
   | refine Gw _ (λ_ _=>?_) _
   | refine Gv _ (λ_=>?_)
   | refine Gu _ (λ_=>?_)
   | dsimp only
   | refine Calm.map ?_
   | split
   | intro _
 | succ n ih=>
  intros
  unfold Instr.checkKey;exact cmE
@[simp] theorem Aly (keyType:TypeId)(k:Value):∀(a:List MapEntry) (i:Nat),Calm P (Instr.findAsking keyType k a i):=by
 intro a;induction a with
 | nil=>exact λ_=>Ae
 | cons e a c=>
  intro i;refine Calm.bind AW λb=>?_
  cases b
  .exact c _
  .exact Ae
@[simp] theorem Aqg (keyType k es):Calm P (Instr.findKey keyType k es):=by
 unfold Instr.findKey;exact Ao
@[simp] theorem At3 (xType x index commaOk):Calm P (Instr.lookup xType x index commaOk):=by
 unfold Instr.lookup;exact Ao
@[simp] theorem Ai1 (old new):Calm P (Instr.keyThatStays old new):=by
 unfold Instr.keyThatStays;exact Ao
@[simp] theorem Amc (mapType map key value):Calm P (Instr.mapUpdate mapType map key value):=by
 unfold Instr.mapUpdate;exact Ao
@[simp] theorem Aoq (mapType map key):Calm P (Instr.mapEntry mapType map key):=by
 unfold Instr.mapEntry;exact Ao
@[simp] theorem Alz (_mapType map stamp value):Calm P (Instr.entryStore _mapType map stamp value):=by
 unfold Instr.entryStore;exact Ao
@[simp] theorem Auu (xType x):Calm P (Instr.range xType x):=by
 unfold Instr.range;exact Ao
@[simp] theorem Ayt (iter isString _type):Calm P (Instr.next iter isString _type):=by
 unfold Instr.next;exact Ao
@[simp] theorem Auy (iter):Calm P (Instr.entry iter):=by
 unfold Instr.entry;exact Ao
theorem RO (argTypes t a b):Calm P (Builtin.ssaWrapNilChk_ argTypes t #[.pointer none, .string a, .string b]):=by
 refine Calm.bind (s:=choose (Question.extern "ssa:wrapnilchk.dereferenced" 2)) AW (λn=>?_);repeat' first
  | exact Ae
  | assumption
  | (simp;done)
  | refine Calm.bind ?_ (λ_=>?_)
  | dsimp only
  | refine Calm.map ?_
  | split
  | intro _
@[simp] theorem Afk (argTypes t args):Calm P (Builtin.ssaWrapNilChk_ argTypes t args):=by
 rcases args with⟨_ | ⟨c,_ | ⟨b,_ | ⟨e,_ | ⟨f,l⟩⟩⟩⟩⟩
 case cons.cons.cons.nil=>
  cases b<;>first
   | exact D7
   | (cases e<;>first
    | exact D7
    | (cases c<;>first
     | exact D7
     | (rename_i o _ _;cases o<;>first | exact Ae (a:=Value.pointer (some _)) | exact RO _ _ _ _)
     | (rename_i o;cases o<;>first | exact Ae (a:=Value.pointer (some _)) | exact RO _ _ _ _)))
 all_goals exact D7
@[simp] theorem Azf (t x0):Calm P (Place.get t x0):=by
 unfold Place.get;exact Ao
@[simp] theorem A4d:∀(a:List FieldStep) (b:TypeId) (c:Place),Calm P (follow a b c:Sem (TypeId × Place)):=by
 intro a;induction a with
 | nil=>
  intros
  unfold follow;repeat' first
   | exact Ae
   | assumption
   | (simp;done)
   | refine Calm.bind ?_ (λ_=>?_)
   | refine Gy _ (λ_ _=>?_) _
   | refine Gx _ (λ_ _=>?_) _
   | refine Gw _ (λ_ _=>?_) _
   | refine Gv _ (λ_=>?_)
   | refine Gu _ (λ_=>?_)
   | dsimp only
   | refine Calm.map ?_
   | split
   | intro _
 | cons y l ih=>
  intros
  unfold follow;exact cmE
@[simp] theorem Ayn (xt x pointerReceiver wrapper):Calm P (receiverAt xt x pointerReceiver wrapper):=by
 unfold receiverAt;exact Ao
@[simp] theorem Auk (t v path pointerReceiver):Calm P (receiverVia t v path pointerReceiver):=by
 unfold receiverVia;exact Ao
@[simp] theorem A39:∀(a:Nat) (b:TypeId) (c:Value) (e:String),Calm P (method a b c e:Sem (FuncId × Value)):=by
 intro a;induction a with
 | zero=>
  intros
  unfold method;repeat' first
   | exact Ae
   | assumption
   | (simp;done)
   | refine Calm.bind ?_ (λ_=>?_)
   | refine Gy _ (λ_ _=>?_) _
   | refine Gx _ (λ_ _=>?_) _
   | refine Gw _ (λ_ _=>?_) _
   | refine Gv _ (λ_=>?_)
   | refine Gu _ (λ_=>?_)
   | dsimp only
   | refine Calm.map ?_
   | split
   | intro _
 | succ n ih=>
  intros
  unfold method;exact cmE
@[simp] theorem Aun:∀(a:List FieldStep) (b:TypeId) (c:Option Value),Calm P (followBlind a b c:Sem (Except (Option Bool) (TypeId × Option Value))):=by
 intro a;induction a with
 | nil=>
  intros
  unfold followBlind;repeat' first
   | exact Ae
   | assumption
   | (simp;done)
   | refine Calm.bind ?_ (λ_=>?_)
   | refine Gy _ (λ_ _=>?_) _
   | refine Gx _ (λ_ _=>?_) _
   | refine Gw _ (λ_ _=>?_) _
   | refine Gv _ (λ_=>?_)
   | refine Gu _ (λ_=>?_)
   | dsimp only
   | refine Calm.map ?_
   | split
   | intro _
 | cons y l ih=>
  intros
  unfold followBlind;exact cmE
@[simp] theorem jY:∀(a:Nat) (b:TypeId) (c:Value) (e:String),Calm P (nilAhead a b c e:Sem (Option Bool)):=by
 intro a;induction a with
 | zero=>
  intros
  unfold nilAhead;repeat' first
   | exact Ae
   | assumption
   | (simp;done)
   | refine Calm.bind ?_ (λ_=>?_)
   | refine Gy _ (λ_ _=>?_) _
   | refine Gx _ (λ_ _=>?_) _
   | refine Gw _ (λ_ _=>?_) _
   | refine Gv _ (λ_=>?_)
   | refine Gu _ (λ_=>?_)
   | dsimp only
   | refine Calm.map ?_
   | split
   | intro _
 | succ n ih=>
  intros
  unfold nilAhead;exact cmE
@[simp] theorem Alu (x xType asserted commaOk):Calm P (Instr.typeAssert x xType asserted commaOk):=by
 unfold Instr.typeAssert;exact Ao
@[simp] theorem Aqi (tuple index):Calm P (Instr.extract tuple index):=by
 unfold Instr.extract;exact Ao
end
section
variable {P:Program}
@[simp] theorem Ajb (a:Addr)(cells:Nat):Calm P (Go.Builtin.holdsCells a cells:Sem Bool):=by
  unfold Go.Builtin.holdsCells;repeat' first
    | exact Ae
    | (simp;done)
    | refine Calm.bind ?_ (λ_=>?_)
    | split
@[simp] theorem Al2 (size a n:Nat)(base:Option Addr)(x:Value):Calm P (Go.Builtin.mayShare size a n base x):=by
  unfold Go.Builtin.mayShare;repeat' first
    | exact Ae
    | (simp;done)
    | refine Calm.bind ?_ (λ_=>?_)
    | dsimp only
    | refine Calm.map ?_
    | split
@[simp] theorem Aql (x:Value):Calm P (Go.Builtin.lenOf x):=by
  unfold Go.Builtin.lenOf;split<;>simp
@[simp] theorem Ajc (size n:Nat)(x:Value):Calm P (Go.Builtin.firstCells size n x):=by
  unfold Go.Builtin.firstCells;split<;>simp
@[simp] theorem Aov (argTypes:Array TypeId)(_type:TypeId)(args:Array Value) :Calm P (Builtin.append_ argTypes _type args):=by
  unfold Builtin.append_;split
  . refine Calm.bind AW λd=>?_
    split
    . split
      . refine Calm.bind AW λsize=>?_
        dsimp only;have two:∀z:Bool,Calm P (pure z:Sem Bool):=λ_=>Ae
        split
        . refine Calm.bind AW λu=>?_
          split<;>
          (refine Calm.bind (two _) λz=>?_
           cases z<;>simp only[DR,C5,Bool.not_false,if_true,J1,false_or,true_or,F3]<;>
           repeat' first
             | exact Ae
             | with_reducible refine Calm.bind ?_ (λ_=>?_)
             | with_reducible refine Calm.map ?_
             | split
             | (simp;done))
        . refine Calm.bind (two _) λz=>?_
          cases z<;>simp only[DR,C5,Bool.not_false,if_true,J1,false_or,true_or,F3]<;>
          repeat' first
            | exact Ae
            | with_reducible refine Calm.bind ?_ (λ_=>?_)
            | with_reducible refine Calm.map ?_
            | split
            | (simp;done)
      . simp
    . simp
  . simp
@[simp] theorem Aqm (a:Array TypeId)(t:TypeId)(args:Array Value):Calm P (Builtin.close_ a t args):=by
  rcases args with⟨_ | ⟨b,_ | ⟨e,l⟩⟩⟩
  . exact D7
  . cases b<;>first
      | exact D7
      | (rename_i o
         cases o
         . exact Ox (.plain "close of nil channel")
         . refine Calm.bind (s:=getObj _) oK λo=>?_
           cases o<;>first
             | exact D7
             | (rename_i c _ _ _;cases c
                . exact Calm.bind (s:=setObj _ _) SZ λ_=>Ae
                . exact Calm.bind (s:=runtimePanic _) (Ox _) λ_=>Calm.bind (s:=setObj _ _) SZ λ_=>Ae))
  . exact D7
@[simp] theorem Amg (a:Array TypeId)(t:TypeId)(args:Array Value):Calm P (Builtin.complex_ a t args):=by
  rcases args with⟨_ | ⟨c,_ | ⟨b,_ | ⟨e,l⟩⟩⟩⟩
  case cons.cons.nil=>
    cases c<;>cases b<;>first
      | exact D7
      | (show Calm P (if _=_ then pure _ else stuck _)
         split<;>simp)
  all_goals exact D7
@[simp] theorem At8 (a:Array TypeId)(t:TypeId)(args:Array Value):Calm P (Builtin.imag_ a t args):=by
  rcases args with⟨_ | ⟨b,_ | ⟨c,l⟩⟩⟩
  case cons.nil=>
    cases b<;>first
      | exact D7
      | exact Ae
  all_goals exact D7
@[simp] theorem At5 (a:Array TypeId)(t:TypeId)(args:Array Value):Calm P (Builtin.real_ a t args):=by
  rcases args with⟨_ | ⟨b,_ | ⟨c,l⟩⟩⟩
  case cons.nil=>
    cases b<;>first
      | exact D7
      | exact Ae
  all_goals exact D7
def zz {p:Prop}(h:p:=by
 cases y0<;>first
   | exact D7
   | (refine Calm.bind (s:=asInt y1) AW λn=>?_
      repeat' first
        | exact Ae
        | (simp;done)
        | refine Calm.bind ?_ (λ_=>?_)
        | split)):p:=h
@[simp] theorem Ajq (a:Array TypeId)(t:TypeId)(args:Array Value):Calm P (Builtin.unsafeAdd_ a t args):=by
  rcases args with⟨_ | ⟨y0,_ | ⟨y1,_ | ⟨b,l⟩⟩⟩⟩
  case cons.cons.nil=>exact zz
  all_goals exact D7
@[simp] theorem Ahf (a:Array TypeId)(t:TypeId)(args:Array Value):Calm P (Builtin.unsafeSlice_ a t args):=by
  rcases args with⟨_ | ⟨y0,_ | ⟨y1,_ | ⟨b,l⟩⟩⟩⟩
  case cons.cons.nil=>exact zz
  all_goals exact D7
@[simp] theorem Ac9 (a:Array TypeId)(t:TypeId)(args:Array Value):Calm P (Builtin.unsafeSliceData_ a t args):=by
  rcases args with⟨_ | ⟨b,_ | ⟨f,l⟩⟩⟩
  case cons.nil=>
    cases b<;>first
      | exact D7
      | (rename_i o n c
         cases o
         . exact Ae
         . rename_i e
           show Calm P (if _ then pure _ else _)
           repeat' first
             | exact Ae
             | (simp;done)
             | refine Calm.bind ?_ (λ_=>?_)
             | split)
  all_goals exact D7
@[simp] theorem Af8 (a:Array TypeId)(t:TypeId)(args:Array Value):Calm P (Builtin.unsafeString_ a t args):=by
  rcases args with⟨_ | ⟨y0,_ | ⟨y1,_ | ⟨b,l⟩⟩⟩⟩
  case cons.cons.nil=>exact zz
  all_goals exact D7
@[simp] theorem Acy (a:Array TypeId)(t:TypeId)(args:Array Value):Calm P (Builtin.unsafeStringData_ a t args):=by
  rcases args with⟨_ | ⟨b,_ | ⟨c,l⟩⟩⟩
  case cons.nil=>
    cases b<;>first
      | exact D7
      | (rename_i o
         show Calm P (if _ then _ else _)
         repeat' first
             | exact Ae
             | (simp;done)
             | refine Calm.bind ?_ (λ_=>?_)
             | split)
  all_goals exact D7
end
section
variable {P:Program}
@[simp] theorem Au5 (argTypes _type args):Calm P (Builtin.cap_ argTypes _type args):=by
 unfold Builtin.cap_;exact A9
@[simp] theorem Aqn (argTypes _type args):Calm P (Builtin.clear_ argTypes _type args):=by
 unfold Builtin.clear_;exact A9
@[simp] theorem At9 (argTypes _type args):Calm P (Builtin.copy_ argTypes _type args):=by
 unfold Builtin.copy_;exact A9
@[simp] theorem Aou (argTypes _type args):Calm P (Builtin.delete_ argTypes _type args):=by
 unfold Builtin.delete_;exact A9
@[simp] theorem Au4 (argTypes _type args):Calm P (Builtin.len_ argTypes _type args):=by
 unfold Builtin.len_;exact A9
@[simp] theorem At7 (x0 x1):Calm P (Builtin.max2 x0 x1):=by
 unfold Builtin.max2;exact A9
@[simp] theorem Au3 (_argTypes _type args):Calm P (Builtin.max_ _argTypes _type args):=by
 unfold Builtin.max_;exact A9
@[simp] theorem At6 (x0 x1):Calm P (Builtin.min2 x0 x1):=by
 unfold Builtin.min2;exact A9
@[simp] theorem Au2 (_argTypes _type args):Calm P (Builtin.min_ _argTypes _type args):=by
 unfold Builtin.min_;exact A9
@[simp] theorem Al1 (t v):Calm P (Builtin.printOne t v):=by
 unfold Builtin.printOne;exact A9
@[simp] theorem Y6 (ln consts argTypes args):Calm P (Builtin.pieces ln consts argTypes args):=by
 unfold Builtin.pieces;exact A9
end
def V9:Next->Prop
 | .value _ | .skip | .enter .. | .round .. | .defer _ | .recover | .spawn _ | .comm .. | .coroswitch ..=>True
 | .row r _=>r= "runtime.print$piece"
 | _=>False
section
variable {d:Nat}
variable {P:Program}{α β:Type}
def SJ {N:β->Prop}{f:Unit->Sem β}(h:CZ P N (d+1) (f ())):CZ P N d (mark .disable>>=f):=h
def UD {N:β->Prop}{f:Unit->Sem β}(h:CZ P N d (f ())):CZ P N (d+1) (mark .enable>>=f):=h
def UB {N:β->Prop}{f:Unit->Sem β}{a:Addr}{v:Value}{m:Mode}(h:CZ P N d (f ())):CZ P N d (store a v m>>=f):=h
def Md {N:β->Prop}{f:Program->Sem β}(h:CZ P N d (f P)):CZ P N d (program>>=f):=h
theorem VD {N:β->Prop}{f:Bool->Sem β}(h:∀b,CZ P N d (f b)):CZ P N d (Extern.PrintPieces.held>>=f):=by
 intro v;cases v<;>first | exact h _ | exact Or.inr trivial
theorem l8 {N:β->Prop}{a:Nat}{b:ByteArray}{f:Unit->Sem β}(h:CZ P N 0 (f ())):CZ P N 0 (writeFd a b>>=f):=by
 refine⟨trivial,λr=>?_⟩;cases r<;>first | exact h | exact .inl rfl
def NT (a b:Array TypeId)(args:Array Value):CZ P V9 0 (Extern.PrintPieces.piece a b args):=by
 unfold Extern.PrintPieces.piece;dsimp only;repeat' first
  | exact G5 trivial
  | exact G5 rfl
  | refine l8 ?_
  | refine SJ ?_
  | refine UD ?_
  | refine VD (λ_=>?_)
  | refine Md ?_
  | refine UB ?_
  | exact .inl rfl
  | exact .inr trivial
  | split
open Go.Instr in
@[simp] theorem fo (l:Nat):Calm P (Go.Instr.getLoop l:Sem Loop):=by
 unfold Go.Instr.getLoop;exact A9
open Go.Instr in
@[simp] theorem Ame (fn:FuncId)(tmps:Array Value)(params:Array Tmp)(assign:Code)(body:Code)(a:Option Nat):Calm P (Go.Instr.enterLoop fn tmps params assign body a:Sem (Nat × List Deferred)):=by
 unfold Go.Instr.enterLoop;exact A9
open Go.Instr in
@[simp] theorem Py (l:Nat):Calm P (Go.Instr.beginRound l:Sem Unit):=by
 unfold Go.Instr.beginRound;exact A9
open Go.Instr in
@[simp] theorem Aos (l:Nat)(jump:Option Code):Calm P (Go.Instr.endRound l jump:Sem Value):=by
 unfold Go.Instr.endRound;exact A9
open Go.Instr in
@[simp] theorem Aqj (l:Nat):Calm P (Go.Instr.endLoop l:Sem (Option Code)):=by
 unfold Go.Instr.endLoop;exact A9
open Go.Instr in
@[simp] theorem Ai2 (l:Nat)(d:Deferred):Calm P (Go.Instr.deferInRound l d:Sem Unit):=by
 unfold Go.Instr.deferInRound;exact A9
open Go.Instr in
@[simp] theorem Ai0 (block:Nat):Calm P (Go.Instr.takeDeferred block:Sem (List Deferred)):=by
 unfold Go.Instr.takeDeferred;exact A9
def tg (l:Nat)(args:Array Value):CZ P V9 0 (Instr.yield l args):=by
 unfold Instr.yield;repeat' first
  | exact G5 trivial
  | refine D9 (by first | exact fo _ | exact D7) (λ_=>?_)
  | split
theorem jX:Calm P Instr.panicnil:=by
 unfold Instr.panicnil;refine⟨trivial,λr=>?_⟩;cases r<;>first | exact .inl rfl | exact⟨rfl,trivial⟩
@[simp] theorem Auv (x:Value):Calm P (Instr.panic x):=by
 unfold Instr.panic;split
 .simp
 .refine Calm.bind jX λ_=>?_
  split<;>simp
 .simp
def Zq {s:Sem Value}(h:Calm P s):CZ P V9 0 (do pure (.value (<-s))):=D9 h λ_=>⟨rfl,trivial⟩
def yv {s:Sem Unit}(h:Calm P s):CZ P V9 0 (do s;pure .skip):=D9 h λ_=>⟨rfl,trivial⟩
def gb (b:Bool)(a:Array Bool)(ts:Array TypeId)(args:Array Value):CZ P V9 0 (Builtin.printMarked b a ts args):=by
 unfold Builtin.printMarked;refine D9 (by exact Y6 _ _ _ _) λc=>?_
 split
 .exact G5 trivial
 .exact NT _ _ _
theorem mC (b:Builtin)(ts:Array TypeId)(t:TypeId)(cs:Array Bool)(args:Array Value):CZ P V9 0 (builtin b ts t cs args):=by
 unfold builtin;cases b<;>first
  | exact Zq AW
  | exact gb _ _ _ _
  | exact G5 trivial
  | exact .inl rfl
  | exact D9 (jW _) λ_=>G5 trivial
structure OkP (P:Program):Prop where
 name:∀(f:Nat) (fn:Func),P.funcs[f]?=some fn->(fn.name== "runtime.NumGoroutine")=false
 next:∀(f:Nat) (fn:Func),P.funcs[f]?=some fn->fn.body.isNone=true->Extern.findNext fn=none
 calm:∀(f:Nat) (fn:Func) (e:Array Value->Sem Value),P.funcs[f]?=some fn->fn.body.isNone=true->Extern.find fn=some e->∀args,Calm P (e args)
def P8 {N:α->Prop}(e:RuntimeError):CZ P N 0 (runtimePanic e:Sem α):=by
 unfold runtimePanic;refine Md ?_;dsimp only;split<;>first | exact .inl rfl | (refine D9 AW λ_=>?_;first | exact .inl rfl | (refine D9 AW λ_=>?_;exact .inl rfl))
theorem Wn (g:OkP P)(f:FuncId)(args:Array Value):CZ P V9 0 (callFunc f args):=by
 unfold callFunc;refine Md ?_;split
 .exact .inl rfl
 .rename_i b c
  rw[g.name f b c];by_cases a:b.body.isNone=true
  .rw[if_neg AW,if_pos a]
   refine D9 AW λ_=>?_
   rw[g.next f b c a];simp only[];split
   .rename_i e i
    exact Zq (g.calm f b e c a i args)
   .split
    .exact G5 trivial
    .exact .inl rfl
  .rw[if_neg AW,if_neg a]
   exact G5 trivial
def Yb (a:OkP P)(recv:Value)(name:String)(args:Array Value):CZ P V9 0 (callMethod recv name args):=by
 unfold callMethod;split
 .refine Md ?_
  refine D9 AW λx=>?_
  exact Wn a _ _
 .exact P8 _
 .exact .inl rfl
def J8 (a:OkP P)(t:Target)(args:Array Value):CZ P V9 0 (invoke t args):=by
 unfold invoke;split
 .exact P8 _
 .exact mC _ _ _ _ _
 .exact Wn a _ _
 .split
  .exact Yb a _ _ _
  .exact .inl rfl
 .split
  .refine D9 AW λu=>?_
   exact Yb a _ _ _
  .exact .inl rfl
 .split
  .refine D9 AW λu=>?_
   exact Wn a _ _
  .exact .inl rfl
 .exact tg _ _
 .exact .inl rfl
 .exact G5 trivial
@[simp] theorem A2g (f:Value)(args:Array Value):Calm P (Deferred.ofValue f args):=by
 unfold Deferred.ofValue;split<;>simp
@[simp] theorem Xg (a:Operand->Value)(c:Call)(t:TypeId):Calm P (resolve a c t):=by
 unfold resolve;dsimp only;split<;>simp
@[simp] theorem Aum (t:TypeId)(x y:Value):Calm P (movedNumber t x y):=by
 unfold movedNumber;exact cmF
@[simp] theorem Atv (t:TypeId)(x y:Value):Calm P (movedPointer t x y):=by
 unfold movedPointer;exact cmF
@[simp] theorem lE (op:BinOp)(t:TypeId)(x y:Operand)(a b:Value):Calm P (eqGuard op t x y a b):=by
 unfold eqGuard;exact cmF
@[simp] theorem tB (op:BinOp)(t:TypeId)(x y:Value):Calm P (binOp op t x y):=by
 unfold binOp;exact cmF
@[simp] theorem A2j (src dst:TypeId)(x:Value):Calm P (convert src dst x):=by
 unfold convert;exact cmF
theorem UC (e:OkP P)(f:Operand->Value)(o:Oper):CZ P V9 0 (execOp f o):=by
 unfold execOp;dsimp only;cases o.op
 case nilCheck x=>
  dsimp only;repeat' first
   | exact G5 trivial
   | exact P8 _
   | refine D9 (jY _ _ _ _) (λ_=>?_)
   | with_reducible refine Md ?_
   | refine D9 Je (λ_=>?_)
   | split
 case binOp op t x y i=>exact Zq (Calm.bind (lE _ _ _ _ _ _) λ_=>tB _ _ _ _)
 case recv t c k=>
  refine D9 (gj _) λd=>?_
  split
  .exact D9 (Yk _) λ_=>G5 trivial
  .exact .inl rfl
 case select g b=>
  exact D9 (Gv _ λ_=>Calm.bind (Yk _) λ_=>Ae) λ_=>G5 trivial
 case call c=>exact D9 (Xg _ _ _) λ_=>J8 e _ _
 case go c=>exact D9 (Xg _ _ _) λ_=>G5 trivial
 case defer c=>exact D9 (Xg _ _ _) λ_=>G5 trivial
 case pick a b c=>exact D9 AW λ_=>G5 trivial
 all_goals first
  | exact G5 trivial
  | exact Zq AW
  | exact yv AW
end
