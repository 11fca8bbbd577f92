import Derived.Test.YtgnkpbhknkinoaaGreatDoorA00
set_option linter.defProp false
set_option maxRecDepth 10000
set_option maxHeartbeats 4000000
namespace Go.Co
def KQ:Halt->Prop
 |.unsupported (.initOrder _)=>False
 |.blocked|.waiting|.unsupported _|.stuck _=>True
 |_=>False
def ov(d:Nat):Mark->Nat
 |.disable=>d+1
 |.enable=>d - 1
 |_=>d
def S8{α:Type}:Sem α->Prop
 |.halt h=>KQ h
 |_=>False
def EA(P:AY){α:Type}(N:α->Prop):Nat->Sem α->Prop
 |d,.pure a=>d=0/\N a
 |d,.load _ _ k=>∀v,EA P N d (k v)
 |d,.store _ _ _ k=>EA P N d k
 |d,.new _ k=>∀r,EA P N d (k r)
 |d,.shape _ k=>∀s,EA P N d (k s)
 |d,.freeze _ _ k=>EA P N d k
 |d,.frozen _ k=>∀b,EA P N d (k b)
 |d,.getObj _ k=>∀o,EA P N d (k o)
 |d,.setObj _ _ k=>EA P N d k
 |d,.choose _ k=>∀n,EA P N d (k n)
 |d,.sys _ k=>S8 (k .wouldBlock)/\∀r,EA P N d (k r)
 |d,.program k=>EA P N d (k P)
 |d,.mark m k=>EA P N (ov d m) k
 |d,.halt h=>d=0\/KQ h
def Calm(P:AY){α:Type}(s:Sem α):Prop:=EA P (λ_=>True) 0 s
section
variable {γ:Type}
variable {P:AY}{α β:Type}
theorem Axm{M:α->Prop}{N:β->Prop}{f:α->Sem β}(g:∀a,M a->EA P N 0 (f a)):∀(s:Sem α)(d:Nat),EA P M d s->EA P N d (s.bind f):=by
 intro s;induction s with
 |pure a=>intro d h;obtain⟨rfl,h⟩:=h;exact g a h
 |load m a k b=>exact λd h v=>b v d (h v)|store m a v k b=>exact λd h=>b d h|new o k b=>exact λd h v=>b v d (h v)|shape r k b=>exact λd h v=>b v d (h v)|freeze a n k b=>exact λd h=>b d h|frozen a k b=>exact λd h v=>b v d (h v)|getObj r k b=>exact λd h v=>b v d (h v)|setObj r o k b=>exact λd h=>b d h|choose q k b=>exact λd h v=>b v d (h v)
 |sys c k b=>
  intro d h;refine⟨?_,λr=>b r d (h.2 r)⟩;have e:=h.1;show S8 ((k .wouldBlock).bind f)
  revert e
  cases k .wouldBlock<;>simp only[S8,false_implies,Sem.bind]
  exact id
 |program k b=>exact λd h=>b P d h|mark m k b=>exact λd h=>b _ h|halt x=>exact λd h=>h
def Eg{N:β->Prop}{s:Sem α}{f:α->Sem β}(c:Calm P s)(b:∀a,EA P N 0 (f a)):EA P N 0 (s>>=f):=Axm (λa _=>b a) s 0 c
def Ib{N:α->Prop}{a:α}(h:N a):EA P N 0 (pure a:Sem α):=⟨rfl,h⟩
@[simp]theorem Ae{a:α}:Calm P (pure a:Sem α):=⟨rfl,trivial⟩
@[simp]theorem A85{a:Ab}{m:Mode}:Calm P (load a m):=λ_=>⟨rfl,trivial⟩
@[simp]theorem Avy{a:Ab}{v:AW}{m:Mode}:Calm P (store a v m):=⟨rfl,trivial⟩
@[simp]theorem A7f{o:Obj}:Calm P (newObj o):=λ_=>⟨rfl,trivial⟩
@[simp]theorem A78{r:Nat}:Calm P (shape r):=λ_=>⟨rfl,trivial⟩
@[simp]theorem A7j{a:Ab}{n:Nat}:Calm P (freeze a n):=⟨rfl,trivial⟩
@[simp]theorem A7i{a:Ab}:Calm P (frozen a):=λ_=>⟨rfl,trivial⟩
@[simp]theorem xK{r:Nat}:Calm P (getObj r):=λ_=>⟨rfl,trivial⟩
@[simp]theorem Wm{r:Nat}{o:Obj}:Calm P (setObj r o):=⟨rfl,trivial⟩
@[simp]theorem Nb{q:Question}:Calm P (choose q):=λ_=>⟨rfl,trivial⟩
@[simp]theorem uN:Calm P program:=⟨rfl,trivial⟩
@[simp]theorem A7c:Calm P (mark .noRoom):=⟨rfl,trivial⟩
@[simp]theorem A7h{f:FuncId}:Calm P (mark (.extern f)):=⟨rfl,trivial⟩
@[simp]theorem Ed{s:String}:Calm P (stuck s:Sem α):=.inl rfl
@[simp]theorem Kv{u:Unsupported}:Calm P (unsupported u:Sem α):=.inl rfl
@[simp]theorem A5a{v:AW}:Calm P (goPanic v:Sem α):=.inl rfl
@[simp]theorem A77{s:String}:Calm P (throw s:Sem α):=.inl rfl
def Calm.bind{s:Sem α}{f:α->Sem β}(c:Calm P s)(b:∀a,Calm P (f a)):Calm P (s>>=f):=Eg c b
def cmF{P:AY}{α:Type}{x:Sem α}(h:Calm P x:=by repeat' first|exact Ae|(simp;done)|refine Calm.bind ?_ (λ_=>?_)|split):Calm P x:=h
def Calm.map{s:Sem α}{f:α->β}(a:Calm P s):Calm P (f<$>s):=Eg a λ_=>⟨rfl,trivial⟩
def cmG{P:AY}{α:Type}{x:Sem α}(h:Calm P x:=by repeat' first|exact Ae|exact Or.inl rfl|assumption|(simp;done)|refine Calm.bind ?_ (λ_=>?_)|dsimp only|refine Calm.map ?_|split|intro _):Calm P x:=h
def cmC{P:AY}{α:Type}{x:Sem α}(h:Calm P x:=by repeat' first|exact Ae|exact Or.inl rfl|assumption|(simp;done)|refine Calm.bind ?_ (λ_=>?_)|dsimp only|refine Calm.map ?_|split|intro _):Calm P x:=h
theorem H7(l:List γ){f:γ->β->Sem (ForInStep β)}(e:∀a b,Calm P (f a b)):∀b,Calm P (forIn l b f):=by induction l with|nil=>exact λb=>by rw[List.forIn_nil];exact Ae|cons a l c=>intro b;rw[List.forIn_cons];refine Calm.bind (e a b) λr=>?_;cases r with|done b=>exact Ae|yield b=>exact c b
def H6(l:Array γ){f:γ->β->Sem (ForInStep β)}(c:∀a b,Calm P (f a b))(b:β):Calm P (forIn l b f):=by rw[<-Array.forIn_toList];exact H7 _ c b
def H5(r:Std.Legacy.Range){f:Nat->β->Sem (ForInStep β)}(c:∀a b,Calm P (f a b))(b:β):Calm P (forIn r b f):=by rw[Std.Legacy.Range.forIn_eq_forIn_range'];exact H7 _ c b
theorem uS(l:List γ):∀{f:(a:γ)->a∈l->β->Sem (ForInStep β)}(_:∀a h b,Calm P (f a h b))(b:β),Calm P (forIn' l b f):=by induction l with|nil=>exact λ_ b=>by rw[List.forIn'_nil];exact Ae|cons a l e=>intro f c b;rw[List.forIn'_cons];refine Calm.bind (c _ _ b) λr=>?_;cases r with|done b=>exact Ae|yield b=>exact e (λ_ _ _=>c _ _ _) b
def uR(r:Std.Legacy.Range){f:(i:Nat)->i∈r->β->Sem (ForInStep β)}(c:∀a h b,Calm P (f a h b))(b:β):Calm P (forIn' r b f):=by rw[Std.Legacy.Range.forIn'_eq_forIn'_range'];exact uS _ (λ_ _ _=>c _ _ _) b
def xQ(l:List γ){f:β->γ->Sem β}(e:∀a b,Calm P (f a b)):∀b,Calm P (l.foldlM f b):=by induction l with|nil=>exact λb=>Ae|cons a l c=>exact λb=>by rw[List.foldlM_cons];exact Calm.bind (e b a) c
def Hy(l:List γ){f:γ->Sem β}(c:∀a,Calm P (f a)):Calm P (l.mapM f):=by induction l with|nil=>rw[List.mapM_nil];exact Ae|cons a l b=>rw[List.mapM_cons];exact Calm.bind (c a) λ_=>Calm.bind b λ_=>Ae
def Hz(l:Array γ){f:γ->Sem β}(b:∀a,Calm P (f a)):Calm P (l.mapM f):=by rw[Array.mapM_eq_mapM_toList];exact Calm.map (Hy _ b)
def cmE{P:AY}{α:Type}{x:Sem α}(h:Calm P x:=by repeat' first|exact Ae|assumption|(simp;done)|exact ih _|exact ih _ _|exact ih _ _ _|exact ih _ _ _ _|refine Calm.bind ?_ (λ_=>?_)|refine H7 _ (λ_ _=>?_) _|refine H6 _ (λ_ _=>?_) _|refine H5 _ (λ_ _=>?_) _|refine Hz _ (λ_=>?_)|refine Hy _ (λ_=>?_)|dsimp only|refine Calm.map ?_|split|intro _):Calm P x:=h
def cmD{P:AY}{α:Type}{x:Sem α}(h:Calm P x:=by repeat' first|exact Ae|assumption|(simp;done)|refine Calm.bind ?_ (λ_=>?_)|refine H7 _ (λ_ _=>?_) _|refine H6 _ (λ_ _=>?_) _|refine H5 _ (λ_ _=>?_) _|refine Hz _ (λ_=>?_)|refine Hy _ (λ_=>?_)|dsimp only|refine Calm.map ?_|split|intro _):Calm P x:=h
def B9{P:AY}{α:Type}{x:Sem α}(h:Calm P x:=by repeat' first|exact Ae|assumption|(simp;done)|refine Calm.bind ?_ (λ_=>?_)|refine H7 _ (λ_ _=>?_) _|refine H6 _ (λ_ _=>?_) _|refine H5 _ (λ_ _=>?_) _|refine Hz _ (λ_=>?_)|refine Hy _ (λ_=>?_)|refine xQ _ (λ_ _=>?_) _|refine uR _ (λ_ _ _=>?_) _|dsimp only|refine Calm.map ?_|split|intro _):Calm P x:=h
def Bm{P:AY}{α:Type}{x:Sem α}(h:Calm P x:=by repeat' first|exact Ae|assumption|(simp;done)|refine Calm.bind ?_ (λ_=>?_)|refine H7 _ (λ_ _=>?_) _|refine H6 _ (λ_ _=>?_) _|refine H5 _ (λ_ _=>?_) _|refine Hz _ (λ_=>?_)|refine Hy _ (λ_=>?_)|dsimp only|refine Calm.map ?_|split|intro _):Calm P x:=h
end
section
variable {P:AY}
@[simp]theorem A5e(bytes):Calm P (askRoom bytes):=by unfold askRoom;exact Bm
@[simp]theorem A68(r):Calm P (viewAt r):=by unfold viewAt;exact Bm
@[simp]theorem A4c(r):Calm P (numberAt r):=by unfold numberAt;exact Bm
@[simp]theorem A5d(r):Calm P (cellsIn r):=by unfold cellsIn;exact Bm
@[simp]theorem A4f(a lost):Calm P (asNumber a lost):=by unfold asNumber;exact Bm
@[simp]theorem Av2(n):Calm P (behindNumber n):=by unfold behindNumber;exact Bm
@[simp]theorem A7b(a):Calm P (noView a):=by unfold noView;exact Bm
@[simp]theorem Asj(a):Calm P (markStringish a):=by unfold markStringish;exact Bm
@[simp]theorem A1r(a):Calm P (stringish a):=by unfold stringish;exact Bm
@[simp]theorem A4d(a b):Calm P (mayBeOne a b):=by unfold mayBeOne;exact Bm
@[simp]theorem A4b(a b):Calm P (sameAddr a b):=by unfold sameAddr;exact Bm
@[simp]theorem Awn(x0 x1):Calm P (samePointer x0 x1):=by unfold samePointer;exact Bm
@[simp]theorem sj(t):Calm P (typeInfo t):=by unfold typeInfo;exact Bm
@[simp]theorem qz(t):Calm P (underlying t):=by unfold underlying;exact Bm
@[simp]theorem A5b(name):Calm P (cutType name):=by unfold cutType;exact Bm
@[simp]theorem A48(t):Calm P (typeStr t):=by unfold typeStr;exact Bm
@[simp]theorem Zn(t):Calm P (zeroValue t):=by unfold zeroValue;exact Bm
@[simp]theorem A69(t):Calm P (sizeOf t):=by unfold sizeOf;exact Bm
@[simp]theorem A79(t):Calm P (isAgg t):=by unfold isAgg;exact Bm
@[simp]theorem Asl:∀(b:Nat)(a:Ab)(i:Nat)(c:Array AW),Calm P (loadCellsFrom a i b c:Sem (Array AW)):=by
 intro b;induction b with
 |zero=>
  intros
  unfold loadCellsFrom;exact Bm
 |succ n ih=>
  intros
  unfold loadCellsFrom;exact cmE
@[simp]theorem A1s(a n):Calm P (loadCells a n):=by unfold loadCells;exact Bm
def qM(a:Ab):∀(b:List AW)(i:Nat),Calm P (storeCells a b i):=by
 intro b;induction b with
 |nil=>exact λ_=>Ae|cons v l c=>exact λi=>Calm.bind Avy λ_=>c (i+1)
@[simp]theorem A0w(a:Ab)(vs:List AW)(i:Nat):Calm P (storeCells a vs i):=qM a vs i
@[simp]theorem uO(t a):Calm P (loadVar t a):=by unfold loadVar;exact Bm
@[simp]theorem A4a(t a v):Calm P (storeVar t a v):=by unfold storeVar;exact Bm
@[simp]theorem A7e(elem cells):Calm P (newRow elem cells):=by unfold newRow;exact Bm
@[simp]theorem A7d(t v):Calm P (newVar t v):=by unfold newVar;exact Bm
@[simp]theorem A7l(t):Calm P (elemOf t):=by unfold elemOf;exact Bm
@[simp]theorem A84(t cs off):Calm P (part t cs off):=by unfold part;exact Bm
@[simp]theorem Awp{α:Type}(a:String):Calm P (panicString a:Sem α):=by unfold panicString;exact Bm
@[simp]theorem Qh{α:Type}(e:RuntimeError):Calm P (runtimePanic e:Sem α):=by unfold runtimePanic;exact Bm
@[simp]theorem Aws{α:Type}(k:IntKind)(x:Int)(y:Int)(code:BoundsCode):Calm P (boundsPanic k x y code:Sem α):=by unfold boundsPanic;exact Bm
@[simp]theorem A5f(x0):Calm P (asIntOf x0):=by unfold asIntOf;exact Bm
@[simp]theorem A8a(v):Calm P (asInt v):=by unfold asInt;exact Bm
@[simp]theorem A7n(x0):Calm P (asBool x0):=by unfold asBool;exact Bm
@[simp]theorem A4e(x0):Calm P (asString x0):=by unfold asString;exact Bm
@[simp]theorem A8b(x0):Calm P (asAgg x0):=by unfold asAgg;exact Bm
@[simp]theorem xR(x0):Calm P (asAddr x0):=by unfold asAddr;exact Bm
@[simp]theorem A7m(a):Calm P (byteOf a):=by unfold byteOf;exact Bm
@[simp]theorem A7a(base cells bytes):Calm P (partAt base cells bytes):=by unfold partAt;exact Bm
@[simp]theorem A0y(a f):Calm P (fieldPlace a f):=by unfold fieldPlace;exact Bm
@[simp]theorem Awm(a u n):Calm P (variablesAt a u n):=by unfold variablesAt;exact Bm
@[simp]theorem A1t:∀(b:Nat)(a:Ab)(acc:ByteArray),Calm P (loadBytes a acc b:Sem ByteArray):=by
 intro b;induction b with
 |zero=>
  intros
  unfold loadBytes;exact Bm
 |succ n ih=>
  intros
  unfold loadBytes;exact cmE
end
section
variable {P:AY}
@[simp]theorem A1v(op k x y):Calm P (Op.intDiv op k x y):=by unfold Op.intDiv;exact Bm
@[simp]theorem A4h(op k x _yk y):Calm P (Op.shift op k x _yk y):=by unfold Op.shift;exact Bm
@[simp]theorem A1w(op x y):Calm P (Op.intCmp op x y):=by unfold Op.intCmp;exact Bm
@[simp]theorem Asm(op k x y):Calm P (Op.floatArith op k x y):=by unfold Op.floatArith;exact Bm
@[simp]theorem Awu(op k x y):Calm P (Op.floatCmp op k x y):=by unfold Op.floatCmp;exact Bm
@[simp]theorem Aok(src bits dst):Calm P (Conv.floatToInt src bits dst):=by unfold Conv.floatToInt;exact Bm
@[simp]theorem Alo(src bits dst):Calm P (Conv.floatToFloat src bits dst):=by unfold Conv.floatToFloat;exact Bm
@[simp]theorem Ahe(src re im dst):Calm P (Conv.complexToComplex src re im dst):=by unfold Conv.complexToComplex;exact Bm
@[simp]theorem Ak7(elem s):Calm P (Conv.stringToBytes elem s):=by unfold Conv.stringToBytes;exact Bm
@[simp]theorem Ak9(x):Calm P (Conv.bytesToString x):=by unfold Conv.bytesToString;exact Bm
@[simp]theorem Ak6(elem s):Calm P (Conv.stringToRunes elem s):=by unfold Conv.stringToRunes;exact Bm
@[simp]theorem Ak8(x):Calm P (Conv.runesToString x):=by unfold Conv.runesToString;exact Bm
@[simp]theorem Aw5(a):Calm P (Conv.seenAt a):=by unfold Conv.seenAt;exact Bm
@[simp]theorem Ak5(src dst x):Calm P (Conv.unsafePointer src dst x):=by unfold Conv.unsafePointer;exact Bm
@[simp]theorem Anw(op k x y):Calm P (Op.Complex.arith op k x y):=by unfold Op.Complex.arith;exact Bm
@[simp]theorem Aog(src x dst):Calm P (Op.Complex.conv src x dst):=by unfold Op.Complex.conv;exact Bm
@[simp]theorem Aky(a b c d):Calm P (Op.Complex.product a b c d):=by unfold Op.Complex.product;exact Bm
@[simp]theorem Ah0(scale a b c d):Calm P (Op.Complex.corrected scale a b c d):=by unfold Op.Complex.corrected;exact Bm
@[simp]theorem Ajc(a b c d):Calm P (Op.Complex.quotient a b c d):=by unfold Op.Complex.quotient;exact Bm
@[simp]theorem Av5(op k xr xi yr yi):Calm P (Op.complexOp op k xr xi yr yi):=by unfold Op.complexOp;exact Bm
@[simp]theorem Awt(op x y):Calm P (Op.stringOp op x y):=by unfold Op.stringOp;exact Bm
@[simp]theorem A0z:∀(a:Nat)(b:AZ)(c:AW)(e:AW),Calm P (Op.equalIn a b c e:Sem Bool):=by
 intro a;induction a with
 |zero=>
  intros
  unfold Op.equalIn;exact Bm
 |succ n ih=>
  intros
  unfold Op.equalIn;exact cmE
@[simp]theorem A4i(t x y):Calm P (Op.equal t x y):=by unfold Op.equal;exact Bm
@[simp]theorem Av4:∀(a:Nat)(b:AZ)(c:AW)(e:AW),Calm P (Op.eqGuardIn a b c e:Sem Bool):=by
 intro a;induction a with
 |zero=>
  intros
  unfold Op.eqGuardIn;exact Bm
 |succ n ih=>
  intros
  unfold Op.eqGuardIn;exact cmE
@[simp]theorem Av3(a b):Calm P (Op.twoPlaces a b):=by unfold Op.twoPlaces;exact Bm
@[simp]theorem A00(k a b):Calm P (Op.addrSub k a b):=by unfold Op.addrSub;exact Bm
@[simp]theorem A02(op a b):Calm P (Op.addrCmp op a b):=by unfold Op.addrCmp;exact Bm
@[simp]theorem A01(k a n):Calm P (Op.addrMod k a n):=by unfold Op.addrMod;exact Bm
@[simp]theorem A4g(op x):Calm P (Op.unary op x):=by unfold Op.unary;exact Bm
end
section
variable {P:AY}
@[simp]theorem Aw4(elem heap old):Calm P (Instr.alloc elem heap old):=by unfold Instr.alloc;exact Bm
@[simp]theorem Anz(x y code):Calm P (Instr.sliceBound x y code):=by unfold Instr.sliceBound;exact Bm
@[simp]theorem Alm(isSlice len cap low high max):Calm P (Instr.sliceBounds isSlice len cap low high max):=by unfold Instr.sliceBounds;exact Bm
@[simp]theorem Aww(xType x low high max):Calm P (Instr.slice xType x low high max):=by unfold Instr.slice;exact Bm
@[simp]theorem Aqo(x0):Calm P (Instr.sureAddr x0):=by unfold Instr.sureAddr;exact Bm
@[simp]theorem Av7(t addr):Calm P (Instr.loadAt t addr):=by unfold Instr.loadAt;exact Bm
@[simp]theorem Asn(t addr val):Calm P (Instr.storeAt t addr val):=by unfold Instr.storeAt;exact Bm
@[simp]theorem Ass(s addr field):Calm P (Instr.fieldAt s addr field):=by unfold Instr.fieldAt;exact Bm
@[simp]theorem Asq(t x index):Calm P (Instr.indexAt t x index):=by unfold Instr.indexAt;exact Bm
@[simp]theorem Aso(t x low high max):Calm P (Instr.sliceAt t x low high max):=by unfold Instr.sliceAt;exact Bm
@[simp]theorem Asw(arr x):Calm P (Instr.arrayAt arr x):=by unfold Instr.arrayAt;exact Bm
@[simp]theorem A1x(elem v):Calm P (Instr.box elem v):=by unfold Instr.box;exact Bm
@[simp]theorem Aw3(t parts):Calm P (Instr.build t parts):=by unfold Instr.build;exact Bm
@[simp]theorem An2(t len parts):Calm P (Instr.buildSlice t len parts):=by unfold Instr.buildSlice;exact Bm
@[simp]theorem Awv(g):Calm P (Instr.waits g):=by unfold Instr.waits;exact Bm
@[simp]theorem Awx(g):Calm P (Instr.ready g):=by unfold Instr.ready;exact Bm
@[simp]theorem Ajd(xType x):Calm P (Instr.makeInterface xType x):=by unfold Instr.makeInterface;exact Bm
@[simp]theorem Asp(t reserve):Calm P (Instr.makeMap t reserve):=by unfold Instr.makeMap;exact Bm
@[simp]theorem Aqq(t size):Calm P (Instr.makeChan t size):=by unfold Instr.makeChan;exact Bm
@[simp]theorem Aoi(t len cap):Calm P (Instr.makeSlice t len cap):=by unfold Instr.makeSlice;exact Bm
@[simp]theorem Aw1(xType x field):Calm P (Instr.field xType x field):=by unfold Instr.field;exact Bm
@[simp]theorem Aw0(xType x index):Calm P (Instr.index xType x index):=by unfold Instr.index;exact Bm
@[simp]theorem Aqs:∀(a:Nat)(empty:Bool)(b:AZ)(c:AW),Calm P (Instr.checkKey empty a b c:Sem Unit):=by
 intro a;induction a with
 |zero=>
  intros
  unfold Instr.checkKey;exact Bm
 |succ n ih=>
  intros
  unfold Instr.checkKey;exact cmE
@[simp]theorem An0(keyType:AZ)(k:AW):∀(a:List MapEntry)(i:Nat),Calm P (Instr.findAsking keyType k a i):=by
 intro a;induction a with
 |nil=>exact λ_=>Ae|cons e a c=>intro i;refine Calm.bind BU λb=>?_;cases b;{exact c _};exact Ae
@[simp]theorem Asr(keyType k es):Calm P (Instr.findKey keyType k es):=by unfold Instr.findKey;exact Bm
@[simp]theorem Av6(xType x index commaOk):Calm P (Instr.lookup xType x index commaOk):=by unfold Instr.lookup;exact Bm
@[simp]theorem Ak0(old new):Calm P (Instr.keyThatStays old new):=by unfold Instr.keyThatStays;exact Bm
@[simp]theorem Aoh(mapType map key value):Calm P (Instr.mapUpdate mapType map key value):=by unfold Instr.mapUpdate;exact Bm
@[simp]theorem Aqp(mapType map key):Calm P (Instr.mapEntry mapType map key):=by unfold Instr.mapEntry;exact Bm
@[simp]theorem An1(_mapType map stamp value):Calm P (Instr.entryStore _mapType map stamp value):=by unfold Instr.entryStore;exact Bm
@[simp]theorem Awy(xType x):Calm P (Instr.range xType x):=by unfold Instr.range;exact Bm
@[simp]theorem A03(iter isString _type):Calm P (Instr.next iter isString _type):=by unfold Instr.next;exact Bm
@[simp]theorem Aw2(iter):Calm P (Instr.entry iter):=by unfold Instr.entry;exact Bm
theorem VF(argTypes t a b):Calm P (Builtin.ssaWrapNilChk_ argTypes t #[.pointer none,.string a,.string b]):=by refine Calm.bind (s:=choose (Question.extern "ssa:wrapnilchk.dereferenced" 2)) BU (λn=>?_);repeat' first|exact Ae|assumption|(simp;done)|refine Calm.bind ?_ (λ_=>?_)|dsimp only|refine Calm.map ?_|split|intro _
@[simp]theorem Ahf(argTypes t args):Calm P (Builtin.ssaWrapNilChk_ argTypes t args):=by
 rcases args with⟨_|⟨e,_|⟨c,_|⟨b,_|⟨f,l⟩⟩⟩⟩⟩;case cons.cons.cons.nil=>
  cases c<;>first
   |exact Ed
   | (cases b<;>first
    |exact Ed
    | (cases e<;>first
     |exact Ed
     |(rename_i o _ _;cases o<;>first|exact Ae (a:=Value.pointer (some _))|exact VF _ _ _ _)
     | (rename_i o;cases o<;>first | exact Ae (a:=Value.pointer (some _)) | exact VF _ _ _ _)))
 all_goals exact Ed
@[simp]theorem A1u(t x0):Calm P (Place.get t x0):=by unfold Place.get;exact Bm
@[simp]theorem A7k:∀(a:List FieldStep)(b:AZ)(c:Place),Calm P (follow a b c:Sem (AZ × Place)):=by
 intro a;induction a with
 |nil=>
  intros
  unfold follow;exact Bm
 |cons y l ih=>
  intros
  unfold follow;exact cmE
@[simp]theorem A0x(xt x pointerReceiver wrapper):Calm P (receiverAt xt x pointerReceiver wrapper):=by unfold receiverAt;exact Bm
@[simp]theorem Awo(t v path pointerReceiver):Calm P (receiverVia t v path pointerReceiver):=by unfold receiverVia;exact Bm
@[simp]theorem A7g:∀(a:Nat)(b:AZ)(c:AW)(e:String),Calm P (method a b c e:Sem (FuncId × AW)):=by
 intro a;induction a with
 |zero=>
  intros
  unfold method;exact Bm
 |succ n ih=>
  intros
  unfold method;exact cmE
@[simp]theorem Awr:∀(a:List FieldStep)(b:AZ)(c:Option AW),Calm P (followBlind a b c:Sem (Except (Option Bool) (AZ × Option AW))):=by
 intro a;induction a with
 |nil=>
  intros
  unfold followBlind;exact Bm
 |cons y l ih=>
  intros
  unfold followBlind;exact cmE
@[simp]theorem sn:∀(a:Nat)(b:AZ)(c:AW)(e:String),Calm P (nilAhead a b c e:Sem (Option Bool)):=by
 intro a;induction a with
 |zero=>
  intros
  unfold nilAhead;exact Bm
 |succ n ih=>
  intros
  unfold nilAhead;exact cmE
@[simp]theorem Anx(x xType asserted commaOk):Calm P (Instr.typeAssert x xType asserted commaOk):=by unfold Instr.typeAssert;exact Bm
@[simp]theorem Asu(tuple index):Calm P (Instr.extract tuple index):=by unfold Instr.extract;exact Bm
end
section
variable {P:AY}
@[simp]theorem Ala(a:Ab)(cells:Nat):Calm P (Go.Builtin.holdsCells a cells:Sem Bool):=by unfold Go.Builtin.holdsCells;exact cmF
@[simp]theorem An4(size a n:Nat)(base:Option Ab)(x:AW):Calm P (Go.Builtin.mayShare size a n base x):=by unfold Go.Builtin.mayShare;repeat' first|exact Ae|(simp;done)|refine Calm.bind ?_ (λ_=>?_)|dsimp only|refine Calm.map ?_|split
@[simp]theorem Asx(x:AW):Calm P (Go.Builtin.lenOf x):=by unfold Go.Builtin.lenOf;split<;>simp
@[simp]theorem Alb(size n:Nat)(x:AW):Calm P (Go.Builtin.firstCells size n x):=by unfold Go.Builtin.firstCells;split<;>simp
@[simp]theorem Aqu(argTypes:Array AZ)(_type:AZ)(args:Array AW) :Calm P (Builtin.append_ argTypes _type args):=by
 unfold Builtin.append_;split
 . refine Calm.bind BU λd=>?_
   split
   . split
     . refine Calm.bind BU λsize=>?_
       dsimp only;have two:∀z:Bool,Calm P (pure z:Sem Bool):=λ_=>Ae
       split
       . refine Calm.bind BU λu=>?_
         split<;>
         (refine Calm.bind (two _) λz=>?_
          cases z<;>simp only[EZ,EH,Bool.not_false,if_true,MY,false_or,true_or,Hh]<;>
          repeat' first
            |exact Ae
            |with_reducible refine Calm.bind ?_ (λ_=>?_)
            |with_reducible refine Calm.map ?_
            |split
            | (simp;done))
       . refine Calm.bind (two _) λz=>?_
         cases z<;>simp only[EZ,EH,Bool.not_false,if_true,MY,false_or,true_or,Hh]<;>
         repeat' first
           |exact Ae
           |with_reducible refine Calm.bind ?_ (λ_=>?_)
           |with_reducible refine Calm.map ?_
           |split
           |(simp;done)
     . simp
   . simp
 . simp
@[simp]theorem Asy(a:Array AZ)(t:AZ)(args:Array AW):Calm P (Builtin.close_ a t args):=by
 rcases args with⟨_|⟨b,_|⟨e,l⟩⟩⟩
 . exact Ed
 . cases b<;>first
  |exact Ed
  | (rename_i o
     cases o
     . exact Qh (.plain "close of nil channel")
     . refine Calm.bind (s:=getObj _) xK λo=>?_
       cases o<;>first
         |exact Ed
         | (rename_i c _ _ _;cases c
            . exact Calm.bind (s:=setObj _ _) Wm λ_=>Ae
            . exact Calm.bind (s:=runtimePanic _) (Qh _) λ_=>Calm.bind (s:=setObj _ _) Wm λ_=>Ae))
 . exact Ed
@[simp]theorem Aol(a:Array AZ)(t:AZ)(args:Array AW):Calm P (Builtin.complex_ a t args):=by
 rcases args with⟨_|⟨c,_|⟨b,_|⟨e,l⟩⟩⟩⟩;case cons.cons.nil=>
  cases c<;>cases b<;>first
   |exact Ed
   | (show Calm P (if _=_ then pure _ else stuck _)
      split<;>simp)
 all_goals exact Ed
@[simp]theorem Awb(a:Array AZ)(t:AZ)(args:Array AW):Calm P (Builtin.imag_ a t args):=by
 rcases args with⟨_|⟨b,_|⟨c,l⟩⟩⟩;case cons.nil=>cases b<;>first|exact Ed|exact Ae
 all_goals exact Ed
@[simp]theorem Av8(a:Array AZ)(t:AZ)(args:Array AW):Calm P (Builtin.real_ a t args):=by
 rcases args with⟨_|⟨b,_|⟨c,l⟩⟩⟩;case cons.nil=>cases b<;>first|exact Ed|exact Ae
 all_goals exact Ed
def zc0 {p:Prop}(h:p:=by
 cases y0<;>first
  |exact Ed
  | (refine Calm.bind (s:=asInt y1) BU λn=>?_
     repeat' first
       |exact Ae
       |(simp;done)
       |refine Calm.bind ?_ (λ_=>?_)
       | split)):p:=h
@[simp]theorem Alp(a:Array AZ)(t:AZ)(args:Array AW):Calm P (Builtin.unsafeAdd_ a t args):=by
 rcases args with⟨_|⟨y0,_|⟨y1,_|⟨b,l⟩⟩⟩⟩;case cons.cons.nil=>exact zc0
 all_goals exact Ed
@[simp]theorem Ajg(a:Array AZ)(t:AZ)(args:Array AW):Calm P (Builtin.unsafeSlice_ a t args):=by
 rcases args with⟨_|⟨y0,_|⟨y1,_|⟨b,l⟩⟩⟩⟩;case cons.cons.nil=>exact zc0
 all_goals exact Ed
@[simp]theorem Aev(a:Array AZ)(t:AZ)(args:Array AW):Calm P (Builtin.unsafeSliceData_ a t args):=by
 rcases args with⟨_|⟨b,_|⟨e,l⟩⟩⟩;case cons.nil=>
  cases b<;>first
   |exact Ed
   | (rename_i o n c
      cases o
      . exact Ae
      . rename_i f
        show Calm P (if _ then pure _ else _)
        repeat' first
          |exact Ae
          |(simp;done)
          |refine Calm.bind ?_ (λ_=>?_)
          | split)
 all_goals exact Ed
@[simp]theorem Ah2(a:Array AZ)(t:AZ)(args:Array AW):Calm P (Builtin.unsafeString_ a t args):=by
 rcases args with⟨_|⟨y0,_|⟨y1,_|⟨b,l⟩⟩⟩⟩;case cons.cons.nil=>exact zc0
 all_goals exact Ed
@[simp]theorem Aeg(a:Array AZ)(t:AZ)(args:Array AW):Calm P (Builtin.unsafeStringData_ a t args):=by
 rcases args with⟨_|⟨b,_|⟨c,l⟩⟩⟩;case cons.nil=>
  cases b<;>first
   |exact Ed
   | (rename_i o
      show Calm P (if _ then _ else _)
      repeat' first
          |exact Ae
          |(simp;done)
          |refine Calm.bind ?_ (λ_=>?_)
          | split)
 all_goals exact Ed
end
section
variable {P:AY}
@[simp]theorem Aw9(argTypes _type args):Calm P (Builtin.cap_ argTypes _type args):=by unfold Builtin.cap_;exact B9
@[simp]theorem Asz(argTypes _type args):Calm P (Builtin.clear_ argTypes _type args):=by unfold Builtin.clear_;exact B9
@[simp]theorem Awc(argTypes _type args):Calm P (Builtin.copy_ argTypes _type args):=by unfold Builtin.copy_;exact B9
@[simp]theorem Aqt(argTypes _type args):Calm P (Builtin.delete_ argTypes _type args):=by unfold Builtin.delete_;exact B9
@[simp]theorem Aw8(argTypes _type args):Calm P (Builtin.len_ argTypes _type args):=by unfold Builtin.len_;exact B9
@[simp]theorem Awa(x0 x1):Calm P (Builtin.max2 x0 x1):=by unfold Builtin.max2;exact B9
@[simp]theorem Aw7(_argTypes _type args):Calm P (Builtin.max_ _argTypes _type args):=by unfold Builtin.max_;exact B9
@[simp]theorem Av9(x0 x1):Calm P (Builtin.min2 x0 x1):=by unfold Builtin.min2;exact B9
@[simp]theorem Aw6(_argTypes _type args):Calm P (Builtin.min_ _argTypes _type args):=by unfold Builtin.min_;exact B9
@[simp]theorem An3(t v):Calm P (Builtin.printOne t v):=by unfold Builtin.printOne;exact B9
@[simp]theorem pZ(ln consts argTypes args):Calm P (Builtin.pieces ln consts argTypes args):=by unfold Builtin.pieces;exact B9
end
def Xu:Next->Prop
 |.value _|.skip|.enter ..|.round ..|.defer _|.recover|.spawn _|.comm ..|.coroswitch ..=>True
 |.row r _=>r= "runtime.print$piece"
 |_=>False
section
variable {d:Nat}
variable {P:AY}{α β:Type}
def WW{N:β->Prop}{f:Unit->Sem β}(h:EA P N (d+1) (f ())):EA P N d (mark .disable>>=f):=h
def YH{N:β->Prop}{f:Unit->Sem β}(h:EA P N d (f ())):EA P N (d+1) (mark .enable>>=f):=h
def YF{N:β->Prop}{f:Unit->Sem β}{a:Ab}{v:AW}{m:Mode}(h:EA P N d (f ())):EA P N d (store a v m>>=f):=h
def Oq{N:β->Prop}{f:AY->Sem β}(h:EA P N d (f P)):EA P N d (program>>=f):=h
theorem ZT{N:β->Prop}{f:Bool->Sem β}(h:∀b,EA P N d (f b)):EA P N d (Extern.PrintPieces.held>>=f):=by intro v;cases v<;>first|exact h _|exact Or.inr trivial
theorem vX{N:β->Prop}{a:Nat}{b:ByteArray}{f:Unit->Sem β}(h:EA P N 0 (f ())):EA P N 0 (writeFd a b>>=f):=by refine⟨trivial,λr=>?_⟩;cases r<;>first|exact h|exact .inl rfl
def Qf(a b:Array AZ)(args:Array AW):EA P Xu 0 (Extern.PrintPieces.piece a b args):=by unfold Extern.PrintPieces.piece;dsimp only;repeat' first|exact Ib trivial|exact Ib rfl|refine vX ?_|refine WW ?_|refine YH ?_|refine ZT (λ_=>?_)|refine Oq ?_|refine YF ?_|exact .inl rfl|exact .inr trivial|split
open Go.Instr in
@[simp]theorem pj(l:Nat):Calm P (Go.Instr.getLoop l:Sem Loop):=by unfold Go.Instr.getLoop;exact B9
open Go.Instr in
@[simp]theorem Aoj(fn:FuncId)(tmps:Array AW)(params:Array Tmp)(assign:Code)(body:Code)(a:Option Nat):Calm P (Go.Instr.enterLoop fn tmps params assign body a:Sem (Nat × List Deferred)):=by unfold Go.Instr.enterLoop;exact B9
open Go.Instr in
@[simp]theorem Q9(l:Nat):Calm P (Go.Instr.beginRound l:Sem Unit):=by unfold Go.Instr.beginRound;exact B9
open Go.Instr in
@[simp]theorem Aqr(l:Nat)(jump:Option Code):Calm P (Go.Instr.endRound l jump:Sem AW):=by unfold Go.Instr.endRound;exact B9
open Go.Instr in
@[simp]theorem Asv(l:Nat):Calm P (Go.Instr.endLoop l:Sem (Option Code)):=by unfold Go.Instr.endLoop;exact B9
open Go.Instr in
@[simp]theorem Ak1(l:Nat)(d:Deferred):Calm P (Go.Instr.deferInRound l d:Sem Unit):=by unfold Go.Instr.deferInRound;exact B9
open Go.Instr in
@[simp]theorem Akz(block:Nat):Calm P (Go.Instr.takeDeferred block:Sem (List Deferred)):=by unfold Go.Instr.takeDeferred;exact B9
def Axl(l:Nat)(args:Array AW):EA P Xu 0 (Instr.yield l args):=by unfold Instr.yield;repeat' first|exact Ib trivial|refine Eg (by first|exact pj _|exact Ed) (λ_=>?_)|split
theorem sk:Calm P Instr.panicnil:=by unfold Instr.panicnil;refine⟨trivial,λr=>?_⟩;cases r<;>first|exact .inl rfl|exact⟨rfl,trivial⟩
@[simp]theorem Awz(x:AW):Calm P (Instr.panic x):=by
 unfold Instr.panic;split
 .simp
 .refine Calm.bind sk λ_=>?_;split<;>simp
 simp
def NP{s:Sem AW}(h:Calm P s):EA P Xu 0 (do pure (.value (<-s))):=Eg h λ_=>⟨rfl,trivial⟩
def iM{s:Sem Unit}(h:Calm P s):EA P Xu 0 (do s;pure .skip):=Eg h λ_=>⟨rfl,trivial⟩
def qT(b:Bool)(a:Array Bool)(ts:Array AZ)(args:Array AW):EA P Xu 0 (Builtin.printMarked b a ts args):=by
 unfold Builtin.printMarked;refine Eg (by exact pZ _ _ _ _) λc=>?_;split
 .exact Ib trivial
 exact Qf _ _ _
theorem uY(b:Builtin)(ts:Array AZ)(t:AZ)(cs:Array Bool)(args:Array AW):EA P Xu 0 (builtin b ts t cs args):=by unfold builtin;cases b<;>first|exact NP BU|exact qT _ _ _ _|exact Ib trivial|exact .inl rfl|exact Eg (sj _) λ_=>Ib trivial
structure OkP(P:AY):Prop where
 name:∀(f:Nat)(fn:Func),P.funcs[f]?=some fn->(fn.name== "runtime.NumGoroutine")=false
 next:∀(f:Nat)(fn:Func),P.funcs[f]?=some fn->fn.body.isNone=true->Extern.findNext fn=none
 calm:∀(f:Nat)(fn:Func)(e:Array AW->Sem AW),P.funcs[f]?=some fn->fn.body.isNone=true->Extern.find fn=some e->∀args,Calm P (e args)
def Rl{N:α->Prop}(e:RuntimeError):EA P N 0 (runtimePanic e:Sem α):=by unfold runtimePanic;refine Oq ?_;dsimp only;split<;>first|exact .inl rfl|(refine Eg BU λ_=>?_;first|exact .inl rfl|(refine Eg BU λ_=>?_;exact .inl rfl))
theorem X3(c:OkP P)(f:FuncId)(args:Array AW):EA P Xu 0 (callFunc f args):=by
 unfold callFunc;refine Oq ?_;split
 .exact .inl rfl
 rename_i b g;rw[c.name f b g];by_cases a:b.body.isNone=true
 .rw[BQ BU,BR a];refine Eg BU λ_=>?_;rw[c.next f b g a];simp only[];split;{rename_i e i;exact NP (c.calm f b e g a i args)};split;{exact Ib trivial};exact .inl rfl
 rw[BQ BU,BQ a];exact Ib trivial
def Ze(a:OkP P)(recv:AW)(name:String)(args:Array AW):EA P Xu 0 (callMethod recv name args):=by
 unfold callMethod;split
 .refine Oq ?_;refine Eg BU λx=>?_;exact X3 a _ _
 .exact Rl _
 exact .inl rfl
def Nk(a:OkP P)(t:Target)(args:Array AW):EA P Xu 0 (invoke t args):=by
 unfold invoke;split
 .exact Rl _
 .exact uY _ _ _ _ _
 .exact X3 a _ _
 .split;{exact Ze a _ _ _};exact .inl rfl
 .split;{refine Eg BU λu=>?_;exact Ze a _ _ _};exact .inl rfl
 .split;{refine Eg BU λu=>?_;exact X3 a _ _};exact .inl rfl
 .exact Axl _ _
 .exact .inl rfl
 exact Ib trivial
@[simp]theorem A49(f:AW)(args:Array AW):Calm P (Deferred.ofValue f args):=by unfold Deferred.ofValue;split<;>simp
@[simp]theorem Yj(a:Operand->Value)(c:Call)(t:AZ):Calm P (resolve a c t):=by unfold resolve;dsimp only;split<;>simp
@[simp]theorem Awq(t:AZ)(x y:AW):Calm P (movedNumber t x y):=by unfold movedNumber;exact cmF
@[simp]theorem Av0(t:AZ)(x y:AW):Calm P (movedPointer t x y):=by unfold movedPointer;exact cmF
@[simp]theorem uW(op:BinOp)(t:AZ)(x y:Operand)(a b:AW):Calm P (eqGuard op t x y a b):=by unfold eqGuard;exact cmF
@[simp]theorem Av1(op:BinOp)(t:AZ)(x y:AW):Calm P (binOp op t x y):=by unfold binOp;exact cmF
@[simp]theorem A5c(src dst:AZ)(x:AW):Calm P (convert src dst x):=by unfold convert;exact cmF
theorem YG(e:OkP P)(f:Operand->Value)(o:Oper):EA P Xu 0 (execOp f o):=by
 unfold execOp;dsimp only;cases o.op;case nilCheck x=>dsimp only;repeat' first|exact Ib trivial|exact Rl _|refine Eg (sn _ _ _ _) (λ_=>?_)|with_reducible refine Oq ?_|refine Eg Kv (λ_=>?_)|split
 case binOp op t x y g=>exact NP (Calm.bind (uW _ _ _ _ _ _) λ_=>Av1 _ _ _ _)
 case recv t c k=>refine Eg (qz _) λd=>?_;split;{exact Eg (Zn _) λ_=>Ib trivial};exact .inl rfl
 case select i b=>exact Eg (Hz _ λ_=>Calm.bind (Zn _) λ_=>Ae) λ_=>Ib trivial
 case call c=>exact Eg (Yj _ _ _) λ_=>Nk e _ _
 case go c=>exact Eg (Yj _ _ _) λ_=>Ib trivial
 case defer c=>exact Eg (Yj _ _ _) λ_=>Ib trivial
 case pick a b c=>exact Eg BU λ_=>Ib trivial
 all_goals first|exact Ib trivial|exact NP BU|exact iM BU
end
