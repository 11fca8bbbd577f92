import Derived.Test.YthdogflpbpkbeaaGreatDoorA00
import Derived.Conc.Beside
set_option linter.defProp false
set_option maxRecDepth 10000
set_option maxHeartbeats 4000000
namespace Go.Co
def KV:Halt->Prop
 |.unsupported (.initOrder _)=>False
 |.blocked|.waiting|.unsupported _|.stuck _=>True
 |_=>False
def rK(d:Nat):Mark->Nat
 |.disable=>d+1
 |.enable=>d - 1
 |_=>d
def TJ{α:Type}:Sem α->Prop
 |.halt h=>KV h
 |_=>False
def EC(P:AY){α:Type}(N:α->Prop):Nat->Sem α->Prop
 |d,.pure a=>d=0/\N a
 |d,.load _ _ k=>∀v,EC P N d (k v)
 |d,.store _ _ _ k=>EC P N d k
 |d,.new _ k=>∀r,EC P N d (k r)
 |d,.shape _ k=>∀s,EC P N d (k s)
 |d,.freeze _ _ k=>EC P N d k
 |d,.frozen _ k=>∀b,EC P N d (k b)
 |d,.getObj _ k=>∀o,EC P N d (k o)
 |d,.setObj _ _ k=>EC P N d k
 |d,.choose _ k=>∀n,EC P N d (k n)
 |d,.sys _ k=>TJ (k .wouldBlock)/\∀r,EC P N d (k r)
 |d,.program k=>EC P N d (k P)
 |d,.mark m k=>EC P N (rK d m) k
 |d,.halt h=>d=0\/KV h
def Calm(P:AY){α:Type}(s:Sem α):Prop:=EC P (λ_=>True) 0 s
section
variable {γ:Type}
variable {P:AY}{α β:Type}
theorem Aya{M:α->Prop}{N:β->Prop}{f:α->Sem β}(g:∀a,M a->EC P N 0 (f a)):∀(s:Sem α)(d:Nat),EC P M d s->EC P N d (s.bind f):=by
 intro s;induction s with
 |pure a=>intro d h;obtain⟨rfl,h⟩:=h;exact g a h
 |load m a k b=>exact λd h v=>b v d (h v)|store m a v k b=>exact λd h=>b d h|new o k b=>exact λd h v=>b v d (h v)|shape r k b=>exact λd h v=>b v d (h v)|freeze a n k b=>exact λd h=>b d h|frozen a k b=>exact λd h v=>b v d (h v)|getObj r k b=>exact λd h v=>b v d (h v)|setObj r o k b=>exact λd h=>b d h|choose q k b=>exact λd h v=>b v d (h v)
 |sys c k b=>
  intro d h;refine⟨?_,λr=>b r d (h.2 r)⟩;have i:=h.1;show TJ ((k .wouldBlock).bind f)
  revert i
  cases k .wouldBlock<;>simp only[TJ,false_implies,Sem.bind]
  exact id
 |program k b=>exact λd h=>b P d h|mark m k b=>exact λd h=>b _ h|halt x=>exact λd h=>h
def Em{N:β->Prop}{s:Sem α}{f:α->Sem β}(c:Calm P s)(b:∀a,EC P N 0 (f a)):EC P N 0 (s>>=f):=Aya (λa _=>b a) s 0 c
def Ij{N:α->Prop}{a:α}(h:N a):EC P N 0 (pure a:Sem α):=⟨rfl,h⟩
@[simp]theorem Ae{a:α}:Calm P (pure a:Sem α):=⟨rfl,trivial⟩
@[simp]theorem A90{a:Ab}{m:Mode}:Calm P (load a m):=λ_=>⟨rfl,trivial⟩
@[simp]theorem Awm{a:Ab}{v:AW}{m:Mode}:Calm P (store a v m):=⟨rfl,trivial⟩
@[simp]theorem A8a{o:Obj}:Calm P (newObj o):=λ_=>⟨rfl,trivial⟩
@[simp]theorem A83{r:Nat}:Calm P (shape r):=λ_=>⟨rfl,trivial⟩
@[simp]theorem A8e{a:Ab}{n:Nat}:Calm P (freeze a n):=⟨rfl,trivial⟩
@[simp]theorem A8d{a:Ab}:Calm P (frozen a):=λ_=>⟨rfl,trivial⟩
@[simp]theorem yG{r:Nat}:Calm P (getObj r):=λ_=>⟨rfl,trivial⟩
@[simp]theorem XI{r:Nat}{o:Obj}:Calm P (setObj r o):=⟨rfl,trivial⟩
@[simp]theorem Nh{q:Question}:Calm P (choose q):=λ_=>⟨rfl,trivial⟩
@[simp]theorem wA:Calm P program:=⟨rfl,trivial⟩
@[simp]theorem A77:Calm P (mark .noRoom):=⟨rfl,trivial⟩
@[simp]theorem A8c{f:FuncId}:Calm P (mark (.extern f)):=⟨rfl,trivial⟩
@[simp]theorem Ef{s:String}:Calm P (stuck s:Sem α):=.inl rfl
@[simp]theorem Ky{u:Unsupported}:Calm P (unsupported u:Sem α):=.inl rfl
@[simp]theorem A56{v:AW}:Calm P (goPanic v:Sem α):=.inl rfl
@[simp]theorem A82{s:String}:Calm P (throw s:Sem α):=.inl rfl
def Calm.bind{s:Sem α}{f:α->Sem β}(c:Calm P s)(b:∀a,Calm P (f a)):Calm P (s>>=f):=Em c b
def cmF{P:AY}{α:Type}{x:Sem α}(h:Calm P x:=by repeat' first|exact Ae|(simp;done)|refine Calm.bind ?_ (λ_=>?_)|split):Calm P x:=h
def Calm.map{s:Sem α}{f:α->β}(a:Calm P s):Calm P (f<$>s):=Em a λ_=>⟨rfl,trivial⟩
def cmG{P:AY}{α:Type}{x:Sem α}(h:Calm P x:=by repeat' first|exact Ae|exact Or.inl rfl|assumption|(simp;done)|refine Calm.bind ?_ (λ_=>?_)|dsimp only|refine Calm.map ?_|split|intro _):Calm P x:=h
def cmC{P:AY}{α:Type}{x:Sem α}(h:Calm P x:=by repeat' first|exact Ae|exact Or.inl rfl|assumption|(simp;done)|refine Calm.bind ?_ (λ_=>?_)|dsimp only|refine Calm.map ?_|split|intro _):Calm P x:=h
theorem Ic(l:List γ){f:γ->β->Sem (ForInStep β)}(c:∀a b,Calm P (f a b)):∀b,Calm P (forIn l b f):=by induction l with|nil=>exact λb=>by rw[List.forIn_nil];exact Ae|cons a l g=>intro b;rw[List.forIn_cons];refine Calm.bind (c a b) λr=>?_;cases r with|done b=>exact Ae|yield b=>exact g b
def Ib(l:Array γ){f:γ->β->Sem (ForInStep β)}(c:∀a b,Calm P (f a b))(b:β):Calm P (forIn l b f):=by rw[<-Array.forIn_toList];exact Ic _ c b
def Ia(r:Std.Legacy.Range){f:Nat->β->Sem (ForInStep β)}(c:∀a b,Calm P (f a b))(b:β):Calm P (forIn r b f):=by rw[Std.Legacy.Range.forIn_eq_forIn_range'];exact Ic _ c b
theorem wF(l:List γ):∀{f:(a:γ)->a∈l->β->Sem (ForInStep β)}(_:∀a h b,Calm P (f a h b))(b:β),Calm P (forIn' l b f):=by induction l with|nil=>exact λ_ b=>by rw[List.forIn'_nil];exact Ae|cons a l g=>intro f c b;rw[List.forIn'_cons];refine Calm.bind (c _ _ b) λr=>?_;cases r with|done b=>exact Ae|yield b=>exact g (λ_ _ _=>c _ _ _) b
def wC(r:Std.Legacy.Range){f:(i:Nat)->i∈r->β->Sem (ForInStep β)}(c:∀a h b,Calm P (f a h b))(b:β):Calm P (forIn' r b f):=by rw[Std.Legacy.Range.forIn'_eq_forIn'_range'];exact wF _ (λ_ _ _=>c _ _ _) b
def yH(l:List γ){f:β->γ->Sem β}(c:∀a b,Calm P (f a b)):∀b,Calm P (l.foldlM f b):=by induction l with|nil=>exact λb=>Ae|cons a l g=>exact λb=>by rw[List.foldlM_cons];exact Calm.bind (c b a) g
def H8(l:List γ){f:γ->Sem β}(b:∀a,Calm P (f a)):Calm P (l.mapM f):=by induction l with|nil=>rw[List.mapM_nil];exact Ae|cons a l c=>rw[List.mapM_cons];exact Calm.bind (b a) λ_=>Calm.bind c λ_=>Ae
def H9(l:Array γ){f:γ->Sem β}(b:∀a,Calm P (f a)):Calm P (l.mapM f):=by rw[Array.mapM_eq_mapM_toList];exact Calm.map (H8 _ b)
def cmE{P:AY}{α:Type}{x:Sem α}(h:Calm P x:=by repeat' first|exact Ae|assumption|(simp;done)|exact ih _|exact ih _ _|exact ih _ _ _|exact ih _ _ _ _|refine Calm.bind ?_ (λ_=>?_)|refine Ic _ (λ_ _=>?_) _|refine Ib _ (λ_ _=>?_) _|refine Ia _ (λ_ _=>?_) _|refine H9 _ (λ_=>?_)|refine H8 _ (λ_=>?_)|dsimp only|refine Calm.map ?_|split|intro _):Calm P x:=h
def cmD{P:AY}{α:Type}{x:Sem α}(h:Calm P x:=by repeat' first|exact Ae|assumption|(simp;done)|refine Calm.bind ?_ (λ_=>?_)|refine Ic _ (λ_ _=>?_) _|refine Ib _ (λ_ _=>?_) _|refine Ia _ (λ_ _=>?_) _|refine H9 _ (λ_=>?_)|refine H8 _ (λ_=>?_)|dsimp only|refine Calm.map ?_|split|intro _):Calm P x:=h
def B9{P:AY}{α:Type}{x:Sem α}(h:Calm P x:=by repeat' first|exact Ae|assumption|(simp;done)|refine Calm.bind ?_ (λ_=>?_)|refine Ic _ (λ_ _=>?_) _|refine Ib _ (λ_ _=>?_) _|refine Ia _ (λ_ _=>?_) _|refine H9 _ (λ_=>?_)|refine H8 _ (λ_=>?_)|refine yH _ (λ_ _=>?_) _|refine wC _ (λ_ _ _=>?_) _|dsimp only|refine Calm.map ?_|split|intro _):Calm P x:=h
def Bm{P:AY}{α:Type}{x:Sem α}(h:Calm P x:=by repeat' first|exact Ae|assumption|(simp;done)|refine Calm.bind ?_ (λ_=>?_)|refine Ic _ (λ_ _=>?_) _|refine Ib _ (λ_ _=>?_) _|refine Ia _ (λ_ _=>?_) _|refine H9 _ (λ_=>?_)|refine H8 _ (λ_=>?_)|dsimp only|refine Calm.map ?_|split|intro _):Calm P x:=h
end
section
variable {P:AY}
@[simp]theorem A6a(bytes):Calm P (askRoom bytes):=by unfold askRoom;exact Bm
@[simp]theorem A73(r):Calm P (viewAt r):=by unfold viewAt;exact Bm
@[simp]theorem A48(r):Calm P (numberAt r):=by unfold numberAt;exact Bm
@[simp]theorem A59(r):Calm P (cellsIn r):=by unfold cellsIn;exact Bm
@[simp]theorem A5b(a lost):Calm P (asNumber a lost):=by unfold asNumber;exact Bm
@[simp]theorem Awq(n):Calm P (behindNumber n):=by unfold behindNumber;exact Bm
@[simp]theorem A76(a):Calm P (noView a):=by unfold noView;exact Bm
@[simp]theorem As6(a):Calm P (markStringish a):=by unfold markStringish;exact Bm
@[simp]theorem A2n(a):Calm P (stringish a):=by unfold stringish;exact Bm
@[simp]theorem A49(a b):Calm P (mayBeOne a b):=by unfold mayBeOne;exact Bm
@[simp]theorem A47(a b):Calm P (sameAddr a b):=by unfold sameAddr;exact Bm
@[simp]theorem Axa(x0 x1):Calm P (samePointer x0 x1):=by unfold samePointer;exact Bm
@[simp]theorem tq(t):Calm P (typeInfo t):=by unfold typeInfo;exact Bm
@[simp]theorem sS(t):Calm P (underlying t):=by unfold underlying;exact Bm
@[simp]theorem A57(name):Calm P (cutType name):=by unfold cutType;exact Bm
@[simp]theorem A54(t):Calm P (typeStr t):=by unfold typeStr;exact Bm
@[simp]theorem Zw(t):Calm P (zeroValue t):=by unfold zeroValue;exact Bm
@[simp]theorem A74(t):Calm P (sizeOf t):=by unfold sizeOf;exact Bm
@[simp]theorem A84(t):Calm P (isAgg t):=by unfold isAgg;exact Bm
@[simp]theorem As7:∀(b:Nat)(a:Ab)(i:Nat)(c:δ),Calm P (loadCellsFrom a i b c:Sem (δ)):=by
 intro b;induction b with
 |zero=>
  intros
  unfold loadCellsFrom;exact Bm
 |succ n ih=>
  intros
  unfold loadCellsFrom;exact cmE
@[simp]theorem A2o(a n):Calm P (loadCells a n):=by unfold loadCells;exact Bm
def sC(a:Ab):∀(b:Θ)(i:Nat),Calm P (storeCells a b i):=by
 intro b;induction b with
 |nil=>exact λ_=>Ae|cons v l c=>exact λi=>Calm.bind Awm λ_=>c (i+1)
@[simp]theorem A1p(a:Ab)(vs:Θ)(i:Nat):Calm P (storeCells a vs i):=sC a vs i
@[simp]theorem wB(t a):Calm P (loadVar t a):=by unfold loadVar;exact Bm
@[simp]theorem A46(t a v):Calm P (storeVar t a v):=by unfold storeVar;exact Bm
@[simp]theorem A79(elem cells):Calm P (newRow elem cells):=by unfold newRow;exact Bm
@[simp]theorem A78(t v):Calm P (newVar t v):=by unfold newVar;exact Bm
@[simp]theorem A8g(t):Calm P (elemOf t):=by unfold elemOf;exact Bm
@[simp]theorem A9z(t cs off):Calm P (part t cs off):=by unfold part;exact Bm
@[simp]theorem Axc{α:Type}(a:String):Calm P (panicString a:Sem α):=by unfold panicString;exact Bm
@[simp]theorem Ql{α:Type}(e:RuntimeError):Calm P (runtimePanic e:Sem α):=by unfold runtimePanic;exact Bm
@[simp]theorem Axf{α:Type}(k:IntKind)(x:Int)(y:Int)(code:BoundsCode):Calm P (boundsPanic k x y code:Sem α):=by unfold boundsPanic;exact Bm
@[simp]theorem A6b(x0):Calm P (asIntOf x0):=by unfold asIntOf;exact Bm
@[simp]theorem A85(v):Calm P (asInt v):=by unfold asInt;exact Bm
@[simp]theorem A8i(x0):Calm P (asBool x0):=by unfold asBool;exact Bm
@[simp]theorem A5a(x0):Calm P (asString x0):=by unfold asString;exact Bm
@[simp]theorem A86(x0):Calm P (asAgg x0):=by unfold asAgg;exact Bm
@[simp]theorem yI(x0):Calm P (asAddr x0):=by unfold asAddr;exact Bm
@[simp]theorem A8h(a):Calm P (byteOf a):=by unfold byteOf;exact Bm
@[simp]theorem A75(base cells bytes):Calm P (partAt base cells bytes):=by unfold partAt;exact Bm
@[simp]theorem A1r(a f):Calm P (fieldPlace a f):=by unfold fieldPlace;exact Bm
@[simp]theorem Aw9(a u n):Calm P (variablesAt a u n):=by unfold variablesAt;exact Bm
@[simp]theorem A2p:∀(b:Nat)(a:Ab)(acc:ByteArray),Calm P (loadBytes a acc b:Sem ByteArray):=by
 intro b;induction b with
 |zero=>
  intros
  unfold loadBytes;exact Bm
 |succ n ih=>
  intros
  unfold loadBytes;exact cmE
end
section
variable {P:AY}
@[simp]theorem A2r(op k x y):Calm P (Op.intDiv op k x y):=by unfold Op.intDiv;exact Bm
@[simp]theorem A5d(op k x _yk y):Calm P (Op.shift op k x _yk y):=by unfold Op.shift;exact Bm
@[simp]theorem A2s(op x y):Calm P (Op.intCmp op x y):=by unfold Op.intCmp;exact Bm
@[simp]theorem As8(op k x y):Calm P (Op.floatArith op k x y):=by unfold Op.floatArith;exact Bm
@[simp]theorem Axh(op k x y):Calm P (Op.floatCmp op k x y):=by unfold Op.floatCmp;exact Bm
@[simp]theorem Ao2(src bits dst):Calm P (Conv.floatToInt src bits dst):=by unfold Conv.floatToInt;exact Bm
@[simp]theorem Al7(src bits dst):Calm P (Conv.floatToFloat src bits dst):=by unfold Conv.floatToFloat;exact Bm
@[simp]theorem Ahm(src re im dst):Calm P (Conv.complexToComplex src re im dst):=by unfold Conv.complexToComplex;exact Bm
@[simp]theorem Aln(elem s):Calm P (Conv.stringToBytes elem s):=by unfold Conv.stringToBytes;exact Bm
@[simp]theorem Alp(x):Calm P (Conv.bytesToString x):=by unfold Conv.bytesToString;exact Bm
@[simp]theorem Alm(elem s):Calm P (Conv.stringToRunes elem s):=by unfold Conv.stringToRunes;exact Bm
@[simp]theorem Alo(x):Calm P (Conv.runesToString x):=by unfold Conv.runesToString;exact Bm
@[simp]theorem Axs(a):Calm P (Conv.seenAt a):=by unfold Conv.seenAt;exact Bm
@[simp]theorem Alk(src dst x):Calm P (Conv.unsafePointer src dst x):=by unfold Conv.unsafePointer;exact Bm
@[simp]theorem Aog(op k x y):Calm P (Op.Complex.arith op k x y):=by unfold Op.Complex.arith;exact Bm
@[simp]theorem Aoy(src x dst):Calm P (Op.Complex.conv src x dst):=by unfold Op.Complex.conv;exact Bm
@[simp]theorem Ald(a b c d):Calm P (Op.Complex.product a b c d):=by unfold Op.Complex.product;exact Bm
@[simp]theorem Ah8(scale a b c d):Calm P (Op.Complex.corrected scale a b c d):=by unfold Op.Complex.corrected;exact Bm
@[simp]theorem Ajs(a b c d):Calm P (Op.Complex.quotient a b c d):=by unfold Op.Complex.quotient;exact Bm
@[simp]theorem Awt(op k xr xi yr yi):Calm P (Op.complexOp op k xr xi yr yi):=by unfold Op.complexOp;exact Bm
@[simp]theorem Axg(op x y):Calm P (Op.stringOp op x y):=by unfold Op.stringOp;exact Bm
@[simp]theorem A1s:∀(a:Nat)(b:AZ)(f:AW)(c:AW),Calm P (Op.equalIn a b f c:Sem Bool):=by
 intro a;induction a with
 |zero=>
  intros
  unfold Op.equalIn;exact Bm
 |succ n ih=>
  intros
  unfold Op.equalIn;exact cmE
@[simp]theorem A5e(t x y):Calm P (Op.equal t x y):=by unfold Op.equal;exact Bm
@[simp]theorem Aws:∀(a:Nat)(b:AZ)(f:AW)(c:AW),Calm P (Op.eqGuardIn a b f c:Sem Bool):=by
 intro a;induction a with
 |zero=>
  intros
  unfold Op.eqGuardIn;exact Bm
 |succ n ih=>
  intros
  unfold Op.eqGuardIn;exact cmE
@[simp]theorem Awr(a b):Calm P (Op.twoPlaces a b):=by unfold Op.twoPlaces;exact Bm
@[simp]theorem A1t(k a b):Calm P (Op.addrSub k a b):=by unfold Op.addrSub;exact Bm
@[simp]theorem A1v(op a b):Calm P (Op.addrCmp op a b):=by unfold Op.addrCmp;exact Bm
@[simp]theorem A1u(k a n):Calm P (Op.addrMod k a n):=by unfold Op.addrMod;exact Bm
@[simp]theorem A5c(op x):Calm P (Op.unary op x):=by unfold Op.unary;exact Bm
end
section
variable {P:AY}
@[simp]theorem Axr(elem heap old):Calm P (Instr.alloc elem heap old):=by unfold Instr.alloc;exact Bm
@[simp]theorem Aoi(x y code):Calm P (Instr.sliceBound x y code):=by unfold Instr.sliceBound;exact Bm
@[simp]theorem Al5(isSlice len cap low high max):Calm P (Instr.sliceBounds isSlice len cap low high max):=by unfold Instr.sliceBounds;exact Bm
@[simp]theorem Axj(xType x low high max):Calm P (Instr.slice xType x low high max):=by unfold Instr.slice;exact Bm
@[simp]theorem Aq8(x0):Calm P (Instr.sureAddr x0):=by unfold Instr.sureAddr;exact Bm
@[simp]theorem Awv(t addr):Calm P (Instr.loadAt t addr):=by unfold Instr.loadAt;exact Bm
@[simp]theorem As9(t addr val):Calm P (Instr.storeAt t addr val):=by unfold Instr.storeAt;exact Bm
@[simp]theorem Ate(s addr field):Calm P (Instr.fieldAt s addr field):=by unfold Instr.fieldAt;exact Bm
@[simp]theorem Atc(t x index):Calm P (Instr.indexAt t x index):=by unfold Instr.indexAt;exact Bm
@[simp]theorem Ata(t x low high max):Calm P (Instr.sliceAt t x low high max):=by unfold Instr.sliceAt;exact Bm
@[simp]theorem Ath(arr x):Calm P (Instr.arrayAt arr x):=by unfold Instr.arrayAt;exact Bm
@[simp]theorem A2t(elem v):Calm P (Instr.box elem v):=by unfold Instr.box;exact Bm
@[simp]theorem Axq(t parts):Calm P (Instr.build t parts):=by unfold Instr.build;exact Bm
@[simp]theorem Aol(t len parts):Calm P (Instr.buildSlice t len parts):=by unfold Instr.buildSlice;exact Bm
@[simp]theorem Axi(g):Calm P (Instr.waits g):=by unfold Instr.waits;exact Bm
@[simp]theorem Axk(g):Calm P (Instr.ready g):=by unfold Instr.ready;exact Bm
@[simp]theorem Ajt(xType x):Calm P (Instr.makeInterface xType x):=by unfold Instr.makeInterface;exact Bm
@[simp]theorem Atb(t reserve):Calm P (Instr.makeMap t reserve):=by unfold Instr.makeMap;exact Bm
@[simp]theorem Ara(t size):Calm P (Instr.makeChan t size):=by unfold Instr.makeChan;exact Bm
@[simp]theorem Ao0(t len cap):Calm P (Instr.makeSlice t len cap):=by unfold Instr.makeSlice;exact Bm
@[simp]theorem Axo(xType x field):Calm P (Instr.field xType x field):=by unfold Instr.field;exact Bm
@[simp]theorem Axn(xType x index):Calm P (Instr.index xType x index):=by unfold Instr.index;exact Bm
@[simp]theorem Arc:∀(a:Nat)(empty:Bool)(b:AZ)(c:AW),Calm P (Instr.checkKey empty a b c:Sem Unit):=by
 intro a;induction a with
 |zero=>
  intros
  unfold Instr.checkKey;exact Bm
 |succ n ih=>
  intros
  unfold Instr.checkKey;exact cmE
@[simp]theorem Aoj(keyType:AZ)(k:AW):∀(a:List MapEntry)(i:Nat),Calm P (Instr.findAsking keyType k a i):=by
 intro a;induction a with
 |nil=>exact λ_=>Ae|cons e a c=>intro i;refine Calm.bind BU λb=>?_;cases b;{exact c _};exact Ae
@[simp]theorem Atd(keyType k es):Calm P (Instr.findKey keyType k es):=by unfold Instr.findKey;exact Bm
@[simp]theorem Awu(xType x index commaOk):Calm P (Instr.lookup xType x index commaOk):=by unfold Instr.lookup;exact Bm
@[simp]theorem Alf(old new):Calm P (Instr.keyThatStays old new):=by unfold Instr.keyThatStays;exact Bm
@[simp]theorem Aoz(mapType map key value):Calm P (Instr.mapUpdate mapType map key value):=by unfold Instr.mapUpdate;exact Bm
@[simp]theorem Aq9(mapType map key):Calm P (Instr.mapEntry mapType map key):=by unfold Instr.mapEntry;exact Bm
@[simp]theorem Aok(_mapType map stamp value):Calm P (Instr.entryStore _mapType map stamp value):=by unfold Instr.entryStore;exact Bm
@[simp]theorem Axl(xType x):Calm P (Instr.range xType x):=by unfold Instr.range;exact Bm
@[simp]theorem A1w(iter isString _type):Calm P (Instr.next iter isString _type):=by unfold Instr.next;exact Bm
@[simp]theorem Axp(iter):Calm P (Instr.entry iter):=by unfold Instr.entry;exact Bm
theorem VT(argTypes t a b):Calm P (Builtin.ssaWrapNilChk_ argTypes t #[.pointer none,.string a,.string b]):=by refine Calm.bind (s:=choose (Question.extern "ssa:wrapnilchk.dereferenced" 2)) BU (λn=>?_);repeat' first|exact Ae|assumption|(simp;done)|refine Calm.bind ?_ (λ_=>?_)|dsimp only|refine Calm.map ?_|split|intro _
@[simp]theorem Ahn(argTypes t args):Calm P (Builtin.ssaWrapNilChk_ argTypes t args):=by
 rcases args with⟨_|⟨c,_|⟨f,_|⟨b,_|⟨g,l⟩⟩⟩⟩⟩;case cons.cons.cons.nil=>
  cases f<;>first
   |exact Ef
   | (cases b<;>first
    |exact Ef
    | (cases c<;>first
     |exact Ef
     |(rename_i o _ _;cases o<;>first|exact Ae (a:=Value.pointer (some _))|exact VT _ _ _ _)
     | (rename_i o;cases o<;>first | exact Ae (a:=Value.pointer (some _)) | exact VT _ _ _ _)))
 all_goals exact Ef
@[simp]theorem A2q(t x0):Calm P (Place.get t x0):=by unfold Place.get;exact Bm
@[simp]theorem A8f:∀(a:List FieldStep)(b:AZ)(c:Place),Calm P (follow a b c:Sem (AZ × Place)):=by
 intro a;induction a with
 |nil=>
  intros
  unfold follow;exact Bm
 |cons y l ih=>
  intros
  unfold follow;exact cmE
@[simp]theorem A1q(xt x pointerReceiver wrapper):Calm P (receiverAt xt x pointerReceiver wrapper):=by unfold receiverAt;exact Bm
@[simp]theorem Axb(t v path pointerReceiver):Calm P (receiverVia t v path pointerReceiver):=by unfold receiverVia;exact Bm
@[simp]theorem A8b:∀(a:Nat)(b:AZ)(f:AW)(c:String),Calm P (method a b f c:Sem (FuncId × AW)):=by
 intro a;induction a with
 |zero=>
  intros
  unfold method;exact Bm
 |succ n ih=>
  intros
  unfold method;exact cmE
@[simp]theorem Axe:∀(a:List FieldStep)(b:AZ)(c:Option AW),Calm P (followBlind a b c:Sem (Except (Option Bool) (AZ × Option AW))):=by
 intro a;induction a with
 |nil=>
  intros
  unfold followBlind;exact Bm
 |cons y l ih=>
  intros
  unfold followBlind;exact cmE
@[simp]theorem tw:∀(a:Nat)(b:AZ)(f:AW)(c:String),Calm P (nilAhead a b f c:Sem (Option Bool)):=by
 intro a;induction a with
 |zero=>
  intros
  unfold nilAhead;exact Bm
 |succ n ih=>
  intros
  unfold nilAhead;exact cmE
@[simp]theorem Aoh(x xType asserted commaOk):Calm P (Instr.typeAssert x xType asserted commaOk):=by unfold Instr.typeAssert;exact Bm
@[simp]theorem Atf(tuple index):Calm P (Instr.extract tuple index):=by unfold Instr.extract;exact Bm
end
section
variable {P:AY}
@[simp]theorem Alq(a:Ab)(cells:Nat):Calm P (Go.Builtin.holdsCells a cells:Sem Bool):=by unfold Go.Builtin.holdsCells;exact cmF
@[simp]theorem Aon(size a n:Nat)(base:Δ)(x:AW):Calm P (Go.Builtin.mayShare size a n base x):=by unfold Go.Builtin.mayShare;repeat' first|exact Ae|(simp;done)|refine Calm.bind ?_ (λ_=>?_)|dsimp only|refine Calm.map ?_|split
@[simp]theorem Ati(x:AW):Calm P (Go.Builtin.lenOf x):=by unfold Go.Builtin.lenOf;split<;>simp
@[simp]theorem Alr(size n:Nat)(x:AW):Calm P (Go.Builtin.firstCells size n x):=by unfold Go.Builtin.firstCells;split<;>simp
@[simp]theorem Arf(argTypes:Array AZ)(_type:AZ)(args:δ) :Calm P (Builtin.append_ argTypes _type args):=by
 unfold Builtin.append_;split
 . refine Calm.bind BU λd=>?_
   split
   . split
     . refine Calm.bind BU λsize=>?_
       dsimp only;have two:∀z:Bool,Calm P (pure z:Sem Bool):=λ_=>Ae
       split
       . refine Calm.bind BU λu=>?_
         split<;>
         (refine Calm.bind (two _) λz=>?_
          cases z<;>simp only[E3,EL,Bool.not_false,if_true,M4,false_or,true_or,Hj]<;>
          repeat' first
            |exact Ae
            |with_reducible refine Calm.bind ?_ (λ_=>?_)
            |with_reducible refine Calm.map ?_
            |split
            | (simp;done))
       . refine Calm.bind (two _) λz=>?_
         cases z<;>simp only[E3,EL,Bool.not_false,if_true,M4,false_or,true_or,Hj]<;>
         repeat' first
           |exact Ae
           |with_reducible refine Calm.bind ?_ (λ_=>?_)
           |with_reducible refine Calm.map ?_
           |split
           |(simp;done)
     . simp
   . simp
 . simp
@[simp]theorem Atj(a:Array AZ)(t:AZ)(args:δ):Calm P (Builtin.close_ a t args):=by
 rcases args with⟨_|⟨b,_|⟨f,l⟩⟩⟩
 . exact Ef
 . cases b<;>first
  |exact Ef
  | (rename_i o
     cases o
     . exact Ql (.plain "close of nil channel")
     . refine Calm.bind (s:=getObj _) yG λo=>?_
       cases o<;>first
         |exact Ef
         | (rename_i c _ _ _;cases c
            . exact Calm.bind (s:=setObj _ _) XI λ_=>Ae
            . exact Calm.bind (s:=runtimePanic _) (Ql _) λ_=>Calm.bind (s:=setObj _ _) XI λ_=>Ae))
 . exact Ef
@[simp]theorem Ao3(a:Array AZ)(t:AZ)(args:δ):Calm P (Builtin.complex_ a t args):=by
 rcases args with⟨_|⟨b,_|⟨c,_|⟨f,l⟩⟩⟩⟩;case cons.cons.nil=>
  cases b<;>cases c<;>first
   |exact Ef
   | (show Calm P (if _=_ then pure _ else stuck _)
      split<;>simp)
 all_goals exact Ef
@[simp]theorem Awz(a:Array AZ)(t:AZ)(args:δ):Calm P (Builtin.imag_ a t args):=by
 rcases args with⟨_|⟨b,_|⟨c,l⟩⟩⟩;case cons.nil=>cases b<;>first|exact Ef|exact Ae
 all_goals exact Ef
@[simp]theorem Aww(a:Array AZ)(t:AZ)(args:δ):Calm P (Builtin.real_ a t args):=by
 rcases args with⟨_|⟨b,_|⟨c,l⟩⟩⟩;case cons.nil=>cases b<;>first|exact Ef|exact Ae
 all_goals exact Ef
def zc0 {p:Prop}(h:p:=by
 cases y0<;>first
  |exact Ef
  | (refine Calm.bind (s:=asInt y1) BU λn=>?_
     repeat' first
       |exact Ae
       |(simp;done)
       |refine Calm.bind ?_ (λ_=>?_)
       | split)):p:=h
@[simp]theorem Al8(a:Array AZ)(t:AZ)(args:δ):Calm P (Builtin.unsafeAdd_ a t args):=by
 rcases args with⟨_|⟨y0,_|⟨y1,_|⟨b,l⟩⟩⟩⟩;case cons.cons.nil=>exact zc0
 all_goals exact Ef
@[simp]theorem Ajw(a:Array AZ)(t:AZ)(args:δ):Calm P (Builtin.unsafeSlice_ a t args):=by
 rcases args with⟨_|⟨y0,_|⟨y1,_|⟨b,l⟩⟩⟩⟩;case cons.cons.nil=>exact zc0
 all_goals exact Ef
@[simp]theorem Ae1(a:Array AZ)(t:AZ)(args:δ):Calm P (Builtin.unsafeSliceData_ a t args):=by
 rcases args with⟨_|⟨b,_|⟨g,l⟩⟩⟩;case cons.nil=>
  cases b<;>first
   |exact Ef
   | (rename_i o n c
      cases o
      . exact Ae
      . rename_i f
        show Calm P (if _ then pure _ else _)
        repeat' first
          |exact Ae
          |(simp;done)
          |refine Calm.bind ?_ (λ_=>?_)
          | split)
 all_goals exact Ef
@[simp]theorem Aia(a:Array AZ)(t:AZ)(args:δ):Calm P (Builtin.unsafeString_ a t args):=by
 rcases args with⟨_|⟨y0,_|⟨y1,_|⟨b,l⟩⟩⟩⟩;case cons.cons.nil=>exact zc0
 all_goals exact Ef
@[simp]theorem Aem(a:Array AZ)(t:AZ)(args:δ):Calm P (Builtin.unsafeStringData_ a t args):=by
 rcases args with⟨_|⟨b,_|⟨c,l⟩⟩⟩;case cons.nil=>
  cases b<;>first
   |exact Ef
   | (rename_i o
      show Calm P (if _ then _ else _)
      repeat' first
          |exact Ae
          |(simp;done)
          |refine Calm.bind ?_ (λ_=>?_)
          | split)
 all_goals exact Ef
end
section
variable {P:AY}
@[simp]theorem Axw(argTypes _type args):Calm P (Builtin.cap_ argTypes _type args):=by unfold Builtin.cap_;exact B9
@[simp]theorem Atk(argTypes _type args):Calm P (Builtin.clear_ argTypes _type args):=by unfold Builtin.clear_;exact B9
@[simp]theorem Aw0(argTypes _type args):Calm P (Builtin.copy_ argTypes _type args):=by unfold Builtin.copy_;exact B9
@[simp]theorem Ard(argTypes _type args):Calm P (Builtin.delete_ argTypes _type args):=by unfold Builtin.delete_;exact B9
@[simp]theorem Axv(argTypes _type args):Calm P (Builtin.len_ argTypes _type args):=by unfold Builtin.len_;exact B9
@[simp]theorem Awy(x0 x1):Calm P (Builtin.max2 x0 x1):=by unfold Builtin.max2;exact B9
@[simp]theorem Axu(_argTypes _type args):Calm P (Builtin.max_ _argTypes _type args):=by unfold Builtin.max_;exact B9
@[simp]theorem Awx(x0 x1):Calm P (Builtin.min2 x0 x1):=by unfold Builtin.min2;exact B9
@[simp]theorem Axt(_argTypes _type args):Calm P (Builtin.min_ _argTypes _type args):=by unfold Builtin.min_;exact B9
@[simp]theorem Aom(t v):Calm P (Builtin.printOne t v):=by unfold Builtin.printOne;exact B9
@[simp]theorem rR(ln consts argTypes args):Calm P (Builtin.pieces ln consts argTypes args):=by unfold Builtin.pieces;exact B9
end
def X0:Next->Prop
 |.value _|.skip|.enter ..|.round ..|.defer _|.recover|.spawn _|.comm ..|.coroswitch ..=>True
 |.row r _=>r= "runtime.print$piece"
 |_=>False
section
variable {d:Nat}
variable {P:AY}{α β:Type}
def Wt{N:β->Prop}{f:Unit->Sem β}(h:EC P N (d+1) (f ())):EC P N d (mark .disable>>=f):=h
def YW{N:β->Prop}{f:Unit->Sem β}(h:EC P N d (f ())):EC P N (d+1) (mark .enable>>=f):=h
def YU{N:β->Prop}{f:Unit->Sem β}{a:Ab}{v:AW}{m:Mode}(h:EC P N d (f ())):EC P N d (store a v m>>=f):=h
def Ox{N:β->Prop}{f:AY->Sem β}(h:EC P N d (f P)):EC P N d (program>>=f):=h
theorem cE{N:β->Prop}{f:Bool->Sem β}(h:∀b,EC P N d (f b)):EC P N d (Extern.PrintPieces.held>>=f):=by intro v;cases v<;>first|exact h _|exact Or.inr trivial
theorem wx{N:β->Prop}{a:Nat}{b:ByteArray}{f:Unit->Sem β}(h:EC P N 0 (f ())):EC P N 0 (writeFd a b>>=f):=by refine⟨trivial,λr=>?_⟩;cases r<;>first|exact h|exact .inl rfl
def RN(a b:Array AZ)(args:δ):EC P X0 0 (Extern.PrintPieces.piece a b args):=by unfold Extern.PrintPieces.piece;dsimp only;repeat' first|exact Ij trivial|exact Ij rfl|refine wx ?_|refine Wt ?_|refine YW ?_|refine cE (λ_=>?_)|refine Ox ?_|refine YU ?_|exact .inl rfl|exact .inr trivial|split
open Go.Instr in
@[simp]theorem rS(l:Nat):Calm P (Go.Instr.getLoop l:Sem Loop):=by unfold Go.Instr.getLoop;exact B9
open Go.Instr in
@[simp]theorem Ao1(fn:FuncId)(tmps:δ)(params:Array Tmp)(assign:Code)(body:Code)(a:ε):Calm P (Go.Instr.enterLoop fn tmps params assign body a:Sem (Nat × List Deferred)):=by unfold Go.Instr.enterLoop;exact B9
open Go.Instr in
@[simp]theorem Ri(l:Nat):Calm P (Go.Instr.beginRound l:Sem Unit):=by unfold Go.Instr.beginRound;exact B9
open Go.Instr in
@[simp]theorem Arb(l:Nat)(jump:Option Code):Calm P (Go.Instr.endRound l jump:Sem AW):=by unfold Go.Instr.endRound;exact B9
open Go.Instr in
@[simp]theorem Atg(l:Nat):Calm P (Go.Instr.endLoop l:Sem (Option Code)):=by unfold Go.Instr.endLoop;exact B9
open Go.Instr in
@[simp]theorem Alg(l:Nat)(d:Deferred):Calm P (Go.Instr.deferInRound l d:Sem Unit):=by unfold Go.Instr.deferInRound;exact B9
open Go.Instr in
@[simp]theorem Ale(block:Nat):Calm P (Go.Instr.takeDeferred block:Sem (List Deferred)):=by unfold Go.Instr.takeDeferred;exact B9
def Ax9(l:Nat)(args:δ):EC P X0 0 (Instr.yield l args):=by unfold Instr.yield;repeat' first|exact Ij trivial|refine Em (by first|exact rS _|exact Ef) (λ_=>?_)|split
theorem tt:Calm P Instr.panicnil:=by unfold Instr.panicnil;refine⟨trivial,λr=>?_⟩;cases r<;>first|exact .inl rfl|exact⟨rfl,trivial⟩
@[simp]theorem Axm(x:AW):Calm P (Instr.panic x):=by
 unfold Instr.panic;split
 .simp
 .refine Calm.bind tt λ_=>?_;split<;>simp
 simp
def NQ{s:Sem AW}(h:Calm P s):EC P X0 0 (do pure (.value (<-s))):=Em h λ_=>⟨rfl,trivial⟩
def j6{s:Sem Unit}(h:Calm P s):EC P X0 0 (do s;pure .skip):=Em h λ_=>⟨rfl,trivial⟩
def sL(a:Bool)(b:Array Bool)(ts:Array AZ)(args:δ):EC P X0 0 (Builtin.printMarked a b ts args):=by
 unfold Builtin.printMarked;refine Em (by exact rR _ _ _ _) λc=>?_;split
 .exact Ij trivial
 exact RN _ _ _
theorem wy(b:Builtin)(ts:Array AZ)(t:AZ)(cs:Array Bool)(args:δ):EC P X0 0 (builtin b ts t cs args):=by unfold builtin;cases b<;>first|exact NQ BU|exact sL _ _ _ _|exact Ij trivial|exact .inl rfl|exact Em (tq _) λ_=>Ij trivial
structure OkP(P:AY):Prop where
 name:∀(f:Nat)(fn:Func),P.funcs[f]?=some fn->(fn.name== "runtime.NumGoroutine")=false
 next:∀(f:Nat)(fn:Func),P.funcs[f]?=some fn->fn.body.isNone=true->Extern.findNext fn=none
 calm:∀(f:Nat)(fn:Func)(e:Array AW->Sem AW),P.funcs[f]?=some fn->fn.body.isNone=true->Extern.find fn=some e->∀args,Calm P (e args)
def Rq{N:α->Prop}(e:RuntimeError):EC P N 0 (runtimePanic e:Sem α):=by unfold runtimePanic;refine Ox ?_;dsimp only;split<;>first|exact .inl rfl|(refine Em BU λ_=>?_;first|exact .inl rfl|(refine Em BU λ_=>?_;exact .inl rfl))
theorem X9(g:OkP P)(f:FuncId)(args:δ):EC P X0 0 (callFunc f args):=by
 unfold callFunc;refine Ox ?_;split
 .exact .inl rfl
 rename_i a c;rw[g.name f a c];by_cases b:a.body.isNone=true
 .rw[BQ BU,BR b];refine Em BU λ_=>?_;rw[g.next f a c b];simp only[];split;{rename_i e i;exact NQ (g.calm f a e c b i args)};split;{exact Ij trivial};exact .inl rfl
 rw[BQ BU,BQ b];exact Ij trivial
def Zl(a:OkP P)(recv:AW)(name:String)(args:δ):EC P X0 0 (callMethod recv name args):=by
 unfold callMethod;split
 .refine Ox ?_;refine Em BU λx=>?_;exact X9 a _ _
 .exact Rq _
 exact .inl rfl
def Np(a:OkP P)(t:Target)(args:δ):EC P X0 0 (invoke t args):=by
 unfold invoke;split
 .exact Rq _
 .exact wy _ _ _ _ _
 .exact X9 a _ _
 .split;{exact Zl a _ _ _};exact .inl rfl
 .split;{refine Em BU λu=>?_;exact Zl a _ _ _};exact .inl rfl
 .split;{refine Em BU λu=>?_;exact X9 a _ _};exact .inl rfl
 .exact Ax9 _ _
 .exact .inl rfl
 exact Ij trivial
@[simp]theorem A55(f:AW)(args:δ):Calm P (Deferred.ofValue f args):=by unfold Deferred.ofValue;split<;>simp
@[simp]theorem Yp(a:Operand->Value)(c:Call)(t:AZ):Calm P (resolve a c t):=by unfold resolve;dsimp only;split<;>simp
@[simp]theorem Axd(t:AZ)(x y:AW):Calm P (movedNumber t x y):=by unfold movedNumber;exact cmF
@[simp]theorem Awo(t:AZ)(x y:AW):Calm P (movedPointer t x y):=by unfold movedPointer;exact cmF
@[simp]theorem wG(op:BinOp)(t:AZ)(x y:Operand)(a b:AW):Calm P (eqGuard op t x y a b):=by unfold eqGuard;exact cmF
@[simp]theorem Awp(op:BinOp)(t:AZ)(x y:AW):Calm P (binOp op t x y):=by unfold binOp;exact cmF
@[simp]theorem A58(src dst:AZ)(x:AW):Calm P (convert src dst x):=by unfold convert;exact cmF
theorem YV(g:OkP P)(f:Operand->Value)(o:Oper):EC P X0 0 (execOp f o):=by
 unfold execOp;dsimp only;cases o.op;case nilCheck x=>dsimp only;repeat' first|exact Ij trivial|exact Rq _|refine Em (tw _ _ _ _) (λ_=>?_)|with_reducible refine Ox ?_|refine Em Ky (λ_=>?_)|split
 case binOp op t x y i=>exact NQ (Calm.bind (wG _ _ _ _ _ _) λ_=>Awp _ _ _ _)
 case recv t c k=>refine Em (sS _) λd=>?_;split;{exact Em (Zw _) λ_=>Ij trivial};exact .inl rfl
 case select j b=>exact Em (H9 _ λ_=>Calm.bind (Zw _) λ_=>Ae) λ_=>Ij trivial
 case call c=>exact Em (Yp _ _ _) λ_=>Np g _ _
 case go c=>exact Em (Yp _ _ _) λ_=>Ij trivial
 case defer c=>exact Em (Yp _ _ _) λ_=>Ij trivial
 case pick a b c=>exact Em BU λ_=>Ij trivial
 all_goals first|exact Ij trivial|exact NQ BU|exact j6 BU
end
def one:AW->Bool
  |.agg _|.tuple _=>false
  |_=>true
def rt(τ:Nat->Question->Nat)(s e:Nat)(w:AU):AU:={w with tape:=τ,drawn:=e+(w.drawn - s)}
def _root_.Go.Result.w{α:Type}:Result α->World
  |.ok _ w=>w
  |.halt _ w=>w
def _root_.Go.Result.turn{α:Type}(f:AU->World):Result α->Result α
  |.ok a w=>.ok a (f w)
  |.halt h w=>.halt h (f w)
def _root_.Go.Result.cont{α:Type}:Result α->Prop
  |.ok _ _=>True
  |.halt h _=>¬KV h
def Ag(T τ:Nat->Question->Nat)(s e K:Nat):Prop:=∀j,s+j<K->τ (e+j)=T (s+j)
def Ag.mono{T τ:Nat->Question->Nat}{s e K a:Nat}(h:Ag T τ s e K)(b:a<=K):Ag T τ s e a:=λj c=>h j (DO c b)
abbrev Ag.mo:=@Ag.mono
def Ag.at{T τ:Nat->Question->Nat}{s e K n:Nat}(h:Ag T τ s e K)(b:s<=n)(a:n<K):τ (e+(n - s))=T n:=by have:=h (n - s) BS;rwa [show s+(n - s)=n by omega]at this
section
variable {α:Type}
variable {P:AY}{τ:Nat -> Question -> Nat}{s e:Nat}
def nj(w:AU)(a:Ab)(u:AZ)(k:Ab)(b:Bool):(rt τ s e w).seen P a u k b=w.seen P a u k b:=rfl
def ZC(w:AU)(a:Ab)(b:Bool):(rt τ s e w).farLoad P a b=w.farLoad P a b:=rfl
theorem vE(w:AU)(a:Ab)(u:AZ)(k:Ab)(v:AW)(b:Bool):
    (rt τ s e w).viewStore P a u k v b=match w.viewStore P a u k v b with|.ok (c,l)=>.ok (rt τ s e c,l)|.error x=>.error x:=by
 unfold World.viewStore;rw[nj];simp only[bind,Except.bind,pure,Except.pure];split
 . rfl
 . cases w.seen P a u k b with
   |error x=>rfl
   |ok x=>
     cases v.bytes? with
     |none=>rfl
     |some g=>
       simp only;split
       . rfl
       . split<;>(rename_i f;simp only;try rfl)
theorem W7(w:AU)(a:Ab)(v:AW)(b:Bool):
    (rt τ s e w).farStore P a v b=match w.farStore P a v b with|.ok (c,l)=>.ok (rt τ s e c,l)|.error x=>.error x:=by
 unfold World.farStore
 show(match w.heap[a.block]? with
   |some (.view at_ u)=>match (rt τ s e w).viewStore P at_ u a v b with
     |.ok r=>Except.ok r
     |.error f=>Except.error (Halt.unsupported (.unsafePointer f))
   | _=>Except.error (w.noCell a "store: no such cell"))=_
 cases g:w.heap[a.block]? with
 |none=>rfl
 |some o=>
  cases o<;>first
   |rfl
   | (simp only
      rw[vE];cases w.viewStore P _ _ a v b with
      |ok x=>obtain⟨x,y⟩:=x;rfl
      | error x=>rfl)
def fL:∀(a:Ask α)(w:AU),(w.ask a).2.tape=w.tape/\w.drawn<=(w.ask a).2.drawn:=by
 intro a;induction a with
 |done a=>exact λw=>⟨rfl,DN _⟩
 |ask what range k b=>
  intro w;simp only[World.ask];split
  . exact b 0 w
  . have:=b ((Question.extern what range).cut (w.tape w.drawn (Question.extern what range))) {w with drawn:=w.drawn+1}
    exact⟨this.1,DU (JL _) this.2⟩
theorem qJ:∀(a:Ask α)(w:AU),s<=w.drawn->Ag w.tape τ s e (w.ask a).2.drawn->(rt τ s e w).ask a=((w.ask a).1,rt τ s e (w.ask a).2):=by
 intro a;induction a with
 |done a=>exact λw _ _=>rfl
 |ask what range k g=>
  intro w f b;simp only[World.ask]at b⊢;by_cases c:(Question.extern what range).forced=true
  . rw[BR c]at b⊢
    rw[BR c];exact g 0 w f b
  . rw[BQ c]at b⊢
    rw[BQ c];have h:=(fL (k ((Question.extern what range).cut (w.tape w.drawn (Question.extern what range)))) {w with drawn:=w.drawn+1}).2;have i:(rt τ s e w).tape (rt τ s e w).drawn=w.tape w.drawn:=b.at f (DO (EQ _) h);rw[i];have j:({rt τ s e w with drawn:=(rt τ s e w).drawn+1}:AU)=rt τ s e {w with drawn:=w.drawn+1}:=by
      simp only[rt];congr 1;omega
    rw[j];exact g _ {w with drawn:=w.drawn+1} (DU f (JL _)) b
theorem SZ(c:Sys)(w:AU)(a:s<=w.drawn)(b:Ag w.tape τ s e (w.ask (Kernel.perform c w.os)).2.drawn):(rt τ s e w).sys c=((w.sys c).1,rt τ s e (w.sys c).2):=by
 have h:=qJ (τ:=τ) (s:=s) (e:=e) (Kernel.perform c w.os) w a b;unfold World.sys
 show(match (rt τ s e w).ask (Kernel.perform c w.os) with
   |((.wouldBlock,_),_)=>(SysRet.wouldBlock,rt τ s e w)
   | ((r,os),w)=>(r,{w with os}))=_
 rw[h];generalize w.ask (Kernel.perform c w.os)=x;obtain⟨⟨r,os⟩,f⟩:=x;cases r<;>rfl
theorem dj(c:Sys)(w:AU):(w.sys c).2.tape=w.tape/\w.drawn<=(w.sys c).2.drawn/\((w.sys c).1≠.wouldBlock->(w.sys c).2.drawn=(w.ask (Kernel.perform c w.os)).2.drawn)/\((w.sys c).1=.wouldBlock->(w.sys c).2.drawn<=(w.ask (Kernel.perform c w.os)).2.drawn):=by
 have h:=fL (Kernel.perform c w.os) w
 revert h
 unfold World.sys;generalize w.ask (Kernel.perform c w.os)=x;obtain⟨⟨r,os⟩,b⟩:=x;cases r<;>exact λh=>⟨by first|rfl|exact h.1,by first|exact DN _|exact h.2,λa=>by first|rfl|exact absurd rfl a,λa=>by first|exact h.2|cases a⟩
structure Ix{α:Type}(P:AY)(x:Sem α)(w:AU)(es:Array Event):Prop where
  tape:(x.runT P w es).1.w.tape=w.tape
  le:w.drawn<=(x.runT P w es).1.w.drawn
  loc:∃K,(x.runT P w es).1.w.drawn<=K/\((x.runT P w es).1.cont->K=(x.runT P w es).1.w.drawn)/\
    ∀(τ:Nat->Question->Nat)(s e:Nat),s<=w.drawn->Ag w.tape τ s e K->x.runT P (rt τ s e w) es=((x.runT P w es).1.turn (rt τ s e),(x.runT P w es).2)
def Ix.of_eq{x:Sem α}{y:Sem α}{w w':AU}{es b:Array Event}(h:Ix P y w' b)(g:w'.tape=w.tape)(hd:w.drawn<=w'.drawn)
    (a:x.runT P w es=y.runT P w' b) (m:∀(τ:Nat->Question->Nat)(s e:Nat),s<=w.drawn->Ag w.tape τ s e w'.drawn->x.runT P (rt τ s e w) es=y.runT P (rt τ s e w') b):Ix P x w es:=by obtain⟨k,c,K,i,l,n⟩:=h;refine⟨by rw[a,k,g],by rw[a];exact DU hd c,K,by rwa[a],by rwa[a],fun τ s e f j=>?_⟩;rw[m τ s e f (j.mo (DU c i)),a];exact n τ s e (DU f hd) (by rwa[g])
def zja{p:Prop}(h:p:=by refine⟨by rw[e1];rfl,by rw[e1];exact DN _,w.drawn,by rw[e1];exact DN _,by rw[e1];exact λ_=>rfl,fun τ s e _ _=>?_⟩;rw[e1];simp only[Sem.runT,hrt,hr,Result.turn]):p:=h
theorem O6{N:α->Prop}:∀(x:Sem α)(d:Nat),EC P N d x->∀(w:AU)(b:Array Event),Ix P x w b:=by
 intro x;induction x with
 |pure a=>exact λd _ w b=>⟨rfl,DN _,w.drawn,DN _,λ_=>rfl,fun τ s e _ _=>rfl⟩
 |halt h=>exact λd _ w b=>⟨rfl,DN _,w.drawn,DN _,λ_=>rfl,fun τ s e _ _=>rfl⟩
 |load m a k i=>
  intro d g w b;cases y:w.c a with
  |some v=>
   refine(i v d (g v) w (b.push ⟨.cell a,false,m==.atomic⟩)).of_eq rfl (DN _) ?_ fun τ s e _ _=>?_
   . simp only[Sem.runT,y]
   . simp only[Sem.runT,show(rt τ s e w).c a=some v from y]
  |none=>
   cases j:w.farLoad P a (m==.atomic) with
   |ok r=>
    obtain⟨v,l⟩:=r;refine(i v d (g v) w (b++l.toArray.map (⟨.cell ·,false,m==.atomic⟩))).of_eq rfl (DN _) ?_ fun τ s e _ _=>?_
    . simp only[Sem.runT,y,j]
    . simp only[Sem.runT,show(rt τ s e w).c a=none from y,ZC,j]
   |error h=>have e1:(Sem.load m a k).runT P w b=(.halt h w,b):=(by simp only[Sem.runT,y,j]);refine⟨by rw[e1];rfl,xBg,w.drawn,xBg,by rw[e1];exact λ_=>rfl,fun τ s e _ _=>?_⟩;rw[e1];simp only[Sem.runT,show(rt τ s e w).c a=none from y,ZC,j,Result.turn]
 |store m a v k i=>
  intro d g w b;by_cases K:one v=true
  . have z:∀w b,(Sem.store m a v k).runT P w b=match w.c a with
        |some _=>if w.f a then(.halt (.unsupported (.unsafePointer "a write to bytes that a string shares")) w,b) else k.runT P (w.s a v) (b.push ⟨.cell a,true,m==.atomic⟩)
        |none=>match w.farStore P a v (m==.atomic) with
          |.ok (w,touched)=>k.runT P w (b++touched.toArray.map (⟨.cell ·,true,m==.atomic⟩))
          |.error h=>(.halt h w,b):=by
      intro w b;cases v<;>first|rfl|cases K
    cases y:w.c a with
    |some u=>
      by_cases j:w.f a=true
      . have e1:(Sem.store m a v k).runT P w b=(.halt (.unsupported (.unsafePointer "a write to bytes that a string shares")) w,b):=by rw[z];simp only[y,j,if_true]
        refine⟨by rw[e1];rfl,xBg,w.drawn,xBg,by rw[e1];exact λ_=>rfl,fun τ s e _ _=>?_⟩;rw[e1,z];simp only[show(rt τ s e w).c a=some u from y,show(rt τ s e w).f a=true from j,if_true,Result.turn]
      . refine(i d g (w.s a v) (b.push ⟨.cell a,true,m==.atomic⟩)).of_eq rfl (DN _) ?_ fun τ s e _ _=>?_
        . rw[z];simp only[y,j,EL,E3]
        . rw[z];simp only[show(rt τ s e w).c a=some u from y,show(rt τ s e w).f a=w.f a from rfl,j,EL,E3];rfl
    |none=>
      cases j:w.farStore P a v (m==.atomic) with
      |ok r=>
        obtain⟨E,l⟩:=r;have I:E.tape=w.tape/\E.drawn=w.drawn:=by
          unfold World.farStore at j;split at j
          . split at j
            . rename_i x T
              cases j
              revert T
              unfold World.viewStore;simp only[bind,Except.bind,pure,Except.pure];split
              . intro h;cases h
              . split
                . intro h;cases h
                . split
                  . split
                    . intro h;cases h
                    . split
                      . intro h;cases h
                      . intro h;cases h;exact⟨rfl,rfl⟩
                  . intro h;cases h
            . cases j
          . cases j
        refine(i d g E (b++l.toArray.map (⟨.cell ·,true,m==.atomic⟩))).of_eq I.1 (by rw[I.2];exact DN _) ?_ fun τ s e _ _=>?_
        . rw[z];simp only[y,j]
        . rw[z];simp only[show(rt τ s e w).c a=none from y,W7,j]
      |error h=>
        have e1:(Sem.store m a v k).runT P w b=(.halt h w,b):=by rw[z];simp only[y,j]
        refine⟨by rw[e1];rfl,xBg,w.drawn,xBg,by rw[e1];exact λ_=>rfl,fun τ s e _ _=>?_⟩;rw[e1,z];simp only[show(rt τ s e w).c a=none from y,W7,j,Result.turn]
  . have z:∀w b,(Sem.store m a v k).runT P w b=(.halt (.stuck "store: not the value of one cell") w,b):=by
      intro w b;cases v<;>first|rfl|exact absurd rfl K
    refine⟨by rw[z];rfl,by rw[z];exact DN _,w.drawn,by rw[z];exact DN _,by rw[z];exact λ_=>rfl,fun τ s e _ _=>?_⟩;rw[z,z];rfl
 |new o k i=>intro d g w b;exact(i w.z d (g _) {w with heap:=w.heap.push o} b).of_eq rfl (DN _) rfl fun τ s e _ _=>rfl
 |shape r k i=>intro d g w b;exact(i _ d (g (w.shape? r)) w b).of_eq rfl (DN _) rfl fun τ s e _ _=>rfl
 |freeze a n k i=>
  intro d g w b;refine(i d g (w.freeze a n) b).of_eq ?_ ?_ rfl fun τ s e _ _=>?_
  . unfold World.freeze;split<;>rfl
  . unfold World.freeze;split<;>exact DN _
  . have:(rt τ s e w).freeze a n=rt τ s e (w.freeze a n):=by unfold World.freeze;split<;>rfl
    simp only[Sem.runT,this]
 |frozen a k i=>intro d g w b;exact(i _ d (g (w.f a)) w b).of_eq rfl (DN _) rfl fun τ s e _ _=>rfl
 |getObj r k i=>
  intro d g w b;have hrt:∀(τ:Nat->Question->Nat)(s e:Nat),(rt τ s e w).heap[r]?=w.heap[r]?:=λ_ _ _=>rfl;cases hr:w.heap[r]? with
  |none=>have e1:(Sem.getObj r k).runT P w b=(.halt (.stuck "getObj: no such block") w,b):=xBy;exact zja
  |some o=>
   by_cases A:∃c t f,o=.cells c t f
   . obtain⟨c,t,f,rfl⟩:=A
     have e1:(Sem.getObj r k).runT P w b=(.halt (.stuck "getObj: a row of cells") w,b):=xBy
     exact zja
   . refine(i o d (g o) w (b.push ⟨.obj r,false,o.isChan⟩)).of_eq rfl (DN _) ?_ fun τ s e _ _=>?_
     . cases o<;>first|(exact absurd ⟨_,_,_,rfl⟩ A)|simp only[Sem.runT,hr]
     . cases o<;>first|(exact absurd ⟨_,_,_,rfl⟩ A)|simp only[Sem.runT,hrt,hr]
 |setObj r o k i=>
  intro d g w b;have hrt:∀(τ:Nat->Question->Nat)(s e:Nat),(rt τ s e w).heap[r]?=w.heap[r]?:=λ_ _ _=>rfl;cases hr:w.heap[r]? with
  |none=>have e1:(Sem.setObj r o k).runT P w b=(.halt (.stuck "setObj: no such block") w,b):=xBy;exact zja
  |some u=>
   by_cases A:∃c t f,u=.cells c t f
   . obtain⟨c,t,f,rfl⟩:=A
     have e1:(Sem.setObj r o k).runT P w b=(.halt (.stuck "setObj: a row of cells") w,b):=xBy
     exact zja
   . refine(i d g {w with heap:=w.heap.setIfInBounds r o} (b.push ⟨.obj r,true,o.isChan⟩)).of_eq rfl (DN _) ?_ fun τ s e _ _=>?_
     . cases u<;>first|(exact absurd ⟨_,_,_,rfl⟩ A)|simp only[Sem.runT,hr]
     . cases u<;>first|(exact absurd ⟨_,_,_,rfl⟩ A)|(simp only[Sem.runT,hrt,hr];rfl)
 |choose q k i=>
  intro d g w b;by_cases j:q.forced=true
  . refine(i 0 d (g 0) w b).of_eq rfl (DN _) ?_ fun τ s e _ _=>?_
    . simp only[Sem.runT,j,if_true]
    . simp only[Sem.runT,j,if_true]
  . refine(i (q.cut (w.tape w.drawn q)) d (g _) {w with drawn:=w.drawn+1} b).of_eq rfl (JL _) ?_ fun τ s e C B=>?_
    . simp only[Sem.runT,j,EL,E3]
    . have O:(rt τ s e w).tape (rt τ s e w).drawn=w.tape w.drawn:=B.at C (EQ _)
      have Q:({rt τ s e w with drawn:=(rt τ s e w).drawn+1}:AU)=rt τ s e {w with drawn:=w.drawn+1}:=by
        simp only[rt];congr 1;omega
      simp only[Sem.runT,j,EL,E3,O,Q]
 |sys c k i=>
  intro d g w b;have⟨J,H,U,S⟩:=dj c w;by_cases D:(w.sys c).1=.wouldBlock
  . have R:=g.1
    obtain⟨h,L,M⟩:∃h,k .wouldBlock=.halt h/\KV h:=by
      revert R
      cases k .wouldBlock<;>first|(intro x;exact⟨_,rfl,x⟩)|(intro x;cases x)
    have e1:(Sem.sys c k).runT P w b=(.halt h (w.sys c).2,b.push ⟨.output,true,false⟩):=by simp only[Sem.runT,D,L]
    refine⟨by rwa[e1],by rwa[e1],(w.ask (Kernel.perform c w.os)).2.drawn,by rw[e1];exact S D,by rw[e1];exact λx=>absurd M x,fun τ s e C B=>?_⟩;rw[e1];simp only[Sem.runT,SZ c w C B,D,L,Result.turn]
  . refine(i _ d (g.2 (w.sys c).1) (w.sys c).2 (b.push ⟨.output,true,false⟩)).of_eq J H ?_ fun τ s e C B=>?_
    . simp only[Sem.runT]
    . simp only[Sem.runT,SZ c w C (by rwa[U D]at B)]
 |program k i=>exact λd g w b=>(i P d g w b).of_eq rfl (DN _) rfl fun τ s e _ _=>rfl
 |mark m k i=>exact λd g w b=>(i _ g w (b.push ⟨.mark m,false,true⟩)).of_eq rfl (DN _) rfl fun τ s e _ _=>rfl
end
def _root_.Go.GStep.w:GStep->World
 |.go _ w _|.comm _ _ _ _ w _|.spawn _ _ w _|.count _ w _|.timer _ _ w _|.alone _ _ w _|.newcoro _ _ _ w _|.coroswitch _ _ _ w _|.collect _ w _|.watch _ w _|.ended _ w _=>w
def _root_.Go.GStep.turn(f:AU->World):GStep->GStep
 |.go g w a=>.go g (f w) a
 |.comm g c b h w a=>.comm g c b h (f w) a
 |.spawn g i w a=>.spawn g i (f w) a
 |.count g w a=>.count g (f w) a
 |.timer g op w a=>.timer g op (f w) a
 |.alone g b w a=>.alone g b (f w) a
 |.newcoro g c d w a=>.newcoro g c d (f w) a
 |.coroswitch g c x w a=>.coroswitch g c x (f w) a
 |.collect g w a=>.collect g (f w) a
 |.watch g w a=>.watch g (f w) a
 |.ended o w a=>.ended o (f w) a
def _root_.Go.GStep.cont:GStep->Prop
 |.go g _ _=>g.status=.running
 |.ended ..=>False
 |_=>True
def ME(es:Array Event)(x:GStep):(GStep.after es x).w=x.w:=by cases x<;>rfl
def YL(f:AU->World)(es:Array Event)(x:GStep):(GStep.after es x).turn f=GStep.after es (x.turn f):=by cases x<;>rfl
def H6(es:Array Event)(x:GStep):(GStep.after es x).cont=x.cont:=by cases x<;>rfl
structure Hg(F:AU->GStep)(w:AU):Prop where
 tape:(F w).w.tape=w.tape
 le:w.drawn<=(F w).w.drawn
 loc:∃K,(F w).w.drawn<=K/\((F w).cont->K=(F w).w.drawn)/\∀(τ:Nat->Question->Nat)(s e:Nat),s<=w.drawn->Ag w.tape τ s e K->F (rt τ s e w)=(F w).turn (rt τ s e)
section
variable {α:Type}
variable {P:AY}{F G:AU -> GStep}{w:AU}
def Hg.const(h1:(F w).w.tape=w.tape)(a:(F w).w.drawn=w.drawn)(h:∀(τ:Nat->Question->Nat)(s e:Nat),s<=w.drawn->F (rt τ s e w)=(F w).turn (rt τ s e)):Hg F w:=
 ⟨h1,by rw[a];exact DN _,w.drawn,by rw[a];exact DN _,λ_=>a.symm,fun τ s e b _=>h τ s e b⟩
def Hg.congr(h:Hg G w)(e:∀w,F w=G w):Hg F w:=by have :=funext e;rwa[this]
def Hg.after(es:Array Event)(h:Hg F w):Hg (λw=>GStep.after es (F w)) w:=by obtain⟨a,b,K,f,c,i⟩:=h;refine⟨by rwa[ME],by rwa[ME],K,by rwa[ME],by rwa[ME,H6],fun τ s e g j=>?_⟩;show GStep.after es (F (rt τ s e w))=(GStep.after es (F w)).turn (rt τ s e);rw[YL,i τ s e g j]
def _root_.Go.Result.put{α:Type}(w:AU):Result α->Result α
 |.ok a _=>.ok a w
 |.halt h _=>.halt h w
theorem Hg.bind{x:Sem α}(H:Result α->Array Event->GStep)(es:Array Event)(hx:Ix P x w es)
  (v:Hg (λt=>H ((x.runT P w es).1.put t) (x.runT P w es).2) (x.runT P w es).1.w)
  (q:(H (x.runT P w es).1 (x.runT P w es).2).cont->(x.runT P w es).1.cont):Hg (λw=>H (x.runT P w es).1 (x.runT P w es).2) w:=by
 obtain⟨h1,b,K,A,r,m⟩:=hx;have u:(x.runT P w es).1.put (x.runT P w es).1.w=(x.runT P w es).1:=by cases (x.runT P w es).1<;>rfl
 obtain⟨f,a,L,g,i,k⟩:=v;simp only[u]at f a g i k;refine⟨f.tr h1,DU b a,max K L,DU g (PE _ _),λc=>?_,fun τ s e j hA=>?_⟩
 .have z:=r (q c);have y:=i c;rw[z,y];exact Nat.max_eq_right a
 have o:=m τ s e j (hA.mo (M5 _ _));have l:=k τ s e (DU j b) yEj;simp only[o];have n:(x.runT P w es).1.turn (rt τ s e)=(x.runT P w es).1.put (rt τ s e (x.runT P w es).1.w):=by cases (x.runT P w es).1<;>rfl
 rwa[n]
def Hg.bindR{x:Sem α}(H:Result α->GStep)(hx:Ix P x w #[])
  (b:Hg (λc=>H ((x.run P w).put c)) (x.run P w).w)
  (a:(H (x.run P w)).cont->(x.run P w).cont):Hg (λw=>H (x.run P w)) w:=by
 have e:∀w,(x.runT P w #[]).1=x.run P w:=λw=>by rw[Sem.runT_eq]
 have:=Hg.bind (P:=P) (w:=w) (λr _=>H r) #[] hx (by simp only[e];exact b) (by simp only[e];exact a);simp only[e]at this;exact this
end
section
variable {P:AY}{w:AU}
def Yw(F:AU->GStep):Prop:=∀w,(F w).w=w/\∀f:AU->World,F (f w)=(F w).turn f
def Yw.loc{F:AU->GStep}(h:Yw F)(w:AU):Hg F w:=Hg.const (by rw[(h w).1]) (by rw[(h w).1]) (fun τ s e _=>(h w).2 (rt τ s e))
def D9(g:AX)(es:Array Event):Yw (λw=>.go g w es):=λ_=>⟨rfl,λ_=>rfl⟩
def Bg(o:Outcome)(es:Array Event):Yw (λw=>.ended o w es):=λ_=>⟨rfl,λ_=>rfl⟩
def Vb(main:Bool)(fr:Frame)(cs:List Frame)(a:Option Dying)(v:AW):Yw (λw=>doReturn P main fr cs a v w):=by
 intro w;unfold doReturn;dsimp only;split
 .split;{exact⟨rfl,λ_=>rfl⟩};{exact⟨rfl,λ_=>rfl⟩};{exact⟨rfl,λ_=>rfl⟩};exact⟨rfl,λ_=>rfl⟩
 split
 .exact⟨rfl,λ_=>rfl⟩
 .exact⟨rfl,λ_=>rfl⟩
 split
 .exact⟨rfl,λ_=>rfl⟩
 split<;>exact⟨rfl,λ_=>rfl⟩
def Vz(fr:Frame)(v:AW):Yw (λw=>endPrinting P fr v w):=by intro w;unfold endPrinting;dsimp only;split<;>exact⟨rfl,λ_=>rfl⟩
def Xy(s:ByteArray):Calm P (withAddress s):=by unfold withAddress;exact Calm.bind Nh λ_=>Ae
def Xz:∀(l:List PanicEntry)(b:Bool),Calm P (reportChain l b):=by
 intro l;induction l with
 |nil=>exact λ_=>Ae|cons x l a=>intro b;unfold reportChain;repeat' first|exact Ae|exact a _|exact Ky|exact Nh|exact wA|refine Calm.bind ?_ (λ_=>?_)|split
theorem WC(fn:Func)(tmps:δ):Calm P (results fn tmps):=by unfold results;refine Calm.bind (H9 _ λr=>?_) λ_=>Ae;cases r with|tmp t=>exact Ae|cell a t=>exact Calm.bind (yI _) λ_=>wB _ _
def Calm.loc{α:Type}{x:Sem α}(h:Calm P x)(w:AU)(es:Array Event):Ix P x w es:=O6 x 0 h w es
theorem WT(fr:Frame)(cs:List Frame)(i:Option Dying)(m:String)(w:AU):Hg (λw=>endFatal P fr cs i m w) w:=by
 unfold endFatal;dsimp only
 refine Hg.bindR (λr=>match r with
  |.ok (texts,tabs) w=>dieOf fr (panicPieces texts++tabs) m true w
  |.halt (.unsupported u) w=>.ended (.unsupported u "") w
  | .halt _ w=>.ended (.stuck "the report of a panic" "") w) (Calm.loc ?_ w #[]) ?_ ?_
 .have f:∀g:List (AW × String),Calm P (g.mapM λ(v,mark)=>match panicText P true v with
    |.text s=>(pure (s,mark):Sem (ByteArray × String))
    |.address s=>do pure (<-withAddress s,mark)
    | _=>unsupported (.noEntry "a fatal error during a panic whose value the report cannot show")):=by
   intro g;refine H8 _ λx=>?_
   obtain⟨v,j⟩:=x;dsimp only;split
   .exact Ae
   .exact Calm.bind (Xy _) λ_=>Ae
   .exact Ky
  split
  .exact Ae
  .exact Calm.bind (Xz _ _) λ_=>Calm.bind (f _) λ_=>Ae
  .exact Calm.bind (f _) λ_=>Ae
  .exact Ky
 .generalize Sem.run P _ w=r;cases r with
  |ok a c=>obtain⟨a,b⟩:=a;exact(show Yw _ from λ_=>⟨rfl,λ_=>rfl⟩).loc _
  |halt h c=>cases h<;>exact(Bg _ _).loc _
 generalize Sem.run P _ w=r;cases r with|ok a c=>exact λ_=>trivial|halt h c=>cases h<;>exact λx=>x.elim
def Nc(τ:Nat->Question->Nat)(s e:Nat)(w:AU):∀(n:Nat)(f:FuncId),P.found (rt τ s e w) n f=P.found w n f:=by
 intro n;induction n with
 |zero=>exact λ_=>rfl|succ n b=>intro f;unfold Program.found;have:(λa=>P.found (rt τ s e w) n a)=λa=>P.found w n a:=funext b;simp only[this];rfl
theorem tM(τ:Nat->Question->Nat)(s e:Nat)(w:AU):∀(n:Nat)(l m:List FuncId),P.brought (rt τ s e w) n l m=P.brought w n l m:=by
 intro n;induction n with
 |zero=>exact λl m=>by unfold Program.brought;cases l<;>rfl
 |succ n a=>
  intro l m;cases l with
  |nil=>unfold Program.brought;rfl|cons f l=>unfold Program.brought;simp only[a];rfl
end
section
variable {P:AY}{w:AU}
def Hg.like{F G:AU->GStep}(h:Hg G w)(a:F w=G w)(g:∀(τ:Nat->Question->Nat)(s e:Nat),F (rt τ s e w)=G (rt τ s e w)):Hg F w:=by obtain⟨b,c,K,i,f,k⟩:=h;exact⟨by rwa[a],by rwa[a],K,by rwa[a],by rwa[a],fun τ s e j l=>by rw[g,a];exact k τ s e j l⟩
def zR{p:Prop}(h:p:=by simp only[show ¬(((P.code? f).bind λc=>(readies c).getLast?).bind (rt τ s e w).shape?).isSome=true from h4,EL,Nc,hf,E3];try rfl):p:=h
def zi0{p:Prop}(h:p:=by generalize Sem.run P _ w=r;cases r with|ok a w'=>exact λ_=>trivial| halt h w'=>exact λx=>x.elim):p:=h
theorem Azv(fr:Frame)(cs:List Frame)(b:Option Dying)(g:Nat)(w:AU):Hg (λw=>early P fr cs b g w) w:=by
 have i:∀w,Hg (λw=>match w.heap[g]? with
   |some (.pending c elem)=>GStep.go {frame:=fr,callers:=cs,status:=.running,dying:=b} {w with heap:=w.heap.setIfInBounds g (.cells c elem)}
   | _=>.ended (.stuck "early: the variable does not wait" (fr.pos P)) w) w:=by
  intro w;refine Hg.const ?_ ?_ fun τ s e _=>?_
  .split<;>rfl
  .split<;>rfl
  .show(match w.heap[g]? with
    |some (.pending c elem)=>GStep.go _ {rt τ s e w with heap:=w.heap.setIfInBounds g (.cells c elem)} _
    | _=>GStep.ended _ (rt τ s e w) _)=_
   split<;>(rename_i u;try simp only)<;>first|rfl|skip
 have m:∀f w,Hg (λw=>GStep.go {frame:=Frame.enter P f #[] .early,callers:=(if(P.code? f).any P.plainData then(P.brought w (2*P.funcs.size+1) [f] []).drop 1 else []).map (Frame.enter P · #[] .early)++fr::cs,status:=.running,dying:=b} w #[]) w:=by intro f w;refine Hg.const rfl rfl fun τ s e _=>?_;simp only[tM,GStep.turn]
 unfold early;dsimp only;by_cases n:(!P.follows .staticDataAhead)=true
 .simp only[n,if_true];exact i w
 simp only[n,EL,E3];cases t:P.stepOf g with
 |none=>exact(Bg _ _).loc w
 |some f=>
  simp only;by_cases o:((P.code? f).any P.atRunTime)=true;{simp only[o,if_true];exact i w};simp only[o,EL,E3];by_cases h4:((((P.code? f).bind λc=>(readies c).getLast?).bind w.shape?).isSome)=true;{refine(i w).like ?_ fun τ s e=>?_;{simp only[h4,if_true];try rfl};simp only[show(((P.code? f).bind λc=>(readies c).getLast?).bind (rt τ s e w).shape?).isSome=true from h4,if_true];try rfl};generalize v:(fr.kind==CallKind.early)=kk;have l:Hg (λw=>GStep.ended (.unsupported (.initOrder g) (fr.pos P)) w #[]) w:=(Bg _ _).loc w;cases hf:P.found w P.funcs.size f<;>cases kk
  .refine l.like ?_ fun τ s e=>?_;{simp only[h4,EL,E3,hf];try rfl};exact zR
  .refine l.like ?_ fun τ s e=>?_;{simp only[h4,EL,E3,hf];try rfl};exact zR
  .refine(i w).like ?_ fun τ s e=>?_;{simp only[h4,EL,E3,hf];try rfl};exact zR
  .refine l.like ?_ fun τ s e=>?_;{simp only[h4,EL,E3,hf];try rfl};exact zR
  .by_cases j:(P.code? f).any P.plainData=true;{refine(m f w).like ?_ fun τ s e=>?_;{simp only[h4,EL,E3,hf,j,if_true];try rfl};simp only[show ¬(((P.code? f).bind λc=>(readies c).getLast?).bind (rt τ s e w).shape?).isSome=true from h4,EL,Nc,hf,j,if_true,E3];try rfl};by_cases k:(!(P.code? f).any P.bareCopy)=true;{refine(i w).like ?_ fun τ s e=>?_;{simp only[h4,EL,E3,hf,j,k,if_true];try rfl};simp only[show ¬(((P.code? f).bind λc=>(readies c).getLast?).bind (rt τ s e w).shape?).isSome=true from h4,EL,E3,Nc,hf,j,k,if_true];try rfl}
   .have q:Hg (λw=>(λr:Result Nat=>match r with
     | .ok 0 w=>(match w.heap[g]? with
       |some (.pending c elem)=>GStep.go {frame:=fr,callers:=cs,status:=.running,dying:=b} {w with heap:=w.heap.setIfInBounds g (.cells c elem)}
       | _=>.ended (.stuck "early: the variable does not wait" (fr.pos P)) w)
     |.ok _ w=>GStep.go {frame:=Frame.enter P f #[] .early,callers:=(if(P.code? f).any P.plainData then(P.brought w (2*P.funcs.size+1) [f] []).drop 1 else []).map (Frame.enter P · #[] .early)++fr::cs,status:=.running,dying:=b} w #[]
     | .halt _ w=>.ended (.stuck "early" (fr.pos P)) w) ((choose (.early g)).run P w)) w:=by
     refine Hg.bindR (P:=P) (w:=w) (x:=choose (.early g)) (λr:Result Nat=>match r with
      | .ok 0 w=>(match w.heap[g]? with
        |some (.pending c elem)=>GStep.go {frame:=fr,callers:=cs,status:=.running,dying:=b} {w with heap:=w.heap.setIfInBounds g (.cells c elem)}
        | _=>.ended (.stuck "early: the variable does not wait" (fr.pos P)) w)
      |.ok _ w=>GStep.go {frame:=Frame.enter P f #[] .early,callers:=(if(P.code? f).any P.plainData then(P.brought w (2*P.funcs.size+1) [f] []).drop 1 else []).map (Frame.enter P · #[] .early)++fr::cs,status:=.running,dying:=b} w #[]
      | .halt _ w=>.ended (.stuck "early" (fr.pos P)) w) (Calm.loc Nh w #[]) ?_ ?_
     .generalize Sem.run P _ w=r
      cases r with
      |ok a w'=>cases a with
       |zero=>exact i w'
       |succ a=>exact m f w'
      |halt h w'=>exact(Bg _ _).loc _
     .exact zi0
    refine q.like ?_ fun τ s e=>?_
    .simp only[h4,EL,E3,hf,j,k];rfl
    .simp only[show ¬(((P.code? f).bind λc=>(readies c).getLast?).bind (rt τ s e w).shape?).isSome=true from h4,EL,E3,Nc,hf,j,k];rfl
  refine(m f w).like ?_ fun τ s e=>?_;{simp only[h4,EL,E3,hf];try rfl};exact zR
end
section
variable {P:AY}{w:AU}
def LJ{α:Type}:Result α->Sem α
 |.ok a _=>.pure a
 |.halt h _=>.halt h
def JG{α:Type}(es:Array Event):Result α->Array Event
 |.halt .blocked _|.halt .waiting _|.halt (.unsupported (.initOrder _)) _=>#[]
 |_=>es
def Iz(fn:FuncId):seen P fn #[]=#[]:=rfl
theorem Hq(x:GStep):GStep.after #[] x=x:=by cases x<;>simp[GStep.after]
theorem fN(fr:Frame)(cs:List Frame)(c:Option Dying)(x:Sem Next)(w:AU):
  stepG.apply P true fr cs c x w=GStep.after (seen P fr.fn (if fr.kind==.early then #[] else JG (x.runT P w #[]).2 (x.runT P w #[]).1)) (stepG.apply P true fr cs c (LJ (x.runT P w #[]).1) (x.runT P w #[]).1.w):=by
 generalize b:x.runT P w #[]=r;obtain⟨r,g⟩:=r;cases r with
 |ok a f=>unfold stepG.apply;simp only[b,if_true,LJ,Sem.runT,Result.w,JG,ite_self,Iz,Hq]
 |halt h f=>
  unfold stepG.apply;simp only[b,if_true,LJ,Sem.runT,Result.w];cases h with
  |unsupported u=>cases u<;>simp only[JG,ite_self,Iz,Hq]
  |_=>simp only[JG,ite_self,Iz,Hq]
theorem sj(fr:Frame)(cs:List Frame)(b:Option Dying)(a:Next):Yw (λw=>stepG.apply P true fr cs b (.pure a) w):=by intro w;unfold stepG.apply;simp only[if_true,Sem.runT,ite_self,Iz,Hq];cases a<;>dsimp only<;>repeat' first|exact⟨rfl,λ_=>rfl⟩|split
theorem sX(fr:Frame)(cs:List Frame)(a:Option Dying)(h:Halt)(w:AU):Hg (λw=>stepG.apply P true fr cs a (.halt h) w) w:=by
 unfold stepG.apply;simp only[if_true,Sem.runT];cases h<;>(try dsimp only)<;>(try simp only[ite_self,Iz,Hq])<;>first|exact(D9 _ _).loc _|exact(Bg _ _).loc _|exact WT _ _ _ _ _|exact Yw.loc (λ_=>⟨rfl,λ_=>rfl⟩) _|skip
 rename_i u;cases u<;>(try dsimp only)<;>(try simp only[ite_self,Iz,Hq])<;>first|exact(Bg _ _).loc _|exact Azv _ _ _ _ _
theorem Yo(fr:Frame)(cs:List Frame)(b:Option Dying)(h:Halt)(w:AU)(a:(stepG.apply P true fr cs b (.halt h) w).cont):¬KV h:=by
 revert a
 unfold stepG.apply;simp only[if_true,Sem.runT];cases h<;>(try dsimp only)<;>(try simp only[ite_self,Iz,Hq])<;>first
  |exact λ_ x=>x|(intro x;exact x.elim)
  |(intro x;cases x)
  |skip
 rename_i u;cases u<;>(try dsimp only)<;>(try simp only[ite_self,Iz,Hq])<;>first
  |exact λ_ x=>x|(intro x;exact x.elim)
theorem Vq(fr:Frame)(cs:List Frame)(b:Option Dying)(x:Sem Next)(w:AU)(hx:Ix P x w #[]):Hg (λw=>stepG.apply P true fr cs b x w) w:=by
 refine Hg.congr (G:=λw=>(λ(r:Result Next)f=>GStep.after (seen P fr.fn (if fr.kind==.early then #[] else JG f r)) (stepG.apply P true fr cs b (LJ r) r.w)) (x.runT P w #[]).1 (x.runT P w #[]).2) ?_ (fN fr cs b x);refine Hg.bind (P:=P) (x:=x) (λ(r:Result Next)f=>GStep.after (seen P fr.fn (if fr.kind==.early then #[] else JG f r)) (stepG.apply P true fr cs b (LJ r) r.w)) #[] hx ?_ ?_
 .generalize x.runT P w #[]=r;obtain⟨r,f⟩:=r;cases r with
  |ok a g=>exact Hg.like (G:=λw=>GStep.after (seen P fr.fn (if fr.kind==.early then #[] else f)) (stepG.apply P true fr cs b (.pure a) w)) (Hg.after _ ((sj fr cs b a).loc g)) rfl λ_ _ _=>rfl|halt h g=>refine Hg.like (G:=λw=>GStep.after (seen P fr.fn (if fr.kind==.early then #[] else JG f (Result.halt h g:Result Next))) (stepG.apply P true fr cs b (.halt h) w)) (Hg.after _ (sX fr cs b h g)) rfl fun τ s e=>?_;have:∀i,JG f (Result.halt h i:Result Next)=JG f (Result.halt h g:Result Next):=(by intro i;cases h<;>first|rfl|(rename_i u;cases u<;>rfl));simp only[Result.put,this];rfl
 rw[H6];generalize x.runT P w #[]=r;obtain⟨r,f⟩:=r;cases r with
 |ok a g=>exact λ_=>trivial|halt h g=>exact λc=>Yo fr cs b h g c
end
def Xr:Item->Prop
 |.call _ _ r _=>r= "runtime.print$piece"
 |.extern r _=>r= "runtime.print$piece"
 |_=>True
def ET(fr:Frame):Prop:=∀i∈fr.todo,Xr i
def OkG(g:AX):Prop:=ET g.frame/\∀c∈g.callers,ET c
section
variable {P:AY}{w:AU}
def YJ:Extern.next "runtime.print$piece" =some (Extern.PrintPieces.piece #[] #[]):=Br
theorem OB{α:Type}{x:Sem α}(hx:Calm P x)(H:Result α->Array Event->GStep)(j:∀a b,Yw (λw=>H (.ok a w) b))(g:∀h b,Yw (λw=>H (.halt h w) b))(i:∀h w b,KV h->¬(H (.halt h w) b).cont)(w:AU):
  Hg (λw=>H (x.runT P w #[]).1 (x.runT P w #[]).2) w:=by
 refine Hg.bind (P:=P) H #[] (hx.loc w #[]) ?_ ?_
 .generalize x.runT P w #[]=r;obtain⟨r,b⟩:=r;cases r with
  |ok a f=>exact(j a b).loc f|halt h f=>exact(g h b).loc f
 generalize x.runT P w #[]=r;obtain⟨r,b⟩:=r;cases r with
 |ok a f=>exact λ_=>trivial|halt h f=>exact λc k=>i h f b k c
def H7{F:AU->GStep}(es:Array Event)(h:Yw F):Yw (λw=>GStep.after es (F w)):=λw=>⟨by rw[ME];exact(h w).1,λf=>by show GStep.after es (F (f w))=_;rw[YL,(h w).2 f]⟩
theorem Azu (main:Bool)(fr:Frame)(cs:List Frame)(f:Option Dying)(jump:Option Code)(w:AU):Hg (λw=>
   match fr.roundOf with
   |none=>if jump matches none|some .ret then GStep.go {frame:={fr with mode:=.returning},callers:=cs,status:=.running,dying:=f} w else .ended (.stuck "exit, goto: no such block or label" (fr.pos P)) w
   |some l=>
    let (r,b):=(Instr.endRound l jump).runT P w #[]
    GStep.after (seen P fr.fn b)<| match r with
    |.ok v w=>doReturn P main fr cs f v w
    | .halt _ w=>.ended (.stuck "range over a function: no such loop" (fr.pos P)) w) w:=by
 cases fr.roundOf with
 |none=>dsimp only;split;{exact(D9 _ _).loc w};{exact(D9 _ _).loc w};simp only[E3,EL];exact(Bg _ _).loc w
 |some l=>
  refine(OB (P:=P) (x:=Instr.endRound l jump) BU (λr b=>GStep.after (seen P fr.fn b) (match r with
    |.ok v w=>doReturn P main fr cs f v w
    | .halt _ w=>.ended (.stuck "range over a function: no such loop" (fr.pos P)) w)) (λa b=>H7 _ (Vb main fr cs f a)) (λh b=>H7 _ (Bg _ _)) (λh w b _ c=>by rw[H6] at c;exact c) w).congr λw=>rfl
theorem mU(b:OkP P)(fr:Frame)(cs:List Frame)(a:Option Dying)(w:AU):Hg (λw=>stepG.oper P true fr cs a w) w:=by
 unfold stepG.oper;cases fr.oper? with
 |none=>exact(Bg _ _).loc w|some o=>dsimp only;split;{exact Vq fr cs a _ w (Calm.loc (Calm.bind BU λ_=>Calm.bind BU λ_=>Ae) w #[])};exact Vq fr cs a _ w (O6 _ 0 (YV b _ o) w #[])
theorem mV(q:OkP P)(main:Bool)(fr:Frame)(u:ET fr)(cs:List Frame)(b:Option Dying)(w:AU):Hg (λw=>stepG.exec P main true fr cs b w) w:=by
 have n:=λj=>Azu (P:=P) main fr cs b j w;unfold stepG.exec;dsimp only;unfold ET at u;split
 .exact n none
 .exact n (some .ret)
 .exact(D9 _ _).loc w
 .exact(D9 _ _).loc w
 .exact(D9 _ _).loc w
 .exact(D9 _ _).loc w
 .exact(D9 _ _).loc w
 .split;{exact(D9 _ _).loc w};exact(Bg _ _).loc w
 .exact(D9 _ _).loc w
 .exact(D9 _ _).loc w
 .exact(D9 _ _).loc w
 .exact(D9 _ _).loc w
 .rename_i i k _;cases exitTo i k with|none=>exact n (some (.exit i))|some t=>exact(D9 _ _).loc w
 .rename_i l k _;cases gotoIn l k with|none=>exact n (some (.goto l))|some t=>exact(D9 _ _).loc w
 .rename_i f o assign body k _
  refine Hg.congr (G:=λw=>(λ(r:Result (Nat × List Deferred)) g=>GStep.after (seen P fr.fn g) (match r with
   |.ok (l,mark) w=>stepG.apply P true {fr with todo:=.inRangeFunc l::k,defers:=mark++fr.defers} cs b (do let d <-resolve ({fr with todo:=.inRangeFunc l::k,defers:=mark++fr.defers}:Frame).eval {callee:=.value f,args:=#[.const (.func (.yield l) #[] #[])],argTypes:=#[]} 0;invoke d.target d.args) w
   | .halt _ w=>.ended (.stuck "range over a function: no such loop" (fr.pos P)) w)) ((Instr.enterLoop fr.fn fr.tmps o assign body fr.roundOf).runT P w #[]).1 ((Instr.enterLoop fr.fn fr.tmps o assign body fr.roundOf).runT P w #[]).2) ?_ λw=>rfl
  refine Hg.bind (P:=P) (x:=Instr.enterLoop fr.fn fr.tmps o assign body fr.roundOf) (λ(r:Result (Nat × List Deferred)) g=>GStep.after (seen P fr.fn g) (match r with
   |.ok (l,mark) w=>stepG.apply P true {fr with todo:=.inRangeFunc l::k,defers:=mark++fr.defers} cs b (do let d <-resolve ({fr with todo:=.inRangeFunc l::k,defers:=mark++fr.defers}:Frame).eval {callee:=.value f,args:=#[.const (.func (.yield l) #[] #[])],argTypes:=#[]} 0;invoke d.target d.args) w
   | .halt _ w=>.ended (.stuck "range over a function: no such loop" (fr.pos P)) w)) #[] (Calm.loc BU w #[]) ?_ ?_
  .generalize Sem.runT P _ w #[]=r;obtain⟨r,g⟩:=r;cases r with
   |ok a w'=>obtain⟨l,B⟩:=a;exact Hg.after _ (Vq _ cs b _ w' (O6 _ 0 (Em BU λ_=>Np q _ _) w' #[]))
   |halt h w'=>exact(H7 _ (Bg _ _)).loc w'
  generalize Sem.runT P _ w #[]=r;obtain⟨r,g⟩:=r;cases r with
  |ok a w'=>exact λ_=>trivial|halt h w'=>exact λc=>by rw[H6]at c;exact c.elim
 .exact(Bg _ _).loc w
 .refine Vq fr cs b _ w (Calm.loc (Calm.bind ?_ λ_=>Ae) w #[]);cases fr.roundOf with|none=>exact Ef|some l=>exact Ri l
 .rename_i l k _
  refine(OB (P:=P) (x:=Instr.endLoop l) BU (λr g=>GStep.after (seen P fr.fn g) (match r with
   |.ok jump w=>GStep.go {frame:={fr with todo:=(jump.map Item.code).toList++k},callers:=cs,status:=.running,dying:=b} w
   |.halt (.panic v) w=>GStep.go {frame:=(fr.raise [{v,recovered:=false}]),callers:=cs,status:=.running,dying:=b} w
   | .halt _ w=>.ended (.stuck "range over a function: no such loop" (fr.pos P)) w)) (λa g=>H7 _ (D9 _ _)) (λh g=>?_) (λh w g ok c=>?_) w).congr λw=>rfl
  {cases h<;>first|exact H7 _ (Bg _ _)|exact H7 _ (D9 _ _)};rw[H6]at c;cases h<;>first|exact c|exact ok
 .exact(Bg _ _).loc w
 .exact Vq fr cs b _ w (O6 _ 0 (Np q _ _) w #[])
 .rename_i row args k A;have y:row= "runtime.print$piece" :=u (.extern row args) (by rw[A];exact E6);subst y;rw[YJ];exact Vq fr cs b _ w (O6 _ 0 (RN _ _ _) w #[])
 .rename_i i m draw k _;cases draw with
  |false=>exact(D9 _ _).loc w
  |true=>
   simp only[M4,E3,EL]
   have z:Hg (λw=>(λr:Result Nat=>match r with
     |.ok t w=>GStep.go {frame:={fr with todo:=.inRegion m (Region.schedule (P.follows .mixedOrders) m t)::k},callers:=cs,status:=.running,dying:=b} w
     | .halt _ w=>.ended (.stuck "order" (fr.pos P)) w) ((choose (.order fr.fn i)).run P w)) w:=by
    refine Hg.bindR (P:=P) (x:=choose (.order fr.fn i)) (λr:Result Nat=>match r with
     |.ok t w=>GStep.go {frame:={fr with todo:=.inRegion m (Region.schedule (P.follows .mixedOrders) m t)::k},callers:=cs,status:=.running,dying:=b} w
     | .halt _ w=>.ended (.stuck "order" (fr.pos P)) w) (Calm.loc Nh w #[]) ?_ ?_
    .generalize Sem.run P _ w=r
     cases r with
     |ok a w'=>exact(D9 _ _).loc _
     |halt h w'=>exact(Bg _ _).loc _
    .exact zi0
   exact z.congr λw=>rfl
 .exact(D9 _ _).loc w
 split
 .exact mU q fr cs b w
 exact(D9 _ _).loc w
end
