import Derived.Below
import GoSem.Step
import Derived.Laws.Sem
namespace Go
end Go
abbrev A37 := @Nat.lt_of_lt_of_le
abbrev A38 := @List.length_append
abbrev A39 := @List.length_cons
abbrev A4a := @List.length_nil
abbrev A4b := @List.size_toArray
abbrev A4c := @List.mem_cons_of_mem
abbrev A4d := @Nat.le_refl
abbrev A4e := @Bool.false_eq_true
abbrev A4f := @List.getElem_mem
abbrev A4g := @List.mem_append_right
abbrev A4h := @Nat.zero_add
abbrev A4i := @List.getElem?_set_ne
abbrev A4j := @List.mem_append_left
abbrev A4k := @Nat.le_trans
abbrev A4l := @List.mem_append
abbrev A4m := @List.map_append
abbrev A4n := @List.mem_singleton
abbrev A4o := @List.length_map
abbrev A4p := @List.getElem?_eq_getElem
abbrev A4q := @List.map_cons
abbrev A4r := @List.take_succ_eq_append_getElem
abbrev A4s := @List.mem_map
abbrev A4t := @List.mem_cons
abbrev A4u := @List.pairwise_cons
abbrev A4v := @List.pairwise_append
abbrev A4w := @List.append_assoc
abbrev A4x := @List.getElem?_set_self
abbrev A4y := @List.cons_append
abbrev A4z := @List.nil_append
abbrev A40 := @Array.getElem?_setIfInBounds_self_of_lt
abbrev A41 := @Array.replicate_succ
abbrev A42 := @Array.replicate_zero
abbrev A43 := @List.take_of_length_le
abbrev A44 := @List.append_toArray
abbrev A45 := @Array.getElem?_eq_some_iff
abbrev A46 := @List.length_eq_zero_iff
abbrev A47 := @List.push_toArray
abbrev A48 := @List.length_singleton
abbrev A49 := @List.nodup_append
abbrev A5a := @beq_eq_false_iff_ne
theorem omz {p:Prop}(h:p:=by omega):p:=h
theorem krz {p:Prop}(h:p:=by kernel_rfl):p:=h
theorem spz {p:Prop}(h:p:=by simp):p:=h
theorem rrz {p:Prop}(h:p:=by rfl):p:=h
theorem aqz {p:Prop}(h:p:=by assumption):p:=h
theorem dcz {p:Prop}(h:p:=by decide):p:=h
namespace Go.RowKit
theorem hid {p:Prop}(h:p):Hid p:=h
end Go.RowKit
namespace Go.Co
def Ada:Halt->Prop
 | .unsupported (.initOrder _)=>False
 | .blocked | .waiting | .unsupported _ | .stuck _=>True
 | _=>False
def A2p (d:Nat):Mark->Nat
 | .disable=>d+1
 | .enable=>d - 1
 | _=>d
def Avg {α:Type}:Sem α->Prop
 | .halt h=>Ada h
 | _=>False
def Sat (P:Program){α:Type}(N:α->Prop):Nat->Sem α->Prop
 | d, .pure a=>d=0/\N a
 | d, .load _ _ k=>∀v,Sat P N d (k v)
 | d, .store _ _ _ k=>Sat P N d k
 | d, .new _ k=>∀r,Sat P N d (k r)
 | d, .shape _ k=>∀s,Sat P N d (k s)
 | d, .freeze _ _ k=>Sat P N d k
 | d, .frozen _ k=>∀b,Sat P N d (k b)
 | d, .getObj _ k=>∀o,Sat P N d (k o)
 | d, .setObj _ _ k=>Sat P N d k
 | d, .choose _ k=>∀n,Sat P N d (k n)
 | d, .sys _ k=>Avg (k .wouldBlock)/\∀r,Sat P N d (k r)
 | d, .program k=>Sat P N d (k P)
 | d, .mark m k=>Sat P N (A2p d m) k
 | d, .halt h=>d=0\/Ada h
def Calm (P:Program){α:Type}(s:Sem α):Prop:=Sat P (λ_=>True) 0 s
section
variable {γ:Type}
variable {P : Program}{α β : Type}
theorem Att {M:α->Prop}{N:β->Prop}{f:α->Sem β}(hf:∀a,M a->Sat P N 0 (f a)):∀(s:Sem α) (d:Nat),Sat P M d s->Sat P N d (s.bind f):=by
 intro s;induction s with
 | pure a=>intro d h;obtain⟨rfl,h⟩:=h;exact hf a h
 | load m a k ih=>exact λd h v=>ih v d (h v)
 | store m a v k ih=>exact λd h=>ih d h
 | new o k ih=>exact λd h v=>ih v d (h v)
 | shape r k ih=>exact λd h v=>ih v d (h v)
 | freeze a n k ih=>exact λd h=>ih d h
 | frozen a k ih=>exact λd h v=>ih v d (h v)
 | getObj r k ih=>exact λd h v=>ih v d (h v)
 | setObj r o k ih=>exact λd h=>ih d h
 | choose q k ih=>exact λd h v=>ih v d (h v)
 | sys c k ih=>
  intro d h;refine⟨?_,λr=>ih r d (h.2 r)⟩;have h1:=h.1;show Avg ((k .wouldBlock).bind f)
  revert h1
  cases k .wouldBlock<;>simp only[Avg,false_implies,Sem.bind]
  exact id
 | program k ih=>exact λd h=>ih P d h
 | mark m k ih=>exact λd h=>ih _ h
 | halt x=>exact λd h=>h
theorem Ea {N:β->Prop}{s:Sem α}{f:α->Sem β}(hs:Calm P s)(hf:∀a,Sat P N 0 (f a)):Sat P N 0 (s>>=f):=Att (λa _=>hf a) s 0 hs
theorem G5 {N:α->Prop}{a:α}(h:N a):Sat P N 0 (pure a:Sem α):=⟨rfl,h⟩
@[simp] theorem Ae {a:α}:Calm P (pure a:Sem α):=⟨rfl,trivial⟩
@[simp] theorem A21 {a:Addr}{m:Mode}:Calm P (load a m):=λ_=>⟨rfl,trivial⟩
@[simp] theorem Arp {a:Addr}{v:Value}{m:Mode}:Calm P (store a v m):=⟨rfl,trivial⟩
@[simp] theorem A1l {o:Obj}:Calm P (newObj o):=λ_=>⟨rfl,trivial⟩
@[simp] theorem A19 {r:Nat}:Calm P (shape r):=λ_=>⟨rfl,trivial⟩
@[simp] theorem A1p {a:Addr}{n:Nat}:Calm P (freeze a n):=⟨rfl,trivial⟩
@[simp] theorem A1o {a:Addr}:Calm P (frozen a):=λ_=>⟨rfl,trivial⟩
@[simp] theorem Amr {r:Nat}:Calm P (getObj r):=λ_=>⟨rfl,trivial⟩
@[simp] theorem Aec {r:Nat}{o:Obj}:Calm P (setObj r o):=⟨rfl,trivial⟩
@[simp] theorem Jy {q:Question}:Calm P (choose q):=λ_=>⟨rfl,trivial⟩
@[simp] theorem Aj7:Calm P program:=⟨rfl,trivial⟩
@[simp] theorem A1i:Calm P (mark .noRoom):=⟨rfl,trivial⟩
@[simp] theorem A1n {f:FuncId}:Calm P (mark (.extern f)):=⟨rfl,trivial⟩
@[simp] theorem D5 {s:String}:Calm P (stuck s:Sem α):=.inl rfl
@[simp] theorem Jf {u:Unsupported}:Calm P (unsupported u:Sem α):=.inl rfl
@[simp] theorem Azy {v:Value}:Calm P (goPanic v:Sem α):=.inl rfl
@[simp] theorem A18 {s:String}:Calm P (throw s:Sem α):=.inl rfl
theorem Calm.bind {s:Sem α}{f:α->Sem β}(hs:Calm P s)(hf:∀a,Calm P (f a)):Calm P (s>>=f):=Ea hs hf
theorem cmF {P:Program}{α:Type}{x:Sem α}(h:Calm P x:=by repeat' first | exact Ae | (simp;done) | refine Calm.bind ?_ (λ_=>?_) | split):Calm P x:=h
theorem Calm.map {s:Sem α}{f:α->β}(hs:Calm P s):Calm P (f<$>s):=Ea hs λ_=>⟨rfl,trivial⟩
theorem cmG {P:Program}{α:Type}{x:Sem α}(h:Calm P x:=by repeat' first | exact Ae | exact Or.inl rfl | assumption | (simp;done) | refine Calm.bind ?_ (λ_=>?_) | dsimp only | refine Calm.map ?_ | split | intro _):Calm P x:=h
theorem cmC {P:Program}{α:Type}{x:Sem α}(h:Calm P x:=by repeat' first | exact Ae | exact Or.inl rfl | assumption | (simp;done) | refine Calm.bind ?_ (λ_=>?_) | dsimp only | refine Calm.map ?_ | split | intro _):Calm P x:=h
theorem Gx (l:List γ){f:γ->β->Sem (ForInStep β)}(hf:∀a b,Calm P (f a b)):∀b,Calm P (forIn l b f):=by
 induction l with
 | nil=>exact λb=>by rw[List.forIn_nil];exact Ae
 | cons a l ih=>
  intro b;rw[List.forIn_cons];refine Calm.bind (hf a b) λr=>?_
  cases r with
  | done b=>exact Ae
  | yield b=>exact ih b
theorem Gw (l:Array γ){f:γ->β->Sem (ForInStep β)}(hf:∀a b,Calm P (f a b))(b:β):Calm P (forIn l b f):=by
 rw[<-Array.forIn_toList];exact Gx _ hf b
theorem Gv (r:Std.Legacy.Range){f:Nat->β->Sem (ForInStep β)}(hf:∀a b,Calm P (f a b))(b:β):Calm P (forIn r b f):=by
 rw[Std.Legacy.Range.forIn_eq_forIn_range'];exact Gx _ hf b
theorem Aka (l:List γ):∀{f:(a:γ)->a∈l->β->Sem (ForInStep β)} (_:∀a h b,Calm P (f a h b)) (b:β),Calm P (forIn' l b f):=by
 induction l with
 | nil=>exact λ_ b=>by rw[List.forIn'_nil];exact Ae
 | cons a l ih=>
  intro f hf b;rw[List.forIn'_cons];refine Calm.bind (hf _ _ b) λr=>?_
  cases r with
  | done b=>exact Ae
  | yield b=>exact ih (λ_ _ _=>hf _ _ _) b
theorem Aj9 (r:Std.Legacy.Range){f:(i:Nat)->i∈r->β->Sem (ForInStep β)}(hf:∀a h b,Calm P (f a h b))(b:β):Calm P (forIn' r b f):=by
 rw[Std.Legacy.Range.forIn'_eq_forIn'_range'];exact Aka _ (λ_ _ _=>hf _ _ _) b
theorem Ams (l:List γ){f:β->γ->Sem β}(hf:∀a b,Calm P (f a b)):∀b,Calm P (l.foldlM f b):=by
 induction l with
 | nil=>exact λb=>Ae
 | cons a l ih=>exact λb=>by rw[List.foldlM_cons];exact Calm.bind (hf b a) ih
theorem Gt (l:List γ){f:γ->Sem β}(hf:∀a,Calm P (f a)):Calm P (l.mapM f):=by
 induction l with
 | nil=>rw[List.mapM_nil];exact Ae
 | cons a l ih=>rw[List.mapM_cons];exact Calm.bind (hf a) λ_=>Calm.bind ih λ_=>Ae
theorem Gu (l:Array γ){f:γ->Sem β}(hf:∀a,Calm P (f a)):Calm P (l.mapM f):=by
 rw[Array.mapM_eq_mapM_toList];exact Calm.map (Gt _ hf)
theorem cmE {P:Program}{α:Type}{x:Sem α}(h:Calm P x:=by repeat' first | exact Ae | assumption | (simp;done) | exact ih _ | exact ih _ _ | exact ih _ _ _ | exact ih _ _ _ _ | refine Calm.bind ?_ (λ_=>?_) | refine Gx _ (λ_ _=>?_) _ | refine Gw _ (λ_ _=>?_) _ | refine Gv _ (λ_ _=>?_) _ | refine Gu _ (λ_=>?_) | refine Gt _ (λ_=>?_) | dsimp only | refine Calm.map ?_ | split | intro _):Calm P x:=h
theorem cmD {P:Program}{α:Type}{x:Sem α}(h:Calm P x:=by repeat' first | exact Ae | assumption | (simp;done) | refine Calm.bind ?_ (λ_=>?_) | refine Gx _ (λ_ _=>?_) _ | refine Gw _ (λ_ _=>?_) _ | refine Gv _ (λ_ _=>?_) _ | refine Gu _ (λ_=>?_) | refine Gt _ (λ_=>?_) | dsimp only | refine Calm.map ?_ | split | intro _):Calm P x:=h
theorem cmB {P:Program}{α:Type}{x:Sem α}(h:Calm P x:=by repeat' first | exact Ae | assumption | (simp;done) | refine Calm.bind ?_ (λ_=>?_) | refine Gx _ (λ_ _=>?_) _ | refine Gw _ (λ_ _=>?_) _ | refine Gv _ (λ_ _=>?_) _ | refine Gu _ (λ_=>?_) | refine Gt _ (λ_=>?_) | refine Ams _ (λ_ _=>?_) _ | refine Aj9 _ (λ_ _ _=>?_) _ | dsimp only | refine Calm.map ?_ | split | intro _):Calm P x:=h
theorem cmA {P:Program}{α:Type}{x:Sem α}(h:Calm P x:=by repeat' first | exact Ae | assumption | (simp;done) | refine Calm.bind ?_ (λ_=>?_) | refine Gx _ (λ_ _=>?_) _ | refine Gw _ (λ_ _=>?_) _ | refine Gv _ (λ_ _=>?_) _ | refine Gu _ (λ_=>?_) | refine Gt _ (λ_=>?_) | dsimp only | refine Calm.map ?_ | split | intro _):Calm P x:=h
end
end Go.Co
namespace Go.Co
section
variable {P : Program}
@[simp] theorem Az2 (bytes:Nat):Calm P (Go.askRoom bytes:Sem Unit):=by
 unfold Go.askRoom;exact cmA
@[simp] theorem A1e (r:Nat):Calm P (Go.viewAt r:Sem (Option (Addr × TypeId))):=by
 unfold Go.viewAt;exact cmA
@[simp] theorem Ay2 (r:Nat):Calm P (Go.numberAt r:Sem (Option (Addr × Bool))):=by
 unfold Go.numberAt;exact cmA
@[simp] theorem Az1 (r:Nat):Calm P (Go.cellsIn r:Sem (Option Nat)):=by
 unfold Go.cellsIn;exact cmA
@[simp] theorem Ay5 (a:Addr)(lost:Bool):Calm P (Go.asNumber a lost:Sem Value):=by
 unfold Go.asNumber;exact cmA
@[simp] theorem Art (n:Addr):Calm P (Go.behindNumber n:Sem (Addr × Bool)):=by
 unfold Go.behindNumber;exact cmA
@[simp] theorem A1h (a:Addr):Calm P (Go.noView a:Sem Unit):=by
 unfold Go.noView;exact cmA
@[simp] theorem Aoc (a:Addr):Calm P (Go.markStringish a:Sem Unit):=by
 unfold Go.markStringish;exact cmA
@[simp] theorem Aw4 (a:Addr):Calm P (Go.stringish a:Sem Bool):=by
 unfold Go.stringish;exact cmA
@[simp] theorem Ay3 (a:Addr)(b:Addr):Calm P (Go.mayBeOne a b:Sem Bool):=by
 unfold Go.mayBeOne;exact cmA
@[simp] theorem Ay1 (a:Addr)(b:Addr):Calm P (Go.sameAddr a b:Sem Bool):=by
 unfold Go.sameAddr;exact cmA
@[simp] theorem Ase (x0:Option Addr)(x1:Option Addr):Calm P (Go.samePointer x0 x1:Sem Bool):=by
 unfold Go.samePointer;exact cmA
@[simp] theorem Ahk (t:TypeId):Calm P (Go.typeInfo t:Sem TypeInfo):=by
 unfold Go.typeInfo;exact cmA
@[simp] theorem Aeb (t:TypeId):Calm P (Go.underlying t:Sem TypeDesc):=by
 unfold Go.underlying;exact cmA
@[simp] theorem Azz (name:String):Calm P (Go.cutType name:Sem TypeId):=by
 unfold Go.cutType;exact cmA
@[simp] theorem Azw (t:TypeId):Calm P (Go.typeStr t:Sem String):=by
 unfold Go.typeStr;exact cmA
@[simp] theorem Yc (t:TypeId):Calm P (Go.zeroValue t:Sem Value):=by
 unfold Go.zeroValue;exact cmA
@[simp] theorem A1f (t:TypeId):Calm P (Go.sizeOf t:Sem Nat):=by
 unfold Go.sizeOf;exact cmA
@[simp] theorem A2a (t:TypeId):Calm P (Go.isAgg t:Sem Bool):=by
 unfold Go.isAgg;exact cmA
@[simp] theorem Aod:∀(x0:Nat) (a:Addr) (i:Nat) (x1:Array Value),Calm P (Go.loadCellsFrom a i x0 x1:Sem (Array Value)):=by
 intro x0;induction x0 with
 | zero=>
  intros
  unfold Go.loadCellsFrom;repeat' first
   | exact Ae
   | assumption
   | (simp;done)
   | refine Calm.bind ?_ (λ_=>?_)
   | refine Gx _ (λ_ _=>?_) _
   | refine Gw _ (λ_ _=>?_) _
   | refine Gv _ (λ_ _=>?_) _
   | refine Gu _ (λ_=>?_)
   | refine Gt _ (λ_=>?_)
   | dsimp only
   | refine Calm.map ?_
   | split
   | intro _
 | succ n ih=>
  intros
  unfold Go.loadCellsFrom;exact cmE
@[simp] theorem Aw5 (a:Addr)(n:Nat):Calm P (Go.loadCells a n:Sem (Array Value)):=by
 unfold Go.loadCells;exact cmA
theorem Abw (a:Addr):∀(vs:List Value) (i:Nat),Calm P (storeCells a vs i):=by
 intro vs;induction vs with
 | nil=>exact λ_=>Ae
 | cons v l ih=>exact λi=>Calm.bind Arp λ_=>ih (i+1)
@[simp] theorem Awm (a:Addr)(vs:List Value)(i:Nat):Calm P (storeCells a vs i):=Abw a vs i
@[simp] theorem Aj8 (t:TypeId)(a:Addr):Calm P (Go.loadVar t a:Sem Value):=by
 unfold Go.loadVar;exact cmA
@[simp] theorem Ay0 (t:TypeId)(a:Addr)(v:Value):Calm P (Go.storeVar t a v:Sem Unit):=by
 unfold Go.storeVar;exact cmA
@[simp] theorem A1k (elem:TypeId)(cells:Array Value):Calm P (Go.newRow elem cells:Sem Addr):=by
 unfold Go.newRow;exact cmA
@[simp] theorem A1j (t:TypeId)(v:Value):Calm P (Go.newVar t v:Sem Addr):=by
 unfold Go.newVar;exact cmA
@[simp] theorem A1r (t:TypeId):Calm P (Go.elemOf t:Sem TypeId):=by
 unfold Go.elemOf;exact cmA
@[simp] theorem A20 (t:TypeId)(cs:Array Value)(off:Nat):Calm P (Go.part t cs off:Sem Value):=by
 unfold Go.part;exact cmA
@[simp] theorem Asg {α:Type}(msg:String):Calm P (Go.panicString msg:Sem α):=by
 unfold Go.panicString;exact cmA
@[simp] theorem Ob {α:Type}(e:RuntimeError):Calm P (Go.runtimePanic e:Sem α):=by
 unfold Go.runtimePanic;exact cmA
@[simp] theorem Asl {α:Type}(k:IntKind)(x:Int)(y:Int)(code:BoundsCode):Calm P (Go.boundsPanic k x y code:Sem α):=by
 unfold Go.boundsPanic;exact cmA
@[simp] theorem Az3 (x0:Value):Calm P (Go.asIntOf x0:Sem (IntKind × Int)):=by
 unfold Go.asIntOf;exact cmA
@[simp] theorem A2b (v:Value):Calm P (Go.asInt v:Sem Int):=by
 unfold Go.asInt;exact cmA
@[simp] theorem A1t (x0:Value):Calm P (Go.asBool x0:Sem Bool):=by
 unfold Go.asBool;exact cmA
@[simp] theorem Ay4 (x0:Value):Calm P (Go.asString x0:Sem ByteArray):=by
 unfold Go.asString;exact cmA
@[simp] theorem A2c (x0:Value):Calm P (Go.asAgg x0:Sem (Array Value)):=by
 unfold Go.asAgg;exact cmA
@[simp] theorem Amt (x0:Value):Calm P (Go.asAddr x0:Sem Addr):=by
 unfold Go.asAddr;exact cmA
@[simp] theorem A1s (a:Addr):Calm P (Go.byteOf a:Sem Nat):=by
 unfold Go.byteOf;exact cmA
@[simp] theorem A1g (base:Addr)(cells:Nat)(bytes:Nat):Calm P (Go.partAt base cells bytes:Sem Addr):=by
 unfold Go.partAt;exact cmA
@[simp] theorem Awo (a:Addr)(f:Field):Calm P (Go.fieldPlace a f:Sem Addr):=by
 unfold Go.fieldPlace;exact cmA
@[simp] theorem Asd (a:Addr)(u:TypeId)(n:Nat):Calm P (Go.variablesAt a u n:Sem Bool):=by
 unfold Go.variablesAt;exact cmA
@[simp] theorem Aw6:∀(x0:Nat) (a:Addr) (acc:ByteArray),Calm P (Go.loadBytes a acc x0:Sem ByteArray):=by
 intro x0;induction x0 with
 | zero=>
  intros
  unfold Go.loadBytes;repeat' first
   | exact Ae
   | assumption
   | (simp;done)
   | refine Calm.bind ?_ (λ_=>?_)
   | refine Gx _ (λ_ _=>?_) _
   | refine Gw _ (λ_ _=>?_) _
   | refine Gv _ (λ_ _=>?_) _
   | refine Gu _ (λ_=>?_)
   | refine Gt _ (λ_=>?_)
   | dsimp only
   | refine Calm.map ?_
   | split
   | intro _
 | succ n ih=>
  intros
  unfold Go.loadBytes;exact cmE
end
end Go.Co
namespace Go.Co
section
variable {P : Program}
open Go.Op in
@[simp] theorem Aw8 (op:BinOp)(k:IntKind)(x:Int)(y:Int):Calm P (Go.Op.intDiv op k x y:Sem Value):=by
 unfold Go.Op.intDiv;exact cmA
open Go.Op in
@[simp] theorem Ay7 (op:BinOp)(k:IntKind)(x:Int)(_yk:IntKind)(y:Int):Calm P (Go.Op.shift op k x _yk y:Sem Value):=by
 unfold Go.Op.shift;exact cmA
open Go.Op in
@[simp] theorem Aw9 (op:BinOp)(x:Int)(y:Int):Calm P (Go.Op.intCmp op x y:Sem Value):=by
 unfold Go.Op.intCmp;exact cmA
open Go.Op in
@[simp] theorem Aoe (op:BinOp)(k:FloatKind)(x:Nat)(y:Nat):Calm P (Go.Op.floatArith op k x y:Sem Value):=by
 unfold Go.Op.floatArith;exact cmA
open Go.Op in
@[simp] theorem Asn (op:BinOp)(k:FloatKind)(x:Nat)(y:Nat):Calm P (Go.Op.floatCmp op k x y:Sem Value):=by
 unfold Go.Op.floatCmp;exact cmA
open Go.Conv in
@[simp] theorem Akz (src:FloatKind)(bits:Nat)(dst:IntKind):Calm P (Go.Conv.floatToInt src bits dst:Sem Value):=by
 unfold Go.Conv.floatToInt;exact cmA
open Go.Conv in
@[simp] theorem Aid (src:FloatKind)(bits:Nat)(dst:FloatKind):Calm P (Go.Conv.floatToFloat src bits dst:Sem Value):=by
 unfold Go.Conv.floatToFloat;exact cmA
open Go.Conv in
@[simp] theorem Aeo (src:FloatKind)(re:Nat)(im:Nat)(dst:FloatKind):Calm P (Go.Conv.complexToComplex src re im dst:Sem Value):=by
 unfold Go.Conv.complexToComplex;exact cmA
open Go.Conv in
@[simp] theorem Ahw (elem:TypeId)(s:ByteArray):Calm P (Go.Conv.stringToBytes elem s:Sem Value):=by
 unfold Go.Conv.stringToBytes;exact cmA
open Go.Conv in
@[simp] theorem Ahy (x:Value):Calm P (Go.Conv.bytesToString x:Sem Value):=by
 unfold Go.Conv.bytesToString;exact cmA
open Go.Conv in
@[simp] theorem Ahv (elem:TypeId)(s:ByteArray):Calm P (Go.Conv.stringToRunes elem s:Sem Value):=by
 unfold Go.Conv.stringToRunes;exact cmA
open Go.Conv in
@[simp] theorem Ahx (x:Value):Calm P (Go.Conv.runesToString x:Sem Value):=by
 unfold Go.Conv.runesToString;exact cmA
open Go.Conv in
@[simp] theorem Asz (a:Addr):Calm P (Go.Conv.seenAt a:Sem Addr):=by
 unfold Go.Conv.seenAt;exact cmA
open Go.Conv in
@[simp] theorem Ahu (src:TypeId)(dst:TypeId)(x:Value):Calm P (Go.Conv.unsafePointer src dst x:Sem Value):=by
 unfold Go.Conv.unsafePointer;exact cmA
open Go.Op.Complex in
@[simp] theorem Akc (op:BinOp)(k:FloatKind)(x:Nat)(y:Nat):Calm P (Go.Op.Complex.arith op k x y:Sem Nat):=by
 unfold Go.Op.Complex.arith;exact cmA
open Go.Op.Complex in
@[simp] theorem Akv (src:FloatKind)(x:Nat)(dst:FloatKind):Calm P (Go.Op.Complex.conv src x dst:Sem Nat):=by
 unfold Go.Op.Complex.conv;exact cmA
open Go.Op.Complex in
@[simp] theorem Ahn (a:Nat)(b:Nat)(c:Nat)(d:Nat):Calm P (Go.Op.Complex.product a b c d:Sem (Nat × Nat)):=by
 unfold Go.Op.Complex.product;exact cmA
open Go.Op.Complex in
@[simp] theorem Afa (scale:Nat)(a:Nat)(b:Nat)(c:Nat)(d:Nat):Calm P (Go.Op.Complex.corrected scale a b c d:Sem (Nat × Nat)):=by
 unfold Go.Op.Complex.corrected;exact cmA
open Go.Op.Complex in
@[simp] theorem Aga (a:Nat)(b:Nat)(c:Nat)(d:Nat):Calm P (Go.Op.Complex.quotient a b c d:Sem (Nat × Nat)):=by
 unfold Go.Op.Complex.quotient;exact cmA
open Go.Op in
@[simp] theorem Arw (op:BinOp)(k:FloatKind)(xr:Nat)(xi:Nat)(yr:Nat)(yi:Nat):Calm P (Go.Op.complexOp op k xr xi yr yi:Sem Value):=by
 unfold Go.Op.complexOp;exact cmA
open Go.Op in
@[simp] theorem Asm (op:BinOp)(x:ByteArray)(y:ByteArray):Calm P (Go.Op.stringOp op x y:Sem Value):=by
 unfold Go.Op.stringOp;exact cmA
open Go.Op in
@[simp] theorem Awp:∀(depth':Nat) (x1:TypeId) (x2:Value) (x3:Value),Calm P (Go.Op.equalIn depth' x1 x2 x3:Sem Bool):=by
 intro depth';induction depth' with
 | zero=>
  intros
  unfold Go.Op.equalIn;repeat' first
   | exact Ae
   | assumption
   | (simp;done)
   | refine Calm.bind ?_ (λ_=>?_)
   | refine Gx _ (λ_ _=>?_) _
   | refine Gw _ (λ_ _=>?_) _
   | refine Gv _ (λ_ _=>?_) _
   | refine Gu _ (λ_=>?_)
   | refine Gt _ (λ_=>?_)
   | dsimp only
   | refine Calm.map ?_
   | split
   | intro _
 | succ n ih=>
  intros
  unfold Go.Op.equalIn;exact cmE
open Go.Op in
@[simp] theorem Ay8 (t:TypeId)(x:Value)(y:Value):Calm P (Go.Op.equal t x y:Sem Bool):=by
 unfold Go.Op.equal;exact cmA
open Go.Op in
@[simp] theorem Arv:∀(depth':Nat) (x1:TypeId) (x2:Value) (x3:Value),Calm P (Go.Op.eqGuardIn depth' x1 x2 x3:Sem Bool):=by
 intro depth';induction depth' with
 | zero=>
  intros
  unfold Go.Op.eqGuardIn;repeat' first
   | exact Ae
   | assumption
   | (simp;done)
   | refine Calm.bind ?_ (λ_=>?_)
   | refine Gx _ (λ_ _=>?_) _
   | refine Gw _ (λ_ _=>?_) _
   | refine Gv _ (λ_ _=>?_) _
   | refine Gu _ (λ_=>?_)
   | refine Gt _ (λ_=>?_)
   | dsimp only
   | refine Calm.map ?_
   | split
   | intro _
 | succ n ih=>
  intros
  unfold Go.Op.eqGuardIn;exact cmE
open Go.Op in
@[simp] theorem Aru (a:Addr)(b:Addr):Calm P (Go.Op.twoPlaces a b:Sem (Nat × Nat)):=by
 unfold Go.Op.twoPlaces;exact cmA
open Go.Op in
@[simp] theorem Awq (k:IntKind)(a:Addr)(b:Addr):Calm P (Go.Op.addrSub k a b:Sem Value):=by
 unfold Go.Op.addrSub;exact cmA
open Go.Op in
@[simp] theorem Aws (op:BinOp)(a:Addr)(b:Addr):Calm P (Go.Op.addrCmp op a b:Sem Value):=by
 unfold Go.Op.addrCmp;exact cmA
open Go.Op in
@[simp] theorem Awr (k:IntKind)(a:Addr)(n:Int):Calm P (Go.Op.addrMod k a n:Sem Value):=by
 unfold Go.Op.addrMod;exact cmA
open Go.Op in
@[simp] theorem Ay6 (op:UnOp)(x:Value):Calm P (Go.Op.unary op x:Sem Value):=by
 unfold Go.Op.unary;exact cmA
end
end Go.Co
