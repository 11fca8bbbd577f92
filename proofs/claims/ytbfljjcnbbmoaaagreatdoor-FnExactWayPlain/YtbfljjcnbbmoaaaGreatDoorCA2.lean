import Derived.Below
import GoSem.Step
import Derived.Laws.Sem
namespace Go
end Go
abbrev A4c := @Nat.lt_of_lt_of_le
abbrev A4d := @List.length_append
abbrev A4e := @List.length_cons
abbrev A4f := @List.length_nil
abbrev A4g := @List.size_toArray
abbrev A4h := @List.mem_cons_of_mem
abbrev A4i := @Nat.le_refl
abbrev A4j := @Bool.false_eq_true
abbrev A4k := @List.getElem_mem
abbrev A4l := @List.mem_append_right
abbrev A4m := @Nat.zero_add
abbrev A4n := @List.getElem?_set_ne
abbrev A4o := @List.mem_append_left
abbrev A4p := @Nat.le_trans
abbrev A4q := @List.mem_append
abbrev A4r := @List.map_append
abbrev A4s := @List.mem_singleton
abbrev A4t := @List.length_map
abbrev A4u := @List.getElem?_eq_getElem
abbrev A4v := @List.map_cons
abbrev A4w := @List.take_succ_eq_append_getElem
abbrev A4x := @List.mem_map
abbrev A4y := @List.mem_cons
abbrev A4z := @List.pairwise_cons
abbrev A40 := @List.pairwise_append
abbrev A41 := @List.append_assoc
abbrev A42 := @List.getElem?_set_self
abbrev A43 := @List.cons_append
abbrev A44 := @List.nil_append
abbrev A45 := @Array.getElem?_setIfInBounds_self_of_lt
abbrev A46 := @Array.replicate_succ
abbrev A47 := @Array.replicate_zero
abbrev A48 := @List.take_of_length_le
abbrev A49 := @List.append_toArray
abbrev A5a := @Array.getElem?_eq_some_iff
abbrev A5b := @List.length_eq_zero_iff
abbrev A5c := @List.push_toArray
abbrev A5d := @List.length_singleton
abbrev A5e := @List.nodup_append
abbrev A5f := @beq_eq_false_iff_ne
namespace Go.RowKit
theorem hid {p:Prop} (h:p):Hid p:=h
end Go.RowKit
namespace Go.Co
def Acg:Halt->Prop
 | .unsupported (.initOrder _)=>False
 | .blocked | .waiting | .unsupported _ | .stuck _=>True
 | _=>False
def A2n (d:Nat):Mark->Nat
 | .disable=>d+1
 | .enable=>d - 1
 | _=>d
def Auv {α:Type}:Sem α->Prop
 | .halt h=>Acg h
 | _=>False
def Sat (P:Program) {α:Type} (N:α->Prop):Nat->Sem α->Prop
 | d, .pure a=>d=0/\N a
 | d, .load _ _ k=>∀v,Sat P N d (k v)
 | d, .store _ _ _ k=>Sat P N d k
 | d, .new _ k=>∀r,Sat P N d (k r)
 | d, .shape _ k=>∀s,Sat P N d (k s)
 | d, .freeze _ _ k=>Sat P N d k
 | d, .frozen _ k=>∀b,Sat P N d (k b)
 | d, .getObj _ k=>∀o,Sat P N d (k o)
 | d, .setObj _ _ k=>Sat P N d k
 | d, .choose _ k=>∀n,Sat P N d (k n)
 | d, .sys _ k=>Auv (k .wouldBlock)/\∀r,Sat P N d (k r)
 | d, .program k=>Sat P N d (k P)
 | d, .mark m k=>Sat P N (A2n d m) k
 | d, .halt h=>d=0\/Acg h
def Calm (P:Program) {α:Type} (s:Sem α):Prop:=Sat P (λ_=>True) 0 s
section
variable {P : Program} {α β : Type}
theorem Ata {M:α->Prop} {N:β->Prop} {f:α->Sem β} (hf:∀a,M a->Sat P N 0 (f a)):∀(s:Sem α) (d:Nat),Sat P M d s->Sat P N d (s.bind f):=by
 intro s;induction s with
 | pure a=>intro d h;obtain⟨rfl,h⟩:=h;exact hf a h
 | load m a k ih=>exact λd h v=>ih v d (h v)
 | store m a v k ih=>exact λd h=>ih d h
 | new o k ih=>exact λd h v=>ih v d (h v)
 | shape r k ih=>exact λd h v=>ih v d (h v)
 | freeze a n k ih=>exact λd h=>ih d h
 | frozen a k ih=>exact λd h v=>ih v d (h v)
 | getObj r k ih=>exact λd h v=>ih v d (h v)
 | setObj r o k ih=>exact λd h=>ih d h
 | choose q k ih=>exact λd h v=>ih v d (h v)
 | sys c k ih=>
  intro d h;refine⟨?_,λr=>ih r d (h.2 r)⟩;have h1:=h.1;show Auv ((k .wouldBlock).bind f)
  revert h1
  cases k .wouldBlock<;>simp only[Auv,false_implies,Sem.bind]
  exact id
 | program k ih=>exact λd h=>ih P d h
 | mark m k ih=>exact λd h=>ih _ h
 | halt x=>exact λd h=>h
theorem D5 {N:β->Prop} {s:Sem α} {f:α->Sem β} (hs:Calm P s) (hf:∀a,Sat P N 0 (f a)):Sat P N 0 (s>>=f):=Ata (λa _=>hf a) s 0 hs
theorem Gv {N:α->Prop} {a:α} (h:N a):Sat P N 0 (pure a:Sem α):=⟨rfl,h⟩
@[simp] theorem Ae {a:α}:Calm P (pure a:Sem α):=⟨rfl,trivial⟩
@[simp] theorem A22 {a:Addr} {m:Mode}:Calm P (load a m):=λ_=>⟨rfl,trivial⟩
@[simp] theorem Aq1 {a:Addr} {v:Value} {m:Mode}:Calm P (store a v m):=⟨rfl,trivial⟩
@[simp] theorem A1j {o:Obj}:Calm P (newObj o):=λ_=>⟨rfl,trivial⟩
@[simp] theorem A18 {r:Nat}:Calm P (shape r):=λ_=>⟨rfl,trivial⟩
@[simp] theorem A1n {a:Addr} {n:Nat}:Calm P (freeze a n):=⟨rfl,trivial⟩
@[simp] theorem A1m {a:Addr}:Calm P (frozen a):=λ_=>⟨rfl,trivial⟩
@[simp] theorem Al2 {r:Nat}:Calm P (getObj r):=λ_=>⟨rfl,trivial⟩
@[simp] theorem Adh {r:Nat} {o:Obj}:Calm P (setObj r o):=⟨rfl,trivial⟩
@[simp] theorem Jq {q:Question}:Calm P (choose q):=λ_=>⟨rfl,trivial⟩
@[simp] theorem Ajj:Calm P program:=⟨rfl,trivial⟩
@[simp] theorem A1g:Calm P (mark .noRoom):=⟨rfl,trivial⟩
@[simp] theorem A1l {f:FuncId}:Calm P (mark (.extern f)):=⟨rfl,trivial⟩
@[simp] theorem Dw {s:String}:Calm P (stuck s:Sem α):=.inl rfl
@[simp] theorem I4 {u:Unsupported}:Calm P (unsupported u:Sem α):=.inl rfl
@[simp] theorem Azr {v:Value}:Calm P (goPanic v:Sem α):=.inl rfl
@[simp] theorem A17 {s:String}:Calm P (throw s:Sem α):=.inl rfl
theorem Calm.bind {s:Sem α} {f:α->Sem β} (hs:Calm P s) (hf:∀a,Calm P (f a)):Calm P (s>>=f):=D5 hs hf
theorem cmF {P:Program} {α:Type} {x:Sem α} (h:Calm P x:=by repeat' first | exact Ae | (simp;done) | refine Calm.bind ?_ (λ_=>?_) | split):Calm P x:=h
theorem Calm.map {s:Sem α} {f:α->β} (hs:Calm P s):Calm P (f<$>s):=D5 hs λ_=>⟨rfl,trivial⟩
theorem cmG {P:Program} {α:Type} {x:Sem α} (h:Calm P x:=by repeat' first | exact Ae | exact Or.inl rfl | assumption | (simp;done) | refine Calm.bind ?_ (λ_=>?_) | dsimp only | refine Calm.map ?_ | split | intro _):Calm P x:=h
theorem cmC {P:Program} {α:Type} {x:Sem α} (h:Calm P x:=by repeat' first | exact Ae | exact Or.inl rfl | assumption | (simp;done) | refine Calm.bind ?_ (λ_=>?_) | dsimp only | refine Calm.map ?_ | split | intro _):Calm P x:=h
theorem Gs {γ:Type} (l:List γ) {f:γ->β->Sem (ForInStep β)} (hf:∀a b,Calm P (f a b)):∀b,Calm P (forIn l b f):=by
 induction l with
 | nil=>exact λb=>by rw[List.forIn_nil];exact Ae
 | cons a l ih=>
  intro b;rw[List.forIn_cons];refine Calm.bind (hf a b) λr=>?_
  cases r with
  | done b=>exact Ae
  | yield b=>exact ih b
theorem Gq {γ:Type} (l:Array γ) {f:γ->β->Sem (ForInStep β)} (hf:∀a b,Calm P (f a b)) (b:β):Calm P (forIn l b f):=by
 rw[<-Array.forIn_toList];exact Gs _ hf b
theorem Gp (r:Std.Legacy.Range) {f:Nat->β->Sem (ForInStep β)} (hf:∀a b,Calm P (f a b)) (b:β):Calm P (forIn r b f):=by
 rw[Std.Legacy.Range.forIn_eq_forIn_range'];exact Gs _ hf b
theorem Ajm {γ:Type} (l:List γ):∀{f:(a:γ)->a∈l->β->Sem (ForInStep β)} (_:∀a h b,Calm P (f a h b)) (b:β),Calm P (forIn' l b f):=by
 induction l with
 | nil=>exact λ_ b=>by rw[List.forIn'_nil];exact Ae
 | cons a l ih=>
  intro f hf b;rw[List.forIn'_cons];refine Calm.bind (hf _ _ b) λr=>?_
  cases r with
  | done b=>exact Ae
  | yield b=>exact ih (λ_ _ _=>hf _ _ _) b
theorem Ajl (r:Std.Legacy.Range) {f:(i:Nat)->i∈r->β->Sem (ForInStep β)} (hf:∀a h b,Calm P (f a h b)) (b:β):Calm P (forIn' r b f):=by
 rw[Std.Legacy.Range.forIn'_eq_forIn'_range'];exact Ajm _ (λ_ _ _=>hf _ _ _) b
theorem Al3 {γ:Type} (l:List γ) {f:β->γ->Sem β} (hf:∀a b,Calm P (f a b)):∀b,Calm P (l.foldlM f b):=by
 induction l with
 | nil=>exact λb=>Ae
 | cons a l ih=>exact λb=>by rw[List.foldlM_cons];exact Calm.bind (hf b a) ih
theorem Gm {γ:Type} (l:List γ) {f:γ->Sem β} (hf:∀a,Calm P (f a)):Calm P (l.mapM f):=by
 induction l with
 | nil=>rw[List.mapM_nil];exact Ae
 | cons a l ih=>rw[List.mapM_cons];exact Calm.bind (hf a) λ_=>Calm.bind ih λ_=>Ae
theorem Gn {γ:Type} (l:Array γ) {f:γ->Sem β} (hf:∀a,Calm P (f a)):Calm P (l.mapM f):=by
 rw[Array.mapM_eq_mapM_toList];exact Calm.map (Gm _ hf)
theorem cmE {P:Program} {α:Type} {x:Sem α} (h:Calm P x:=by repeat' first | exact Ae | assumption | (simp;done) | exact ih _ | exact ih _ _ | exact ih _ _ _ | exact ih _ _ _ _ | refine Calm.bind ?_ (λ_=>?_) | refine Gs _ (λ_ _=>?_) _ | refine Gq _ (λ_ _=>?_) _ | refine Gp _ (λ_ _=>?_) _ | refine Gn _ (λ_=>?_) | refine Gm _ (λ_=>?_) | dsimp only | refine Calm.map ?_ | split | intro _):Calm P x:=h
theorem cmD {P:Program} {α:Type} {x:Sem α} (h:Calm P x:=by repeat' first | exact Ae | assumption | (simp;done) | refine Calm.bind ?_ (λ_=>?_) | refine Gs _ (λ_ _=>?_) _ | refine Gq _ (λ_ _=>?_) _ | refine Gp _ (λ_ _=>?_) _ | refine Gn _ (λ_=>?_) | refine Gm _ (λ_=>?_) | dsimp only | refine Calm.map ?_ | split | intro _):Calm P x:=h
theorem cmB {P:Program} {α:Type} {x:Sem α} (h:Calm P x:=by repeat' first | exact Ae | assumption | (simp;done) | refine Calm.bind ?_ (λ_=>?_) | refine Gs _ (λ_ _=>?_) _ | refine Gq _ (λ_ _=>?_) _ | refine Gp _ (λ_ _=>?_) _ | refine Gn _ (λ_=>?_) | refine Gm _ (λ_=>?_) | refine Al3 _ (λ_ _=>?_) _ | refine Ajl _ (λ_ _ _=>?_) _ | dsimp only | refine Calm.map ?_ | split | intro _):Calm P x:=h
theorem cmA {P:Program} {α:Type} {x:Sem α} (h:Calm P x:=by repeat' first | exact Ae | assumption | (simp;done) | refine Calm.bind ?_ (λ_=>?_) | refine Gs _ (λ_ _=>?_) _ | refine Gq _ (λ_ _=>?_) _ | refine Gp _ (λ_ _=>?_) _ | refine Gn _ (λ_=>?_) | refine Gm _ (λ_=>?_) | dsimp only | refine Calm.map ?_ | split | intro _):Calm P x:=h
end
end Go.Co
namespace Go.Co
section
variable {P : Program}
@[simp] theorem Azv (bytes:Nat):Calm P (Go.askRoom bytes:Sem Unit):=by
 unfold Go.askRoom;exact cmA
@[simp] theorem A1c (r:Nat):Calm P (Go.viewAt r:Sem (Option (Addr × TypeId))):=by
 unfold Go.viewAt;exact cmA
@[simp] theorem Ayp (r:Nat):Calm P (Go.numberAt r:Sem (Option (Addr × Bool))):=by
 unfold Go.numberAt;exact cmA
@[simp] theorem Azu (r:Nat):Calm P (Go.cellsIn r:Sem (Option Nat)):=by
 unfold Go.cellsIn;exact cmA
@[simp] theorem Ays (a:Addr) (lost:Bool):Calm P (Go.asNumber a lost:Sem Value):=by
 unfold Go.asNumber;exact cmA
@[simp] theorem Aq5 (n:Addr):Calm P (Go.behindNumber n:Sem (Addr × Bool)):=by
 unfold Go.behindNumber;exact cmA
@[simp] theorem A1f (a:Addr):Calm P (Go.noView a:Sem Unit):=by
 unfold Go.noView;exact cmA
@[simp] theorem Anr (a:Addr):Calm P (Go.markStringish a:Sem Unit):=by
 unfold Go.markStringish;exact cmA
@[simp] theorem Awh (a:Addr):Calm P (Go.stringish a:Sem Bool):=by
 unfold Go.stringish;exact cmA
@[simp] theorem Ayq (a:Addr) (b:Addr):Calm P (Go.mayBeOne a b:Sem Bool):=by
 unfold Go.mayBeOne;exact cmA
@[simp] theorem Ayo (a:Addr) (b:Addr):Calm P (Go.sameAddr a b:Sem Bool):=by
 unfold Go.sameAddr;exact cmA
@[simp] theorem Art (x0:Option Addr) (x1:Option Addr):Calm P (Go.samePointer x0 x1:Sem Bool):=by
 unfold Go.samePointer;exact cmA
@[simp] theorem Ags (t:TypeId):Calm P (Go.typeInfo t:Sem TypeInfo):=by
 unfold Go.typeInfo;exact cmA
@[simp] theorem Adg (t:TypeId):Calm P (Go.underlying t:Sem TypeDesc):=by
 unfold Go.underlying;exact cmA
@[simp] theorem Azs (name:String):Calm P (Go.cutType name:Sem TypeId):=by
 unfold Go.cutType;exact cmA
@[simp] theorem Azp (t:TypeId):Calm P (Go.typeStr t:Sem String):=by
 unfold Go.typeStr;exact cmA
@[simp] theorem Xq (t:TypeId):Calm P (Go.zeroValue t:Sem Value):=by
 unfold Go.zeroValue;exact cmA
@[simp] theorem A1d (t:TypeId):Calm P (Go.sizeOf t:Sem Nat):=by
 unfold Go.sizeOf;exact cmA
@[simp] theorem A19 (t:TypeId):Calm P (Go.isAgg t:Sem Bool):=by
 unfold Go.isAgg;exact cmA
@[simp] theorem Ant:∀(x0:Nat) (a:Addr) (i:Nat) (x1:Array Value),Calm P (Go.loadCellsFrom a i x0 x1:Sem (Array Value)):=by
 intro x0;induction x0 with
 | zero=>
  intros
  unfold Go.loadCellsFrom;repeat' first
   | exact Ae
   | assumption
   | (simp;done)
   | refine Calm.bind ?_ (λ_=>?_)
   | refine Gs _ (λ_ _=>?_) _
   | refine Gq _ (λ_ _=>?_) _
   | refine Gp _ (λ_ _=>?_) _
   | refine Gn _ (λ_=>?_)
   | refine Gm _ (λ_=>?_)
   | dsimp only
   | refine Calm.map ?_
   | split
   | intro _
 | succ n ih=>
  intros
  unfold Go.loadCellsFrom;exact cmE
@[simp] theorem Awi (a:Addr) (n:Nat):Calm P (Go.loadCells a n:Sem (Array Value)):=by
 unfold Go.loadCells;exact cmA
theorem Aa7 (a:Addr):∀(vs:List Value) (i:Nat),Calm P (storeCells a vs i):=by
 intro vs;induction vs with
 | nil=>exact λ_=>Ae
 | cons v l ih=>exact λi=>Calm.bind Aq1 λ_=>ih (i+1)
@[simp] theorem Avx (a:Addr) (vs:List Value) (i:Nat):Calm P (storeCells a vs i):=Aa7 a vs i
@[simp] theorem Ajk (t:TypeId) (a:Addr):Calm P (Go.loadVar t a:Sem Value):=by
 unfold Go.loadVar;exact cmA
@[simp] theorem Ayn (t:TypeId) (a:Addr) (v:Value):Calm P (Go.storeVar t a v:Sem Unit):=by
 unfold Go.storeVar;exact cmA
@[simp] theorem A1i (elem:TypeId) (cells:Array Value):Calm P (Go.newRow elem cells:Sem Addr):=by
 unfold Go.newRow;exact cmA
@[simp] theorem A1h (t:TypeId) (v:Value):Calm P (Go.newVar t v:Sem Addr):=by
 unfold Go.newVar;exact cmA
@[simp] theorem A1p (t:TypeId):Calm P (Go.elemOf t:Sem TypeId):=by
 unfold Go.elemOf;exact cmA
@[simp] theorem A21 (t:TypeId) (cs:Array Value) (off:Nat):Calm P (Go.part t cs off:Sem Value):=by
 unfold Go.part;exact cmA
@[simp] theorem Arv {α:Type} (msg:String):Calm P (Go.panicString msg:Sem α):=by
 unfold Go.panicString;exact cmA
@[simp] theorem Nq {α:Type} (e:RuntimeError):Calm P (Go.runtimePanic e:Sem α):=by
 unfold Go.runtimePanic;exact cmA
@[simp] theorem Ary {α:Type} (k:IntKind) (x:Int) (y:Int) (code:BoundsCode):Calm P (Go.boundsPanic k x y code:Sem α):=by
 unfold Go.boundsPanic;exact cmA
@[simp] theorem Azw (x0:Value):Calm P (Go.asIntOf x0:Sem (IntKind × Int)):=by
 unfold Go.asIntOf;exact cmA
@[simp] theorem A2a (v:Value):Calm P (Go.asInt v:Sem Int):=by
 unfold Go.asInt;exact cmA
@[simp] theorem A1r (x0:Value):Calm P (Go.asBool x0:Sem Bool):=by
 unfold Go.asBool;exact cmA
@[simp] theorem Ayr (x0:Value):Calm P (Go.asString x0:Sem ByteArray):=by
 unfold Go.asString;exact cmA
@[simp] theorem A2b (x0:Value):Calm P (Go.asAgg x0:Sem (Array Value)):=by
 unfold Go.asAgg;exact cmA
@[simp] theorem Al4 (x0:Value):Calm P (Go.asAddr x0:Sem Addr):=by
 unfold Go.asAddr;exact cmA
@[simp] theorem A1q (a:Addr):Calm P (Go.byteOf a:Sem Nat):=by
 unfold Go.byteOf;exact cmA
@[simp] theorem A1e (base:Addr) (cells:Nat) (bytes:Nat):Calm P (Go.partAt base cells bytes:Sem Addr):=by
 unfold Go.partAt;exact cmA
@[simp] theorem Avz (a:Addr) (f:Field):Calm P (Go.fieldPlace a f:Sem Addr):=by
 unfold Go.fieldPlace;exact cmA
@[simp] theorem Ars (a:Addr) (u:TypeId) (n:Nat):Calm P (Go.variablesAt a u n:Sem Bool):=by
 unfold Go.variablesAt;exact cmA
@[simp] theorem Awj:∀(x0:Nat) (a:Addr) (acc:ByteArray),Calm P (Go.loadBytes a acc x0:Sem ByteArray):=by
 intro x0;induction x0 with
 | zero=>
  intros
  unfold Go.loadBytes;repeat' first
   | exact Ae
   | assumption
   | (simp;done)
   | refine Calm.bind ?_ (λ_=>?_)
   | refine Gs _ (λ_ _=>?_) _
   | refine Gq _ (λ_ _=>?_) _
   | refine Gp _ (λ_ _=>?_) _
   | refine Gn _ (λ_=>?_)
   | refine Gm _ (λ_=>?_)
   | dsimp only
   | refine Calm.map ?_
   | split
   | intro _
 | succ n ih=>
  intros
  unfold Go.loadBytes;exact cmE
end
end Go.Co
namespace Go.Co
section
variable {P : Program}
open Go.Op in
@[simp] theorem Awl (op:BinOp) (k:IntKind) (x:Int) (y:Int):Calm P (Go.Op.intDiv op k x y:Sem Value):=by
 unfold Go.Op.intDiv;exact cmA
open Go.Op in
@[simp] theorem Ayu (op:BinOp) (k:IntKind) (x:Int) (_yk:IntKind) (y:Int):Calm P (Go.Op.shift op k x _yk y:Sem Value):=by
 unfold Go.Op.shift;exact cmA
open Go.Op in
@[simp] theorem Awm (op:BinOp) (x:Int) (y:Int):Calm P (Go.Op.intCmp op x y:Sem Value):=by
 unfold Go.Op.intCmp;exact cmA
open Go.Op in
@[simp] theorem Anu (op:BinOp) (k:FloatKind) (x:Nat) (y:Nat):Calm P (Go.Op.floatArith op k x y:Sem Value):=by
 unfold Go.Op.floatArith;exact cmA
open Go.Op in
@[simp] theorem Ar0 (op:BinOp) (k:FloatKind) (x:Nat) (y:Nat):Calm P (Go.Op.floatCmp op k x y:Sem Value):=by
 unfold Go.Op.floatCmp;exact cmA
open Go.Conv in
@[simp] theorem Akc (src:FloatKind) (bits:Nat) (dst:IntKind):Calm P (Go.Conv.floatToInt src bits dst:Sem Value):=by
 unfold Go.Conv.floatToInt;exact cmA
open Go.Conv in
@[simp] theorem Ahj (src:FloatKind) (bits:Nat) (dst:FloatKind):Calm P (Go.Conv.floatToFloat src bits dst:Sem Value):=by
 unfold Go.Conv.floatToFloat;exact cmA
open Go.Conv in
@[simp] theorem Adw (src:FloatKind) (re:Nat) (im:Nat) (dst:FloatKind):Calm P (Go.Conv.complexToComplex src re im dst:Sem Value):=by
 unfold Go.Conv.complexToComplex;exact cmA
open Go.Conv in
@[simp] theorem Ag4 (elem:TypeId) (s:ByteArray):Calm P (Go.Conv.stringToBytes elem s:Sem Value):=by
 unfold Go.Conv.stringToBytes;exact cmA
open Go.Conv in
@[simp] theorem Ag6 (x:Value):Calm P (Go.Conv.bytesToString x:Sem Value):=by
 unfold Go.Conv.bytesToString;exact cmA
open Go.Conv in
@[simp] theorem Ag3 (elem:TypeId) (s:ByteArray):Calm P (Go.Conv.stringToRunes elem s:Sem Value):=by
 unfold Go.Conv.stringToRunes;exact cmA
open Go.Conv in
@[simp] theorem Ag5 (x:Value):Calm P (Go.Conv.runesToString x:Sem Value):=by
 unfold Go.Conv.runesToString;exact cmA
open Go.Conv in
@[simp] theorem Asb (a:Addr):Calm P (Go.Conv.seenAt a:Sem Addr):=by
 unfold Go.Conv.seenAt;exact cmA
open Go.Conv in
@[simp] theorem Ag2 (src:TypeId) (dst:TypeId) (x:Value):Calm P (Go.Conv.unsafePointer src dst x:Sem Value):=by
 unfold Go.Conv.unsafePointer;exact cmA
open Go.Op.Complex in
@[simp] theorem Ajo (op:BinOp) (k:FloatKind) (x:Nat) (y:Nat):Calm P (Go.Op.Complex.arith op k x y:Sem Nat):=by
 unfold Go.Op.Complex.arith;exact cmA
open Go.Op.Complex in
@[simp] theorem Aj8 (src:FloatKind) (x:Nat) (dst:FloatKind):Calm P (Go.Op.Complex.conv src x dst:Sem Nat):=by
 unfold Go.Op.Complex.conv;exact cmA
open Go.Op.Complex in
@[simp] theorem Agv (a:Nat) (b:Nat) (c:Nat) (d:Nat):Calm P (Go.Op.Complex.product a b c d:Sem (Nat × Nat)):=by
 unfold Go.Op.Complex.product;exact cmA
open Go.Op.Complex in
@[simp] theorem Aej (scale:Nat) (a:Nat) (b:Nat) (c:Nat) (d:Nat):Calm P (Go.Op.Complex.corrected scale a b c d:Sem (Nat × Nat)):=by
 unfold Go.Op.Complex.corrected;exact cmA
open Go.Op.Complex in
@[simp] theorem Afj (a:Nat) (b:Nat) (c:Nat) (d:Nat):Calm P (Go.Op.Complex.quotient a b c d:Sem (Nat × Nat)):=by
 unfold Go.Op.Complex.quotient;exact cmA
open Go.Op in
@[simp] theorem Aq8 (op:BinOp) (k:FloatKind) (xr:Nat) (xi:Nat) (yr:Nat) (yi:Nat):Calm P (Go.Op.complexOp op k xr xi yr yi:Sem Value):=by
 unfold Go.Op.complexOp;exact cmA
open Go.Op in
@[simp] theorem Arz (op:BinOp) (x:ByteArray) (y:ByteArray):Calm P (Go.Op.stringOp op x y:Sem Value):=by
 unfold Go.Op.stringOp;exact cmA
open Go.Op in
@[simp] theorem Av0:∀(depth':Nat) (x1:TypeId) (x2:Value) (x3:Value),Calm P (Go.Op.equalIn depth' x1 x2 x3:Sem Bool):=by
 intro depth';induction depth' with
 | zero=>
  intros
  unfold Go.Op.equalIn;repeat' first
   | exact Ae
   | assumption
   | (simp;done)
   | refine Calm.bind ?_ (λ_=>?_)
   | refine Gs _ (λ_ _=>?_) _
   | refine Gq _ (λ_ _=>?_) _
   | refine Gp _ (λ_ _=>?_) _
   | refine Gn _ (λ_=>?_)
   | refine Gm _ (λ_=>?_)
   | dsimp only
   | refine Calm.map ?_
   | split
   | intro _
 | succ n ih=>
  intros
  unfold Go.Op.equalIn;exact cmE
open Go.Op in
@[simp] theorem Ayv (t:TypeId) (x:Value) (y:Value):Calm P (Go.Op.equal t x y:Sem Bool):=by
 unfold Go.Op.equal;exact cmA
open Go.Op in
@[simp] theorem Aq7:∀(depth':Nat) (x1:TypeId) (x2:Value) (x3:Value),Calm P (Go.Op.eqGuardIn depth' x1 x2 x3:Sem Bool):=by
 intro depth';induction depth' with
 | zero=>
  intros
  unfold Go.Op.eqGuardIn;repeat' first
   | exact Ae
   | assumption
   | (simp;done)
   | refine Calm.bind ?_ (λ_=>?_)
   | refine Gs _ (λ_ _=>?_) _
   | refine Gq _ (λ_ _=>?_) _
   | refine Gp _ (λ_ _=>?_) _
   | refine Gn _ (λ_=>?_)
   | refine Gm _ (λ_=>?_)
   | dsimp only
   | refine Calm.map ?_
   | split
   | intro _
 | succ n ih=>
  intros
  unfold Go.Op.eqGuardIn;exact cmE
open Go.Op in
@[simp] theorem Aq6 (a:Addr) (b:Addr):Calm P (Go.Op.twoPlaces a b:Sem (Nat × Nat)):=by
 unfold Go.Op.twoPlaces;exact cmA
open Go.Op in
@[simp] theorem Av1 (k:IntKind) (a:Addr) (b:Addr):Calm P (Go.Op.addrSub k a b:Sem Value):=by
 unfold Go.Op.addrSub;exact cmA
open Go.Op in
@[simp] theorem Av3 (op:BinOp) (a:Addr) (b:Addr):Calm P (Go.Op.addrCmp op a b:Sem Value):=by
 unfold Go.Op.addrCmp;exact cmA
open Go.Op in
@[simp] theorem Av2 (k:IntKind) (a:Addr) (n:Int):Calm P (Go.Op.addrMod k a n:Sem Value):=by
 unfold Go.Op.addrMod;exact cmA
open Go.Op in
@[simp] theorem Ayt (op:UnOp) (x:Value):Calm P (Go.Op.unary op x:Sem Value):=by
 unfold Go.Op.unary;exact cmA
end
end Go.Co
