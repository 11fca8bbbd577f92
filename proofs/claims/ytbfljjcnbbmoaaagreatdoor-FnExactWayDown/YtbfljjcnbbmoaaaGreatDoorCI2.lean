import Derived.Test.YtbfljjcnbbmoaaaGreatDoorCA6
import GoSem.Extern.Table
namespace Go.Co
section
variable {P : Program}
open Go.Extern.Rtype in
@[simp] theorem Aen (h:Value):Calm P (Go.Extern.Rtype.ofHandle h:Sem TypeId):=by
 unfold Go.Extern.Rtype.ofHandle;exact cmB
open Go.Extern.Rtype in
@[simp] theorem Agd (t:TypeId):Calm P (Go.Extern.Rtype.handle t:Sem Value):=by
 unfold Go.Extern.Rtype.handle;exact cmB
open Go.Extern.Rtype in
@[simp] theorem Agc (what:String)(t:TypeId):Calm P (Go.Extern.Rtype.noPack what t:Sem Unit):=by
 unfold Go.Extern.Rtype.noPack;exact cmB
open Go.Extern.Rtype in
@[simp] theorem Aca (what:String)(t:TypeId):Calm P (Go.Extern.Rtype.noPackHeld what t:Sem Unit):=by
 unfold Go.Extern.Rtype.noPackHeld;exact cmB
open Go.Extern.Rtype in
@[simp] theorem Aby (what:String)(t:TypeId):Calm P (Go.Extern.Rtype.noPackNamed what t:Sem Unit):=by
 unfold Go.Extern.Rtype.noPackNamed;exact cmB
open Go.Extern.Rtype in
@[simp] theorem Aa1 (what:String)(t:TypeId):Calm P (Go.Extern.Rtype.noPackMethods what t:Sem Unit):=by
 unfold Go.Extern.Rtype.noPackMethods;exact cmB
open Go.Extern.Rtype in
@[simp] theorem Ahs (t:TypeId):Calm P (Go.Extern.Rtype.spelt t:Sem String):=by
 unfold Go.Extern.Rtype.spelt;exact cmB
open Go.Extern.Rtype in
@[simp] theorem Ahr (t:TypeId):Calm P (Go.Extern.Rtype.under t:Sem (TypeId × TypeInfo)):=by
 unfold Go.Extern.Rtype.under;exact cmB
open Go.Extern.Rtype in
@[simp] theorem Aic (t:TypeId):Calm P (Go.Extern.Rtype.kind t:Sem Nat):=by
 unfold Go.Extern.Rtype.kind;exact cmB
open Go.Extern.Rtype in
@[simp] theorem Afb (t:TypeId):Calm P (Go.Extern.Rtype.hasName t:Sem Bool):=by
 unfold Go.Extern.Rtype.hasName;exact cmB
open Go.Extern.Rtype in
@[simp] theorem Aht (t:TypeId):Calm P (Go.Extern.Rtype.elem? t:Sem (Option TypeId)):=by
 unfold Go.Extern.Rtype.elem?;exact cmB
open Go.Extern.Rtype in
@[simp] theorem Acb (T:TypeId)(V:TypeId):Calm P (Go.Extern.Rtype.implements T V:Sem Bool):=by
 unfold Go.Extern.Rtype.implements;exact cmB
open Go.Extern.Rtype in
@[simp] theorem Ye (T:TypeId)(V:TypeId):Calm P (Go.Extern.Rtype.directlyAssignable T V:Sem Bool):=by
 unfold Go.Extern.Rtype.directlyAssignable;exact cmB
open Go.Extern.ReflectliteType in
@[simp] theorem Zc (t:TypeId):Calm P (Go.Extern.ReflectliteType.toType t:Sem Value):=by
 unfold Go.Extern.ReflectliteType.toType;exact cmB
open Go.Extern.ReflectliteType in
@[simp] theorem Yx (x0:Value):Calm P (Go.Extern.ReflectliteType.ofRtype x0):=by
 unfold Go.Extern.ReflectliteType.ofRtype;cases x0
 case agg xs=>
  (rcases xs with⟨_ | ⟨z0,_ | ⟨z1,_⟩⟩⟩)
  all_goals
  repeat' first
   | exact Ae
   | exact Or.inl rfl
   | assumption
   | (simp;done)
   | refine Calm.bind ?_ (λ_=>?_)
   | dsimp only
   | refine Calm.map ?_
   | split
   | intro _
 all_goals
  exact cmC
open Go.Extern.ReflectliteType in
@[simp] theorem Zb (x0:Array Value):Calm P (Go.Extern.ReflectliteType.typeOf x0):=by
 unfold Go.Extern.ReflectliteType.typeOf;rcases x0 with⟨_ | ⟨y0,_ | ⟨y1,_ | ⟨y2,l⟩⟩⟩⟩
 case cons.nil=>cases y0<;>(repeat' first
   | exact Ae
   | exact Or.inl rfl
   | assumption
   | (simp;done)
   | refine Calm.bind ?_ (λ_=>?_)
   | dsimp only
   | refine Calm.map ?_
   | split
   | intro _)
 all_goals
  exact cmC
open Go.Extern.ReflectliteType in
theorem Nb {f:TypeId->Sem Value}(h1:∀t,Calm P (f t))(x0:Array Value):Calm P (Go.Extern.ReflectliteType.method f x0):=by
 unfold Go.Extern.ReflectliteType.method;rcases x0 with⟨_ | ⟨y0,_ | ⟨y1,_ | ⟨y2,l⟩⟩⟩⟩
 all_goals
  repeat' first
   | exact Ae
   | exact Or.inl rfl
   | assumption
   | (simp;done)
   | exact h1 _
   | refine Calm.bind ?_ (λ_=>?_)
   | dsimp only
   | refine Calm.map ?_
   | split
   | intro _
@[simp] theorem Aak (t:TypeId):Calm P (Go.Extern.ReflectliteType.elem t):=by
 unfold Go.Extern.ReflectliteType.elem;exact cmG
open Go.Extern.ReflectliteType in
@[simp] theorem Aaj (t:TypeId):Calm P (Go.Extern.ReflectliteType.name t:Sem Value):=by
 unfold Go.Extern.ReflectliteType.name;exact cmB
open Go.Extern.ReflectliteType in
@[simp] theorem Yw (t:TypeId):Calm P (Go.Extern.ReflectliteType.pkgPath t:Sem Value):=by
 unfold Go.Extern.ReflectliteType.pkgPath;exact cmB
open Go.Extern.ReflectliteType in
theorem Le (what:String){f:TypeId->TypeId->Sem Bool}(h2:∀t u,Calm P (f t u))(x0:Array Value):Calm P (Go.Extern.ReflectliteType.relation what f x0):=by
 unfold Go.Extern.ReflectliteType.relation;rcases x0 with⟨_ | ⟨y0,_ | ⟨y1,_ | ⟨y2,l⟩⟩⟩⟩
 case cons.cons.nil=>cases y1<;>(repeat' first
   | exact Ae
   | exact Or.inl rfl
   | assumption
   | (simp;done)
   | exact h2 _ _
   | refine Calm.bind ?_ (λ_=>?_)
   | dsimp only
   | refine Calm.map ?_
   | split
   | intro _)
 all_goals
  exact cmC
open Go.Extern.ReflectliteType in
@[simp] theorem Xr (u:TypeId)(t:TypeId):Calm P (Go.Extern.ReflectliteType.implements_ u t:Sem Bool):=by
 unfold Go.Extern.ReflectliteType.implements_;exact cmB
open Go.Extern.ReflectliteType in
@[simp] theorem Vw (u:TypeId)(t:TypeId):Calm P (Go.Extern.ReflectliteType.assignableTo u t:Sem Bool):=by
 unfold Go.Extern.ReflectliteType.assignableTo;exact cmB
open Go.Extern.ReflectliteType in
theorem Kv {f:TypeId->Sem Value}(h1:∀t,Calm P (f t))(x0:Array Value):Calm P (Go.Extern.ReflectliteType.abiMethod f x0):=by
 unfold Go.Extern.ReflectliteType.abiMethod;rcases x0 with⟨_ | ⟨y0,_ | ⟨y1,_ | ⟨y2,l⟩⟩⟩⟩
 all_goals
  repeat' first
   | exact Ae
   | exact Or.inl rfl
   | assumption
   | (simp;done)
   | exact h1 _
   | refine Calm.bind ?_ (λ_=>?_)
   | dsimp only
   | refine Calm.map ?_
   | split
   | intro _
open Go.Extern.ReflectliteValue in
@[simp] theorem Aa2 (t:TypeId)(a:Addr)(flags:Nat):Calm P (Go.Extern.ReflectliteValue.mk t a flags:Sem Value):=by
 unfold Go.Extern.ReflectliteValue.mk;exact cmB
open Go.Extern.ReflectliteValue in
@[simp] theorem Yv (x0:Value):Calm P (Go.Extern.ReflectliteValue.unpack x0:Sem Value):=by
 unfold Go.Extern.ReflectliteValue.unpack;exact cmB
open Go.Extern.ReflectliteValue in
@[simp] theorem Ws {α:Type}(method:String)(k:Nat):Calm P (Go.Extern.ReflectliteValue.valueError method k:Sem α):=by
 unfold Go.Extern.ReflectliteValue.valueError;exact cmB
open Go.Extern.ReflectliteValue in
@[simp] theorem Xx (x0:Value):Calm P (Go.Extern.ReflectliteValue.partsAny x0):=by
 unfold Go.Extern.ReflectliteValue.partsAny;cases x0
 case agg xs=>
  rcases xs with⟨_ | ⟨z0,_ | ⟨z1,_ | ⟨z2,_ | ⟨z3,l⟩⟩⟩⟩⟩
  case cons.cons.cons.nil=>
   cases z2<;>first | exact Or.inl rfl | skip
   rename_i kk nn;cases kk<;>first | exact Or.inl rfl | skip
   rcases nn with(_ | nn) | nn
   ·exact Ae
   all_goals
    cases z1<;>first | exact Or.inl rfl | skip
    rename_i oo;cases oo<;>first | exact Or.inl rfl | (exact Calm.bind spz λ_=>Ae)
  all_goals
  repeat' first
   | exact Ae
   | exact Or.inl rfl
   | assumption
   | (simp;done)
   | refine Calm.bind ?_ (λ_=>?_)
   | dsimp only
   | refine Calm.map ?_
   | split
   | intro _
 all_goals
  exact cmC
open Go.Extern.ReflectliteValue in
@[simp] theorem Y9 (x:Value):Calm P (Go.Extern.ReflectliteValue.parts x:Sem (Option (TypeId × Addr × Nat))):=by
 unfold Go.Extern.ReflectliteValue.parts;exact cmB
open Go.Extern.ReflectliteValue in
theorem Lp {zero:Sem Value}{f:TypeId->Addr->Nat->Nat->Sem Value}(h0:Calm P zero)(h2:∀t a x y,Calm P (f t a x y))(x0:Array Value):Calm P (Go.Extern.ReflectliteValue.method zero f x0):=by
 unfold Go.Extern.ReflectliteValue.method;rcases x0 with⟨_ | ⟨y0,_ | ⟨y1,_ | ⟨y2,l⟩⟩⟩⟩
 all_goals
  repeat' first
   | exact Ae
   | exact Or.inl rfl
   | assumption
   | (simp;done)
   | exact h2 _ _ _ _
   | refine Calm.bind ?_ (λ_=>?_)
   | dsimp only
   | refine Calm.map ?_
   | split
   | intro _
open Go.Extern.ReflectliteValue in
theorem Kr {zero:Sem Value}{f:TypeId->Addr->Nat->Nat->Sem Value}(h0:Calm P zero)(h2:∀t a x y,Calm P (f t a x y))(x0:Array Value):Calm P (Go.Extern.ReflectliteValue.methodAny zero f x0):=by
 unfold Go.Extern.ReflectliteValue.methodAny;rcases x0 with⟨_ | ⟨y0,_ | ⟨y1,_ | ⟨y2,l⟩⟩⟩⟩
 all_goals
  repeat' first
   | exact Ae
   | exact Or.inl rfl
   | assumption
   | (simp;done)
   | exact h2 _ _ _ _
   | refine Calm.bind ?_ (λ_=>?_)
   | dsimp only
   | refine Calm.map ?_
   | split
   | intro _
open Go.Extern.ReflectliteValue in
@[simp] theorem Za (t:TypeId)(a:Addr)(x k:Nat):Calm P (Go.Extern.ReflectliteValue.isNil t a x k):=by
 unfold Go.Extern.ReflectliteValue.isNil;exact cmG
open Go.Extern.ReflectliteValue in
@[simp] theorem Aai (t:TypeId)(a:Addr)(x k:Nat):Calm P (Go.Extern.ReflectliteValue.len t a x k):=by
 unfold Go.Extern.ReflectliteValue.len;exact cmG
@[simp] theorem Z8 (t:TypeId)(a:Addr)(x k:Nat):Calm P (Go.Extern.ReflectliteValue.elem t a x k):=by
 unfold Go.Extern.ReflectliteValue.elem;exact cmG
open Go.Extern.ReflectliteValue in
@[simp] theorem Aah (x0:Array Value):Calm P (Go.Extern.ReflectliteValue.set x0):=by
 unfold Go.Extern.ReflectliteValue.set;rcases x0 with⟨_ | ⟨y0,_ | ⟨y1,_ | ⟨y2,l⟩⟩⟩⟩
 all_goals
  exact cmC
open Go.Extern.ReflectliteValue in
@[simp] theorem Xq (x0:Array Value):Calm P (Go.Extern.ReflectliteValue.errorText x0):=by
 unfold Go.Extern.ReflectliteValue.errorText;rcases x0 with⟨_ | ⟨y0,_ | ⟨y1,_ | ⟨y2,l⟩⟩⟩⟩
 case cons.nil=>
  cases y0
  case pointer o=>cases o<;>(repeat' first
   | exact Ae
   | exact Or.inl rfl
   | assumption
   | (simp;done)
   | refine Calm.bind ?_ (λ_=>?_)
   | dsimp only
   | refine Calm.map ?_
   | split
   | intro _)
  all_goals
  repeat' first
   | exact Ae
   | exact Or.inl rfl
   | assumption
   | (simp;done)
   | refine Calm.bind ?_ (λ_=>?_)
   | dsimp only
   | refine Calm.map ?_
   | split
   | intro _
 all_goals
  exact cmC
open Go.Extern.AbiNoEscape in
@[simp] theorem Acd (x0:Array Value):Calm P (Go.Extern.AbiNoEscape.same x0):=by
 unfold Go.Extern.AbiNoEscape.same;rcases x0 with⟨_ | ⟨y0,_ | ⟨y1,_ | ⟨y2,l⟩⟩⟩⟩
 all_goals
  exact cmC
open Go.Extern.BytealgMakeNoZero in
@[simp] theorem Vx (ps rs:Array TypeId)(x0:Array Value):Calm P (Go.Extern.BytealgMakeNoZero.makeNoZero ps rs x0):=by
 unfold Go.Extern.BytealgMakeNoZero.makeNoZero;rcases x0 with⟨_ | ⟨y0,_ | ⟨y1,_ | ⟨y2,l⟩⟩⟩⟩
 case cons.nil=>
  cases y0
  case int k n=>cases k<;>(repeat' first
   | exact Ae
   | exact Or.inl rfl
   | assumption
   | (simp;done)
   | refine Calm.bind ?_ (λ_=>?_)
   | dsimp only
   | refine Calm.map ?_
   | split
   | intro _)
  all_goals
  repeat' first
   | exact Ae
   | exact Or.inl rfl
   | assumption
   | (simp;done)
   | refine Calm.bind ?_ (λ_=>?_)
   | dsimp only
   | refine Calm.map ?_
   | split
   | intro _
 all_goals
  exact cmC
open Go.Extern.RuntimeError in
@[simp] theorem Abx (s:String):Calm P (Go.Extern.RuntimeError.text s:Sem Value):=by
 unfold Go.Extern.RuntimeError.text;exact cmB
open Go.Extern.RuntimeError in
@[simp] theorem Yd (x0:Array Value):Calm P (Go.Extern.RuntimeError.boundsError x0):=by
 unfold Go.Extern.RuntimeError.boundsError;rcases x0 with⟨_ | ⟨y0,_ | ⟨y1,_ | ⟨y2,l⟩⟩⟩⟩
 case cons.nil=>
  cases y0
  case agg xs=>
   rcases xs with⟨_ | ⟨z0,_ | ⟨z1,_ | ⟨z2,_ | ⟨z3,_ | ⟨z4,l⟩⟩⟩⟩⟩⟩
   case cons.cons.cons.cons.nil=>
    cases z0<;>first | exact Or.inl rfl | skip
    cases z1<;>first | exact Or.inl rfl | skip
    cases z2<;>first | exact Or.inl rfl | skip
    cases z3<;>first | exact Or.inl rfl | skip
    rename_i k0 x k1 y sg k2 code;have key:∀(o:Option String) (g:String->String),Calm P (match o with | some fmt=>Go.Extern.RuntimeError.text (g fmt) | none=>stuck "boundsError: no such code"):=λo g=>by cases o<;>first | exact Or.inl rfl | exact Ae
    exact key ((if(sg && decide (x<0))=true then Go.Extern.RuntimeError.boundsNegErrorFmts else Go.Extern.RuntimeError.boundsErrorFmts)[code.toNat]?) (λfmt=> "runtime error: " ++(fmt.replace "%x" (toString (if sg=true then x else IntKind.u64.wrap x))).replace "%y" (toString y))
   all_goals
   repeat' first
   | exact Ae
   | exact Or.inl rfl
   | assumption
   | (simp;done)
   | refine Calm.bind ?_ (λ_=>?_)
   | dsimp only
   | refine Calm.map ?_
   | split
   | intro _
  all_goals
  repeat' first
   | exact Ae
   | exact Or.inl rfl
   | assumption
   | (simp;done)
   | refine Calm.bind ?_ (λ_=>?_)
   | dsimp only
   | refine Calm.map ?_
   | split
   | intro _
 all_goals
  exact cmC
open Go.Extern.RuntimeError in
@[simp] theorem Y8 (v:Value):Calm P (Go.Extern.RuntimeError.described v:Sem (Option TypeInfo)):=by
 unfold Go.Extern.RuntimeError.described;exact cmB
open Go.Extern.RuntimeError in
@[simp] theorem Y7 (i:TypeInfo):Calm P (Go.Extern.RuntimeError.pkgpathOf i:Sem (Option String)):=by
 unfold Go.Extern.RuntimeError.pkgpathOf;exact cmB
open Go.Extern.RuntimeError in
@[simp] theorem U4 (args:Array Value):Calm P (Go.Extern.RuntimeError.typeAssertionError args:Sem Value):=by
 unfold Go.Extern.RuntimeError.typeAssertionError;exact cmB
open Go.Extern.RuntimeError in
@[simp] theorem Ul (x0:Array Value):Calm P (Go.Extern.RuntimeError.unhashableTypeError x0):=by
 unfold Go.Extern.RuntimeError.unhashableTypeError;rcases x0 with⟨_ | ⟨y0,_ | ⟨y1,_ | ⟨y2,l⟩⟩⟩⟩
 case cons.nil=>
  cases y0
  case agg xs=>
   (rcases xs with⟨_ | ⟨z0,_ | ⟨z1,_⟩⟩⟩)
   all_goals
   repeat' first
   | exact Ae
   | exact Or.inl rfl
   | assumption
   | (simp;done)
   | refine Calm.bind ?_ (λ_=>?_)
   | dsimp only
   | refine Calm.map ?_
   | split
   | intro _
  all_goals
  repeat' first
   | exact Ae
   | exact Or.inl rfl
   | assumption
   | (simp;done)
   | refine Calm.bind ?_ (λ_=>?_)
   | dsimp only
   | refine Calm.map ?_
   | split
   | intro _
 all_goals
  exact cmC
open Go.Extern.RuntimeError in
@[simp] theorem Aag (x0:Array Value):Calm P (Go.Extern.RuntimeError.nothing x0):=by
 exact Ae
end
end Go.Co
