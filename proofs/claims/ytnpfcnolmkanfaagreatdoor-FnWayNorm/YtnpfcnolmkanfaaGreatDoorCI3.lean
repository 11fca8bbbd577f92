import Derived.Test.YtnpfcnolmkanfaaGreatDoorCA6
import GoSem.Extern.Table
import Derived.Test.YtnpfcnolmkanfaaGreatDoorChecked
import Derived.Test.YtnpfcnolmkanfaaGreatDoorGM
import Derived.WalkKit
import Derived.WalkSpells
import Derived.WalkLawsBesides
import Derived.Deep.QuietTactic
import Derived.BigQuiet
import Derived.Lib.QuietBelow
import Derived.Deep.Light
import Derived.Lib.ItoaNum
import Derived.Laws.BytesArg
import Derived.Deep.RegionHeld3
import Derived.KernelRfl
namespace Go.Co
section
variable {P : Program}
open Go.Extern.Rtype in
@[simp] theorem Afm (h:Value):Calm P (Go.Extern.Rtype.ofHandle h:Sem TypeId):=by
 unfold Go.Extern.Rtype.ofHandle;exact cmB
open Go.Extern.Rtype in
@[simp] theorem Ahi (t:TypeId):Calm P (Go.Extern.Rtype.handle t:Sem Value):=by
 unfold Go.Extern.Rtype.handle;exact cmB
open Go.Extern.Rtype in
@[simp] theorem Ahh (what:String)(t:TypeId):Calm P (Go.Extern.Rtype.noPack what t:Sem Unit):=by
 unfold Go.Extern.Rtype.noPack;exact cmB
open Go.Extern.Rtype in
@[simp] theorem Ac6 (what:String)(t:TypeId):Calm P (Go.Extern.Rtype.noPackHeld what t:Sem Unit):=by
 unfold Go.Extern.Rtype.noPackHeld;exact cmB
open Go.Extern.Rtype in
@[simp] theorem Acy (what:String)(t:TypeId):Calm P (Go.Extern.Rtype.noPackNamed what t:Sem Unit):=by
 unfold Go.Extern.Rtype.noPackNamed;exact cmB
open Go.Extern.Rtype in
@[simp] theorem Ab2 (what:String)(t:TypeId):Calm P (Go.Extern.Rtype.noPackMethods what t:Sem Unit):=by
 unfold Go.Extern.Rtype.noPackMethods;exact cmB
open Go.Extern.Rtype in
@[simp] theorem Ai9 (t:TypeId):Calm P (Go.Extern.Rtype.spelt t:Sem String):=by
 unfold Go.Extern.Rtype.spelt;exact cmB
open Go.Extern.Rtype in
@[simp] theorem Ai8 (t:TypeId):Calm P (Go.Extern.Rtype.under t:Sem (TypeId × TypeInfo)):=by
 unfold Go.Extern.Rtype.under;exact cmB
open Go.Extern.Rtype in
@[simp] theorem Aju (t:TypeId):Calm P (Go.Extern.Rtype.kind t:Sem Nat):=by
 unfold Go.Extern.Rtype.kind;exact cmB
open Go.Extern.Rtype in
@[simp] theorem Agb (t:TypeId):Calm P (Go.Extern.Rtype.hasName t:Sem Bool):=by
 unfold Go.Extern.Rtype.hasName;exact cmB
open Go.Extern.Rtype in
@[simp] theorem Aja (t:TypeId):Calm P (Go.Extern.Rtype.elem? t:Sem (Option TypeId)):=by
 unfold Go.Extern.Rtype.elem?;exact cmB
open Go.Extern.Rtype in
@[simp] theorem Ac7 (T:TypeId)(V:TypeId):Calm P (Go.Extern.Rtype.implements T V:Sem Bool):=by
 unfold Go.Extern.Rtype.implements;exact cmB
open Go.Extern.Rtype in
@[simp] theorem Y5 (T:TypeId)(V:TypeId):Calm P (Go.Extern.Rtype.directlyAssignable T V:Sem Bool):=by
 unfold Go.Extern.Rtype.directlyAssignable;exact cmB
open Go.Extern.ReflectliteType in
@[simp] theorem Z8 (t:TypeId):Calm P (Go.Extern.ReflectliteType.toType t:Sem Value):=by
 unfold Go.Extern.ReflectliteType.toType;exact cmB
open Go.Extern.ReflectliteType in
@[simp] theorem Zk (a:Value):Calm P (Go.Extern.ReflectliteType.ofRtype a):=by
 unfold Go.Extern.ReflectliteType.ofRtype;cases a
 case agg b=>
  (rcases b with⟨_ | ⟨d,_ | ⟨c,_⟩⟩⟩)
  all_goals
  repeat' first
   | exact Af
   | exact Or.inl rfl
   | assumption
   | (simp;done)
   | refine Calm.bind ?_ (λ_=>?_)
   | dsimp only
   | refine Calm.map ?_
   | split
   | intro _
 all_goals
  exact cmC
open Go.Extern.ReflectliteType in
@[simp] theorem Z7 (a:Array Value):Calm P (Go.Extern.ReflectliteType.typeOf a):=by
 unfold Go.Extern.ReflectliteType.typeOf;rcases a with⟨_ | ⟨b,_ | ⟨d,_ | ⟨c,l⟩⟩⟩⟩
 case cons.nil=>cases b<;>(repeat' first
   | exact Af
   | exact Or.inl rfl
   | assumption
   | (simp;done)
   | refine Calm.bind ?_ (λ_=>?_)
   | dsimp only
   | refine Calm.map ?_
   | split
   | intro _)
 all_goals
  exact cmC
open Go.Extern.ReflectliteType in
theorem N9 {f:TypeId->Sem Value}(h1:∀t,Calm P (f t))(a:Array Value):Calm P (Go.Extern.ReflectliteType.method f a):=by
 unfold Go.Extern.ReflectliteType.method;rcases a with⟨_ | ⟨b,_ | ⟨d,_ | ⟨c,l⟩⟩⟩⟩
 all_goals
  repeat' first
   | exact Af
   | exact Or.inl rfl
   | assumption
   | (simp;done)
   | exact h1 _
   | refine Calm.bind ?_ (λ_=>?_)
   | dsimp only
   | refine Calm.map ?_
   | split
   | intro _
@[simp] theorem Abe (t:TypeId):Calm P (Go.Extern.ReflectliteType.elem t):=by
 unfold Go.Extern.ReflectliteType.elem;exact cmG
open Go.Extern.ReflectliteType in
@[simp] theorem Abd (t:TypeId):Calm P (Go.Extern.ReflectliteType.name t:Sem Value):=by
 unfold Go.Extern.ReflectliteType.name;exact cmB
open Go.Extern.ReflectliteType in
@[simp] theorem Zj (t:TypeId):Calm P (Go.Extern.ReflectliteType.pkgPath t:Sem Value):=by
 unfold Go.Extern.ReflectliteType.pkgPath;exact cmB
open Go.Extern.ReflectliteType in
theorem Nc (what:String){f:TypeId->TypeId->Sem Bool}(c:∀t u,Calm P (f t u))(a:Array Value):Calm P (Go.Extern.ReflectliteType.relation what f a):=by
 unfold Go.Extern.ReflectliteType.relation;rcases a with⟨_ | ⟨d,_ | ⟨b,_ | ⟨e,l⟩⟩⟩⟩
 case cons.cons.nil=>cases b<;>(repeat' first
   | exact Af
   | exact Or.inl rfl
   | assumption
   | (simp;done)
   | exact c _ _
   | refine Calm.bind ?_ (λ_=>?_)
   | dsimp only
   | refine Calm.map ?_
   | split
   | intro _)
 all_goals
  exact cmC
open Go.Extern.ReflectliteType in
@[simp] theorem Yh (u:TypeId)(t:TypeId):Calm P (Go.Extern.ReflectliteType.implements_ u t:Sem Bool):=by
 unfold Go.Extern.ReflectliteType.implements_;exact cmB
open Go.Extern.ReflectliteType in
@[simp] theorem Wp (u:TypeId)(t:TypeId):Calm P (Go.Extern.ReflectliteType.assignableTo u t:Sem Bool):=by
 unfold Go.Extern.ReflectliteType.assignableTo;exact cmB
open Go.Extern.ReflectliteType in
theorem Lu {f:TypeId->Sem Value}(h1:∀t,Calm P (f t))(a:Array Value):Calm P (Go.Extern.ReflectliteType.abiMethod f a):=by
 unfold Go.Extern.ReflectliteType.abiMethod;rcases a with⟨_ | ⟨b,_ | ⟨d,_ | ⟨c,l⟩⟩⟩⟩
 all_goals
  repeat' first
   | exact Af
   | exact Or.inl rfl
   | assumption
   | (simp;done)
   | exact h1 _
   | refine Calm.bind ?_ (λ_=>?_)
   | dsimp only
   | refine Calm.map ?_
   | split
   | intro _
open Go.Extern.ReflectliteValue in
@[simp] theorem Ab3 (t:TypeId)(a:Addr)(flags:Nat):Calm P (Go.Extern.ReflectliteValue.mk t a flags:Sem Value):=by
 unfold Go.Extern.ReflectliteValue.mk;exact cmB
open Go.Extern.ReflectliteValue in
@[simp] theorem Zi (a:Value):Calm P (Go.Extern.ReflectliteValue.unpack a:Sem Value):=by
 unfold Go.Extern.ReflectliteValue.unpack;exact cmB
open Go.Extern.ReflectliteValue in
@[simp] theorem Xm {α:Type}(method:String)(k:Nat):Calm P (Go.Extern.ReflectliteValue.valueError method k:Sem α):=by
 unfold Go.Extern.ReflectliteValue.valueError;exact cmB
open Go.Extern.ReflectliteValue in
@[simp] theorem Ym (b:Value):Calm P (Go.Extern.ReflectliteValue.partsAny b):=by
 unfold Go.Extern.ReflectliteValue.partsAny;cases b
 case agg e=>
  rcases e with⟨_ | ⟨j,_ | ⟨c,_ | ⟨f,_ | ⟨i,l⟩⟩⟩⟩⟩
  case cons.cons.cons.nil=>
   cases f<;>first | exact Or.inl rfl | skip
   rename_i d a;cases d<;>first | exact Or.inl rfl | skip
   rcases a with(_ | a) | a
   ·exact Af
   all_goals
    cases c<;>first | exact Or.inl rfl | skip
    rename_i g;cases g<;>first | exact Or.inl rfl | (exact Calm.bind spz λ_=>Af)
  all_goals
  repeat' first
   | exact Af
   | exact Or.inl rfl
   | assumption
   | (simp;done)
   | refine Calm.bind ?_ (λ_=>?_)
   | dsimp only
   | refine Calm.map ?_
   | split
   | intro _
 all_goals
  exact cmC
open Go.Extern.ReflectliteValue in
@[simp] theorem Z4 (x:Value):Calm P (Go.Extern.ReflectliteValue.parts x:Sem (Option (TypeId × Addr × Nat))):=by
 unfold Go.Extern.ReflectliteValue.parts;exact cmB
open Go.Extern.ReflectliteValue in
theorem Np {zero:Sem Value}{f:TypeId->Addr->Nat->Nat->Sem Value}(d:Calm P zero)(c:∀t a x y,Calm P (f t a x y))(b:Array Value):Calm P (Go.Extern.ReflectliteValue.method zero f b):=by
 unfold Go.Extern.ReflectliteValue.method;rcases b with⟨_ | ⟨e,_ | ⟨h,_ | ⟨g,l⟩⟩⟩⟩
 all_goals
  repeat' first
   | exact Af
   | exact Or.inl rfl
   | assumption
   | (simp;done)
   | exact c _ _ _ _
   | refine Calm.bind ?_ (λ_=>?_)
   | dsimp only
   | refine Calm.map ?_
   | split
   | intro _
open Go.Extern.ReflectliteValue in
theorem Lr {zero:Sem Value}{f:TypeId->Addr->Nat->Nat->Sem Value}(d:Calm P zero)(c:∀t a x y,Calm P (f t a x y))(b:Array Value):Calm P (Go.Extern.ReflectliteValue.methodAny zero f b):=by
 unfold Go.Extern.ReflectliteValue.methodAny;rcases b with⟨_ | ⟨e,_ | ⟨h,_ | ⟨g,l⟩⟩⟩⟩
 all_goals
  repeat' first
   | exact Af
   | exact Or.inl rfl
   | assumption
   | (simp;done)
   | exact c _ _ _ _
   | refine Calm.bind ?_ (λ_=>?_)
   | dsimp only
   | refine Calm.map ?_
   | split
   | intro _
open Go.Extern.ReflectliteValue in
@[simp] theorem Z5 (t:TypeId)(a:Addr)(x k:Nat):Calm P (Go.Extern.ReflectliteValue.isNil t a x k):=by
 unfold Go.Extern.ReflectliteValue.isNil;exact cmG
open Go.Extern.ReflectliteValue in
@[simp] theorem Abc (t:TypeId)(a:Addr)(x k:Nat):Calm P (Go.Extern.ReflectliteValue.len t a x k):=by
 unfold Go.Extern.ReflectliteValue.len;exact cmG
@[simp] theorem Aa3 (t:TypeId)(a:Addr)(x k:Nat):Calm P (Go.Extern.ReflectliteValue.elem t a x k):=by
 unfold Go.Extern.ReflectliteValue.elem;exact cmG
open Go.Extern.ReflectliteValue in
@[simp] theorem Abb (a:Array Value):Calm P (Go.Extern.ReflectliteValue.set a):=by
 unfold Go.Extern.ReflectliteValue.set;rcases a with⟨_ | ⟨b,_ | ⟨d,_ | ⟨c,l⟩⟩⟩⟩
 all_goals
  exact cmC
open Go.Extern.ReflectliteValue in
@[simp] theorem Yg (a:Array Value):Calm P (Go.Extern.ReflectliteValue.errorText a):=by
 unfold Go.Extern.ReflectliteValue.errorText;rcases a with⟨_ | ⟨b,_ | ⟨d,_ | ⟨c,l⟩⟩⟩⟩
 case cons.nil=>
  cases b
  case pointer o=>cases o<;>(repeat' first
   | exact Af
   | exact Or.inl rfl
   | assumption
   | (simp;done)
   | refine Calm.bind ?_ (λ_=>?_)
   | dsimp only
   | refine Calm.map ?_
   | split
   | intro _)
  all_goals
  repeat' first
   | exact Af
   | exact Or.inl rfl
   | assumption
   | (simp;done)
   | refine Calm.bind ?_ (λ_=>?_)
   | dsimp only
   | refine Calm.map ?_
   | split
   | intro _
 all_goals
  exact cmC
open Go.Extern.AbiNoEscape in
@[simp] theorem Ac8 (a:Array Value):Calm P (Go.Extern.AbiNoEscape.same a):=by
 unfold Go.Extern.AbiNoEscape.same;rcases a with⟨_ | ⟨b,_ | ⟨d,_ | ⟨c,l⟩⟩⟩⟩
 all_goals
  exact cmC
open Go.Extern.BytealgMakeNoZero in
@[simp] theorem Wq (b rs:Array TypeId)(a:Array Value):Calm P (Go.Extern.BytealgMakeNoZero.makeNoZero b rs a):=by
 unfold Go.Extern.BytealgMakeNoZero.makeNoZero;rcases a with⟨_ | ⟨c,_ | ⟨e,_ | ⟨d,l⟩⟩⟩⟩
 case cons.nil=>
  cases c
  case int k n=>cases k<;>(repeat' first
   | exact Af
   | exact Or.inl rfl
   | assumption
   | (simp;done)
   | refine Calm.bind ?_ (λ_=>?_)
   | dsimp only
   | refine Calm.map ?_
   | split
   | intro _)
  all_goals
  repeat' first
   | exact Af
   | exact Or.inl rfl
   | assumption
   | (simp;done)
   | refine Calm.bind ?_ (λ_=>?_)
   | dsimp only
   | refine Calm.map ?_
   | split
   | intro _
 all_goals
  exact cmC
open Go.Extern.RuntimeError in
@[simp] theorem Acx (s:String):Calm P (Go.Extern.RuntimeError.text s:Sem Value):=by
 unfold Go.Extern.RuntimeError.text;exact cmB
open Go.Extern.RuntimeError in
@[simp] theorem Y4 (c:Array Value):Calm P (Go.Extern.RuntimeError.boundsError c):=by
 unfold Go.Extern.RuntimeError.boundsError;rcases c with⟨_ | ⟨e,_ | ⟨q,_ | ⟨r,l⟩⟩⟩⟩
 case cons.nil=>
  cases e
  case agg i=>
   rcases i with⟨_ | ⟨k,_ | ⟨f,_ | ⟨j,_ | ⟨d,_ | ⟨p,l⟩⟩⟩⟩⟩⟩
   case cons.cons.cons.cons.nil=>
    cases k<;>first | exact Or.inl rfl | skip
    cases f<;>first | exact Or.inl rfl | skip
    cases j<;>first | exact Or.inl rfl | skip
    cases d<;>first | exact Or.inl rfl | skip
    rename_i n x m y b s code;have key:∀(o:Option String) (g:String->String),Calm P (match o with | some a=>Go.Extern.RuntimeError.text (g a) | none=>stuck "boundsError: no such code"):=λo g=>by cases o<;>first | exact Or.inl rfl | exact Af
    exact key ((if(b && decide (x<0))=true then Go.Extern.RuntimeError.boundsNegErrorFmts else Go.Extern.RuntimeError.boundsErrorFmts)[code.toNat]?) (λa=> "runtime error: " ++(a.replace "%x" (toString (if b=true then x else IntKind.u64.wrap x))).replace "%y" (toString y))
   all_goals
   repeat' first
   | exact Af
   | exact Or.inl rfl
   | assumption
   | (simp;done)
   | refine Calm.bind ?_ (λ_=>?_)
   | dsimp only
   | refine Calm.map ?_
   | split
   | intro _
  all_goals
  repeat' first
   | exact Af
   | exact Or.inl rfl
   | assumption
   | (simp;done)
   | refine Calm.bind ?_ (λ_=>?_)
   | dsimp only
   | refine Calm.map ?_
   | split
   | intro _
 all_goals
  exact cmC
open Go.Extern.RuntimeError in
@[simp] theorem Zz (v:Value):Calm P (Go.Extern.RuntimeError.described v:Sem (Option TypeInfo)):=by
 unfold Go.Extern.RuntimeError.described;exact cmB
open Go.Extern.RuntimeError in
@[simp] theorem Zy (i:TypeInfo):Calm P (Go.Extern.RuntimeError.pkgpathOf i:Sem (Option String)):=by
 unfold Go.Extern.RuntimeError.pkgpathOf;exact cmB
open Go.Extern.RuntimeError in
@[simp] theorem Vl (args:Array Value):Calm P (Go.Extern.RuntimeError.typeAssertionError args:Sem Value):=by
 unfold Go.Extern.RuntimeError.typeAssertionError;exact cmB
open Go.Extern.RuntimeError in
@[simp] theorem U0 (a:Array Value):Calm P (Go.Extern.RuntimeError.unhashableTypeError a):=by
 unfold Go.Extern.RuntimeError.unhashableTypeError;rcases a with⟨_ | ⟨b,_ | ⟨f,_ | ⟨e,l⟩⟩⟩⟩
 case cons.nil=>
  cases b
  case agg c=>
   (rcases c with⟨_ | ⟨g,_ | ⟨d,_⟩⟩⟩)
   all_goals
   repeat' first
   | exact Af
   | exact Or.inl rfl
   | assumption
   | (simp;done)
   | refine Calm.bind ?_ (λ_=>?_)
   | dsimp only
   | refine Calm.map ?_
   | split
   | intro _
  all_goals
  repeat' first
   | exact Af
   | exact Or.inl rfl
   | assumption
   | (simp;done)
   | refine Calm.bind ?_ (λ_=>?_)
   | dsimp only
   | refine Calm.map ?_
   | split
   | intro _
 all_goals
  exact cmC
open Go.Extern.RuntimeError in
@[simp] theorem Aba (a:Array Value):Calm P (Go.Extern.RuntimeError.nothing a):=by
 exact Af
end
end Go.Co
set_option maxHeartbeats 4000000
set_option maxRecDepth 100000
namespace Go.Proofs.YtnpfcnolmkanfaaGreatDoor
open Tryz
open Stil
open Go.RowKit Go.Sort Go.BigFrame
theorem Gz {k:IntKind}{a b:Int}(h:a=b):Ending.returned (.int k a)=.returned (.int k b):=by rw[h]
theorem Ap {a b:Bool}(h:a=b):Ending.returned (.bool a)=.returned (.bool b):=by rw[h]
theorem D7 {W w1:World}(a:Below W.heap.size W w1):(∀b o,b<W.heap.size->w1.cell? ⟨b,o,none⟩=W.cell? ⟨b,o,none⟩)/\(∀b o,b<W.heap.size->w1.frozen? ⟨b,o,none⟩=W.frozen? ⟨b,o,none⟩):=
 ⟨λb o h=>a.cell (p:=⟨b,o,none⟩) h,λb o h=>a.frozen (p:=⟨b,o,none⟩) h⟩
theorem Aa (w:World)(o:Obj):Below w.heap.size w (w.alloc o):=(Below.refl _ _).alloc (A57 _) o
theorem Abh {P:Program}{f:FuncId}{args:Array Value}{w:World}{v:Value}(h:Calls P f args w λe a=>e=.returned v/\a=w):Calls P f args w λe a=>e=.returned v/\Below w.heap.size w a:=
 h.mono λ_ _ ⟨b,c⟩=>⟨b,by rw[c];exact Below.refl _ _⟩
theorem Wx (k:Int)(w:World):
  Calls prog 99 #[.int .i64 k] w λe a=>e=.returned (.int .i64 (Ih k))/\a=w:=by
 go_enter func99,ntmps99
 go_wp2
 all_goals go_ret
 all_goals (refine⟨Gz ?_,rfl⟩;simp only[A8h,A64] at*;unfold Ih;simp[*])
theorem Abj (k n p:Int)(w:World)(s:-9223372036854775808<=n)(m:n<=9223372036854775807):
  Calls prog 90 #[.agg #[.int .i64 k, .int .i64 n, .int .i64 p]] w λe j=>e=.returned (.bool (Hg k n p))/\Below w.heap.size w j:=by
 have f:(w.alloc (Obj.cells #[.int .i64 k, .int .i64 n, .int .i64 p] 92)).cell? ⟨w.heap.size,0,none⟩=some (.int .i64 k):=by simp[go_sem]
 have g:(w.alloc (Obj.cells #[.int .i64 k, .int .i64 n, .int .i64 p] 92)).cell? ⟨w.heap.size,1,none⟩=some (.int .i64 n):=by simp[go_sem]
 have d:(w.alloc (Obj.cells #[.int .i64 k, .int .i64 n, .int .i64 p] 92)).cell? ⟨w.heap.size,2,none⟩=some (.int .i64 p):=by simp[go_sem]
 have t:=cell_regrown f;have q:=cell_regrown g;have o:=cell_regrown d;clear f g d;go_enter func90,ntmps90
 go_wp2
 rotate_right 1
 focus
  by_cases l:0<=n
  ·by_cases i:n<Ih k
   ·refine wp_region_quiet_below krz krz ?_
    repeat (go_big_quiet_step ((exact Calls.regrown_of (Abh (Wx _ _)))))
    refine wpQuiet_nil ?_;intro _ c;obtain⟨⟨b,osq⟩,a⟩:=c;subst a
    go_wp2
    go_ret;refine⟨Ap ?_,(Aa _ _).trans ((below_regrown _ b osq).mono spz)⟩;go_light;simp only[A64] at*
    (rw[A7e];simp[Hg, *];try omega)
   ·have u:decide (n<Ih k)=false:=by simpa using i
    refine wp_region_quiet_below krz krz ?_;repeat (go_big_quiet_step ((exact Calls.regrown_of (Abh (Wx _ _)))))
    refine wpQuiet_nil ?_;intro _ c;obtain⟨⟨b,osq⟩,a⟩:=c;subst a
    go_wp2
    go_ret;refine⟨Ap ?_,(Aa _ _).trans ((below_regrown _ b osq).mono spz)⟩;go_light;simp only[A64] at*
    (rw[A7e];simp[Hg, *];try omega)
  ·have r:decide (0<=n)=false:=by simpa using l
   refine wp_region_quiet_below krz krz ?_;repeat (go_big_quiet_step ((exact Calls.regrown_of (Abh (Wx _ _)))))
   refine wpQuiet_nil ?_;intro _ c;obtain⟨⟨b,osq⟩,a⟩:=c;subst a
   go_wp2
   go_ret;refine⟨Ap ?_,(Aa _ _).trans ((below_regrown _ b osq).mono spz)⟩;go_light;simp only[A64] at*
   (rw[A7e];simp[Hg, *];try omega)
 all_goals go_ret
 all_goals (refine⟨Ap ?_,Aa _ _⟩)
 all_goals go_light
 all_goals simp only[A8h,A64] at*
 all_goals (rw[A7e];simp[Hg, *];try omega)
theorem Ry {w w1:World}{o:Obj}(a:Below (w.alloc o).heap.size (w.alloc o) w1):Below w.heap.size w w1:=(Aa w o).trans (a.mono spz)
theorem Xz (k n p:Int)(w:World)(c:-9223372036854775808<=n)(d:n<=9223372036854775807):
  Calls prog 89 #[.agg #[.int .i64 k, .int .i64 n, .int .i64 p]] w λe a=>e=.returned (.bool (Qa k n p))/\Below w.heap.size w a:=by
 cases h:Hg k n p;all_goals
  go_enter func89,ntmps89
  go_wp2_with (go_at_call 90;refine(Abj _ _ _ _ c d).mono ?_;rintro e a ⟨rfl,b⟩;obtain⟨g,f⟩:=D7 b)
  all_goals go_ret
  all_goals (refine⟨Ap ?_,Ry aqz⟩)
  all_goals go_light
  all_goals (rw[Qa,h,A7e];clear h;simp[*];try omega)
theorem Sz (k n p:Int)(w:World)(c:-9223372036854775808<=n)(d:n<=9223372036854775807):
  Calls prog 59 #[.agg #[.int .i64 k, .int .i64 n, .int .i64 p]] w λe a=>e=.returned (.bool (Ii k n p))/\Below w.heap.size w a:=by
 cases h:Hg k n p;all_goals
  go_enter func59,ntmps59
  go_wp2_with (go_at_call 90;refine(Abj _ _ _ _ c d).mono ?_;rintro e a ⟨rfl,b⟩;obtain⟨g,f⟩:=D7 b)
  all_goals go_ret
  all_goals (refine⟨Ap ?_,Ry aqz⟩)
  all_goals go_light
  all_goals (rw[Ii,h,A7e];clear h;simp[*];try omega)
theorem U6 (k n p:Int)(w:World)(c:-9223372036854775808<=n)(d:n<=9223372036854775807):
  Calls prog 60 #[.agg #[.int .i64 k, .int .i64 n, .int .i64 p]] w λe a=>e=.returned (.bool (Jh k n p))/\Below w.heap.size w a:=by
 cases h:Hg k n p;all_goals
  go_enter func60,ntmps60
  go_wp2_with (go_at_call 90;refine(Abj _ _ _ _ c d).mono ?_;rintro e a ⟨rfl,b⟩;obtain⟨g,f⟩:=D7 b)
  all_goals go_ret
  all_goals (refine⟨Ap ?_,Ry aqz⟩)
  all_goals go_light
  all_goals (rw[Jh,h,A7e];clear h;simp[*];try omega)
theorem Ax1 {k n p:Int}(h:Hg k n p=true)(h1:k≠11)(e:k≠12)(d:k≠13):1<=k/\k<=10/\0<=n/\n<64/\p=0:=by
 simp only[Hg,if_neg h1,if_neg e,if_neg d,decide_eq_true_eq] at h;obtain⟨a,b,c⟩:=h;unfold Ih at b;split at b
 ·omega
 ·split at b
  ·omega
  ·split at b
   ·omega
   ·split at b<;>omega
theorem Aa4 {w w1:World}{o:Obj}(a:Below (w.alloc o).heap.size (w.alloc o) w1):w.heap.size<w1.heap.size:=by have:=a.size;simp at this;omega
open Go.Co
def Ad4:List (String × (Array Value->Sem Value)):=Extern.ReflectliteValue.rows++(Extern.ReflectliteType.rows++(Extern.AbiNoEscape.rows++Extern.RuntimeError.rows))
theorem Akh (P:Program):∀p∈Ad4,∀args,Go.Co.Calm P (p.2 args):=by
 intro p a args;simp only[Ad4,Extern.ReflectliteValue.rows,Extern.ReflectliteType.rows,Extern.AbiNoEscape.rows,Extern.RuntimeError.rows,A6f,A6n,A68,A7u] at a;rcases a with a | a | a | a
 ·rcases a with rfl | rfl | rfl | rfl | rfl | rfl | rfl | rfl | rfl | rfl
  all_goals dsimp only
  all_goals first
   | (simp;done)
   | (refine Np ?_ (λ_ _ _ _=>?_) _<;>first | exact Af | (simp;done))
   | (refine Lr ?_ (λ_ _ _ _=>?_) _<;>first | exact Af | (simp;done))
 ·rcases a with rfl | rfl | rfl | rfl | rfl | rfl | rfl | rfl | rfl | rfl | rfl | rfl
  all_goals dsimp only
  all_goals first
   | (simp;done)
   | (refine N9 (λ_=>?_) _<;>first | (simp;done) | (refine Go.Co.Calm.bind spz λ_=>?_;first | (simp;done) | (refine Go.Co.Calm.bind spz λ_=>?_;exact Af)))
   | (refine Nc _ (λ_ _=>?_) _<;>(simp;done))
   | (refine Lu (λ_=>?_) _<;>first | (simp;done) | (refine Go.Co.Calm.bind spz λ_=>?_;first | exact Af | (simp;done) | (refine Go.Co.Calm.bind spz λ_=>?_;exact Af)))
   | (refine Go.Co.Calm.bind spz λ_=>?_;exact Af)
 ·rcases a with rfl | rfl | rfl | rfl
  all_goals dsimp only
  all_goals first | (simp;done) | exact Af
 ·rcases a with rfl | rfl | rfl | rfl | rfl | rfl | rfl | rfl | rfl | rfl | rfl | rfl | rfl | rfl | rfl
  all_goals dsimp only
  all_goals first
   | (simp;done)
   | exact Af
   | (refine Go.Co.Calm.bind spz λ_=>?_;first | exact Af | (refine Go.Co.Calm.bind spz λ_=>?_;exact Af))
def Ank (fn:Func):Option (Array Value->Sem Value):=match Ad4.lookup fn.name with
 | some e=>some e
 | none=>if fn.name= "internal/bytealg.MakeNoZero" then some (Extern.BytealgMakeNoZero.makeNoZero fn.params fn.resultTypes) else none
theorem Aki (P:Program)(fn:Func)(e:Array Value->Sem Value)(h:Ank fn=some e)(args:Array Value):Go.Co.Calm P (e args):=by
 unfold Ank at h;split at h
 ·rename_i d b
  cases h;have:(fn.name,e)∈Ad4:=by
   clear args
   revert b
   generalize Ad4=l;induction l with
   | nil=>intro h;cases h
   | cons p l c=>
    intro h;rw[List.lookup_cons] at h;split at h
    ·rename_i a
     cases h;rw[A8h] at a;rw[a];exact A7r
    ·exact A56 _ (c h)
  exact Akh P _ this args
 ·split at h
  ·cases h
   simp
  ·cases h
theorem Awd:(prog.funcs.toList.all λa=>!(a.name== "runtime.NumGoroutine"))=true:=krz
theorem Awc:((prog.funcs.toList.filter λa=>a.body.isNone).all λa=>(Extern.findNext a).isNone)=true:=krz
theorem Awe:(prog.funcs.toList.filter λa=>a.body.isNone).map Extern.find=(prog.funcs.toList.filter λa=>a.body.isNone).map Ank:=krz
theorem okP:OkP prog:=by
 have c:∀(f:Nat) (a:Func),prog.funcs[f]?=some a->a∈prog.funcs.toList:=λf a h=>by
  rw[<-Array.getElem?_toList] at h;exact A7w h
 refine⟨λf a h=>?_,λf a h b=>?_,λf a e h b d args=>?_⟩
 ·have:=List.all_eq_true.1 Awd a (c f a h)
  simpa using this
 ·have:=List.all_eq_true.1 Awc a (List.mem_filter.2 ⟨c f a h,b⟩)
  simpa using this
 ·have:=List.map_inj_left.1 Awe a (List.mem_filter.2 ⟨c f a h,b⟩)
  rw[this] at d;exact Aki _ a e d args
end Go.Proofs.YtnpfcnolmkanfaaGreatDoor
