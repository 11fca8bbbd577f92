import Derived.Test.YtbfljjcnbbmoaaaGreatDoorCA6
import GoSem.Extern.Table
import Derived.Test.YtbfljjcnbbmoaaaGreatDoorChecked
import Derived.Test.YtbfljjcnbbmoaaaGreatDoorGM
import Derived.WalkKit
import Derived.WalkSpells
import Derived.WalkLawsBesides
import Derived.Deep.QuietTactic
import Derived.BigQuiet
import Derived.Lib.QuietBelow
import Derived.Deep.Light
import Derived.Lib.ItoaNum
import Derived.Laws.BytesArg
import Derived.Deep.RegionHeld3
import Derived.KernelRfl
namespace Go.Co
section
variable {P : Program}
open Go.Extern.Rtype in
@[simp] theorem Adv (h:Value):Calm P (Go.Extern.Rtype.ofHandle h:Sem TypeId):=by
 unfold Go.Extern.Rtype.ofHandle;exact cmB
open Go.Extern.Rtype in
@[simp] theorem Afm (t:TypeId):Calm P (Go.Extern.Rtype.handle t:Sem Value):=by
 unfold Go.Extern.Rtype.handle;exact cmB
open Go.Extern.Rtype in
@[simp] theorem Afl (what:String) (t:TypeId):Calm P (Go.Extern.Rtype.noPack what t:Sem Unit):=by
 unfold Go.Extern.Rtype.noPack;exact cmB
open Go.Extern.Rtype in
@[simp] theorem Abi (what:String) (t:TypeId):Calm P (Go.Extern.Rtype.noPackHeld what t:Sem Unit):=by
 unfold Go.Extern.Rtype.noPackHeld;exact cmB
open Go.Extern.Rtype in
@[simp] theorem Aa9 (what:String) (t:TypeId):Calm P (Go.Extern.Rtype.noPackNamed what t:Sem Unit):=by
 unfold Go.Extern.Rtype.noPackNamed;exact cmB
open Go.Extern.Rtype in
@[simp] theorem Aae (what:String) (t:TypeId):Calm P (Go.Extern.Rtype.noPackMethods what t:Sem Unit):=by
 unfold Go.Extern.Rtype.noPackMethods;exact cmB
open Go.Extern.Rtype in
@[simp] theorem Ag0 (t:TypeId):Calm P (Go.Extern.Rtype.spelt t:Sem String):=by
 unfold Go.Extern.Rtype.spelt;exact cmB
open Go.Extern.Rtype in
@[simp] theorem Agz (t:TypeId):Calm P (Go.Extern.Rtype.under t:Sem (TypeId × TypeInfo)):=by
 unfold Go.Extern.Rtype.under;exact cmB
open Go.Extern.Rtype in
@[simp] theorem Ahi (t:TypeId):Calm P (Go.Extern.Rtype.kind t:Sem Nat):=by
 unfold Go.Extern.Rtype.kind;exact cmB
open Go.Extern.Rtype in
@[simp] theorem Aek (t:TypeId):Calm P (Go.Extern.Rtype.hasName t:Sem Bool):=by
 unfold Go.Extern.Rtype.hasName;exact cmB
open Go.Extern.Rtype in
@[simp] theorem Ag1 (t:TypeId):Calm P (Go.Extern.Rtype.elem? t:Sem (Option TypeId)):=by
 unfold Go.Extern.Rtype.elem?;exact cmB
open Go.Extern.Rtype in
@[simp] theorem Abj (T:TypeId) (V:TypeId):Calm P (Go.Extern.Rtype.implements T V:Sem Bool):=by
 unfold Go.Extern.Rtype.implements;exact cmB
open Go.Extern.Rtype in
@[simp] theorem Xt (T:TypeId) (V:TypeId):Calm P (Go.Extern.Rtype.directlyAssignable T V:Sem Bool):=by
 unfold Go.Extern.Rtype.directlyAssignable;exact cmB
open Go.Extern.ReflectliteType in
@[simp] theorem Yq (t:TypeId):Calm P (Go.Extern.ReflectliteType.toType t:Sem Value):=by
 unfold Go.Extern.ReflectliteType.toType;exact cmB
open Go.Extern.ReflectliteType in
@[simp] theorem Yb (x0:Value):Calm P (Go.Extern.ReflectliteType.ofRtype x0):=by
 unfold Go.Extern.ReflectliteType.ofRtype;cases x0
 case agg xs=>
  (rcases xs with⟨_ | ⟨z0,_ | ⟨z1,_⟩⟩⟩)
  all_goals
  repeat' first
   | exact Ae
   | exact Or.inl rfl
   | assumption
   | (simp;done)
   | refine Calm.bind ?_ (λ_=>?_)
   | dsimp only
   | refine Calm.map ?_
   | split
   | intro _
 all_goals
  exact cmC
open Go.Extern.ReflectliteType in
@[simp] theorem Yp (x0:Array Value):Calm P (Go.Extern.ReflectliteType.typeOf x0):=by
 unfold Go.Extern.ReflectliteType.typeOf;rcases x0 with⟨_ | ⟨y0,_ | ⟨y1,_ | ⟨y2,l⟩⟩⟩⟩
 case cons.nil=>cases y0<;>(repeat' first
   | exact Ae
   | exact Or.inl rfl
   | assumption
   | (simp;done)
   | refine Calm.bind ?_ (λ_=>?_)
   | dsimp only
   | refine Calm.map ?_
   | split
   | intro _)
 all_goals
  exact cmC
open Go.Extern.ReflectliteType in
theorem Lp {f:TypeId->Sem Value} (h1:∀t,Calm P (f t)) (x0:Array Value):Calm P (Go.Extern.ReflectliteType.method f x0):=by
 unfold Go.Extern.ReflectliteType.method;rcases x0 with⟨_ | ⟨y0,_ | ⟨y1,_ | ⟨y2,l⟩⟩⟩⟩
 all_goals
  repeat' first
   | exact Ae
   | exact Or.inl rfl
   | assumption
   | (simp;done)
   | exact h1 _
   | refine Calm.bind ?_ (λ_=>?_)
   | dsimp only
   | refine Calm.map ?_
   | split
   | intro _
@[simp] theorem Zu (t:TypeId):Calm P (Go.Extern.ReflectliteType.elem t):=by
 unfold Go.Extern.ReflectliteType.elem;exact cmG
open Go.Extern.ReflectliteType in
@[simp] theorem Zt (t:TypeId):Calm P (Go.Extern.ReflectliteType.name t:Sem Value):=by
 unfold Go.Extern.ReflectliteType.name;exact cmB
open Go.Extern.ReflectliteType in
@[simp] theorem Ya (t:TypeId):Calm P (Go.Extern.ReflectliteType.pkgPath t:Sem Value):=by
 unfold Go.Extern.ReflectliteType.pkgPath;exact cmB
open Go.Extern.ReflectliteType in
theorem Ko (what:String) {f:TypeId->TypeId->Sem Bool} (h2:∀t u,Calm P (f t u)) (x0:Array Value):Calm P (Go.Extern.ReflectliteType.relation what f x0):=by
 unfold Go.Extern.ReflectliteType.relation;rcases x0 with⟨_ | ⟨y0,_ | ⟨y1,_ | ⟨y2,l⟩⟩⟩⟩
 case cons.cons.nil=>cases y1<;>(repeat' first
   | exact Ae
   | exact Or.inl rfl
   | assumption
   | (simp;done)
   | exact h2 _ _
   | refine Calm.bind ?_ (λ_=>?_)
   | dsimp only
   | refine Calm.map ?_
   | split
   | intro _)
 all_goals
  exact cmC
open Go.Extern.ReflectliteType in
@[simp] theorem Wv (u:TypeId) (t:TypeId):Calm P (Go.Extern.ReflectliteType.implements_ u t:Sem Bool):=by
 unfold Go.Extern.ReflectliteType.implements_;exact cmB
open Go.Extern.ReflectliteType in
@[simp] theorem Va (u:TypeId) (t:TypeId):Calm P (Go.Extern.ReflectliteType.assignableTo u t:Sem Bool):=by
 unfold Go.Extern.ReflectliteType.assignableTo;exact cmB
open Go.Extern.ReflectliteType in
theorem J6 {f:TypeId->Sem Value} (h1:∀t,Calm P (f t)) (x0:Array Value):Calm P (Go.Extern.ReflectliteType.abiMethod f x0):=by
 unfold Go.Extern.ReflectliteType.abiMethod;rcases x0 with⟨_ | ⟨y0,_ | ⟨y1,_ | ⟨y2,l⟩⟩⟩⟩
 all_goals
  repeat' first
   | exact Ae
   | exact Or.inl rfl
   | assumption
   | (simp;done)
   | exact h1 _
   | refine Calm.bind ?_ (λ_=>?_)
   | dsimp only
   | refine Calm.map ?_
   | split
   | intro _
open Go.Extern.ReflectliteValue in
@[simp] theorem Aaf (t:TypeId) (a:Addr) (flags:Nat):Calm P (Go.Extern.ReflectliteValue.mk t a flags:Sem Value):=by
 unfold Go.Extern.ReflectliteValue.mk;exact cmB
open Go.Extern.ReflectliteValue in
@[simp] theorem X9 (x0:Value):Calm P (Go.Extern.ReflectliteValue.unpack x0:Sem Value):=by
 unfold Go.Extern.ReflectliteValue.unpack;exact cmB
open Go.Extern.ReflectliteValue in
@[simp] theorem Vt {α:Type} (method:String) (k:Nat):Calm P (Go.Extern.ReflectliteValue.valueError method k:Sem α):=by
 unfold Go.Extern.ReflectliteValue.valueError;exact cmB
open Go.Extern.ReflectliteValue in
@[simp] theorem Xb (x0:Value):Calm P (Go.Extern.ReflectliteValue.partsAny x0):=by
 unfold Go.Extern.ReflectliteValue.partsAny;cases x0
 case agg xs=>
  rcases xs with⟨_ | ⟨z0,_ | ⟨z1,_ | ⟨z2,_ | ⟨z3,l⟩⟩⟩⟩⟩
  case cons.cons.cons.nil=>
   cases z2<;>first | exact Or.inl rfl | skip
   rename_i kk nn;cases kk<;>first | exact Or.inl rfl | skip
   rcases nn with(_ | nn) | nn
   ·exact Ae
   all_goals
    cases z1<;>first | exact Or.inl rfl | skip
    rename_i oo;cases oo<;>first | exact Or.inl rfl | (exact Calm.bind (by simp) λ_=>Ae)
  all_goals
  repeat' first
   | exact Ae
   | exact Or.inl rfl
   | assumption
   | (simp;done)
   | refine Calm.bind ?_ (λ_=>?_)
   | dsimp only
   | refine Calm.map ?_
   | split
   | intro _
 all_goals
  exact cmC
open Go.Extern.ReflectliteValue in
@[simp] theorem Yn (x:Value):Calm P (Go.Extern.ReflectliteValue.parts x:Sem (Option (TypeId × Addr × Nat))):=by
 unfold Go.Extern.ReflectliteValue.parts;exact cmB
open Go.Extern.ReflectliteValue in
theorem Ku {zero:Sem Value} {f:TypeId->Addr->Nat->Nat->Sem Value} (h0:Calm P zero) (h2:∀t a x y,Calm P (f t a x y)) (x0:Array Value):Calm P (Go.Extern.ReflectliteValue.method zero f x0):=by
 unfold Go.Extern.ReflectliteValue.method;rcases x0 with⟨_ | ⟨y0,_ | ⟨y1,_ | ⟨y2,l⟩⟩⟩⟩
 all_goals
  repeat' first
   | exact Ae
   | exact Or.inl rfl
   | assumption
   | (simp;done)
   | exact h2 _ _ _ _
   | refine Calm.bind ?_ (λ_=>?_)
   | dsimp only
   | refine Calm.map ?_
   | split
   | intro _
open Go.Extern.ReflectliteValue in
theorem J5 {zero:Sem Value} {f:TypeId->Addr->Nat->Nat->Sem Value} (h0:Calm P zero) (h2:∀t a x y,Calm P (f t a x y)) (x0:Array Value):Calm P (Go.Extern.ReflectliteValue.methodAny zero f x0):=by
 unfold Go.Extern.ReflectliteValue.methodAny;rcases x0 with⟨_ | ⟨y0,_ | ⟨y1,_ | ⟨y2,l⟩⟩⟩⟩
 all_goals
  repeat' first
   | exact Ae
   | exact Or.inl rfl
   | assumption
   | (simp;done)
   | exact h2 _ _ _ _
   | refine Calm.bind ?_ (λ_=>?_)
   | dsimp only
   | refine Calm.map ?_
   | split
   | intro _
open Go.Extern.ReflectliteValue in
@[simp] theorem Yo (t:TypeId) (a:Addr) (x k:Nat):Calm P (Go.Extern.ReflectliteValue.isNil t a x k):=by
 unfold Go.Extern.ReflectliteValue.isNil;exact cmG
open Go.Extern.ReflectliteValue in
@[simp] theorem Zr (t:TypeId) (a:Addr) (x k:Nat):Calm P (Go.Extern.ReflectliteValue.len t a x k):=by
 unfold Go.Extern.ReflectliteValue.len;exact cmG
@[simp] theorem Zk (t:TypeId) (a:Addr) (x k:Nat):Calm P (Go.Extern.ReflectliteValue.elem t a x k):=by
 unfold Go.Extern.ReflectliteValue.elem;exact cmG
open Go.Extern.ReflectliteValue in
@[simp] theorem Zq (x0:Array Value):Calm P (Go.Extern.ReflectliteValue.set x0):=by
 unfold Go.Extern.ReflectliteValue.set;rcases x0 with⟨_ | ⟨y0,_ | ⟨y1,_ | ⟨y2,l⟩⟩⟩⟩
 all_goals
  exact cmC
open Go.Extern.ReflectliteValue in
@[simp] theorem Wu (x0:Array Value):Calm P (Go.Extern.ReflectliteValue.errorText x0):=by
 unfold Go.Extern.ReflectliteValue.errorText;rcases x0 with⟨_ | ⟨y0,_ | ⟨y1,_ | ⟨y2,l⟩⟩⟩⟩
 case cons.nil=>
  cases y0
  case pointer o=>cases o<;>(repeat' first
   | exact Ae
   | exact Or.inl rfl
   | assumption
   | (simp;done)
   | refine Calm.bind ?_ (λ_=>?_)
   | dsimp only
   | refine Calm.map ?_
   | split
   | intro _)
  all_goals
  repeat' first
   | exact Ae
   | exact Or.inl rfl
   | assumption
   | (simp;done)
   | refine Calm.bind ?_ (λ_=>?_)
   | dsimp only
   | refine Calm.map ?_
   | split
   | intro _
 all_goals
  exact cmC
open Go.Extern.AbiNoEscape in
@[simp] theorem Abk (x0:Array Value):Calm P (Go.Extern.AbiNoEscape.same x0):=by
 unfold Go.Extern.AbiNoEscape.same;rcases x0 with⟨_ | ⟨y0,_ | ⟨y1,_ | ⟨y2,l⟩⟩⟩⟩
 all_goals
  exact cmC
open Go.Extern.BytealgMakeNoZero in
@[simp] theorem Vb (ps rs:Array TypeId) (x0:Array Value):Calm P (Go.Extern.BytealgMakeNoZero.makeNoZero ps rs x0):=by
 unfold Go.Extern.BytealgMakeNoZero.makeNoZero;rcases x0 with⟨_ | ⟨y0,_ | ⟨y1,_ | ⟨y2,l⟩⟩⟩⟩
 case cons.nil=>
  cases y0
  case int k n=>cases k<;>(repeat' first
   | exact Ae
   | exact Or.inl rfl
   | assumption
   | (simp;done)
   | refine Calm.bind ?_ (λ_=>?_)
   | dsimp only
   | refine Calm.map ?_
   | split
   | intro _)
  all_goals
  repeat' first
   | exact Ae
   | exact Or.inl rfl
   | assumption
   | (simp;done)
   | refine Calm.bind ?_ (λ_=>?_)
   | dsimp only
   | refine Calm.map ?_
   | split
   | intro _
 all_goals
  exact cmC
open Go.Extern.RuntimeError in
@[simp] theorem Aa8 (s:String):Calm P (Go.Extern.RuntimeError.text s:Sem Value):=by
 unfold Go.Extern.RuntimeError.text;exact cmB
open Go.Extern.RuntimeError in
@[simp] theorem Xr (x0:Array Value):Calm P (Go.Extern.RuntimeError.boundsError x0):=by
 unfold Go.Extern.RuntimeError.boundsError;rcases x0 with⟨_ | ⟨y0,_ | ⟨y1,_ | ⟨y2,l⟩⟩⟩⟩
 case cons.nil=>
  cases y0
  case agg xs=>
   rcases xs with⟨_ | ⟨z0,_ | ⟨z1,_ | ⟨z2,_ | ⟨z3,_ | ⟨z4,l⟩⟩⟩⟩⟩⟩
   case cons.cons.cons.cons.nil=>
    cases z0<;>first | exact Or.inl rfl | skip
    cases z1<;>first | exact Or.inl rfl | skip
    cases z2<;>first | exact Or.inl rfl | skip
    cases z3<;>first | exact Or.inl rfl | skip
    rename_i k0 x k1 y sg k2 code;have key:∀(o:Option String) (g:String->String),Calm P (match o with | some fmt=>Go.Extern.RuntimeError.text (g fmt) | none=>stuck "boundsError: no such code"):=λo g=>by cases o<;>first | exact Or.inl rfl | exact Ae
    exact key ((if(sg && decide (x<0))=true then Go.Extern.RuntimeError.boundsNegErrorFmts else Go.Extern.RuntimeError.boundsErrorFmts)[code.toNat]?) (λfmt=> "runtime error: " ++(fmt.replace "%x" (toString (if sg=true then x else IntKind.u64.wrap x))).replace "%y" (toString y))
   all_goals
   repeat' first
   | exact Ae
   | exact Or.inl rfl
   | assumption
   | (simp;done)
   | refine Calm.bind ?_ (λ_=>?_)
   | dsimp only
   | refine Calm.map ?_
   | split
   | intro _
  all_goals
  repeat' first
   | exact Ae
   | exact Or.inl rfl
   | assumption
   | (simp;done)
   | refine Calm.bind ?_ (λ_=>?_)
   | dsimp only
   | refine Calm.map ?_
   | split
   | intro _
 all_goals
  exact cmC
open Go.Extern.RuntimeError in
@[simp] theorem Ym (v:Value):Calm P (Go.Extern.RuntimeError.described v:Sem (Option TypeInfo)):=by
 unfold Go.Extern.RuntimeError.described;exact cmB
open Go.Extern.RuntimeError in
@[simp] theorem Yl (i:TypeInfo):Calm P (Go.Extern.RuntimeError.pkgpathOf i:Sem (Option String)):=by
 unfold Go.Extern.RuntimeError.pkgpathOf;exact cmB
open Go.Extern.RuntimeError in
@[simp] theorem Ui (args:Array Value):Calm P (Go.Extern.RuntimeError.typeAssertionError args:Sem Value):=by
 unfold Go.Extern.RuntimeError.typeAssertionError;exact cmB
open Go.Extern.RuntimeError in
@[simp] theorem Tf (x0:Array Value):Calm P (Go.Extern.RuntimeError.unhashableTypeError x0):=by
 unfold Go.Extern.RuntimeError.unhashableTypeError;rcases x0 with⟨_ | ⟨y0,_ | ⟨y1,_ | ⟨y2,l⟩⟩⟩⟩
 case cons.nil=>
  cases y0
  case agg xs=>
   (rcases xs with⟨_ | ⟨z0,_ | ⟨z1,_⟩⟩⟩)
   all_goals
   repeat' first
   | exact Ae
   | exact Or.inl rfl
   | assumption
   | (simp;done)
   | refine Calm.bind ?_ (λ_=>?_)
   | dsimp only
   | refine Calm.map ?_
   | split
   | intro _
  all_goals
  repeat' first
   | exact Ae
   | exact Or.inl rfl
   | assumption
   | (simp;done)
   | refine Calm.bind ?_ (λ_=>?_)
   | dsimp only
   | refine Calm.map ?_
   | split
   | intro _
 all_goals
  exact cmC
open Go.Extern.RuntimeError in
@[simp] theorem Zp (x0:Array Value):Calm P (Go.Extern.RuntimeError.nothing x0):=by
 exact Ae
end
end Go.Co
set_option maxHeartbeats 4000000
set_option maxRecDepth 100000
namespace Go.Proofs.YtbfljjcnbbmoaaaGreatDoor
open Stil
open Go.RowKit Go.Sort Go.BigFrame
theorem D7 {k:IntKind} {a b:Int} (h:a=b):Ending.returned (.int k a)=.returned (.int k b):=by rw[h]
theorem Ap {a b:Bool} (h:a=b):Ending.returned (.bool a)=.returned (.bool b):=by rw[h]
theorem Dl {W w1:World} (hb:Below W.heap.size W w1):(∀b o,b<W.heap.size->w1.cell? ⟨b,o,none⟩=W.cell? ⟨b,o,none⟩)/\(∀b o,b<W.heap.size->w1.frozen? ⟨b,o,none⟩=W.frozen? ⟨b,o,none⟩):=
 ⟨λb o h=>hb.cell (p:=⟨b,o,none⟩) h,λb o h=>hb.frozen (p:=⟨b,o,none⟩) h⟩
theorem Aa (w:World) (o:Obj):Below w.heap.size w (w.alloc o):=(Below.refl _ _).alloc (A4i _) o
theorem Zx {P:Program} {f:FuncId} {args:Array Value} {w:World} {v:Value} (h:Calls P f args w λe w'=>e=.returned v/\w'=w):Calls P f args w λe w'=>e=.returned v/\Below w.heap.size w w':=
 h.mono λ_ _ ⟨he,hw⟩=>⟨he,by rw[hw];exact Below.refl _ _⟩
theorem Ab5 (k:Int) (w:World):
  Calls Tryz.prog 132 #[.int .i64 k] w λe w'=>e=.returned (.int .i64 (Jp k))/\w'=w:=by
 go_enter Tryz.func132,Tryz.ntmps132
 go_wp2
 all_goals go_ret
 all_goals (refine⟨D7 ?_,rfl⟩;simp only[beq_iff_eq,A5f] at*;unfold Jp;simp[*])
theorem Zy (k n p:Int) (w:World) (hn1:-9223372036854775808<=n) (hn2:n<=9223372036854775807):
  Calls Tryz.prog 123 #[.agg #[.int .i64 k, .int .i64 n, .int .i64 p]] w λe w'=>e=.returned (.bool (Gh k n p))/\Below w.heap.size w w':=by
 have c0:(w.alloc (Obj.cells #[.int .i64 k, .int .i64 n, .int .i64 p] 86)).cell? ⟨w.heap.size,0,none⟩=some (.int .i64 k):=by simp[go_sem]
 have c1:(w.alloc (Obj.cells #[.int .i64 k, .int .i64 n, .int .i64 p] 86)).cell? ⟨w.heap.size,1,none⟩=some (.int .i64 n):=by simp[go_sem]
 have c2:(w.alloc (Obj.cells #[.int .i64 k, .int .i64 n, .int .i64 p] 86)).cell? ⟨w.heap.size,2,none⟩=some (.int .i64 p):=by simp[go_sem]
 have r0:=cell_regrown c0;have r1:=cell_regrown c1;have r2:=cell_regrown c2;clear c0 c1 c2;go_enter Tryz.func123,Tryz.ntmps123
 go_wp2
 rotate_right 1
 focus
  by_cases h0:0<=n
  ·by_cases h1:n<Jp k
   ·refine wp_region_quiet_below (by kernel_rfl) (by kernel_rfl) ?_
    repeat (go_big_quiet_step ((exact Calls.regrown_of (Zx (Ab5 _ _)))))
    refine wpQuiet_nil ?_;intro _ hw';obtain⟨⟨dq,osq⟩,hw''⟩:=hw';subst hw''
    go_wp2
    go_ret;refine⟨Ap ?_,(Aa _ _).trans ((below_regrown _ dq osq).mono (by simp))⟩;go_light;simp only[A5f] at*
    (rw[Bool.eq_iff_iff];simp[Gh, *];try omega)
   ·have h1':decide (n<Jp k)=false:=by simpa using h1
    refine wp_region_quiet_below (by kernel_rfl) (by kernel_rfl) ?_;repeat (go_big_quiet_step ((exact Calls.regrown_of (Zx (Ab5 _ _)))))
    refine wpQuiet_nil ?_;intro _ hw';obtain⟨⟨dq,osq⟩,hw''⟩:=hw';subst hw''
    go_wp2
    go_ret;refine⟨Ap ?_,(Aa _ _).trans ((below_regrown _ dq osq).mono (by simp))⟩;go_light;simp only[A5f] at*
    (rw[Bool.eq_iff_iff];simp[Gh, *];try omega)
  ·have h0':decide (0<=n)=false:=by simpa using h0
   refine wp_region_quiet_below (by kernel_rfl) (by kernel_rfl) ?_;repeat (go_big_quiet_step ((exact Calls.regrown_of (Zx (Ab5 _ _)))))
   refine wpQuiet_nil ?_;intro _ hw';obtain⟨⟨dq,osq⟩,hw''⟩:=hw';subst hw''
   go_wp2
   go_ret;refine⟨Ap ?_,(Aa _ _).trans ((below_regrown _ dq osq).mono (by simp))⟩;go_light;simp only[A5f] at*
   (rw[Bool.eq_iff_iff];simp[Gh, *];try omega)
 all_goals go_ret
 all_goals (refine⟨Ap ?_,Aa _ _⟩)
 all_goals go_light
 all_goals simp only[beq_iff_eq,A5f] at*
 all_goals (rw[Bool.eq_iff_iff];simp[Gh, *];try omega)
theorem Ik {w w1:World} {o:Obj} (hb:Below (w.alloc o).heap.size (w.alloc o) w1):Below w.heap.size w w1:=(Aa w o).trans (hb.mono (by simp))
theorem V6 (k n p:Int) (w:World) (hn1:-9223372036854775808<=n) (hn2:n<=9223372036854775807):
  Calls Tryz.prog 122 #[.agg #[.int .i64 k, .int .i64 n, .int .i64 p]] w λe w'=>e=.returned (.bool (Oj k n p))/\Below w.heap.size w w':=by
 cases h:Gh k n p;all_goals
  go_enter Tryz.func122,Tryz.ntmps122
  go_wp2_with (go_at_call 123;refine(Zy _ _ _ _ hn1 hn2).mono ?_;rintro e w' ⟨rfl,hb⟩;obtain⟨hc,hf⟩:=Dl hb)
  all_goals go_ret
  all_goals (refine⟨Ap ?_,Ik (by assumption)⟩)
  all_goals go_light
  all_goals (rw[Oj,h,Bool.eq_iff_iff];clear h;simp[*];try omega)
theorem Qu (k n p:Int) (w:World) (hn1:-9223372036854775808<=n) (hn2:n<=9223372036854775807):
  Calls Tryz.prog 106 #[.agg #[.int .i64 k, .int .i64 n, .int .i64 p]] w λe w'=>e=.returned (.bool (Hm k n p))/\Below w.heap.size w w':=by
 cases h:Gh k n p;all_goals
  go_enter Tryz.func106,Tryz.ntmps106
  go_wp2_with (go_at_call 123;refine(Zy _ _ _ _ hn1 hn2).mono ?_;rintro e w' ⟨rfl,hb⟩;obtain⟨hc,hf⟩:=Dl hb)
  all_goals go_ret
  all_goals (refine⟨Ap ?_,Ik (by assumption)⟩)
  all_goals go_light
  all_goals (rw[Hm,h,Bool.eq_iff_iff];clear h;simp[*];try omega)
theorem Tt (k n p:Int) (w:World) (hn1:-9223372036854775808<=n) (hn2:n<=9223372036854775807):
  Calls Tryz.prog 107 #[.agg #[.int .i64 k, .int .i64 n, .int .i64 p]] w λe w'=>e=.returned (.bool (Ii k n p))/\Below w.heap.size w w':=by
 cases h:Gh k n p;all_goals
  go_enter Tryz.func107,Tryz.ntmps107
  go_wp2_with (go_at_call 123;refine(Zy _ _ _ _ hn1 hn2).mono ?_;rintro e w' ⟨rfl,hb⟩;obtain⟨hc,hf⟩:=Dl hb)
  all_goals go_ret
  all_goals (refine⟨Ap ?_,Ik (by assumption)⟩)
  all_goals go_light
  all_goals (rw[Ii,h,Bool.eq_iff_iff];clear h;simp[*];try omega)
theorem Avl {k n p:Int} (h:Gh k n p=true) (h1:k≠11) (h2:k≠12) (h3:k≠13):1<=k/\k<=10/\0<=n/\n<64/\p=0:=by
 simp only[Gh,if_neg h1,if_neg h2,if_neg h3,decide_eq_true_eq] at h;obtain⟨a,b,c⟩:=h;unfold Jp at b;split at b
 ·omega
 ·split at b
  ·omega
  ·split at b
   ·omega
   ·split at b<;>omega
theorem Zl {w w1:World} {o:Obj} (hb:Below (w.alloc o).heap.size (w.alloc o) w1):w.heap.size<w1.heap.size:=by have:=hb.size;simp at this;omega
end Go.Proofs.YtbfljjcnbbmoaaaGreatDoor
namespace Go.Proofs.YtbfljjcnbbmoaaaGreatDoor
open Go.Co
def Acd:List (String × (Array Value->Sem Value)):=Extern.ReflectliteValue.rows++(Extern.ReflectliteType.rows++(Extern.AbiNoEscape.rows++Extern.RuntimeError.rows))
theorem Ah4 (P:Program):∀p∈Acd,∀args,Go.Co.Calm P (p.2 args):=by
 intro p hp args;simp only[Acd,Extern.ReflectliteValue.rows,Extern.ReflectliteType.rows,Extern.AbiNoEscape.rows,Extern.RuntimeError.rows,A4q,A4y,List.not_mem_nil,or_false] at hp;rcases hp with hp | hp | hp | hp
 ·rcases hp with rfl | rfl | rfl | rfl | rfl | rfl | rfl | rfl | rfl | rfl
  all_goals dsimp only
  all_goals first
   | (simp;done)
   | (refine Ku ?_ (λ_ _ _ _=>?_) _<;>first | exact Ae | (simp;done))
   | (refine J5 ?_ (λ_ _ _ _=>?_) _<;>first | exact Ae | (simp;done))
 ·rcases hp with rfl | rfl | rfl | rfl | rfl | rfl | rfl | rfl | rfl | rfl | rfl | rfl
  all_goals dsimp only
  all_goals first
   | (simp;done)
   | (refine Lp (λ_=>?_) _<;>first | (simp;done) | (refine Go.Co.Calm.bind (by simp) λ_=>?_;first | (simp;done) | (refine Go.Co.Calm.bind (by simp) λ_=>?_;exact Ae)))
   | (refine Ko _ (λ_ _=>?_) _<;>(simp;done))
   | (refine J6 (λ_=>?_) _<;>first | (simp;done) | (refine Go.Co.Calm.bind (by simp) λ_=>?_;first | exact Ae | (simp;done) | (refine Go.Co.Calm.bind (by simp) λ_=>?_;exact Ae)))
   | (refine Go.Co.Calm.bind (by simp) λ_=>?_;exact Ae)
 ·rcases hp with rfl | rfl | rfl | rfl
  all_goals dsimp only
  all_goals first | (simp;done) | exact Ae
 ·rcases hp with rfl | rfl | rfl | rfl | rfl | rfl | rfl | rfl | rfl | rfl | rfl | rfl | rfl | rfl | rfl
  all_goals dsimp only
  all_goals first
   | (simp;done)
   | exact Ae
   | (refine Go.Co.Calm.bind (by simp) λ_=>?_;first | exact Ae | (refine Go.Co.Calm.bind (by simp) λ_=>?_;exact Ae))
def Ak1 (fn:Func):Option (Array Value->Sem Value):=match Acd.lookup fn.name with
 | some e=>some e
 | none=>if fn.name= "internal/bytealg.MakeNoZero" then some (Extern.BytealgMakeNoZero.makeNoZero fn.params fn.resultTypes) else none
theorem Ah5 (P:Program) (fn:Func) (e:Array Value->Sem Value) (h:Ak1 fn=some e) (args:Array Value):Go.Co.Calm P (e args):=by
 unfold Ak1 at h;split at h
 ·rename_i e' he
  cases h;have:(fn.name,e)∈Acd:=by
   clear args
   revert he
   generalize Acd=l;induction l with
   | nil=>intro h;cases h
   | cons p l ih=>
    intro h;rw[List.lookup_cons] at h;split at h
    ·rename_i hb
     cases h;rw[beq_iff_eq] at hb;rw[hb];exact List.mem_cons_self
    ·exact A4h _ (ih h)
  exact Ah4 P _ this args
 ·split at h
  ·cases h
   simp
  ·cases h
theorem At3:(Tryz.prog.funcs.toList.all λfn=>!(fn.name== "runtime.NumGoroutine"))=true:=by kernel_rfl
theorem At1:((Tryz.prog.funcs.toList.filter λfn=>fn.body.isNone).all λfn=>(Extern.findNext fn).isNone)=true:=by kernel_rfl
theorem At4:(Tryz.prog.funcs.toList.filter λfn=>fn.body.isNone).map Extern.find=(Tryz.prog.funcs.toList.filter λfn=>fn.body.isNone).map Ak1:=by kernel_rfl
theorem okP:OkP Tryz.prog:=by
 have hm:∀(f:Nat) (fn:Func),Tryz.prog.funcs[f]?=some fn->fn∈Tryz.prog.funcs.toList:=λf fn h=>by
  rw[<-Array.getElem?_toList] at h;exact List.mem_of_getElem? h
 refine⟨λf fn h=>?_,λf fn h hb=>?_,λf fn e h hb he args=>?_⟩
 ·have:=List.all_eq_true.1 At3 fn (hm f fn h)
  simpa using this
 ·have:=List.all_eq_true.1 At1 fn (List.mem_filter.2 ⟨hm f fn h,hb⟩)
  simpa using this
 ·have:=List.map_inj_left.1 At4 fn (List.mem_filter.2 ⟨hm f fn h,hb⟩)
  rw[this] at he;exact Ah5 _ fn e he args
end Go.Proofs.YtbfljjcnbbmoaaaGreatDoor
