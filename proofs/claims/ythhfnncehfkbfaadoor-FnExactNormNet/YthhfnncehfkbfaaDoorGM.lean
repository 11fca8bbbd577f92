/- M1, M1b, M1c, M2, M2b, M2c, M2d, M2e, M2f, M2g, M3, M3c, M3b, M3d, M3f, M3g: texts put together. -/
import Derived.Lib.ItoaNum
/- Plain models of chapter 1: no Go. -/
namespace Stil
structure Dev where
  kind : Int
  n : Int
  p : Int
def devSize (k : Int) : Int :=
  if k = 1 ∨ k = 2 ∨ k = 5 ∨ k = 9 then 32 else if k = 3 then 64 else if k = 4 ∨ k = 7 ∨ k = 8 ∨ k = 10 then 16 else if k = 6 then 5 else 0
def devOkB (k n p : Int) : Bool :=
  if k = 11 then decide (-32768 ≤ n ∧ n ≤ 32767 ∧ p = 0)
  else if k = 12 then decide (-999999999 ≤ n ∧ n ≤ 999999999 ∧ 1 ≤ p ∧ p ≤ 6 ∧ (p = 1 ∨ n.tmod 10 ≠ 0))
  else if k = 13 then decide (0 ≤ n ∧ n ≤ 3 ∧ p = 0)
  else decide (0 ≤ n ∧ n < devSize k ∧ p = 0)
def devIsBitB (k n p : Int) : Bool := devOkB k n p && (decide (k ≤ 4) || k == 6 || k == 7 || k == 8)
def devIsWholeB (k n p : Int) : Bool := devOkB k n p && (k == 7 || k == 8 || k == 9 || k == 11)
def devIsRealB (k n p : Int) : Bool := devOkB k n p && (k == 10 || k == 12 || k == 13)
def letters : List UInt8 := [88, 89, 77, 83, 69, 71, 84, 67, 68, 82]
def devLetter (k : Int) : ByteArray := if 1 ≤ k ∧ k ≤ 10 then ⟨#[letters.getD (k.toNat - 1) 0]⟩ else ⟨#[]⟩
def padTo (p : Nat) (s : List UInt8) : List UInt8 := List.replicate (p + 1 - s.length) 48 ++ s
def decNat (n p : Nat) : List UInt8 := (padTo p (Go.Lib.decDigits n)).take ((padTo p (Go.Lib.decDigits n)).length - p) ++ 46 :: (padTo p (Go.Lib.decDigits n)).drop ((padTo p (Go.Lib.decDigits n)).length - p)
def decText (n p : Int) : List UInt8 := if n < 0 then 45 :: decNat n.natAbs p.toNat else decNat n.toNat p.toNat
def words : List (List UInt8) := [[110, 97, 110], [105, 110, 102], [45, 105, 110, 102], [45, 48, 46, 48]]
def devText (k n p : Int) : List UInt8 :=
  if devOkB k n p then
    if k = 11 then Go.Lib.itoa n else if k = 12 then decText n p else if k = 13 then words.getD n.toNat [] else letters.getD (k.toNat - 1) 0 :: Go.Lib.itoa n
  else []
def findFrom (c : UInt8) : List UInt8 → Nat → Int
  | [], _ => -1
  | x :: r, k => if x = c then k else findFrom c r (k + 1)
def find (c : UInt8) (l : List UInt8) : Int := findFrom c l 0
def digFold : Nat → List UInt8 → Option Nat
  | acc, [] => some acc
  | acc, c :: r => if 48 ≤ c.toNat ∧ c.toNat ≤ 57 then digFold (acc * 10 + (c.toNat - 48)) r else none
def optInt : Option Nat → Int
  | some n => n
  | none => -1
def digits (l : List UInt8) : Int := if l.length = 0 ∨ 17 < l.length then -1 else optInt (digFold 0 l)
end Stil
/- Plain models of chapter 1, second part: what a text would be. -/
namespace Stil
def isLetter (c : UInt8) : Bool := letters.any (· == c)
def signOf (l : List UInt8) : Int := if l.head? = some 45 then -1 else 1
def bare (l : List UInt8) : List UInt8 := if l.head? = some 45 then l.drop 1 else l
def guessNum (l : List UInt8) : Dev :=
  if find 46 (bare l) < 0 then ⟨11, signOf l * digits (bare l), 0⟩
  else ⟨12, signOf l * digits ((bare l).take (find 46 (bare l)).toNat ++ (bare l).drop ((find 46 (bare l)).toNat + 1)), (bare l).length - find 46 (bare l) - 1⟩
def letterAt (l : List UInt8) (k : Nat) : Bool := l.head? == some (letters.getD (k - 1) 0)
def guessFrom (l : List UInt8) : Nat → Nat → Dev
  | 0, _ => guessNum l
  | m + 1, k => if letterAt l k then ⟨k, digits (l.drop 1), 0⟩ else guessFrom l m (k + 1)
def wordFrom (l : List UInt8) : Nat → Nat → Dev
  | 0, _ => guessFrom l 10 1
  | m + 1, k => if l = words.getD k [] then ⟨13, k, 0⟩ else wordFrom l m (k + 1)
def guess (l : List UInt8) : Dev := wordFrom l 4 0
end Stil
/- Plain models of chapter 1, third part: DevRead. -/
namespace Stil
def Dev.text (d : Dev) : List UInt8 := devText d.kind d.n d.p
def devReadB (l : List UInt8) : Bool := !l.isEmpty && (guess l).text == l
def devRead (l : List UInt8) : Dev := if devReadB l then guess l else ⟨0, 0, 0⟩
end Stil
/- Plain models of chapter 2. -/
namespace Stil
def arity (op : Int) : Int :=
  if op = 1 ∨ op = 2 ∨ op = 21 ∨ op = 22 ∨ op = 23 ∨ op = 25 then 1
  else if 31 ≤ op ∧ op ≤ 35 then 3
  else if (1 ≤ op ∧ op ≤ 10) ∨ (21 ≤ op ∧ op ≤ 37) then 2 else 0
def names : List (List UInt8) := [[111, 117, 116], [115, 101, 116], [114, 101, 115, 101, 116], [112, 117, 108, 115, 101], [115, 116, 101, 112], [116, 105, 109, 101, 114], [104, 111, 108, 100], [108, 97, 116, 101], [99, 111, 117, 110, 116], [109, 111, 118, 101], [97, 100, 100], [115, 117, 98], [109, 117, 108], [100, 105, 118], [114, 101, 109], [114, 101, 97, 108], [119, 104, 111, 108, 101]]
def signs : List (List UInt8) := [[60], [60, 61], [61], [60, 62], [62, 61], [62]]
def elemName (op : Int) : List UInt8 := if 21 ≤ op ∧ op ≤ 37 then names.getD (op - 21).toNat [] else []
def sign (op : Int) : List UInt8 := if 5 ≤ op ∧ op ≤ 10 then signs.getD (op - 5).toNat [] else []
def Dev.ok (d : Dev) : Bool := devOkB d.kind d.n d.p
def Dev.isBit (d : Dev) : Bool := devIsBitB d.kind d.n d.p
def Dev.isWhole (d : Dev) : Bool := devIsWholeB d.kind d.n d.p
def Dev.isReal (d : Dev) : Bool := devIsRealB d.kind d.n d.p
def kindB (k n p a b : Int) : Bool := devOkB k n p && (k == a || k == b)
def Dev.kindIs (d : Dev) (a b : Int) : Bool := kindB d.kind d.n d.p a b
end Stil
/- Plain models of chapter 2, second part: contacts and coils. -/
namespace Stil
def Dev.fits (d : Dev) : Prop := (-9223372036854775808 ≤ d.kind ∧ d.kind ≤ 9223372036854775807) ∧ (-9223372036854775808 ≤ d.n ∧ d.n ≤ 9223372036854775807) ∧ (-9223372036854775808 ≤ d.p ∧ d.p ≤ 9223372036854775807)
def isContact (op : Int) (ds : List Dev) : Bool :=
  if op < 1 ∨ 10 < op then false
  else match ds with
    | [a] => decide (op ≤ 2) && a.isBit
    | [a, b] =>
      if op ≤ 2 then false
      else if op ≤ 4 then a.isBit && b.ok && b.kind == 5
      else a.isWhole && b.isWhole || a.isReal && b.isReal
    | _ => false
end Stil
/- Plain models of chapter 2, third part: coils. -/
namespace Stil
def calcRest (whole : Bool) (l : List Dev) : Bool := if whole then l.all Dev.isWhole else l.all Dev.isReal
def calcB (op : Int) : List Dev → Bool
  | [] => false
  | d :: r => d.kindIs 9 10 && calcRest (d.kind == 9) r && (d.kind == 9 || op != 35)
def isCoil (op : Int) (ds : List Dev) : Bool :=
  if op < 21 ∨ 37 < op ∨ (ds.length : Int) ≠ arity op then false
  else match ds with
    | [a] => if op = 21 then a.kindIs 2 3 else if op = 22 then a.kindIs 2 3 || a.kindIs 4 4 else if op = 23 then a.kindIs 2 3 || a.kindIs 4 7 || a.kindIs 8 8 else a.kindIs 4 4
    | [a, b] =>
      if op = 24 then a.kindIs 2 3 && b.kindIs 5 5
      else if op = 26 ∨ op = 27 ∨ op = 28 then a.kindIs 7 7 && b.kindIs 11 11 && decide (0 ≤ b.n)
      else if op = 29 then a.kindIs 8 8 && b.kindIs 11 11 && decide (0 ≤ b.n)
      else if op = 36 then a.kindIs 10 10 && b.isWhole
      else if op = 37 then a.kindIs 9 9 && b.isReal
      else calcB op ds
    | _ => calcB op ds
end Stil
/- Plain models of chapter 2, fourth part: ElemText. -/
namespace Stil
def argsText : List Dev → List UInt8
  | [] => []
  | d :: r => 44 :: d.text ++ argsText r
def elemText (op : Int) (ds : List Dev) : List UInt8 :=
  if isCoil op ds then
    match ds with
    | [] => []
    | d :: r => elemName op ++ 58 :: d.text ++ argsText r
  else if isContact op ds then
    match ds with
    | [a] => if op = 1 then a.text else 47 :: a.text
    | [a, b] => if op = 3 then 43 :: a.text ++ 58 :: b.text else if op = 4 then 45 :: a.text ++ 58 :: b.text else a.text ++ sign op ++ b.text
    | _ => []
  else []
end Stil
/- Plain models of chapter 2, fifth part: a text that is cut, operands that are read. -/
namespace Stil
def consHead (x : UInt8) : List (List UInt8) → List (List UInt8)
  | [] => [[x]]
  | h :: t => (x :: h) :: t
def cut (c : UInt8) : List UInt8 → List (List UInt8)
  | [] => [[]]
  | x :: r => if x = c then [] :: cut c r else consHead x (cut c r)
theorem cut_none (c : UInt8) : ∀ (a : List UInt8), (∀ x ∈ a, x ≠ c) → cut c a = [a]
  | [], _ => rfl
  | x :: r, h => by
    unfold cut
    rw [if_neg (h x (by simp)), cut_none c r (fun y hy => h y (by simp [hy]))]; rfl
theorem cut_at (c : UInt8) : ∀ (a r : List UInt8), (∀ x ∈ a, x ≠ c) → cut c (a ++ c :: r) = a :: cut c r
  | [], r, _ => by simp [cut]
  | x :: a, r, h => by
    have e : cut c (x :: (a ++ c :: r)) = if x = c then [] :: cut c (a ++ c :: r) else consHead x (cut c (a ++ c :: r)) := rfl
    rw [List.cons_append, e, if_neg (h x (by simp)), cut_at c a r (fun y hy => h y (by simp [hy]))]; rfl
def args (c : UInt8) (l : List UInt8) : List Dev := ((cut c l).map devRead).take 4
end Stil
/- Plain models of chapter 2, sixth part: what a text would be. -/
namespace Stil
structure Elem where
  op : Int
  args : List Dev
def isSign (c : UInt8) : Bool := c == 60 || c == 61 || c == 62
def signLen (l : List UInt8) (i : Nat) : Nat := if l[i + 1]? = some 61 ∨ l[i + 1]? = some 62 then 2 else 1
def signFrom (l : List UInt8) (i n : Nat) : Nat → Nat → Elem
  | 0, _ => ⟨0, []⟩
  | m + 1, k => if (l.take (i + n)).drop i = sign k then ⟨k, Stil.args 32 (l.take i) ++ Stil.args 32 (l.drop (i + n))⟩ else signFrom l i n m (k + 1)
def headIs (l : List UInt8) (c : UInt8) : Bool := l.head? == some c
def guessHead (l : List UInt8) : Elem :=
  if headIs l 47 then ⟨2, Stil.args 32 (l.drop 1)⟩ else if headIs l 43 then ⟨3, Stil.args 58 (l.drop 1)⟩ else if headIs l 45 then ⟨4, Stil.args 58 (l.drop 1)⟩ else ⟨1, Stil.args 32 l⟩
def nameAt (l : List UInt8) (k : Nat) : Bool := decide ((elemName k).length < l.length) && (l.take (elemName k).length == elemName k) && (l[(elemName k).length]? == some 58)
def guessName (l : List UInt8) : Nat → Nat → Elem
  | 0, _ => guessHead l
  | m + 1, k => if nameAt l k then ⟨k, Stil.args 44 (l.drop ((elemName k).length + 1))⟩ else guessName l m (k + 1)
def scan (l : List UInt8) : Nat → Nat → Elem
  | 0, _ => guessName l 17 21
  | m + 1, i => if isSign (l.getD i 0) then signFrom l i (signLen l i) 6 5 else scan l m (i + 1)
def eguess (l : List UInt8) : Elem := scan l l.length 0
end Stil
/- Plain models of chapter 2, seventh part: ElemRead. -/
namespace Stil
def Elem.text (e : Elem) : List UInt8 := elemText e.op e.args
def elemReadB (l : List UInt8) : Bool := !l.isEmpty && decide (l.length ≤ 100) && (eguess l).text == l
def elemRead (l : List UInt8) : Elem := if elemReadB l then eguess l else ⟨0, []⟩
end Stil
/- Plain models of chapter 3: ladders. -/
namespace Stil
structure Net where
  kind : Int
  one : Elem
  kids : List Net
structure Arm where
  net : Net
  coils : List Elem
  kids : List Arm
theorem net_ind (P : Net → Prop) (h : ∀ k o kids, (∀ x ∈ kids, P x) → P ⟨k, o, kids⟩) : ∀ n, P n
  | ⟨k, o, kids⟩ => h k o kids (fun x _ => net_ind P h x)
theorem arm_ind (P : Arm → Prop) (h : ∀ n c kids, (∀ x ∈ kids, P x) → P ⟨n, c, kids⟩) : ∀ n, P n
  | ⟨k, o, kids⟩ => h k o kids (fun x _ => arm_ind P h x)
def netSize : Net → Nat
  | ⟨_, _, kids⟩ => 1 + (kids.map netSize).sum
theorem netSize_eq (k : Int) (o : Elem) (kids : List Net) : netSize ⟨k, o, kids⟩ = 1 + (kids.map netSize).sum := by rw [netSize]
def netNone (n : Net) : Bool := n.kind == 0 && n.one.op == 0 && n.one.args.length == 0 && n.kids.length == 0
def armSize : Arm → Nat
  | ⟨n, coils, kids⟩ => 1 + coils.length + (if netNone n then 0 else netSize n) + (kids.map armSize).sum
theorem armSize_eq (n : Net) (coils : List Elem) (kids : List Arm) : armSize ⟨n, coils, kids⟩ = 1 + coils.length + (if netNone n then 0 else netSize n) + (kids.map armSize).sum := by rw [armSize]
def treeSize (l : List Arm) : Nat := (l.map armSize).sum
def i64 (n : Int) : Prop := -9223372036854775808 ≤ n ∧ n ≤ 9223372036854775807
def Elem.fits (e : Elem) : Prop := i64 e.op ∧ e.args.length ≤ 1048576 ∧ ∀ d ∈ e.args, d.fits
theorem all_map {α : Type} (f : α → Prop) (l : List α) : (∀ p ∈ l.map f, p) ↔ ∀ x ∈ l, f x := by
  constructor
  · intro h x hx; exact h _ (List.mem_map.2 ⟨x, hx, rfl⟩)
  · intro h p hp; obtain ⟨x, hx, rfl⟩ := List.mem_map.1 hp; exact h x hx
def netFits : Net → Prop
  | ⟨k, e, kids⟩ => i64 k ∧ e.fits ∧ kids.length ≤ 1048576 ∧ ∀ p ∈ kids.map netFits, p
theorem netFits_eq (k : Int) (e : Elem) (kids : List Net) : netFits ⟨k, e, kids⟩ ↔ i64 k ∧ e.fits ∧ kids.length ≤ 1048576 ∧ ∀ x ∈ kids, netFits x := by rw [netFits, all_map]
def armFits : Arm → Prop
  | ⟨n, coils, kids⟩ => netFits n ∧ coils.length ≤ 1048576 ∧ (∀ c ∈ coils, c.fits) ∧ kids.length ≤ 1048576 ∧ ∀ p ∈ kids.map armFits, p
theorem armFits_eq (n : Net) (coils : List Elem) (kids : List Arm) : armFits ⟨n, coils, kids⟩ ↔ netFits n ∧ coils.length ≤ 1048576 ∧ (∀ c ∈ coils, c.fits) ∧ kids.length ≤ 1048576 ∧ ∀ x ∈ kids, armFits x := by rw [armFits, all_map]
theorem netFits_parts {n : Net} (h : netFits n) : i64 n.kind ∧ n.one.fits ∧ n.kids.length ≤ 1048576 ∧ ∀ x ∈ n.kids, netFits x := by obtain ⟨_, _, _⟩ := n; exact (netFits_eq _ _ _).1 h
theorem armFits_parts {n : Arm} (h : armFits n) : netFits n.net ∧ n.coils.length ≤ 1048576 ∧ (∀ c ∈ n.coils, c.fits) ∧ n.kids.length ≤ 1048576 ∧ ∀ x ∈ n.kids, armFits x := by obtain ⟨_, _, _⟩ := n; exact (armFits_eq _ _ _).1 h
end Stil
/- Plain models of chapter 3: what a ladder weighs, and what numbers a machine can hold. -/
namespace Stil
def netSz : Net → Nat
  | ⟨_, e, kids⟩ => e.args.length + (kids.length + (kids.map netSz).sum)
theorem netSz_eq (k : Int) (e : Elem) (kids : List Net) : netSz ⟨k, e, kids⟩ = e.args.length + (kids.length + (kids.map netSz).sum) := by rw [netSz]
def netsSz (l : List Net) : Nat := l.length + (l.map netSz).sum
def elemSz (e : Elem) : Nat := e.args.length
def elemsSz (l : List Elem) : Nat := l.length + (l.map elemSz).sum
def armSz : Arm → Nat
  | ⟨n, coils, kids⟩ => netSz n + (elemsSz coils + (kids.length + (kids.map armSz).sum))
theorem armSz_eq (n : Net) (coils : List Elem) (kids : List Arm) : armSz ⟨n, coils, kids⟩ = netSz n + (elemsSz coils + (kids.length + (kids.map armSz).sum)) := by rw [armSz]
def armsSz (l : List Arm) : Nat := l.length + (l.map armSz).sum
theorem netSz_parts (n : Net) : netSz n = elemSz n.one + netsSz n.kids := by obtain ⟨k, e, kids⟩ := n; rw [netSz_eq]; rfl
theorem armSz_parts (n : Arm) : armSz n = netSz n.net + (elemsSz n.coils + armsSz n.kids) := by obtain ⟨k, e, kids⟩ := n; rw [armSz_eq]; rfl
theorem mem_le_sum {α : Type} (f : α → Nat) : ∀ (l : List α) (x : α), x ∈ l → f x ≤ (l.map f).sum
  | y :: r, x, h => by
    rw [List.map_cons, List.sum_cons]
    rcases List.mem_cons.1 h with rfl | h
    · omega
    · have := mem_le_sum f r x h; omega
def Elem.wf (e : Elem) : Prop := i64 e.op ∧ e.args.length ≤ 9223372036854775807 ∧ ∀ d ∈ e.args, d.fits
def netWf : Net → Prop
  | ⟨k, e, kids⟩ => i64 k ∧ e.wf ∧ kids.length ≤ 9223372036854775807 ∧ ∀ p ∈ kids.map netWf, p
theorem netWf_eq (k : Int) (e : Elem) (kids : List Net) : netWf ⟨k, e, kids⟩ ↔ i64 k ∧ e.wf ∧ kids.length ≤ 9223372036854775807 ∧ ∀ x ∈ kids, netWf x := by rw [netWf, all_map]
def armWf : Arm → Prop
  | ⟨n, coils, kids⟩ => netWf n ∧ coils.length ≤ 9223372036854775807 ∧ (∀ c ∈ coils, c.wf) ∧ kids.length ≤ 9223372036854775807 ∧ ∀ p ∈ kids.map armWf, p
theorem armWf_eq (n : Net) (coils : List Elem) (kids : List Arm) : armWf ⟨n, coils, kids⟩ ↔ netWf n ∧ coils.length ≤ 9223372036854775807 ∧ (∀ c ∈ coils, c.wf) ∧ kids.length ≤ 9223372036854775807 ∧ ∀ x ∈ kids, armWf x := by rw [armWf, all_map]
theorem netWf_parts {n : Net} (h : netWf n) : i64 n.kind ∧ n.one.wf ∧ n.kids.length ≤ 9223372036854775807 ∧ ∀ x ∈ n.kids, netWf x := by obtain ⟨_, _, _⟩ := n; exact (netWf_eq _ _ _).1 h
theorem armWf_parts {n : Arm} (h : armWf n) : netWf n.net ∧ n.coils.length ≤ 9223372036854775807 ∧ (∀ c ∈ n.coils, c.wf) ∧ n.kids.length ≤ 9223372036854775807 ∧ ∀ x ∈ n.kids, armWf x := by obtain ⟨_, _, _⟩ := n; exact (armWf_eq _ _ _).1 h
theorem elemFits_of {e : Elem} (h : e.wf) (hs : elemSz e ≤ 1048576) : e.fits := ⟨h.1, hs, h.2.2⟩
theorem netFits_of (n : Net) : netWf n → netSz n ≤ 1048576 → netFits n := by
  induction n using net_ind with
  | h k e kids ih =>
    intro h hs
    obtain ⟨h1, h2, h3, h4⟩ := (netWf_eq _ _ _).1 h
    rw [netSz_eq] at hs
    refine (netFits_eq _ _ _).2 ⟨h1, elemFits_of h2 (by unfold elemSz; omega), by omega, fun x hx => ih x hx (h4 x hx) ?_⟩
    have := mem_le_sum netSz kids x hx
    omega
theorem armFits_of (n : Arm) : armWf n → armSz n ≤ 1048576 → armFits n := by
  induction n using arm_ind with
  | h n coils kids ih =>
    intro h hs
    obtain ⟨h1, h2, h3, h4, h5⟩ := (armWf_eq _ _ _).1 h
    rw [armSz_eq] at hs
    have he : elemsSz coils = coils.length + (coils.map elemSz).sum := rfl
    refine (armFits_eq _ _ _).2 ⟨netFits_of n h1 (by omega), by omega, fun c hc => elemFits_of (h3 c hc) ?_, by omega, fun x hx => ih x hx (h5 x hx) ?_⟩
    · have := mem_le_sum elemSz coils c hc
      omega
    · have := mem_le_sum armSz kids x hx
      omega
theorem netSize_le (n : Net) : netSize n ≤ 1 + netSz n := by
  induction n using net_ind with
  | h k e kids ih =>
    rw [netSize_eq, netSz_eq]
    have : ∀ l : List Net, (∀ x ∈ l, netSize x ≤ 1 + netSz x) → (l.map netSize).sum ≤ l.length + (l.map netSz).sum := by
      intro l
      induction l with
      | nil => intro _; simp
      | cons y r ih2 =>
        intro h
        have h1 := h y (by simp)
        have h2 := ih2 (fun x hx => h x (by simp [hx]))
        simp only [List.map_cons, List.sum_cons, List.length_cons]
        omega
    have := this kids ih
    omega
theorem armSize_le (n : Arm) : armSize n ≤ 2 + 2 * armSz n := by
  induction n using arm_ind with
  | h n coils kids ih =>
    rw [armSize_eq, armSz_eq]
    have : ∀ l : List Arm, (∀ x ∈ l, armSize x ≤ 2 + 2 * armSz x) → (l.map armSize).sum ≤ 2 * l.length + 2 * (l.map armSz).sum := by
      intro l
      induction l with
      | nil => intro _; simp
      | cons y r ih2 =>
        intro h
        have h1 := h y (by simp)
        have h2 := ih2 (fun x hx => h x (by simp [hx]))
        simp only [List.map_cons, List.sum_cons, List.length_cons]
        omega
    have h1 := this kids ih
    have h2 := netSize_le n
    have he : elemsSz coils = coils.length + (coils.map elemSz).sum := rfl
    split <;> omega
end Stil
/- Plain models of chapter 3, second part: what is wrong. -/
namespace Stil
def firstPos : List Int → Int
  | [] => 0
  | c :: r => if 0 < c then c else firstPos r
def badNet (k op : Int) (la lk : Nat) : Bool := decide (k < 2) || decide (4 < k) || op != 0 || decide ((0 : Int) < (la : Int)) || (lk : Int) == 0 || (k == 4 && (lk : Int) != 1)
def netWrong : Net → Int
  | ⟨k, e, kids⟩ =>
    if k = 1 then (if 0 < kids.length then 2 else if isContact e.op e.args then 0 else 3)
    else if badNet k e.op e.args.length kids.length then 2 else firstPos (kids.map netWrong)
theorem netWrong_eq (k : Int) (e : Elem) (kids : List Net) : netWrong ⟨k, e, kids⟩ = if k = 1 then (if 0 < kids.length then 2 else if isContact e.op e.args then 0 else 3)
    else if badNet k e.op e.args.length kids.length then 2 else firstPos (kids.map netWrong) := by rw [netWrong]
theorem firstPos_bound (l : List Int) (h : ∀ x ∈ l, 0 ≤ x ∧ x ≤ 5) : 0 ≤ firstPos l ∧ firstPos l ≤ 5 := by
  induction l with
  | nil => simp [firstPos]
  | cons x r ih =>
    unfold firstPos
    split
    · have := h x (by simp); omega
    · exact ih (fun y hy => h y (by simp [hy]))
theorem netWrong_bound (n : Net) : 0 ≤ netWrong n ∧ netWrong n ≤ 5 := by
  induction n using net_ind with
  | h k e kids ih =>
    rw [netWrong_eq]
    split
    · split
      · omega
      · split <;> omega
    · split
      · omega
      · exact firstPos_bound _ (fun x hx => by obtain ⟨y, hy, rfl⟩ := List.mem_map.1 hx; exact ih y hy)
end Stil
/- Plain models of chapter 3: nets and arms in the order in which they are walked. -/
namespace Stil
def netPre : Net → List Net
  | ⟨k, e, kids⟩ => ⟨k, e, kids⟩ :: (kids.map netPre).flatten
theorem netPre_eq (n : Net) : netPre n = n :: (n.kids.map netPre).flatten := by obtain ⟨k, e, kids⟩ := n; rw [netPre]
def netsPre (l : List Net) : List Net := (l.map netPre).flatten
def armPre : Arm → List Arm
  | ⟨n, c, kids⟩ => ⟨n, c, kids⟩ :: (kids.map armPre).flatten
theorem armPre_eq (n : Arm) : armPre n = n :: (n.kids.map armPre).flatten := by obtain ⟨k, e, kids⟩ := n; rw [armPre]
def armsPre (l : List Arm) : List Arm := (l.map armPre).flatten
def armOwn (a : Arm) : Nat := 1 + a.coils.length + (if netNone a.net then 0 else netSize a.net)
theorem flatten_len {α β : Type} (f : α → List β) : ∀ l : List α, ((l.map f).flatten).length = (l.map (fun x => (f x).length)).sum
  | [] => rfl
  | x :: r => by simp [flatten_len f r]
theorem map_congr' {α β : Type} {f g : α → β} {l : List α} (h : ∀ x ∈ l, f x = g x) : l.map f = l.map g := List.map_congr_left h
theorem netPre_len (n : Net) : (netPre n).length = netSize n := by
  induction n using net_ind with
  | h k e kids ih =>
    rw [netPre_eq, netSize_eq, List.length_cons, flatten_len, map_congr' ih]
    omega
theorem flatten_sum {α β : Type} (f : α → List β) (g : β → Nat) : ∀ l : List α, (((l.map f).flatten).map g).sum = (l.map (fun x => ((f x).map g).sum)).sum
  | [] => rfl
  | x :: r => by rw [List.map_cons, List.flatten_cons, List.map_append, List.sum_append, flatten_sum f g r, List.map_cons, List.sum_cons]
theorem armPre_sum (n : Arm) : ((armPre n).map armOwn).sum = armSize n := by
  induction n using arm_ind with
  | h n c kids ih =>
    rw [armPre_eq, armSize_eq, List.map_cons, List.sum_cons, flatten_sum, map_congr' ih]
    simp only [armOwn]
theorem armsPre_sum (l : List Arm) : ((armsPre l).map armOwn).sum = treeSize l := by
  unfold armsPre treeSize
  rw [flatten_sum, map_congr' (fun x _ => armPre_sum x)]
theorem netsPre_one (n : Net) : netsPre [n] = netPre n := by simp [netsPre]
theorem netsPre_take (l : List Net) (j : Nat) (h : j < l.length) : netsPre (l.take (j + 1)) = netsPre (l.take j) ++ (l[j] :: netsPre l[j].kids) := by
  unfold netsPre
  rw [List.take_succ_eq_append_getElem h, List.map_append, List.flatten_append]
  simp only [List.map_cons, List.map_nil, List.flatten_cons, List.flatten_nil, List.append_nil]
  rw [netPre_eq l[j]]
theorem armsPre_take (l : List Arm) (j : Nat) (h : j < l.length) : armsPre (l.take (j + 1)) = armsPre (l.take j) ++ (l[j] :: armsPre l[j].kids) := by
  unfold armsPre
  rw [List.take_succ_eq_append_getElem h, List.map_append, List.flatten_append]
  simp only [List.map_cons, List.map_nil, List.flatten_cons, List.flatten_nil, List.append_nil]
  rw [armPre_eq l[j]]
theorem netsPre_pre (l : List Net) (j : Nat) : netsPre (l.take j) <+: netsPre l := by
  have h : netsPre l = netsPre (l.take j) ++ netsPre (l.drop j) := by
    unfold netsPre
    rw [← List.flatten_append, ← List.map_append, List.take_append_drop]
  rw [h]
  exact List.prefix_append _ _
theorem armsPre_pre (l : List Arm) (j : Nat) : armsPre (l.take j) <+: armsPre l := by
  have h : armsPre l = armsPre (l.take j) ++ armsPre (l.drop j) := by
    unfold armsPre
    rw [← List.flatten_append, ← List.map_append, List.take_append_drop]
  rw [h]
  exact List.prefix_append _ _
theorem prefix_sum {α : Type} (g : α → Nat) {a b : List α} (h : a <+: b) : (a.map g).sum ≤ (b.map g).sum := by
  obtain ⟨c, rfl⟩ := h
  rw [List.map_append, List.sum_append]
  omega
theorem netPre_kids (n : Net) : ∀ x ∈ netPre n, ∀ y ∈ x.kids, y ∈ netPre n := by
  induction n using net_ind with
  | h k e kids ih =>
    intro x hx y hy
    rw [netPre_eq] at hx ⊢
    rcases List.mem_cons.1 hx with rfl | hx
    · exact List.mem_cons.2 (.inr (List.mem_flatten.2 ⟨_, List.mem_map.2 ⟨y, hy, rfl⟩, by rw [netPre_eq]; exact List.mem_cons.2 (.inl rfl)⟩))
    · obtain ⟨l, hl, hxl⟩ := List.mem_flatten.1 hx
      obtain ⟨z, hz, rfl⟩ := List.mem_map.1 hl
      exact List.mem_cons.2 (.inr (List.mem_flatten.2 ⟨_, hl, ih z hz x hxl y hy⟩))
theorem netsPre_kids (l : List Net) : ∀ x ∈ netsPre l, ∀ y ∈ x.kids, y ∈ netsPre l := by
  intro x hx y hy
  obtain ⟨m, hm, hxm⟩ := List.mem_flatten.1 hx
  obtain ⟨z, hz, rfl⟩ := List.mem_map.1 hm
  exact List.mem_flatten.2 ⟨_, hm, netPre_kids z x hxm y hy⟩
theorem netsPre_mem (l : List Net) : ∀ x ∈ l, x ∈ netsPre l := by
  intro x hx
  exact List.mem_flatten.2 ⟨_, List.mem_map.2 ⟨x, hx, rfl⟩, by rw [netPre_eq]; exact List.mem_cons.2 (.inl rfl)⟩
theorem netPre_fits (n : Net) : netFits n → ∀ x ∈ netPre n, netFits x := by
  induction n using net_ind with
  | h k e kids ih =>
    intro hf x hx
    rw [netPre_eq] at hx
    rcases List.mem_cons.1 hx with rfl | hx
    · exact hf
    · obtain ⟨l, hl, hxl⟩ := List.mem_flatten.1 hx
      obtain ⟨z, hz, rfl⟩ := List.mem_map.1 hl
      exact ih z hz (((netFits_parts hf).2.2.2) z hz) x hxl
theorem netsPre_fits (l : List Net) (hf : ∀ x ∈ l, netFits x) : ∀ x ∈ netsPre l, netFits x := by
  intro x hx
  obtain ⟨m, hm, hxm⟩ := List.mem_flatten.1 hx
  obtain ⟨z, hz, rfl⟩ := List.mem_map.1 hm
  exact netPre_fits z (hf z hz) x hxm
theorem armPre_kids (n : Arm) : ∀ x ∈ armPre n, ∀ y ∈ x.kids, y ∈ armPre n := by
  induction n using arm_ind with
  | h n c kids ih =>
    intro x hx y hy
    rw [armPre_eq] at hx ⊢
    rcases List.mem_cons.1 hx with rfl | hx
    · exact List.mem_cons.2 (.inr (List.mem_flatten.2 ⟨_, List.mem_map.2 ⟨y, hy, rfl⟩, by rw [armPre_eq]; exact List.mem_cons.2 (.inl rfl)⟩))
    · obtain ⟨l, hl, hxl⟩ := List.mem_flatten.1 hx
      obtain ⟨z, hz, rfl⟩ := List.mem_map.1 hl
      exact List.mem_cons.2 (.inr (List.mem_flatten.2 ⟨_, hl, ih z hz x hxl y hy⟩))
theorem armsPre_kids (l : List Arm) : ∀ x ∈ armsPre l, ∀ y ∈ x.kids, y ∈ armsPre l := by
  intro x hx y hy
  obtain ⟨m, hm, hxm⟩ := List.mem_flatten.1 hx
  obtain ⟨z, hz, rfl⟩ := List.mem_map.1 hm
  exact List.mem_flatten.2 ⟨_, hm, armPre_kids z x hxm y hy⟩
theorem armsPre_mem (l : List Arm) : ∀ x ∈ l, x ∈ armsPre l := by
  intro x hx
  exact List.mem_flatten.2 ⟨_, List.mem_map.2 ⟨x, hx, rfl⟩, by rw [armPre_eq]; exact List.mem_cons.2 (.inl rfl)⟩
theorem armPre_fits (n : Arm) : armFits n → ∀ x ∈ armPre n, armFits x := by
  induction n using arm_ind with
  | h n c kids ih =>
    intro hf x hx
    rw [armPre_eq] at hx
    rcases List.mem_cons.1 hx with rfl | hx
    · exact hf
    · obtain ⟨l, hl, hxl⟩ := List.mem_flatten.1 hx
      obtain ⟨z, hz, rfl⟩ := List.mem_map.1 hl
      exact ih z hz (((armFits_parts hf).2.2.2.2) z hz) x hxl
theorem armsPre_fits (l : List Arm) (hf : ∀ x ∈ l, armFits x) : ∀ x ∈ armsPre l, armFits x := by
  intro x hx
  obtain ⟨m, hm, hxm⟩ := List.mem_flatten.1 hx
  obtain ⟨z, hz, rfl⟩ := List.mem_map.1 hm
  exact armPre_fits z (hf z hz) x hxm
theorem mem_sum_le {α : Type} (g : α → Nat) {l : List α} {x : α} (h : x ∈ l) : g x ≤ (l.map g).sum := mem_le_sum g l x h
end Stil
/- Plain models of chapter 3: what is wrong with a ladder, by its parts in the order in which they are walked. -/
namespace Stil
theorem firstPos_append (a b : List Int) : firstPos (a ++ b) = if 0 < firstPos a then firstPos a else firstPos b := by
  induction a with
  | nil => simp [firstPos]
  | cons x r ih =>
    rw [List.cons_append, firstPos, firstPos, ih]
    by_cases h : 0 < x
    · simp [h]
    · simp [h]
theorem firstPos_flatten {α β : Type} (f : α → List β) (g : β → Int) (l : List α) : firstPos (((l.map f).flatten).map g) = firstPos (l.map (fun x => firstPos ((f x).map g))) := by
  induction l with
  | nil => rfl
  | cons x r ih =>
    rw [List.map_cons, List.flatten_cons, List.map_append, firstPos_append, ih, List.map_cons, firstPos]
def hasForm (n : Net) : Bool :=
  if n.kind = 1 then decide (n.kids.length = 0)
  else if n.kind = 2 ∨ n.kind = 3 then (n.one.op == 0 && n.one.args.length == 0) && decide (0 < n.kids.length)
  else if n.kind = 4 then (n.one.op == 0 && n.one.args.length == 0) && decide (n.kids.length = 1)
  else false
def netOwnWrong (n : Net) : Int := if hasForm n then (if n.kind = 1 then (if isContact n.one.op n.one.args then 0 else 3) else 0) else 2
theorem netPre_wrong (n : Net) : firstPos ((netPre n).map netOwnWrong) = netWrong n := by
  induction n using net_ind with
  | h k e kids ih =>
    have e1 : firstPos ((netPre ⟨k, e, kids⟩).map netOwnWrong) = if 0 < netOwnWrong ⟨k, e, kids⟩ then netOwnWrong ⟨k, e, kids⟩ else firstPos (kids.map netWrong) := by
      rw [netPre_eq, List.map_cons, firstPos, firstPos_flatten, map_congr' ih]
    rw [e1, netWrong_eq]
    unfold netOwnWrong hasForm
    simp only
    by_cases h1 : k = 1
    · subst h1
      by_cases h2 : 0 < kids.length
      · have h3 : ¬ kids.length = 0 := by omega
        simp only [if_true, h3, decide_false, h2]
        simp
      · have h3 : kids.length = 0 := by omega
        have h4 : kids = [] := List.eq_nil_of_length_eq_zero h3
        subst h4
        cases isContact e.op e.args <;> simp [firstPos]
    · rw [if_neg h1, if_neg h1, if_neg h1]
      unfold badNet
      obtain ⟨q, hq⟩ : ∃ q, q = firstPos (kids.map netWrong) := ⟨_, rfl⟩
      rw [← hq]
      generalize kids.length = lk
      generalize e.args.length = la
      generalize e.op = op
      have h5 : k < 2 ∨ (k = 2 ∨ k = 3) ∨ k = 4 ∨ 4 < k := by omega
      rcases h5 with h5 | h5 | rfl | h5
      · have n2 : ¬ (k = 2 ∨ k = 3) := by omega
        have n4 : ¬ k = 4 := by omega
        simp [h5, n2, n4]
      · rw [if_pos h5]
        have h4 : (k == 4) = false := by rw [beq_eq_false_iff_ne]; omega
        have h6 : decide (k < 2) = false := by rw [decide_eq_false_iff_not]; omega
        have h7 : decide (4 < k) = false := by rw [decide_eq_false_iff_not]; omega
        rw [h4, h6, h7]
        by_cases ho : op = 0
        · by_cases ha : la = 0
          · by_cases hk : lk = 0
            · simp [ho, ha, hk]
            · have : 0 < lk := by omega
              simp [ho, ha, this, hk]
          · have : 0 < la := by omega
            simp [ho, ha, this]
        · simp [ho]
      · by_cases ho : op = 0
        · by_cases ha : la = 0
          · by_cases hk : lk = 1
            · simp [ho, ha, hk]
            · have hk' : ¬ (lk : Int) = 1 := by omega
              simp [ho, ha, hk, hk']
          · have : 0 < la := by omega
            simp [ho, ha, this]
        · simp [ho]
      · have n2 : ¬ (k = 2 ∨ k = 3) := by omega
        have n4 : ¬ k = 4 := by omega
        simp [h5, n2, n4]
def coilsBad (l : List Elem) : Bool := l.any (fun c => !isCoil c.op c.args)
def armOwnWrong (a : Arm) : Int :=
  if netNone a.net = false ∧ 0 < netWrong a.net then netWrong a.net
  else if coilsBad a.coils then 3
  else if a.coils.length = 0 ∧ a.kids.length = 0 then 5 else 0
def armWrong : Arm → Int
  | ⟨n, coils, kids⟩ => if 0 < armOwnWrong ⟨n, coils, kids⟩ then armOwnWrong ⟨n, coils, kids⟩ else firstPos (kids.map armWrong)
theorem armWrong_eq (a : Arm) : armWrong a = if 0 < armOwnWrong a then armOwnWrong a else firstPos (a.kids.map armWrong) := by obtain ⟨n, c, kids⟩ := a; rw [armWrong]
theorem armPre_wrong (a : Arm) : firstPos ((armPre a).map armOwnWrong) = armWrong a := by
  induction a using arm_ind with
  | h n c kids ih =>
    rw [armPre_eq, List.map_cons, firstPos, firstPos_flatten, map_congr' ih, armWrong_eq]
theorem armOwnWrong_bound (a : Arm) : 0 ≤ armOwnWrong a ∧ armOwnWrong a ≤ 5 := by
  unfold armOwnWrong
  have := netWrong_bound a.net
  split
  · omega
  · split
    · omega
    · split <;> omega
theorem armWrong_bound (a : Arm) : 0 ≤ armWrong a ∧ armWrong a ≤ 5 := by
  rw [← armPre_wrong]
  exact firstPos_bound _ (fun x hx => by obtain ⟨y, hy, rfl⟩ := List.mem_map.1 hx; exact armOwnWrong_bound y)
def rungWrong (a : Arm) : Int := if netNone a.net then 4 else armWrong a
def treeBadAt (l : List Arm) : Nat → Int × Nat
  | 0 => (0, 0)
  | n + 1 => match l with
    | [] => (0, 0)
    | a :: r => if 0 < rungWrong a then (rungWrong a, 0) else (fun p : Int × Nat => if 0 < p.1 then (p.1, p.2 + 1) else (0, 0)) (treeBadAt r n)
end Stil
/- Plain models of chapter 3: TreeCheck. -/
namespace Stil
def firstRung : List Arm → Nat → Int × Nat
  | [], _ => (0, 0)
  | a :: r, k => if 0 < rungWrong a then (rungWrong a, k) else firstRung r (k + 1)
def treeCheck (l : List Arm) : Int × Nat := if 40 < l.length ∨ 400 < treeSize l then (1, 0) else firstRung l 0
theorem firstRung_drop (l : List Arm) (j : Nat) (h : j < l.length) : firstRung (l.drop j) j = if 0 < rungWrong l[j] then (rungWrong l[j], j) else firstRung (l.drop (j + 1)) (j + 1) := by
  rw [List.drop_eq_getElem_cons h, firstRung]
theorem rungWrong_bound (a : Arm) : 0 ≤ rungWrong a ∧ rungWrong a ≤ 5 := by
  unfold rungWrong
  split
  · omega
  · exact armWrong_bound a
theorem coilsBad_drop (l : List Elem) (j : Nat) (h : j < l.length) : coilsBad (l.drop j) = (!isCoil l[j].op l[j].args || coilsBad (l.drop (j + 1))) := by
  rw [List.drop_eq_getElem_cons h]; rfl
end Stil
