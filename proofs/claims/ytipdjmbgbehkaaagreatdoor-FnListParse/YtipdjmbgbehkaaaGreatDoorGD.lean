/- D1, D2, D3, D4, D5: texts put together. -/
import Derived.Test.YtipdjmbgbehkaaaGreatDoorGC
import Derived.Test.YtipdjmbgbehkaaaGreatDoorGI
import Derived.Deep.RegionWith
set_option maxHeartbeats 4000000
set_option maxRecDepth 100000
/- Contracts of the specification's draws: the reader. -/
namespace Go.Proofs.YtipdjmbgbehkaaaGreatDoor
open Go.RowKit Go.Sort Go.BigFrame
/-- A reader of bytes in block g; its place is at most P. -/
def RdAt (w : World) (g P : Nat) : Prop := ∃ (a : Option Addr) (len cap p : Nat), w.cell? ⟨g, 0, none⟩ = some (.slice a len cap) ∧ w.cell? ⟨g, 1, none⟩ = some (.int .i64 p) ∧ w.frozen? ⟨g, 1, none⟩ = false ∧ p ≤ P ∧ len ≤ 2000 ∧
 ∀ i, i < len → ∃ b o z, a = some ⟨b, o, none⟩ ∧ b < g ∧ w.cell? ⟨b, o + i, none⟩ = some (.int .u8 z) ∧ 0 ≤ z ∧ z < 256
theorem grown_set (w : World) (g o : Nat) (v : Value) : w.grownBy (w.setCell ⟨g, o, none⟩ v) (some g) := by
 refine ⟨rfl, rfl, rfl, by simp, fun k hk hne => ?_⟩
 simp only [World.setCell, Array.getElem?_modify]
 rw [if_neg (fun e => hne (by rw [e]))]
theorem rd_step {w : World} {g P : Nat} {a : Option Addr} {len cap p : Nat} (c0 : w.cell? ⟨g, 0, none⟩ = some (.slice a len cap)) (c1 : w.cell? ⟨g, 1, none⟩ = some (.int .i64 p)) (f1 : w.frozen? ⟨g, 1, none⟩ = false) (hp : p ≤ P) (hlen : len ≤ 2000)
  (hb : ∀ i, i < len → ∃ b o z, a = some ⟨b, o, none⟩ ∧ b < g ∧ w.cell? ⟨b, o + i, none⟩ = some (.int .u8 z) ∧ 0 ≤ z ∧ z < 256) :
  RdAt (w.setCell ⟨g, 1, none⟩ (.int .i64 ((p : Int) + 1))) g (P + 1) ∧ w.grownBy (w.setCell ⟨g, 1, none⟩ (.int .i64 ((p : Int) + 1))) (some g) := by
 refine ⟨⟨a, len, cap, p + 1, ?_, ?_, ?_, by omega, hlen, fun i hi => ?_⟩, grown_set _ _ _ _⟩
 ·simp [go_sem, c0]
 ·simp [go_sem, c1]
 ·simp [go_sem, f1]
 ·obtain ⟨b, o, z, ha, hbg, hz, h1, h2⟩ := hb i hi
  have hne : ¬ b = g := by omega
  have hne2 : ¬ g = b := by omega
  exact ⟨b, o, z, ha, hbg, by simp [go_sem, hz], h1, h2⟩
theorem xor_nn (a b : Nat) (ha : a < 4611686018427387904) (hb : b < 4611686018427387904) : ∃ m : Nat, bits .xor .i64 (a : Int) (b : Int) = (m : Int) := by
 have ha' : a % 2 ^ 64 = a := Nat.mod_eq_of_lt (by omega)
 have hb' : b % 2 ^ 64 = b := Nat.mod_eq_of_lt (by omega)
 have hx : a ^^^ b < 2 ^ 62 := Nat.xor_lt_two_pow (n := 62) (by omega) (by omega)
 refine ⟨a ^^^ b, ?_⟩
 have e : bits .xor .i64 (a : Int) (b : Int) = IntKind.i64.wrap ((a ^^^ b : Nat) : Int) := by
  simp only [bits, BitVec.ofInt_natCast, BitVec.toNat_xor, BitVec.toNat_ofNat]
  rw [show IntKind.i64.bits = 64 from rfl, ha', hb']
 rw [e, IntKind.wrap_i64]
 omega
theorem rd_drewN {w : World} {g P : Nat} (h : RdAt w g P) (n : Nat) : RdAt (w.drewN n) g P := h
theorem grown_drewN {w w' : World} {g : Nat} (h : w.grownBy w' (some g)) (n : Nat) : w.grownBy (w'.drewN n) (some g) := ⟨h.os, h.tape, h.output, h.size, h.block⟩
theorem grown_refl (w : World) (r : Option Nat) : w.grownBy w r := ⟨rfl, rfl, rfl, Nat.le_refl _, fun _ _ _ => rfl⟩
theorem grown_trans {a b c : World} {r : Option Nat} (h : a.grownBy b r) (k : b.grownBy c r) : a.grownBy c r :=
 ⟨k.os.trans h.os, k.tape.trans h.tape, k.output.trans h.output, Nat.le_trans h.size k.size, fun j hj hn => (k.block j (Nat.lt_of_lt_of_le hj h.size) hn).trans (h.block j hj hn)⟩
theorem grown_below {a b : World} (h : Below a.heap.size a b) (r : Option Nat) : a.grownBy b r := ⟨h.os, h.tape, h.output, h.size, fun k hk _ => h.block k hk⟩
theorem below_grown_at {a b : World} {g : Nat} (h : a.grownBy b (some g)) (hg : g ≤ a.heap.size) : Below g a b := ⟨h.os, h.tape, h.output, h.size, fun k hk => h.block k (by omega) (by intro e; cases e; omega)⟩
theorem s_pick (g P : Nat) (n : Int) (w : World) (hr : RdAt w g P) (hP : P ≤ 1000000000000) (hn2 : n ≤ 1000000) (hn3 : -1000000 ≤ n) :
  Calls Tryz.prog 35 #[.pointer (some ⟨g, 0, none⟩), .int .i64 n] w fun e w' => ∃ x : Int, e = .returned (.int .i64 x) ∧ 0 ≤ x ∧ (x < n ∨ x = 0) ∧ RdAt w' g (P + 1) ∧ w.grownBy w' (some g) := by
 obtain ⟨a, len, cap, p, c0, c1, f1, hp, hlen, hb⟩ := hr
 by_cases h0 : len = 0
 ·subst h0
  have hst := rd_step c0 c1 f1 hp hlen hb
  clear hb
  go_enter Tryz.func35, Tryz.ntmps35
  go_wp2
  all_goals go_ret
  all_goals exact ⟨0, rfl, by omega, by omega, hst⟩
 by_cases hn1 : n < 1
 ·have hst := rd_step c0 c1 f1 hp hlen hb
  have hle : ((len : Int) == 0) = false := by rw [beq_eq_false_iff_ne]; omega
  have hn1' : decide (n < 1) = true := by simpa using hn1
  clear hb
  go_enter Tryz.func35, Tryz.ntmps35
  go_wp2
  go_ret
  exact ⟨0, rfl, by omega, by omega, hst⟩
 ·have hle : ((len : Int) == 0) = false := by rw [beq_eq_false_iff_ne]; omega
  have hst := rd_step c0 c1 f1 hp hlen hb
  by_cases hk : p < len
  ·obtain ⟨b, o, z, rfl, hbg, hz, hz0, hz1⟩ := hb p hk
   have hmod : 0 ≤ z % n ∧ z % n < n := ⟨Int.emod_nonneg _ (by omega), Int.emod_lt_of_pos _ (by omega)⟩
   clear hb
   go_enter Tryz.func35, Tryz.ntmps35
   go_wp2
   go_ret
   exact ⟨_, rfl, hmod.1, Or.inl hmod.2, hst⟩
  ·obtain ⟨b, o, z, rfl, hbg, hz, hz0, hz1⟩ := hb (p % len) (Nat.mod_lt _ (by omega))
   obtain ⟨b', o', z', hab, _, hz', hz0', hz1'⟩ := hb ((p * 7 + 3) % len) (Nat.mod_lt _ (by omega))
   simp only [Option.some.injEq, Addr.mk.injEq, and_true] at hab
   obtain ⟨rfl, rfl⟩ := hab
   clear hb
   obtain ⟨q, hq⟩ : ∃ q, q = p % len := ⟨_, rfl⟩
   obtain ⟨r, hr⟩ : ∃ r, r = (p * 7 + 3) % len := ⟨_, rfl⟩
   obtain ⟨t, ht⟩ : ∃ t, t = p / len := ⟨_, rfl⟩
   have hql : q < len := by rw [hq]; exact Nat.mod_lt _ (by omega)
   have hrl : r < len := by rw [hr]; exact Nat.mod_lt _ (by omega)
   have htp : t ≤ p := by rw [ht]; exact Nat.div_le_self _ _
   have hqi : (p : Int) % (len : Int) = q := by rw [hq]; simp
   have hri : ((p : Int) * 7 + 3) % (len : Int) = r := by rw [hr]; simp
   have hti : (p : Int) / (len : Int) = t := by rw [ht]; simp
   rw [← hq] at hz
   rw [← hr] at hz'
   clear hq hr ht
   go_enter Tryz.func35, Tryz.ntmps35
   go_wp2
   go_quiet (fail)
   go_wp2
   go_ret
   obtain ⟨y, hy⟩ : ∃ y : Nat, z * 131 + z' * 1117 + (p : Int) * 29 + (t : Int) * 53 = (y : Int) := Int.eq_ofNat_of_zero_le (by omega)
   have hyb : y < 4611686018427387904 := by omega
   obtain ⟨m, hm⟩ := xor_nn y (y / 64) hyb (by omega)
   have hy64 : ((y : Int) / 64) = ((y / 64 : Nat) : Int) := by omega
   refine ⟨_, rfl, ?_, ?_, rd_drewN hst.1 _, grown_drewN hst.2 _⟩
   ·rw [hy, hy64, hm]; exact Int.tmod_nonneg _ (by omega)
   ·left; rw [hy, hy64, hm]; exact Int.tmod_lt_of_pos _ (by omega)
theorem grown_cell {w w' : World} {g b o : Nat} (h : w.grownBy w' (some g)) (hb : b < w.heap.size) (hne : b ≠ g) : w'.cell? ⟨b, o, none⟩ = w.cell? ⟨b, o, none⟩ := by
 unfold World.cell?
 rw [h.block b hb (by intro e; cases e; exact hne rfl)]
theorem grown_frozen {w w' : World} {g b o : Nat} (h : w.grownBy w' (some g)) (hb : b < w.heap.size) (hne : b ≠ g) : w'.frozen? ⟨b, o, none⟩ = w.frozen? ⟨b, o, none⟩ := by
 unfold World.frozen?
 rw [h.block b hb (by intro e; cases e; exact hne rfl)]
theorem gr_alloc {w a : World} {r : Option Nat} (h : w.grownBy a r) (o : Obj) : w.grownBy (a.alloc o) r := grown_trans h (grown_below (below_alloc a o) r)
theorem gr_drew {w a : World} {r : Option Nat} (h : w.grownBy a r) : w.grownBy a.drew r := ⟨h.os, h.tape, h.output, h.size, h.block⟩
theorem gr_set {w a : World} {r : Option Nat} {p : Addr} (hp : w.heap.size ≤ p.block) (h : w.grownBy a r) (v : Value) : w.grownBy (a.setCell p v) r :=
 ⟨h.os, h.tape, h.output, by simpa using h.size, fun k hk hn => by
  rw [← h.block k hk hn]
  simp only [World.setCell, Array.getElem?_modify]
  rw [if_neg (by omega)]⟩
theorem gr_call {w a b : World} {r : Option Nat} (h : w.grownBy a r) (k : a.grownBy b r) : w.grownBy b r := grown_trans h k
theorem glA {w W : World} {r : Option Nat} (h : w.grownBy W r := by (repeat (first | with_reducible exact grown_refl _ _ | with_reducible assumption | with_reducible refine gr_set (by first | exact Nat.le_refl _ | (simp; done) | (simp; omega) | omega) ?_ _ | with_reducible refine gr_alloc ?_ _ | with_reducible refine gr_drewN ?_ _ | with_reducible refine gr_drew ?_ | with_reducible refine gr_call ?_ (by with_reducible assumption)))) : w.grownBy W r := h
theorem rd_alloc {w : World} {g P : Nat} (h : RdAt w g P) (o : Obj) : RdAt (w.alloc o) g P := by
 obtain ⟨a, len, cap, p, c0, c1, f1, hp, hlen, hb⟩ := h
 have hg : g < w.heap.size := by
  unfold World.cell? at c0
  cases hh : w.heap[g]? with
  | none => simp [hh] at c0
  | some x => exact (Array.getElem?_eq_some_iff.1 hh).1
 have hbel := below_alloc w o
 refine ⟨a, len, cap, p, by rw [hbel.cell (p := ⟨g, 0, none⟩) hg]; exact c0, by rw [hbel.cell (p := ⟨g, 1, none⟩) hg]; exact c1, by rw [hbel.frozen (p := ⟨g, 1, none⟩) hg]; exact f1, hp, hlen, fun i hi => ?_⟩
 obtain ⟨b, q, z, ha, hbg, hz, h1, h2⟩ := hb i hi
 exact ⟨b, q, z, ha, hbg, by rw [hbel.cell (p := ⟨b, q + i, none⟩) (by show b < _; omega)]; exact hz, h1, h2⟩
theorem rd_lt {w : World} {g P : Nat} (h : RdAt w g P) : g < w.heap.size := by
 obtain ⟨a, len, cap, p, c0, _⟩ := h
 unfold World.cell? at c0
 cases hh : w.heap[g]? with
 | none => simp [hh] at c0
 | some x => exact (Array.getElem?_eq_some_iff.1 hh).1
theorem rd_mono {w : World} {g P Q : Nat} (h : RdAt w g P) (hPQ : P ≤ Q) : RdAt w g Q := by
 obtain ⟨a, len, cap, p, c0, c1, f1, hp, hr⟩ := h
 exact ⟨a, len, cap, p, c0, c1, f1, by omega, hr⟩
theorem rd_set {w : World} {g P b o : Nat} (h : RdAt w g P) (hb : g < b) (v : Value) : RdAt (w.setCell ⟨b, o, none⟩ v) g P := by
 obtain ⟨a, len, cap, p, c0, c1, f1, hp, hlen, hx⟩ := h
 have h1 : ¬ g = b := by omega
 have h2 : ¬ b = g := by omega
 refine ⟨a, len, cap, p, by simp [go_sem, c0], by simp [go_sem, c1], by simp [go_sem, f1], hp, hlen, fun i hi => ?_⟩
 obtain ⟨c, q, z, ha, hbg, hz, k1, k2⟩ := hx i hi
 have h3 : ¬ c = b := by omega
 have h4 : ¬ b = c := by omega
 exact ⟨c, q, z, ha, hbg, by simp [go_sem, hz], k1, k2⟩
theorem cell_set_other {W : World} {b c o p : Nat} {v : Value} (h : c ≠ b) : (W.setCell ⟨b, o, none⟩ v).cell? ⟨c, p, none⟩ = W.cell? ⟨c, p, none⟩ := by
 have h1 : ¬ b = c := fun e => h e.symm
 simp [go_sem]
theorem cell_set_off {W : World} {b o p : Nat} {v : Value} (h : p ≠ o) : (W.setCell ⟨b, o, none⟩ v).cell? ⟨b, p, none⟩ = W.cell? ⟨b, p, none⟩ := by
 have h1 : ¬ o = p := fun e => h e.symm
 simp [go_sem]
theorem cell_set_at {W : World} {b o : Nat} {v u : Value} (h : W.cell? ⟨b, o, none⟩ = some u) : (W.setCell ⟨b, o, none⟩ v).cell? ⟨b, o, none⟩ = some v := by
 simp [go_sem, h]
theorem frozen_set {W : World} {b c o p : Nat} {v : Value} : (W.setCell ⟨b, o, none⟩ v).frozen? ⟨c, p, none⟩ = W.frozen? ⟨c, p, none⟩ := by
 simp [go_sem]
theorem cell_alloc_old {W : World} {ob : Obj} {c p : Nat} (h : c < W.heap.size) : (W.alloc ob).cell? ⟨c, p, none⟩ = W.cell? ⟨c, p, none⟩ := (below_alloc W ob).cell (p := ⟨c, p, none⟩) h
theorem frozen_alloc_old {W : World} {ob : Obj} {c p : Nat} (h : c < W.heap.size) : (W.alloc ob).frozen? ⟨c, p, none⟩ = W.frozen? ⟨c, p, none⟩ := (below_alloc W ob).frozen (p := ⟨c, p, none⟩) h
theorem rd_drew {w : World} {g P : Nat} (h : RdAt w g P) : RdAt w.drew g P := h
theorem rlA {w : World} {g P : Nat} (h : RdAt w g P := by (repeat (first | with_reducible assumption | with_reducible refine rd_set ?_ (by first | omega | (simp; omega)) _ | with_reducible refine rd_alloc ?_ _ | with_reducible refine rd_drewN ?_ _ | with_reducible refine rd_drew ?_ | exact rd_mono (by with_reducible assumption) (by omega)))) : RdAt w g P := h
theorem cell_drew {W : World} {a : Addr} : W.drew.cell? a = W.cell? a := rfl
theorem cfA {W : World} {a : Addr} {o : Option Value} (h : W.cell? a = o := by (repeat (first | with_reducible assumption | with_reducible refine cell_drew.trans ?_ | with_reducible refine (cell_set_other (by omega)).trans ?_ | with_reducible refine (cell_set_off (by omega)).trans ?_ | with_reducible refine (cell_alloc_old ltA).trans ?_ | with_reducible apply cell_set_at | (simp [go_sem]; done)))) : W.cell? a = o := h
theorem frozen_drew {W : World} {a : Addr} : W.drew.frozen? a = W.frozen? a := rfl
theorem ffA {W : World} {a : Addr} {o : Bool} (h : W.frozen? a = o := by (repeat (first | with_reducible assumption | with_reducible refine frozen_drew.trans ?_ | with_reducible refine frozen_set.trans ?_ | with_reducible refine (frozen_alloc_old ltA).trans ?_ | (simp [go_sem]; done)))) : W.frozen? a = o := h
theorem gcA {w W : World} {g : Nat} {b o : Nat} {v : Option Value} (hg : w.grownBy W (some g)) (h1 : b < w.heap.size := by first | with_reducible assumption | (simp; done) | (simp; omega)) (h2 : b ≠ g := by omega) (h3 : w.cell? ⟨b, o, none⟩ = v := by (repeat (first | with_reducible assumption | with_reducible refine cell_drew.trans ?_ | with_reducible refine (cell_set_other (by omega)).trans ?_ | with_reducible refine (cell_set_off (by omega)).trans ?_ | with_reducible refine (cell_alloc_old ltA).trans ?_ | with_reducible apply cell_set_at | (simp [go_sem]; done)))) : W.cell? ⟨b, o, none⟩ = v := (grown_cell hg h1 h2).trans h3
theorem gfA {w W : World} {g : Nat} {b o : Nat} {v : Bool} (hg : w.grownBy W (some g)) (h1 : b < w.heap.size := by first | with_reducible assumption | (simp; done) | (simp; omega)) (h2 : b ≠ g := by omega) (h3 : w.frozen? ⟨b, o, none⟩ = v := by (repeat (first | with_reducible assumption | with_reducible refine frozen_drew.trans ?_ | with_reducible refine frozen_set.trans ?_ | with_reducible refine (frozen_alloc_old ltA).trans ?_ | (simp [go_sem]; done)))) : W.frozen? ⟨b, o, none⟩ = v := (grown_frozen hg h1 h2).trans h3
theorem rd_set' {w : World} {g P b o : Nat} {v : Value} (hb : g < b) (h : RdAt w g P) : RdAt (w.setCell ⟨b, o, none⟩ v) g P := rd_set h hb v
theorem raA {w : World} {g P : Nat} (h : RdAt w g P := by (repeat (first | with_reducible assumption | with_reducible apply rd_alloc | with_reducible apply rd_drewN | with_reducible apply rd_drew | (with_reducible apply rd_set'; first | omega | (simp; omega))))) : RdAt w g P := h
theorem s_num (g P b cap : Nat) (l : List Int) (w : World) (hr : RdAt w g P) (hP : P ≤ 1000000000000) (hat : IntsAt w b 0 l) (hbw : b < w.heap.size) (hbg : b ≠ g) (hl1 : 1 ≤ l.length) (hl2 : l.length ≤ 1000) :
  Calls Tryz.prog 37 #[.pointer (some ⟨g, 0, none⟩), .slice (some ⟨b, 0, none⟩) l.length cap] w fun e w' => ∃ x : Int, e = .returned (.int .i64 x) ∧ x ∈ l ∧ RdAt w' g (P + 1) ∧ w.grownBy w' (some g) := by
 have HA : Hid (IntsAt w b 0 l) := hat
 clear hat
 go_enter Tryz.func37, Tryz.ntmps37
 go_wp2_with (go_at_call 35; refine (s_pick g P _ _ hr hP (by omega) (by omega)).mono ?_; rintro e w1 ⟨x, rfl, hx0, hx1, hrd, hgr⟩; obtain ⟨j, rfl⟩ := Int.eq_ofNat_of_zero_le hx0; have hj : j < l.length := (by omega); have hc : w1.cell? ⟨b, j, none⟩ = some (.int .i64 l[j]) := (by rw [grown_cell hgr hbw hbg]; have := HA.out j hj; rwa [Nat.zero_add] at this))
 go_ret
 exact ⟨_, rfl, List.getElem_mem hj, hrd, hgr⟩
/-- An operand of small numbers. -/
def Small (d : Stil.Dev) : Prop := (-10000000000 ≤ d.kind ∧ d.kind ≤ 10000000000) ∧ (-10000000000 ≤ d.n ∧ d.n ≤ 10000000000) ∧ (-10000000000 ≤ d.p ∧ d.p ≤ 10000000000)
theorem Small.fits {d : Stil.Dev} (h : Small d) : d.fits := by
 obtain ⟨⟨a, b⟩, ⟨c, d⟩, ⟨e, f⟩⟩ := h
 exact ⟨⟨by omega, by omega⟩, ⟨by omega, by omega⟩, ⟨by omega, by omega⟩⟩
theorem small_mk {k n p : Int} (h : -10000000000 ≤ k ∧ k ≤ 10000000000 ∧ -10000000000 ≤ n ∧ n ≤ 10000000000 ∧ -10000000000 ≤ p ∧ p ≤ 10000000000) : Small ⟨k, n, p⟩ := ⟨⟨h.1, h.2.1⟩, ⟨h.2.2.1, h.2.2.2.1⟩, ⟨h.2.2.2.2.1, h.2.2.2.2.2⟩⟩
theorem devSize_le (k : Int) : 0 ≤ Stil.devSize k ∧ Stil.devSize k ≤ 64 := by
 unfold Stil.devSize
 split
 ·omega
 ·split
  ·omega
  ·split
   ·omega
   ·split <;> omega
theorem s_l1Arg (g P : Nat) (k : Int) (w : World) (hr : RdAt w g P) (hP : P ≤ 100000000000) (hk1 : -1000000 ≤ k) (hk2 : k ≤ 1000000) :
  Calls Tryz.prog 104 #[.pointer (some ⟨g, 0, none⟩), .int .i64 k] w fun e w' => ∃ d : Stil.Dev, e = .returned (.agg #[.int .i64 d.kind, .int .i64 d.n, .int .i64 d.p]) ∧ Small d ∧ RdAt w' g (P + 3) ∧ w.grownBy w' (some g) := by
 have hg := rd_lt hr
 have hne : ¬ w.heap.size = g := by omega
 have hsz := devSize_le k
 by_cases h11 : k = 11
 ·subst h11
  go_enter Tryz.func104, Tryz.ntmps104
  go_wp2_with (go_at_call_of 37 (12 : Nat); refine (s_num g _ _ _ [0, 1, 2, 3, 5, -1, -7, 10, 100, 32767, -32768, 1000] _ (rd_alloc (rd_alloc hr _) _) (by omega) (ints_of_from (by simp [IntsFrom, go_sem])) (by simp) (by first | (simp; omega) | omega) (by simp) (by simp)).mono ?_; rintro e w1 ⟨x, rfl, hx, hrd, hgr⟩; have hz0 : w.heap.size < w1.heap.size := Nat.lt_of_lt_of_le ltA hgr.size; obtain ⟨q0, p0, q1, p1, q2, p2⟩ : w1.cell? ⟨w.heap.size, 0, none⟩ = some (.int .i64 0) ∧ w1.frozen? ⟨w.heap.size, 0, none⟩ = false ∧ w1.cell? ⟨w.heap.size, 1, none⟩ = some (.int .i64 0) ∧ w1.frozen? ⟨w.heap.size, 1, none⟩ = false ∧ w1.cell? ⟨w.heap.size, 2, none⟩ = some (.int .i64 0) ∧ w1.frozen? ⟨w.heap.size, 2, none⟩ = false := ⟨gcA hgr, gfA hgr, gcA hgr, gfA hgr, gcA hgr, gfA hgr⟩)
  all_goals
   refine bodyPost_ret (by simp [results, Tryz.results104, go_sem, q0, q1, q2]; rfl) rfl ?_
   try simp only [List.mem_cons, List.not_mem_nil, or_false] at *
   exact ⟨⟨_, _, _⟩, rfl, small_mk (by omega), rlA, glA⟩
 ·by_cases h12 : k = 12
  ·subst h12
   go_enter Tryz.func104, Tryz.ntmps104
   go_wp2_with (first | (go_at_call_of 37 (11 : Nat); refine (s_num g _ _ _ [0, 1, 5, -5, 25, -15, 999999999, -999999999, 3, 1001, 7] _ (rd_alloc (rd_alloc hr _) _) (by omega) (ints_of_from (by simp [IntsFrom, go_sem])) (by simp) (by first | (simp; omega) | omega) (by simp) (by simp)).mono ?_; rintro e w1 ⟨x, rfl, hx, hrd, hgr⟩; have hz0 : w.heap.size < w1.heap.size := Nat.lt_of_lt_of_le ltA hgr.size; obtain ⟨q0, p0, q1, p1, q2, p2⟩ : w1.cell? ⟨w.heap.size, 0, none⟩ = some (.int .i64 0) ∧ w1.frozen? ⟨w.heap.size, 0, none⟩ = false ∧ w1.cell? ⟨w.heap.size, 1, none⟩ = some (.int .i64 0) ∧ w1.frozen? ⟨w.heap.size, 1, none⟩ = false ∧ w1.cell? ⟨w.heap.size, 2, none⟩ = some (.int .i64 0) ∧ w1.frozen? ⟨w.heap.size, 2, none⟩ = false := ⟨gcA hgr, gfA hgr, gcA hgr, gfA hgr, gcA hgr, gfA hgr⟩) | (go_at_call_of 35 (Value.int IntKind.i64 6); refine (s_pick g _ _ _ (hrd) (by omega) (by omega) (by omega)).mono ?_; rintro e w1 ⟨x, rfl, hx0, hx1, hrd, hgr⟩; have hz0 : w.heap.size < w1.heap.size := Nat.lt_of_lt_of_le ltA hgr.size; obtain ⟨q0, p0, q1, p1, q2, p2⟩ : w1.cell? ⟨w.heap.size, 0, none⟩ = some (.int .i64 0) ∧ w1.frozen? ⟨w.heap.size, 0, none⟩ = false ∧ w1.cell? ⟨w.heap.size, 1, none⟩ = some (.int .i64 0) ∧ w1.frozen? ⟨w.heap.size, 1, none⟩ = false ∧ w1.cell? ⟨w.heap.size, 2, none⟩ = some (.int .i64 0) ∧ w1.frozen? ⟨w.heap.size, 2, none⟩ = false := ⟨gcA hgr, gfA hgr, gcA hgr, gfA hgr, gcA hgr, gfA hgr⟩))
   all_goals
    refine bodyPost_ret (by simp [results, Tryz.results104, go_sem, q0, q1, q2]; rfl) rfl ?_
    try simp only [List.mem_cons, List.not_mem_nil, or_false] at *
    exact ⟨⟨_, _, _⟩, rfl, small_mk (by omega), rlA, glA⟩
  ·by_cases h13 : k = 13
   ·subst h13
    go_enter Tryz.func104, Tryz.ntmps104
    go_wp2_with ((go_at_call_of 35 (Value.int IntKind.i64 4); refine (s_pick g _ _ _ (rd_alloc hr _) (by omega) (by omega) (by omega)).mono ?_; rintro e w1 ⟨x, rfl, hx0, hx1, hrd, hgr⟩; have hz0 : w.heap.size < w1.heap.size := Nat.lt_of_lt_of_le ltA hgr.size; obtain ⟨q0, p0, q1, p1, q2, p2⟩ : w1.cell? ⟨w.heap.size, 0, none⟩ = some (.int .i64 0) ∧ w1.frozen? ⟨w.heap.size, 0, none⟩ = false ∧ w1.cell? ⟨w.heap.size, 1, none⟩ = some (.int .i64 0) ∧ w1.frozen? ⟨w.heap.size, 1, none⟩ = false ∧ w1.cell? ⟨w.heap.size, 2, none⟩ = some (.int .i64 0) ∧ w1.frozen? ⟨w.heap.size, 2, none⟩ = false := ⟨gcA hgr, gfA hgr, gcA hgr, gfA hgr, gcA hgr, gfA hgr⟩))
    all_goals
     refine bodyPost_ret (by simp [results, Tryz.results104, go_sem, q0, q1, q2]; rfl) rfl ?_
     try simp only [List.mem_cons, List.not_mem_nil, or_false] at *
     exact ⟨⟨_, _, _⟩, rfl, small_mk (by omega), rlA, glA⟩
   ·have h11' : (k == 11) = false := by simpa using h11
    have h12' : (k == 12) = false := by simpa using h12
    have h13' : (k == 13) = false := by simpa using h13
    go_enter Tryz.func104, Tryz.ntmps104
    go_wp2_with (first | (go_at_call_of 35 (Value.int IntKind.i64 4); refine (s_pick g _ _ _ (rd_alloc hr _) (by omega) (by omega) (by omega)).mono ?_; rintro e w1 ⟨x, rfl, hx0, hx1, hrd, hgr⟩; have hz0 : w.heap.size < w1.heap.size := Nat.lt_of_lt_of_le ltA hgr.size; obtain ⟨q0, p0, q1, p1, q2, p2⟩ : w1.cell? ⟨w.heap.size, 0, none⟩ = some (.int .i64 0) ∧ w1.frozen? ⟨w.heap.size, 0, none⟩ = false ∧ w1.cell? ⟨w.heap.size, 1, none⟩ = some (.int .i64 0) ∧ w1.frozen? ⟨w.heap.size, 1, none⟩ = false ∧ w1.cell? ⟨w.heap.size, 2, none⟩ = some (.int .i64 0) ∧ w1.frozen? ⟨w.heap.size, 2, none⟩ = false := ⟨gcA hgr, gfA hgr, gcA hgr, gfA hgr, gcA hgr, gfA hgr⟩) | (go_at_call_of 35 (Value.int IntKind.i64 6); refine (s_pick g _ _ _ (hrd) (by omega) (by omega) (by omega)).mono ?_; rintro e w1 ⟨x, rfl, hx0, hx1, hrd, hgr⟩; have hz0 : w.heap.size < w1.heap.size := Nat.lt_of_lt_of_le ltA hgr.size; obtain ⟨q0, p0, q1, p1, q2, p2⟩ : w1.cell? ⟨w.heap.size, 0, none⟩ = some (.int .i64 0) ∧ w1.frozen? ⟨w.heap.size, 0, none⟩ = false ∧ w1.cell? ⟨w.heap.size, 1, none⟩ = some (.int .i64 0) ∧ w1.frozen? ⟨w.heap.size, 1, none⟩ = false ∧ w1.cell? ⟨w.heap.size, 2, none⟩ = some (.int .i64 0) ∧ w1.frozen? ⟨w.heap.size, 2, none⟩ = false := ⟨gcA hgr, gfA hgr, gcA hgr, gfA hgr, gcA hgr, gfA hgr⟩) | (go_at_call_of 35 (Value.int IntKind.i64 (Stil.devSize k)); refine (s_pick g _ _ _ (hrd) (by omega) (by omega) (by omega)).mono ?_; rintro e w1 ⟨x, rfl, hx0, hx1, hrd, hgr⟩; have hz0 : w.heap.size < w1.heap.size := Nat.lt_of_lt_of_le ltA hgr.size; obtain ⟨q0, p0, q1, p1, q2, p2⟩ : w1.cell? ⟨w.heap.size, 0, none⟩ = some (.int .i64 0) ∧ w1.frozen? ⟨w.heap.size, 0, none⟩ = false ∧ w1.cell? ⟨w.heap.size, 1, none⟩ = some (.int .i64 0) ∧ w1.frozen? ⟨w.heap.size, 1, none⟩ = false ∧ w1.cell? ⟨w.heap.size, 2, none⟩ = some (.int .i64 0) ∧ w1.frozen? ⟨w.heap.size, 2, none⟩ = false := ⟨gcA hgr, gfA hgr, gcA hgr, gfA hgr, gcA hgr, gfA hgr⟩) | (go_at_call 84; refine (s_devSize _ _).mono ?_; rintro e w2 ⟨rfl, rfl⟩))
    all_goals
     refine bodyPost_ret (by simp [results, Tryz.results104, go_sem, q0, q1, q2]; rfl) rfl ?_
     try simp only [List.mem_cons, List.not_mem_nil, or_false] at *
     exact ⟨⟨_, _, _⟩, rfl, small_mk (by omega), rlA, glA⟩
theorem s_l1Spoilt' (g P : Nat) (k n p : Int) (w : World) (hr : RdAt w g P) (hP : P ≤ 100000000000) (ha : Small ⟨k, n, p⟩) :
  Calls Tryz.prog 108 #[.pointer (some ⟨g, 0, none⟩), .agg #[.int .i64 k, .int .i64 n, .int .i64 p]] w fun e w' => ∃ d : Stil.Dev, e = .returned (.agg #[.int .i64 d.kind, .int .i64 d.n, .int .i64 d.p]) ∧ Small d ∧ RdAt w' g (P + 3) ∧ w.grownBy w' (some g) := by
 have hg := rd_lt hr
 have hsz := devSize_le k
 obtain ⟨⟨a1, a2⟩, ⟨a3, a4⟩, ⟨a5, a6⟩⟩ := ha
 simp only at a1 a2 a3 a4 a5 a6
 obtain ⟨z, hzz⟩ : ∃ z, z = Stil.devSize k := ⟨_, rfl⟩
 rw [← hzz] at hsz
 have HZ : Hid (Stil.devSize k = z) := hzz.symm
 clear hzz
 go_enter Tryz.func108, Tryz.ntmps108
 go_wp2_with (first | (go_at_call_of 35 (Value.int IntKind.i64 6); refine (s_pick g _ _ _ (rd_alloc (rd_alloc hr _) _) (by omega) (by omega) (by omega)).mono ?_; rintro e w1 ⟨x, rfl, hx0, hx1, hrd, hgr⟩; have hz0 : w.heap.size < w1.heap.size := Nat.lt_of_lt_of_le ltA hgr.size; have hz1 : w.heap.size + 1 < w1.heap.size := Nat.lt_of_lt_of_le ltA hgr.size; obtain ⟨q0, p0, q1, p1, q2, p2, q3, p3, q4, p4, q5, p5⟩ : w1.cell? ⟨w.heap.size, 0, none⟩ = some (.int .i64 k) ∧ w1.frozen? ⟨w.heap.size, 0, none⟩ = false ∧ w1.cell? ⟨w.heap.size, 1, none⟩ = some (.int .i64 n) ∧ w1.frozen? ⟨w.heap.size, 1, none⟩ = false ∧ w1.cell? ⟨w.heap.size, 2, none⟩ = some (.int .i64 p) ∧ w1.frozen? ⟨w.heap.size, 2, none⟩ = false ∧ w1.cell? ⟨w.heap.size + 1, 0, none⟩ = some (.int .i64 0) ∧ w1.frozen? ⟨w.heap.size + 1, 0, none⟩ = false ∧ w1.cell? ⟨w.heap.size + 1, 1, none⟩ = some (.int .i64 0) ∧ w1.frozen? ⟨w.heap.size + 1, 1, none⟩ = false ∧ w1.cell? ⟨w.heap.size + 1, 2, none⟩ = some (.int .i64 0) ∧ w1.frozen? ⟨w.heap.size + 1, 2, none⟩ = false := ⟨gcA hgr, gfA hgr, gcA hgr, gfA hgr, gcA hgr, gfA hgr, gcA hgr, gfA hgr, gcA hgr, gfA hgr, gcA hgr, gfA hgr⟩) | (go_at_call_of 35 (Value.int IntKind.i64 16); refine (s_pick g _ _ _ (hrd) (by omega) (by omega) (by omega)).mono ?_; rintro e w1 ⟨x, rfl, hx0, hx1, hrd, hgr⟩; have hz0 : w.heap.size < w1.heap.size := Nat.lt_of_lt_of_le ltA hgr.size; have hz1 : w.heap.size + 1 < w1.heap.size := Nat.lt_of_lt_of_le ltA hgr.size; obtain ⟨q0, p0, q1, p1, q2, p2, q3, p3, q4, p4, q5, p5⟩ : w1.cell? ⟨w.heap.size, 0, none⟩ = some (.int .i64 k) ∧ w1.frozen? ⟨w.heap.size, 0, none⟩ = false ∧ w1.cell? ⟨w.heap.size, 1, none⟩ = some (.int .i64 n) ∧ w1.frozen? ⟨w.heap.size, 1, none⟩ = false ∧ w1.cell? ⟨w.heap.size, 2, none⟩ = some (.int .i64 p) ∧ w1.frozen? ⟨w.heap.size, 2, none⟩ = false ∧ w1.cell? ⟨w.heap.size + 1, 0, none⟩ = some (.int .i64 0) ∧ w1.frozen? ⟨w.heap.size + 1, 0, none⟩ = false ∧ w1.cell? ⟨w.heap.size + 1, 1, none⟩ = some (.int .i64 0) ∧ w1.frozen? ⟨w.heap.size + 1, 1, none⟩ = false ∧ w1.cell? ⟨w.heap.size + 1, 2, none⟩ = some (.int .i64 0) ∧ w1.frozen? ⟨w.heap.size + 1, 2, none⟩ = false := ⟨gcA hgr, gfA hgr, gcA hgr, gfA hgr, gcA hgr, gfA hgr, gcA hgr, gfA hgr, gcA hgr, gfA hgr, gcA hgr, gfA hgr⟩) | (go_at_call_of 37 (16 : Nat); refine (s_num g _ _ _ [-1, 4, 5, 15, 16, 31, 32, 63, 64, 255, 32768, -32769, 1000000000, -1000000000, 20, 10] _ (rd_alloc hrd _) (by omega) (ints_of_from (by simp [IntsFrom, go_sem])) (by simp) (by first | (simp; omega) | omega) (by simp) (by simp)).mono ?_; rintro e w1 ⟨x, rfl, hx, hrd, hgr⟩; have hz0 : w.heap.size < w1.heap.size := Nat.lt_of_lt_of_le ltA hgr.size; have hz1 : w.heap.size + 1 < w1.heap.size := Nat.lt_of_lt_of_le ltA hgr.size; obtain ⟨q0, p0, q1, p1, q2, p2, q3, p3, q4, p4, q5, p5⟩ : w1.cell? ⟨w.heap.size, 0, none⟩ = some (.int .i64 k) ∧ w1.frozen? ⟨w.heap.size, 0, none⟩ = false ∧ w1.cell? ⟨w.heap.size, 1, none⟩ = some (.int .i64 n) ∧ w1.frozen? ⟨w.heap.size, 1, none⟩ = false ∧ w1.cell? ⟨w.heap.size, 2, none⟩ = some (.int .i64 p) ∧ w1.frozen? ⟨w.heap.size, 2, none⟩ = false ∧ w1.cell? ⟨w.heap.size + 1, 0, none⟩ = some (.int .i64 0) ∧ w1.frozen? ⟨w.heap.size + 1, 0, none⟩ = false ∧ w1.cell? ⟨w.heap.size + 1, 1, none⟩ = some (.int .i64 0) ∧ w1.frozen? ⟨w.heap.size + 1, 1, none⟩ = false ∧ w1.cell? ⟨w.heap.size + 1, 2, none⟩ = some (.int .i64 0) ∧ w1.frozen? ⟨w.heap.size + 1, 2, none⟩ = false := ⟨gcA hgr, gfA hgr, gcA hgr, gfA hgr, gcA hgr, gfA hgr, gcA hgr, gfA hgr, gcA hgr, gfA hgr, gcA hgr, gfA hgr⟩) | (go_at_call_of 37 (5 : Nat); refine (s_num g _ _ _ [-1, 0, 1, 6, 7] _ (rd_alloc hrd _) (by omega) (ints_of_from (by simp [IntsFrom, go_sem])) (by simp) (by first | (simp; omega) | omega) (by simp) (by simp)).mono ?_; rintro e w1 ⟨x, rfl, hx, hrd, hgr⟩; have hz0 : w.heap.size < w1.heap.size := Nat.lt_of_lt_of_le ltA hgr.size; have hz1 : w.heap.size + 1 < w1.heap.size := Nat.lt_of_lt_of_le ltA hgr.size; obtain ⟨q0, p0, q1, p1, q2, p2, q3, p3, q4, p4, q5, p5⟩ : w1.cell? ⟨w.heap.size, 0, none⟩ = some (.int .i64 k) ∧ w1.frozen? ⟨w.heap.size, 0, none⟩ = false ∧ w1.cell? ⟨w.heap.size, 1, none⟩ = some (.int .i64 n) ∧ w1.frozen? ⟨w.heap.size, 1, none⟩ = false ∧ w1.cell? ⟨w.heap.size, 2, none⟩ = some (.int .i64 p) ∧ w1.frozen? ⟨w.heap.size, 2, none⟩ = false ∧ w1.cell? ⟨w.heap.size + 1, 0, none⟩ = some (.int .i64 0) ∧ w1.frozen? ⟨w.heap.size + 1, 0, none⟩ = false ∧ w1.cell? ⟨w.heap.size + 1, 1, none⟩ = some (.int .i64 0) ∧ w1.frozen? ⟨w.heap.size + 1, 1, none⟩ = false ∧ w1.cell? ⟨w.heap.size + 1, 2, none⟩ = some (.int .i64 0) ∧ w1.frozen? ⟨w.heap.size + 1, 2, none⟩ = false := ⟨gcA hgr, gfA hgr, gcA hgr, gfA hgr, gcA hgr, gfA hgr, gcA hgr, gfA hgr, gcA hgr, gfA hgr, gcA hgr, gfA hgr⟩) | (go_at_call 84; refine (s_devSize _ _).mono ?_; rw [HZ.out]; rintro e w2 ⟨rfl, rfl⟩))
 all_goals
  refine bodyPost_ret (by simp [results, Tryz.results108, go_sem, q3, q4, q5]; rfl) rfl ?_
  try simp only [List.mem_cons, List.not_mem_nil, or_false] at *
  exact ⟨⟨_, _, _⟩, rfl, small_mk (by omega), rlA, glA⟩
theorem s_l1Spoilt (g P : Nat) (a : Stil.Dev) (w : World) (hr : RdAt w g P) (hP : P ≤ 100000000000) (ha : Small a) :
  Calls Tryz.prog 108 #[.pointer (some ⟨g, 0, none⟩), .agg #[.int .i64 a.kind, .int .i64 a.n, .int .i64 a.p]] w fun e w' => ∃ d : Stil.Dev, e = .returned (.agg #[.int .i64 d.kind, .int .i64 d.n, .int .i64 d.p]) ∧ Small d ∧ RdAt w' g (P + 3) ∧ w.grownBy w' (some g) :=
 s_l1Spoilt' g P a.kind a.n a.p w hr hP ha
theorem s_l2Bit (g P : Nat) (w : World) (hr : RdAt w g P) (hP : P ≤ 10000000000) :
  Calls Tryz.prog 103 #[.pointer (some ⟨g, 0, none⟩)] w fun e w' => ∃ d : Stil.Dev, e = .returned (.agg #[.int .i64 d.kind, .int .i64 d.n, .int .i64 d.p]) ∧ Small d ∧ RdAt w' g (P + 4) ∧ w.grownBy w' (some g) := by
 have hg := rd_lt hr
 go_enter Tryz.func103, Tryz.ntmps103
 go_wp2_with (first | (go_at_call_of 37 (9 : Nat); refine (s_num g _ _ _ [1, 1, 2, 3, 3, 4, 6, 7, 8] _ (rd_alloc (rd_alloc hr _) _) (by omega) (ints_of_from (by simp [IntsFrom, go_sem])) (by simp) (by first | (simp; omega) | omega) (by simp) (by simp)).mono ?_; rintro e w1 ⟨x, rfl, hx, hrd, hgr⟩; simp only [List.mem_cons, List.not_mem_nil, or_false] at hx; have hz0 : w.heap.size < w1.heap.size := Nat.lt_of_lt_of_le ltA hgr.size; obtain ⟨q0, p0, q1, p1, q2, p2⟩ : w1.cell? ⟨w.heap.size, 0, none⟩ = some (.int .i64 0) ∧ w1.frozen? ⟨w.heap.size, 0, none⟩ = false ∧ w1.cell? ⟨w.heap.size, 1, none⟩ = some (.int .i64 0) ∧ w1.frozen? ⟨w.heap.size, 1, none⟩ = false ∧ w1.cell? ⟨w.heap.size, 2, none⟩ = some (.int .i64 0) ∧ w1.frozen? ⟨w.heap.size, 2, none⟩ = false := ⟨gcA hgr, gfA hgr, gcA hgr, gfA hgr, gcA hgr, gfA hgr⟩) | (go_at_call 104; refine (s_l1Arg g _ x _ hrd (by omega) (by omega) (by omega)).mono ?_; rintro e w1 ⟨d, rfl, hd, hrd, hgr⟩; have hz0 : w.heap.size < w1.heap.size := Nat.lt_of_lt_of_le (by first | assumption | (simp; done) | (simp; omega)) hgr.size; have q0 : w1.cell? ⟨w.heap.size, 0, none⟩ = some (.int .i64 0) := (by rw [grown_cell hgr (by first | assumption | (simp; done) | (simp; omega)) (by omega)]; first | assumption | (simp [go_sem, *]; done)); have p0 : w1.frozen? ⟨w.heap.size, 0, none⟩ = false := (by rw [grown_frozen hgr (by first | assumption | (simp; done) | (simp; omega)) (by omega)]; first | assumption | (simp [go_sem, *]; done)); have q1 : w1.cell? ⟨w.heap.size, 1, none⟩ = some (.int .i64 0) := (by rw [grown_cell hgr (by first | assumption | (simp; done) | (simp; omega)) (by omega)]; first | assumption | (simp [go_sem, *]; done)); have p1 : w1.frozen? ⟨w.heap.size, 1, none⟩ = false := (by rw [grown_frozen hgr (by first | assumption | (simp; done) | (simp; omega)) (by omega)]; first | assumption | (simp [go_sem, *]; done)); have q2 : w1.cell? ⟨w.heap.size, 2, none⟩ = some (.int .i64 0) := (by rw [grown_cell hgr (by first | assumption | (simp; done) | (simp; omega)) (by omega)]; first | assumption | (simp [go_sem, *]; done)); have p2 : w1.frozen? ⟨w.heap.size, 2, none⟩ = false := (by rw [grown_frozen hgr (by first | assumption | (simp; done) | (simp; omega)) (by omega)]; first | assumption | (simp [go_sem, *]; done))))
 refine bodyPost_ret (v := .agg #[.int .i64 d.kind, .int .i64 d.n, .int .i64 d.p]) (by simp [results, Tryz.results103, go_sem, q0, q1, q2]) rfl ?_
 exact ⟨d, rfl, hd, rlA, glA⟩
theorem s_l2Whole (g P : Nat) (w : World) (hr : RdAt w g P) (hP : P ≤ 10000000000) :
  Calls Tryz.prog 105 #[.pointer (some ⟨g, 0, none⟩)] w fun e w' => ∃ d : Stil.Dev, e = .returned (.agg #[.int .i64 d.kind, .int .i64 d.n, .int .i64 d.p]) ∧ Small d ∧ RdAt w' g (P + 4) ∧ w.grownBy w' (some g) := by
 have hg := rd_lt hr
 go_enter Tryz.func105, Tryz.ntmps105
 go_wp2_with (first | (go_at_call_of 37 (7 : Nat); refine (s_num g _ _ _ [9, 9, 9, 11, 11, 7, 8] _ (rd_alloc (rd_alloc hr _) _) (by omega) (ints_of_from (by simp [IntsFrom, go_sem])) (by simp) (by first | (simp; omega) | omega) (by simp) (by simp)).mono ?_; rintro e w1 ⟨x, rfl, hx, hrd, hgr⟩; simp only [List.mem_cons, List.not_mem_nil, or_false] at hx; have hz0 : w.heap.size < w1.heap.size := Nat.lt_of_lt_of_le ltA hgr.size; obtain ⟨q0, p0, q1, p1, q2, p2⟩ : w1.cell? ⟨w.heap.size, 0, none⟩ = some (.int .i64 0) ∧ w1.frozen? ⟨w.heap.size, 0, none⟩ = false ∧ w1.cell? ⟨w.heap.size, 1, none⟩ = some (.int .i64 0) ∧ w1.frozen? ⟨w.heap.size, 1, none⟩ = false ∧ w1.cell? ⟨w.heap.size, 2, none⟩ = some (.int .i64 0) ∧ w1.frozen? ⟨w.heap.size, 2, none⟩ = false := ⟨gcA hgr, gfA hgr, gcA hgr, gfA hgr, gcA hgr, gfA hgr⟩) | (go_at_call 104; refine (s_l1Arg g _ x _ hrd (by omega) (by omega) (by omega)).mono ?_; rintro e w1 ⟨d, rfl, hd, hrd, hgr⟩; have hz0 : w.heap.size < w1.heap.size := Nat.lt_of_lt_of_le (by first | assumption | (simp; done) | (simp; omega)) hgr.size; have q0 : w1.cell? ⟨w.heap.size, 0, none⟩ = some (.int .i64 0) := (by rw [grown_cell hgr (by first | assumption | (simp; done) | (simp; omega)) (by omega)]; first | assumption | (simp [go_sem, *]; done)); have p0 : w1.frozen? ⟨w.heap.size, 0, none⟩ = false := (by rw [grown_frozen hgr (by first | assumption | (simp; done) | (simp; omega)) (by omega)]; first | assumption | (simp [go_sem, *]; done)); have q1 : w1.cell? ⟨w.heap.size, 1, none⟩ = some (.int .i64 0) := (by rw [grown_cell hgr (by first | assumption | (simp; done) | (simp; omega)) (by omega)]; first | assumption | (simp [go_sem, *]; done)); have p1 : w1.frozen? ⟨w.heap.size, 1, none⟩ = false := (by rw [grown_frozen hgr (by first | assumption | (simp; done) | (simp; omega)) (by omega)]; first | assumption | (simp [go_sem, *]; done)); have q2 : w1.cell? ⟨w.heap.size, 2, none⟩ = some (.int .i64 0) := (by rw [grown_cell hgr (by first | assumption | (simp; done) | (simp; omega)) (by omega)]; first | assumption | (simp [go_sem, *]; done)); have p2 : w1.frozen? ⟨w.heap.size, 2, none⟩ = false := (by rw [grown_frozen hgr (by first | assumption | (simp; done) | (simp; omega)) (by omega)]; first | assumption | (simp [go_sem, *]; done))))
 refine bodyPost_ret (v := .agg #[.int .i64 d.kind, .int .i64 d.n, .int .i64 d.p]) (by simp [results, Tryz.results105, go_sem, q0, q1, q2]) rfl ?_
 exact ⟨d, rfl, hd, rlA, glA⟩
theorem s_l2Real (g P : Nat) (w : World) (hr : RdAt w g P) (hP : P ≤ 10000000000) :
  Calls Tryz.prog 106 #[.pointer (some ⟨g, 0, none⟩)] w fun e w' => ∃ d : Stil.Dev, e = .returned (.agg #[.int .i64 d.kind, .int .i64 d.n, .int .i64 d.p]) ∧ Small d ∧ RdAt w' g (P + 4) ∧ w.grownBy w' (some g) := by
 have hg := rd_lt hr
 go_enter Tryz.func106, Tryz.ntmps106
 go_wp2_with (first | (go_at_call_of 37 (5 : Nat); refine (s_num g _ _ _ [10, 10, 10, 12, 13] _ (rd_alloc (rd_alloc hr _) _) (by omega) (ints_of_from (by simp [IntsFrom, go_sem])) (by simp) (by first | (simp; omega) | omega) (by simp) (by simp)).mono ?_; rintro e w1 ⟨x, rfl, hx, hrd, hgr⟩; simp only [List.mem_cons, List.not_mem_nil, or_false] at hx; have hz0 : w.heap.size < w1.heap.size := Nat.lt_of_lt_of_le ltA hgr.size; obtain ⟨q0, p0, q1, p1, q2, p2⟩ : w1.cell? ⟨w.heap.size, 0, none⟩ = some (.int .i64 0) ∧ w1.frozen? ⟨w.heap.size, 0, none⟩ = false ∧ w1.cell? ⟨w.heap.size, 1, none⟩ = some (.int .i64 0) ∧ w1.frozen? ⟨w.heap.size, 1, none⟩ = false ∧ w1.cell? ⟨w.heap.size, 2, none⟩ = some (.int .i64 0) ∧ w1.frozen? ⟨w.heap.size, 2, none⟩ = false := ⟨gcA hgr, gfA hgr, gcA hgr, gfA hgr, gcA hgr, gfA hgr⟩) | (go_at_call 104; refine (s_l1Arg g _ x _ hrd (by omega) (by omega) (by omega)).mono ?_; rintro e w1 ⟨d, rfl, hd, hrd, hgr⟩; have hz0 : w.heap.size < w1.heap.size := Nat.lt_of_lt_of_le (by first | assumption | (simp; done) | (simp; omega)) hgr.size; have q0 : w1.cell? ⟨w.heap.size, 0, none⟩ = some (.int .i64 0) := (by rw [grown_cell hgr (by first | assumption | (simp; done) | (simp; omega)) (by omega)]; first | assumption | (simp [go_sem, *]; done)); have p0 : w1.frozen? ⟨w.heap.size, 0, none⟩ = false := (by rw [grown_frozen hgr (by first | assumption | (simp; done) | (simp; omega)) (by omega)]; first | assumption | (simp [go_sem, *]; done)); have q1 : w1.cell? ⟨w.heap.size, 1, none⟩ = some (.int .i64 0) := (by rw [grown_cell hgr (by first | assumption | (simp; done) | (simp; omega)) (by omega)]; first | assumption | (simp [go_sem, *]; done)); have p1 : w1.frozen? ⟨w.heap.size, 1, none⟩ = false := (by rw [grown_frozen hgr (by first | assumption | (simp; done) | (simp; omega)) (by omega)]; first | assumption | (simp [go_sem, *]; done)); have q2 : w1.cell? ⟨w.heap.size, 2, none⟩ = some (.int .i64 0) := (by rw [grown_cell hgr (by first | assumption | (simp; done) | (simp; omega)) (by omega)]; first | assumption | (simp [go_sem, *]; done)); have p2 : w1.frozen? ⟨w.heap.size, 2, none⟩ = false := (by rw [grown_frozen hgr (by first | assumption | (simp; done) | (simp; omega)) (by omega)]; first | assumption | (simp [go_sem, *]; done))))
 refine bodyPost_ret (v := .agg #[.int .i64 d.kind, .int .i64 d.n, .int .i64 d.p]) (by simp [results, Tryz.results106, go_sem, q0, q1, q2]) rfl ?_
 exact ⟨d, rfl, hd, rlA, glA⟩
theorem s_l1Any (g P : Nat) (w : World) (hr : RdAt w g P) (hP : P ≤ 10000000000) :
  Calls Tryz.prog 107 #[.pointer (some ⟨g, 0, none⟩)] w fun e w' => ∃ d : Stil.Dev, e = .returned (.agg #[.int .i64 d.kind, .int .i64 d.n, .int .i64 d.p]) ∧ Small d ∧ RdAt w' g (P + 8) ∧ w.grownBy w' (some g) := by
 have hg := rd_lt hr
 go_enter Tryz.func107, Tryz.ntmps107
 go_wp2_with (first | (go_at_call_of 35 (Value.int IntKind.i64 13); refine (s_pick g _ _ _ raA (by omega) (by omega) (by omega)).mono ?_; rintro e w1 ⟨x, rfl, hx0, hx1, hrd, hgr⟩; have hz0 : w.heap.size < w1.heap.size := Nat.lt_of_lt_of_le ltA hgr.size; obtain ⟨q0, p0, q1, p1, q2, p2⟩ : w1.cell? ⟨w.heap.size, 0, none⟩ = some (.int .i64 0) ∧ w1.frozen? ⟨w.heap.size, 0, none⟩ = false ∧ w1.cell? ⟨w.heap.size, 1, none⟩ = some (.int .i64 0) ∧ w1.frozen? ⟨w.heap.size, 1, none⟩ = false ∧ w1.cell? ⟨w.heap.size, 2, none⟩ = some (.int .i64 0) ∧ w1.frozen? ⟨w.heap.size, 2, none⟩ = false := ⟨gcA hgr, gfA hgr, gcA hgr, gfA hgr, gcA hgr, gfA hgr⟩) | (go_at_call 104; refine (s_l1Arg g _ _ _ raA (by omega) (by omega) (by omega)).mono ?_; rintro e wa ⟨d, rfl, hd, hrd, hgr⟩; have hz0 : w.heap.size < wa.heap.size := Nat.lt_of_lt_of_le ltA hgr.size; obtain ⟨q0, p0, q1, p1, q2, p2⟩ : wa.cell? ⟨w.heap.size, 0, none⟩ = some (.int .i64 0) ∧ wa.frozen? ⟨w.heap.size, 0, none⟩ = false ∧ wa.cell? ⟨w.heap.size, 1, none⟩ = some (.int .i64 0) ∧ wa.frozen? ⟨w.heap.size, 1, none⟩ = false ∧ wa.cell? ⟨w.heap.size, 2, none⟩ = some (.int .i64 0) ∧ wa.frozen? ⟨w.heap.size, 2, none⟩ = false := ⟨gcA hgr, gfA hgr, gcA hgr, gfA hgr, gcA hgr, gfA hgr⟩) | (go_at_call_of 35 (Value.int IntKind.i64 20); refine (s_pick g _ _ _ raA (by omega) (by omega) (by omega)).mono ?_; rintro e w1 ⟨x, rfl, hx0, hx1, hrd, hgr⟩; have hz0 : w.heap.size < w1.heap.size := Nat.lt_of_lt_of_le ltA hgr.size; have hz1 : wa.heap.size < w1.heap.size := Nat.lt_of_lt_of_le ltA hgr.size; obtain ⟨q0, p0, q1, p1, q2, p2, q3, p3, q4, p4, q5, p5⟩ : w1.cell? ⟨w.heap.size, 0, none⟩ = some (.int .i64 0) ∧ w1.frozen? ⟨w.heap.size, 0, none⟩ = false ∧ w1.cell? ⟨w.heap.size, 1, none⟩ = some (.int .i64 0) ∧ w1.frozen? ⟨w.heap.size, 1, none⟩ = false ∧ w1.cell? ⟨w.heap.size, 2, none⟩ = some (.int .i64 0) ∧ w1.frozen? ⟨w.heap.size, 2, none⟩ = false ∧ w1.cell? ⟨wa.heap.size, 0, none⟩ = some (.int .i64 d.kind) ∧ w1.frozen? ⟨wa.heap.size, 0, none⟩ = false ∧ w1.cell? ⟨wa.heap.size, 1, none⟩ = some (.int .i64 d.n) ∧ w1.frozen? ⟨wa.heap.size, 1, none⟩ = false ∧ w1.cell? ⟨wa.heap.size, 2, none⟩ = some (.int .i64 d.p) ∧ w1.frozen? ⟨wa.heap.size, 2, none⟩ = false := ⟨gcA hgr, gfA hgr, gcA hgr, gfA hgr, gcA hgr, gfA hgr, gcA hgr, gfA hgr, gcA hgr, gfA hgr, gcA hgr, gfA hgr⟩) | (go_at_call 108; refine (s_l1Spoilt g _ d _ raA (by omega) hd).mono ?_; rintro e w1 ⟨f, rfl, hf, hrd, hgr⟩; have hz0 : w.heap.size < w1.heap.size := Nat.lt_of_lt_of_le ltA hgr.size; obtain ⟨q0, p0, q1, p1, q2, p2⟩ : w1.cell? ⟨w.heap.size, 0, none⟩ = some (.int .i64 0) ∧ w1.frozen? ⟨w.heap.size, 0, none⟩ = false ∧ w1.cell? ⟨w.heap.size, 1, none⟩ = some (.int .i64 0) ∧ w1.frozen? ⟨w.heap.size, 1, none⟩ = false ∧ w1.cell? ⟨w.heap.size, 2, none⟩ = some (.int .i64 0) ∧ w1.frozen? ⟨w.heap.size, 2, none⟩ = false := ⟨gcA hgr, gfA hgr, gcA hgr, gfA hgr, gcA hgr, gfA hgr⟩))
 ·refine bodyPost_ret (v := .agg #[.int .i64 f.kind, .int .i64 f.n, .int .i64 f.p]) (by simp [results, Tryz.results107, go_sem, q0, q1, q2]) rfl ?_
  exact ⟨f, rfl, hf, rlA, glA⟩
 ·refine bodyPost_ret (v := .agg #[.int .i64 d.kind, .int .i64 d.n, .int .i64 d.p]) (by simp [results, Tryz.results107, go_sem, q0, q1, q2]) rfl ?_
  exact ⟨d, rfl, hd, rlA, glA⟩
end Go.Proofs.YtipdjmbgbehkaaaGreatDoor
