/- R6, R7, R8: texts put together. -/
import Derived.Test.YtipdjmbgbehkaaaGreatDoorGR
import Derived.Test.YtipdjmbgbehkaaaGreatDoorGW
import Derived.Deep.RegionWith
/- Contracts: what the program's elemGuess calls of the library. -/
namespace Go.Proofs.YtipdjmbgbehkaaaGreatDoor
open Go.RowKit Go.Sort Go.BigFrame
/-- The library's tables of runes, and the length that its search goes by. -/
def LibAt (w : World) : Prop := Lib.Utf8Tabs 5 6 w ∧ 4 < w.heap.size ∧ ∃ m : Int, w.cell? ⟨4, 0, none⟩ = some (.int .i64 m)
theorem LibAt.below {w w' : World} (h : LibAt w) (hb : Below w.heap.size w w') : LibAt w' := by
  obtain ⟨h1, h2, m, h3⟩ := h
  exact ⟨Utf8Tabs_below h1 hb, Nat.lt_of_lt_of_le h2 hb.size, m, by rw [hb.cell (p := ⟨4, 0, none⟩) h2]; exact h3⟩
set_option maxHeartbeats 400000 in
theorem i_isSign (r : Nat) (hr : r ≤ 1114111) (w : World) : Calls Tryz.prog 179 #[.int .i32 r] w fun e w' => e = .returned (.bool (Stil.sgn r)) ∧ w' = w := by
  have hs : Stil.sgn r = (((r : Int) == 60) || ((r : Int) == 61) || ((r : Int) == 62)) := by
    unfold Stil.sgn
    rw [Bool.eq_iff_iff]
    simp
    omega
  rw [hs]
  clear hs
  cases h1 : ((r : Int) == 60)
  · cases h2 : ((r : Int) == 61)
    · go_enter Tryz.func179, Tryz.ntmps179
      go_wp2
      go_ret
      exact ⟨rfl, rfl⟩
    · go_enter Tryz.func179, Tryz.ntmps179
      go_wp2
      go_ret
      exact ⟨rfl, rfl⟩
  · go_enter Tryz.func179, Tryz.ntmps179
    go_wp2
    go_ret
    exact ⟨rfl, rfl⟩
theorem pred_sign (w : World) : PredAtRunes Tryz.prog 179 #[] Stil.sgn w := by
  intro W x hx _
  unfold FnGives
  refine (i_isSign x hx W).mono ?_
  rintro e w' ⟨rfl, rfl⟩
  exact ⟨rfl, 0, rfl⟩
theorem enter_sign : ∀ args w, (callFunc 179 args).run Tryz.prog w = .ok (.enter 179 args) w := fun _ _ => by kernel_rfl
theorem i_indexFunc (l : List UInt8) (w : World) : Calls Tryz.prog 178 #[.string ⟨l.toArray⟩, .func (.func 179) #[] #[]] w fun e w' => e = .returned (.int .i64 (if l.any Stil.isSign then (Stil.fromOf l : Int) else -1)) ∧ Below w.heap.size w w' := by
  have h := Tryz.strings_IndexFunc_runes 179 #[] enter_sign Stil.sgn ⟨l.toArray⟩ w (pred_sign w)
  rw [Stil.idx_sign] at h
  exact h
theorem i_cut58 (l : List UInt8) (w : World) (hw : LibAt w) (hl : l.length ≤ 1000000000) : Calls Tryz.prog 174 #[.string ⟨l.toArray⟩, .string ⟨#[58]⟩] w fun e w' => e = .returned (.tuple #[.string ⟨(if 58 ∈ l then l.takeWhile (· != 58) else l).toArray⟩, .string ⟨(if 58 ∈ l then (l.dropWhile (· != 58)).drop 1 else []).toArray⟩, .bool (decide (58 ∈ l))]) ∧ Below w.heap.size w w' := by
  obtain ⟨_, _, m, hm⟩ := hw
  have hsz : (⟨l.toArray⟩ : ByteArray).size = l.length := rfl
  refine (Tryz.strings_Cut ⟨l.toArray⟩ ⟨#[58]⟩ m w (by rw [hsz]; omega) hm).mono ?_
  rintro e w' ⟨he, n, rfl⟩
  refine ⟨?_, bl_drewN (Below.refl _ _) _⟩
  have e1 : (⟨l.toArray⟩ : ByteArray).data.toList = l := by simp
  have e2 : (⟨#[58]⟩ : ByteArray).data.toList = [58] := rfl
  rw [he, e1, e2, Stil.cut_byte]
  by_cases h : (58 : UInt8) ∈ l
  · simp only [if_pos h, decide_eq_true h]
  · simp only [if_neg h, decide_eq_false h]
theorem i_split (c : UInt8) (l : List UInt8) (w : World) (hw : LibAt w) (hl : l.length ≤ 1000000000) : Calls Tryz.prog 177 #[.string ⟨l.toArray⟩, .string ⟨#[c]⟩, .int .i64 4] w fun e w' => ∃ v, e = .returned v ∧ TextsAt w' v (Stil.split4 c l) ∧ Below w.heap.size w w' := by
  obtain ⟨_, _, m, hm⟩ := hw
  have hsz : (⟨l.toArray⟩ : ByteArray).size = l.length := rfl
  refine (Tryz.strings_SplitN ⟨l.toArray⟩ ⟨#[c]⟩ 4 m w (by rw [hsz]; omega) hm (by show 1 ≤ 1; omega) (by omega) (by omega)).mono ?_
  rintro e w' ⟨he, rfl⟩
  rw [hsz, Stil.splitB_byte] at he ⊢
  have hs : (Stil.splitK c (min 4 (l.length + 1) - 1) l) = Stil.split4 c l := rfl
  rw [hs] at he ⊢
  refine ⟨_, he, ?_, below_alloc _ _⟩
  obtain ⟨ts, ht⟩ : ∃ ts, ts = Stil.split4 c l := ⟨_, rfl⟩
  rw [← ht]
  refine ⟨_, _, by rw [List.length_map], fun i hi => ⟨w.heap.size, 0, rfl, by simp, ?_⟩⟩
  rw [Nat.zero_add, World.cell?_alloc_at _ _ _ _ rfl]
  unfold Lib.cellsOf
  simp [List.getElem?_append, hi]
set_option maxHeartbeats 400000 in
theorem i_lastFunc (l : List UInt8) (w : World) (hw : LibAt w) (hl : l.length ≤ 1000000000) : Calls Tryz.prog 180 #[.string ⟨l.toArray⟩, .func (.func 179) #[] #[]] w fun e w' => e = .returned (.int .i64 (if l.any Stil.isSign then (Stil.pastOf l : Int) - 1 else -1)) ∧ Below w.heap.size w w' := by
  have hsz : (⟨l.toArray⟩ : ByteArray).size = l.length := rfl
  have HL : Hid (∀ W, Below w.heap.size w W → Calls Tryz.prog 196 #[.string ⟨l.toArray⟩, .func (.func 179) #[] #[], .bool true] W fun e w' => e = .returned (.int .i64 (if l.any Stil.isSign then (Stil.pastOf l : Int) - 1 else -1)) ∧ Below W.heap.size W w') := by
    intro W hW
    have h := Tryz.strings_lastIndexFunc_runes 179 #[] enter_sign Stil.sgn true ⟨l.toArray⟩ W (by rw [hsz]; omega) (hw.below hW).1 (pred_sign W)
    rw [Stil.last_sign] at h
    exact h
  obtain ⟨x, hx⟩ : ∃ x : Int, x = if l.any Stil.isSign then (Stil.pastOf l : Int) - 1 else -1 := ⟨_, rfl⟩
  rw [← hx] at HL ⊢
  clear hx hw
  go_enter Tryz.func180, Tryz.ntmps180
  go_wp2_with (go_at_call 196; refine (HL.out _ (by (repeat (first | exact Below.refl _ _ | assumption | refine bl_alloc ?_ _ | refine bl_drewN ?_ _ | refine bl_drew ?_ | refine bl_grow ?_ _ _ | refine bl_set (Nat.le_refl _) ?_ _ | refine bl_call ?_ (by assumption))))).mono ?_; rintro e w1 ⟨rfl, hb1⟩)
  go_ret
  exact ⟨rfl, hb1⟩
end Go.Proofs.YtipdjmbgbehkaaaGreatDoor
/- Contracts of the program's chapter 2: elemGuess. -/
namespace Go.Proofs.YtipdjmbgbehkaaaGreatDoor
open Go.RowKit Go.Sort Go.BigFrame
/-- The two results of a guess. -/
def OfOut (w w' : World) (rv ev : Value) (r : Option Stil.Elem) : Prop := (∃ (x : Stil.Elem) (a : Option Addr) (n c : Nat), r = some x ∧ rv = .agg #[.int .i64 x.op, .slice a n c] ∧ ev = .nilIface ∧ w'.ownsRow w.heap.size 74 3 (.slice a n c) x.args.length (devsCells x.args)) ∨ (r = none ∧ rv = .agg #[.int .i64 0, .slice none 0 0] ∧ ∃ t, ev = .iface 155 (.agg #[.string t]))
/-- What a guess leaves: a contact or coil in new memory, or an error. -/
def EOut (e : Ending) (w w' : World) (r : Option Stil.Elem) : Prop := ∃ rv ev, e = .returned (.tuple #[rv, ev]) ∧ OfOut w w' rv ev r ∧ Below w.heap.size w w'
theorem i_elemOf' (op : Nat) (v : Value) (ts : List (List UInt8)) (w : World) (hr : RowsAt w) (hw : WordsAt w) (hp : PowAt w) (hat : TextsAt w v ts) (hl : ts.length ≤ 10) (hs : ∀ x ∈ ts, x.length ≤ 1000000000) :
    Calls Tryz.prog 176 #[.int .i64 op, v] w fun e w' => EOut e w w' (Stil.iof op ts) := by
  refine (i_elemOf op v ts w hr hw hp hat hl hs).mono ?_
  rintro e w' ⟨rv, ev, he, h, hb⟩
  refine ⟨rv, ev, he, ?_, hb⟩
  rcases h with ⟨u, ds, h1, h2, h3, h4⟩ | ⟨h1, h2, h3⟩
  · left
    obtain ⟨a, n, c, hu⟩ : ∃ a n c, u = .slice a n c := by
      rcases h4.2 with ⟨h0, _⟩ | ⟨g, c, cur, h0, _⟩
      · exact ⟨_, _, _, h0⟩
      · exact ⟨_, _, _, h0⟩
    subst hu
    exact ⟨⟨op, ds⟩, a, n, c, by unfold Stil.iof; rw [h1]; rfl, h2, h3, h4⟩
  · right
    exact ⟨by unfold Stil.iof; rw [h1]; rfl, h2, h3⟩
theorem splitK_len (c : UInt8) : ∀ (k : Nat) (l : List UInt8), (Stil.splitK c k l).length ≤ k + 1 ∧ ∀ x ∈ Stil.splitK c k l, x.length ≤ l.length
  | 0, l => by simp [Stil.splitK]
  | k + 1, l => by
    rw [Stil.splitK]
    split
    · obtain ⟨h1, h2⟩ := splitK_len c k ((l.dropWhile (· != c)).drop 1)
      have e : (l.takeWhile (· != c)).length + (l.dropWhile (· != c)).length = l.length := by
        rw [← List.length_append, List.takeWhile_append_dropWhile]
      refine ⟨by rw [List.length_cons]; omega, fun x hx => ?_⟩
      rcases List.mem_cons.1 hx with rfl | hx
      · omega
      · have := h2 x hx
        simp at this
        omega
    · simp
theorem split4_len (c : UInt8) (l : List UInt8) : (Stil.split4 c l).length ≤ 10 ∧ ∀ x ∈ Stil.split4 c l, x.length ≤ l.length := by
  unfold Stil.split4
  obtain ⟨h1, h2⟩ := splitK_len c (min 4 (l.length + 1) - 1) l
  exact ⟨by omega, h2⟩
/-- From the end of a call of elemOf to the end of elemGuess. -/
theorem eout_done {W W1 : World} {rv ev : Value} {r : Option Stil.Elem} (h : OfOut W W1 rv ev r) : ∃ (op : Int) (a : Option Addr) (n c : Nat), rv = .agg #[.int .i64 op, .slice a n c] ∧ (ev = .nilIface ∨ ∃ t, ev = .iface 155 (.agg #[.string t])) := by
  rcases h with ⟨x, a, n, c, _, h2, h3, _⟩ | ⟨_, h2, h3⟩
  · exact ⟨x.op, a, n, c, h2, Or.inl h3⟩
  · exact ⟨0, none, 0, 0, h2, Or.inr h3⟩
/-- The same, the result stored. -/
theorem eout_store {w W W1 : World} {op : Int} {a : Option Addr} {n c : Nat} {ev : Value} {r : Option Stil.Elem} (hout : OfOut W W1 (.agg #[.int .i64 op, .slice a n c]) ev r)
    (hW : w.heap.size < W.heap.size) (hb : Below w.heap.size w W1) : EOut (.returned (.tuple #[.agg #[.int .i64 op, .slice a n c], ev])) w ((W1.setCell ⟨w.heap.size, 0, none⟩ (.int .i64 op)).setCell ⟨w.heap.size, 1, none⟩ (.slice a n c)) r := by
  refine ⟨_, _, rfl, ?_, bl_set (Nat.le_refl _) (bl_set (Nat.le_refl _) hb _) _⟩
  rcases hout with ⟨x, a', n', c', h1, h2, h3, h4⟩ | h
  · exact Or.inl ⟨x, a', n', c', h1, h2, h3, Joins.ownsRow_le (ownsRow_setCell_below (ownsRow_setCell_below h4 hW _) hW _) (by omega)⟩
  · exact Or.inr h
set_option maxHeartbeats 2000000 in
set_option maxRecDepth 100000 in
theorem i_elemGuess_coil (l : List UInt8) (w : World) (hr : RowsAt w) (hw : WordsAt w) (hp : PowAt w) (hL : LibAt w) (hs : l.length ≤ 1000000000) (h58 : 58 ∈ l) (hc : Stil.findCoil (l.takeWhile (· != 58)) ≠ 0) :
    Calls Tryz.prog 161 #[.string ⟨l.toArray⟩] w fun e w' => EOut e w w' (Stil.ieguess l) := by
  have HG : Hid (Stil.ieguess l = Stil.iof (Stil.findCoil (l.takeWhile (· != 58))) (Stil.split4 44 ((l.dropWhile (· != 58)).drop 1))) := by show _ = _; unfold Stil.ieguess; rw [if_pos ⟨h58, hc⟩]
  have HC : Hid (∀ W, Below w.heap.size w W → Calls Tryz.prog 174 #[.string ⟨l.toArray⟩, .string ⟨#[58]⟩] W fun e w' => e = .returned (.tuple #[.string ⟨(l.takeWhile (· != 58)).toArray⟩, .string ⟨((l.dropWhile (· != 58)).drop 1).toArray⟩, .bool true]) ∧ Below W.heap.size W w') := fun W h => by
    have := i_cut58 l W (hL.below h) hs
    rw [if_pos h58, if_pos h58, decide_eq_true h58] at this
    exact this
  have hrl : ((l.dropWhile (· != 58)).drop 1).length ≤ 1000000000 := by
    have e : (l.takeWhile (· != 58)).length + (l.dropWhile (· != 58)).length = l.length := by
      rw [← List.length_append, List.takeWhile_append_dropWhile]
    simp
    omega
  obtain ⟨nm, hnm⟩ : ∃ nm, nm = l.takeWhile (· != 58) := ⟨_, rfl⟩
  obtain ⟨rest, hrest⟩ : ∃ rest, rest = (l.dropWhile (· != 58)).drop 1 := ⟨_, rfl⟩
  rw [← hnm] at HG HC hc
  rw [← hrest] at HG HC hrl
  have HF : Hid (∀ W, Calls Tryz.prog 175 #[.string ⟨nm.toArray⟩, .func (.func 72) #[] #[]] W fun e w' => e = .returned (.int .i64 (Stil.findCoil nm : Nat)) ∧ Below W.heap.size W w') := fun W => i_findCoil nm W
  obtain ⟨op, hop⟩ : ∃ op, op = Stil.findCoil nm := ⟨_, rfl⟩
  rw [← hop] at HG HF hc
  have HS : Hid (∀ W, Below w.heap.size w W → Calls Tryz.prog 177 #[.string ⟨rest.toArray⟩, .string ⟨#[44]⟩, .int .i64 4] W fun e w' => ∃ v, e = .returned v ∧ TextsAt w' v (Stil.split4 44 rest) ∧ Below W.heap.size W w') := fun W h => i_split 44 rest W (hL.below h) hrl
  obtain ⟨hk1, hk2⟩ := split4_len 44 rest
  have HO : Hid (∀ W v, Below w.heap.size w W → TextsAt W v (Stil.split4 44 rest) → Calls Tryz.prog 176 #[.int .i64 op, v] W fun e w' => EOut e W w' (Stil.iof op (Stil.split4 44 rest))) := fun W v h ht => i_elemOf' op v _ W (hr.below h) (hw.below h) (hp.below h) ht hk1 (fun x hx => Nat.le_trans (hk2 x hx) hrl)
  have hopb : ((op : Int) != 0) = true := by simp; omega
  clear hnm hrest hop hk1 hk2 hr hw hp hL h58
  go_enter Tryz.func161, Tryz.ntmps161
  go_wp2_with (first | (go_at_call 174; refine (HC.out _ (by (repeat (first | exact Below.refl _ _ | assumption | refine bl_alloc ?_ _ | refine bl_drewN ?_ _ | refine bl_drew ?_ | refine bl_grow ?_ _ _ | refine bl_set (Nat.le_refl _) ?_ _ | refine bl_call ?_ (by assumption))))).mono ?_; rintro e w1 ⟨rfl, hb1⟩) | (go_at_call 175; refine (HF.out _).mono ?_; rintro e w2 ⟨rfl, hb2⟩) | (go_at_call 177; refine (HS.out _ (by (repeat (first | exact Below.refl _ _ | assumption | refine bl_alloc ?_ _ | refine bl_drewN ?_ _ | refine bl_drew ?_ | refine bl_grow ?_ _ _ | refine bl_set (Nat.le_refl _) ?_ _ | refine bl_call ?_ (by assumption))))).mono ?_; rintro e w3 ⟨v, rfl, ht, hb3⟩; have ht2 := ht; obtain ⟨va, vc, rfl, _⟩ := ht2) | (go_at_call 176; refine (HO.out _ _ (by (repeat (first | exact Below.refl _ _ | assumption | refine bl_alloc ?_ _ | refine bl_drewN ?_ _ | refine bl_drew ?_ | refine bl_grow ?_ _ _ | refine bl_set (Nat.le_refl _) ?_ _ | refine bl_call ?_ (by assumption)))) ht).mono ?_; rintro e w4 ⟨rv, ev, rfl, hout, hb4⟩; have hout2 := eout_done hout; obtain ⟨xo, xa, xn, xc, rfl, hev⟩ := hout2; have hbw : Below w.heap.size w w4 := (by (repeat (first | exact Below.refl _ _ | assumption | refine bl_alloc ?_ _ | refine bl_drewN ?_ _ | refine bl_drew ?_ | refine bl_grow ?_ _ _ | refine bl_set (Nat.le_refl _) ?_ _ | refine bl_call ?_ (by assumption)))); have hz3 : w.heap.size < w3.heap.size := (by have q1 := hb1.size; have q2 := hb2.size; have q3 := hb3.size; simp at q1; omega); have hbx : Below (w.heap.size + 1) (w.alloc (.cells #[.int .i64 0, .slice none 0 0] 29)) w4 := (by have q := hb1; rw [World.size_alloc] at q; exact blN (blN (blN q hb2 (by simp)) hb3 (by simp)) hb4 (by simp)); obtain ⟨c0, f0, c1, f1, hz4⟩ := res2 hbx; rcases hev with rfl | ⟨t0, rfl⟩))
  all_goals
    refine bodyPost_ret (by simp [results, Tryz.results161, go_sem, c0, c1]; rfl) rfl ?_
    rw [HG.out]
    exact eout_store hout hz3 hbw
end Go.Proofs.YtipdjmbgbehkaaaGreatDoor
/- Contracts of the program's chapter 2: elemGuess of a text without a sign. -/
namespace Go.Proofs.YtipdjmbgbehkaaaGreatDoor
open Go.RowKit Go.Sort Go.BigFrame
theorem blJ {X a b : World} (h : Below X.heap.size X a) (k : Below a.heap.size a b) : Below X.heap.size X b := h.trans (k.mono h.size)
theorem texts_one (W : World) (x : List UInt8) : TextsAt (W.alloc (.cells #[.string ⟨x.toArray⟩] 9)) (.slice (some ⟨W.heap.size, 0, none⟩) 1 1) [x] := by
  refine ⟨_, 1, rfl, fun i hi => ⟨W.heap.size, 0, rfl, by simp, ?_⟩⟩
  have : i = 0 := by simpa using hi
  subst this
  rw [World.cell?_alloc_at _ _ _ _ rfl]
  simp
theorem dec_ascii (l : List UInt8) (c : UInt8) (r : List UInt8) (hl : l = c :: r) (hc : c.toNat < 128) : Lib.decodeGo ⟨l.toArray⟩ = (c.toNat, 1) := by
  subst hl
  unfold Lib.decodeGo
  have hsz : (⟨(c :: r).toArray⟩ : ByteArray).size = r.length + 1 := rfl
  rw [if_neg (by rw [hsz]; omega)]
  have := Lib.decodeL_drop ⟨(c :: r).toArray⟩ 0
  rw [← this]
  exact Lib.decodeL_ascii c r hc
theorem dec_other (l : List UInt8) (h1 : Stil.headIs l 47 = false) (h2 : Stil.headIs l 43 = false) (h3 : Stil.headIs l 45 = false) : ∃ R q : Nat, Lib.decodeGo ⟨l.toArray⟩ = (R, q) ∧ R ≠ 47 ∧ R ≠ 43 ∧ R ≠ 45 := by
  refine ⟨(Lib.decodeGo ⟨l.toArray⟩).1, (Lib.decodeGo ⟨l.toArray⟩).2, rfl, ?_⟩
  cases l with
  | nil =>
    have : Lib.decodeGo ⟨([] : List UInt8).toArray⟩ = (65533, 0) := rfl
    rw [this]
    decide
  | cons c r =>
    have n47 : c.toNat ≠ 47 := fun e => by have : c = 47 := UInt8.toNat_inj.1 e; subst this; cases h1
    have n43 : c.toNat ≠ 43 := fun e => by have : c = 43 := UInt8.toNat_inj.1 e; subst this; cases h2
    have n45 : c.toNat ≠ 45 := fun e => by have : c = 45 := UInt8.toNat_inj.1 e; subst this; cases h3
    by_cases ha : c.toNat < 128
    · rw [dec_ascii _ c r rfl ha]
      exact ⟨n47, n43, n45⟩
    · unfold Lib.decodeGo
      have hsz : (⟨(c :: r).toArray⟩ : ByteArray).size = r.length + 1 := rfl
      rw [if_neg (by rw [hsz]; omega)]
      have := Lib.decodeL_drop ⟨(c :: r).toArray⟩ 0
      rw [← this]
      have hb := (Stil.decodeL_bytes (c :: r) (show 128 ≤ c.toNat by omega)).1
      have e : (⟨(c :: r).toArray⟩ : ByteArray).data.toList.drop 0 = c :: r := by simp
      rw [e]
      omega
set_option maxHeartbeats 2000000 in
set_option maxRecDepth 100000 in
theorem i_elemGuess_shutT (l : List UInt8) (w : World) (hr : RowsAt w) (hw : WordsAt w) (hp : PowAt w) (hL : LibAt w) (hs : l.length ≤ 1000000000) (hno : l.any Stil.isSign = false) (h58 : 58 ∈ l) (hc : Stil.findCoil (l.takeWhile (· != 58)) = 0) (r : List UInt8) (hl : l = 47 :: r) :
    Calls Tryz.prog 161 #[.string ⟨l.toArray⟩] w fun e w' => EOut e w w' (Stil.ieguess l) := by
  have hih : Stil.ihead l = Stil.iof 2 ([r]) := by rw [hl]; rfl
  have HG : Hid (Stil.ieguess l = Stil.iof 2 ([r])) := by show _ = _; unfold Stil.ieguess; rw [if_neg (by intro h; exact h.2 hc)]; unfold Stil.iother; rw [hno, if_neg (by decide)]; exact hih
  have HC : Hid (∀ W, Below w.heap.size w W → Calls Tryz.prog 174 #[.string ⟨l.toArray⟩, .string ⟨#[58]⟩] W fun e w' => e = .returned (.tuple #[.string ⟨(l.takeWhile (· != 58)).toArray⟩, .string ⟨((l.dropWhile (· != 58)).drop 1).toArray⟩, .bool true]) ∧ Below W.heap.size W w') := fun W h => by
    have := i_cut58 l W (hL.below h) hs
    rw [if_pos h58, if_pos h58, decide_eq_true h58] at this
    exact this
  have HF : Hid (∀ W, Calls Tryz.prog 175 #[.string ⟨(l.takeWhile (· != 58)).toArray⟩, .func (.func 72) #[] #[]] W fun e w' => e = .returned (.int .i64 0) ∧ Below W.heap.size W w') := fun W => by have := i_findCoil (l.takeWhile (· != 58)) W; rw [hc] at this; exact this
  obtain ⟨nm, hnm⟩ : ∃ nm, nm = l.takeWhile (· != 58) := ⟨_, rfl⟩
  obtain ⟨rest, hrest⟩ : ∃ rest, rest = (l.dropWhile (· != 58)).drop 1 := ⟨_, rfl⟩
  rw [← hnm] at HC HF hc
  rw [← hrest] at HC
  clear hnm hrest hc h58
  have HD : Hid (∀ W, Below w.heap.size w W → Calls Tryz.prog 155 #[.string ⟨l.toArray⟩] W fun e w' => e = .returned (.tuple #[.int .i32 47, .int .i64 1]) ∧ Below W.heap.size W w') := fun W h => by
    have := Tryz.utf8_DecodeRuneInString ⟨l.toArray⟩ W (hL.below h).1
    rw [dec_ascii l 47 r hl (by decide)] at this
    exact this
  have hx1 : (⟨l.toArray⟩ : ByteArray).extract 1 l.length = ⟨r.toArray⟩ := by rw [ba_drop, hl]; rfl
  have hl1 : 1 ≤ l.length := by rw [hl]; simp
  have hrl : r.length ≤ 1000000000 := by have := congrArg List.length hl; simp at this; omega
  have HI : Hid (∀ W, Calls Tryz.prog 178 #[.string ⟨l.toArray⟩, .func (.func 179) #[] #[]] W fun e w' => e = .returned (.int .i64 (-1)) ∧ Below W.heap.size W w') := fun W => by have := i_indexFunc l W; rw [hno] at this; exact this
  have HO : Hid (∀ W v, Below w.heap.size w W → TextsAt W v [r] → Calls Tryz.prog 176 #[.int .i64 2, v] W fun e w' => EOut e W w' (Stil.iof 2 [r])) := fun W v h ht => i_elemOf' 2 v _ W (hr.below h) (hw.below h) (hp.below h) ht (by simp) (fun x hx => by simp at hx; subst hx; exact hrl)
  clear hl hr hw hp hL hno hih
  go_enter Tryz.func161, Tryz.ntmps161
  go_wp2_with (first | (go_at_call 174; refine (HC.out _ (by (repeat (first | exact Below.refl _ _ | assumption | refine bl_alloc ?_ _ | refine bl_drewN ?_ _ | refine bl_drew ?_ | refine bl_grow ?_ _ _ | refine bl_set (Nat.le_refl _) ?_ _ | refine bl_call ?_ (by assumption))))).mono ?_; rintro e w1 ⟨rfl, hb1⟩) | (go_at_call 175; refine (HF.out _).mono ?_; rintro e w2 ⟨rfl, hb2⟩; have hb1 := blJ hb1 hb2) | (go_at_call 178; refine (HI.out _).mono ?_; rintro e w6 ⟨rfl, hb6⟩) | (go_at_call 155; refine (HD.out _ (by (repeat (first | exact Below.refl _ _ | assumption | refine bl_alloc ?_ _ | refine bl_drewN ?_ _ | refine bl_drew ?_ | refine bl_grow ?_ _ _ | refine bl_set (Nat.le_refl _) ?_ _ | refine bl_call ?_ (by assumption))))).mono ?_; rintro e w5 ⟨rfl, hb5⟩) | (go_at_call 176; refine (HO.out _ _ (by (repeat (first | exact Below.refl _ _ | assumption | refine bl_alloc ?_ _ | refine bl_drewN ?_ _ | refine bl_drew ?_ | refine bl_grow ?_ _ _ | refine bl_set (Nat.le_refl _) ?_ _ | refine bl_call ?_ (by assumption)))) (texts_one w5 r)).mono ?_; rintro e w4 ⟨rv, ev, rfl, hout, hb4⟩; have hout2 := eout_done hout; obtain ⟨xo, xa, xn, xc, rfl, hev⟩ := hout2; have hbw : Below w.heap.size w w4 := (by (repeat (first | exact Below.refl _ _ | assumption | refine bl_alloc ?_ _ | refine bl_drewN ?_ _ | refine bl_drew ?_ | refine bl_grow ?_ _ _ | refine bl_set (Nat.le_refl _) ?_ _ | refine bl_call ?_ (by assumption)))); have hbx : Below (w.heap.size + 1) (w.alloc (.cells #[.int .i64 0, .slice none 0 0] 29)) w4 := (by have q := hb1; rw [World.size_alloc] at q; exact blN (blN (blN (blN q hb6 (by simp)) hb5 (by simp)) (below_alloc _ _) (by simp)) hb4 (by simp)); obtain ⟨c0, f0, c1, f1, hz4⟩ := res2 hbx; rcases hev with rfl | ⟨t0, rfl⟩))
  all_goals
    refine bodyPost_ret (by simp [results, Tryz.results161, go_sem, c0, c1]; rfl) rfl ?_
    rw [HG.out]
    exact eout_store hout (by have q1 := hb1.size; have q2 := hb6.size; have q3 := hb5.size; simp at q1; simp; omega) hbw
set_option maxHeartbeats 2000000 in
set_option maxRecDepth 100000 in
theorem i_elemGuess_shutF (l : List UInt8) (w : World) (hr : RowsAt w) (hw : WordsAt w) (hp : PowAt w) (hL : LibAt w) (hs : l.length ≤ 1000000000) (hno : l.any Stil.isSign = false) (h58 : ¬ 58 ∈ l) (r : List UInt8) (hl : l = 47 :: r) :
    Calls Tryz.prog 161 #[.string ⟨l.toArray⟩] w fun e w' => EOut e w w' (Stil.ieguess l) := by
  have hih : Stil.ihead l = Stil.iof 2 ([r]) := by rw [hl]; rfl
  have HG : Hid (Stil.ieguess l = Stil.iof 2 ([r])) := by show _ = _; unfold Stil.ieguess; rw [if_neg (by intro h; exact h58 h.1)]; unfold Stil.iother; rw [hno, if_neg (by decide)]; exact hih
  have HC : Hid (∀ W, Below w.heap.size w W → Calls Tryz.prog 174 #[.string ⟨l.toArray⟩, .string ⟨#[58]⟩] W fun e w' => e = .returned (.tuple #[.string ⟨l.toArray⟩, .string ⟨#[]⟩, .bool false]) ∧ Below W.heap.size W w') := fun W h => by
    have := i_cut58 l W (hL.below h) hs
    rw [if_neg h58, if_neg h58, decide_eq_false h58] at this
    exact this
  clear h58
  have HD : Hid (∀ W, Below w.heap.size w W → Calls Tryz.prog 155 #[.string ⟨l.toArray⟩] W fun e w' => e = .returned (.tuple #[.int .i32 47, .int .i64 1]) ∧ Below W.heap.size W w') := fun W h => by
    have := Tryz.utf8_DecodeRuneInString ⟨l.toArray⟩ W (hL.below h).1
    rw [dec_ascii l 47 r hl (by decide)] at this
    exact this
  have hx1 : (⟨l.toArray⟩ : ByteArray).extract 1 l.length = ⟨r.toArray⟩ := by rw [ba_drop, hl]; rfl
  have hl1 : 1 ≤ l.length := by rw [hl]; simp
  have hrl : r.length ≤ 1000000000 := by have := congrArg List.length hl; simp at this; omega
  have HI : Hid (∀ W, Calls Tryz.prog 178 #[.string ⟨l.toArray⟩, .func (.func 179) #[] #[]] W fun e w' => e = .returned (.int .i64 (-1)) ∧ Below W.heap.size W w') := fun W => by have := i_indexFunc l W; rw [hno] at this; exact this
  have HO : Hid (∀ W v, Below w.heap.size w W → TextsAt W v [r] → Calls Tryz.prog 176 #[.int .i64 2, v] W fun e w' => EOut e W w' (Stil.iof 2 [r])) := fun W v h ht => i_elemOf' 2 v _ W (hr.below h) (hw.below h) (hp.below h) ht (by simp) (fun x hx => by simp at hx; subst hx; exact hrl)
  clear hl hr hw hp hL hno hih
  go_enter Tryz.func161, Tryz.ntmps161
  go_wp2_with (first | (go_at_call 174; refine (HC.out _ (by (repeat (first | exact Below.refl _ _ | assumption | refine bl_alloc ?_ _ | refine bl_drewN ?_ _ | refine bl_drew ?_ | refine bl_grow ?_ _ _ | refine bl_set (Nat.le_refl _) ?_ _ | refine bl_call ?_ (by assumption))))).mono ?_; rintro e w2 ⟨rfl, hb1⟩) | (go_at_call 178; refine (HI.out _).mono ?_; rintro e w6 ⟨rfl, hb6⟩) | (go_at_call 155; refine (HD.out _ (by (repeat (first | exact Below.refl _ _ | assumption | refine bl_alloc ?_ _ | refine bl_drewN ?_ _ | refine bl_drew ?_ | refine bl_grow ?_ _ _ | refine bl_set (Nat.le_refl _) ?_ _ | refine bl_call ?_ (by assumption))))).mono ?_; rintro e w5 ⟨rfl, hb5⟩) | (go_at_call 176; refine (HO.out _ _ (by (repeat (first | exact Below.refl _ _ | assumption | refine bl_alloc ?_ _ | refine bl_drewN ?_ _ | refine bl_drew ?_ | refine bl_grow ?_ _ _ | refine bl_set (Nat.le_refl _) ?_ _ | refine bl_call ?_ (by assumption)))) (texts_one w5 r)).mono ?_; rintro e w4 ⟨rv, ev, rfl, hout, hb4⟩; have hout2 := eout_done hout; obtain ⟨xo, xa, xn, xc, rfl, hev⟩ := hout2; have hbw : Below w.heap.size w w4 := (by (repeat (first | exact Below.refl _ _ | assumption | refine bl_alloc ?_ _ | refine bl_drewN ?_ _ | refine bl_drew ?_ | refine bl_grow ?_ _ _ | refine bl_set (Nat.le_refl _) ?_ _ | refine bl_call ?_ (by assumption)))); have hbx : Below (w.heap.size + 1) (w.alloc (.cells #[.int .i64 0, .slice none 0 0] 29)) w4 := (by have q := hb1; rw [World.size_alloc] at q; exact blN (blN (blN (blN q hb6 (by simp)) hb5 (by simp)) (below_alloc _ _) (by simp)) hb4 (by simp)); obtain ⟨c0, f0, c1, f1, hz4⟩ := res2 hbx; rcases hev with rfl | ⟨t0, rfl⟩))
  all_goals
    refine bodyPost_ret (by simp [results, Tryz.results161, go_sem, c0, c1]; rfl) rfl ?_
    rw [HG.out]
    exact eout_store hout (by have q1 := hb1.size; have q2 := hb6.size; have q3 := hb5.size; simp at q1; simp; omega) hbw
set_option maxHeartbeats 2000000 in
set_option maxRecDepth 100000 in
theorem i_elemGuess_upT (l : List UInt8) (w : World) (hr : RowsAt w) (hw : WordsAt w) (hp : PowAt w) (hL : LibAt w) (hs : l.length ≤ 1000000000) (hno : l.any Stil.isSign = false) (h58 : 58 ∈ l) (hc : Stil.findCoil (l.takeWhile (· != 58)) = 0) (r : List UInt8) (hl : l = 43 :: r) :
    Calls Tryz.prog 161 #[.string ⟨l.toArray⟩] w fun e w' => EOut e w w' (Stil.ieguess l) := by
  have hih : Stil.ihead l = Stil.iof 3 (Stil.split4 58 r) := by rw [hl]; rfl
  have HG : Hid (Stil.ieguess l = Stil.iof 3 (Stil.split4 58 r)) := by show _ = _; unfold Stil.ieguess; rw [if_neg (by intro h; exact h.2 hc)]; unfold Stil.iother; rw [hno, if_neg (by decide)]; exact hih
  have HC : Hid (∀ W, Below w.heap.size w W → Calls Tryz.prog 174 #[.string ⟨l.toArray⟩, .string ⟨#[58]⟩] W fun e w' => e = .returned (.tuple #[.string ⟨(l.takeWhile (· != 58)).toArray⟩, .string ⟨((l.dropWhile (· != 58)).drop 1).toArray⟩, .bool true]) ∧ Below W.heap.size W w') := fun W h => by
    have := i_cut58 l W (hL.below h) hs
    rw [if_pos h58, if_pos h58, decide_eq_true h58] at this
    exact this
  have HF : Hid (∀ W, Calls Tryz.prog 175 #[.string ⟨(l.takeWhile (· != 58)).toArray⟩, .func (.func 72) #[] #[]] W fun e w' => e = .returned (.int .i64 0) ∧ Below W.heap.size W w') := fun W => by have := i_findCoil (l.takeWhile (· != 58)) W; rw [hc] at this; exact this
  obtain ⟨nm, hnm⟩ : ∃ nm, nm = l.takeWhile (· != 58) := ⟨_, rfl⟩
  obtain ⟨rest, hrest⟩ : ∃ rest, rest = (l.dropWhile (· != 58)).drop 1 := ⟨_, rfl⟩
  rw [← hnm] at HC HF hc
  rw [← hrest] at HC
  clear hnm hrest hc h58
  have HD : Hid (∀ W, Below w.heap.size w W → Calls Tryz.prog 155 #[.string ⟨l.toArray⟩] W fun e w' => e = .returned (.tuple #[.int .i32 43, .int .i64 1]) ∧ Below W.heap.size W w') := fun W h => by
    have := Tryz.utf8_DecodeRuneInString ⟨l.toArray⟩ W (hL.below h).1
    rw [dec_ascii l 43 r hl (by decide)] at this
    exact this
  have hx1 : (⟨l.toArray⟩ : ByteArray).extract 1 l.length = ⟨r.toArray⟩ := by rw [ba_drop, hl]; rfl
  have hl1 : 1 ≤ l.length := by rw [hl]; simp
  have hrl : r.length ≤ 1000000000 := by have := congrArg List.length hl; simp at this; omega
  have HI : Hid (∀ W, Calls Tryz.prog 178 #[.string ⟨l.toArray⟩, .func (.func 179) #[] #[]] W fun e w' => e = .returned (.int .i64 (-1)) ∧ Below W.heap.size W w') := fun W => by have := i_indexFunc l W; rw [hno] at this; exact this
  obtain ⟨hk1, hk2⟩ := split4_len 58 r
  have HS : Hid (∀ W, Below w.heap.size w W → Calls Tryz.prog 177 #[.string ⟨r.toArray⟩, .string ⟨#[58]⟩, .int .i64 4] W fun e w' => ∃ v, e = .returned v ∧ TextsAt w' v (Stil.split4 58 r) ∧ Below W.heap.size W w') := fun W h => i_split 58 r W (hL.below h) hrl
  have HO : Hid (∀ W v, Below w.heap.size w W → TextsAt W v (Stil.split4 58 r) → Calls Tryz.prog 176 #[.int .i64 3, v] W fun e w' => EOut e W w' (Stil.iof 3 (Stil.split4 58 r))) := fun W v h ht => i_elemOf' 3 v _ W (hr.below h) (hw.below h) (hp.below h) ht hk1 (fun x hx => Nat.le_trans (hk2 x hx) hrl)
  clear hl hr hw hp hL hno hih
  go_enter Tryz.func161, Tryz.ntmps161
  go_wp2_with (first | (go_at_call 174; refine (HC.out _ (by (repeat (first | exact Below.refl _ _ | assumption | refine bl_alloc ?_ _ | refine bl_drewN ?_ _ | refine bl_drew ?_ | refine bl_grow ?_ _ _ | refine bl_set (Nat.le_refl _) ?_ _ | refine bl_call ?_ (by assumption))))).mono ?_; rintro e w1 ⟨rfl, hb1⟩) | (go_at_call 175; refine (HF.out _).mono ?_; rintro e w2 ⟨rfl, hb2⟩; have hb1 := blJ hb1 hb2) | (go_at_call 178; refine (HI.out _).mono ?_; rintro e w6 ⟨rfl, hb6⟩) | (go_at_call 155; refine (HD.out _ (by (repeat (first | exact Below.refl _ _ | assumption | refine bl_alloc ?_ _ | refine bl_drewN ?_ _ | refine bl_drew ?_ | refine bl_grow ?_ _ _ | refine bl_set (Nat.le_refl _) ?_ _ | refine bl_call ?_ (by assumption))))).mono ?_; rintro e w5 ⟨rfl, hb5⟩) | (go_at_call 177; refine (HS.out _ (by (repeat (first | exact Below.refl _ _ | assumption | refine bl_alloc ?_ _ | refine bl_drewN ?_ _ | refine bl_drew ?_ | refine bl_grow ?_ _ _ | refine bl_set (Nat.le_refl _) ?_ _ | refine bl_call ?_ (by assumption))))).mono ?_; rintro e w3 ⟨v, rfl, ht, hb3⟩; have ht2 := ht; obtain ⟨va, vc, rfl, _⟩ := ht2) | (go_at_call 176; refine (HO.out _ _ (by (repeat (first | exact Below.refl _ _ | assumption | refine bl_alloc ?_ _ | refine bl_drewN ?_ _ | refine bl_drew ?_ | refine bl_grow ?_ _ _ | refine bl_set (Nat.le_refl _) ?_ _ | refine bl_call ?_ (by assumption)))) ht).mono ?_; rintro e w4 ⟨rv, ev, rfl, hout, hb4⟩; have hout2 := eout_done hout; obtain ⟨xo, xa, xn, xc, rfl, hev⟩ := hout2; have hbw : Below w.heap.size w w4 := (by (repeat (first | exact Below.refl _ _ | assumption | refine bl_alloc ?_ _ | refine bl_drewN ?_ _ | refine bl_drew ?_ | refine bl_grow ?_ _ _ | refine bl_set (Nat.le_refl _) ?_ _ | refine bl_call ?_ (by assumption)))); have hbx : Below (w.heap.size + 1) (w.alloc (.cells #[.int .i64 0, .slice none 0 0] 29)) w4 := (by have q := hb1; rw [World.size_alloc] at q; exact blN (blN (blN (blN q hb6 (by simp)) hb5 (by simp)) hb3 (by simp)) hb4 (by simp)); obtain ⟨c0, f0, c1, f1, hz4⟩ := res2 hbx; rcases hev with rfl | ⟨t0, rfl⟩))
  all_goals
    refine bodyPost_ret (by simp [results, Tryz.results161, go_sem, c0, c1]; rfl) rfl ?_
    rw [HG.out]
    exact eout_store hout (by have q1 := hb1.size; have q2 := hb6.size; have q3 := hb5.size; have q4 := hb3.size; simp at q1; omega) hbw
set_option maxHeartbeats 2000000 in
set_option maxRecDepth 100000 in
theorem i_elemGuess_upF (l : List UInt8) (w : World) (hr : RowsAt w) (hw : WordsAt w) (hp : PowAt w) (hL : LibAt w) (hs : l.length ≤ 1000000000) (hno : l.any Stil.isSign = false) (h58 : ¬ 58 ∈ l) (r : List UInt8) (hl : l = 43 :: r) :
    Calls Tryz.prog 161 #[.string ⟨l.toArray⟩] w fun e w' => EOut e w w' (Stil.ieguess l) := by
  have hih : Stil.ihead l = Stil.iof 3 (Stil.split4 58 r) := by rw [hl]; rfl
  have HG : Hid (Stil.ieguess l = Stil.iof 3 (Stil.split4 58 r)) := by show _ = _; unfold Stil.ieguess; rw [if_neg (by intro h; exact h58 h.1)]; unfold Stil.iother; rw [hno, if_neg (by decide)]; exact hih
  have HC : Hid (∀ W, Below w.heap.size w W → Calls Tryz.prog 174 #[.string ⟨l.toArray⟩, .string ⟨#[58]⟩] W fun e w' => e = .returned (.tuple #[.string ⟨l.toArray⟩, .string ⟨#[]⟩, .bool false]) ∧ Below W.heap.size W w') := fun W h => by
    have := i_cut58 l W (hL.below h) hs
    rw [if_neg h58, if_neg h58, decide_eq_false h58] at this
    exact this
  clear h58
  have HD : Hid (∀ W, Below w.heap.size w W → Calls Tryz.prog 155 #[.string ⟨l.toArray⟩] W fun e w' => e = .returned (.tuple #[.int .i32 43, .int .i64 1]) ∧ Below W.heap.size W w') := fun W h => by
    have := Tryz.utf8_DecodeRuneInString ⟨l.toArray⟩ W (hL.below h).1
    rw [dec_ascii l 43 r hl (by decide)] at this
    exact this
  have hx1 : (⟨l.toArray⟩ : ByteArray).extract 1 l.length = ⟨r.toArray⟩ := by rw [ba_drop, hl]; rfl
  have hl1 : 1 ≤ l.length := by rw [hl]; simp
  have hrl : r.length ≤ 1000000000 := by have := congrArg List.length hl; simp at this; omega
  have HI : Hid (∀ W, Calls Tryz.prog 178 #[.string ⟨l.toArray⟩, .func (.func 179) #[] #[]] W fun e w' => e = .returned (.int .i64 (-1)) ∧ Below W.heap.size W w') := fun W => by have := i_indexFunc l W; rw [hno] at this; exact this
  obtain ⟨hk1, hk2⟩ := split4_len 58 r
  have HS : Hid (∀ W, Below w.heap.size w W → Calls Tryz.prog 177 #[.string ⟨r.toArray⟩, .string ⟨#[58]⟩, .int .i64 4] W fun e w' => ∃ v, e = .returned v ∧ TextsAt w' v (Stil.split4 58 r) ∧ Below W.heap.size W w') := fun W h => i_split 58 r W (hL.below h) hrl
  have HO : Hid (∀ W v, Below w.heap.size w W → TextsAt W v (Stil.split4 58 r) → Calls Tryz.prog 176 #[.int .i64 3, v] W fun e w' => EOut e W w' (Stil.iof 3 (Stil.split4 58 r))) := fun W v h ht => i_elemOf' 3 v _ W (hr.below h) (hw.below h) (hp.below h) ht hk1 (fun x hx => Nat.le_trans (hk2 x hx) hrl)
  clear hl hr hw hp hL hno hih
  go_enter Tryz.func161, Tryz.ntmps161
  go_wp2_with (first | (go_at_call 174; refine (HC.out _ (by (repeat (first | exact Below.refl _ _ | assumption | refine bl_alloc ?_ _ | refine bl_drewN ?_ _ | refine bl_drew ?_ | refine bl_grow ?_ _ _ | refine bl_set (Nat.le_refl _) ?_ _ | refine bl_call ?_ (by assumption))))).mono ?_; rintro e w2 ⟨rfl, hb1⟩) | (go_at_call 178; refine (HI.out _).mono ?_; rintro e w6 ⟨rfl, hb6⟩) | (go_at_call 155; refine (HD.out _ (by (repeat (first | exact Below.refl _ _ | assumption | refine bl_alloc ?_ _ | refine bl_drewN ?_ _ | refine bl_drew ?_ | refine bl_grow ?_ _ _ | refine bl_set (Nat.le_refl _) ?_ _ | refine bl_call ?_ (by assumption))))).mono ?_; rintro e w5 ⟨rfl, hb5⟩) | (go_at_call 177; refine (HS.out _ (by (repeat (first | exact Below.refl _ _ | assumption | refine bl_alloc ?_ _ | refine bl_drewN ?_ _ | refine bl_drew ?_ | refine bl_grow ?_ _ _ | refine bl_set (Nat.le_refl _) ?_ _ | refine bl_call ?_ (by assumption))))).mono ?_; rintro e w3 ⟨v, rfl, ht, hb3⟩; have ht2 := ht; obtain ⟨va, vc, rfl, _⟩ := ht2) | (go_at_call 176; refine (HO.out _ _ (by (repeat (first | exact Below.refl _ _ | assumption | refine bl_alloc ?_ _ | refine bl_drewN ?_ _ | refine bl_drew ?_ | refine bl_grow ?_ _ _ | refine bl_set (Nat.le_refl _) ?_ _ | refine bl_call ?_ (by assumption)))) ht).mono ?_; rintro e w4 ⟨rv, ev, rfl, hout, hb4⟩; have hout2 := eout_done hout; obtain ⟨xo, xa, xn, xc, rfl, hev⟩ := hout2; have hbw : Below w.heap.size w w4 := (by (repeat (first | exact Below.refl _ _ | assumption | refine bl_alloc ?_ _ | refine bl_drewN ?_ _ | refine bl_drew ?_ | refine bl_grow ?_ _ _ | refine bl_set (Nat.le_refl _) ?_ _ | refine bl_call ?_ (by assumption)))); have hbx : Below (w.heap.size + 1) (w.alloc (.cells #[.int .i64 0, .slice none 0 0] 29)) w4 := (by have q := hb1; rw [World.size_alloc] at q; exact blN (blN (blN (blN q hb6 (by simp)) hb5 (by simp)) hb3 (by simp)) hb4 (by simp)); obtain ⟨c0, f0, c1, f1, hz4⟩ := res2 hbx; rcases hev with rfl | ⟨t0, rfl⟩))
  all_goals
    refine bodyPost_ret (by simp [results, Tryz.results161, go_sem, c0, c1]; rfl) rfl ?_
    rw [HG.out]
    exact eout_store hout (by have q1 := hb1.size; have q2 := hb6.size; have q3 := hb5.size; have q4 := hb3.size; simp at q1; omega) hbw
set_option maxHeartbeats 2000000 in
set_option maxRecDepth 100000 in
theorem i_elemGuess_downT (l : List UInt8) (w : World) (hr : RowsAt w) (hw : WordsAt w) (hp : PowAt w) (hL : LibAt w) (hs : l.length ≤ 1000000000) (hno : l.any Stil.isSign = false) (h58 : 58 ∈ l) (hc : Stil.findCoil (l.takeWhile (· != 58)) = 0) (r : List UInt8) (hl : l = 45 :: r) :
    Calls Tryz.prog 161 #[.string ⟨l.toArray⟩] w fun e w' => EOut e w w' (Stil.ieguess l) := by
  have hih : Stil.ihead l = Stil.iof 4 (Stil.split4 58 r) := by rw [hl]; rfl
  have HG : Hid (Stil.ieguess l = Stil.iof 4 (Stil.split4 58 r)) := by show _ = _; unfold Stil.ieguess; rw [if_neg (by intro h; exact h.2 hc)]; unfold Stil.iother; rw [hno, if_neg (by decide)]; exact hih
  have HC : Hid (∀ W, Below w.heap.size w W → Calls Tryz.prog 174 #[.string ⟨l.toArray⟩, .string ⟨#[58]⟩] W fun e w' => e = .returned (.tuple #[.string ⟨(l.takeWhile (· != 58)).toArray⟩, .string ⟨((l.dropWhile (· != 58)).drop 1).toArray⟩, .bool true]) ∧ Below W.heap.size W w') := fun W h => by
    have := i_cut58 l W (hL.below h) hs
    rw [if_pos h58, if_pos h58, decide_eq_true h58] at this
    exact this
  have HF : Hid (∀ W, Calls Tryz.prog 175 #[.string ⟨(l.takeWhile (· != 58)).toArray⟩, .func (.func 72) #[] #[]] W fun e w' => e = .returned (.int .i64 0) ∧ Below W.heap.size W w') := fun W => by have := i_findCoil (l.takeWhile (· != 58)) W; rw [hc] at this; exact this
  obtain ⟨nm, hnm⟩ : ∃ nm, nm = l.takeWhile (· != 58) := ⟨_, rfl⟩
  obtain ⟨rest, hrest⟩ : ∃ rest, rest = (l.dropWhile (· != 58)).drop 1 := ⟨_, rfl⟩
  rw [← hnm] at HC HF hc
  rw [← hrest] at HC
  clear hnm hrest hc h58
  have HD : Hid (∀ W, Below w.heap.size w W → Calls Tryz.prog 155 #[.string ⟨l.toArray⟩] W fun e w' => e = .returned (.tuple #[.int .i32 45, .int .i64 1]) ∧ Below W.heap.size W w') := fun W h => by
    have := Tryz.utf8_DecodeRuneInString ⟨l.toArray⟩ W (hL.below h).1
    rw [dec_ascii l 45 r hl (by decide)] at this
    exact this
  have hx1 : (⟨l.toArray⟩ : ByteArray).extract 1 l.length = ⟨r.toArray⟩ := by rw [ba_drop, hl]; rfl
  have hl1 : 1 ≤ l.length := by rw [hl]; simp
  have hrl : r.length ≤ 1000000000 := by have := congrArg List.length hl; simp at this; omega
  have HI : Hid (∀ W, Calls Tryz.prog 178 #[.string ⟨l.toArray⟩, .func (.func 179) #[] #[]] W fun e w' => e = .returned (.int .i64 (-1)) ∧ Below W.heap.size W w') := fun W => by have := i_indexFunc l W; rw [hno] at this; exact this
  obtain ⟨hk1, hk2⟩ := split4_len 58 r
  have HS : Hid (∀ W, Below w.heap.size w W → Calls Tryz.prog 177 #[.string ⟨r.toArray⟩, .string ⟨#[58]⟩, .int .i64 4] W fun e w' => ∃ v, e = .returned v ∧ TextsAt w' v (Stil.split4 58 r) ∧ Below W.heap.size W w') := fun W h => i_split 58 r W (hL.below h) hrl
  have HO : Hid (∀ W v, Below w.heap.size w W → TextsAt W v (Stil.split4 58 r) → Calls Tryz.prog 176 #[.int .i64 4, v] W fun e w' => EOut e W w' (Stil.iof 4 (Stil.split4 58 r))) := fun W v h ht => i_elemOf' 4 v _ W (hr.below h) (hw.below h) (hp.below h) ht hk1 (fun x hx => Nat.le_trans (hk2 x hx) hrl)
  clear hl hr hw hp hL hno hih
  go_enter Tryz.func161, Tryz.ntmps161
  go_wp2_with (first | (go_at_call 174; refine (HC.out _ (by (repeat (first | exact Below.refl _ _ | assumption | refine bl_alloc ?_ _ | refine bl_drewN ?_ _ | refine bl_drew ?_ | refine bl_grow ?_ _ _ | refine bl_set (Nat.le_refl _) ?_ _ | refine bl_call ?_ (by assumption))))).mono ?_; rintro e w1 ⟨rfl, hb1⟩) | (go_at_call 175; refine (HF.out _).mono ?_; rintro e w2 ⟨rfl, hb2⟩; have hb1 := blJ hb1 hb2) | (go_at_call 178; refine (HI.out _).mono ?_; rintro e w6 ⟨rfl, hb6⟩) | (go_at_call 155; refine (HD.out _ (by (repeat (first | exact Below.refl _ _ | assumption | refine bl_alloc ?_ _ | refine bl_drewN ?_ _ | refine bl_drew ?_ | refine bl_grow ?_ _ _ | refine bl_set (Nat.le_refl _) ?_ _ | refine bl_call ?_ (by assumption))))).mono ?_; rintro e w5 ⟨rfl, hb5⟩) | (go_at_call 177; refine (HS.out _ (by (repeat (first | exact Below.refl _ _ | assumption | refine bl_alloc ?_ _ | refine bl_drewN ?_ _ | refine bl_drew ?_ | refine bl_grow ?_ _ _ | refine bl_set (Nat.le_refl _) ?_ _ | refine bl_call ?_ (by assumption))))).mono ?_; rintro e w3 ⟨v, rfl, ht, hb3⟩; have ht2 := ht; obtain ⟨va, vc, rfl, _⟩ := ht2) | (go_at_call 176; refine (HO.out _ _ (by (repeat (first | exact Below.refl _ _ | assumption | refine bl_alloc ?_ _ | refine bl_drewN ?_ _ | refine bl_drew ?_ | refine bl_grow ?_ _ _ | refine bl_set (Nat.le_refl _) ?_ _ | refine bl_call ?_ (by assumption)))) ht).mono ?_; rintro e w4 ⟨rv, ev, rfl, hout, hb4⟩; have hout2 := eout_done hout; obtain ⟨xo, xa, xn, xc, rfl, hev⟩ := hout2; have hbw : Below w.heap.size w w4 := (by (repeat (first | exact Below.refl _ _ | assumption | refine bl_alloc ?_ _ | refine bl_drewN ?_ _ | refine bl_drew ?_ | refine bl_grow ?_ _ _ | refine bl_set (Nat.le_refl _) ?_ _ | refine bl_call ?_ (by assumption)))); have hbx : Below (w.heap.size + 1) (w.alloc (.cells #[.int .i64 0, .slice none 0 0] 29)) w4 := (by have q := hb1; rw [World.size_alloc] at q; exact blN (blN (blN (blN q hb6 (by simp)) hb5 (by simp)) hb3 (by simp)) hb4 (by simp)); obtain ⟨c0, f0, c1, f1, hz4⟩ := res2 hbx; rcases hev with rfl | ⟨t0, rfl⟩))
  all_goals
    refine bodyPost_ret (by simp [results, Tryz.results161, go_sem, c0, c1]; rfl) rfl ?_
    rw [HG.out]
    exact eout_store hout (by have q1 := hb1.size; have q2 := hb6.size; have q3 := hb5.size; have q4 := hb3.size; simp at q1; omega) hbw
set_option maxHeartbeats 2000000 in
set_option maxRecDepth 100000 in
theorem i_elemGuess_downF (l : List UInt8) (w : World) (hr : RowsAt w) (hw : WordsAt w) (hp : PowAt w) (hL : LibAt w) (hs : l.length ≤ 1000000000) (hno : l.any Stil.isSign = false) (h58 : ¬ 58 ∈ l) (r : List UInt8) (hl : l = 45 :: r) :
    Calls Tryz.prog 161 #[.string ⟨l.toArray⟩] w fun e w' => EOut e w w' (Stil.ieguess l) := by
  have hih : Stil.ihead l = Stil.iof 4 (Stil.split4 58 r) := by rw [hl]; rfl
  have HG : Hid (Stil.ieguess l = Stil.iof 4 (Stil.split4 58 r)) := by show _ = _; unfold Stil.ieguess; rw [if_neg (by intro h; exact h58 h.1)]; unfold Stil.iother; rw [hno, if_neg (by decide)]; exact hih
  have HC : Hid (∀ W, Below w.heap.size w W → Calls Tryz.prog 174 #[.string ⟨l.toArray⟩, .string ⟨#[58]⟩] W fun e w' => e = .returned (.tuple #[.string ⟨l.toArray⟩, .string ⟨#[]⟩, .bool false]) ∧ Below W.heap.size W w') := fun W h => by
    have := i_cut58 l W (hL.below h) hs
    rw [if_neg h58, if_neg h58, decide_eq_false h58] at this
    exact this
  clear h58
  have HD : Hid (∀ W, Below w.heap.size w W → Calls Tryz.prog 155 #[.string ⟨l.toArray⟩] W fun e w' => e = .returned (.tuple #[.int .i32 45, .int .i64 1]) ∧ Below W.heap.size W w') := fun W h => by
    have := Tryz.utf8_DecodeRuneInString ⟨l.toArray⟩ W (hL.below h).1
    rw [dec_ascii l 45 r hl (by decide)] at this
    exact this
  have hx1 : (⟨l.toArray⟩ : ByteArray).extract 1 l.length = ⟨r.toArray⟩ := by rw [ba_drop, hl]; rfl
  have hl1 : 1 ≤ l.length := by rw [hl]; simp
  have hrl : r.length ≤ 1000000000 := by have := congrArg List.length hl; simp at this; omega
  have HI : Hid (∀ W, Calls Tryz.prog 178 #[.string ⟨l.toArray⟩, .func (.func 179) #[] #[]] W fun e w' => e = .returned (.int .i64 (-1)) ∧ Below W.heap.size W w') := fun W => by have := i_indexFunc l W; rw [hno] at this; exact this
  obtain ⟨hk1, hk2⟩ := split4_len 58 r
  have HS : Hid (∀ W, Below w.heap.size w W → Calls Tryz.prog 177 #[.string ⟨r.toArray⟩, .string ⟨#[58]⟩, .int .i64 4] W fun e w' => ∃ v, e = .returned v ∧ TextsAt w' v (Stil.split4 58 r) ∧ Below W.heap.size W w') := fun W h => i_split 58 r W (hL.below h) hrl
  have HO : Hid (∀ W v, Below w.heap.size w W → TextsAt W v (Stil.split4 58 r) → Calls Tryz.prog 176 #[.int .i64 4, v] W fun e w' => EOut e W w' (Stil.iof 4 (Stil.split4 58 r))) := fun W v h ht => i_elemOf' 4 v _ W (hr.below h) (hw.below h) (hp.below h) ht hk1 (fun x hx => Nat.le_trans (hk2 x hx) hrl)
  clear hl hr hw hp hL hno hih
  go_enter Tryz.func161, Tryz.ntmps161
  go_wp2_with (first | (go_at_call 174; refine (HC.out _ (by (repeat (first | exact Below.refl _ _ | assumption | refine bl_alloc ?_ _ | refine bl_drewN ?_ _ | refine bl_drew ?_ | refine bl_grow ?_ _ _ | refine bl_set (Nat.le_refl _) ?_ _ | refine bl_call ?_ (by assumption))))).mono ?_; rintro e w2 ⟨rfl, hb1⟩) | (go_at_call 178; refine (HI.out _).mono ?_; rintro e w6 ⟨rfl, hb6⟩) | (go_at_call 155; refine (HD.out _ (by (repeat (first | exact Below.refl _ _ | assumption | refine bl_alloc ?_ _ | refine bl_drewN ?_ _ | refine bl_drew ?_ | refine bl_grow ?_ _ _ | refine bl_set (Nat.le_refl _) ?_ _ | refine bl_call ?_ (by assumption))))).mono ?_; rintro e w5 ⟨rfl, hb5⟩) | (go_at_call 177; refine (HS.out _ (by (repeat (first | exact Below.refl _ _ | assumption | refine bl_alloc ?_ _ | refine bl_drewN ?_ _ | refine bl_drew ?_ | refine bl_grow ?_ _ _ | refine bl_set (Nat.le_refl _) ?_ _ | refine bl_call ?_ (by assumption))))).mono ?_; rintro e w3 ⟨v, rfl, ht, hb3⟩; have ht2 := ht; obtain ⟨va, vc, rfl, _⟩ := ht2) | (go_at_call 176; refine (HO.out _ _ (by (repeat (first | exact Below.refl _ _ | assumption | refine bl_alloc ?_ _ | refine bl_drewN ?_ _ | refine bl_drew ?_ | refine bl_grow ?_ _ _ | refine bl_set (Nat.le_refl _) ?_ _ | refine bl_call ?_ (by assumption)))) ht).mono ?_; rintro e w4 ⟨rv, ev, rfl, hout, hb4⟩; have hout2 := eout_done hout; obtain ⟨xo, xa, xn, xc, rfl, hev⟩ := hout2; have hbw : Below w.heap.size w w4 := (by (repeat (first | exact Below.refl _ _ | assumption | refine bl_alloc ?_ _ | refine bl_drewN ?_ _ | refine bl_drew ?_ | refine bl_grow ?_ _ _ | refine bl_set (Nat.le_refl _) ?_ _ | refine bl_call ?_ (by assumption)))); have hbx : Below (w.heap.size + 1) (w.alloc (.cells #[.int .i64 0, .slice none 0 0] 29)) w4 := (by have q := hb1; rw [World.size_alloc] at q; exact blN (blN (blN (blN q hb6 (by simp)) hb5 (by simp)) hb3 (by simp)) hb4 (by simp)); obtain ⟨c0, f0, c1, f1, hz4⟩ := res2 hbx; rcases hev with rfl | ⟨t0, rfl⟩))
  all_goals
    refine bodyPost_ret (by simp [results, Tryz.results161, go_sem, c0, c1]; rfl) rfl ?_
    rw [HG.out]
    exact eout_store hout (by have q1 := hb1.size; have q2 := hb6.size; have q3 := hb5.size; have q4 := hb3.size; simp at q1; omega) hbw
set_option maxHeartbeats 2000000 in
set_option maxRecDepth 100000 in
theorem i_elemGuess_openT (l : List UInt8) (w : World) (hr : RowsAt w) (hw : WordsAt w) (hp : PowAt w) (hL : LibAt w) (hs : l.length ≤ 1000000000) (hno : l.any Stil.isSign = false) (h58 : 58 ∈ l) (hc : Stil.findCoil (l.takeWhile (· != 58)) = 0) (h1 : Stil.headIs l 47 = false) (h2 : Stil.headIs l 43 = false) (h3 : Stil.headIs l 45 = false) :
    Calls Tryz.prog 161 #[.string ⟨l.toArray⟩] w fun e w' => EOut e w w' (Stil.ieguess l) := by
  have hih : Stil.ihead l = Stil.iof 1 [l] := by unfold Stil.ihead; rw [h1, h2, h3]; rfl
  have HG : Hid (Stil.ieguess l = Stil.iof 1 ([l])) := by show _ = _; unfold Stil.ieguess; rw [if_neg (by intro h; exact h.2 hc)]; unfold Stil.iother; rw [hno, if_neg (by decide)]; exact hih
  have HC : Hid (∀ W, Below w.heap.size w W → Calls Tryz.prog 174 #[.string ⟨l.toArray⟩, .string ⟨#[58]⟩] W fun e w' => e = .returned (.tuple #[.string ⟨(l.takeWhile (· != 58)).toArray⟩, .string ⟨((l.dropWhile (· != 58)).drop 1).toArray⟩, .bool true]) ∧ Below W.heap.size W w') := fun W h => by
    have := i_cut58 l W (hL.below h) hs
    rw [if_pos h58, if_pos h58, decide_eq_true h58] at this
    exact this
  have HF : Hid (∀ W, Calls Tryz.prog 175 #[.string ⟨(l.takeWhile (· != 58)).toArray⟩, .func (.func 72) #[] #[]] W fun e w' => e = .returned (.int .i64 0) ∧ Below W.heap.size W w') := fun W => by have := i_findCoil (l.takeWhile (· != 58)) W; rw [hc] at this; exact this
  obtain ⟨nm, hnm⟩ : ∃ nm, nm = l.takeWhile (· != 58) := ⟨_, rfl⟩
  obtain ⟨rest, hrest⟩ : ∃ rest, rest = (l.dropWhile (· != 58)).drop 1 := ⟨_, rfl⟩
  rw [← hnm] at HC HF hc
  rw [← hrest] at HC
  clear hnm hrest hc h58
  obtain ⟨R, q, hR1, hR2, hR3, hR4⟩ := dec_other l h1 h2 h3
  have HD : Hid (∀ W, Below w.heap.size w W → Calls Tryz.prog 155 #[.string ⟨l.toArray⟩] W fun e w' => e = .returned (.tuple #[.int .i32 R, .int .i64 q]) ∧ Below W.heap.size W w') := fun W h => by
    have := Tryz.utf8_DecodeRuneInString ⟨l.toArray⟩ W (hL.below h).1
    rw [hR1] at this
    exact this
  have e47 : ((R : Int) == 47) = false := beq_eq_false_iff_ne.2 (by omega)
  have e43 : ((R : Int) == 43) = false := beq_eq_false_iff_ne.2 (by omega)
  have e45 : ((R : Int) == 45) = false := beq_eq_false_iff_ne.2 (by omega)
  have HI : Hid (∀ W, Calls Tryz.prog 178 #[.string ⟨l.toArray⟩, .func (.func 179) #[] #[]] W fun e w' => e = .returned (.int .i64 (-1)) ∧ Below W.heap.size W w') := fun W => by have := i_indexFunc l W; rw [hno] at this; exact this
  have HO : Hid (∀ W v, Below w.heap.size w W → TextsAt W v [l] → Calls Tryz.prog 176 #[.int .i64 1, v] W fun e w' => EOut e W w' (Stil.iof 1 [l])) := fun W v h ht => i_elemOf' 1 v _ W (hr.below h) (hw.below h) (hp.below h) ht (by simp) (fun x hx => by simp at hx; subst hx; exact hs)
  clear hR1 hR2 hR3 hR4 h1 h2 h3 hr hw hp hL hno hih
  go_enter Tryz.func161, Tryz.ntmps161
  go_wp2_with (first | (go_at_call 174; refine (HC.out _ (by (repeat (first | exact Below.refl _ _ | assumption | refine bl_alloc ?_ _ | refine bl_drewN ?_ _ | refine bl_drew ?_ | refine bl_grow ?_ _ _ | refine bl_set (Nat.le_refl _) ?_ _ | refine bl_call ?_ (by assumption))))).mono ?_; rintro e w1 ⟨rfl, hb1⟩) | (go_at_call 175; refine (HF.out _).mono ?_; rintro e w2 ⟨rfl, hb2⟩; have hb1 := blJ hb1 hb2) | (go_at_call 178; refine (HI.out _).mono ?_; rintro e w6 ⟨rfl, hb6⟩) | (go_at_call 155; refine (HD.out _ (by (repeat (first | exact Below.refl _ _ | assumption | refine bl_alloc ?_ _ | refine bl_drewN ?_ _ | refine bl_drew ?_ | refine bl_grow ?_ _ _ | refine bl_set (Nat.le_refl _) ?_ _ | refine bl_call ?_ (by assumption))))).mono ?_; rintro e w5 ⟨rfl, hb5⟩) | (go_at_call 176; refine (HO.out _ _ (by (repeat (first | exact Below.refl _ _ | assumption | refine bl_alloc ?_ _ | refine bl_drewN ?_ _ | refine bl_drew ?_ | refine bl_grow ?_ _ _ | refine bl_set (Nat.le_refl _) ?_ _ | refine bl_call ?_ (by assumption)))) (texts_one w5 l)).mono ?_; rintro e w4 ⟨rv, ev, rfl, hout, hb4⟩; have hout2 := eout_done hout; obtain ⟨xo, xa, xn, xc, rfl, hev⟩ := hout2; have hbw : Below w.heap.size w w4 := (by (repeat (first | exact Below.refl _ _ | assumption | refine bl_alloc ?_ _ | refine bl_drewN ?_ _ | refine bl_drew ?_ | refine bl_grow ?_ _ _ | refine bl_set (Nat.le_refl _) ?_ _ | refine bl_call ?_ (by assumption)))); have hbx : Below (w.heap.size + 1) (w.alloc (.cells #[.int .i64 0, .slice none 0 0] 29)) w4 := (by have q := hb1; rw [World.size_alloc] at q; exact blN (blN (blN (blN q hb6 (by simp)) hb5 (by simp)) (below_alloc _ _) (by simp)) hb4 (by simp)); obtain ⟨c0, f0, c1, f1, hz4⟩ := res2 hbx; rcases hev with rfl | ⟨t0, rfl⟩))
  all_goals
    refine bodyPost_ret (by simp [results, Tryz.results161, go_sem, c0, c1]; rfl) rfl ?_
    rw [HG.out]
    exact eout_store hout (by have q1 := hb1.size; have q2 := hb6.size; have q3 := hb5.size; simp at q1; simp; omega) hbw
set_option maxHeartbeats 2000000 in
set_option maxRecDepth 100000 in
theorem i_elemGuess_openF (l : List UInt8) (w : World) (hr : RowsAt w) (hw : WordsAt w) (hp : PowAt w) (hL : LibAt w) (hs : l.length ≤ 1000000000) (hno : l.any Stil.isSign = false) (h58 : ¬ 58 ∈ l) (h1 : Stil.headIs l 47 = false) (h2 : Stil.headIs l 43 = false) (h3 : Stil.headIs l 45 = false) :
    Calls Tryz.prog 161 #[.string ⟨l.toArray⟩] w fun e w' => EOut e w w' (Stil.ieguess l) := by
  have hih : Stil.ihead l = Stil.iof 1 [l] := by unfold Stil.ihead; rw [h1, h2, h3]; rfl
  have HG : Hid (Stil.ieguess l = Stil.iof 1 ([l])) := by show _ = _; unfold Stil.ieguess; rw [if_neg (by intro h; exact h58 h.1)]; unfold Stil.iother; rw [hno, if_neg (by decide)]; exact hih
  have HC : Hid (∀ W, Below w.heap.size w W → Calls Tryz.prog 174 #[.string ⟨l.toArray⟩, .string ⟨#[58]⟩] W fun e w' => e = .returned (.tuple #[.string ⟨l.toArray⟩, .string ⟨#[]⟩, .bool false]) ∧ Below W.heap.size W w') := fun W h => by
    have := i_cut58 l W (hL.below h) hs
    rw [if_neg h58, if_neg h58, decide_eq_false h58] at this
    exact this
  clear h58
  obtain ⟨R, q, hR1, hR2, hR3, hR4⟩ := dec_other l h1 h2 h3
  have HD : Hid (∀ W, Below w.heap.size w W → Calls Tryz.prog 155 #[.string ⟨l.toArray⟩] W fun e w' => e = .returned (.tuple #[.int .i32 R, .int .i64 q]) ∧ Below W.heap.size W w') := fun W h => by
    have := Tryz.utf8_DecodeRuneInString ⟨l.toArray⟩ W (hL.below h).1
    rw [hR1] at this
    exact this
  have e47 : ((R : Int) == 47) = false := beq_eq_false_iff_ne.2 (by omega)
  have e43 : ((R : Int) == 43) = false := beq_eq_false_iff_ne.2 (by omega)
  have e45 : ((R : Int) == 45) = false := beq_eq_false_iff_ne.2 (by omega)
  have HI : Hid (∀ W, Calls Tryz.prog 178 #[.string ⟨l.toArray⟩, .func (.func 179) #[] #[]] W fun e w' => e = .returned (.int .i64 (-1)) ∧ Below W.heap.size W w') := fun W => by have := i_indexFunc l W; rw [hno] at this; exact this
  have HO : Hid (∀ W v, Below w.heap.size w W → TextsAt W v [l] → Calls Tryz.prog 176 #[.int .i64 1, v] W fun e w' => EOut e W w' (Stil.iof 1 [l])) := fun W v h ht => i_elemOf' 1 v _ W (hr.below h) (hw.below h) (hp.below h) ht (by simp) (fun x hx => by simp at hx; subst hx; exact hs)
  clear hR1 hR2 hR3 hR4 h1 h2 h3 hr hw hp hL hno hih
  go_enter Tryz.func161, Tryz.ntmps161
  go_wp2_with (first | (go_at_call 174; refine (HC.out _ (by (repeat (first | exact Below.refl _ _ | assumption | refine bl_alloc ?_ _ | refine bl_drewN ?_ _ | refine bl_drew ?_ | refine bl_grow ?_ _ _ | refine bl_set (Nat.le_refl _) ?_ _ | refine bl_call ?_ (by assumption))))).mono ?_; rintro e w2 ⟨rfl, hb1⟩) | (go_at_call 178; refine (HI.out _).mono ?_; rintro e w6 ⟨rfl, hb6⟩) | (go_at_call 155; refine (HD.out _ (by (repeat (first | exact Below.refl _ _ | assumption | refine bl_alloc ?_ _ | refine bl_drewN ?_ _ | refine bl_drew ?_ | refine bl_grow ?_ _ _ | refine bl_set (Nat.le_refl _) ?_ _ | refine bl_call ?_ (by assumption))))).mono ?_; rintro e w5 ⟨rfl, hb5⟩) | (go_at_call 176; refine (HO.out _ _ (by (repeat (first | exact Below.refl _ _ | assumption | refine bl_alloc ?_ _ | refine bl_drewN ?_ _ | refine bl_drew ?_ | refine bl_grow ?_ _ _ | refine bl_set (Nat.le_refl _) ?_ _ | refine bl_call ?_ (by assumption)))) (texts_one w5 l)).mono ?_; rintro e w4 ⟨rv, ev, rfl, hout, hb4⟩; have hout2 := eout_done hout; obtain ⟨xo, xa, xn, xc, rfl, hev⟩ := hout2; have hbw : Below w.heap.size w w4 := (by (repeat (first | exact Below.refl _ _ | assumption | refine bl_alloc ?_ _ | refine bl_drewN ?_ _ | refine bl_drew ?_ | refine bl_grow ?_ _ _ | refine bl_set (Nat.le_refl _) ?_ _ | refine bl_call ?_ (by assumption)))); have hbx : Below (w.heap.size + 1) (w.alloc (.cells #[.int .i64 0, .slice none 0 0] 29)) w4 := (by have q := hb1; rw [World.size_alloc] at q; exact blN (blN (blN (blN q hb6 (by simp)) hb5 (by simp)) (below_alloc _ _) (by simp)) hb4 (by simp)); obtain ⟨c0, f0, c1, f1, hz4⟩ := res2 hbx; rcases hev with rfl | ⟨t0, rfl⟩))
  all_goals
    refine bodyPost_ret (by simp [results, Tryz.results161, go_sem, c0, c1]; rfl) rfl ?_
    rw [HG.out]
    exact eout_store hout (by have q1 := hb1.size; have q2 := hb6.size; have q3 := hb5.size; simp at q1; simp; omega) hbw
end Go.Proofs.YtipdjmbgbehkaaaGreatDoor
