/- S2g, S2h, S2i, S2j, S2k, S2l, L1: texts put together. -/
import Derived.Test.YthhfnncehfkbfaaDoorGB
import Derived.Test.YthhfnncehfkbfaaDoorGM
import Derived.Lib.SmallJoins
import Derived.Deep.RegionLaw
import Derived.Deep.DeepCutAuto
/- Contracts of the specification's chapter 2, seventh part: ElemText. -/
namespace Go.Proofs.YthhfnncehfkbfaaDoor
open Go.RowKit Go.Sort Go.BigFrame
theorem argsText_snoc : ∀ (l : List Stil.Dev) (x : Stil.Dev), Stil.argsText (l ++ [x]) = Stil.argsText l ++ 44 :: x.text
  | [], x => by simp [Stil.argsText]
  | y :: r, x => by simp [Stil.argsText, argsText_snoc r x]
theorem devText_len (k n p : Int) (h1 : -9223372036854775808 ≤ n) (h2 : n ≤ 9223372036854775807) : (Stil.devText k n p).length ≤ 60 := by
  unfold Stil.devText
  split
  · have hi : (Lib.itoa n).length ≤ 20 ∨ n = -9223372036854775808 := by
      by_cases hm : n = -9223372036854775808
      · exact Or.inr hm
      · left
        unfold Lib.itoa
        split
        · have := decDigits_le (n := n.natAbs) (by omega); simp; omega
        · have := decDigits_le (n := n.toNat) (by omega); omega
    rename_i hok
    split
    · rename_i h; subst h; simp [Stil.devOkB] at hok; omega
    · split
      · rename_i h; subst h
        have := devOk_dec hok
        unfold Stil.decText
        have a1 := decNat_le n.natAbs p.toNat (by omega)
        have a2 := decNat_le n.toNat p.toNat (by omega)
        split
        · simp; omega
        · omega
      · split
        · rename_i h; subst h
          have := devOk_word hok
          have hn : n = 0 ∨ n = 1 ∨ n = 2 ∨ n = 3 := by omega
          rcases hn with rfl | rfl | rfl | rfl <;> simp [Stil.words]
        · have := devOk_dev hok ‹_› ‹_› ‹_›
          simp; omega
  · simp
end Go.Proofs.YthhfnncehfkbfaaDoor
/- Contracts of the specification's chapter 2, eighth part: ElemText of contacts, and whole. -/
namespace Go.Proofs.YthhfnncehfkbfaaDoor
open Go.RowKit Go.Sort Go.BigFrame
end Go.Proofs.YthhfnncehfkbfaaDoor
/- Contracts of the specification's chapter 2, ninth part: l9Cut. -/
namespace Go.Proofs.YthhfnncehfkbfaaDoor
open Go.RowKit Go.Sort Go.BigFrame
theorem info_string : (Tryd.prog.info? 9).map (fun i => (i.zero, i.size, i.bytes)) = some (some (.string ⟨#[]⟩), 1, 16) := by kernel_rfl
theorem info_dev : (Tryd.prog.info? 69).map (fun i => (i.zero, i.size, i.bytes)) = some (some (.agg #[.int .i64 0, .int .i64 0, .int .i64 0]), 3, 24) := by kernel_rfl
def strV (l : List UInt8) : Value := .string ⟨l.toArray⟩
theorem slice_mid (l : List UInt8) (a b : Nat) : (⟨l.toArray⟩ : ByteArray).extract a b = ⟨((l.take b).drop a).toArray⟩ := ba_ext l a b
theorem piece_end {c : UInt8} {l : List UInt8} {f : Nat} (h : ∀ j (hj : j < l.length), f ≤ j → l[j] ≠ c) : Stil.cut c (l.drop f) = [l.drop f] := by
  refine Stil.cut_none c _ fun x hx => ?_
  obtain ⟨i, hi, rfl⟩ := List.getElem_of_mem hx
  rw [List.getElem_drop]
  exact h (f + i) (by simp at hi; omega) (by omega)
theorem piece_at {c : UInt8} {l : List UInt8} {f k : Nat} (hf : f ≤ k) (hk : k < l.length) (h : ∀ j (hj : j < k), f ≤ j → l[j] ≠ c) (hc : l[k] = c) : Stil.cut c (l.drop f) = (l.take k).drop f :: Stil.cut c (l.drop (k + 1)) := by
  have e : l.drop f = (l.take k).drop f ++ c :: l.drop (k + 1) := by
    have h1 : l = l.take k ++ l[k] :: l.drop (k + 1) := by rw [← List.drop_eq_getElem_cons hk, List.take_append_drop]
    have h2 : l.drop f = (l.take k ++ l[k] :: l.drop (k + 1)).drop f := by rw [← h1]
    rw [h2, List.drop_append_of_le_length (by simp; omega), hc]
  rw [e]
  refine Stil.cut_at c _ _ fun x hx => ?_
  obtain ⟨i, hi, rfl⟩ := List.getElem_of_mem hx
  simp only [List.getElem_drop, List.getElem_take]
  simp at hi
  exact h (f + i) (by omega) (by omega)
end Go.Proofs.YthhfnncehfkbfaaDoor
/- Contracts of the specification's chapter 2, tenth part: l2Args. -/
namespace Go.Proofs.YthhfnncehfkbfaaDoor
open Go.RowKit Go.Sort Go.BigFrame
def devCells (d : Stil.Dev) : List Value := [.int .i64 d.kind, .int .i64 d.n, .int .i64 d.p]
def devsCells (ds : List Stil.Dev) : List Value := ds.flatMap devCells
theorem devsCells_length (ds : List Stil.Dev) : (devsCells ds).length = ds.length * 3 := by
  induction ds with
  | nil => rfl
  | cons d r ih => simp [devsCells, devCells] at ih ⊢; omega
theorem devsCells_snoc (ds : List Stil.Dev) (d : Stil.Dev) : devsCells (ds ++ [d]) = devsCells ds ++ devCells d := by simp [devsCells]
theorem devsCells_get (ds : List Stil.Dev) : ∀ (i : Nat) (h : i < ds.length), (devsCells ds)[i * 3]? = some (.int .i64 ds[i].kind) ∧ (devsCells ds)[i * 3 + 1]? = some (.int .i64 ds[i].n) ∧ (devsCells ds)[i * 3 + 2]? = some (.int .i64 ds[i].p) := by
  induction ds with
  | nil => intro i h; simp at h
  | cons d r ih =>
    intro i h
    have e : devsCells (d :: r) = .int .i64 d.kind :: .int .i64 d.n :: .int .i64 d.p :: devsCells r := rfl
    cases i with
    | zero => rw [e]; simp
    | succ i =>
      have h' : i < r.length := by simpa using h
      rw [e]
      have := ih i h'
      have e0 : (i + 1) * 3 = i * 3 + 3 := by omega
      rw [e0]
      simpa using this
theorem add_plain (g j : Nat) : (⟨g, 0, none⟩ : Addr).add j = ⟨g, j, none⟩ := by unfold Addr.add; split <;> simp_all
theorem ownsRow_cells {w : World} {base : Nat} {e : TypeId} {size : Nat} {v : Value} {n : Nat} {xs : List Value} (h : w.ownsRow base e size v n xs) (hn : 0 < n) : ∃ g cap, v = .slice (some ⟨g, 0, none⟩) n cap ∧ base ≤ g ∧ g < w.heap.size ∧ n ≤ cap ∧ ∀ j u, xs[j]? = some u → w.cell? ⟨g, j, none⟩ = some u := by
  have h2 := h.2
  rcases h2 with ⟨_, h0⟩ | ⟨g, cap, cur, hv, hg, _, hc, _⟩
  · omega
  · refine ⟨g, cap, hv, hg, (h.lt g (by rw [hv]; rfl)).2, hc, fun j u hu => ?_⟩
    have := h.cells (g := g) (by rw [hv]; rfl) j u hu
    rwa [add_plain] at this
theorem DevsAt.of_owns {w : World} {base : Nat} {v : Value} {ds : List Stil.Dev} (h : w.ownsRow base 69 3 v ds.length (devsCells ds)) : DevsAt w v ds := by
  by_cases hd : ds.length = 0
  · have hn : ds = [] := List.length_eq_zero_iff.1 hd
    subst hn
    rcases h.2 with ⟨h0, _⟩ | ⟨g, cap, cur, hv, _⟩
    · exact ⟨none, 0, h0, fun i hi => by simp at hi⟩
    · exact ⟨_, cap, hv, fun i hi => by simp at hi⟩
  · obtain ⟨g, cap, hv, _, hlt, _, hc⟩ := ownsRow_cells h (by omega)
    refine ⟨_, cap, hv, fun i hi => ⟨g, 0, rfl, hlt, ?_⟩⟩
    obtain ⟨a1, a2, a3⟩ := devsCells_get ds i hi
    unfold DevAt
    rw [Nat.zero_add]
    exact ⟨hc _ _ a1, hc _ _ a2, hc _ _ a3⟩
theorem ownsRow_below {w w' : World} {base : Nat} {e : TypeId} {size : Nat} {v : Value} {n : Nat} {xs : List Value} (h : w.ownsRow base e size v n xs) (hb : Below w.heap.size w w') : w'.ownsRow base e size v n xs := by
  refine ⟨h.1, ?_⟩
  rcases h.2 with h0 | ⟨g, cap, cur, hv, hg, hh, hr⟩
  · exact Or.inl h0
  · have := (h.lt g (by rw [hv]; rfl)).2
    exact Or.inr ⟨g, cap, cur, hv, hg, by rw [hb.block g this]; exact hh, hr⟩
theorem cells_new (W : World) (cs : List Value) (t : TypeId) (b : Nat) (hb : b = W.heap.size) : ∀ j u, cs[j]? = some u → (W.alloc (.cells cs.toArray t)).cell? ((⟨b, 0, none⟩ : Addr).add j) = some u := by
  subst hb
  intro j u hj
  rw [add_plain, World.cell?_alloc_at _ _ _ _ rfl]
  simpa using hj
theorem cut_ne (c : UInt8) (l : List UInt8) : 0 < (Stil.cut c l).length := by
  cases l with
  | nil => simp [Stil.cut]
  | cons x r =>
    unfold Stil.cut
    split
    · simp
    · cases Stil.cut c r <;> simp [Stil.consHead]
theorem cut_len (c : UInt8) : ∀ (l : List UInt8), ∀ p ∈ Stil.cut c l, p.length ≤ l.length
  | [], p, h => by simp [Stil.cut] at h; subst h; simp
  | x :: r, p, h => by
    unfold Stil.cut at h
    split at h
    · rcases List.mem_cons.1 h with rfl | h
      · simp
      · have := cut_len c r p h; simp; omega
    · have ih := cut_len c r
      cases hc : Stil.cut c r with
      | nil => rw [hc] at h; simp [Stil.consHead] at h; subst h; simp
      | cons a t =>
        rw [hc] at h ih
        simp only [Stil.consHead] at h
        rcases List.mem_cons.1 h with rfl | h
        · have := ih a (by simp); simp; omega
        · have := ih p (by simp [h]); simp; omega
end Go.Proofs.YthhfnncehfkbfaaDoor
/- Contracts of the specification's chapter 2, eleventh part: l2Guess. -/
namespace Go.Proofs.YthhfnncehfkbfaaDoor
open Go.RowKit Go.Sort Go.BigFrame
theorem step_append_own {P : Program} {ops : Array Oper} {o : Oper} {a : Act} {w : World} {K : Act → World → Prop} {Q : Exit → Act → World → Prop} {E : Prop}
    (hg : o.guard = none) (s x : Operand) (t : TypeId) (hop : o.op = .call { callee := .builtin .append, args := #[s, x], argTypes := #[t, t] })
    (base : Nat) (e : TypeId) (i : TypeInfo) (z : Value) (size bytes : Nat) (ht : P.underlying t = some (.slice e)) (hi : P.info? e = some i) (hz : i.zero = some z)
    (hsize : i.size = size) (hby : i.bytes = bytes) (hzs : z.cells.size = size) (hsz : 0 < size)
    (v : Value) (n : Nat) (xs : List Value) (hs : a.eval s = v) (hown : w.ownsRow base e size v n xs)
    (ad : Addr) (m c : Nat) (news : List Value) (hx : a.eval x = .slice (some ad) m c) (hl : news.length = m * size) (hnews : ∀ j u, news[j]? = some u → w.cell? (ad.add j) = some u) (h1 : ∀ u ∈ news, u.oneCell' = true)
    (h63 : n + m ≤ maxLen) (hbytes : (n + m) * bytes ≤ 140737488355328) (hbase : base ≤ w.heap.size)
    (hK : ∀ v' w', w'.ownsRow base e size v' (n + m) (xs ++ news) → w.grownBy w' v.ownBlock → K (a.put o.dst v') w') :
    if Region.wanted o (yielded ops a.tmps) = true then Oper.wp P o a w K Q else E := by
  have hw : Region.wanted o (yielded ops a.tmps) = true := by simp [Region.wanted, hg]
  rw [if_pos hw]
  exact wp_append_own w s x t hop base e i z size bytes ht hi hz hsize hby hzs hsz v n xs hs hown ad m c news hx hl hnews h1 h63 hbytes hbase fun v' w' h2 h3 _ => hK v' w' h2 h3
theorem args_le (c : UInt8) (l : List UInt8) : (Stil.args c l).length ≤ 4 := by simp [Stil.args]; omega
theorem args_pos (c : UInt8) (l : List UInt8) : 0 < (Stil.args c l).length := by have := cut_ne c l; simp [Stil.args]; omega
theorem devsCells_append (a b : List Stil.Dev) : devsCells (a ++ b) = devsCells a ++ devsCells b := by simp [devsCells]
theorem devsCells_one (ds : List Stil.Dev) : ∀ u ∈ devsCells ds, u.oneCell' = true := by
  intro u hu
  simp only [devsCells, List.mem_flatMap, devCells] at hu
  obtain ⟨d, _, hd⟩ := hu
  simp at hd
  rcases hd with rfl | rfl | rfl <;> rfl
theorem ba_take (l : List UInt8) (k : Nat) : (⟨l.toArray⟩ : ByteArray).extract 0 k = ⟨(l.take k).toArray⟩ := by rw [ba_ext]; simp
/-- The result of two lists of operands, one behind the other, in memory of the call's own. -/
theorem app_done {w w2 w3 w4 w5 : World} {g cap : Nat} {a b : List Stil.Dev} {v' : Value}
    (hB : Below (w.heap.size + 1) (w.alloc (.cells #[.int .i64 0, .slice none 0 0] 31)) w2) (hb3 : Below w2.heap.size w2 w3) (hb4 : Below w3.heap.size w3 w4)
    (ho3 : w3.ownsRow w2.heap.size 69 3 (.slice (some ⟨g, 0, none⟩) a.length cap) a.length (devsCells a))
    (ho5 : w5.ownsRow w2.heap.size 69 3 v' (a.length + b.length) (devsCells a ++ devsCells b)) (hgr : w4.grownBy w5 (Value.ownBlock (.slice (some ⟨g, 0, none⟩) a.length cap))) (hp : 0 < a.length) :
    (∃ g' cap', v' = .slice (some ⟨g', 0, none⟩) (a.length + b.length) cap') ∧ Below (w.heap.size + 1) (w.alloc (.cells #[.int .i64 0, .slice none 0 0] 31)) w5 ∧ w5.ownsRow (w.heap.size + 1) 69 3 v' (a ++ b).length (devsCells (a ++ b)) := by
  obtain ⟨g', cap', hv, _⟩ := ownsRow_cells ho5 (by omega)
  have hz : w.heap.size + 1 ≤ w2.heap.size := by have := hB.size; simpa using this
  refine ⟨⟨g', cap', hv⟩, ?_, ?_⟩
  · have h1 := hB.trans ((hb3.trans (hb4.mono hb3.size)).mono hz)
    refine h1.grown hgr (by have := hb3.size; have := hb4.size; omega) (fun k hk => ?_)
    have := (ho3.lt k hk).1
    omega
  · rw [devsCells_append, List.length_append]
    exact Joins.ownsRow_le ho5 (by omega)
theorem res2 {w w5 : World} (hB : Below (w.heap.size + 1) (w.alloc (.cells #[.int .i64 0, .slice none 0 0] 31)) w5) :
    w5.cell? ⟨w.heap.size, 0, none⟩ = some (.int .i64 0) ∧ w5.frozen? ⟨w.heap.size, 0, none⟩ = false ∧ w5.cell? ⟨w.heap.size, 1, none⟩ = some (.slice none 0 0) ∧ w5.frozen? ⟨w.heap.size, 1, none⟩ = false ∧ w.heap.size < w5.heap.size := by
  have hz : w.heap.size < w5.heap.size := by have := hB.size; simp at this; omega
  have c0 : w5.cell? ⟨w.heap.size, 0, none⟩ = some (.int .i64 0) := by rw [hB.cell (p := ⟨w.heap.size, 0, none⟩) (by simp)]; simp [go_sem]
  have f0 : w5.frozen? ⟨w.heap.size, 0, none⟩ = false := by rw [hB.frozen (p := ⟨w.heap.size, 0, none⟩) (by simp)]; simp [go_sem]
  have c1 : w5.cell? ⟨w.heap.size, 1, none⟩ = some (.slice none 0 0) := by rw [hB.cell (p := ⟨w.heap.size, 1, none⟩) (by simp)]; simp [go_sem]
  have f1 : w5.frozen? ⟨w.heap.size, 1, none⟩ = false := by rw [hB.frozen (p := ⟨w.heap.size, 1, none⟩) (by simp)]; simp [go_sem]
  exact ⟨c0, f0, c1, f1, hz⟩
theorem owns_res {w w5 : World} {v : Value} {n : Nat} {xs : List Value} (h : w5.ownsRow (w.heap.size + 1) 69 3 v n xs) (a b : Value) :
    ((w5.setCell ⟨w.heap.size, 0, none⟩ a).setCell ⟨w.heap.size, 1, none⟩ b).ownsRow w.heap.size 69 3 v n xs :=
  Joins.ownsRow_le (ownsRow_setCell_below (ownsRow_setCell_below h (Nat.lt_succ_self _) a) (Nat.lt_succ_self _) b) (Nat.le_succ _)
theorem u8_beq (y c : UInt8) (n : Int) (h : (c.toNat : Int) = n) : (y == c) = ((y.toNat : Int) == n) := by
  rw [Bool.eq_iff_iff]; simp only [beq_iff_eq]
  constructor
  · intro e; subst e; exact h
  · intro e; exact UInt8.toNat_inj.1 (by omega)
end Go.Proofs.YthhfnncehfkbfaaDoor
/- Contracts of the specification's chapter 2, twelfth part: ElemRead. -/
namespace Go.Proofs.YthhfnncehfkbfaaDoor
open Go.RowKit Go.Sort Go.BigFrame
theorem devOk_fits (d : Stil.Dev) (h : Stil.devOkB d.kind d.n d.p = true) : d.fits := by
  unfold Stil.Dev.fits
  by_cases h1 : d.kind = 11
  · rw [h1] at h; simp [Stil.devOkB] at h; omega
  · by_cases h2 : d.kind = 12
    · rw [h2] at h; have := devOk_dec h; omega
    · by_cases h3 : d.kind = 13
      · rw [h3] at h; simp [Stil.devOkB] at h; omega
      · have := devOk_dev h h1 h2 h3; omega
theorem devRead_fits (l : List UInt8) : (Stil.devRead l).fits := by
  unfold Stil.devRead
  split
  · rename_i h
    apply devOk_fits
    cases hok : Stil.devOkB (Stil.guess l).kind (Stil.guess l).n (Stil.guess l).p
    · exfalso
      have ht : (Stil.guess l).text = [] := by unfold Stil.Dev.text Stil.devText; rw [hok]; rfl
      unfold Stil.devReadB at h
      rw [ht] at h
      cases l <;> simp at h
    · rfl
  · unfold Stil.Dev.fits; simp
theorem args_fits (c : UInt8) (l : List UInt8) : ∀ d ∈ Stil.args c l, d.fits := by
  intro d hd
  obtain ⟨p, _, rfl⟩ := List.mem_map.1 (List.mem_of_mem_take hd)
  exact devRead_fits p
theorem signFrom_fits (l : List UInt8) (i n : Nat) : ∀ m k, ∀ d ∈ (Stil.signFrom l i n m k).args, d.fits
  | 0, k, d, hd => by simp [Stil.signFrom] at hd
  | m + 1, k, d, hd => by
    unfold Stil.signFrom at hd
    split at hd
    · rcases List.mem_append.1 hd with h | h <;> exact args_fits _ _ d h
    · exact signFrom_fits l i n m (k + 1) d hd
theorem guessHead_fits (l : List UInt8) : ∀ d ∈ (Stil.guessHead l).args, d.fits := by
  intro d hd
  unfold Stil.guessHead at hd
  split at hd
  · exact args_fits _ _ d hd
  · split at hd
    · exact args_fits _ _ d hd
    · split at hd <;> exact args_fits _ _ d hd
theorem guessName_fits (l : List UInt8) : ∀ m k, ∀ d ∈ (Stil.guessName l m k).args, d.fits
  | 0, _, d, hd => guessHead_fits l d hd
  | m + 1, k, d, hd => by
    unfold Stil.guessName at hd
    split at hd
    · exact args_fits _ _ d hd
    · exact guessName_fits l m (k + 1) d hd
theorem scan_fits (l : List UInt8) : ∀ m k, ∀ d ∈ (Stil.scan l m k).args, d.fits
  | 0, _, d, hd => guessName_fits l _ _ d hd
  | m + 1, k, d, hd => by
    unfold Stil.scan at hd
    split at hd
    · exact signFrom_fits _ _ _ _ _ d hd
    · exact scan_fits l m (k + 1) d hd
theorem eguess_fits (l : List UInt8) : ∀ d ∈ (Stil.eguess l).args, d.fits := scan_fits l _ _
theorem args8 (c : UInt8) (a b : List UInt8) : (Stil.args c a ++ Stil.args c b).length ≤ 8 := by
  have := args_le c a; have := args_le c b; simp; omega
theorem signFrom_len (l : List UInt8) (i n : Nat) : ∀ m k, (Stil.signFrom l i n m k).args.length ≤ 8
  | 0, k => by simp [Stil.signFrom]
  | m + 1, k => by
    unfold Stil.signFrom
    split
    · exact args8 _ _ _
    · exact signFrom_len l i n m (k + 1)
theorem guessName_len (l : List UInt8) : ∀ m k, (Stil.guessName l m k).args.length ≤ 8
  | 0, _ => by
    show (Stil.guessHead l).args.length ≤ 8
    have h1 := args_le 32 (l.drop 1); have h2 := args_le 58 (l.drop 1); have h3 := args_le 32 l
    unfold Stil.guessHead
    split
    · simp only; omega
    · split
      · simp only; omega
      · split <;> (simp only; omega)
  | m + 1, k => by
    unfold Stil.guessName
    split
    · have := args_le 44 (l.drop ((Stil.elemName k).length + 1)); simp only; omega
    · exact guessName_len l m (k + 1)
theorem scan_len (l : List UInt8) : ∀ m k, (Stil.scan l m k).args.length ≤ 8
  | 0, _ => guessName_len l _ _
  | m + 1, k => by
    unfold Stil.scan
    split
    · exact signFrom_len _ _ _ _ _
    · exact scan_len l m (k + 1)
theorem eguess_len (l : List UInt8) : (Stil.eguess l).args.length ≤ 8 := scan_len l _ _
theorem elem_chain {w w1 w2 : World} {o : Obj} (hb : Below (w.alloc (.cells #[.int .i64 0, .slice none 0 0] 31)).heap.size (w.alloc (.cells #[.int .i64 0, .slice none 0 0] 31)) w1) (hb2 : Below (w1.alloc o).heap.size (w1.alloc o) w2) :
    Below (w.heap.size + 1) (w.alloc (.cells #[.int .i64 0, .slice none 0 0] 31)) w2 := by
  have h1 := hb.size
  simp at h1
  exact (hb.mono (by simp)).trans ((below_two hb2).mono (by omega))
end Go.Proofs.YthhfnncehfkbfaaDoor
/- Contracts of the laws' helpers for operands and contacts. -/
namespace Go.Proofs.YthhfnncehfkbfaaDoor
open Go.RowKit Go.Sort Go.BigFrame
def szL (left : Int) (len : Nat) : Int := if left - len < 0 then -1 else left - len
set_option maxHeartbeats 400000 in
set_option maxRecDepth 100000 in
theorem l_szDevs (a : Option Addr) (len cap : Nat) (left : Int) (w : World) (h1 : 0 ≤ left) (h2 : left ≤ 1048576) (hl : len ≤ 9223372036854775807) :
    Calls Tryd.prog 27 #[.slice a len cap, .int .i64 left] w fun e w' => e = .returned (.int .i64 (szL left len)) ∧ w' = w := by
  unfold szL
  by_cases h : left - len < 0
  · rw [if_pos h]
    go_enter Tryd.func27, Tryd.ntmps27
    go_wp2
    go_ret
    exact ⟨rfl, rfl⟩
  · rw [if_neg h]
    go_enter Tryd.func27, Tryd.ntmps27
    go_wp2
    go_ret
    exact ⟨rfl, rfl⟩
set_option maxHeartbeats 400000 in
set_option maxRecDepth 100000 in
theorem l_szElem (op : Int) (a : Option Addr) (len cap : Nat) (left : Int) (w : World) (h1 : 0 ≤ left) (h2 : left ≤ 1048576) (hl : len ≤ 9223372036854775807) :
    Calls Tryd.prog 11 #[.agg #[.int .i64 op, .slice a len cap], .int .i64 left] w fun e w' => e = .returned (.int .i64 (szL left len)) ∧ Below w.heap.size w w' := by
  by_cases h : left - len < 0
  · have HQ : Hid (szL left len = -1) := by show _ = _; unfold szL; rw [if_pos h]
    clear h
    go_enter Tryd.func11, Tryd.ntmps11
    go_wp2_with (go_at_call 27; refine (l_szDevs _ _ _ _ _ h1 h2 hl).mono ?_; rw [HQ.out]; rintro e w1 ⟨rfl, rfl⟩)
    go_ret
    exact ⟨ret_int (by rw [HQ.out]), below_alloc _ _⟩
  · obtain ⟨q, hq⟩ : ∃ q, q = left - len := ⟨_, rfl⟩
    have hq0 : 0 ≤ q := by omega
    have HQ : Hid (szL left len = q) := by show _ = _; unfold szL; rw [if_neg h, hq]
    clear h hq
    go_enter Tryd.func11, Tryd.ntmps11
    go_wp2_with (go_at_call 27; refine (l_szDevs _ _ _ _ _ h1 h2 hl).mono ?_; rw [HQ.out]; rintro e w1 ⟨rfl, rfl⟩)
    go_ret
    exact ⟨ret_int (by rw [HQ.out]), below_alloc _ _⟩
set_option maxHeartbeats 400000 in
theorem l_toDev (k n p : Int) (w : World) :
    Calls Tryd.prog 45 #[.agg #[.int .i64 k, .int .i64 n, .int .i64 p]] w fun e w' => e = .returned (.agg #[.int .i64 k, .int .i64 n, .int .i64 p]) ∧ Below w.heap.size w w' := by
  go_enter Tryd.func45, Tryd.ntmps45
  go_wp2
  refine bodyPost_ret (v := .agg #[.int .i64 k, .int .i64 n, .int .i64 p]) (by simp [results, Tryd.results45, go_sem]) rfl ⟨rfl, ?_⟩
  (repeat (first | exact Below.refl _ _ | assumption | refine bl_alloc ?_ _ | refine bl_drewN ?_ _ | refine bl_drew ?_ | refine bl_grow ?_ _ _ | refine bl_set (Nat.le_refl _) ?_ _ | refine bl_call ?_ (by assumption)))
theorem dev_eta (d e : Stil.Dev) : (d = e) ↔ (d.kind = e.kind ∧ d.n = e.n ∧ d.p = e.p) := by
  cases d; cases e; simp
open Classical in
set_option maxHeartbeats 400000 in
theorem l_eqDev (d f : Stil.Dev) (w : World) :
    Calls Tryd.prog 54 #[.agg #[.int .i64 d.kind, .int .i64 d.n, .int .i64 d.p], .agg #[.int .i64 f.kind, .int .i64 f.n, .int .i64 f.p]] w fun e w' => e = .returned (.bool (decide (d = f))) ∧ Below w.heap.size w w' := by
  go_enter Tryd.func54, Tryd.ntmps54
  go_wp2
  all_goals go_ret
  all_goals (refine ⟨ret_bool ?_, by (repeat (first | exact Below.refl _ _ | assumption | refine bl_alloc ?_ _ | refine bl_drewN ?_ _ | refine bl_drew ?_ | refine bl_grow ?_ _ _ | refine bl_set (Nat.le_refl _) ?_ _ | refine bl_call ?_ (by assumption)))⟩)
  all_goals go_light
  all_goals simp only [bne_iff_ne, bne_eq_false_iff_eq] at *
  all_goals (rw [Bool.eq_iff_iff]; simp [dev_eta, *])
theorem take_set3 (xs : List Value) (k : Nat) (a b c : Value) (h : k * 3 + 3 ≤ xs.length) : (((xs.set (k * 3) a).set (k * 3 + 1) b).set (k * 3 + 2) c).take ((k + 1) * 3) = xs.take (k * 3) ++ [a, b, c] := by
  apply List.ext_getElem?
  intro i
  simp only [List.getElem?_take, List.getElem?_append, List.length_take, List.getElem?_set, List.length_set]
  have e0 : min (k * 3) xs.length = k * 3 := by omega
  rw [e0]
  by_cases h1 : i < k * 3
  · rw [if_pos (by omega), if_neg (by omega), if_neg (by omega), if_neg (by omega), if_pos h1, if_pos h1]
  · rw [if_neg h1]
    by_cases h2 : i = k * 3
    · subst h2; rw [if_pos (by omega), if_neg (by omega), if_neg (by omega), if_pos rfl, if_pos (by omega)]; simp
    · by_cases h3 : i = k * 3 + 1
      · subst h3; rw [if_pos (by omega), if_neg (by omega), if_pos rfl, if_pos (by omega)]; simp
      · by_cases h4 : i = k * 3 + 2
        · subst h4; rw [if_pos (by omega), if_pos rfl, if_pos (by omega)]; simp
        · rw [if_neg (by omega)]; simp; omega
theorem row3 {w : World} {base g cap n : Nat} {e : TypeId} {xs : List Value} (h : w.ownsRow base e 3 (.slice (some ⟨g, 0, none⟩) n cap) n xs) (k : Nat) (hk : k < n) :
    (∃ u, w.cell? ⟨g, k * 3, none⟩ = some u) ∧ (∃ u, w.cell? ⟨g, k * 3 + 1, none⟩ = some u) ∧ (∃ u, w.cell? ⟨g, k * 3 + 2, none⟩ = some u) := by
  have hl := h.1
  refine ⟨?_, ?_, ?_⟩
  · rw [h.cellAt (k * 3) (by omega), List.getElem?_eq_getElem (by omega)]; exact ⟨_, rfl⟩
  · rw [h.cellAt (k * 3 + 1) (by omega), List.getElem?_eq_getElem (by omega)]; exact ⟨_, rfl⟩
  · rw [h.cellAt (k * 3 + 2) (by omega), List.getElem?_eq_getElem (by omega)]; exact ⟨_, rfl⟩
theorem froz3 {w : World} {base g cap n : Nat} {e : TypeId} {xs : List Value} (h : w.ownsRow base e 3 (.slice (some ⟨g, 0, none⟩) n cap) n xs) (k : Nat) :
    w.frozen? ⟨g, k * 3, none⟩ = false ∧ w.frozen? ⟨g, k * 3 + 1, none⟩ = false ∧ w.frozen? ⟨g, k * 3 + 2, none⟩ = false := ⟨h.frozenAt _, h.frozenAt _, h.frozenAt _⟩
set_option maxHeartbeats 1000000 in
set_option maxRecDepth 100000 in
theorem l_toDevs (a : Option Addr) (cap : Nat) (ds : List Stil.Dev) (w : World) (hat : DevsAt w (.slice a ds.length cap) ds) (hl : ds.length ≤ 1048576) :
    Calls Tryd.prog 30 #[.slice a ds.length cap] w fun e w' => e = .returned (.slice (some ⟨w.heap.size, 0, none⟩) ds.length ds.length) ∧ w'.ownsRow w.heap.size 69 3 (.slice (some ⟨w.heap.size, 0, none⟩) ds.length ds.length) ds.length (devsCells ds) ∧ Below w.heap.size w w' := by
  obtain ⟨i0, hi, hz0, hz1, hz2⟩ := info_parts info_dev
  have HA : Hid (∀ i (h : i < ds.length), ∃ b o, a = some ⟨b, o, none⟩ ∧ b < w.heap.size ∧ DevAt w b (o + i * 3) ds[i]) := by
    obtain ⟨a', cap', hv, hc⟩ := hat
    simp only [Value.slice.injEq] at hv
    obtain ⟨rfl, _, _⟩ := hv
    exact hc
  clear hat
  go_enter Tryd.func30, Tryd.ntmps30
  go_wp2_with (at_make; refine wpList_make_full _ rfl _ _ 29 rfl w.heap.size 69 i0 (.agg #[.int .i64 0, .int .i64 0, .int .i64 0]) 3 Tryd.underlying29 hi hz0 hz1 _ _ _ _ ds.length rfl rfl rfl rfl ?c1 ?c2 (Nat.le_refl _) ?_)
  case c1 => rw [hz2]; omega
  case c2 => unfold maxLen; omega
  intro w1 hown1 hgr1
  have hb1 : Below w.heap.size w w1 := (Below.refl _ _).grown hgr1 (Nat.le_refl _) (fun _ h => by cases h)
  go_wp2
  go_loopw [4] (fun i wr => ∃ (k : Nat) (xs : List Value), k ≤ ds.length ∧ i = .int .i64 k ∧ wr.ownsRow w.heap.size 69 3 (.slice (some ⟨w.heap.size, 0, none⟩) ds.length ds.length) ds.length xs ∧ xs.take (k * 3) = devsCells (ds.take k) ∧ Below w.heap.size w wr) (fun i _ => ds.length - (intOf i).toNat)
  case atStart => exact ⟨0, _, by omega, rfl, hown1, by simp [devsCells], hb1⟩
  case round =>
    clear hown1 hgr1 hb1
    obtain ⟨k, xs, hk, rfl, hown, hxs, hb⟩ := hrel
    have HX : Hid (xs.take (k * 3) = devsCells (ds.take k)) := hxs
    clear hxs
    by_cases hlt : k < ds.length
    · obtain ⟨b, o, rfl, hbl, hd⟩ := HA.out k hlt
      obtain ⟨x0, x1, x2⟩ := hd.below hb hbl
      have HD : Hid (devsCells (ds.take (k + 1)) = devsCells (ds.take k) ++ devCells ds[k]) := by
        show _ = _
        rw [List.take_succ_eq_append_getElem hlt, devsCells_snoc]
      obtain ⟨x, hx⟩ : ∃ x, x = ds[k] := ⟨_, rfl⟩
      rw [← hx] at x0 x1 x2 HD
      clear hx hd
      go_wp2_with (go_at_call 45; refine (l_toDev _ _ _ _).mono ?_; rintro e w2 ⟨rfl, hb2⟩; have hown2 := ownsRow_below hown hb2; obtain ⟨⟨v0, q0⟩, ⟨v1, q1⟩, ⟨v2, q2⟩⟩ := row3 hown2 k hlt; obtain ⟨f0, f1, f2⟩ := froz3 hown2 k)
      have r1 := (hown2.stored (k * 3) (.int .i64 x.kind)).1
      have r2 := (r1.stored (k * 3 + 1) (.int .i64 x.n)).1
      have r3 := (r2.stored (k * 3 + 2) (.int .i64 x.p)).1
      have hlen := hown2.1
      refine ⟨⟨k + 1, _, by omega, by go_num, r3, ?_, bl_set (Nat.le_refl _) (bl_set (Nat.le_refl _) (bl_set (Nat.le_refl _) (bl_call hb hb2) _) _) _⟩, by simp [intOf]; omega⟩
      rw [take_set3 xs k _ _ _ (by omega), HX.out, HD.out]; rfl
    · go_wp2
      go_ret
      refine ⟨rfl, ?_, hb⟩
      have e : xs = devsCells ds := by
        have h1 := HX.out
        have h2 := hown.1
        rw [List.take_of_length_le (by omega), List.take_of_length_le (by omega)] at h1
        exact h1
      rw [← e]; exact hown
set_option maxHeartbeats 1000000 in
set_option maxRecDepth 100000 in
theorem l_toElem (op : Int) (v : Value) (ds : List Stil.Dev) (w : World) (hat : DevsAt w v ds) (hl : ds.length ≤ 1048576) :
    Calls Tryd.prog 16 #[.agg #[.int .i64 op, v]] w fun e w' => ∃ u, e = .returned (.agg #[.int .i64 op, u]) ∧ w'.ownsRow w.heap.size 69 3 u ds.length (devsCells ds) ∧ Below w.heap.size w w' := by
  have HA : Hid (∀ W, Below w.heap.size w W → DevsAt W v ds) := fun W hW => hat.below hW
  obtain ⟨a, cap, rfl, _⟩ := hat
  go_enter Tryd.func16, Tryd.ntmps16
  go_wp2_with (go_at_call 30; refine (l_toDevs a cap ds _ (HA.out _ (by (repeat (first | exact Below.refl _ _ | assumption | refine bl_alloc ?_ _ | refine bl_drewN ?_ _ | refine bl_drew ?_ | refine bl_grow ?_ _ _ | refine bl_set (Nat.le_refl _) ?_ _ | refine bl_call ?_ (by assumption))))) hl).mono ?_; rintro e w1 ⟨rfl, hown, hb⟩; obtain ⟨hc, hf⟩ := bcell hb)
  have b0 : w1.cell? ⟨w.heap.size + 1, 0, none⟩ = some (.int .i64 0) := by rw [hc _ _ (by simp)]; simp [go_sem]
  have b1 : w1.cell? ⟨w.heap.size + 1, 1, none⟩ = some (.slice none 0 0) := by rw [hc _ _ (by simp)]; simp [go_sem]
  refine bodyPost_ret (v := .agg #[.int .i64 op, .slice (some ⟨w.heap.size + 1 + 1 + 1, 0, none⟩) ds.length ds.length]) (by simp [results, Tryd.results16, go_sem, b0, b1]) rfl ⟨_, rfl, ?_, ?_⟩
  · simp only [World.alloc, Array.size_push] at hown
    exact Joins.ownsRow_le (ownsRow_setCell_below (ownsRow_setCell_below (ownsRow_setCell_below hown (by simp) _) (by simp) _) (by simp) _) (by omega)
  · have hbw : Below w.heap.size w w1 := by (repeat (first | exact Below.refl _ _ | assumption | refine bl_alloc ?_ _ | refine bl_drewN ?_ _ | refine bl_drew ?_ | refine bl_grow ?_ _ _ | refine bl_set (Nat.le_refl _) ?_ _ | refine bl_call ?_ (by assumption)))
    exact ((hbw.setCell (by simp; omega) _).setCell (by simp) _).setCell (by simp) _
open Classical in
set_option maxHeartbeats 1000000 in
set_option maxRecDepth 100000 in
theorem l_eqDevs (v u : Value) (ds fs : List Stil.Dev) (w : World) (hat : DevsAt w v ds) (hau : DevsAt w u fs) (hl : ds.length ≤ 1048576) (hk : fs.length ≤ 1048576) :
    Calls Tryd.prog 37 #[v, u] w fun e w' => e = .returned (.bool (decide (ds = fs))) ∧ Below w.heap.size w w' := by
  obtain ⟨a, cap, rfl, hc1⟩ := hat
  obtain ⟨b, cap2, rfl, hc2⟩ := hau
  by_cases hlen : ds.length = fs.length
  · have HA : Hid (∀ i (h : i < ds.length), ∃ b o, a = some ⟨b, o, none⟩ ∧ b < w.heap.size ∧ DevAt w b (o + i * 3) ds[i]) := hc1
    have HB : Hid (∀ i (h : i < fs.length), ∃ b' o, b = some ⟨b', o, none⟩ ∧ b' < w.heap.size ∧ DevAt w b' (o + i * 3) fs[i]) := hc2
    clear hc1 hc2
    have hlb : ((ds.length : Int) != (fs.length : Int)) = false := by rw [bne_eq_false_iff_eq]; omega
    have HL : Hid (ds.length = fs.length) := hlen
    have hl1 : ds.length ≤ fs.length := by omega
    have hl2 : fs.length ≤ ds.length := by omega
    clear hlen
    go_enter Tryd.func37, Tryd.ntmps37
    go_wp2
    go_loopw [5] (fun i wr => ∃ k : Nat, k ≤ ds.length ∧ i = .int .i64 k ∧ ds.take k = fs.take k ∧ Below w.heap.size w wr) (fun i _ => ds.length - (intOf i).toNat)
    case atStart => exact ⟨0, by omega, rfl, by simp, Below.refl _ _⟩
    case round =>
      obtain ⟨k, hk, rfl, heq, hb⟩ := hrel
      have HE : Hid (ds.take k = fs.take k) := heq
      clear heq
      by_cases hlt : k < ds.length
      · have hlt2 : k < fs.length := by omega
        obtain ⟨b1, o1, rfl, hbl1, hd1⟩ := HA.out k hlt
        obtain ⟨b2, o2, rfl, hbl2, hd2⟩ := HB.out k hlt2
        obtain ⟨x0, x1, x2⟩ := hd1.below hb hbl1
        obtain ⟨y0, y1, y2⟩ := hd2.below hb hbl2
        by_cases hxy : ds[k] = fs[k]
        · have HXY : Hid (ds.take (k + 1) = fs.take (k + 1)) := by
            show _ = _
            rw [List.take_succ_eq_append_getElem hlt, List.take_succ_eq_append_getElem hlt2, HE.out, hxy]
          have hdec : decide (ds[k] = fs[k]) = true := by simpa using hxy
          obtain ⟨x, hx⟩ : ∃ x, x = ds[k] := ⟨_, rfl⟩
          obtain ⟨y, hy⟩ : ∃ y, y = fs[k] := ⟨_, rfl⟩
          rw [← hx] at x0 x1 x2
          rw [← hy] at y0 y1 y2
          rw [← hx, ← hy] at hdec
          clear hx hy hxy hd1 hd2
          have r0 := cell_regrown x0
          have r1 := cell_regrown x1
          have r2 := cell_regrown x2
          have r3 := cell_regrown y0
          have r4 := cell_regrown y1
          have r5 := cell_regrown y2
          go_wp2
          refine wp_region_quiet_below (by kernel_rfl) (by kernel_rfl) ?_
          repeat (go_big_quiet_step ((exact Calls.regrown_of (l_eqDev x y _))))
          refine wpQuiet_nil ?_
          intro _ hw'
          obtain ⟨⟨dq, osq⟩, hw''⟩ := hw'
          subst hw''
          go_wp2
          exact ⟨⟨k + 1, by omega, by go_num, HXY.out, bl_grow hb _ _⟩, by simp [intOf]; omega⟩
        · have HXY : Hid (¬ ds = fs) := by
            show ¬ _
            intro h; subst h; exact hxy rfl
          have hdec : decide (ds[k] = fs[k]) = false := by simpa using hxy
          obtain ⟨x, hx⟩ : ∃ x, x = ds[k] := ⟨_, rfl⟩
          obtain ⟨y, hy⟩ : ∃ y, y = fs[k] := ⟨_, rfl⟩
          rw [← hx] at x0 x1 x2
          rw [← hy] at y0 y1 y2
          rw [← hx, ← hy] at hdec
          clear hx hy hxy hd1 hd2
          have r0 := cell_regrown x0
          have r1 := cell_regrown x1
          have r2 := cell_regrown x2
          have r3 := cell_regrown y0
          have r4 := cell_regrown y1
          have r5 := cell_regrown y2
          go_wp2
          refine wp_region_quiet_below (by kernel_rfl) (by kernel_rfl) ?_
          repeat (go_big_quiet_step ((exact Calls.regrown_of (l_eqDev x y _))))
          refine wpQuiet_nil ?_
          intro _ hw'
          obtain ⟨⟨dq, osq⟩, hw''⟩ := hw'
          subst hw''
          go_wp2
          go_ret
          exact ⟨ret_bool (by rw [decide_eq_false HXY.out]), bl_grow hb _ _⟩
      · go_wp2
        go_ret
        have e : ds = fs := by
          have := HE.out
          rwa [List.take_of_length_le (by omega), List.take_of_length_le (by omega)] at this
        exact ⟨ret_bool (by rw [decide_eq_true e]), hb⟩
  · have hlb : ((ds.length : Int) != (fs.length : Int)) = true := by rw [bne_iff_ne]; omega
    have HN : Hid (¬ ds = fs) := by show ¬ _; intro h; exact hlen (by rw [h])
    clear hlen hc1 hc2
    go_enter Tryd.func37, Tryd.ntmps37
    go_wp2
    go_ret
    exact ⟨ret_bool (by rw [decide_eq_false HN.out]), Below.refl _ _⟩
open Classical in
set_option maxHeartbeats 1000000 in
set_option maxRecDepth 100000 in
theorem l_eqElem (op oq : Int) (v u : Value) (ds fs : List Stil.Dev) (w : World) (hat : DevsAt w v ds) (hau : DevsAt w u fs) (hl : ds.length ≤ 1048576) (hk : fs.length ≤ 1048576) :
    Calls Tryd.prog 21 #[.agg #[.int .i64 op, v], .agg #[.int .i64 oq, u]] w fun e w' => e = .returned (.bool (decide (op = oq ∧ ds = fs))) ∧ Below w.heap.size w w' := by
  have heqs : ∀ W, Below w.heap.size w W → Calls Tryd.prog 37 #[v, u] W fun e w' => e = .returned (.bool (decide (ds = fs))) ∧ Below W.heap.size W w' := fun W hW => l_eqDevs v u ds fs W (hat.below hW) (hau.below hW) hl hk
  obtain ⟨a, cap, rfl, _⟩ := hat
  obtain ⟨b, cap2, rfl, _⟩ := hau
  have HQ : Hid (∀ W, Below w.heap.size w W → Calls Tryd.prog 37 #[.slice a ds.length cap, .slice b fs.length cap2] W fun e w' => e = .returned (.bool (decide (ds = fs))) ∧ Below W.heap.size W w') := heqs
  clear heqs
  by_cases ho : op = oq
  · have hob : (op != oq) = false := by rw [bne_eq_false_iff_eq]; exact ho
    have HO : Hid (op = oq) := ho
    clear ho
    cases hd : decide (ds = fs)
    · have HD : Hid (¬ (op = oq ∧ ds = fs)) := by show ¬ _; simp at hd; exact fun h => hd h.2
      go_enter Tryd.func21, Tryd.ntmps21
      go_wp2_with (go_at_call 37; refine (HQ.out _ (by (repeat (first | exact Below.refl _ _ | assumption | refine bl_alloc ?_ _ | refine bl_drewN ?_ _ | refine bl_drew ?_ | refine bl_grow ?_ _ _ | refine bl_set (Nat.le_refl _) ?_ _ | refine bl_call ?_ (by assumption))))).mono ?_; rw [hd]; rintro e w1 ⟨rfl, hb⟩)
      go_ret
      exact ⟨ret_bool (by rw [decide_eq_false HD.out]), by (repeat (first | exact Below.refl _ _ | assumption | refine bl_alloc ?_ _ | refine bl_drewN ?_ _ | refine bl_drew ?_ | refine bl_grow ?_ _ _ | refine bl_set (Nat.le_refl _) ?_ _ | refine bl_call ?_ (by assumption)))⟩
    · have HD : Hid (op = oq ∧ ds = fs) := by show _ ∧ _; simp at hd; exact ⟨HO.out, hd⟩
      go_enter Tryd.func21, Tryd.ntmps21
      go_wp2_with (go_at_call 37; refine (HQ.out _ (by (repeat (first | exact Below.refl _ _ | assumption | refine bl_alloc ?_ _ | refine bl_drewN ?_ _ | refine bl_drew ?_ | refine bl_grow ?_ _ _ | refine bl_set (Nat.le_refl _) ?_ _ | refine bl_call ?_ (by assumption))))).mono ?_; rw [hd]; rintro e w1 ⟨rfl, hb⟩)
      go_ret
      exact ⟨ret_bool (by rw [decide_eq_true HD.out]), by (repeat (first | exact Below.refl _ _ | assumption | refine bl_alloc ?_ _ | refine bl_drewN ?_ _ | refine bl_drew ?_ | refine bl_grow ?_ _ _ | refine bl_set (Nat.le_refl _) ?_ _ | refine bl_call ?_ (by assumption)))⟩
  · have hob : (op != oq) = true := by rw [bne_iff_ne]; exact ho
    have HD : Hid (¬ (op = oq ∧ ds = fs)) := by show ¬ _; exact fun h => ho h.1
    clear ho
    go_enter Tryd.func21, Tryd.ntmps21
    go_wp2
    go_ret
    exact ⟨ret_bool (by rw [decide_eq_false HD.out]), by (repeat (first | exact Below.refl _ _ | assumption | refine bl_alloc ?_ _ | refine bl_drewN ?_ _ | refine bl_drew ?_ | refine bl_grow ?_ _ _ | refine bl_set (Nat.le_refl _) ?_ _ | refine bl_call ?_ (by assumption)))⟩
end Go.Proofs.YthhfnncehfkbfaaDoor
