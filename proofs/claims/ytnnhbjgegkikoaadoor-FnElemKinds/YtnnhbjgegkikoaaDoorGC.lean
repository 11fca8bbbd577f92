/- S2g, S2h, S2i, S2j, S2k, S2l, L1: texts put together. -/
import Derived.Test.YtnnhbjgegkikoaaDoorGB
import Derived.Test.YtnnhbjgegkikoaaDoorGM
import Derived.Lib.SmallJoins
import Derived.Deep.RegionLaw
import Derived.Deep.DeepCutAuto
/- Contracts of the specification's chapter 2, seventh part: ElemText. -/
namespace Go.Proofs.YtnnhbjgegkikoaaDoor
open Go.RowKit Go.Sort Go.BigFrame
theorem argsText_snoc : ∀ (l : List Stil.Dev) (x : Stil.Dev), Stil.argsText (l ++ [x]) = Stil.argsText l ++ 44 :: x.text
  | [], x => by simp [Stil.argsText]
  | y :: r, x => by simp [Stil.argsText, argsText_snoc r x]
theorem devText_len (k n p : Int) (h1 : -9223372036854775808 ≤ n) (h2 : n ≤ 9223372036854775807) : (Stil.devText k n p).length ≤ 60 := by
  unfold Stil.devText
  split
  · have hi : (Lib.itoa n).length ≤ 20 ∨ n = -9223372036854775808 := by
      by_cases hm : n = -9223372036854775808
      · exact Or.inr hm
      · left
        unfold Lib.itoa
        split
        · have := decDigits_le (n := n.natAbs) (by omega); simp; omega
        · have := decDigits_le (n := n.toNat) (by omega); omega
    rename_i hok
    split
    · rename_i h; subst h; simp [Stil.devOkB] at hok; omega
    · split
      · rename_i h; subst h
        have := devOk_dec hok
        unfold Stil.decText
        have a1 := decNat_le n.natAbs p.toNat (by omega)
        have a2 := decNat_le n.toNat p.toNat (by omega)
        split
        · simp; omega
        · omega
      · split
        · rename_i h; subst h
          have := devOk_word hok
          have hn : n = 0 ∨ n = 1 ∨ n = 2 ∨ n = 3 := by omega
          rcases hn with rfl | rfl | rfl | rfl <;> simp [Stil.words]
        · have := devOk_dev hok ‹_› ‹_› ‹_›
          simp; omega
  · simp
end Go.Proofs.YtnnhbjgegkikoaaDoor
/- Contracts of the specification's chapter 2, eighth part: ElemText of contacts, and whole. -/
namespace Go.Proofs.YtnnhbjgegkikoaaDoor
open Go.RowKit Go.Sort Go.BigFrame
end Go.Proofs.YtnnhbjgegkikoaaDoor
/- Contracts of the specification's chapter 2, ninth part: l9Cut. -/
namespace Go.Proofs.YtnnhbjgegkikoaaDoor
open Go.RowKit Go.Sort Go.BigFrame
theorem info_string : (Tryd.prog.info? 9).map (fun i => (i.zero, i.size, i.bytes)) = some (some (.string ⟨#[]⟩), 1, 16) := by kernel_rfl
theorem info_dev : (Tryd.prog.info? 31).map (fun i => (i.zero, i.size, i.bytes)) = some (some (.agg #[.int .i64 0, .int .i64 0, .int .i64 0]), 3, 24) := by kernel_rfl
def strV (l : List UInt8) : Value := .string ⟨l.toArray⟩
theorem slice_mid (l : List UInt8) (a b : Nat) : (⟨l.toArray⟩ : ByteArray).extract a b = ⟨((l.take b).drop a).toArray⟩ := ba_ext l a b
theorem piece_end {c : UInt8} {l : List UInt8} {f : Nat} (h : ∀ j (hj : j < l.length), f ≤ j → l[j] ≠ c) : Stil.cut c (l.drop f) = [l.drop f] := by
  refine Stil.cut_none c _ fun x hx => ?_
  obtain ⟨i, hi, rfl⟩ := List.getElem_of_mem hx
  rw [List.getElem_drop]
  exact h (f + i) (by simp at hi; omega) (by omega)
theorem piece_at {c : UInt8} {l : List UInt8} {f k : Nat} (hf : f ≤ k) (hk : k < l.length) (h : ∀ j (hj : j < k), f ≤ j → l[j] ≠ c) (hc : l[k] = c) : Stil.cut c (l.drop f) = (l.take k).drop f :: Stil.cut c (l.drop (k + 1)) := by
  have e : l.drop f = (l.take k).drop f ++ c :: l.drop (k + 1) := by
    have h1 : l = l.take k ++ l[k] :: l.drop (k + 1) := by rw [← List.drop_eq_getElem_cons hk, List.take_append_drop]
    have h2 : l.drop f = (l.take k ++ l[k] :: l.drop (k + 1)).drop f := by rw [← h1]
    rw [h2, List.drop_append_of_le_length (by simp; omega), hc]
  rw [e]
  refine Stil.cut_at c _ _ fun x hx => ?_
  obtain ⟨i, hi, rfl⟩ := List.getElem_of_mem hx
  simp only [List.getElem_drop, List.getElem_take]
  simp at hi
  exact h (f + i) (by omega) (by omega)
end Go.Proofs.YtnnhbjgegkikoaaDoor
/- Contracts of the specification's chapter 2, tenth part: l2Args. -/
namespace Go.Proofs.YtnnhbjgegkikoaaDoor
open Go.RowKit Go.Sort Go.BigFrame
def devCells (d : Stil.Dev) : List Value := [.int .i64 d.kind, .int .i64 d.n, .int .i64 d.p]
def devsCells (ds : List Stil.Dev) : List Value := ds.flatMap devCells
theorem devsCells_length (ds : List Stil.Dev) : (devsCells ds).length = ds.length * 3 := by
  induction ds with
  | nil => rfl
  | cons d r ih => simp [devsCells, devCells] at ih ⊢; omega
theorem devsCells_snoc (ds : List Stil.Dev) (d : Stil.Dev) : devsCells (ds ++ [d]) = devsCells ds ++ devCells d := by simp [devsCells]
theorem devsCells_get (ds : List Stil.Dev) : ∀ (i : Nat) (h : i < ds.length), (devsCells ds)[i * 3]? = some (.int .i64 ds[i].kind) ∧ (devsCells ds)[i * 3 + 1]? = some (.int .i64 ds[i].n) ∧ (devsCells ds)[i * 3 + 2]? = some (.int .i64 ds[i].p) := by
  induction ds with
  | nil => intro i h; simp at h
  | cons d r ih =>
    intro i h
    have e : devsCells (d :: r) = .int .i64 d.kind :: .int .i64 d.n :: .int .i64 d.p :: devsCells r := rfl
    cases i with
    | zero => rw [e]; simp
    | succ i =>
      have h' : i < r.length := by simpa using h
      rw [e]
      have := ih i h'
      have e0 : (i + 1) * 3 = i * 3 + 3 := by omega
      rw [e0]
      simpa using this
theorem add_plain (g j : Nat) : (⟨g, 0, none⟩ : Addr).add j = ⟨g, j, none⟩ := by unfold Addr.add; split <;> simp_all
theorem ownsRow_cells {w : World} {base : Nat} {e : TypeId} {size : Nat} {v : Value} {n : Nat} {xs : List Value} (h : w.ownsRow base e size v n xs) (hn : 0 < n) : ∃ g cap, v = .slice (some ⟨g, 0, none⟩) n cap ∧ base ≤ g ∧ g < w.heap.size ∧ n ≤ cap ∧ ∀ j u, xs[j]? = some u → w.cell? ⟨g, j, none⟩ = some u := by
  have h2 := h.2
  rcases h2 with ⟨_, h0⟩ | ⟨g, cap, cur, hv, hg, _, hc, _⟩
  · omega
  · refine ⟨g, cap, hv, hg, (h.lt g (by rw [hv]; rfl)).2, hc, fun j u hu => ?_⟩
    have := h.cells (g := g) (by rw [hv]; rfl) j u hu
    rwa [add_plain] at this
theorem DevsAt.of_owns {w : World} {base : Nat} {v : Value} {ds : List Stil.Dev} (h : w.ownsRow base 31 3 v ds.length (devsCells ds)) : DevsAt w v ds := by
  by_cases hd : ds.length = 0
  · have hn : ds = [] := List.length_eq_zero_iff.1 hd
    subst hn
    rcases h.2 with ⟨h0, _⟩ | ⟨g, cap, cur, hv, _⟩
    · exact ⟨none, 0, h0, fun i hi => by simp at hi⟩
    · exact ⟨_, cap, hv, fun i hi => by simp at hi⟩
  · obtain ⟨g, cap, hv, _, hlt, _, hc⟩ := ownsRow_cells h (by omega)
    refine ⟨_, cap, hv, fun i hi => ⟨g, 0, rfl, hlt, ?_⟩⟩
    obtain ⟨a1, a2, a3⟩ := devsCells_get ds i hi
    unfold DevAt
    rw [Nat.zero_add]
    exact ⟨hc _ _ a1, hc _ _ a2, hc _ _ a3⟩
theorem ownsRow_below {w w' : World} {base : Nat} {e : TypeId} {size : Nat} {v : Value} {n : Nat} {xs : List Value} (h : w.ownsRow base e size v n xs) (hb : Below w.heap.size w w') : w'.ownsRow base e size v n xs := by
  refine ⟨h.1, ?_⟩
  rcases h.2 with h0 | ⟨g, cap, cur, hv, hg, hh, hr⟩
  · exact Or.inl h0
  · have := (h.lt g (by rw [hv]; rfl)).2
    exact Or.inr ⟨g, cap, cur, hv, hg, by rw [hb.block g this]; exact hh, hr⟩
theorem cells_new (W : World) (cs : List Value) (t : TypeId) (b : Nat) (hb : b = W.heap.size) : ∀ j u, cs[j]? = some u → (W.alloc (.cells cs.toArray t)).cell? ((⟨b, 0, none⟩ : Addr).add j) = some u := by
  subst hb
  intro j u hj
  rw [add_plain, World.cell?_alloc_at _ _ _ _ rfl]
  simpa using hj
theorem cut_ne (c : UInt8) (l : List UInt8) : 0 < (Stil.cut c l).length := by
  cases l with
  | nil => simp [Stil.cut]
  | cons x r =>
    unfold Stil.cut
    split
    · simp
    · cases Stil.cut c r <;> simp [Stil.consHead]
theorem cut_len (c : UInt8) : ∀ (l : List UInt8), ∀ p ∈ Stil.cut c l, p.length ≤ l.length
  | [], p, h => by simp [Stil.cut] at h; subst h; simp
  | x :: r, p, h => by
    unfold Stil.cut at h
    split at h
    · rcases List.mem_cons.1 h with rfl | h
      · simp
      · have := cut_len c r p h; simp; omega
    · have ih := cut_len c r
      cases hc : Stil.cut c r with
      | nil => rw [hc] at h; simp [Stil.consHead] at h; subst h; simp
      | cons a t =>
        rw [hc] at h ih
        simp only [Stil.consHead] at h
        rcases List.mem_cons.1 h with rfl | h
        · have := ih a (by simp); simp; omega
        · have := ih p (by simp [h]); simp; omega
end Go.Proofs.YtnnhbjgegkikoaaDoor
/- Contracts of the specification's chapter 2, eleventh part: l2Guess. -/
namespace Go.Proofs.YtnnhbjgegkikoaaDoor
open Go.RowKit Go.Sort Go.BigFrame
theorem step_append_own {P : Program} {ops : Array Oper} {o : Oper} {a : Act} {w : World} {K : Act → World → Prop} {Q : Exit → Act → World → Prop} {E : Prop}
    (hg : o.guard = none) (s x : Operand) (t : TypeId) (hop : o.op = .call { callee := .builtin .append, args := #[s, x], argTypes := #[t, t] })
    (base : Nat) (e : TypeId) (i : TypeInfo) (z : Value) (size bytes : Nat) (ht : P.underlying t = some (.slice e)) (hi : P.info? e = some i) (hz : i.zero = some z)
    (hsize : i.size = size) (hby : i.bytes = bytes) (hzs : z.cells.size = size) (hsz : 0 < size)
    (v : Value) (n : Nat) (xs : List Value) (hs : a.eval s = v) (hown : w.ownsRow base e size v n xs)
    (ad : Addr) (m c : Nat) (news : List Value) (hx : a.eval x = .slice (some ad) m c) (hl : news.length = m * size) (hnews : ∀ j u, news[j]? = some u → w.cell? (ad.add j) = some u) (h1 : ∀ u ∈ news, u.oneCell' = true)
    (h63 : n + m ≤ maxLen) (hbytes : (n + m) * bytes ≤ 140737488355328) (hbase : base ≤ w.heap.size)
    (hK : ∀ v' w', w'.ownsRow base e size v' (n + m) (xs ++ news) → w.grownBy w' v.ownBlock → K (a.put o.dst v') w') :
    if Region.wanted o (yielded ops a.tmps) = true then Oper.wp P o a w K Q else E := by
  have hw : Region.wanted o (yielded ops a.tmps) = true := by simp [Region.wanted, hg]
  rw [if_pos hw]
  exact wp_append_own w s x t hop base e i z size bytes ht hi hz hsize hby hzs hsz v n xs hs hown ad m c news hx hl hnews h1 h63 hbytes hbase fun v' w' h2 h3 _ => hK v' w' h2 h3
theorem args_le (c : UInt8) (l : List UInt8) : (Stil.args c l).length ≤ 4 := by simp [Stil.args]; omega
theorem args_pos (c : UInt8) (l : List UInt8) : 0 < (Stil.args c l).length := by have := cut_ne c l; simp [Stil.args]; omega
theorem devsCells_append (a b : List Stil.Dev) : devsCells (a ++ b) = devsCells a ++ devsCells b := by simp [devsCells]
theorem devsCells_one (ds : List Stil.Dev) : ∀ u ∈ devsCells ds, u.oneCell' = true := by
  intro u hu
  simp only [devsCells, List.mem_flatMap, devCells] at hu
  obtain ⟨d, _, hd⟩ := hu
  simp at hd
  rcases hd with rfl | rfl | rfl <;> rfl
theorem ba_take (l : List UInt8) (k : Nat) : (⟨l.toArray⟩ : ByteArray).extract 0 k = ⟨(l.take k).toArray⟩ := by rw [ba_ext]; simp
/-- The result of two lists of operands, one behind the other, in memory of the call's own. -/
theorem app_done {w w2 w3 w4 w5 : World} {g cap : Nat} {a b : List Stil.Dev} {v' : Value}
    (hB : Below (w.heap.size + 1) (w.alloc (.cells #[.int .i64 0, .slice none 0 0] 25)) w2) (hb3 : Below w2.heap.size w2 w3) (hb4 : Below w3.heap.size w3 w4)
    (ho3 : w3.ownsRow w2.heap.size 31 3 (.slice (some ⟨g, 0, none⟩) a.length cap) a.length (devsCells a))
    (ho5 : w5.ownsRow w2.heap.size 31 3 v' (a.length + b.length) (devsCells a ++ devsCells b)) (hgr : w4.grownBy w5 (Value.ownBlock (.slice (some ⟨g, 0, none⟩) a.length cap))) (hp : 0 < a.length) :
    (∃ g' cap', v' = .slice (some ⟨g', 0, none⟩) (a.length + b.length) cap') ∧ Below (w.heap.size + 1) (w.alloc (.cells #[.int .i64 0, .slice none 0 0] 25)) w5 ∧ w5.ownsRow (w.heap.size + 1) 31 3 v' (a ++ b).length (devsCells (a ++ b)) := by
  obtain ⟨g', cap', hv, _⟩ := ownsRow_cells ho5 (by omega)
  have hz : w.heap.size + 1 ≤ w2.heap.size := by have := hB.size; simpa using this
  refine ⟨⟨g', cap', hv⟩, ?_, ?_⟩
  · have h1 := hB.trans ((hb3.trans (hb4.mono hb3.size)).mono hz)
    refine h1.grown hgr (by have := hb3.size; have := hb4.size; omega) (fun k hk => ?_)
    have := (ho3.lt k hk).1
    omega
  · rw [devsCells_append, List.length_append]
    exact Joins.ownsRow_le ho5 (by omega)
theorem res2 {w w5 : World} (hB : Below (w.heap.size + 1) (w.alloc (.cells #[.int .i64 0, .slice none 0 0] 25)) w5) :
    w5.cell? ⟨w.heap.size, 0, none⟩ = some (.int .i64 0) ∧ w5.frozen? ⟨w.heap.size, 0, none⟩ = false ∧ w5.cell? ⟨w.heap.size, 1, none⟩ = some (.slice none 0 0) ∧ w5.frozen? ⟨w.heap.size, 1, none⟩ = false ∧ w.heap.size < w5.heap.size := by
  have hz : w.heap.size < w5.heap.size := by have := hB.size; simp at this; omega
  have c0 : w5.cell? ⟨w.heap.size, 0, none⟩ = some (.int .i64 0) := by rw [hB.cell (p := ⟨w.heap.size, 0, none⟩) (by simp)]; simp [go_sem]
  have f0 : w5.frozen? ⟨w.heap.size, 0, none⟩ = false := by rw [hB.frozen (p := ⟨w.heap.size, 0, none⟩) (by simp)]; simp [go_sem]
  have c1 : w5.cell? ⟨w.heap.size, 1, none⟩ = some (.slice none 0 0) := by rw [hB.cell (p := ⟨w.heap.size, 1, none⟩) (by simp)]; simp [go_sem]
  have f1 : w5.frozen? ⟨w.heap.size, 1, none⟩ = false := by rw [hB.frozen (p := ⟨w.heap.size, 1, none⟩) (by simp)]; simp [go_sem]
  exact ⟨c0, f0, c1, f1, hz⟩
theorem owns_res {w w5 : World} {v : Value} {n : Nat} {xs : List Value} (h : w5.ownsRow (w.heap.size + 1) 31 3 v n xs) (a b : Value) :
    ((w5.setCell ⟨w.heap.size, 0, none⟩ a).setCell ⟨w.heap.size, 1, none⟩ b).ownsRow w.heap.size 31 3 v n xs :=
  Joins.ownsRow_le (ownsRow_setCell_below (ownsRow_setCell_below h (Nat.lt_succ_self _) a) (Nat.lt_succ_self _) b) (Nat.le_succ _)
theorem u8_beq (y c : UInt8) (n : Int) (h : (c.toNat : Int) = n) : (y == c) = ((y.toNat : Int) == n) := by
  rw [Bool.eq_iff_iff]; simp only [beq_iff_eq]
  constructor
  · intro e; subst e; exact h
  · intro e; exact UInt8.toNat_inj.1 (by omega)
end Go.Proofs.YtnnhbjgegkikoaaDoor
/- Contracts of the specification's chapter 2, twelfth part: ElemRead. -/
namespace Go.Proofs.YtnnhbjgegkikoaaDoor
open Go.RowKit Go.Sort Go.BigFrame
theorem devOk_fits (d : Stil.Dev) (h : Stil.devOkB d.kind d.n d.p = true) : d.fits := by
  unfold Stil.Dev.fits
  by_cases h1 : d.kind = 11
  · rw [h1] at h; simp [Stil.devOkB] at h; omega
  · by_cases h2 : d.kind = 12
    · rw [h2] at h; have := devOk_dec h; omega
    · by_cases h3 : d.kind = 13
      · rw [h3] at h; simp [Stil.devOkB] at h; omega
      · have := devOk_dev h h1 h2 h3; omega
theorem devRead_fits (l : List UInt8) : (Stil.devRead l).fits := by
  unfold Stil.devRead
  split
  · rename_i h
    apply devOk_fits
    cases hok : Stil.devOkB (Stil.guess l).kind (Stil.guess l).n (Stil.guess l).p
    · exfalso
      have ht : (Stil.guess l).text = [] := by unfold Stil.Dev.text Stil.devText; rw [hok]; rfl
      unfold Stil.devReadB at h
      rw [ht] at h
      cases l <;> simp at h
    · rfl
  · unfold Stil.Dev.fits; simp
theorem args_fits (c : UInt8) (l : List UInt8) : ∀ d ∈ Stil.args c l, d.fits := by
  intro d hd
  obtain ⟨p, _, rfl⟩ := List.mem_map.1 (List.mem_of_mem_take hd)
  exact devRead_fits p
theorem signFrom_fits (l : List UInt8) (i n : Nat) : ∀ m k, ∀ d ∈ (Stil.signFrom l i n m k).args, d.fits
  | 0, k, d, hd => by simp [Stil.signFrom] at hd
  | m + 1, k, d, hd => by
    unfold Stil.signFrom at hd
    split at hd
    · rcases List.mem_append.1 hd with h | h <;> exact args_fits _ _ d h
    · exact signFrom_fits l i n m (k + 1) d hd
theorem guessHead_fits (l : List UInt8) : ∀ d ∈ (Stil.guessHead l).args, d.fits := by
  intro d hd
  unfold Stil.guessHead at hd
  split at hd
  · exact args_fits _ _ d hd
  · split at hd
    · exact args_fits _ _ d hd
    · split at hd <;> exact args_fits _ _ d hd
theorem guessName_fits (l : List UInt8) : ∀ m k, ∀ d ∈ (Stil.guessName l m k).args, d.fits
  | 0, _, d, hd => guessHead_fits l d hd
  | m + 1, k, d, hd => by
    unfold Stil.guessName at hd
    split at hd
    · exact args_fits _ _ d hd
    · exact guessName_fits l m (k + 1) d hd
theorem scan_fits (l : List UInt8) : ∀ m k, ∀ d ∈ (Stil.scan l m k).args, d.fits
  | 0, _, d, hd => guessName_fits l _ _ d hd
  | m + 1, k, d, hd => by
    unfold Stil.scan at hd
    split at hd
    · exact signFrom_fits _ _ _ _ _ d hd
    · exact scan_fits l m (k + 1) d hd
theorem eguess_fits (l : List UInt8) : ∀ d ∈ (Stil.eguess l).args, d.fits := scan_fits l _ _
theorem args8 (c : UInt8) (a b : List UInt8) : (Stil.args c a ++ Stil.args c b).length ≤ 8 := by
  have := args_le c a; have := args_le c b; simp; omega
theorem signFrom_len (l : List UInt8) (i n : Nat) : ∀ m k, (Stil.signFrom l i n m k).args.length ≤ 8
  | 0, k => by simp [Stil.signFrom]
  | m + 1, k => by
    unfold Stil.signFrom
    split
    · exact args8 _ _ _
    · exact signFrom_len l i n m (k + 1)
theorem guessName_len (l : List UInt8) : ∀ m k, (Stil.guessName l m k).args.length ≤ 8
  | 0, _ => by
    show (Stil.guessHead l).args.length ≤ 8
    have h1 := args_le 32 (l.drop 1); have h2 := args_le 58 (l.drop 1); have h3 := args_le 32 l
    unfold Stil.guessHead
    split
    · simp only; omega
    · split
      · simp only; omega
      · split <;> (simp only; omega)
  | m + 1, k => by
    unfold Stil.guessName
    split
    · have := args_le 44 (l.drop ((Stil.elemName k).length + 1)); simp only; omega
    · exact guessName_len l m (k + 1)
theorem scan_len (l : List UInt8) : ∀ m k, (Stil.scan l m k).args.length ≤ 8
  | 0, _ => guessName_len l _ _
  | m + 1, k => by
    unfold Stil.scan
    split
    · exact signFrom_len _ _ _ _ _
    · exact scan_len l m (k + 1)
theorem eguess_len (l : List UInt8) : (Stil.eguess l).args.length ≤ 8 := scan_len l _ _
theorem elem_chain {w w1 w2 : World} {o : Obj} (hb : Below (w.alloc (.cells #[.int .i64 0, .slice none 0 0] 25)).heap.size (w.alloc (.cells #[.int .i64 0, .slice none 0 0] 25)) w1) (hb2 : Below (w1.alloc o).heap.size (w1.alloc o) w2) :
    Below (w.heap.size + 1) (w.alloc (.cells #[.int .i64 0, .slice none 0 0] 25)) w2 := by
  have h1 := hb.size
  simp at h1
  exact (hb.mono (by simp)).trans ((below_two hb2).mono (by omega))
end Go.Proofs.YtnnhbjgegkikoaaDoor
/- Contracts of the laws' helpers for operands and contacts. -/
namespace Go.Proofs.YtnnhbjgegkikoaaDoor
open Go.RowKit Go.Sort Go.BigFrame
def szL (left : Int) (len : Nat) : Int := if left - len < 0 then -1 else left - len
theorem dev_eta (d e : Stil.Dev) : (d = e) ↔ (d.kind = e.kind ∧ d.n = e.n ∧ d.p = e.p) := by
  cases d; cases e; simp
theorem take_set3 (xs : List Value) (k : Nat) (a b c : Value) (h : k * 3 + 3 ≤ xs.length) : (((xs.set (k * 3) a).set (k * 3 + 1) b).set (k * 3 + 2) c).take ((k + 1) * 3) = xs.take (k * 3) ++ [a, b, c] := by
  apply List.ext_getElem?
  intro i
  simp only [List.getElem?_take, List.getElem?_append, List.length_take, List.getElem?_set, List.length_set]
  have e0 : min (k * 3) xs.length = k * 3 := by omega
  rw [e0]
  by_cases h1 : i < k * 3
  · rw [if_pos (by omega), if_neg (by omega), if_neg (by omega), if_neg (by omega), if_pos h1, if_pos h1]
  · rw [if_neg h1]
    by_cases h2 : i = k * 3
    · subst h2; rw [if_pos (by omega), if_neg (by omega), if_neg (by omega), if_pos rfl, if_pos (by omega)]; simp
    · by_cases h3 : i = k * 3 + 1
      · subst h3; rw [if_pos (by omega), if_neg (by omega), if_pos rfl, if_pos (by omega)]; simp
      · by_cases h4 : i = k * 3 + 2
        · subst h4; rw [if_pos (by omega), if_pos rfl, if_pos (by omega)]; simp
        · rw [if_neg (by omega)]; simp; omega
theorem row3 {w : World} {base g cap n : Nat} {e : TypeId} {xs : List Value} (h : w.ownsRow base e 3 (.slice (some ⟨g, 0, none⟩) n cap) n xs) (k : Nat) (hk : k < n) :
    (∃ u, w.cell? ⟨g, k * 3, none⟩ = some u) ∧ (∃ u, w.cell? ⟨g, k * 3 + 1, none⟩ = some u) ∧ (∃ u, w.cell? ⟨g, k * 3 + 2, none⟩ = some u) := by
  have hl := h.1
  refine ⟨?_, ?_, ?_⟩
  · rw [h.cellAt (k * 3) (by omega), List.getElem?_eq_getElem (by omega)]; exact ⟨_, rfl⟩
  · rw [h.cellAt (k * 3 + 1) (by omega), List.getElem?_eq_getElem (by omega)]; exact ⟨_, rfl⟩
  · rw [h.cellAt (k * 3 + 2) (by omega), List.getElem?_eq_getElem (by omega)]; exact ⟨_, rfl⟩
theorem froz3 {w : World} {base g cap n : Nat} {e : TypeId} {xs : List Value} (h : w.ownsRow base e 3 (.slice (some ⟨g, 0, none⟩) n cap) n xs) (k : Nat) :
    w.frozen? ⟨g, k * 3, none⟩ = false ∧ w.frozen? ⟨g, k * 3 + 1, none⟩ = false ∧ w.frozen? ⟨g, k * 3 + 2, none⟩ = false := ⟨h.frozenAt _, h.frozenAt _, h.frozenAt _⟩
end Go.Proofs.YtnnhbjgegkikoaaDoor
