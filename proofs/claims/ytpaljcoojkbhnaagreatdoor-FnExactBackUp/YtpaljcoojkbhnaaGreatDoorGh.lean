/- P8a, LW10a: texts put together. -/
import Derived.Test.YtpaljcoojkbhnaaGreatDoorGf
import Derived.Test.YtpaljcoojkbhnaaGreatDoorGe
/- How many places a list has. -/
namespace Go.Proofs.YtpaljcoojkbhnaaGreatDoor
open Go.RowKit Go.Sort Go.BigFrame
theorem psum_le {α : Type} (f : α → Nat) (c : Nat) : ∀ l : List α, (∀ x ∈ l, f x ≤ c) → (l.map f).sum ≤ l.length * c
 | [], _ => by simp
 | x :: r, h => by
  have h1 := h x (by simp)
  have h2 := psum_le f c r (fun y hy => h y (List.mem_cons_of_mem _ hy))
  simp only [List.map_cons, List.sum_cons, List.length_cons, Nat.succ_mul]
  omega
theorem instPs_length (b : Nat) : ∀ (qs : List (List Pl)) (o : Nat), (instPs b o qs).length = (qs.map fun q => 2 + q.length).sum
 | [], _ => rfl
 | q :: r, o => by
  have ih := instPs_length b r (o + 3)
  simp only [instPs, List.length_cons, List.length_append, List.map_cons, List.sum_cons, ih]
  omega
theorem l_szList (l : List Stil.Inst) (hw : ∀ x ∈ l, x.wf) (hl : l.length ≤ 9223372036854775807) (v : Value) (q : Int) (W : World) (hat : InstsAt W v l) (h1 : 0 ≤ q) (h2 : q ≤ 1048576) :
  Calls Tryz.prog 5 #[v, .int .i64 q] W fun e w' => e = .returned (.int .i64 (szL q (Stil.instsSz l))) ∧ Below W.heap.size W w' :=
 l_szInsts l (fun x hx => l_szInst x (hw x hx)) v q W hat h1 h2 hl
theorem l_toList (l : List Stil.Inst) (hf : ∀ x ∈ l, x.fits) (hl : l.length ≤ 1048576) (v : Value) (W : World) (hat : InstsAt W v l) :
  Calls Tryz.prog 7 #[v] W fun e w' => ∃ b, e = .returned (.slice (some ⟨b, 0, none⟩) l.length l.length) ∧ InstsAt w' (.slice (some ⟨b, 0, none⟩) l.length l.length) l ∧ Below W.heap.size W w' := by
 refine (l_toInsts l (fun x hx => l_toInst x (hf x hx)) v W hat hl).mono ?_
 rintro e w1 ⟨rfl, g, hb⟩
 exact ⟨_, rfl, g.at, hb⟩
theorem l_eqList (l : List Stil.Inst) (hf : ∀ x ∈ l, x.fits) (hl : l.length ≤ 1048576) (v u : Value) (W : World) (hat : InstsAt W v l) (hau : InstsAt W u l) :
  Calls Tryz.prog 10 #[v, u] W fun e w' => e = .returned (.bool true) ∧ Below W.heap.size W w' :=
 l_eqInsts l (fun x hx => l_eqInst x (hf x hx)) v u W hat hau hl
/-- The laws' copy of a list, with its places. -/
theorem l_toListM (l : List Stil.Inst) (hf : ∀ x ∈ l, x.fits) (hl : l.length ≤ 1048576) (v : Value) (W : World) (hat : InstsAt W v l) :
  Calls Tryz.prog 7 #[v] W fun e w' => ∃ (b : Nat) (qs : List (List Pl)), e = .returned (.slice (some ⟨b, 0, none⟩) l.length l.length) ∧ InstsSh w' (.slice (some ⟨b, 0, none⟩) l.length l.length) b 0 qs ∧ NumsAt w' (instPs b 0 qs) ∧ (instPs b 0 qs).Nodup ∧ InstsAt w' (.slice (some ⟨b, 0, none⟩) l.length l.length) l ∧
   (∀ p ∈ instPs b 0 qs, W.heap.size ≤ p.1) ∧ (instPs b 0 qs).length ≤ 1048576 * 3145730 ∧ Below W.heap.size W w' := by
 refine (l_toInstsM l hf v W hat hl).mono ?_
 rintro e w1 ⟨rfl, ⟨qs, hq, ⟨_, h2, h3, h4⟩, hz, hfr⟩, hb⟩
 obtain ⟨s1, s2, s3, s4⟩ := insts_shape (w := w1) (b := W.heap.size) (cap := l.length) (l := l) (qs := qs) hz hq (fun i hi => by
  obtain ⟨c0, c1, u, c2, c3, c4⟩ := h2 i (by omega) hi
  exact ⟨c0, c1, u, c2, c3, c4.at⟩) hfr (fun q hqm => ⟨(h3 q hqm).1, (h3 q hqm).2.1, fun p hp => Nat.ne_of_gt ((h3 q hqm).2.2 p hp)⟩) h4
 refine ⟨_, qs, rfl, s1, s2, s3, s4, fun p hp => ?_, ?_, hb⟩
 ·rcases instPs_mem _ qs 0 p hp with ⟨i, _, rfl | rfl⟩ | ⟨q, hqm, hp⟩
  ·exact Nat.le_refl _
  ·exact Nat.le_refl _
  ·exact Nat.le_of_lt ((h3 q hqm).2.2 p hp)
 ·rw [instPs_length]
  have := psum_le (fun q : List Pl => 2 + q.length) 3145730 qs (fun q hqm => by
   obtain ⟨i, hi, rfl⟩ := List.getElem_of_mem hqm
   obtain ⟨_, _, u, _, c3, c4⟩ := h2 i hi (by omega)
   obtain ⟨a, n, cap, hu, hn, _⟩ := c3
   obtain ⟨a', cap', hu', _⟩ := c4
   rw [hu] at hu'
   cases hu'
   have := (hf _ (List.getElem_mem (show i < l.length by omega))).2.2.1
   omega)
  rw [hq] at this
  exact Nat.le_trans this (Nat.mul_le_mul_right _ hl)
end Go.Proofs.YtpaljcoojkbhnaaGreatDoor
/- N2, N4, N5, N6: texts put together. -/
/- The program's chapter 6: SureRungs (under way). -/
namespace Go.Proofs.YtpaljcoojkbhnaaGreatDoor
open Go.RowKit Go.Sort Go.BigFrame
/-- The cells of a row of instructions. -/
def rungCells (us : List Value) (cs : List Stil.Inst) : List Value := (us.zip cs).flatMap fun p => [.int .i64 p.2.code, .int .i64 p.2.one.op, p.1]
theorem rungCells_snoc (us : List Value) (cs : List Stil.Inst) (u : Value) (x : Stil.Inst) (h : us.length = cs.length) : rungCells (us ++ [u]) (cs ++ [x]) = rungCells us cs ++ [.int .i64 x.code, .int .i64 x.one.op, u] := by
 unfold rungCells
 rw [List.zip_append h, List.flatMap_append]
 rfl
/-- Two values that own no block in common. -/
def Apart (u v : Value) : Prop := u.ownBlock = none ∨ u.ownBlock ≠ v.ownBlock
theorem Apart.symm {u v : Value} (h : Apart u v) : Apart v u := by
 rcases h with h | h
 ·by_cases e : v.ownBlock = none
  ·exact .inl e
  ·exact .inr (by rw [h]; exact e)
 ·exact .inr (fun e => h e.symm)
/-- A rung in memory of its own: its row, and the rows of its operands. -/
def RungOwn (w : World) (base : Nat) (rv : Value) (us : List Value) (cs : List Stil.Inst) : Prop := us.length = cs.length ∧ w.ownsRow base 51 3 rv cs.length (rungCells us cs) ∧
 ∀ i (h : i < us.length) (h' : i < cs.length), w.ownsRow base 117 3 us[i] cs[i].one.args.length (devsCells cs[i].one.args)
theorem RungOwn.below {w w' : World} {base : Nat} {rv : Value} {us : List Value} {cs : List Stil.Inst} (h : RungOwn w base rv us cs) (hb : Below w.heap.size w w') : RungOwn w' base rv us cs :=
 ⟨h.1, ownsRow_below h.2.1 hb, fun i h1 h2 => ownsRow_below (h.2.2 i h1 h2) hb⟩
theorem RungOwn.kept {w w' : World} {base : Nat} {rv x : Value} {us : List Value} {cs : List Stil.Inst} (h : RungOwn w base rv us cs) (hg : w.grownBy w' x.ownBlock) (h1 : Apart rv x) (h2 : ∀ u ∈ us, Apart u x) : RungOwn w' base rv us cs :=
 ⟨h.1, h.2.1.kept hg h1, fun i hi hi' => (h.2.2 i hi hi').kept hg (h2 _ (List.getElem_mem hi))⟩
/-- Every block of a rung lies in the world. -/
theorem RungOwn.lt {w : World} {base : Nat} {rv : Value} {us : List Value} {cs : List Stil.Inst} (h : RungOwn w base rv us cs) : ∀ x ∈ rv :: us, ∀ k, x.ownBlock = some k → base ≤ k ∧ k < w.heap.size := by
 intro x hx k hk
 rcases List.mem_cons.1 hx with rfl | hx
 ·exact h.2.1.lt k hk
 ·obtain ⟨i, hi, rfl⟩ := List.getElem_of_mem hx
  exact (h.2.2 i hi (by have := h.1; omega)).lt k hk
/-- A rung: its row, its operands' rows, its instructions. -/
abbrev Rg := Value × List Value × List Stil.Inst
def rgVals (f : Rg) : List Value := f.1 :: f.2.1
/-- What lies where while the rungs are built. -/
def Built (w : World) (base : Nat) (sv rv : Value) (us : List Value) (cs : List Stil.Inst) (fin : List Rg) : Prop :=
 RungOwn w base rv us cs ∧ (∀ f ∈ fin, RungOwn w base f.1 f.2.1 f.2.2) ∧ w.ownsRow base 32 1 sv fin.length (fin.map (·.1)) ∧ (sv :: rv :: (us ++ fin.flatMap rgVals)).Pairwise Apart
theorem Built.below {w w' : World} {base : Nat} {sv rv : Value} {us : List Value} {cs : List Stil.Inst} {fin : List Rg} (h : Built w base sv rv us cs fin) (hb : Below w.heap.size w w') : Built w' base sv rv us cs fin :=
 ⟨h.1.below hb, fun f hf => (h.2.1 f hf).below hb, ownsRow_below h.2.2.1 hb, h.2.2.2⟩
theorem Built.lt {w : World} {base : Nat} {sv rv : Value} {us : List Value} {cs : List Stil.Inst} {fin : List Rg} (h : Built w base sv rv us cs fin) : ∀ x ∈ sv :: rv :: (us ++ fin.flatMap rgVals), ∀ k, x.ownBlock = some k → base ≤ k ∧ k < w.heap.size := by
 intro x hx k hk
 simp only [List.mem_cons, List.mem_append, List.mem_flatMap] at hx
 rcases hx with rfl | rfl | hx | ⟨f, hf, hx⟩
 ·exact h.2.2.1.lt k hk
 ·exact h.1.lt _ (by simp) k hk
 ·exact h.1.lt x (by simp [hx]) k hk
 ·exact (h.2.1 f hf).lt x hx k hk
/-- One instruction more in the rung that is being built: u is new since w, the row is grown from w5 on. -/
theorem Built.push {w w5 w6 : World} {base : Nat} {sv rv rv' u : Value} {us : List Value} {cs : List Stil.Inst} {fin : List Rg} {x : Stil.Inst} (h : Built w base sv rv us cs fin) (hb : Below w.heap.size w w5)
  (hu : w5.ownsRow w.heap.size 117 3 u x.one.args.length (devsCells x.one.args)) (hbase : base ≤ w.heap.size)
  (hown : w6.ownsRow base 51 3 rv' (cs.length + 1) (rungCells us cs ++ [.int .i64 x.code, .int .i64 x.one.op, u])) (hg : w5.grownBy w6 rv.ownBlock) (hat : rv'.ownBlock = rv.ownBlock ∨ rv'.ownBlock = some w5.heap.size) :
  Built w6 base sv rv' (us ++ [u]) (cs ++ [x]) fin := by
 have hlt := h.lt
 have hb5 := h.below hb
 obtain ⟨h1, h2, h3, h4⟩ := hb5
 have hp := h4
 rw [List.pairwise_cons, List.pairwise_cons, List.pairwise_append] at hp
 obtain ⟨hs, hr, hpu, hpf, hpuf⟩ := hp
 have hur : Apart u rv := by
  by_cases e : u.ownBlock = none
  ·exact .inl e
  ·obtain ⟨k, hk⟩ := Option.ne_none_iff_exists'.1 e
   refine .inr (fun e2 => ?_)
   rw [hk] at e2
   have a1 := (hu.lt k hk).1
   have a2 := (hlt rv (by simp) k e2.symm).2
   omega
 have hux : ∀ y ∈ sv :: rv :: (us ++ fin.flatMap rgVals), Apart y u := by
  intro y hy
  by_cases e : y.ownBlock = none
  ·exact .inl e
  ·obtain ⟨k, hk⟩ := Option.ne_none_iff_exists'.1 e
   refine .inr (fun e2 => ?_)
   rw [hk] at e2
   have a1 := (hu.lt k e2.symm).1
   have a2 := (hlt y hy k hk).2
   omega
 have hrv' : ∀ y, Apart y rv → (∀ k, y.ownBlock = some k → k < w5.heap.size) → Apart rv' y := by
  intro y hy hl
  rcases hat with e | e
  ·rcases hy with h0 | h0
   ·by_cases e0 : rv'.ownBlock = none
    ·exact .inl e0
    ·exact .inr (by rw [h0]; exact e0)
   ·exact .inr (by rw [e]; exact fun e2 => h0 e2.symm)
  ·refine .inr (fun e2 => ?_)
   rw [e] at e2
   have := hl _ e2.symm
   omega
 have hl5 : ∀ y ∈ sv :: rv :: (us ++ fin.flatMap rgVals), ∀ k, y.ownBlock = some k → k < w5.heap.size := fun y hy k hk => Nat.lt_of_lt_of_le (hlt y hy k hk).2 hb.size
 have hru : ∀ y ∈ us ++ fin.flatMap rgVals, Apart y rv := fun y hy => (hr y hy).symm
 refine ⟨⟨by simp [h1.1], ?_, fun i hi hi' => ?_⟩, fun f hf => ?_, ?_, ?_⟩
 ·rw [rungCells_snoc us cs u x h1.1, List.length_append]; exact hown
 ·by_cases e : i < us.length
  ·rw [List.getElem_append_left e, List.getElem_append_left (by have := h1.1; omega)]
   exact (h1.2.2 i e (by have := h1.1; omega)).kept hg (hru _ (by simp [List.getElem_mem e]))
  ·obtain rfl : i = us.length := by simp at hi; omega
   rw [List.getElem_append_right (Nat.le_refl _)]
   have e3 : (cs ++ [x])[us.length]'hi' = x := by
    rw [List.getElem_append_right (by have := h1.1; omega)]
    simp [h1.1]
   rw [e3]
   simp only [Nat.sub_self, List.getElem_cons_zero]
   exact (Joins.ownsRow_le hu hbase).kept hg hur
 ·have hm : ∀ y ∈ rgVals f, y ∈ us ++ fin.flatMap rgVals := fun y hy => List.mem_append_right _ (List.mem_flatMap.2 ⟨f, hf, hy⟩)
  exact (h2 f hf).kept hg (hru _ (hm _ (by simp [rgVals]))) (fun u' hu' => hru _ (hm _ (by simp [rgVals, hu'])))
 ·exact h3.kept hg (hs rv (by simp))
 ·rw [List.pairwise_cons, List.pairwise_cons, List.pairwise_append, List.pairwise_append]
  have huk : ∀ k, u.ownBlock = some k → k < w5.heap.size := fun k hk => (hu.lt k hk).2
  refine ⟨fun y hy => ?_, fun y hy => ?_, ⟨hpu, List.pairwise_singleton _ _, fun y hy z hz => ?_⟩, hpf, fun y hy z hz => ?_⟩
  ·simp only [List.mem_cons, List.mem_append, List.mem_nil_iff, or_false] at hy
   rcases hy with rfl | (hy | rfl) | hy
   ·exact (hrv' sv (hs rv (by simp)) (hl5 sv (by simp))).symm
   ·exact hs y (by simp [hy])
   ·exact hux sv (by simp)
   ·exact hs y (by simp [hy])
  ·simp only [List.mem_append, List.mem_cons, List.mem_nil_iff, or_false] at hy
   rcases hy with (hy | rfl) | hy
   ·exact hrv' y (hru y (by simp [hy])) (hl5 y (by simp [hy]))
   ·exact hrv' y hur huk
   ·exact hrv' y (hru y (by simp [hy])) (hl5 y (by simp [hy]))
  ·obtain rfl := List.mem_singleton.1 hz
   exact hux y (by simp [hy])
  ·rcases List.mem_append.1 hy with hy | hy
   ·exact hpuf y hy z hz
   ·obtain rfl := List.mem_singleton.1 hy
    exact (hux z (by simp [hz])).symm
/-- The rung is done: its row goes to the rungs, the next one begins. -/
theorem Built.close {w w' : World} {base : Nat} {sv sv' rv : Value} {us : List Value} {cs : List Stil.Inst} {fin : List Rg} (h : Built w base sv rv us cs fin)
  (hown : w'.ownsRow base 32 1 sv' (fin.length + 1) (fin.map (·.1) ++ [rv])) (hg : w.grownBy w' sv.ownBlock) (hat : sv'.ownBlock = sv.ownBlock ∨ sv'.ownBlock = some w.heap.size) :
  Built w' base sv' (.slice none 0 0) [] [] (fin ++ [(rv, us, cs)]) := by
 have hlt := h.lt
 obtain ⟨h1, h2, h3, h4⟩ := h
 have hp := h4
 rw [List.pairwise_cons, List.pairwise_cons, List.pairwise_append] at hp
 obtain ⟨hs, hr, hpu, hpf, hpuf⟩ := hp
 have hsy : ∀ y ∈ rv :: (us ++ fin.flatMap rgVals), Apart y sv := fun y hy => (hs y hy).symm
 have hsv' : ∀ y ∈ rv :: (us ++ fin.flatMap rgVals), Apart sv' y := by
  intro y hy
  rcases hat with e | e
  ·rcases hs y hy with h0 | h0
   ·exact .inl (by rw [e]; exact h0)
   ·exact .inr (by rw [e]; exact h0)
  ·refine .inr (fun e2 => ?_)
   rw [e] at e2
   have := (hlt y (List.mem_cons_of_mem _ hy) _ e2.symm).2
   omega
 refine ⟨⟨rfl, World.ownsRow_nil _ _ _ _, fun i hi => absurd hi (by simp)⟩, fun f hf => ?_, ?_, ?_⟩
 ·rcases List.mem_append.1 hf with hf | hf
  ·have hm : ∀ y ∈ rgVals f, y ∈ rv :: (us ++ fin.flatMap rgVals) := fun y hy => List.mem_cons_of_mem _ (List.mem_append_right _ (List.mem_flatMap.2 ⟨f, hf, hy⟩))
   exact (h2 f hf).kept hg (hsy _ (hm _ (by simp [rgVals]))) (fun u hu => hsy _ (hm _ (by simp [rgVals, hu])))
  ·obtain rfl := List.mem_singleton.1 hf
   exact h1.kept hg (hsy _ (by simp)) (fun u hu => hsy _ (by simp [hu]))
 ·rw [List.length_append, List.map_append]; exact hown
 ·have hnil : ∀ y : Value, Apart (.slice none 0 0) y := fun y => .inl rfl
  have e : (fin ++ [((rv, us, cs) : Rg)]).flatMap rgVals = fin.flatMap rgVals ++ (rv :: us) := by simp [rgVals]
  rw [List.nil_append, e, List.pairwise_cons, List.pairwise_cons, List.pairwise_append, List.pairwise_cons]
  refine ⟨fun y hy => ?_, fun y _ => hnil y, hpf, ⟨fun y hy => hr y (List.mem_append_left _ hy), hpu⟩, fun y hy z hz => ?_⟩
  ·simp only [List.mem_cons, List.mem_append] at hy
   rcases hy with rfl | hy | rfl | hy
   ·exact (hnil sv').symm
   ·exact hsv' y (by simp [hy])
   ·exact hsv' _ (by simp)
   ·exact hsv' y (by simp [hy])
  ·rcases List.mem_cons.1 hz with rfl | hz
   ·exact (hr y (List.mem_append_right _ hy)).symm
   ·exact (hpuf z hz y hy).symm
theorem rungCells_get : ∀ (us : List Value) (cs : List Stil.Inst) (i : Nat) (h : i < us.length) (h' : i < cs.length), (rungCells us cs)[i * 3]? = some (.int .i64 cs[i].code) ∧ (rungCells us cs)[i * 3 + 1]? = some (.int .i64 cs[i].one.op) ∧ (rungCells us cs)[i * 3 + 2]? = some us[i]
 | [], _, _, h, _ => by simp at h
 | _ :: _, [], _, _, h => by simp at h
 | u :: us, c :: cs, 0, _, _ => ⟨rfl, rfl, rfl⟩
 | u :: us, c :: cs, i + 1, h, h' => by
  obtain ⟨a1, a2, a3⟩ := rungCells_get us cs i (by simpa using h) (by simpa using h')
  have e : rungCells (u :: us) (c :: cs) = .int .i64 c.code :: .int .i64 c.one.op :: u :: rungCells us cs := rfl
  have e1 : (i + 1) * 3 = i * 3 + 1 + 1 + 1 := by omega
  rw [e, e1]
  exact ⟨by simpa using a1, by simpa using a2, by simpa using a3⟩
def InstssFrom (lo : Nat) (w : World) (v : Value) (l : List (List Stil.Inst)) : Prop := ∃ a cap, v = .slice a l.length cap ∧ ∀ i (h : i < l.length), ∃ b o, a = some ⟨b, o, none⟩ ∧ lo ≤ b ∧ b < w.heap.size ∧ ∃ rv, w.cell? ⟨b, o + i, none⟩ = some rv ∧ InstsFrom lo w rv l[i]
theorem InstssFrom.keep {lo : Nat} {w w' : World} {v : Value} {l : List (List Stil.Inst)} (h : InstssFrom lo w v l) (hk : KeepsUp lo w w') : InstssFrom lo w' v l := by
 obtain ⟨a, cap, hv, hc⟩ := h
 refine ⟨a, cap, hv, fun i hi => ?_⟩
 obtain ⟨b, o, ha, hl, hb, rv, hr, hn⟩ := hc i hi
 exact ⟨b, o, ha, hl, Nat.lt_of_lt_of_le hb hk.1, rv, by rw [hk.2 _ _ hl hb]; exact hr, hn.keep hk⟩
theorem rung_from {w : World} {base : Nat} {rv : Value} {us : List Value} {cs : List Stil.Inst} (h : RungOwn w base rv us cs) : InstsFrom base w rv cs := by
 obtain ⟨hlen, hown, hus⟩ := h
 by_cases hz : cs.length = 0
 ·obtain ⟨a, cap, rfl⟩ := slice_of_owns hown
  exact ⟨a, cap, rfl, fun i hi => absurd hi (by omega)⟩
 ·obtain ⟨g, cap, hv, hbase, hlt, _, hcell⟩ := ownsRow_cells hown (by omega)
  subst hv
  refine ⟨_, cap, rfl, fun i hi => ⟨g, 0, rfl, hbase, hlt, ?_⟩⟩
  obtain ⟨a1, a2, a3⟩ := rungCells_get us cs i (by omega) hi
  unfold InstFrom
  rw [Nat.zero_add]
  exact ⟨hcell _ _ a1, hcell _ _ a2, us[i]'(by omega), hcell _ _ a3, DevsFrom.of_owns (hus i (by omega) hi)⟩
theorem built_from {w : World} {base : Nat} {sv rv : Value} {us : List Value} {cs : List Stil.Inst} {fin : List Rg} (h : Built w base sv rv us cs fin) : InstssFrom base w sv (fin.map (·.2.2)) := by
 obtain ⟨_, hfin, hsv, _⟩ := h
 by_cases hz : fin.length = 0
 ·obtain ⟨a, cap, rfl⟩ := slice_of_owns hsv
  exact ⟨a, cap, by simp, fun i hi => absurd hi (by simp; omega)⟩
 ·obtain ⟨B, cap, hv, hbase, hlt, _, hcell⟩ := ownsRow_cells hsv (by omega)
  subst hv
  refine ⟨some ⟨B, 0, none⟩, cap, by simp, fun i hi => ?_⟩
  have hi' : i < fin.length := by simpa using hi
  refine ⟨B, 0, rfl, hbase, hlt, fin[i].1, ?_, ?_⟩
  ·rw [Nat.zero_add]
   exact hcell i _ (by simp [List.getElem?_eq_getElem hi'])
  ·rw [List.getElem_map]
   exact rung_from (hfin _ (List.getElem_mem hi'))
end Go.Proofs.YtpaljcoojkbhnaaGreatDoor
