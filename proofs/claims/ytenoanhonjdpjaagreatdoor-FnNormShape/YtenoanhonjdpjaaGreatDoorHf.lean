/- M9,M10,M11,M12: texts put together. -/
import Derived.Test.YtenoanhonjdpjaaGreatDoorGl
import Derived.Test.YtenoanhonjdpjaaGreatDoorGU
/- Plain model of chapter 4: the normal form is its own normal form; nothing is wrong with it. -/
namespace Stil
/-- A net in normal form. -/
def isNorm : Net -> Prop
 | ⟨k,_,kids⟩ => ((k = 2 ∨ k = 3) -> kids.length ≠ 1 ∧ ∀ x ∈ kids,x.kind ≠ k) ∧ ∀ p ∈ kids.map isNorm,p
theorem isNorm_iff (n : Net) : isNorm n ↔ ((n.kind = 2 ∨ n.kind = 3) -> n.kids.length ≠ 1 ∧ ∀ x ∈ n.kids,x.kind ≠ n.kind) ∧ ∀ x ∈ n.kids,isNorm x := by
 obtain ⟨k,e,kids⟩ := n
 rw [isNorm,all_map]
theorem flatKids_id (k : Int) (l : List Net) (h : ∀ x ∈ l,x.kind ≠ k) : flatKids k l = l := by
 induction l with
 | nil => rfl
 | cons x r ih =>
  have e : x :: r = [x] ++ r := rfl
  rw [e,flatKids_append,flatKids_one,if_neg (h x (by simp)),ih (fun y hy => h y (List.mem_cons_of_mem _ hy))]
theorem flatKids_kind (k : Int) (hk : k = 2 ∨ k = 3) (l : List Net) (h : ∀ x ∈ l,isNorm x) : ∀ x ∈ flatKids k l,x.kind ≠ k ∧ isNorm x := by
 intro x hx
 obtain ⟨y,hy,hx⟩ := List.mem_flatMap.1 hx
 have hn := (isNorm_iff y).1 (h y hy)
 split at hx
 ·rename_i e
  refine ⟨?_,hn.2 x hx⟩
  have := (hn.1 (by rw [e]; exact hk)).2 x hx
  rwa [e] at this
 ·rename_i e
  rw [List.mem_singleton.1 hx]
  exact ⟨e,h y hy⟩
theorem norm_isNorm (n : Net) : isNorm (normNet n) := by
 refine net_ind (fun n => isNorm (normNet n)) ?_ n
 intro k e kids ih
 have hm : ∀ x ∈ kids.map normNet,isNorm x := by
  intro x hx
  obtain ⟨y,hy,rfl⟩ := List.mem_map.1 hx
  exact ih y hy
 rw [normNet_eq]
 split
 ·rename_i hk
  have hF := flatKids_kind k hk _ hm
  unfold blockOf
  split
  ·exact (hF _ (List.getElem_mem _)).2
  ·rename_i hl
   rw [isNorm_iff]
   exact ⟨fun _ => ⟨hl,fun x hx => (hF x hx).1⟩,fun x hx => (hF x hx).2⟩
 ·rename_i hk
  rw [isNorm_iff]
  exact ⟨fun h => absurd h hk,hm⟩
/-- Blocks hold no contact of their own,anywhere. -/
def blkBare : Net -> Prop
 | ⟨k,e,kids⟩ => ((k = 2 ∨ k = 3) -> e = ⟨0,[]⟩) ∧ ∀ p ∈ kids.map blkBare,p
theorem blkBare_iff (n : Net) : blkBare n ↔ ((n.kind = 2 ∨ n.kind = 3) -> n.one = ⟨0,[]⟩) ∧ ∀ x ∈ n.kids,blkBare x := by
 obtain ⟨k,e,kids⟩ := n
 rw [blkBare,all_map]
theorem norm_blkBare (n : Net) : blkBare (normNet n) := by
 refine net_ind (fun n => blkBare (normNet n)) ?_ n
 intro k e kids ih
 have hm : ∀ x ∈ kids.map normNet,blkBare x := by
  intro x hx
  obtain ⟨y,hy,rfl⟩ := List.mem_map.1 hx
  exact ih y hy
 have hF : ∀ x ∈ flatKids k (kids.map normNet),blkBare x := by
  intro x hx
  obtain ⟨y,hy,hx⟩ := List.mem_flatMap.1 hx
  have hn := (blkBare_iff y).1 (hm y hy)
  split at hx
  ·exact hn.2 x hx
  ·rw [List.mem_singleton.1 hx]; exact hm y hy
 rw [normNet_eq]
 split
 ·unfold blockOf
  split
  ·exact hF _ (List.getElem_mem _)
  ·rw [blkBare_iff]
   exact ⟨fun _ => rfl,hF⟩
 ·rename_i hk
  rw [blkBare_iff]
  exact ⟨fun h => absurd h hk,hm⟩
theorem norm_same (n : Net) : isNorm n -> blkBare n -> normNet n = n := by
 refine net_ind (fun n => isNorm n -> blkBare n -> normNet n = n) ?_ n
 intro k e kids ih h1 h2
 have a1 := (isNorm_iff _).1 h1
 have a2 := (blkBare_iff _).1 h2
 simp only at a1 a2
 have hm : kids.map normNet = kids := by
  have : kids.map normNet = kids.map id := List.map_congr_left (fun x hx => ih x hx (a1.2 x hx) (a2.2 x hx))
  rw [this,List.map_id]
 rw [normNet_eq,hm]
 split
 ·rename_i hk
  rw [flatKids_id k kids (a1.1 hk).2]
  unfold blockOf
  rw [dif_neg (a1.1 hk).1,a2.1 hk]
 ·rfl
theorem norm_twice (n : Net) : normNet (normNet n) = normNet n := norm_same _ (norm_isNorm n) (norm_blkBare n)
/-- Nothing is wrong with these nets. -/
theorem right_of {k : Int} {ks : List Net} (hk : k = 2 ∨ k = 3) (h0 : 0 < ks.length) (h : ∀ x ∈ ks,netWrong x = 0) : netWrong ⟨k,⟨0,[]⟩,ks⟩ = 0 := by
 rw [netWrong_eq,if_neg (by omega)]
 have hb : badNet k 0 0 ks.length = false := by
  unfold badNet
  have e1 : decide (k < 2) = false := by rw [decide_eq_false_iff_not]; omega
  have e2 : decide (4 < k) = false := by rw [decide_eq_false_iff_not]; omega
  have e3 : ((ks.length : Int) == 0) = false := by rw [beq_eq_false_iff_ne]; omega
  have e4 : (k == 4) = false := by rw [beq_eq_false_iff_ne]; omega
  simp [e1,e2,e3,e4]
 rw [if_neg (by simp only [List.length_nil,hb]; exact Bool.false_ne_true)]
 clear h0 hb
 induction ks with
 | nil => rfl
 | cons x r ih =>
  rw [List.map_cons,firstPos,if_neg (by rw [h x (by simp)]; omega)]
  exact ih (fun y hy => h y (List.mem_cons_of_mem _ hy))
theorem right_kids {n : Net} (h : netWrong n = 0) (hk : n.kind = 2 ∨ n.kind = 3) : 0 < n.kids.length ∧ ∀ x ∈ n.kids,netWrong x = 0 := by
 obtain ⟨k,e,kids⟩ := n
 simp only at hk ⊢
 rcases right_parts h with ⟨h1,_⟩ | ⟨_,h2,h3⟩ | ⟨h1,_⟩
 ·omega
 ·exact ⟨h2,h3⟩
 ·omega
theorem flat_right {k : Int} (hk : k = 2 ∨ k = 3) {l : List Net} (h0 : 0 < l.length) (h : ∀ x ∈ l,netWrong x = 0) : 0 < (flatKids k l).length ∧ ∀ x ∈ flatKids k l,netWrong x = 0 := by
 have hone : ∀ x ∈ l,0 < (flatKids k [x]).length ∧ ∀ y ∈ flatKids k [x],netWrong y = 0 := by
  intro x hx
  rw [flatKids_one]
  split
  ·rename_i e
   exact right_kids (h x hx) (by rw [e]; exact hk)
  ·exact ⟨by simp,fun y hy => by rw [List.mem_singleton.1 hy]; exact h x hx⟩
 refine ⟨?_,fun y hy => ?_⟩
 ·obtain ⟨x,r,rfl⟩ := List.exists_cons_of_ne_nil (List.ne_nil_of_length_pos h0)
  have e : x :: r = [x] ++ r := rfl
  rw [e,flatKids_append,List.length_append]
  have := (hone x (by simp)).1
  omega
 ·obtain ⟨x,hx,hy⟩ := List.mem_flatMap.1 hy
  refine (hone x hx).2 y ?_
  rw [flatKids_one]; exact hy
theorem block_right {k : Int} (hk : k = 2 ∨ k = 3) {l : List Net} (h0 : 0 < l.length) (h : ∀ x ∈ l,netWrong x = 0) : netWrong (blockOf k (flatKids k l)) = 0 := by
 obtain ⟨h1,h2⟩ := flat_right hk h0 h
 unfold blockOf
 split
 ·exact h2 _ (List.getElem_mem _)
 ·exact right_of hk h1 h2
theorem norm_right (n : Net) : netWrong n = 0 -> netWrong (normNet n) = 0 := by
 refine net_ind (fun n => netWrong n = 0 -> netWrong (normNet n) = 0) ?_ n
 intro k e kids ih h
 have h' := h
 rw [normNet_eq]
 rcases right_parts h with ⟨rfl,rfl⟩ | ⟨hk,h0,hks⟩ | ⟨rfl,rfl,x,rfl,hx⟩
 ·rw [if_neg (by omega)]; exact h'
 ·rw [if_pos hk]
  refine block_right hk (by simpa using h0) (fun x hx => ?_)
  obtain ⟨y,hy,rfl⟩ := List.mem_map.1 hx
  exact ih y hy (hks y hy)
 ·rw [if_neg (by omega)]
  have hy := ih x (by simp) hx
  rw [netWrong_eq,if_neg (by omega)]
  have hb : badNet 4 (⟨0,[]⟩ : Elem).op (⟨0,[]⟩ : Elem).args.length ([x].map normNet).length = false := by rfl
  rw [if_neg (by rw [hb]; exact Bool.false_ne_true)]
  simp only [List.map_cons,List.map_nil,firstPos]
  rw [if_neg (by omega)]
/-- A net in normal form with which nothing is wrong. -/
def fine (n : Net) : Prop := isNorm n ∧ blkBare n ∧ netWrong n = 0
theorem norm_fine {n : Net} (h : netWrong n = 0) : fine (normNet n) := ⟨norm_isNorm n,norm_blkBare n,norm_right n h⟩
theorem fine_same {n : Net} (h : fine n) : normNet n = n := norm_same n h.1 h.2.1
def none0 : Net := ⟨0,⟨0,[]⟩,[]⟩
theorem none_eq {n : Net} (h : netNone n = true) : n = none0 := by
 obtain ⟨k,⟨op,args⟩,kids⟩ := n
 simp only [netNone,Bool.and_eq_true,beq_iff_eq] at h
 obtain ⟨⟨⟨h1,h2⟩,h3⟩,h4⟩ := h
 have e1 : args = [] := List.length_eq_zero_iff.1 h3
 have e2 : kids = [] := List.length_eq_zero_iff.1 h4
 subst e1 e2 h1 h2
 rfl
theorem fine_some {n : Net} (h : fine n) : netNone n = false := by
 cases hn : netNone n with
 | false => rfl
 | true =>
  have e := none_eq hn
  have h2 := h.2.2
  rw [e] at h2
  unfold none0 at h2
  rcases right_parts h2 with ⟨h3,_⟩ | ⟨h3,_⟩ | ⟨h3,_⟩ <;> omega
/-- Two nets,one behind the other,each fine or none. -/
def series (a b : Net) : Net := if netNone a then b else if netNone b then a else blockOf 2 (flatKids 2 [a,b])
theorem block_fine {l : List Net} (h0 : 0 < l.length) (h : ∀ x ∈ l,fine x) : fine (blockOf 2 (flatKids 2 l)) := by
 have hm : l.map normNet = l := by
  have : l.map normNet = l.map id := List.map_congr_left (fun x hx => fine_same (h x hx))
  rw [this,List.map_id]
 have e : blockOf 2 (flatKids 2 l) = normNet ⟨2,⟨0,[]⟩,l⟩ := by rw [normNet_eq,if_pos (.inl rfl),hm]
 rw [e]
 exact norm_fine (right_of (.inl rfl) h0 (fun x hx => (h x hx).2.2))
def fineOr (n : Net) : Prop := netNone n = true ∨ fine n
theorem series_fine {a b : Net} (ha : fineOr a) (hb : fineOr b) : fineOr (series a b) := by
 unfold series
 split
 ·exact hb
 ·rename_i h1
  split
  ·exact ha
  ·rename_i h2
   refine .inr (block_fine (by simp) (fun x hx => ?_))
   rcases List.mem_cons.1 hx with rfl | hx
   ·rcases ha with h | h
    ·exact absurd h h1
    ·exact h
   ·rw [List.mem_singleton.1 hx]
    rcases hb with h | h
    ·exact absurd h h2
    ·exact h
def ksize (l : List Arm) : Nat := (l.map armSize).sum
/-- An arm that has taken its one kid in,as long as it may. -/
def joinArm : Nat -> Arm -> Arm
 | 0,a => a
 | f + 1,a => match a.kids with
  | [kid] => if a.coils = [] ∨ netNone kid.net = true then joinArm f ⟨series a.net kid.net,a.coils ++ kid.coils,kid.kids⟩ else a
  | _ => a
theorem armSize_pos (a : Arm) : 1 + ksize a.kids <= armSize a := by
 obtain ⟨n,c,kids⟩ := a
 rw [armSize_eq]
 unfold ksize
 simp only
 omega
theorem joinArm_more (f : Nat) : ∀ a : Arm,ksize a.kids <= f -> joinArm f a = joinArm (f + 1) a := by
 induction f with
 | zero =>
  intro a h
  rw [joinArm]
  conv => rhs; rw [joinArm]
  split
  ·rename_i kid e
   rw [e] at h
   have := armSize_pos kid
   simp [ksize] at h
   omega
  ·rfl
 | succ f ih =>
  intro a h
  rw [joinArm]
  conv => rhs; rw [joinArm]
  split
  ·rename_i kid e
   split
   ·refine ih _ ?_
    rw [e] at h
    have := armSize_pos kid
    simp only [ksize,List.map_cons,List.map_nil,List.sum_cons,List.sum_nil] at h this ⊢
    omega
   ·rfl
  ·rfl
def joined (a : Arm) : Arm := joinArm (ksize a.kids) a
theorem joinArm_eq (a : Arm) : ∀ f,ksize a.kids <= f -> joinArm f a = joined a := by
 intro f h
 obtain ⟨d,rfl⟩ := Nat.exists_eq_add_of_le h
 clear h
 induction d with
 | zero => rfl
 | succ d ih => rw [← Nat.add_assoc,← joinArm_more _ a (by omega)]; exact ih
theorem joined_step (n : Net) (c : List Elem) (kid : Arm) (h : c = [] ∨ netNone kid.net = true) : joined ⟨n,c,[kid]⟩ = joined ⟨series n kid.net,c ++ kid.coils,kid.kids⟩ := by
 have hs : ksize [kid] = armSize kid := by simp [ksize]
 have hp := armSize_pos kid
 unfold joined
 simp only
 rw [hs]
 obtain ⟨f,hf⟩ : ∃ f,armSize kid = f + 1 := ⟨armSize kid - 1,by omega⟩
 rw [hf,joinArm]
 simp only
 rw [if_pos h]
 exact joinArm_eq _ f (by simp only; omega)
theorem joined_stop (a : Arm) (h : ∀ kid,a.kids = [kid] -> ¬ (a.coils = [] ∨ netNone kid.net = true)) : joined a = a := by
 unfold joined
 cases hf : ksize a.kids with
 | zero => rfl
 | succ f =>
  rw [joinArm]
  split
  ·rename_i kid e
   rw [if_neg (h kid e)]
  ·rfl
def normArm : Arm -> Arm
 | ⟨n,coils,kids⟩ => joined ⟨if netNone n then n else normNet n,coils,kids.map normArm⟩
theorem normArm_eq (n : Net) (coils : List Elem) (kids : List Arm) : normArm ⟨n,coils,kids⟩ = joined ⟨if netNone n then n else normNet n,coils,kids.map normArm⟩ := by rw [normArm]
theorem empty_fits : (⟨0,[]⟩ : Elem).fits := ⟨by show i64 0; unfold i64; omega,by simp,by simp⟩
theorem flat_fits {k : Int} {l : List Net} (h : ∀ x ∈ l,netFits x) : ∀ x ∈ flatKids k l,netFits x := by
 intro x hx
 obtain ⟨y,hy,hx⟩ := List.mem_flatMap.1 hx
 split at hx
 ·exact (netFits_parts (h y hy)).2.2.2 x hx
 ·rw [List.mem_singleton.1 hx]; exact h y hy
theorem block_fits {k : Int} (hk : i64 k) {l : List Net} (h : ∀ x ∈ l,netFits x) (hl : l.length <= 1048576) : netFits (blockOf k l) := by
 unfold blockOf
 split
 ·exact h _ (List.getElem_mem _)
 ·exact (netFits_eq _ _ _).2 ⟨hk,empty_fits,hl,h⟩
theorem series_fits {a b : Net} (ha : netFits a) (hb : netFits b) (hs : netSize a + netSize b <= 1000000) : netFits (series a b) := by
 unfold series
 split
 ·exact hb
 ·split
  ·exact ha
  ·refine block_fits (by unfold i64; omega) (flat_fits (fun x hx => ?_)) ?_
   ·rcases List.mem_cons.1 hx with rfl | hx
    ·exact ha
    ·rw [List.mem_singleton.1 hx]; exact hb
   ·have h1 := len_sizes (flatKids 2 [a,b])
    have h2 := flatKids_sizes 2 [a,b]
    have h3 : sizes [a,b] = netSize a + netSize b := by simp [sizes]
    omega
def nsz (n : Net) : Nat := if netNone n then 0 else netSize n
theorem nsz_le (n : Net) : nsz n <= netSize n := by unfold nsz; split <;> omega
theorem size_le (n : Net) : netSize n <= 1 + nsz n := by
 unfold nsz
 split
 ·rename_i h
  rw [none_eq h]
  show netSize ⟨0,⟨0,[]⟩,[]⟩ <= _
  rw [netSize_eq]; simp
 ·omega
theorem series_size (a b : Net) : nsz (series a b) <= nsz a + nsz b + 1 := by
 unfold series
 split
 ·omega
 ·rename_i h1
  split
  ·omega
  ·rename_i h2
   refine Nat.le_trans (nsz_le _) ?_
   have h3 := blockOf_size 2 (flatKids 2 [a,b])
   have h4 := flatKids_sizes 2 [a,b]
   have h5 : sizes [a,b] = netSize a + netSize b := by simp [sizes]
   have e1 : nsz a = netSize a := if_neg h1
   have e2 : nsz b = netSize b := if_neg h2
   omega
theorem armSize_nsz (n : Net) (c : List Elem) (kids : List Arm) : armSize ⟨n,c,kids⟩ = 1 + c.length + nsz n + ksize kids := by rw [armSize_eq]; rfl
/-- An arm that can be carried on. -/
def midOk (c : Nat) (b : Arm) : Prop := armFits b ∧ armSize b <= c
theorem len_ksize (l : List Arm) : l.length <= ksize l := by
 unfold ksize
 induction l with
 | nil => simp
 | cons x r ihr =>
  have := armSize_pos x
  simp only [List.length_cons,List.map_cons,List.sum_cons]
  omega
theorem ksize_one (k : Arm) : ksize [k] = armSize k := by simp [ksize]
theorem join_ok {c : Nat} {n : Net} {cs : List Elem} {kid : Arm} (h : midOk c ⟨n,cs,[kid]⟩) (hc : c <= 900000) : midOk c ⟨series n kid.net,cs ++ kid.coils,kid.kids⟩ ∧ sizes [n,kid.net] <= 999999 ∧ netFits n ∧ netFits kid.net ∧ cs.length + kid.coils.length <= 1000000 ∧ ksize kid.kids < ksize [kid] := by
 obtain ⟨hf,hs⟩ := h
 rw [armSize_nsz,ksize_one] at hs
 obtain ⟨kn,kc,kk⟩ := kid
 rw [armSize_nsz] at hs
 rw [ksize_one,armSize_nsz]
 simp only
 have hp := (armFits_eq _ _ _).1 hf
 have hk := (armFits_eq _ _ _).1 (hp.2.2.2.2 ⟨kn,kc,kk⟩ (by simp))
 have h1 := size_le n
 have h2 := size_le kn
 have h3 := series_size n kn
 refine ⟨⟨(armFits_eq _ _ _).2 ⟨series_fits hp.1 hk.1 (by omega),by rw [List.length_append]; omega,fun x hx => ?_,hk.2.2.2⟩,?_⟩,by simp [sizes]; omega,hp.1,hk.1,by omega,by omega⟩
 ·rcases List.mem_append.1 hx with hx | hx
  ·exact hp.2.2.1 x hx
  ·exact hk.2.2.1 x hx
 ·rw [armSize_nsz,List.length_append]; omega
theorem joinArm_ok {c : Nat} (hc : c <= 900000) : ∀ (f : Nat) (b : Arm),midOk c b -> midOk c (joinArm f b)
 | 0,b,h => h
 | f + 1,⟨n,cs,kids⟩,h => by
  rw [joinArm]
  split
  ·rename_i kid e
   simp only at e
   subst e
   split
   ·exact joinArm_ok hc f _ (join_ok h hc).1
   ·exact h
  ·exact h
theorem joined_ok {c : Nat} (hc : c <= 900000) (b : Arm) (h : midOk c b) : midOk c (joined b) := joinArm_ok hc _ b h
theorem norm_fits1 (n : Net) : netFits n -> netSize n <= 1000000 -> netFits (normNet n) := by
 refine net_ind (fun n => netFits n -> netSize n <= 1000000 -> netFits (normNet n)) ?_ n
 intro k e kids ih h hs
 rw [normNet_eq]
 have hp := (netFits_eq _ _ _).1 h
 have hks : sizes kids < netSize ⟨k,e,kids⟩ := by rw [netSize_kids]; simp only; omega
 have hx : ∀ x ∈ kids.map normNet,netFits x := by
  intro x hx
  obtain ⟨y,hy,rfl⟩ := List.mem_map.1 hx
  have : netSize y <= sizes kids := mem_le_sum netSize kids y hy
  exact ih y hy (hp.2.2.2 y hy) (by omega)
 split
 ·refine block_fits hp.1 (flat_fits hx) ?_
  have h1 := len_sizes (flatKids k (kids.map normNet))
  have h2 := flatKids_sizes k (kids.map normNet)
  have h3 := norm_sizes kids
  omega
 ·exact (netFits_eq _ _ _).2 ⟨hp.1,hp.2.1,by rw [List.length_map]; exact hp.2.2.1,hx⟩
/-- The net of an arm,as it begins. -/
def netOf (n : Net) : Net := if netNone n then n else normNet n
theorem netOf_fits {n : Net} (h : netFits n) (hs : nsz n <= 900000) : netFits (netOf n) := by
 unfold netOf
 split
 ·exact h
 ·exact norm_fits1 n h (by have := size_le n; omega)
theorem netOf_size (n : Net) : nsz (netOf n) <= nsz n := by
 unfold netOf
 split
 ·exact Nat.le_refl _
 ·rename_i h
  have e : nsz n = netSize n := if_neg h
  rw [e]
  exact Nat.le_trans (nsz_le _) (normNet_size n)
theorem normArm_of (n : Net) (c : List Elem) (kids : List Arm) : normArm ⟨n,c,kids⟩ = joined ⟨netOf n,c,kids.map normArm⟩ := normArm_eq n c kids
theorem begin_ok {n : Net} {c : List Elem} {kids : List Arm} (hf : armFits ⟨n,c,kids⟩) (hs : armSize ⟨n,c,kids⟩ <= 900000) (hk : ∀ x ∈ kids,midOk (armSize x) (normArm x)) : midOk (armSize ⟨n,c,kids⟩) ⟨netOf n,c,kids.map normArm⟩ := by
 have hp := (armFits_eq _ _ _).1 hf
 rw [armSize_nsz] at hs ⊢
 have h1 := netOf_size n
 have h2 : ksize (kids.map normArm) <= ksize kids := by
  clear hf hs hp
  induction kids with
  | nil => simp
  | cons x r ih =>
   have a := (hk x (by simp)).2
   have b := ih (fun y hy => hk y (List.mem_cons_of_mem _ hy))
   simp only [ksize,List.map_cons,List.sum_cons] at b ⊢
   omega
 refine ⟨(armFits_eq _ _ _).2 ⟨netOf_fits hp.1 (by omega),hp.2.1,hp.2.2.1,by rw [List.length_map]; exact hp.2.2.2.1,fun x hx => ?_⟩,by rw [armSize_nsz]; omega⟩
 obtain ⟨y,hy,rfl⟩ := List.mem_map.1 hx
 exact (hk y hy).1
theorem normArm_ok (a : Arm) : armFits a -> armSize a <= 900000 -> midOk (armSize a) (normArm a) := by
 refine arm_ind (fun a => armFits a -> armSize a <= 900000 -> midOk (armSize a) (normArm a)) ?_ a
 intro n c kids ih hf hs
 rw [normArm_of]
 have hp := (armFits_eq _ _ _).1 hf
 refine joined_ok hs _ (begin_ok hf hs (fun x hx => ih x hx (hp.2.2.2.2 x hx) ?_))
 have : armSize x <= ksize kids := mem_le_sum armSize kids x hx
 rw [armSize_nsz] at hs
 omega
/-- Every net of an arm is none,or in normal form with nothing wrong. -/
def armFine : Arm -> Prop
 | ⟨n,_,kids⟩ => fineOr n ∧ ∀ p ∈ kids.map armFine,p
theorem armFine_eq (n : Net) (c : List Elem) (kids : List Arm) : armFine ⟨n,c,kids⟩ ↔ fineOr n ∧ ∀ x ∈ kids,armFine x := by rw [armFine,all_map]
theorem join_fine {n : Net} {cs : List Elem} {kid : Arm} (h : armFine ⟨n,cs,[kid]⟩) : armFine ⟨series n kid.net,cs ++ kid.coils,kid.kids⟩ ∧ fineOr n ∧ fineOr kid.net := by
 obtain ⟨kn,kc,kk⟩ := kid
 have h1 := (armFine_eq _ _ _).1 h
 have h2 := (armFine_eq _ _ _).1 (h1.2 ⟨kn,kc,kk⟩ (by simp))
 exact ⟨(armFine_eq _ _ _).2 ⟨series_fine h1.1 h2.1,h2.2⟩,h1.1,h2.1⟩
theorem joinArm_fine : ∀ (f : Nat) (b : Arm),armFine b -> armFine (joinArm f b)
 | 0,b,h => h
 | f + 1,⟨n,cs,kids⟩,h => by
  rw [joinArm]
  split
  ·rename_i kid e
   simp only at e
   subst e
   split
   ·exact joinArm_fine f _ (join_fine h).1
   ·exact h
  ·exact h
theorem joined_fine (b : Arm) (h : armFine b) : armFine (joined b) := joinArm_fine _ b h
theorem netOf_fine {n : Net} (h : netNone n = true ∨ netWrong n = 0) : fineOr (netOf n) := by
 unfold netOf
 split
 ·rename_i h1; exact .inl h1
 ·rename_i h1
  rcases h with h | h
  ·exact absurd h h1
  ·exact .inr (norm_fine h)
/-- Nothing is wrong with the nets of an arm. -/
def armRight : Arm -> Prop
 | ⟨n,_,kids⟩ => (netNone n = true ∨ netWrong n = 0) ∧ ∀ p ∈ kids.map armRight,p
theorem armRight_eq (n : Net) (c : List Elem) (kids : List Arm) : armRight ⟨n,c,kids⟩ ↔ (netNone n = true ∨ netWrong n = 0) ∧ ∀ x ∈ kids,armRight x := by rw [armRight,all_map]
theorem normArm_fine (a : Arm) : armRight a -> armFine (normArm a) := by
 refine arm_ind (fun a => armRight a -> armFine (normArm a)) ?_ a
 intro n c kids ih h
 have hp := (armRight_eq _ _ _).1 h
 rw [normArm_of]
 refine joined_fine _ ((armFine_eq _ _ _).2 ⟨netOf_fine hp.1,fun x hx => ?_⟩)
 obtain ⟨y,hy,rfl⟩ := List.mem_map.1 hx
 exact ih y hy (hp.2 y hy)
theorem armRight_of (a : Arm) : armWrong a = 0 -> armRight a := by
 refine arm_ind (fun a => armWrong a = 0 -> armRight a) ?_ a
 intro n c kids ih h
 rw [armWrong_eq] at h
 have h0 : armOwnWrong ⟨n,c,kids⟩ = 0 := by
  have := armOwnWrong_bound ⟨n,c,kids⟩
  split at h <;> omega
 rw [if_neg (by omega)] at h
 refine (armRight_eq _ _ _).2 ⟨?_,fun x hx => ih x hx ?_⟩
 ·unfold armOwnWrong at h0
  simp only at h0
  cases hn : netNone n with
  | true => exact .inl rfl
  | false =>
   refine .inr ?_
   have := netWrong_bound n
   simp only [hn] at h0
   split at h0
   ·simp at *; omega
   ·simp at *; omega
 ·exact firstPos_zero _ (fun y hy => by obtain ⟨z,_,rfl⟩ := List.mem_map.1 hy; exact (armWrong_bound z).1) h _ (List.mem_map.2 ⟨x,hx,rfl⟩)
def normMake (l : List Arm) : List Arm := if (treeCheck l).1 = 0 then l.map normArm else []
theorem firstRung_zero : ∀ (l : List Arm) (k : Nat),(firstRung l k).1 = 0 -> (firstRung l k).2 = 0 ∧ ∀ x ∈ l,rungWrong x = 0
 | [],_,_ => ⟨rfl,fun x hx => by cases hx⟩
 | a :: r,k,h => by
  rw [firstRung] at h ⊢
  have hb := rungWrong_bound a
  by_cases h0 : 0 < rungWrong a
  ·rw [if_pos h0] at h; simp only at h; omega
  ·rw [if_neg h0] at h ⊢
   obtain ⟨h1,h2⟩ := firstRung_zero r (k + 1) h
   refine ⟨h1,fun x hx => ?_⟩
   rcases List.mem_cons.1 hx with rfl | hx
   ·omega
   ·exact h2 x hx
theorem rung_zero {a : Arm} (h : rungWrong a = 0) : netNone a.net = false ∧ armWrong a = 0 := by
 unfold rungWrong at h
 cases hn : netNone a.net with
 | true => rw [hn] at h; simp at h
 | false => rw [hn] at h; exact ⟨rfl,by simpa using h⟩
theorem check_zero {l : List Arm} (h : (treeCheck l).1 = 0) : (treeCheck l).2 = 0 ∧ l.length <= 40 ∧ treeSize l <= 400 ∧ ∀ x ∈ l,netNone x.net = false ∧ armWrong x = 0 := by
 unfold treeCheck at h ⊢
 by_cases h0 : 40 < l.length ∨ 400 < treeSize l
 ·rw [if_pos h0] at h; simp at h
 ·rw [if_neg h0] at h ⊢
  obtain ⟨h1,h2⟩ := firstRung_zero l 0 h
  exact ⟨h1,by omega,by omega,fun x hx => rung_zero (h2 x hx)⟩
theorem firstRung_bound : ∀ (l : List Arm) (k : Nat),0 <= (firstRung l k).1 ∧ (firstRung l k).1 <= 5
 | [],_ => by rw [firstRung]; simp
 | a :: r,k => by
  rw [firstRung]
  have hb := rungWrong_bound a
  split
  ·exact hb
  ·exact firstRung_bound r (k + 1)
theorem check_bound (l : List Arm) : 0 <= (treeCheck l).1 ∧ (treeCheck l).1 <= 5 := by
 unfold treeCheck
 split
 ·simp
 ·exact firstRung_bound l 0
theorem arm_le_tree {l : List Arm} {x : Arm} (hx : x ∈ l) : armSize x <= treeSize l := mem_le_sum armSize l x hx
theorem rung_right {l : List Arm} (h : (treeCheck l).1 = 0) {x : Arm} (hx : x ∈ l) : armRight x ∧ armSize x <= 400 := by
 obtain ⟨_,_,h2,h3⟩ := check_zero h
 exact ⟨armRight_of x (h3 x hx).2,Nat.le_trans (arm_le_tree hx) h2⟩
end Stil
/- M15,L8: texts put together. -/
/- Plain facts on a rung of one net and one coil: what is asked of its normal form. -/
namespace Stil
/-- Within,no net of its own kind and at least two,but for contacts and turned ones. -/
def wn : Net -> Bool
 | ⟨k,_,kids⟩ => kids.all (fun x => !(x.kind == k && k != 4)) && (kids.map wn).all id && (k == 1 || k == 4 || decide (1 < kids.length))
theorem wn_eq (n : Net) : wn n = (n.kids.all (fun x => !(x.kind == n.kind && n.kind != 4) && wn x) && (n.kind == 1 || n.kind == 4 || decide (1 < n.kids.length))) := by
 obtain ⟨k,e,kids⟩ := n
 rw [wn]
 congr 1
 rw [Bool.eq_iff_iff]
 simp only [Bool.and_eq_true,List.all_eq_true,List.mem_map,id_eq,forall_exists_index,and_imp,forall_apply_eq_imp_iff₂]
 constructor
 ·rintro ⟨h1,h2⟩ x hx
  exact ⟨h1 x hx,h2 x hx⟩
 ·intro h
  exact ⟨fun x hx => (h x hx).1,fun x hx => (h x hx).2⟩
theorem wn_fine (n : Net) : isNorm n -> netWrong n = 0 -> wn n = true := by
 refine net_ind (fun n => isNorm n -> netWrong n = 0 -> wn n = true) ?_ n
 intro k e kids ih hn hw
 have h1 := (isNorm_iff _).1 hn
 simp only at h1
 rw [wn_eq]
 simp only [Bool.and_eq_true,List.all_eq_true,Bool.or_eq_true,beq_iff_eq,decide_eq_true_eq,Bool.not_eq_true',Bool.and_eq_false_iff,beq_eq_false_iff_ne,ne_eq,bne_eq_false_iff_eq]
 rcases right_parts hw with ⟨hk,h2⟩ | ⟨hk,h2,h3⟩ | ⟨hk,_,x,h2,h3⟩
 ·subst h2
  exact ⟨fun x hx => (by cases hx),.inl (.inl hk)⟩
 ·obtain ⟨h4,h5⟩ := h1.1 hk
  exact ⟨fun x hx => ⟨.inl (h5 x hx),ih x hx (h1.2 x hx) (h3 x hx)⟩,.inr (by omega)⟩
 ·subst h2
  refine ⟨fun y hy => ?_,.inl (.inr hk)⟩
  have e := List.mem_singleton.1 hy
  subst e
  exact ⟨.inr hk,ih y hy (h1.2 y hy) h3⟩
/-- The rung of a net and one coil. -/
def outY : Elem := ⟨21,[⟨2,0,0⟩]⟩
def rungOf (n : Net) : Arm := ⟨n,[outY],[]⟩
theorem outY_coil : isCoil outY.op outY.args = true := by decide
theorem rung_size (n : Net) : treeSize [rungOf n] = 2 + nsz n := by
 have e : treeSize [rungOf n] = armSize (rungOf n) := by simp [treeSize]
 rw [e,rungOf,armSize_nsz]
 simp [ksize]
theorem rung_wrong (n : Net) : rungWrong (rungOf n) = if netNone n then 4 else netWrong n := by
 unfold rungWrong rungOf
 simp only
 split
 ·rfl
 ·rename_i h
  have hn : netNone n = false := by simpa using h
  have hb := netWrong_bound n
  rw [armWrong_eq]
  unfold armOwnWrong coilsBad
  have hc : ([outY].any fun c => !isCoil c.op c.args) = false := by rw [List.any_cons,outY_coil]; rfl
  simp only [hn,hc,List.map_nil,firstPos]
  by_cases h0 : 0 < netWrong n
  ·simp [h0]
  ·have : netWrong n = 0 := by omega
   simp [this]
theorem rung_check (n : Net) : (treeCheck [rungOf n]).1 = if 400 < 2 + nsz n then 1 else if netNone n then 4 else netWrong n := by
 have hb := netWrong_bound n
 unfold treeCheck
 rw [rung_size]
 simp only [List.length_cons,List.length_nil]
 by_cases h : 400 < 2 + nsz n
 ·rw [if_pos (.inr h),if_pos h]
 ·rw [if_neg (by omega),if_neg h,firstRung,rung_wrong]
  by_cases hn : netNone n = true
  ·simp [hn]
  ·have hn' : netNone n = false := by simpa using hn
   simp only [hn',Bool.false_eq_true,if_false]
   by_cases h0 : 0 < netWrong n
   ·rw [if_pos h0]
   ·rw [if_neg h0,firstRung]
    simp only
    omega
/-- A rung that is not accepted: too large by one or two,or there is no normal form. -/
theorem rung_refused {n : Net} (h : (treeCheck [rungOf n]).1 ≠ 0) : treeSize [rungOf n] = 401 ∨ treeSize [rungOf n] = 402 ∨ normTop n = none0 := by
 rw [rung_size]
 rw [rung_check] at h
 have hb := netWrong_bound n
 unfold normTop
 by_cases hn : netNone n = true
 ·right; right
  have e := none_eq hn
  rw [e]
  have h2 : 0 < netWrong none0 := by unfold none0; rw [netWrong_eq]; decide
  rw [if_pos (.inr h2)]
  rfl
 ·have hn' : netNone n = false := by simpa using hn
  have hs : nsz n = netSize n := if_neg hn
  rw [hs] at h ⊢
  by_cases h1 : 400 < netSize n ∨ 0 < netWrong n
  ·right; right
   rw [if_pos h1]
   rfl
  ·have h2 : netWrong n = 0 := by omega
   by_cases h3 : 400 < 2 + netSize n
   ·omega
   ·rw [if_neg h3,if_neg hn,h2] at h
    exact absurd rfl h
/-- A rung that is accepted: its normal form is that of its net,and is as asked. -/
theorem rung_taken {n : Net} (h : (treeCheck [rungOf n]).1 = 0) : normMake [rungOf n] = [rungOf (normTop n)] ∧ wn (normTop n) = true := by
 have h0 := h
 rw [rung_check] at h
 have hb := netWrong_bound n
 by_cases h1 : 400 < 2 + nsz n
 ·rw [if_pos h1] at h; omega
 ·rw [if_neg h1] at h
  by_cases hn : netNone n = true
  ·rw [if_pos hn] at h; omega
  ·rw [if_neg hn] at h
   have hs : nsz n = netSize n := if_neg hn
   have e : normTop n = normNet n := by unfold normTop; rw [if_neg (by omega)]
   rw [e]
   refine ⟨?_,wn_fine _ (norm_isNorm n) (norm_right n h)⟩
   unfold normMake
   rw [if_pos h0]
   simp only [List.map_cons,List.map_nil,rungOf]
   rw [normArm_of,List.map_nil,joined_stop _ (fun kid hk => by cases hk)]
   have e2 : netOf n = normNet n := if_neg hn
   rw [e2]
end Stil
/- The laws' helper that says whether a net is as a normal form is. -/
namespace Go.Proofs.YtenoanhonjdpjaaGreatDoor
open Go.RowKit Go.Sort Go.BigFrame
set_option maxHeartbeats 2000000 in
set_option maxRecDepth 100000 in
theorem l_wnNet (n : Stil.Net) : ∀ (av kv : Value) (w : World),DevsAt w av n.one.args -> NetsAt w kv n.kids -> Stil.netFits n →
  Calls Tryz.prog 28 #[.agg #[.int .i64 n.kind,.int .i64 n.one.op,av,kv]] w fun e w' => e = .returned (.bool (Stil.wn n)) ∧ Below w.heap.size w w' := by
 induction n using Stil.net_ind with
 | h k e kids ih =>
  intro av kv w hav hkv hft
  simp only at hav hkv
  obtain ⟨_,he,hf3,hf4⟩ := (Stil.netFits_eq _ _ _).1 hft
  obtain ⟨_,hal,hdf⟩ := he
  have IH : Hid (∀ x ∈ kids,∀ (av kv : Value) (w : World),DevsAt w av x.one.args -> NetsAt w kv x.kids →
   Calls Tryz.prog 28 #[.agg #[.int .i64 x.kind,.int .i64 x.one.op,av,kv]] w fun e w' => e = .returned (.bool (Stil.wn x)) ∧ Below w.heap.size w w') := fun x hx av kv w h1 h2 => ih x hx av kv w h1 h2 (hf4 x hx)
  clear ih hf4 hft
  obtain ⟨a,cap,rfl,hc⟩ := hkv
  have HC : Hid (∀ i (h : i < kids.length),∃ b o,a = some ⟨b,o,none⟩ ∧ b < w.heap.size ∧ NetAt w b (o + i * 4) kids[i]) := hc
  obtain ⟨aa,acap,rfl,_⟩ := hav
  have HZ : Hid (Stil.wn ⟨k,e,kids⟩ = (kids.all (fun x => !(x.kind == k && k != 4) && Stil.wn x) && (k == 1 || k == 4 || decide (1 < kids.length)))) := Stil.wn_eq _
  clear hc hdf
  obtain ⟨lk,hlk⟩ : ∃ lk,lk = kids.length := ⟨_,rfl⟩
  have HLK : Hid (lk = kids.length) := hlk
  rw [← hlk] at hf3 HZ ⊢
  obtain ⟨T,hT⟩ : ∃ T,T = Stil.wn ⟨k,e,kids⟩ := ⟨_,rfl⟩
  rw [← hT] at HZ ⊢
  clear hlk hT
  go_enter Tryz.func28,Tryz.ntmps28
  go_wp2
  go_loopw [3] (fun i wr => ∃ j : Nat,j <= lk ∧ i = .int .i64 j ∧ (kids.take j).all (fun x => !(x.kind == k && k != 4) && Stil.wn x) = true ∧ Below (w.heap.size + 1) (w.alloc (.cells #[.int .i64 k,.int .i64 e.op,.slice aa e.args.length acap,.slice a lk cap] 33)) wr) (fun i _ => lk - (intOf i).toNat)
  case atStart => exact ⟨0,by omega,rfl,rfl,Below.refl _ _⟩
  case round =>
   obtain ⟨j,hj,rfl,hfp,hB⟩ := hrel
   have HP : Hid ((kids.take j).all (fun x => !(x.kind == k && k != 4) && Stil.wn x) = true) := hfp
   clear hfp
   have hz : w.heap.size < wr.heap.size := by have := hB.size; simp at this; omega
   have c0 : wr.cell? ⟨w.heap.size,0,none⟩ = some (.int .i64 k) := clA hB
   have f0 : wr.frozen? ⟨w.heap.size,0,none⟩ = false := frA hB
   have c1 : wr.cell? ⟨w.heap.size,1,none⟩ = some (.int .i64 e.op) := clA hB
   have f1 : wr.frozen? ⟨w.heap.size,1,none⟩ = false := frA hB
   have c2 : wr.cell? ⟨w.heap.size,2,none⟩ = some (.slice aa e.args.length acap) := clA hB
   have f2 : wr.frozen? ⟨w.heap.size,2,none⟩ = false := frA hB
   have c3 : wr.cell? ⟨w.heap.size,3,none⟩ = some (.slice a lk cap) := clA hB
   have f3 : wr.frozen? ⟨w.heap.size,3,none⟩ = false := frA hB
   have hbw : Below w.heap.size w wr := (below_alloc _ _).trans (hB.mono (by omega))
   by_cases hlt : j < lk
   ·have hlt' : j < kids.length := by have := HLK.out; omega
    obtain ⟨b,o,rfl,hbl,hn⟩ := HC.out j hlt'
    obtain ⟨x0,x1,av,kv,x2,x3,hav,hkv⟩ := (NetAt.below hbw _ _ _ hn hbl).open
    have HI : Hid (∀ W,Below wr.heap.size wr W -> Calls Tryz.prog 28 #[.agg #[.int .i64 kids[j].kind,.int .i64 kids[j].one.op,av,kv]] W fun e w' => e = .returned (.bool (Stil.wn kids[j])) ∧ Below W.heap.size W w') := fun W hW => IH.out kids[j] (List.getElem_mem hlt') av kv W (hav.below hW) (hkv.below hW)
    have HS : Hid ((kids.take (j + 1)).all (fun x => !(x.kind == k && k != 4) && Stil.wn x) = ((kids.take j).all (fun x => !(x.kind == k && k != 4) && Stil.wn x) && (!(kids[j].kind == k && k != 4) && Stil.wn kids[j]))) := by
     show _ = _
     rw [List.take_succ_eq_append_getElem hlt',List.all_append]
     simp
    have HN : Hid ((!(kids[j].kind == k && k != 4) && Stil.wn kids[j]) = false -> T = false) := by
     intro h
     rw [HZ.out]
     have : (kids.all fun x => !(x.kind == k && k != 4) && Stil.wn x) = false := by
      rw [List.all_eq_false]
      exact ⟨_,List.getElem_mem hlt',by rw [h]; exact Bool.false_ne_true⟩
     rw [this]; rfl
    obtain ⟨s,hs⟩ : ∃ s,s = Stil.wn kids[j] := ⟨_,rfl⟩
    obtain ⟨x,hx⟩ : ∃ x,x = kids[j] := ⟨_,rfl⟩
    rw [← hs] at HI HS HN
    rw [← hx] at HI x0 x1 HS HN
    obtain ⟨aa',acap',rfl,_⟩ := hav
    obtain ⟨a',cap',rfl,_⟩ := hkv
    clear hs hx hn
    have fin : (!(x.kind == k && k != 4) && s) = true -> (∃ j' : Nat,j' = j + 1 ∧ (kids.take (j + 1)).all (fun x => !(x.kind == k && k != 4) && Stil.wn x) = true) := fun h => ⟨_,rfl,by rw [HS.out,h,HP.out]; rfl⟩
    have HF : Hid ((!(x.kind == k && k != 4) && s) = true -> (kids.take (j + 1)).all (fun x => !(x.kind == k && k != 4) && Stil.wn x) = true) := fun h => by rw [HS.out,h,HP.out]; rfl
    clear fin HS
    cases t1 : (x.kind == k)
    ·cases s
     ·go_upto_region 4 with fail
      have k0 := cell_regrown x0
      have k1 := cell_regrown x1
      have k2 := cell_regrown x2
      have k3 := cell_regrown x3
      have r0 := cell_regrown c0
      have r3 := cell_regrown c3
      clear x0 x1 x2 x3 c0 c1 c2 c3 f0 f1 f2 f3
      refine wp_region_quiet_below (by kernel_rfl) (by kernel_rfl) ?_
      repeat (go_big_quiet_step ((exact Calls.regrown_of (HI.out _ (bl_grow (Below.refl _ _) _ _)))))
      refine wpQuiet_nil ?_
      intro _ hw'
      obtain ⟨⟨dq,osq⟩,hw''⟩ := hw'
      subst hw''
      go_wp2
      go_ret
      exact ⟨ret_bool (by rw [HN.out (by rw [t1]; rfl)]),bl_grow hbw _ _⟩
     ·go_upto_region 4 with fail
      have k0 := cell_regrown x0
      have k1 := cell_regrown x1
      have k2 := cell_regrown x2
      have k3 := cell_regrown x3
      have r0 := cell_regrown c0
      have r3 := cell_regrown c3
      clear x0 x1 x2 x3 c0 c1 c2 c3 f0 f1 f2 f3
      refine wp_region_quiet_below (by kernel_rfl) (by kernel_rfl) ?_
      repeat (go_big_quiet_step ((exact Calls.regrown_of (HI.out _ (bl_grow (Below.refl _ _) _ _)))))
      refine wpQuiet_nil ?_
      intro _ hw'
      obtain ⟨⟨dq,osq⟩,hw''⟩ := hw'
      subst hw''
      go_wp2
      exact ⟨⟨j + 1,by omega,by go_num,HF.out (by rw [t1]; rfl),hB.trans ((below_regrown _ _ _).mono hz)⟩,by simp [intOf]; omega⟩
    ·cases t2 : (k != 4)
     ·cases s
      ·go_upto_region 4 with fail
       have k0 := cell_regrown x0
       have k1 := cell_regrown x1
       have k2 := cell_regrown x2
       have k3 := cell_regrown x3
       have r0 := cell_regrown c0
       have r3 := cell_regrown c3
       clear x0 x1 x2 x3 c0 c1 c2 c3 f0 f1 f2 f3
       refine wp_region_quiet_below (by kernel_rfl) (by kernel_rfl) ?_
       repeat (go_big_quiet_step ((exact Calls.regrown_of (HI.out _ (bl_grow (Below.refl _ _) _ _)))))
       refine wpQuiet_nil ?_
       intro _ hw'
       obtain ⟨⟨dq,osq⟩,hw''⟩ := hw'
       subst hw''
       go_wp2
       go_ret
       exact ⟨ret_bool (by rw [HN.out (by rw [t1,t2]; rfl)]),bl_grow hbw _ _⟩
      ·go_upto_region 4 with fail
       have k0 := cell_regrown x0
       have k1 := cell_regrown x1
       have k2 := cell_regrown x2
       have k3 := cell_regrown x3
       have r0 := cell_regrown c0
       have r3 := cell_regrown c3
       clear x0 x1 x2 x3 c0 c1 c2 c3 f0 f1 f2 f3
       refine wp_region_quiet_below (by kernel_rfl) (by kernel_rfl) ?_
       repeat (go_big_quiet_step ((exact Calls.regrown_of (HI.out _ (bl_grow (Below.refl _ _) _ _)))))
       refine wpQuiet_nil ?_
       intro _ hw'
       obtain ⟨⟨dq,osq⟩,hw''⟩ := hw'
       subst hw''
       go_wp2
       exact ⟨⟨j + 1,by omega,by go_num,by (have hf := HF.out (by rw [t1,t2]; rfl); rw [t2] at hf; exact hf),hB.trans ((below_regrown _ _ _).mono hz)⟩,by simp [intOf]; omega⟩
     ·go_upto_region 4 with fail
      have k0 := cell_regrown x0
      have r0 := cell_regrown c0
      have r3 := cell_regrown c3
      clear x0 x1 x2 x3 c0 c1 c2 c3 f0 f1 f2 f3
      refine wp_region_quiet_below (by kernel_rfl) (by kernel_rfl) ?_
      repeat (go_big_quiet_step ((exact Calls.regrown_of (HI.out _ (bl_grow (Below.refl _ _) _ _)))))
      refine wpQuiet_nil ?_
      intro _ hw'
      obtain ⟨⟨dq,osq⟩,hw''⟩ := hw'
      subst hw''
      go_wp2
      go_ret
      exact ⟨ret_bool (by rw [HN.out (by rw [t1,t2]; rfl)]),bl_grow hbw _ _⟩
   ·have HE : Hid (T = (k == 1 || k == 4 || decide (1 < lk))) := by
     show _ = _
     have h := HP.out
     rw [List.take_of_length_le (by have := HLK.out; omega)] at h
     rw [HZ.out,h]; rfl
    cases t1 : (k == 1)
    ·cases t2 : (k == 4)
     ·have hz : decide (1 < (lk : Int)) = decide (1 < lk) := by rw [decide_eq_decide]; omega
      go_wp2
      go_ret
      exact ⟨ret_bool (by rw [HE.out,t1,t2,← hz]; rfl),blB⟩
     ·go_wp2
      go_ret
      exact ⟨ret_bool (by rw [HE.out,t1,t2]; rfl),blB⟩
    ·go_wp2
     go_ret
     exact ⟨ret_bool (by rw [HE.out,t1]; rfl),blB⟩
end Go.Proofs.YtenoanhonjdpjaaGreatDoor
/- M13,M14: texts put together. -/
/- Plain model of chapter 7: bits and forks. -/
namespace Stil
/-- The greatest of some numbers and of b. -/
def mostOf (b : Nat) (l : List Nat) : Nat := l.foldl max b
theorem mostOf_snoc (b : Nat) (l : List Nat) (x : Nat) : mostOf b (l ++ [x]) = max (mostOf b l) x := by simp [mostOf]
theorem mostOf_append (b : Nat) (l r : List Nat) : mostOf b (l ++ r) = mostOf (mostOf b l) r := by simp [mostOf]
theorem mostOf_max : ∀ (l : List Nat) (b c : Nat),mostOf (max b c) l = max b (mostOf c l)
 | [],_,_ => rfl
 | x :: r,b,c => by
  show mostOf (max (max b c) x) r = max b (mostOf (max c x) r)
  rw [Nat.max_assoc,mostOf_max r]
theorem mostOf_zero (l : List Nat) (b : Nat) : mostOf b l = max b (mostOf 0 l) := by
 have := mostOf_max l b 0
 rwa [Nat.max_zero] at this
theorem mostOf_le : ∀ (l : List Nat) (b c : Nat),b <= c -> (∀ x ∈ l,x <= c) -> mostOf b l <= c
 | [],_,_,h,_ => h
 | x :: r,b,c,h,hx => mostOf_le r (max b x) c (Nat.max_le.2 ⟨h,hx x (by simp)⟩) (fun y hy => hx y (List.mem_cons_of_mem _ hy))
theorem mostOf_take {b : Nat} {l : List Nat} {j : Nat} (h : j < l.length) : mostOf b (l.take (j + 1)) = max (mostOf b (l.take j)) l[j] := by
 rw [List.take_succ_eq_append_getElem h,mostOf_snoc]
/-- What the kids need,one more but for the last. -/
def bumpAt (n i x : Nat) : Nat := if i + 1 < n then x + 1 else x
def bump (fs : List Nat) : List Nat := fs.mapIdx (fun i x => bumpAt fs.length i x)
theorem bump_len (fs : List Nat) : (bump fs).length = fs.length := by simp [bump]
theorem bump_get (fs : List Nat) (i : Nat) (h : i < (bump fs).length) : (bump fs)[i] = bumpAt fs.length i (fs[i]'(by rwa [bump_len] at h)) := by simp [bump]
theorem bump_snoc (fs : List Nat) (z : Nat) : bump (fs ++ [z]) = fs.map (· + 1) ++ [z] := by
 apply List.ext_getElem
 ·simp [bump]
 ·intro i h1 h2
  rw [bump_get]
  unfold bumpAt
  have h1' : i < fs.length + 1 := by simpa [bump_len] using h1
  by_cases hi : i < fs.length
  ·rw [if_pos (by rw [List.length_append,List.length_singleton]; omega),List.getElem_append_left hi,List.getElem_append_left (by simpa using hi),List.getElem_map]
  ·obtain rfl : i = fs.length := by omega
   rw [if_neg (by rw [List.length_append,List.length_singleton]; omega)]
   simp
def forks : Arm -> Nat
 | ⟨_,_,kids⟩ => mostOf 0 (bump (kids.map forks))
theorem forks_eq (n : Net) (c : List Elem) (kids : List Arm) : forks ⟨n,c,kids⟩ = mostOf 0 (bump (kids.map forks)) := by rw [forks]
theorem forks_nil (n : Net) (c : List Elem) : forks ⟨n,c,[]⟩ = 0 := by rw [forks_eq]; rfl
theorem forks_last (n : Net) (c : List Elem) (init : List Arm) (z : Arm) : forks ⟨n,c,init ++ [z]⟩ = mostOf (forks z) (init.map (fun k => 1 + forks k)) := by
 rw [forks_eq,List.map_append,List.map_singleton,bump_snoc,mostOf_snoc,mostOf_zero _ (forks z),Nat.max_comm]
 congr 2
 rw [List.map_map]
 refine List.map_congr_left (fun x _ => ?_)
 show forks x + 1 = 1 + forks x
 omega
theorem forks_le (a : Arm) : forks a <= armSize a := by
 refine arm_ind (fun a => forks a <= armSize a) ?_ a
 intro n c kids ih
 rw [forks_eq]
 refine mostOf_le _ _ _ (Nat.zero_le _) (fun x hx => ?_)
 obtain ⟨i,hi,rfl⟩ := List.getElem_of_mem hx
 rw [bump_get]
 have hi' : i < kids.length := by rw [bump_len,List.length_map] at hi; exact hi
 rw [List.getElem_map]
 have h1 := ih kids[i] (List.getElem_mem hi')
 have h2 : armSize kids[i] <= ksize kids := mem_le_sum armSize kids _ (List.getElem_mem hi')
 rw [armSize_nsz]
 unfold bumpAt
 split <;> omega
/-- How many bits a net needs,beginning; and taken in. -/
def takeOf (k : Int) (b : Nat) : Nat := if k = 1 then 1 else 1 + b
def beginOf (k : Int) (ks : List Int) (bs : List Nat) : Nat := if k = 1 then 1 else mostOf (bs.headD 0) ((List.zipWith takeOf ks bs).drop 1)
def beginBits : Net -> Nat
 | ⟨k,_,kids⟩ => beginOf k (kids.map Net.kind) (kids.map beginBits)
def takeBits (n : Net) : Nat := takeOf n.kind (beginBits n)
theorem beginBits_eq (k : Int) (e : Elem) (kids : List Net) : beginBits ⟨k,e,kids⟩ = beginOf k (kids.map Net.kind) (kids.map beginBits) := by rw [beginBits]
theorem begin_one (e : Elem) (kids : List Net) : beginBits ⟨1,e,kids⟩ = 1 := by rw [beginBits_eq]; rfl
theorem begin_kids {k : Int} (e : Elem) (x : Net) (r : List Net) (h : k ≠ 1) : beginBits ⟨k,e,x :: r⟩ = mostOf (beginBits x) (r.map takeBits) := by
 rw [beginBits_eq]
 unfold beginOf
 rw [if_neg h]
 simp only [List.map_cons,List.headD_cons,List.zipWith_cons_cons,List.drop_succ_cons,List.drop_zero]
 congr 1
 rw [List.zipWith_map,List.zipWith_self]
 rfl
theorem takeBits_le {n : Net} {c : Nat} (h : beginBits n <= c) : takeBits n <= 1 + c := by
 unfold takeBits takeOf
 split <;> omega
theorem beginBits_le (n : Net) : beginBits n <= netSize n := by
 refine net_ind (fun n => beginBits n <= netSize n) ?_ n
 intro k e kids ih
 rw [netSize_kids]
 simp only
 by_cases hk : k = 1
 ·rw [hk,begin_one]; omega
 ·cases kids with
  | nil =>
   rw [beginBits_eq]
   unfold beginOf
   rw [if_neg hk]
   simp [mostOf]
  | cons x r =>
   rw [begin_kids e x r hk]
   have hx : ∀ y ∈ x :: r,netSize y <= sizes (x :: r) := fun y hy => mem_le_sum netSize _ y hy
   refine mostOf_le _ _ _ (Nat.le_trans (ih x (by simp)) (by have := hx x (by simp); omega)) (fun z hz => ?_)
   obtain ⟨y,hy,rfl⟩ := List.mem_map.1 hz
   have h1 := takeBits_le (ih y (List.mem_cons_of_mem _ hy))
   have h2 := hx y (List.mem_cons_of_mem _ hy)
   omega
/-- What is taken in where a kid's net stands. -/
def behindOf (n : Net) : List Net := if netNone n then [] else if n.kind = 2 then n.kids else [n]
def kidNeed (n : Net) (t : Nat) : Nat := mostOf t ((behindOf n).map takeBits)
def tailBits : Arm -> Nat
 | ⟨_,_,kids⟩ => mostOf 1 (List.zipWith kidNeed (kids.map Arm.net) (kids.map tailBits))
theorem tailBits_eq (n : Net) (c : List Elem) (kids : List Arm) : tailBits ⟨n,c,kids⟩ = mostOf 1 (kids.map (fun k => kidNeed k.net (tailBits k))) := by
 rw [tailBits,List.zipWith_map,List.zipWith_self]
theorem behind_le (n : Net) : ∀ x ∈ behindOf n,netSize x <= nsz n := by
 intro x hx
 unfold behindOf at hx
 split at hx
 ·cases hx
 ·rename_i h
  have e : nsz n = netSize n := if_neg h
  rw [e]
  split at hx
  ·rw [netSize_kids n]
   have : netSize x <= sizes n.kids := mem_le_sum netSize _ x hx
   omega
  ·rw [List.mem_singleton.1 hx]; exact Nat.le_refl _
theorem kidNeed_le {n : Net} {t c : Nat} (h1 : t <= c) (h2 : 1 + nsz n <= c) : kidNeed n t <= c := by
 refine mostOf_le _ _ _ h1 (fun z hz => ?_)
 obtain ⟨y,hy,rfl⟩ := List.mem_map.1 hz
 have a1 := takeBits_le (beginBits_le y)
 have a2 := behind_le n y hy
 omega
theorem tailBits_le (a : Arm) : tailBits a <= armSize a := by
 refine arm_ind (fun a => tailBits a <= armSize a) ?_ a
 intro n c kids ih
 rw [tailBits_eq,armSize_nsz]
 refine mostOf_le _ _ _ (by omega) (fun z hz => ?_)
 obtain ⟨k,hk,rfl⟩ := List.mem_map.1 hz
 have h1 := ih k hk
 have h2 : armSize k <= ksize kids := mem_le_sum armSize kids k hk
 refine kidNeed_le (by omega) ?_
 obtain ⟨kn,kc,kk⟩ := k
 rw [armSize_nsz] at h2
 simp only
 omega
def rungBits (a : Arm) : Nat := max (beginBits a.net) (tailBits a)
def wayBits (l : List Arm) : Nat := mostOf 0 ((normMake l).map rungBits)
def wayForks (l : List Arm) : Nat := mostOf 0 ((normMake l).map forks)
/-- Every net but a contact has a kid. -/
def fullNet : Net -> Prop
 | ⟨k,_,kids⟩ => (k ≠ 1 -> kids ≠ []) ∧ ∀ p ∈ kids.map fullNet,p
theorem fullNet_eq (k : Int) (e : Elem) (kids : List Net) : fullNet ⟨k,e,kids⟩ ↔ (k ≠ 1 -> kids ≠ []) ∧ ∀ x ∈ kids,fullNet x := by rw [fullNet,all_map]
theorem full_of (n : Net) : netWrong n = 0 -> fullNet n := by
 refine net_ind (fun n => netWrong n = 0 -> fullNet n) ?_ n
 intro k e kids ih h
 rw [fullNet_eq]
 rcases right_parts h with ⟨rfl,rfl⟩ | ⟨_,h0,hks⟩ | ⟨_,_,x,rfl,hx⟩
 ·exact ⟨fun h => absurd rfl h,(fun x hx => by cases hx)⟩
 ·exact ⟨(fun _ hn => by rw [hn] at h0; simp at h0),fun x hx => ih x hx (hks x hx)⟩
 ·exact ⟨(fun _ hn => by cases hn),fun y hy => by rw [List.mem_singleton.1 hy]; exact ih x (by simp) hx⟩
/-- Nothing is wrong with the kids either. -/
theorem right_all {n : Net} (h : netWrong n = 0) : ∀ x ∈ n.kids,netWrong x = 0 := by
 obtain ⟨k,e,kids⟩ := n
 rcases right_parts h with ⟨_,rfl⟩ | ⟨_,_,hks⟩ | ⟨_,_,x,rfl,hx⟩
 ·intro x hx; cases hx
 ·exact hks
 ·intro y hy; rw [List.mem_singleton.1 hy]; exact hx
theorem behind_full {n : Net} (h : fineOr n) : ∀ x ∈ behindOf n,fullNet x := by
 intro x hx
 unfold behindOf at hx
 split at hx
 ·cases hx
 ·rename_i hn
  have hf := h.resolve_left hn
  split at hx
  ·exact full_of x (right_all hf.2.2 x hx)
  ·rw [List.mem_singleton.1 hx]; exact full_of n hf.2.2
theorem fine_kind {n : Net} (h : fine n) : 1 <= n.kind ∧ n.kind <= 4 := by
 obtain ⟨k,e,kids⟩ := n
 rcases right_parts h.2.2 with ⟨h1,_⟩ | ⟨h1,_⟩ | ⟨h1,_⟩ <;> (simp only; omega)
/-- An arm in normal form keeps its net. -/
theorem series_none {a b : Net} (h : netNone a = false) (hb : fineOr b) (ha : fine a) : netNone (series a b) = false := by
 have hs : fineOr (series a b) := series_fine (.inr ha) hb
 unfold series at hs ⊢
 rw [if_neg (by rw [h]; exact Bool.false_ne_true)] at hs ⊢
 split
 ·exact h
 ·rename_i h2
  rw [if_neg h2] at hs
  refine fine_some (block_fine (by simp) (fun x hx => ?_))
  rcases List.mem_cons.1 hx with rfl | hx
  ·exact ha
  ·rw [List.mem_singleton.1 hx]
   exact hb.resolve_left h2
theorem joinArm_net : ∀ (f : Nat) (b : Arm),armFine b -> netNone b.net = false -> netNone (joinArm f b).net = false
 | 0,_,_,h => h
 | f + 1,⟨n,cs,kids⟩,hf,h => by
  rw [joinArm]
  split
  ·rename_i kid e
   simp only at e h
   subst e
   split
   ·have hj := join_fine hf
    refine joinArm_net f _ hj.1 ?_
    exact series_none h hj.2.2 (hj.2.1.resolve_left (by rw [h]; exact Bool.false_ne_true))
   ·exact h
  ·exact h
theorem normArm_net {a : Arm} (hr : armRight a) (h : netNone a.net = false) : netNone (normArm a).net = false := by
 obtain ⟨n,c,kids⟩ := a
 have hp := (armRight_eq _ _ _).1 hr
 rw [normArm_of]
 simp only at h
 refine joinArm_net _ _ ((armFine_eq _ _ _).2 ⟨netOf_fine hp.1,fun x hx => ?_⟩) ?_
 ·obtain ⟨y,hy,rfl⟩ := List.mem_map.1 hx
  exact normArm_fine y (hp.2 y hy)
 ·show netNone (netOf n) = false
  unfold netOf
  rw [if_neg (by rw [h]; exact Bool.false_ne_true)]
  exact fine_some (norm_fine (hp.1.resolve_left (by rw [h]; exact Bool.false_ne_true)))
theorem normMake_right (l : List Arm) : ∀ x ∈ normMake l,armFine x ∧ netNone x.net = false := by
 intro x hx
 unfold normMake at hx
 by_cases h0 : (treeCheck l).1 = 0
 ·rw [if_pos h0] at hx
  obtain ⟨y,hy,rfl⟩ := List.mem_map.1 hx
  have hr := (rung_right h0 hy).1
  exact ⟨normArm_fine y hr,normArm_net hr ((check_zero h0).2.2.2 y hy).1⟩
 ·rw [if_neg h0] at hx; cases hx
end Stil
/- M16,M17: texts put together. -/
/- Plain facts on the normal form: every operand stands in it as often as before. -/
namespace Stil
theorem bare_of (n : Net) : netWrong n = 0 -> blkBare n := by
 refine net_ind (fun n => netWrong n = 0 -> blkBare n) ?_ n
 intro k e kids ih h
 refine (blkBare_iff _).2 ⟨fun hk => ?_,fun x hx => ih x hx (right_all h x hx)⟩
 rw [netWrong_eq] at h
 simp only at hk
 rw [if_neg (by omega)] at h
 cases hb : badNet k e.op e.args.length kids.length with
 | true => rw [hb] at h; simp at h
 | false =>
  obtain ⟨op,args⟩ := e
  simp only [badNet,Bool.or_eq_false_iff,decide_eq_false_iff_not,bne_eq_false_iff_eq] at hb
  obtain ⟨⟨⟨⟨_,h1⟩,h2⟩,_⟩,_⟩ := hb
  have h3 : args = [] := List.eq_nil_of_length_eq_zero (by omega)
  rw [h1,h3]
theorem flat_uses (d : Dev) (k : Int) (hk : k = 2 ∨ k = 3) (l : List Net) (h : ∀ x ∈ l,blkBare x) : ((flatKids k l).map (netUses d)).sum = (l.map (netUses d)).sum := by
 induction l with
 | nil => rfl
 | cons x r ih =>
  have e : flatKids k (x :: r) = flatKids k [x] ++ flatKids k r := flatKids_append k [x] r
  rw [e,List.map_append,List.sum_append,ih (fun y hy => h y (by simp [hy])),flatKids_one,List.map_cons,List.sum_cons]
  congr 1
  split
  ·rename_i hx
   have hb := ((blkBare_iff x).1 (h x (by simp))).1 (by omega)
   rw [netUses_eq d x,hb]
   simp [elemUses,devsUses]
  ·simp
theorem block_uses (d : Dev) (k : Int) (ks : List Net) : netUses d (blockOf k ks) = (ks.map (netUses d)).sum := by
 unfold blockOf
 split
 ·rename_i h
  obtain ⟨x,rfl⟩ := List.length_eq_one_iff.1 h
  simp
 ·rw [netUses_eq]
  simp [elemUses,devsUses]
theorem norm_uses (d : Dev) (n : Net) : blkBare n -> netUses d (normNet n) = netUses d n := by
 refine net_ind (fun n => blkBare n -> netUses d (normNet n) = netUses d n) ?_ n
 intro k e kids ih h
 have hp := (blkBare_iff _).1 h
 simp only at hp
 have hm : ((kids.map normNet).map (netUses d)).sum = (kids.map (netUses d)).sum := by
  rw [List.map_map]
  congr 1
  exact List.map_congr_left fun x hx => ih x hx (hp.2 x hx)
 rw [normNet_eq]
 split
 ·rename_i hk
  rw [block_uses,flat_uses d k hk _ (fun x hx => by obtain ⟨y,_,rfl⟩ := List.mem_map.1 hx; exact norm_blkBare y),hm,netUses_eq,hp.1 hk]
  simp [elemUses,devsUses]
 ·rw [netUses_eq,netUses_eq]
  simp only
  rw [hm]
theorem none_uses {d : Dev} {n : Net} (h : netNone n = true) : netUses d n = 0 := by
 rw [none_eq h,netUses_eq]
 simp [none0,elemUses,devsUses]
theorem series_uses (d : Dev) {a b : Net} (ha : fineOr a) (hb : fineOr b) : netUses d (series a b) = netUses d a + netUses d b := by
 unfold series
 split
 ·rename_i h; rw [none_uses h]; omega
 ·rename_i h1
  split
  ·rename_i h; rw [none_uses h]; omega
  ·rename_i h2
   rw [block_uses,flat_uses d 2 (.inl rfl)]
   ·simp
   ·intro x hx
    rcases List.mem_cons.1 hx with rfl | hx
    ·exact (ha.resolve_left h1).2.1
    ·rw [List.mem_singleton.1 hx]; exact (hb.resolve_left h2).2.1
theorem joinArm_uses (d : Dev) : ∀ (f : Nat) (b : Arm),armFine b -> armUses d (joinArm f b) = armUses d b
 | 0,_,_ => rfl
 | f + 1,⟨n,cs,kids⟩,h => by
  rw [joinArm]
  split
  ·rename_i kid e
   simp only at e
   subst e
   split
   ·have hj := join_fine h
    rw [joinArm_uses d f _ hj.1,armUses_eq,armUses_eq]
    simp only
    rw [series_uses d hj.2.1 hj.2.2]
    have ek := armUses_eq d kid
    simp only [coilsUses,List.map_append,List.sum_append,List.map_cons,List.map_nil,List.sum_cons,List.sum_nil] at ek ⊢
    omega
   ·rfl
  ·rfl
theorem normArm_uses (d : Dev) (a : Arm) : armRight a -> armUses d (normArm a) = armUses d a := by
 refine arm_ind (fun a => armRight a -> armUses d (normArm a) = armUses d a) ?_ a
 intro n c kids ih h
 have hp := (armRight_eq _ _ _).1 h
 rw [normArm_of]
 unfold joined
 rw [joinArm_uses d _ _ ((armFine_eq _ _ _).2 ⟨netOf_fine hp.1,fun x hx => by obtain ⟨y,hy,rfl⟩ := List.mem_map.1 hx; exact normArm_fine y (hp.2 y hy)⟩),armUses_eq,armUses_eq]
 simp only
 have hm : ((kids.map normArm).map (armUses d)).sum = (kids.map (armUses d)).sum := by
  rw [List.map_map]
  congr 1
  exact List.map_congr_left fun x hx => ih x hx (hp.2 x hx)
 have hn : netUses d (netOf n) = netUses d n := by
  unfold netOf
  split
  ·rfl
  ·rename_i h1
   exact norm_uses d n (bare_of n (hp.1.resolve_left h1))
 rw [hm,hn]
theorem normMake_uses (d : Dev) {l : List Arm} (h : (treeCheck l).1 = 0) : treeUses d (normMake l) = treeUses d l := by
 unfold normMake treeUses
 rw [if_pos h,List.map_map]
 congr 1
 exact List.map_congr_left fun x hx => normArm_uses d x (rung_right h hx).1
def armNorm : Arm -> Prop
 | ⟨n,c,kids⟩ => fineOr n ∧ (∀ p ∈ kids.map armNorm,p) ∧ ∀ kid,kids = [kid] -> ¬ (c = [] ∨ netNone kid.net = true)
theorem armNorm_eq (n : Net) (c : List Elem) (kids : List Arm) : armNorm ⟨n,c,kids⟩ ↔ fineOr n ∧ (∀ x ∈ kids,armNorm x) ∧ ∀ kid,kids = [kid] -> ¬ (c = [] ∨ netNone kid.net = true) := by rw [armNorm,all_map]
theorem netOf_same {n : Net} (h : fineOr n) : netOf n = n := by
 unfold netOf
 split
 ·rfl
 ·rename_i h1
  exact fine_same (h.resolve_left h1)
theorem armNorm_same (a : Arm) : armNorm a -> normArm a = a := by
 refine arm_ind (fun a => armNorm a -> normArm a = a) ?_ a
 intro n c kids ih h
 obtain ⟨h1,h2,h3⟩ := (armNorm_eq _ _ _).1 h
 have hm : kids.map normArm = kids := by
  have : kids.map normArm = kids.map id := List.map_congr_left fun x hx => ih x hx (h2 x hx)
  rw [this,List.map_id]
 rw [normArm_of,netOf_same h1,hm]
 exact joined_stop _ h3
theorem ksize_zero {l : List Arm} (h : ksize l <= 0) : l = [] := by
 have := len_ksize l
 exact List.eq_nil_of_length_eq_zero (by omega)
theorem joinArm_norm : ∀ (f : Nat) (b : Arm),ksize b.kids <= f -> fineOr b.net -> (∀ x ∈ b.kids,armNorm x) -> armNorm (joinArm f b)
 | 0,⟨n,cs,kids⟩,hs,hn,_ => by
  simp only at hs hn
  obtain rfl := ksize_zero hs
  rw [joinArm]
  exact (armNorm_eq _ _ _).2 ⟨hn,fun x hx => (by cases hx),fun kid e => (by cases e)⟩
 | f + 1,⟨n,cs,kids⟩,hs,hn,hk => by
  simp only at hs hn hk
  rw [joinArm]
  split
  ·rename_i kid e
   simp only at e
   subst e
   split
   ·obtain ⟨kn,kc,kk⟩ := kid
    have h1 := (armNorm_eq _ _ _).1 (hk ⟨kn,kc,kk⟩ (by simp))
    have h2 := armSize_pos ⟨kn,kc,kk⟩
    rw [ksize_one] at hs
    simp only at h2
    exact joinArm_norm f _ (by simp only; omega) (series_fine hn h1.1) h1.2.1
   ·rename_i hne
    exact (armNorm_eq _ _ _).2 ⟨hn,hk,fun k e => by
     simp only [List.cons.injEq,and_true] at e
     subst e
     exact hne⟩
  ·rename_i hne
   exact (armNorm_eq _ _ _).2 ⟨hn,hk,fun k e => absurd e (hne k)⟩
theorem normArm_norm (a : Arm) : armRight a -> armNorm (normArm a) := by
 refine arm_ind (fun a => armRight a -> armNorm (normArm a)) ?_ a
 intro n c kids ih h
 have hp := (armRight_eq _ _ _).1 h
 rw [normArm_of]
 unfold joined
 refine joinArm_norm _ _ (Nat.le_refl _) (netOf_fine hp.1) fun x hx => ?_
 obtain ⟨y,hy,rfl⟩ := List.mem_map.1 hx
 exact ih y hy (hp.2 y hy)
theorem normArm_twice {a : Arm} (h : armRight a) : normArm (normArm a) = normArm a := armNorm_same _ (normArm_norm a h)
/- What is wrong,behind joining. -/
theorem fineOr_right {n : Net} (h : fineOr n) : netNone n = true ∨ netWrong n = 0 := h.imp id fun h => h.2.2
theorem armOwn_zero {a : Arm} : armOwnWrong a = 0 ↔ (netNone a.net = true ∨ netWrong a.net = 0) ∧ coilsBad a.coils = false ∧ ¬ (a.coils.length = 0 ∧ a.kids.length = 0) := by
 have hb := netWrong_bound a.net
 unfold armOwnWrong
 constructor
 ·intro h
  have h1 : ¬ (netNone a.net = false ∧ 0 < netWrong a.net) := fun hc => by rw [if_pos hc] at h; omega
  rw [if_neg h1] at h
  cases hc : coilsBad a.coils with
  | true => rw [hc,if_pos rfl] at h; omega
  | false =>
   rw [hc,if_neg Bool.false_ne_true] at h
   refine ⟨?_,rfl,fun h2 => by rw [if_pos h2] at h; omega⟩
   cases hn : netNone a.net with
   | true => exact .inl rfl
   | false =>
    have h4 : ¬ 0 < netWrong a.net := fun x => h1 ⟨hn,x⟩
    exact .inr (by omega)
 ·rintro ⟨h1,h2,h3⟩
  have h4 : ¬ (netNone a.net = false ∧ 0 < netWrong a.net) := by
   rintro ⟨h5,h6⟩
   rcases h1 with h | h
   ·rw [h] at h5; exact Bool.noConfusion h5
   ·omega
  rw [if_neg h4,h2,if_neg Bool.false_ne_true,if_neg h3]
theorem armWrong_zero {n : Net} {c : List Elem} {kids : List Arm} : armWrong ⟨n,c,kids⟩ = 0 ↔ armOwnWrong ⟨n,c,kids⟩ = 0 ∧ ∀ x ∈ kids,armWrong x = 0 := by
 have hb := armOwnWrong_bound ⟨n,c,kids⟩
 rw [armWrong_eq]
 constructor
 ·intro h
  have h0 : armOwnWrong ⟨n,c,kids⟩ = 0 := by split at h <;> omega
  rw [if_neg (by omega)] at h
  exact ⟨h0,fun x hx => firstPos_zero _ (fun y hy => by obtain ⟨z,_,rfl⟩ := List.mem_map.1 hy; exact (armWrong_bound z).1) h _ (List.mem_map.2 ⟨x,hx,rfl⟩)⟩
 ·rintro ⟨h0,h1⟩
  rw [if_neg (by omega)]
  simp only
  clear h0 hb
  induction kids with
  | nil => rfl
  | cons x r ih =>
   rw [List.map_cons,firstPos,h1 x (by simp),if_neg (by omega)]
   exact ih (fun y hy => h1 y (by simp [hy]))
theorem coilsBad_append (a b : List Elem) : coilsBad (a ++ b) = (coilsBad a || coilsBad b) := by simp [coilsBad]
theorem joinArm_zero : ∀ (f : Nat) (b : Arm),armFine b -> armWrong b = 0 -> armWrong (joinArm f b) = 0
 | 0,_,_,h => h
 | f + 1,⟨n,cs,kids⟩,hf,h => by
  rw [joinArm]
  split
  ·rename_i kid e
   simp only at e
   subst e
   split
   ·have hj := join_fine hf
    refine joinArm_zero f _ hj.1 ?_
    obtain ⟨kn,kc,kk⟩ := kid
    have h1 := armWrong_zero.1 h
    have h2 := armWrong_zero.1 (h1.2 ⟨kn,kc,kk⟩ (by simp))
    obtain ⟨_,a2,_⟩ := armOwn_zero.1 h1.1
    obtain ⟨_,b2,b3⟩ := armOwn_zero.1 h2.1
    simp only at a2 b2 b3
    refine armWrong_zero.2 ⟨armOwn_zero.2 ⟨fineOr_right (series_fine hj.2.1 hj.2.2),?_,?_⟩,h2.2⟩
    ·simp only
     rw [coilsBad_append,a2,b2]; rfl
    ·simp only [List.length_append]
     omega
   ·exact h
  ·exact h
theorem normArm_zero (a : Arm) : armWrong a = 0 -> armWrong (normArm a) = 0 := by
 refine arm_ind (fun a => armWrong a = 0 -> armWrong (normArm a) = 0) ?_ a
 intro n c kids ih h
 have hr := (armRight_eq _ _ _).1 (armRight_of _ h)
 obtain ⟨h1,h2⟩ := armWrong_zero.1 h
 obtain ⟨_,a2,a3⟩ := armOwn_zero.1 h1
 simp only at a2 a3
 rw [normArm_of]
 unfold joined
 refine joinArm_zero _ _ ((armFine_eq _ _ _).2 ⟨netOf_fine hr.1,fun x hx => ?_⟩) (armWrong_zero.2 ⟨armOwn_zero.2 ⟨fineOr_right (netOf_fine hr.1),a2,by simpa using a3⟩,fun x hx => ?_⟩)
 ·obtain ⟨y,hy,rfl⟩ := List.mem_map.1 hx
  exact normArm_fine y (hr.2 y hy)
 ·obtain ⟨y,hy,rfl⟩ := List.mem_map.1 hx
  exact ih y hy (h2 y hy)
theorem rungs_zero {l : List Arm} (h1 : l.length <= 40) (h2 : treeSize l <= 400) (h3 : ∀ x ∈ l,rungWrong x = 0) : treeCheck l = (0,0) := by
 unfold treeCheck
 rw [if_neg (by omega)]
 clear h1 h2
 suffices ∀ k,firstRung l k = (0,0) from this 0
 induction l with
 | nil => intro k; rfl
 | cons x r ih =>
  intro k
  rw [firstRung,h3 x (by simp),if_neg (by omega)]
  exact ih (fun y hy => h3 y (by simp [hy])) _
theorem rung_zero' {a : Arm} (h1 : netNone a.net = false) (h2 : armWrong a = 0) : rungWrong a = 0 := by
 unfold rungWrong
 rw [h1,h2]; rfl
theorem normMake_zero {l : List Arm} (hf : ∀ x ∈ l,armFits x) (h : (treeCheck l).1 = 0) : treeCheck (normMake l) = (0,0) ∧ treeSize (normMake l) <= treeSize l ∧ (normMake l).length = l.length ∧ normMake (normMake l) = normMake l ∧ ∀ x ∈ normMake l,armFits x := by
 obtain ⟨_,h1,h2,h3⟩ := check_zero h
 have e : normMake l = l.map normArm := by unfold normMake; rw [if_pos h]
 have hm : ∀ x ∈ l,midOk (armSize x) (normArm x) := fun x hx => normArm_ok x (hf x hx) (by have := (rung_right h hx).2; omega)
 have hs : treeSize (normMake l) <= treeSize l := by
  rw [e]
  unfold treeSize
  rw [List.map_map]
  exact sum_mono _ _ _ fun x hx => (hm x hx).2
 have hc : treeCheck (normMake l) = (0,0) := by
  refine rungs_zero (by rw [e,List.length_map]; exact h1) (by omega) fun x hx => ?_
  rw [e] at hx
  obtain ⟨y,hy,rfl⟩ := List.mem_map.1 hx
  exact rung_zero' (normArm_net (rung_right h hy).1 (h3 y hy).1) (normArm_zero y (h3 y hy).2)
 refine ⟨hc,hs,by rw [e,List.length_map],?_,fun x hx => ?_⟩
 ·obtain ⟨m,hm2⟩ : ∃ m,m = normMake l := ⟨_,rfl⟩
  have e2 : normMake (normMake l) = (normMake l).map normArm := by
   rw [← hm2] at hc ⊢
   unfold normMake
   rw [if_pos (by rw [hc])]
  rw [e2,e,List.map_map]
  exact List.map_congr_left fun x hx => normArm_twice (rung_right h hx).1
 ·rw [e] at hx
  obtain ⟨y,hy,rfl⟩ := List.mem_map.1 hx
  exact (hm y hy).1
/- The shape. -/
def oneOk (c : List Elem) : List Arm -> Bool
 | [k] => decide (0 < c.length) && !(k.net.kind == 0)
 | _ => true
def wa : Arm -> Bool
 | ⟨n,c,kids⟩ => (n.kind == 0 || wn n) && (kids.map wa).all id && oneOk c kids
theorem wn_isNorm (n : Net) : wn n = true -> isNorm n := by
 refine net_ind (fun n => wn n = true -> isNorm n) ?_ n
 intro k e kids ih h
 rw [wn_eq] at h
 simp only [Bool.and_eq_true,List.all_eq_true,Bool.or_eq_true,beq_iff_eq,decide_eq_true_eq,Bool.not_eq_true',Bool.and_eq_false_iff,beq_eq_false_iff_ne,ne_eq,bne_eq_false_iff_eq] at h
 refine (isNorm_iff _).2 ⟨fun hk => ?_,fun x hx => ih x hx (h.1 x hx).2⟩
 simp only at hk ⊢
 refine ⟨by omega,fun x hx e => ?_⟩
 have := (h.1 x hx).1
 omega
theorem kind_none {n : Net} (h : netNone n = true ∨ netWrong n = 0) : n.kind = 0 ↔ netNone n = true := by
 constructor
 ·intro hk
  rcases h with h | h
  ·exact h
  ·obtain ⟨k,e,kids⟩ := n
   rcases right_parts h with ⟨h1,_⟩ | ⟨h1,_⟩ | ⟨h1,_⟩ <;> (simp only at hk; omega)
 ·intro h; rw [none_eq h]; rfl
theorem net_iff {n : Net} (h : netNone n = true ∨ netWrong n = 0) : (n.kind = 0 ∨ wn n = true) ↔ fineOr n := by
 rw [kind_none h]
 constructor
 ·rintro (h1 | h1)
  ·exact .inl h1
  ·rcases h with h | h
   ·exact .inl h
   ·exact .inr ⟨wn_isNorm n h1,bare_of n h,h⟩
 ·rintro (h1 | h1)
  ·exact .inl h1
  ·exact .inr (wn_fine n h1.1 h1.2.2)
theorem wa_iff (a : Arm) : armRight a -> (wa a = true ↔ armNorm a) := by
 refine arm_ind (fun a => armRight a -> (wa a = true ↔ armNorm a)) ?_ a
 intro n c kids ih h
 have hp := (armRight_eq _ _ _).1 h
 rw [armNorm_eq,wa]
 simp only [Bool.and_eq_true,List.all_eq_true,Bool.or_eq_true,beq_iff_eq,List.mem_map,id_eq,forall_exists_index,and_imp,forall_apply_eq_imp_iff₂]
 rw [and_assoc,net_iff hp.1]
 refine and_congr Iff.rfl (and_congr ⟨fun h x hx => (ih x hx (hp.2 x hx)).1 (h x hx),fun h x hx => (ih x hx (hp.2 x hx)).2 (h x hx)⟩ ?_)
 rcases kids with _ | ⟨k,_ | ⟨k2,r⟩⟩
 ·exact ⟨fun _ kid e => (by cases e),fun _ => rfl⟩
 ·obtain ⟨kn,kc,kk⟩ := k
  have hk := kind_none ((armRight_eq _ _ _).1 (hp.2 ⟨kn,kc,kk⟩ (by simp))).1
  constructor
  ·intro h2 kid e
   simp only [List.cons.injEq,and_true] at e
   subst e
   simp only [oneOk,Bool.and_eq_true,decide_eq_true_eq,Bool.not_eq_true',beq_eq_false_iff_ne,ne_eq] at h2
   rintro (h3 | h3)
   ·rw [h3] at h2; simp at h2
   ·exact h2.2 (hk.2 h3)
  ·intro h2
   have h3 := h2 _ rfl
   simp only [oneOk,Bool.and_eq_true,decide_eq_true_eq,Bool.not_eq_true',beq_eq_false_iff_ne,ne_eq]
   refine ⟨?_,fun e => h3 (.inr (hk.1 e))⟩
   cases c with
   | nil => exact absurd (.inl rfl) h3
   | cons x r => simp
 ·exact ⟨fun _ kid e => (by cases e),fun _ => rfl⟩
open Classical in
theorem shape_iff {l : List Arm} (h : (treeCheck l).1 = 0) : l.all wa = decide (normMake l = l) := by
 have e : normMake l = l.map normArm := by unfold normMake; rw [if_pos h]
 rw [Bool.eq_iff_iff,List.all_eq_true,decide_eq_true_eq,e]
 constructor
 ·intro h1
  have : l.map normArm = l.map id := List.map_congr_left fun x hx => armNorm_same x ((wa_iff x (rung_right h hx).1).1 (h1 x hx))
  rw [this,List.map_id]
 ·intro h1 x hx
  refine (wa_iff x (rung_right h hx).1).2 ?_
  have hx2 := hx
  rw [← h1] at hx2
  obtain ⟨y,hy,e2⟩ := List.mem_map.1 hx2
  rw [← e2]
  exact normArm_norm y (rung_right h hy).1
theorem norm_wa {l : List Arm} (h : (treeCheck l).1 = 0) : ∀ x ∈ normMake l,wa x = true := by
 intro x hx
 have e : normMake l = l.map normArm := by unfold normMake; rw [if_pos h]
 rw [e] at hx
 obtain ⟨y,hy,rfl⟩ := List.mem_map.1 hx
 have hr := (rung_right h hy).1
 have hz := ((check_zero h).2.2.2 y hy).2
 exact (wa_iff _ (armRight_of _ (normArm_zero y hz))).2 (normArm_norm y hr)
end Stil
