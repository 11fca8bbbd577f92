import Derived.Below
namespace Go
end Go
abbrev A82 := @Nat.lt_of_lt_of_le
abbrev A83 := @List.length_append
abbrev A84 := @List.length_cons
abbrev A85 := @List.length_nil
abbrev A86 := @List.size_toArray
abbrev A87 := @List.mem_cons_of_mem
abbrev A88 := @Nat.le_refl
abbrev A89 := @Bool.false_eq_true
abbrev A9a := @List.getElem_mem
abbrev A9b := @List.mem_append_right
abbrev A9c := @Nat.zero_add
abbrev A9d := @List.getElem?_set_ne
abbrev A9e := @List.mem_append_left
abbrev A9f := @Nat.le_trans
abbrev A9g := @List.mem_append
abbrev A9h := @List.map_append
abbrev A9i := @List.mem_singleton
abbrev A9j := @List.length_map
abbrev A9k := @List.getElem?_eq_getElem
abbrev A9l := @List.map_cons
abbrev A9m := @List.take_succ_eq_append_getElem
abbrev A9n := @List.mem_map
abbrev A9o := @List.mem_cons
abbrev A9p := @List.pairwise_cons
abbrev A9q := @List.pairwise_append
abbrev A9r := @List.append_assoc
abbrev A9s := @List.getElem?_set_self
abbrev A9t := @List.cons_append
abbrev A9u := @List.nil_append
abbrev A9v := @Array.getElem?_setIfInBounds_self_of_lt
abbrev A9w := @Array.replicate_succ
abbrev A9x := @Array.replicate_zero
abbrev A9y := @List.take_of_length_le
abbrev A9z := @List.append_toArray
abbrev A90 := @Array.getElem?_eq_some_iff
abbrev A91 := @List.length_eq_zero_iff
abbrev A92 := @List.push_toArray
abbrev A93 := @List.length_singleton
abbrev A94 := @List.nodup_append
abbrev A95 := @beq_eq_false_iff_ne
abbrev A96 := @Option.some.injEq
abbrev A97 := @List.map_nil
abbrev A98 := @Option.some.inj
abbrev A99 := @List.not_mem_nil
abbrev Baa := @Nat.lt_succ_self
abbrev Bab := @List.getElem_cons_zero
abbrev Bac := @List.sum_cons
abbrev Bad := @List.map_toArray
abbrev Bae := @Nat.lt_irrefl
abbrev Baf := @Bool.eq_iff_iff
abbrev Bag := @List.flatten_cons
abbrev Bah := @Array.getElem?_setIfInBounds_ne
abbrev Bai := @Bool.false_ne_true
abbrev Baj := @Int.eq_ofNat_of_zero_le
abbrev Bak := @Nat.mul_le_mul_right
abbrev Bam := @if_false
abbrev Ban := @Nat.zero_le
abbrev Bao := @List.Sublist.refl
abbrev Bap := @Nat.le_succ
abbrev Baq := @decide_eq_false_iff_not
abbrev Bas := @List.drop_eq_getElem_cons
abbrev Bat := @List.getElem_map
abbrev Bau := @List.mem_cons_self
abbrev Bav := @List.drop_of_length_le
abbrev Baw := @List.pairwise_singleton
abbrev Bax := @or_false
abbrev Bay := @Array.getElem?_eq_getElem
abbrev Baz := @List.mem_of_getElem?
abbrev Ba0 := @List.map_singleton
abbrev Ba1 := @decide_eq_false
abbrev Ba2 := @List.mem_map_of_mem
abbrev Ba3 := @Nat.lt_or_ge
abbrev Ba4 := @List.getElem?_take
abbrev Ba5 := @List.getElem?_drop
abbrev Ba6 := @List.take_length
abbrev Ba7 := @List.length_take
abbrev Ba8 := @Nat.add_zero
abbrev Ba9 := @Array.getElem?_modify
abbrev Bba := @decide_eq_true
abbrev Bbb := @List.sum_append
abbrev Bbc := @List.getElem?_eq_none
abbrev Bbd := @Nat.zero_mul
abbrev Bbe := @List.sum_nil
abbrev Bbf := @List.map_map
abbrev Bbg := @List.flatten_append
abbrev Bbh := @Nat.eq_zero_or_pos
abbrev Bbi := @List.sizeOf_lt_of_mem
abbrev Bbj := @List.mem_or_eq_of_mem_set
abbrev Bbk := @beq_iff_eq
abbrev Bbl := @List.length_set
abbrev Bbm := @List.getElem?_map
abbrev Bbn := @Nat.succ_mul
abbrev Bbo := @List.map_congr_left
abbrev Bbp := @Nat.le_max_right
abbrev Bbq := @Array.getElem?_eq_none
abbrev Bbr := @Array.getElem?_map
abbrev Bbs := @Prod.mk.inj
abbrev Bbt := @Option.map_some
abbrev Bbu := @List.take_append_drop
abbrev Bbv := @Array.getElem?_append_right
abbrev Bbw := @List.ext_getElem?
abbrev Bbx := @and_true
abbrev Bby := @Array.getElem?_push_size
abbrev Bbz := @List.append_nil
abbrev Bb0 := @List.getElem?_cons_zero
abbrev Bb1 := @List.getElem?_cons_succ
abbrev Bb2 := @List.getElem_cons_succ
abbrev Bb3 := @List.drop_eq_nil_of_le
abbrev Bb4 := @Array.getElem?_push_lt
abbrev Bb5 := @Bool.not_true
abbrev Bb6 := @Nat.le_max_left
abbrev Bb7 := @Array.size_push
abbrev Bb8 := @List.getElem?_range
abbrev Bb9 := @List.getElem?_append_right
abbrev Bca := @List.exists_cons_of_ne_nil
abbrev Bcb := @Nat.ne_of_lt
abbrev Bcc := @Nat.le_of_lt
abbrev Bcd := @List.nodup_nil
abbrev Bce := @List.drop_zero
abbrev Bcf := @List.getElem?_append_left
abbrev Bcg := @List.getElem_append_left
abbrev Bch := @List.mem_nil_iff
abbrev Bci := @List.flatten_nil
abbrev Bcj := @List.zipWith_cons_cons
theorem omz {p:Prop}(h:p:=by omega):p:=h
theorem krz {p:Prop}(h:p:=by kernel_rfl):p:=h
theorem spz {p:Prop}(h:p:=by simp):p:=h
theorem rrz {p:Prop}(h:p:=by rfl):p:=h
theorem aqz {p:Prop}(h:p:=by assumption):p:=h
theorem dcz {p:Prop}(h:p:=by decide):p:=h
theorem yAa {p:Prop}(h:p:=by first | assumption | (simp;done) | (simp;omega)):p:=h
theorem yAb {p:Prop}(h:p:=by simp;omega):p:=h
theorem yAc {p:Prop}(h:p:=by exact(Below.refl _ _).drew):p:=h
theorem yAd {p:Prop}(h:p:=by have h:=hown;simp only[World.size_alloc] at h;exact h):p:=h
theorem yAe {p:Prop}(h:p:=by unfold maxLen;omega):p:=h
theorem yAf {p:Prop}(h:p:=by decide+kernel):p:=h
theorem yAg {p:Prop}(h:p:=by first | (simp;done) | (simp;omega)):p:=h
theorem yAh {p:Prop}(h:p:=by first | (simp;omega) | omega):p:=h
theorem yAi {p:Prop}(h:p:=by simp[Act.eval]):p:=h
theorem yAj {p:Prop}(h:p:=by intro u hu;simp at hu;rcases hu with rfl | rfl | rfl<;>rfl):p:=h
theorem yBa {p:Prop}(h:p:=by omega):p:=h
theorem yBb {p:Prop}(h:p:=by cases h):p:=h
theorem yBc {p:Prop}(h:p:=by simpa using h):p:=h
theorem yBd {p:Prop}(h:p:=by simp only[World.size_alloc];omega):p:=h
theorem yBe {p:Prop}(h:p:=by have:=dZ.out;show w.heap.size+1<W.heap.size;omega):p:=h
theorem yBf {p:Prop}(h:p:=by exact⟨omz,by simp[Value.ownBlock];omega⟩):p:=h
theorem yBg {p:Prop}(h:p:=by exact Qo _ _ _ _ spz):p:=h
theorem yBh {p:Prop}(h:p:=by intro x hx e;rcases List.mem_cons.1 hx with rfl | hx;(have:=hvl _ e;simp at this;omega);(have:=iD x (hsub.subset hx) _ e;omega)):p:=h
theorem yBi {p:Prop}(h:p:=by rw[World.cell?_alloc_at _ _ _ _ spz];rfl):p:=h
theorem yBj {p:Prop}(h:p:=by simp[hx]):p:=h
theorem yCa {p:Prop}(h:p:=by simpa using hlt):p:=h
theorem yCb {p:Prop}(h:p:=by rw[e];exact h0):p:=h
theorem yCc {p:Prop}(h:p:=by rw[Ba1 HD.out]):p:=h
theorem yCd {p:Prop}(h:p:=by have h1:=dZ.out;simp;omega):p:=h
theorem yCe {p:Prop}(h:p:=by assumption):p:=h
theorem yCf {p:Prop}(h:p:=by simpa using hrow):p:=h
theorem yCg {p:Prop}(h:p:=by simp[hy]):p:=h
theorem yCh {p:Prop}(h:p:=by rw[Ba1 (λh=>mO.out (Stil.Elem.mk.inj h).2)]):p:=h
theorem yCi {p:Prop}(h:p:=by unfold i64;omega):p:=h
theorem yCj {p:Prop}(h:p:=by simp[Value.ownBlock]):p:=h
theorem yDa {p:Prop}(h:p:=by simp[base]):p:=h
theorem yDb {p:Prop}(h:p:=by intro k hk;cases hk;omega):p:=h
theorem yDc {p:Prop}(h:p:=by rw[Ba1 HN.out]):p:=h
theorem yDd {p:Prop}(h:p:=by show W5.heap.size<WL.heap.size;omega):p:=h
theorem yDe {p:Prop}(h:p:=by unfold Af;rw[if_neg h1]):p:=h
theorem yDf {p:Prop}(h:p:=by rw[World.frozen?_setCell];exact hfz):p:=h
theorem yDg {p:Prop}(h:p:=by rw[hv];rfl):p:=h
theorem yDh {p:Prop}(h:p:=by rw[Ah.net_eq];exact h0):p:=h
theorem yDi {p:Prop}(h:p:=by rw[h];exact Bai):p:=h
theorem yDj {p:Prop}(h:p:=by rw[Ba1 HF2.out]):p:=h
theorem yEa {p:Prop}(h:p:=by right;right;simp[ha]):p:=h
theorem yEb {p:Prop}(h:p:=by simp[baseD]):p:=h
theorem yEc {p:Prop}(h:p:=by simp at hop ⊢;exact .inr hop):p:=h
theorem yEd {p:Prop}(h:p:=by rw[h1];exact hA.mono (Bbp _ _)):p:=h
theorem yEe {p:Prop}(h:p:=by rw[Bi omz];exact h0):p:=h
theorem yEf {p:Prop}(h:p:=by rw[Bi hl];exact hy'):p:=h
theorem yEg {p:Prop}(h:p:=by have:=jA.out;omega):p:=h
theorem yEh {p:Prop}(h:p:=by intro k hk;rw[List.mem_singleton.1 hk];exact⟨hti,nI⟩):p:=h
theorem yEi {p:Prop}(h:p:=by intro j hj;rw[List.mem_singleton.1 hj];exact⟨hti,nI⟩):p:=h
theorem yEj {p:Prop}(h:p:=by rw[hi0];exact e1):p:=h
theorem yFa {p:Prop}(h:p:=by rcases List.mem_cons.1 hx with rfl | hx<;>simp[*]):p:=h
