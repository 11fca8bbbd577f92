import Derived.Below
namespace Go
end Go
abbrev A51 := @Nat.lt_of_lt_of_le
abbrev A52 := @List.length_append
abbrev A53 := @List.length_cons
abbrev A54 := @List.length_nil
abbrev A55 := @List.size_toArray
abbrev A56 := @List.mem_cons_of_mem
abbrev A57 := @Nat.le_refl
abbrev A58 := @Bool.false_eq_true
abbrev A59 := @List.getElem_mem
abbrev A6a := @List.mem_append_right
abbrev A6b := @Nat.zero_add
abbrev A6c := @List.getElem?_set_ne
abbrev A6d := @List.mem_append_left
abbrev A6e := @Nat.le_trans
abbrev A6f := @List.mem_append
abbrev A6g := @List.map_append
abbrev A6h := @List.mem_singleton
abbrev A6i := @List.length_map
abbrev A6j := @List.getElem?_eq_getElem
abbrev A6k := @List.map_cons
abbrev A6l := @List.take_succ_eq_append_getElem
abbrev A6m := @List.mem_map
abbrev A6n := @List.mem_cons
abbrev A6o := @List.pairwise_cons
abbrev A6p := @List.pairwise_append
abbrev A6q := @List.append_assoc
abbrev A6r := @List.getElem?_set_self
abbrev A6s := @List.cons_append
abbrev A6t := @List.nil_append
abbrev A6u := @Array.getElem?_setIfInBounds_self_of_lt
abbrev A6v := @Array.replicate_succ
abbrev A6w := @Array.replicate_zero
abbrev A6x := @List.take_of_length_le
abbrev A6y := @List.append_toArray
abbrev A6z := @Array.getElem?_eq_some_iff
abbrev A60 := @List.length_eq_zero_iff
abbrev A61 := @List.push_toArray
abbrev A62 := @List.length_singleton
abbrev A63 := @List.nodup_append
abbrev A64 := @beq_eq_false_iff_ne
abbrev A65 := @Option.some.injEq
abbrev A66 := @List.map_nil
abbrev A67 := @Option.some.inj
abbrev A68 := @List.not_mem_nil
abbrev A69 := @Nat.lt_succ_self
abbrev A7a := @List.getElem_cons_zero
abbrev A7b := @List.sum_cons
abbrev A7c := @List.map_toArray
abbrev A7d := @Nat.lt_irrefl
abbrev A7e := @Bool.eq_iff_iff
abbrev A7f := @List.flatten_cons
abbrev A7g := @Array.getElem?_setIfInBounds_ne
abbrev A7h := @Bool.false_ne_true
abbrev A7i := @Int.eq_ofNat_of_zero_le
abbrev A7j := @Nat.mul_le_mul_right
abbrev A7k := @if_false
abbrev A7l := @Nat.zero_le
abbrev A7m := @List.Sublist.refl
abbrev A7n := @Nat.le_succ
abbrev A7o := @decide_eq_false_iff_not
abbrev A7p := @List.drop_eq_getElem_cons
abbrev A7q := @List.getElem_map
abbrev A7r := @List.mem_cons_self
abbrev A7s := @List.drop_of_length_le
abbrev A7t := @List.pairwise_singleton
abbrev A7u := @or_false
abbrev A7v := @Array.getElem?_eq_getElem
abbrev A7w := @List.mem_of_getElem?
abbrev A7x := @List.map_singleton
abbrev A7y := @decide_eq_false
abbrev A7z := @List.mem_map_of_mem
abbrev A70 := @Nat.lt_or_ge
abbrev A71 := @List.getElem?_take
abbrev A72 := @List.getElem?_drop
abbrev A73 := @List.take_length
abbrev A74 := @List.length_take
abbrev A75 := @Nat.add_zero
abbrev A76 := @Array.getElem?_modify
abbrev A77 := @decide_eq_true
abbrev A78 := @List.sum_append
abbrev A79 := @List.getElem?_eq_none
abbrev A8a := @Nat.zero_mul
abbrev A8b := @List.sum_nil
abbrev A8c := @List.map_map
abbrev A8d := @List.flatten_append
abbrev A8e := @Nat.eq_zero_or_pos
abbrev A8f := @List.sizeOf_lt_of_mem
abbrev A8g := @List.mem_or_eq_of_mem_set
abbrev A8h := @beq_iff_eq
abbrev A8i := @List.length_set
abbrev A8j := @List.getElem?_map
abbrev A8k := @Nat.succ_mul
abbrev A8l := @List.map_congr_left
abbrev A8m := @Nat.le_max_right
abbrev A8n := @Array.getElem?_eq_none
abbrev A8o := @Array.getElem?_map
abbrev A8p := @Prod.mk.inj
abbrev A8q := @Option.map_some
abbrev A8r := @List.take_append_drop
abbrev A8s := @Array.getElem?_append_right
abbrev A8t := @List.ext_getElem?
abbrev A8u := @and_true
abbrev A8v := @Array.getElem?_push_size
abbrev A8w := @List.append_nil
abbrev A8x := @List.getElem?_cons_zero
abbrev A8y := @List.getElem?_cons_succ
abbrev A8z := @List.getElem_cons_succ
abbrev A80 := @List.drop_eq_nil_of_le
abbrev A81 := @Array.getElem?_push_lt
abbrev A82 := @Bool.not_true
abbrev A83 := @Nat.le_max_left
abbrev A84 := @Array.size_push
abbrev A85 := @List.getElem?_range
abbrev A86 := @List.getElem?_append_right
abbrev A87 := @List.exists_cons_of_ne_nil
abbrev A88 := @Nat.ne_of_lt
abbrev A89 := @Nat.le_of_lt
abbrev A9a := @List.nodup_nil
abbrev A9b := @List.drop_zero
abbrev A9c := @List.getElem?_append_left
abbrev A9d := @List.getElem_append_left
abbrev A9e := @List.mem_nil_iff
abbrev A9f := @List.flatten_nil
abbrev A9g := @List.zipWith_cons_cons
theorem omz {p:Prop}(h:p:=by omega):p:=h
theorem krz {p:Prop}(h:p:=by kernel_rfl):p:=h
theorem spz {p:Prop}(h:p:=by simp):p:=h
theorem rrz {p:Prop}(h:p:=by rfl):p:=h
theorem aqz {p:Prop}(h:p:=by assumption):p:=h
theorem dcz {p:Prop}(h:p:=by decide):p:=h
theorem yAa {p:Prop}(h:p:=by first | assumption | (simp;done) | (simp;omega)):p:=h
theorem yAb {p:Prop}(h:p:=by intro e;simp only[A65] at e;omega):p:=h
theorem yAc {p:Prop}(h:p:=by intro j hj;simp only[A65] at hj;omega):p:=h
theorem yAd {p:Prop}(h:p:=by simp;omega):p:=h
theorem yAe {p:Prop}(h:p:=by unfold maxLen;omega):p:=h
theorem yAf {p:Prop}(h:p:=by intro u hu;simp only[A6n,A68,A7u] at hu;rcases hu with rfl | rfl | rfl | rfl | rfl | rfl<;>rfl):p:=h
theorem yAg {p:Prop}(h:p:=by decide+kernel):p:=h
theorem yAh {p:Prop}(h:p:=by first | (simp;omega) | omega):p:=h
theorem yAi {p:Prop}(h:p:=by cases h):p:=h
theorem yAj {p:Prop}(h:p:=by have:=bP.out;show w.heap.size+1<W.heap.size;omega):p:=h
theorem yBa {p:Prop}(h:p:=by first | (simp;done) | (simp;omega)):p:=h
theorem yBb {p:Prop}(h:p:=by exact H7 _ _ _ _ spz):p:=h
theorem yBc {p:Prop}(h:p:=by simp[Act.eval]):p:=h
theorem yBd {p:Prop}(h:p:=by simp only[World.size_alloc];omega):p:=h
theorem yBe {p:Prop}(h:p:=by omega):p:=h
theorem yBf {p:Prop}(h:p:=by rw[World.size_alloc];omega):p:=h
theorem yBg {p:Prop}(h:p:=by simpa[Value.ownBlock] using e.symm):p:=h
theorem yBh {p:Prop}(h:p:=by simpa using hlt):p:=h
theorem yBi {p:Prop}(h:p:=by simpa using h):p:=h
theorem yBj {p:Prop}(h:p:=by have:=bP.out;show w.heap.size<W.heap.size;omega):p:=h
theorem yCa {p:Prop}(h:p:=by intro u hu;simp only[A6n,A68,A7u] at hu;rcases hu with rfl | rfl<;>rfl):p:=h
theorem yCb {p:Prop}(h:p:=by simp[hx]):p:=h
theorem yCc {p:Prop}(h:p:=by simp only[A65] at e;exact e.symm):p:=h
theorem yCd {p:Prop}(h:p:=by intro u hu;simp at hu;rcases hu with rfl | rfl | rfl | rfl<;>rfl):p:=h
theorem yCe {p:Prop}(h:p:=by intro x hx e;rcases List.mem_cons.1 hx with rfl | hx;(have:=hvl _ e;simp at this;omega);(have:=lF x (hsub.subset hx) _ e;omega)):p:=h
theorem yCf {p:Prop}(h:p:=by rw[e];exact h0):p:=h
theorem yCg {p:Prop}(h:p:=by have:=(ho.lt _ hb).1;omega):p:=h
theorem yCh {p:Prop}(h:p:=by have h1:=bP.out;simp;omega):p:=h
theorem yCi {p:Prop}(h:p:=by rw[HX.out]):p:=h
theorem yCj {p:Prop}(h:p:=by assumption):p:=h
theorem yDa {p:Prop}(h:p:=by exact iK.trans (hb2.mono iK.size)):p:=h
theorem yDb {p:Prop}(h:p:=by simp[hy]):p:=h
theorem yDc {p:Prop}(h:p:=by unfold i64;omega):p:=h
theorem yDd {p:Prop}(h:p:=by simpa using hrow):p:=h
theorem yDe {p:Prop}(h:p:=by simp[Value.ownBlock]):p:=h
theorem yDf {p:Prop}(h:p:=by rw[h];exact A7h):p:=h
theorem yDg {p:Prop}(h:p:=by simp[base]):p:=h
theorem yDh {p:Prop}(h:p:=by intro k hk;cases hk;omega):p:=h
theorem yDi {p:Prop}(h:p:=by simp[Off]):p:=h
theorem yDj {p:Prop}(h:p:=by unfold Ae;rw[if_neg h1]):p:=h
theorem yEa {p:Prop}(h:p:=by rw[World.frozen?_setCell];exact hfz):p:=h
theorem yEb {p:Prop}(h:p:=by have h:=(AOk.T _ (Abk hrw).1).2.2.2;rw[Bj.arm_eq] at h;rw[<-hm];exact h):p:=h
theorem yEc {p:Prop}(h:p:=by rw[hv];rfl):p:=h
theorem yEd {p:Prop}(h:p:=by right;right;simp[ha]):p:=h
theorem yEe {p:Prop}(h:p:=by simp[baseD]):p:=h
theorem yEf {p:Prop}(h:p:=by simp at hop ⊢;exact .inr hop):p:=h
theorem yEg {p:Prop}(h:p:=by rw[h1];exact hA.mono (A8m _ _)):p:=h
theorem yEh {p:Prop}(h:p:=by have:=hb5.size;have:=hb.size;simp only[World.size_alloc];omega):p:=h
theorem yEi {p:Prop}(h:p:=by rw[Bg omz];exact h0):p:=h
theorem yEj {p:Prop}(h:p:=by rw[Bg hl];exact hy'):p:=h
theorem yFa {p:Prop}(h:p:=by simp[Go.Conc.base]):p:=h
theorem yFb {p:Prop}(h:p:=by have:=h.1;simpa using this):p:=h
theorem yFc {p:Prop}(h:p:=by exact(Below.refl _ _).drew):p:=h
theorem yFd {p:Prop}(h:p:=by rw[hi0];exact e1):p:=h
theorem yFe {p:Prop}(h:p:=by have:=eY.1;omega):p:=h
theorem yFf {p:Prop}(h:p:=by show _<=W.heap.size;omega):p:=h
theorem yFg {p:Prop}(h:p:=by intro u hu;simp at hu;rcases hu with rfl | rfl<;>rfl):p:=h
theorem yFh {p:Prop}(h:p:=by have:=(Ju h0 hx).2;omega):p:=h
