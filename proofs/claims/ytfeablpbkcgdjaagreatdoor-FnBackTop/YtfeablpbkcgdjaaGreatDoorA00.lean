import Derived.Below
namespace Go
end Go
abbrev B8 := @Nat.lt_of_lt_of_le
abbrev CO := @List.length_append
abbrev CC := @List.length_cons
abbrev CM := @List.length_nil
abbrev CS := @List.size_toArray
abbrev CH := @List.mem_cons_of_mem
abbrev B7 := @Nat.le_refl
abbrev DR := @Bool.false_eq_true
abbrev CG := @List.getElem_mem
abbrev DZ := @List.mem_append_right
abbrev Cd := @Nat.zero_add
abbrev C7 := @List.getElem?_set_ne
abbrev Hi := @List.mem_append_left
abbrev CB := @Nat.le_trans
abbrev Dm := @List.mem_append
abbrev CX := @List.map_append
abbrev Q6 := @List.mem_singleton
abbrev CP := @List.length_map
abbrev D1 := @List.getElem?_eq_getElem
abbrev CN := @List.map_cons
abbrev DO := @List.take_succ_eq_append_getElem
abbrev A7h := @List.mem_map
abbrev C2 := @List.mem_cons
abbrev RD := @List.pairwise_cons
abbrev A7k := @List.pairwise_append
abbrev C6 := @List.append_assoc
abbrev EY := @List.getElem?_set_self
abbrev CY := @List.cons_append
abbrev C3 := @List.nil_append
abbrev FB := @Array.getElem?_setIfInBounds_self_of_lt
abbrev DF := @Array.replicate_succ
abbrev DG := @Array.replicate_zero
abbrev EC := @List.take_of_length_le
abbrev DI := @List.append_toArray
abbrev A7u := @Array.getElem?_eq_some_iff
abbrev A7v := @List.length_eq_zero_iff
abbrev DJ := @List.push_toArray
abbrev EZ := @List.length_singleton
abbrev CJ := @beq_eq_false_iff_ne
abbrev EQ := @Option.some.injEq
abbrev EB := @List.map_nil
abbrev DT := @Option.some.inj
abbrev EJ := @List.not_mem_nil
abbrev DN := @Nat.lt_succ_self
abbrev FM := @List.getElem_cons_zero
abbrev Da := @List.sum_cons
abbrev fh := @List.map_toArray
abbrev Hj := @Nat.lt_irrefl
abbrev Db := @Bool.eq_iff_iff
abbrev DV := @List.flatten_cons
abbrev GZ := @Array.getElem?_setIfInBounds_ne
abbrev Ek := @Bool.false_ne_true
abbrev FN := @Int.eq_ofNat_of_zero_le
abbrev JC := @Nat.mul_le_mul_right
abbrev C5 := @if_false
abbrev DK := @Nat.zero_le
abbrev IX := @Nat.le_succ
abbrev ES := @decide_eq_false_iff_not
abbrev FZ := @List.drop_eq_getElem_cons
abbrev EU := @List.getElem_map
abbrev DX := @List.mem_cons_self
abbrev GH := @List.drop_of_length_le
abbrev A8m := @List.pairwise_singleton
abbrev EK := @or_false
abbrev Hv := @Array.getElem?_eq_getElem
abbrev JD := @List.mem_of_getElem?
abbrev fj := @List.map_singleton
abbrev FO := @decide_eq_false
abbrev E0 := @List.mem_map_of_mem
abbrev EV := @Nat.lt_or_ge
abbrev fk := @List.getElem?_take
abbrev fl := @List.getElem?_drop
abbrev IY := @List.take_length
abbrev Fo := @List.length_take
abbrev GI := @Nat.add_zero
abbrev Ge := @Array.getElem?_modify
abbrev EN := @decide_eq_true
abbrev FX := @List.sum_append
abbrev ER := @Nat.zero_mul
abbrev IV := @List.sum_nil
abbrev FY := @List.map_map
abbrev ET := @List.flatten_append
abbrev JB := @Nat.eq_zero_or_pos
abbrev IW := @List.sizeOf_lt_of_mem
abbrev fi := @List.mem_or_eq_of_mem_set
abbrev D3 := @beq_iff_eq
abbrev Gk := @List.length_set
abbrev LI := @List.getElem?_map
abbrev FP := @Nat.succ_mul
abbrev JY := @List.map_congr_left
abbrev LJ := @Nat.le_max_right
abbrev LK := @Array.getElem?_eq_none
abbrev JZ := @Array.getElem?_map
abbrev RF := @Prod.mk.inj
abbrev Jx := @Option.map_some
abbrev Ft := @List.take_append_drop
abbrev MU := @Array.getElem?_append_right
abbrev F3 := @and_true
abbrev MV := @Array.getElem?_push_size
abbrev EO := @List.append_nil
abbrev MW := @List.getElem?_cons_zero
abbrev MX := @List.getElem?_cons_succ
abbrev J0 := @List.getElem_cons_succ
abbrev RG := @List.drop_eq_nil_of_le
abbrev MY := @Array.getElem?_push_lt
abbrev J1 := @Bool.not_true
abbrev J2 := @Nat.le_max_left
abbrev LL := @Array.size_push
abbrev KA := @List.getElem?_append_right
abbrev LM := @List.exists_cons_of_ne_nil
abbrev GK := @Nat.le_of_lt
abbrev LN := @List.drop_zero
abbrev JE := @List.getElem?_append_left
abbrev fm := @List.getElem_append_left
abbrev JX := @List.flatten_nil
abbrev RE := @List.zipWith_cons_cons
theorem AU {p:Prop}(h:p:=by omega):p:=h
theorem AY {p:Prop}(h:p:=by kernel_rfl):p:=h
theorem AW {p:Prop}(h:p:=by simp):p:=h
theorem A0 {p:Prop}(h:p:=by rfl):p:=h
theorem BA {p:Prop}(h:p:=by assumption):p:=h
theorem AZ {p:Prop}(h:p:=by decide):p:=h
theorem A5 {p:Prop}(h:p:=by first | assumption | (simp;done) | (simp;omega)):p:=h
theorem Ax {p:Prop}(h:p:=by simp;omega):p:=h
theorem BB {p:Prop}(h:p:=by simp+contextual):p:=h
theorem BI {p:Prop}(h:p:=by unfold maxLen;omega):p:=h
theorem BE {p:Prop}(h:p:=by decide+kernel):p:=h
theorem BQ {p:Prop}(h:p:=by first | (simp;omega) | omega):p:=h
theorem BJ {p:Prop}(h:p:=by simp[Act.eval]):p:=h
theorem yAh {p:Prop}(h:p:=by simp only[tot,CX,FX,CN,EB,Da,IV] at htt ⊢;omega):p:=h
theorem BW {p:Prop}(h:p:=by simp[Value.ownBlock];omega):p:=h
theorem BU {p:Prop}(h:p:=by simpa using hlt):p:=h
theorem BX {p:Prop}(h:p:=by rw[CO];exact hown6):p:=h
theorem BK {p:Prop}(h:p:=by trivial):p:=h
theorem BM {p:Prop}(h:p:=by cases h):p:=h
theorem yBd {p:Prop}(h:p:=by rw[World.size_alloc];omega):p:=h
theorem yBe {p:Prop}(h:p:=by have:=(hS.lt (.head _)).2;omega):p:=h
theorem Bn {p:Prop}(h:p:=by simpa using hi):p:=h
theorem yBg {p:Prop}(h:p:=by first | rfl | (simp[Act.eval];done)):p:=h
theorem Br {p:Prop}(h:p:=by simpa using h):p:=h
theorem yBi {p:Prop}(h:p:=by rw[CP];exact hown):p:=h
theorem BZ {p:Prop}(h:p:=by rw[HX.out]):p:=h
theorem Bm {p:Prop}(h:p:=by assumption):p:=h
theorem yCb {p:Prop}(h:p:=by first | omega | (rw[IntKind.wrap_i64];omega)):p:=h
theorem yCc {p:Prop}(h:p:=by unfold i64;omega):p:=h
theorem yCd {p:Prop}(h:p:=by simp only;omega):p:=h
theorem BS {p:Prop}(h:p:=by omega):p:=h
theorem Bt {p:Prop}(h:p:=by simp[base]):p:=h
theorem yCg {p:Prop}(h:p:=by rw[CP];exact B7 _):p:=h
theorem yCh {p:Prop}(h:p:=by intro k hk;cases hk;omega):p:=h
theorem yCi {p:Prop}(h:p:=by rw[FO HD.out]):p:=h
theorem yCj {p:Prop}(h:p:=by have:=hb.size;simp;omega):p:=h
theorem yDa {p:Prop}(h:p:=by rw[CP];exact hlt):p:=h
theorem yDb {p:Prop}(h:p:=by unfold Dl;rw[if_neg h1]):p:=h
theorem yDc {p:Prop}(h:p:=by rw[show Ac (LC op ds a1 c1).n=1 from by rw[Cj];rfl];show Ac n+1<=_;omega):p:=h
theorem yDd {p:Prop}(h:p:=by rw[World.frozen?_setCell];exact hfz):p:=h
theorem yDe {p:Prop}(h:p:=by first | (simp;done) | (simp;omega)):p:=h
theorem Bw {p:Prop}(h:p:=by simp[hy]):p:=h
theorem B0 {p:Prop}(h:p:=by simp[hx]):p:=h
theorem yDh {p:Prop}(h:p:=by simpa using λb hb=>Nat.lt_succ_of_lt (Nat.lt_succ_of_lt (hbl b hb))):p:=h
theorem yDi {p:Prop}(h:p:=by simp[Value.ownBlock]):p:=h
theorem yDj {p:Prop}(h:p:=by simp only[CC];omega):p:=h
theorem yEa {p:Prop}(h:p:=by right;right;simp[ha]):p:=h
theorem yEb {p:Prop}(h:p:=by simp[baseD]):p:=h
theorem yEc {p:Prop}(h:p:=by rw[FO HN.out]):p:=h
theorem yEd {p:Prop}(h:p:=by simp at hop ⊢;exact .inr hop):p:=h
theorem yEe {p:Prop}(h:p:=by rw[h1];exact hA.mono (LJ _ _)):p:=h
theorem yEf {p:Prop}(h:p:=by rw[A7 AU];exact h0):p:=h
theorem yEg {p:Prop}(h:p:=by rw[A7 hl];exact hy'):p:=h
theorem yEh {p:Prop}(h:p:=by have:=(List.getElem?_eq_some_iff.1 hj).1;have:=hrow.1;omega):p:=h
theorem yEi {p:Prop}(h:p:=by rw[hv];rfl):p:=h
theorem yEj {p:Prop}(h:p:=by rw[dV.out]):p:=h
theorem yFa {p:Prop}(h:p:=by intro h;omega):p:=h
theorem yFb {p:Prop}(h:p:=by simp[Go.Conc.base]):p:=h
theorem yFc {p:Prop}(h:p:=by have e:Stil.BG n=Ac n:=if_neg (by rw[hn];exact Ek);omega):p:=h
theorem yFd {p:Prop}(h:p:=by rw[hi0];exact e1):p:=h
theorem yFe {p:Prop}(h:p:=by have:=(Jh h0 hx).2;omega):p:=h
theorem yFf {p:Prop}(h:p:=by rw[h];exact Ek):p:=h
theorem yFg {p:Prop}(h:p:=by rw[e];exact Ek):p:=h
theorem yFh {p:Prop}(h:p:=by rw[FO HF2.out]):p:=h
theorem AA {α:Sort _}(t:α):∃x,x=t:=⟨_,rfl⟩
abbrev AB (n:Int):Go.Value:=.int .i64 n
abbrev AE (p:Option Go.Addr)(n c:Nat):Go.Value:=.slice p n c
abbrev AG:Go.Value:=.slice none 0 0
abbrev AH (b:Nat):Go.Value:=.pointer (some ⟨b,0,none⟩)
abbrev AK (b o:Nat):Go.Addr:=⟨b,o,none⟩
abbrev AL (w:Go.World)(o:Nat):Go.Addr:=⟨w.heap.size,o,none⟩
abbrev AO (w v:Go.World):Prop:=Go.RowKit.Below w.heap.size w v
abbrev AN (w:Go.World)(v:Go.Value)(e:Go.Ending)(u:Go.World):Prop:=e=.returned v/\Go.RowKit.Below w.heap.size w u
abbrev _root_.Go.World.z(w:Go.World):Nat:=w.heap.size
abbrev AQ:Go.Value:=Go.undef
abbrev _root_.List.l{α:Type _}(l:List α):Nat:=l.length
abbrev _root_.Go.World.c(w:Go.World)(a:Go.Addr):Option Go.Value:=w.cell? a
abbrev _root_.Go.World.f(w:Go.World)(a:Go.Addr):Bool:=w.frozen? a
abbrev _root_.Go.World.s(w:Go.World)(a:Go.Addr)(v:Go.Value):Go.World:=w.setCell a v
abbrev _root_.Go.Value.b(v:Go.Value):Option Nat:=v.ownBlock
abbrev _root_.Eq.tr:=@Eq.trans
abbrev _root_.Go.RowKit.Below.tr:=@Go.RowKit.Below.trans
abbrev _root_.Go.RowKit.Below.mo:=@Go.RowKit.Below.mono
abbrev _root_.Go.Calls.mo:=@Go.Calls.mono
abbrev _root_.Iff.tr:=@Iff.trans
