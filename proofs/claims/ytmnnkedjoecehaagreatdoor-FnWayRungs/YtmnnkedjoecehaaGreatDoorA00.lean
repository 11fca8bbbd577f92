import Derived.Below
namespace Go
end Go
abbrev CB := @Nat.lt_of_lt_of_le
abbrev CO := @List.length_append
abbrev CH := @List.length_cons
abbrev CP := @List.length_nil
abbrev Cd := @List.size_toArray
abbrev CN := @List.mem_cons_of_mem
abbrev CG := @Nat.le_refl
abbrev DU := @Bool.false_eq_true
abbrev CJ := @List.getElem_mem
abbrev Da := @List.mem_append_right
abbrev CV := @Nat.zero_add
abbrev CY := @List.getElem?_set_ne
abbrev E0 := @List.mem_append_left
abbrev CM := @Nat.le_trans
abbrev EN := @List.mem_append
abbrev CU := @List.map_append
abbrev oa := @List.mem_singleton
abbrev CW := @List.length_map
abbrev DW := @List.getElem?_eq_getElem
abbrev CQ := @List.map_cons
abbrev EB := @List.take_succ_eq_append_getElem
abbrev oc := @List.mem_map
abbrev C7 := @List.mem_cons
abbrev DX := @List.pairwise_cons
abbrev JW := @List.pairwise_append
abbrev EI := @List.append_assoc
abbrev Dm := @List.getElem?_set_self
abbrev C4 := @List.cons_append
abbrev C5 := @List.nil_append
abbrev FH := @Array.getElem?_setIfInBounds_self_of_lt
abbrev DK := @Array.replicate_succ
abbrev DL := @Array.replicate_zero
abbrev EC := @List.take_of_length_le
abbrev DN := @List.append_toArray
abbrev A9z := @Array.getElem?_eq_some_iff
abbrev A90 := @List.length_eq_zero_iff
abbrev DJ := @List.push_toArray
abbrev EF := @List.length_singleton
abbrev A93 := @List.nodup_append
abbrev CS := @beq_eq_false_iff_ne
abbrev C0 := @Option.some.injEq
abbrev C6 := @List.map_nil
abbrev DG := @Option.some.inj
abbrev EA := @List.not_mem_nil
abbrev DV := @Nat.lt_succ_self
abbrev EO := @List.getElem_cons_zero
abbrev DO := @List.sum_cons
abbrev ES := @List.map_toArray
abbrev Bad := @Nat.lt_irrefl
abbrev DY := @Bool.eq_iff_iff
abbrev D3 := @List.flatten_cons
abbrev Hj := @Array.getElem?_setIfInBounds_ne
abbrev FV := @Bool.false_ne_true
abbrev FW := @Int.eq_ofNat_of_zero_le
abbrev E6 := @Nat.mul_le_mul_right
abbrev DC := @if_false
abbrev DZ := @Nat.zero_le
abbrev E7 := @List.Sublist.refl
abbrev Db := @Nat.le_succ
abbrev Ft := @decide_eq_false_iff_not
abbrev F3 := @List.drop_eq_getElem_cons
abbrev EH := @List.getElem_map
abbrev ET := @List.mem_cons_self
abbrev F4 := @List.drop_of_length_le
abbrev G2 := @List.pairwise_singleton
abbrev DR := @or_false
abbrev JQ := @Array.getElem?_eq_getElem
abbrev Hv := @List.mem_of_getElem?
abbrev G3 := @List.map_singleton
abbrev Fo := @decide_eq_false
abbrev FC := @List.mem_map_of_mem
abbrev E4 := @Nat.lt_or_ge
abbrev G0 := @List.getElem?_take
abbrev G1 := @List.getElem?_drop
abbrev IV := @List.take_length
abbrev FP := @List.length_take
abbrev ER := @Nat.add_zero
abbrev JO := @Array.getElem?_modify
abbrev JP := @decide_eq_true
abbrev GF := @List.sum_append
abbrev KF := @List.getElem?_eq_none
abbrev FQ := @Nat.zero_mul
abbrev GH := @List.sum_nil
abbrev EZ := @List.map_map
abbrev FD := @List.flatten_append
abbrev KG := @Nat.eq_zero_or_pos
abbrev M4 := @List.sizeOf_lt_of_mem
abbrev M5 := @List.mem_or_eq_of_mem_set
abbrev ED := @beq_iff_eq
abbrev JR := @List.length_set
abbrev JS := @List.getElem?_map
abbrev G4 := @Nat.succ_mul
abbrev JU := @List.map_congr_left
abbrev M6 := @Nat.le_max_right
abbrev M7 := @Array.getElem?_eq_none
abbrev K9 := @Array.getElem?_map
abbrev IW := @Prod.mk.inj
abbrev IX := @Option.map_some
abbrev IA := @List.take_append_drop
abbrev RV := @Array.getElem?_append_right
abbrev LA := @List.ext_getElem?
abbrev FG := @and_true
abbrev M8 := @Array.getElem?_push_size
abbrev GI := @List.append_nil
abbrev RX := @List.getElem?_cons_zero
abbrev RQ := @List.getElem?_cons_succ
abbrev K5 := @List.getElem_cons_succ
abbrev RR := @List.drop_eq_nil_of_le
abbrev RS := @Array.getElem?_push_lt
abbrev K6 := @Bool.not_true
abbrev K7 := @Nat.le_max_left
abbrev K8 := @Array.size_push
abbrev RU := @List.getElem?_range
abbrev ep := @List.getElem?_append_right
abbrev M3 := @List.exists_cons_of_ne_nil
abbrev KH := @Nat.ne_of_lt
abbrev LC := @Nat.le_of_lt
abbrev M9 := @List.nodup_nil
abbrev NA := @List.drop_zero
abbrev er := @List.getElem?_append_left
abbrev NC := @List.getElem_append_left
abbrev KI := @List.mem_nil_iff
abbrev ND := @List.flatten_nil
abbrev ez := @List.zipWith_cons_cons
theorem AQ {p:Prop}(h:p:=by omega):p:=h
theorem AX {p:Prop}(h:p:=by kernel_rfl):p:=h
theorem AU {p:Prop}(h:p:=by simp):p:=h
theorem Ab {p:Prop}(h:p:=by rfl):p:=h
theorem BB {p:Prop}(h:p:=by assumption):p:=h
theorem AY {p:Prop}(h:p:=by decide):p:=h
theorem A4 {p:Prop}(h:p:=by first | assumption | (simp;done) | (simp;omega)):p:=h
theorem BD {p:Prop}(h:p:=by intro e;simp only[C0] at e;omega):p:=h
theorem BH {p:Prop}(h:p:=by intro j hj;simp only[C0] at hj;omega):p:=h
theorem A6 {p:Prop}(h:p:=by unfold maxLen;omega):p:=h
theorem Ax {p:Prop}(h:p:=by simp;omega):p:=h
theorem BX {p:Prop}(h:p:=by have:=bG.out;show w.heap.size+1<W.heap.size;omega):p:=h
theorem yAg {p:Prop}(h:p:=by intro u hu;simp only[C7,EA,DR] at hu;rcases hu with rfl | rfl | rfl | rfl | rfl | rfl<;>rfl):p:=h
theorem B1 {p:Prop}(h:p:=by first | rfl | (simp[Act.eval];done) | (simp[Act.eval,CO];omega)):p:=h
theorem BI {p:Prop}(h:p:=by decide+kernel):p:=h
theorem BZ {p:Prop}(h:p:=by first | (simp;done) | (simp;omega)):p:=h
theorem BU {p:Prop}(h:p:=by first | (simp;omega) | omega):p:=h
theorem BE {p:Prop}(h:p:=by cases h):p:=h
theorem Bn {p:Prop}(h:p:=by simp only[World.size_alloc];omega):p:=h
theorem BS {p:Prop}(h:p:=by exact Il _ _ _ _ AU):p:=h
theorem BM {p:Prop}(h:p:=by simp[Act.eval]):p:=h
theorem BF {p:Prop}(h:p:=by omega):p:=h
theorem yBg {p:Prop}(h:p:=by have:=bG.out;show w.heap.size<W.heap.size;omega):p:=h
theorem B0 {p:Prop}(h:p:=by rw[World.size_alloc];omega):p:=h
theorem yBi {p:Prop}(h:p:=by simpa[Value.ownBlock] using e.symm):p:=h
theorem yBj {p:Prop}(h:p:=by have h:=(AOk.T _ (V7 hrw).1).2.2.2;rw[Bz.arm_eq] at h;rw[<-hm];exact h):p:=h
theorem BV {p:Prop}(h:p:=by simpa using h):p:=h
theorem BN {p:Prop}(h:p:=by simp[hy]):p:=h
theorem Bm {p:Prop}(h:p:=by simpa using hlt):p:=h
theorem Br {p:Prop}(h:p:=by rw[e];exact h0):p:=h
theorem BQ {p:Prop}(h:p:=by simp[hx]):p:=h
theorem yCf {p:Prop}(h:p:=by intro u hu;simp only[C7,EA,DR] at hu;rcases hu with rfl | rfl<;>rfl):p:=h
theorem yCg {p:Prop}(h:p:=by simp only[C0] at e;exact e.symm):p:=h
theorem yCh {p:Prop}(h:p:=by intro u hu;simp at hu;rcases hu with rfl | rfl | rfl | rfl<;>rfl):p:=h
theorem yCi {p:Prop}(h:p:=by intro x hx e;rcases List.mem_cons.1 hx with rfl | hx;(have:=hvl _ e;simp at this;omega);(have:=nG x (hsub.subset hx) _ e;omega)):p:=h
theorem yCj {p:Prop}(h:p:=by have:=(ho.lt _ hb).1;omega):p:=h
theorem yDa {p:Prop}(h:p:=by have h1:=bG.out;simp;omega):p:=h
theorem Bt {p:Prop}(h:p:=by rw[HX.out]):p:=h
theorem Bw {p:Prop}(h:p:=by assumption):p:=h
theorem yDd {p:Prop}(h:p:=by simpa using hrow):p:=h
theorem yDe {p:Prop}(h:p:=by exact jG.trans (hb2.mono jG.size)):p:=h
theorem yDf {p:Prop}(h:p:=by rw[yR.out];simp[iV.out,MI.inst,mi0,Eo.elem,Iw]):p:=h
theorem yDg {p:Prop}(h:p:=by unfold i64;omega):p:=h
theorem yDh {p:Prop}(h:p:=by simp[Value.ownBlock]):p:=h
theorem yDi {p:Prop}(h:p:=by rw[h];exact FV):p:=h
theorem B5 {p:Prop}(h:p:=by simp[base]):p:=h
theorem yEa {p:Prop}(h:p:=by exact(Below.refl _ _).drew):p:=h
theorem yEb {p:Prop}(h:p:=by intro k hk;cases hk;omega):p:=h
theorem B7 {p:Prop}(h:p:=by simp[CX]):p:=h
theorem yEd {p:Prop}(h:p:=by rw[CW];exact hlt):p:=h
theorem yEe {p:Prop}(h:p:=by rw[CO];exact hr3):p:=h
theorem yEf {p:Prop}(h:p:=by unfold Dw;rw[if_neg h1]):p:=h
theorem yEg {p:Prop}(h:p:=by rw[World.frozen?_setCell];exact hfz):p:=h
theorem yEh {p:Prop}(h:p:=by rw[hv];rfl):p:=h
theorem yEi {p:Prop}(h:p:=by have:=bG.out;have:=hb5.size;omega):p:=h
theorem yEj {p:Prop}(h:p:=by right;right;simp[ha]):p:=h
theorem yFa {p:Prop}(h:p:=by simp[baseD]):p:=h
theorem yFb {p:Prop}(h:p:=by simp at hop ⊢;exact .inr hop):p:=h
theorem yFc {p:Prop}(h:p:=by rw[h1];exact hA.mono (M6 _ _)):p:=h
theorem yFd {p:Prop}(h:p:=by have:=hb5.size;have:=hb.size;simp only[World.size_alloc];omega):p:=h
theorem yFe {p:Prop}(h:p:=by rw[Bd AQ];exact h0):p:=h
theorem yFf {p:Prop}(h:p:=by rw[Bd hl];exact hy'):p:=h
theorem yFg {p:Prop}(h:p:=by rw[CW];exact CG _):p:=h
theorem yFh {p:Prop}(h:p:=by intro h;omega):p:=h
theorem yFi {p:Prop}(h:p:=by simp[Go.Conc.base]):p:=h
theorem yFj {p:Prop}(h:p:=by have:=eF.out;omega):p:=h
theorem yGa {p:Prop}(h:p:=by have:=bG.out;omega):p:=h
theorem yGb {p:Prop}(h:p:=by have:=h.1;simpa using this):p:=h
theorem yGc {p:Prop}(h:p:=by rw[hi0];exact e1):p:=h
theorem yGd {p:Prop}(h:p:=by have:=dS.1;omega):p:=h
theorem yGe {p:Prop}(h:p:=by show _<=W.heap.size;omega):p:=h
theorem yGf {p:Prop}(h:p:=by intro u hu;simp at hu;rcases hu with rfl | rfl<;>rfl):p:=h
theorem yGg {p:Prop}(h:p:=by have:=(Kz h0 hx).2;omega):p:=h
theorem yGh {p:Prop}(h:p:=by have:=(eU kb kt HKB nH.out).1;simp only[CO];omega):p:=h
theorem AA {α:Sort _}(t:α):∃x,x=t:=⟨_,rfl⟩
abbrev AB (n:Int):Go.Value:=.int .i64 n
abbrev AE (p:Option Go.Addr)(n c:Nat):Go.Value:=.slice p n c
abbrev AG:Go.Value:=.slice none 0 0
abbrev AH (b:Nat):Go.Value:=.pointer (some ⟨b,0,none⟩)
abbrev AK (b o:Nat):Go.Addr:=⟨b,o,none⟩
abbrev AL (w:Go.World)(o:Nat):Go.Addr:=⟨w.heap.size,o,none⟩
abbrev AO (w v:Go.World):Prop:=Go.RowKit.Below w.heap.size w v
abbrev AN (w:Go.World)(v:Go.Value)(e:Go.Ending)(u:Go.World):Prop:=e=.returned v/\Go.RowKit.Below w.heap.size w u
