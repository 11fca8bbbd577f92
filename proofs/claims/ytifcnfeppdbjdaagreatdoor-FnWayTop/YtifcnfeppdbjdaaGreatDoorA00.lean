import Derived.Below
namespace Go
end Go
abbrev CB := @Nat.lt_of_lt_of_le
abbrev CM := @List.length_append
abbrev CH := @List.length_cons
abbrev CO := @List.length_nil
abbrev Cd := @List.size_toArray
abbrev CQ := @List.mem_cons_of_mem
abbrev CG := @Nat.le_refl
abbrev DU := @Bool.false_eq_true
abbrev CN := @List.getElem_mem
abbrev D3 := @List.mem_append_right
abbrev CV := @Nat.zero_add
abbrev CY := @List.getElem?_set_ne
abbrev E1 := @List.mem_append_left
abbrev CJ := @Nat.le_trans
abbrev E7 := @List.mem_append
abbrev CU := @List.map_append
abbrev oY := @List.mem_singleton
abbrev CW := @List.length_map
abbrev DX := @List.getElem?_eq_getElem
abbrev CP := @List.map_cons
abbrev D2 := @List.take_succ_eq_append_getElem
abbrev oZ := @List.mem_map
abbrev DF := @List.mem_cons
abbrev EQ := @List.pairwise_cons
abbrev A9p := @List.pairwise_append
abbrev EV := @List.append_assoc
abbrev Db := @List.getElem?_set_self
abbrev C4 := @List.cons_append
abbrev C5 := @List.nil_append
abbrev E9 := @Array.getElem?_setIfInBounds_self_of_lt
abbrev DN := @Array.replicate_succ
abbrev DO := @Array.replicate_zero
abbrev EA := @List.take_of_length_le
abbrev DR := @List.append_toArray
abbrev A9z := @Array.getElem?_eq_some_iff
abbrev A90 := @List.length_eq_zero_iff
abbrev DL := @List.push_toArray
abbrev ED := @List.length_singleton
abbrev A93 := @List.nodup_append
abbrev CS := @beq_eq_false_iff_ne
abbrev CZ := @Option.some.injEq
abbrev C3 := @List.map_nil
abbrev DG := @Option.some.inj
abbrev Da := @List.not_mem_nil
abbrev DV := @Nat.lt_succ_self
abbrev EP := @List.getElem_cons_zero
abbrev DW := @List.sum_cons
abbrev EL := @List.map_toArray
abbrev Bad := @Nat.lt_irrefl
abbrev DY := @Bool.eq_iff_iff
abbrev EB := @List.flatten_cons
abbrev G0 := @Array.getElem?_setIfInBounds_ne
abbrev FO := @Bool.false_ne_true
abbrev FP := @Int.eq_ofNat_of_zero_le
abbrev FD := @Nat.mul_le_mul_right
abbrev C7 := @if_false
abbrev DI := @Nat.zero_le
abbrev Ek := @List.Sublist.refl
abbrev DZ := @Nat.le_succ
abbrev FQ := @decide_eq_false_iff_not
abbrev GQ := @List.drop_eq_getElem_cons
abbrev EI := @List.getElem_map
abbrev E4 := @List.mem_cons_self
abbrev GR := @List.drop_of_length_le
abbrev G1 := @List.pairwise_singleton
abbrev DK := @or_false
abbrev JI := @Array.getElem?_eq_getElem
abbrev G2 := @List.mem_of_getElem?
abbrev GU := @List.map_singleton
abbrev FW := @decide_eq_false
abbrev FX := @List.mem_map_of_mem
abbrev EZ := @Nat.lt_or_ge
abbrev GN := @List.getElem?_take
abbrev GO := @List.getElem?_drop
abbrev Gk := @List.take_length
abbrev FY := @List.length_take
abbrev EO := @Nat.add_zero
abbrev JG := @Array.getElem?_modify
abbrev JH := @decide_eq_true
abbrev GV := @List.sum_append
abbrev J2 := @List.getElem?_eq_none
abbrev FG := @Nat.zero_mul
abbrev FH := @List.sum_nil
abbrev FI := @List.map_map
abbrev E6 := @List.flatten_append
abbrev KA := @Nat.eq_zero_or_pos
abbrev MX := @List.sizeOf_lt_of_mem
abbrev MY := @List.mem_or_eq_of_mem_set
abbrev EC := @beq_iff_eq
abbrev JJ := @List.length_set
abbrev JK := @List.getElem?_map
abbrev G3 := @Nat.succ_mul
abbrev JL := @List.map_congr_left
abbrev MZ := @Nat.le_max_right
abbrev M1 := @Array.getElem?_eq_none
abbrev K1 := @Array.getElem?_map
abbrev IF := @Prod.mk.inj
abbrev JM := @Option.map_some
abbrev IG := @List.take_append_drop
abbrev RO := @Array.getElem?_append_right
abbrev K2 := @List.ext_getElem?
abbrev E0 := @and_true
abbrev M3 := @Array.getElem?_push_size
abbrev G4 := @List.append_nil
abbrev RP := @List.getElem?_cons_zero
abbrev RH := @List.getElem?_cons_succ
abbrev J1 := @List.getElem_cons_succ
abbrev RI := @List.drop_eq_nil_of_le
abbrev RJ := @Array.getElem?_push_lt
abbrev Ks := @Bool.not_true
abbrev Kx := @Nat.le_max_left
abbrev K0 := @Array.size_push
abbrev RN := @List.getElem?_range
abbrev MV := @List.getElem?_append_right
abbrev MW := @List.exists_cons_of_ne_nil
abbrev K3 := @Nat.ne_of_lt
abbrev K4 := @Nat.le_of_lt
abbrev M4 := @List.nodup_nil
abbrev M5 := @List.drop_zero
abbrev eR := @List.getElem?_append_left
abbrev eS := @List.getElem_append_left
abbrev M6 := @List.mem_nil_iff
abbrev RQ := @List.flatten_nil
abbrev eT := @List.zipWith_cons_cons
theorem AQ {p:Prop}(h:p:=by omega):p:=h
theorem AX {p:Prop}(h:p:=by kernel_rfl):p:=h
theorem AU {p:Prop}(h:p:=by simp):p:=h
theorem Ao {p:Prop}(h:p:=by rfl):p:=h
theorem BD {p:Prop}(h:p:=by assumption):p:=h
theorem AY {p:Prop}(h:p:=by decide):p:=h
theorem A4 {p:Prop}(h:p:=by first | assumption | (simp;done) | (simp;omega)):p:=h
theorem BA {p:Prop}(h:p:=by intro e;simp only[CZ] at e;omega):p:=h
theorem BH {p:Prop}(h:p:=by intro j hj;simp only[CZ] at hj;omega):p:=h
theorem A6 {p:Prop}(h:p:=by unfold maxLen;omega):p:=h
theorem Ax {p:Prop}(h:p:=by simp;omega):p:=h
theorem BW {p:Prop}(h:p:=by have:=bH.out;show w.heap.size+1<W.heap.size;omega):p:=h
theorem BO {p:Prop}(h:p:=by first | (simp;omega) | omega):p:=h
theorem yAh {p:Prop}(h:p:=by intro u hu;simp only[DF,Da,DK] at hu;rcases hu with rfl | rfl | rfl | rfl | rfl | rfl<;>rfl):p:=h
theorem B1 {p:Prop}(h:p:=by first | rfl | (simp[Act.eval];done) | (simp[Act.eval,CM];omega)):p:=h
theorem BI {p:Prop}(h:p:=by decide+kernel):p:=h
theorem BX {p:Prop}(h:p:=by first | (simp;done) | (simp;omega)):p:=h
theorem BE {p:Prop}(h:p:=by cases h):p:=h
theorem BP {p:Prop}(h:p:=by exact H5 _ _ _ _ AU):p:=h
theorem BM {p:Prop}(h:p:=by simp[Act.eval]):p:=h
theorem BF {p:Prop}(h:p:=by omega):p:=h
theorem Bw {p:Prop}(h:p:=by simp only[World.size_alloc];omega):p:=h
theorem Bm {p:Prop}(h:p:=by rw[World.size_alloc];omega):p:=h
theorem yBh {p:Prop}(h:p:=by have:=bH.out;show w.heap.size<W.heap.size;omega):p:=h
theorem BR {p:Prop}(h:p:=by simpa using h):p:=h
theorem yBj {p:Prop}(h:p:=by simpa[Value.ownBlock] using e.symm):p:=h
theorem yCa {p:Prop}(h:p:=by have h:=(AOk.T _ (Vp hrw).1).2.2.2;rw[Bq.arm_eq] at h;rw[<-hm];exact h):p:=h
theorem BZ {p:Prop}(h:p:=by simpa using hlt):p:=h
theorem BS {p:Prop}(h:p:=by simp[hx]):p:=h
theorem yCd {p:Prop}(h:p:=by intro u hu;simp only[DF,Da,DK] at hu;rcases hu with rfl | rfl<;>rfl):p:=h
theorem yCe {p:Prop}(h:p:=by simp only[CZ] at e;exact e.symm):p:=h
theorem yCf {p:Prop}(h:p:=by intro u hu;simp at hu;rcases hu with rfl | rfl | rfl | rfl<;>rfl):p:=h
theorem yCg {p:Prop}(h:p:=by intro x hx e;rcases List.mem_cons.1 hx with rfl | hx;(have:=hvl _ e;simp at this;omega);(have:=nC x (hsub.subset hx) _ e;omega)):p:=h
theorem B0 {p:Prop}(h:p:=by rw[e];exact h0):p:=h
theorem yCi {p:Prop}(h:p:=by have:=(ho.lt _ hb).1;omega):p:=h
theorem yCj {p:Prop}(h:p:=by have h1:=bH.out;simp;omega):p:=h
theorem Bn {p:Prop}(h:p:=by rw[HX.out]):p:=h
theorem Br {p:Prop}(h:p:=by assumption):p:=h
theorem yDc {p:Prop}(h:p:=by simpa using hrow):p:=h
theorem yDd {p:Prop}(h:p:=by intro u hu;simp at hu;rcases hu with rfl | rfl<;>rfl):p:=h
theorem yDe {p:Prop}(h:p:=by exact jD.trans (hb2.mono jD.size)):p:=h
theorem yDf {p:Prop}(h:p:=by rw[yF.out];simp[fU.out,MI.inst,mi0,Ej.elem,I9]):p:=h
theorem Bt {p:Prop}(h:p:=by simp[hy]):p:=h
theorem yDh {p:Prop}(h:p:=by unfold i64;omega):p:=h
theorem yDi {p:Prop}(h:p:=by simp[Value.ownBlock]):p:=h
theorem yDj {p:Prop}(h:p:=by rw[h];exact FO):p:=h
theorem B5 {p:Prop}(h:p:=by simp[base]):p:=h
theorem yEb {p:Prop}(h:p:=by exact(Below.refl _ _).drew):p:=h
theorem yEc {p:Prop}(h:p:=by intro k hk;cases hk;omega):p:=h
theorem B7 {p:Prop}(h:p:=by simp[CX]):p:=h
theorem yEe {p:Prop}(h:p:=by rw[CW];exact hlt):p:=h
theorem yEf {p:Prop}(h:p:=by rw[CM];exact hr3):p:=h
theorem yEg {p:Prop}(h:p:=by unfold Du;rw[if_neg h1]):p:=h
theorem yEh {p:Prop}(h:p:=by rw[World.frozen?_setCell];exact hfz):p:=h
theorem yEi {p:Prop}(h:p:=by rw[hv];rfl):p:=h
theorem yEj {p:Prop}(h:p:=by have:=bH.out;have:=hb5.size;omega):p:=h
theorem yFa {p:Prop}(h:p:=by right;right;simp[ha]):p:=h
theorem yFb {p:Prop}(h:p:=by simp[baseD]):p:=h
theorem yFc {p:Prop}(h:p:=by simp at hop ⊢;exact .inr hop):p:=h
theorem yFd {p:Prop}(h:p:=by rw[h1];exact hA.mono (MZ _ _)):p:=h
theorem yFe {p:Prop}(h:p:=by have:=hb5.size;have:=hb.size;simp only[World.size_alloc];omega):p:=h
theorem yFf {p:Prop}(h:p:=by rw[Bg AQ];exact h0):p:=h
theorem yFg {p:Prop}(h:p:=by rw[Bg hl];exact hy'):p:=h
theorem yFh {p:Prop}(h:p:=by rw[CW];exact CG _):p:=h
theorem yFi {p:Prop}(h:p:=by intro h;omega):p:=h
theorem yFj {p:Prop}(h:p:=by simp[Go.Conc.base]):p:=h
theorem yGa {p:Prop}(h:p:=by have:=bH.out;omega):p:=h
theorem yGb {p:Prop}(h:p:=by have:=h.1;simpa using this):p:=h
theorem yGc {p:Prop}(h:p:=by rw[hi0];exact e1):p:=h
theorem yGd {p:Prop}(h:p:=by have:=dQ.1;omega):p:=h
theorem yGe {p:Prop}(h:p:=by show _<=W.heap.size;omega):p:=h
theorem yGf {p:Prop}(h:p:=by have:=(Kz h0 hx).2;omega):p:=h
theorem yGg {p:Prop}(h:p:=by have:=(eP kb kt HKB nD.out).1;simp only[CM];omega):p:=h
theorem AA {α:Sort _}(t:α):∃x,x=t:=⟨_,rfl⟩
abbrev AB (n:Int):Go.Value:=.int .i64 n
abbrev AE (p:Option Go.Addr)(n c:Nat):Go.Value:=.slice p n c
abbrev AG:Go.Value:=.slice none 0 0
abbrev AH (b:Nat):Go.Value:=.pointer (some ⟨b,0,none⟩)
abbrev AK (b o:Nat):Go.Addr:=⟨b,o,none⟩
abbrev AL (w:Go.World)(o:Nat):Go.Addr:=⟨w.heap.size,o,none⟩
abbrev AO (w v:Go.World):Prop:=Go.RowKit.Below w.heap.size w v
abbrev AN (w:Go.World)(v:Go.Value)(e:Go.Ending)(u:Go.World):Prop:=e=.returned v/\Go.RowKit.Below w.heap.size w u
