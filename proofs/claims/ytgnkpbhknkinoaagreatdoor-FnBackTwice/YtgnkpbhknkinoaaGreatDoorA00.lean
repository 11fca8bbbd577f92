import Derived.Below
import Derived.Maps.AppendAt
namespace Go
end Go
abbrev DL:=@Nat.lt_of_lt_of_le
abbrev DT:=@List.length_append
abbrev DO:=@List.length_cons
abbrev DU:=@List.length_nil
abbrev Db:=@List.size_toArray
abbrev DY:=@List.mem_cons_of_mem
abbrev DK:=@Nat.le_refl
abbrev EZ:=@Bool.false_eq_true
abbrev DW:=@List.getElem_mem
abbrev EM:=@List.mem_append_right
abbrev ED:=@Nat.zero_add
abbrev EP:=@List.getElem?_set_ne
abbrev J0:=@List.mem_append_left
abbrev DR:=@Nat.le_trans
abbrev FU:=@List.mem_append
abbrev D2:=@List.map_append
abbrev fU:=@List.mem_singleton
abbrev DZ:=@List.length_map
abbrev E7:=@List.getElem?_eq_getElem
abbrev DX:=@List.map_cons
abbrev ER:=@List.take_succ_eq_append_getElem
abbrev Bbb:=@List.mem_map
abbrev EK:=@List.mem_cons
abbrev fW:=@List.pairwise_cons
abbrev Bbe:=@List.pairwise_append
abbrev EG:=@List.append_assoc
abbrev GY:=@List.getElem?_set_self
abbrev D4:=@List.cons_append
abbrev EB:=@List.nil_append
abbrev HQ:=@Array.getElem?_setIfInBounds_self_of_lt
abbrev ES:=@Array.replicate_succ
abbrev ET:=@Array.replicate_zero
abbrev FB:=@List.take_of_length_le
abbrev EU:=@List.append_toArray
abbrev Bbo:=@Array.getElem?_eq_some_iff
abbrev Bbp:=@List.length_eq_zero_iff
abbrev EV:=@List.push_toArray
abbrev FQ:=@List.length_singleton
abbrev DV:=@beq_eq_false_iff_ne
abbrev E9:=@Option.some.injEq
abbrev FD:=@List.map_nil
abbrev Ek:=@Option.some.inj
abbrev FG:=@List.not_mem_nil
abbrev EO:=@Nat.lt_succ_self
abbrev II:=@List.getElem_cons_zero
abbrev FK:=@List.sum_cons
abbrev Bb0:=@List.map_toArray
abbrev Kx:=@Nat.lt_irrefl
abbrev E6:=@Bool.eq_iff_iff
abbrev EN:=@List.flatten_cons
abbrev JI:=@Array.getElem?_setIfInBounds_ne
abbrev GF:=@Bool.false_ne_true
abbrev G4:=@Int.eq_ofNat_of_zero_le
abbrev J1:=@Nat.mul_le_mul_right
abbrev EH:=@if_false
abbrev EI:=@Nat.zero_le
abbrev JJ:=@Nat.le_succ
abbrev HZ:=@decide_eq_false_iff_not
abbrev GH:=@List.drop_eq_getElem_cons
abbrev FW:=@List.getElem_map
abbrev E1:=@List.mem_cons_self
abbrev IJ:=@List.drop_of_length_le
abbrev Bcg:=@List.pairwise_singleton
abbrev FH:=@or_false
abbrev J2:=@Array.getElem?_eq_getElem
abbrev LK:=@List.mem_of_getElem?
abbrev Bck:=@List.map_singleton
abbrev FM:=@decide_eq_false
abbrev IC:=@List.mem_map_of_mem
abbrev GI:=@Nat.lt_or_ge
abbrev Bco:=@List.getElem?_take
abbrev Bcp:=@List.getElem?_drop
abbrev KA:=@List.take_length
abbrev FN:=@List.length_take
abbrev IL:=@Nat.add_zero
abbrev JK:=@Array.getElem?_modify
abbrev FX:=@decide_eq_true
abbrev KB:=@List.sum_append
abbrev GZ:=@Nat.zero_mul
abbrev MU:=@List.sum_nil
abbrev IP:=@List.map_map
abbrev FY:=@List.flatten_append
abbrev LI:=@Nat.eq_zero_or_pos
abbrev MS:=@List.sizeOf_lt_of_mem
abbrev Bc2:=@List.mem_or_eq_of_mem_set
abbrev E0:=@beq_iff_eq
abbrev OY:=@List.length_set
abbrev OZ:=@List.getElem?_map
abbrev Ix:=@Nat.succ_mul
abbrev LJ:=@List.map_congr_left
abbrev Of:=@Nat.le_max_right
abbrev PC:=@Array.getElem?_eq_none
abbrev MV:=@Array.getElem?_map
abbrev fX:=@Prod.mk.inj
abbrev MW:=@Option.map_some
abbrev KC:=@List.take_append_drop
abbrev TA:=@Array.getElem?_append_right
abbrev Hh:=@and_true
abbrev TB:=@Array.getElem?_push_size
abbrev EW:=@List.append_nil
abbrev TD:=@List.getElem?_cons_zero
abbrev TF:=@List.getElem?_cons_succ
abbrev MX:=@List.getElem_cons_succ
abbrev fY:=@List.drop_eq_nil_of_le
abbrev TG:=@Array.getElem?_push_lt
abbrev MY:=@Bool.not_true
abbrev MZ:=@Nat.le_max_left
abbrev PD:=@Array.size_push
abbrev I0:=@List.getElem?_append_right
abbrev PE:=@List.exists_cons_of_ne_nil
abbrev EL:=@Nat.le_of_lt
abbrev PG:=@List.drop_zero
abbrev LL:=@List.getElem?_append_left
abbrev Bdv:=@List.getElem_append_left
abbrev M1:=@List.flatten_nil
abbrev fa:=@List.zipWith_cons_cons
theorem BS{p:Prop}(h:p:=by first|omega|(simp only[Go.World.z,List.l] at *;omega)):p:=h
theorem BW{p:Prop}(h:p:=by kernel_rfl):p:=h
theorem BU{p:Prop}(h:p:=by simp):p:=h
theorem Bn{p:Prop}(h:p:=by rfl):p:=h
theorem CB{p:Prop}(h:p:=by assumption):p:=h
theorem BZ{p:Prop}(h:p:=by decide):p:=h
theorem B5{p:Prop}(h:p:=by first | assumption | (simp;done) | (simp;omega)):p:=h
theorem Bw{p:Prop}(h:p:=by first|(simp;omega)|(simp[Go.World.z,List.l] at *;omega)):p:=h
theorem B8{p:Prop}(h:p:=by simp+contextual):p:=h
theorem CH{p:Prop}(h:p:=by unfold maxLen;omega):p:=h
theorem CG{p:Prop}(h:p:=by decide+kernel):p:=h
theorem CX{p:Prop}(h:p:=by first | (simp;omega) | omega):p:=h
theorem CM{p:Prop}(h:p:=by simp[Act.eval]):p:=h
theorem C3{p:Prop}(h:p:=by simp only[E9] at hq;omega):p:=h
theorem DC{p:Prop}(h:p:=by first | (simp;done) | (simp;omega)):p:=h
theorem Cd{p:Prop}(h:p:=by simpa using hlt):p:=h
theorem CQ{p:Prop}(h:p:=by cases h):p:=h
theorem CS{p:Prop}(h:p:=by trivial):p:=h
theorem C4{p:Prop}(h:p:=by rw[DZ];exact hown):p:=h
theorem yBd{p:Prop}(h:p:=by rw[World.size_alloc];omega):p:=h
theorem yBe{p:Prop}(h:p:=by simp only[DO];omega):p:=h
theorem CZ{p:Prop}(h:p:=by simp[hx]):p:=h
theorem C5{p:Prop}(h:p:=by simpa using h):p:=h
theorem yBh{p:Prop}(h:p:=by intro i hi;rcases List.mem_cons.1 hi with h | h;(rw[h];exact pR.out);(rw[List.mem_singleton.1 h];exact Qu BS)):p:=h
theorem yBi{p:Prop}(h:p:=by first | rfl | (simp[Act.eval];done)):p:=h
theorem yBj{p:Prop}(h:p:=by intro i hi;rw[List.mem_singleton.1 hi];exact zC.out):p:=h
theorem yCa{p:Prop}(h:p:=by intro i hi;rw[List.mem_singleton.1 hi];exact uB.out):p:=h
theorem yCb{p:Prop}(h:p:=by intro i hi;rw[List.mem_singleton.1 hi];exact Qu BS):p:=h
theorem CW{p:Prop}(h:p:=by first|omega|(simp only[Go.World.z,List.l] at *;omega)):p:=h
theorem C6{p:Prop}(h:p:=by rw[HX.out]):p:=h
theorem C7{p:Prop}(h:p:=by assumption):p:=h
theorem yCf{p:Prop}(h:p:=by first | omega | (rw[IntKind.wrap_i64];omega)):p:=h
theorem yCg{p:Prop}(h:p:=by unfold i64;omega):p:=h
theorem yCh{p:Prop}(h:p:=by simp only;omega):p:=h
theorem DF{p:Prop}(h:p:=by simp[base]):p:=h
theorem yCj{p:Prop}(h:p:=by rw[DZ];exact DK _):p:=h
theorem yDa{p:Prop}(h:p:=by rw[IntKind.wrap_i64];omega):p:=h
theorem yDb{p:Prop}(h:p:=by exact(Below.refl _ _).drew):p:=h
theorem yDc{p:Prop}(h:p:=by intro k hk;cases hk;omega):p:=h
theorem yDd{p:Prop}(h:p:=by have:=dN.out;omega):p:=h
theorem yDe{p:Prop}(h:p:=by have:=hb.size;simp;omega):p:=h
theorem yDf{p:Prop}(h:p:=by rw[DZ];exact hlt):p:=h
theorem yDg{p:Prop}(h:p:=by unfold Dc;rw[if_neg h1]):p:=h
theorem yDh{p:Prop}(h:p:=by rw[show Ac (ND op ds a1 c1).n=1 from by rw[Dk];rfl];show Ac n+1<=_;omega):p:=h
theorem yDi{p:Prop}(h:p:=by intro z hz;rcases List.mem_cons.1 hz with rfl | hz;exact .head _;simp[hz]):p:=h
theorem yDj{p:Prop}(h:p:=by rw[World.frozen?_setCell];exact hfz):p:=h
theorem DG{p:Prop}(h:p:=by simp[hy]):p:=h
theorem yEb{p:Prop}(h:p:=by simpa using λb hb=>Nat.lt_succ_of_lt (Nat.lt_succ_of_lt (hbl b hb))):p:=h
theorem yEc{p:Prop}(h:p:=by simp[Value.ownBlock]):p:=h
theorem yEd{p:Prop}(h:p:=by right;right;simp[ha]):p:=h
theorem yEe{p:Prop}(h:p:=by simp[baseD]):p:=h
theorem yEf{p:Prop}(h:p:=by simpa using hi):p:=h
theorem yEg{p:Prop}(h:p:=by rw[FM HD.out]):p:=h
theorem yEh{p:Prop}(h:p:=by simp at hop ⊢;exact .inr hop):p:=h
theorem yEi{p:Prop}(h:p:=by rw[h1];exact hA.mono (Of _ _)):p:=h
theorem yEj{p:Prop}(h:p:=by rw[Bj BS];exact h0):p:=h
theorem yFa{p:Prop}(h:p:=by rw[Bj hl];exact hy'):p:=h
theorem yFb{p:Prop}(h:p:=by have:=(List.getElem?_eq_some_iff.1 hj).1;have:=hrow.1;omega):p:=h
theorem yFc{p:Prop}(h:p:=by rw[hv];rfl):p:=h
theorem yFd{p:Prop}(h:p:=by rw[fV.out]):p:=h
theorem yFe{p:Prop}(h:p:=by intro h;omega):p:=h
theorem yFf{p:Prop}(h:p:=by simp[Go.Conc.base]):p:=h
theorem yFg{p:Prop}(h:p:=by show p+1<=wq.heap.size;omega):p:=h
theorem yFh{p:Prop}(h:p:=by first | omega | (simp;omega)):p:=h
theorem yFi{p:Prop}(h:p:=by have e:Stil.CJ n=Ac n:=if_neg (by rw[hn];exact GF);omega):p:=h
theorem yFj{p:Prop}(h:p:=by intro j hj;rw[List.mem_singleton.1 hj];exact⟨hti,sK⟩):p:=h
theorem yGa{p:Prop}(h:p:=by rw[hi0];exact e1):p:=h
theorem yGb{p:Prop}(h:p:=by have:=(Kz h0 hx).2;omega):p:=h
theorem yGc{p:Prop}(h:p:=by rw[h];exact GF):p:=h
theorem yGd{p:Prop}(h:p:=by rw[e];exact GF):p:=h
theorem yQa{p:Prop}(h:p:=by(repeat (first | with_reducible exact KeepsFrom.refl _ _ | with_reducible refine Xn ?_ _ _ | with_reducible refine Rn ?_ | with_reducible refine Oc ?_ _ | with_reducible refine Ro ?_ C7))):p:=h
theorem AA{α:Sort _}(t:α):∃x,x=t:=⟨_,rfl⟩
abbrev AB (n:Int):Go.Value:=.int .i64 n
abbrev AE (p:Option Go.Addr)(n c:Nat):Go.Value:=.slice p n c
abbrev AG:Go.Value:=.slice none 0 0
abbrev AH (b:Nat):Go.Value:=.pointer (some ⟨b,0,none⟩)
abbrev AK (b o:Nat):Go.Addr:=⟨b,o,none⟩
abbrev AL (w:Go.World)(o:Nat):Go.Addr:=⟨w.heap.size,o,none⟩
abbrev AO (w v:Go.World):Prop:=Go.RowKit.Below w.heap.size w v
abbrev AN (w:Go.World)(v:Go.Value)(e:Go.Ending)(u:Go.World):Prop:=e=.returned v/\Go.RowKit.Below w.heap.size w u
abbrev AU:=Go.World
abbrev AW:=Go.Value
abbrev AX:=Go.Goroutine
abbrev AY:=Go.Program
abbrev AZ:=Go.TypeId
abbrev Ab:=Go.Addr
theorem Av{α:Type _}{a:α}{l:List α}:a∈a::l:=.head _
theorem Ax{α:Type _}{a b:α}{l:List α}(h:a∈l):a∈b::l:=.tail _ h
abbrev BA:=@List.forall_mem_cons
abbrev BB:=@List.mem_singleton
abbrev BD:=@List.mem_cons
abbrev BE:=@Go.World.cell?_of_block
abbrev BF:=@Array.getElem?_eq_some_iff
abbrev BG:=@Go.World.size_alloc
abbrev BH:=@Go.bodyPost_ret
abbrev BI:=@List.mem_append
abbrev BJ:=@Go.World.ownsRow_nil
abbrev BK:=@Go.IntKind.wrap_i64
abbrev BL:=@List.length_eq_zero_iff
abbrev BM:=@List.mem_map
abbrev BN:=@Go.Value.slice.injEq
abbrev BO:=@List.getElem?_eq_some_iff
abbrev BP:=@Go.RowKit.Below.refl
abbrev BQ:=@if_neg
abbrev BR:=@if_pos
abbrev _root_.Go.World.z(w:Go.World):Nat:=w.heap.size
abbrev AQ:Go.Value:=Go.undef
abbrev _root_.List.l{α:Type _}(l:List α):Nat:=l.length
abbrev _root_.Go.World.c(w:Go.World)(a:Go.Addr):Option Go.Value:=w.cell? a
abbrev _root_.Go.World.f(w:Go.World)(a:Go.Addr):Bool:=w.frozen? a
abbrev _root_.Go.World.s(w:Go.World)(a:Go.Addr)(v:Go.Value):Go.World:=w.setCell a v
abbrev _root_.Go.Value.b(v:Go.Value):Option Nat:=v.ownBlock
abbrev _root_.Eq.tr:=@Eq.trans
abbrev _root_.Go.RowKit.Below.tr:=@Go.RowKit.Below.trans
abbrev _root_.Go.RowKit.Below.mo:=@Go.RowKit.Below.mono
abbrev _root_.Go.Calls.mo:=@Go.Calls.mono
abbrev _root_.Iff.tr:=@Iff.trans
abbrev _root_.Go.RowKit.Below.s:=@Go.RowKit.Below.setCell
abbrev _root_.Relation.TransGen.tr:=@Relation.TransGen.trans
abbrev _root_.Go.World.grownBy.tr:=@Go.World.grownBy.trans
abbrev Sx4 (w:Go.World)(b e:Nat)(x y z u:Go.Value):Go.World:=(((w.setCell ⟨b,e,none⟩ x).setCell ⟨b,e+1,none⟩ y).setCell ⟨b,e+2,none⟩ z).setCell ⟨b,e+3,none⟩ u
abbrev Sx6 (w:Go.World)(b e:Nat)(x y z u v t:Go.Value):Go.World:=(((((w.setCell ⟨b,e,none⟩ x).setCell ⟨b,e+1,none⟩ y).setCell ⟨b,e+2,none⟩ z).setCell ⟨b,e+3,none⟩ u).setCell ⟨b,e+4,none⟩ v).setCell ⟨b,e+5,none⟩ t
theorem AP{p:Prop}(h:p:=by simp[go_sem]):p:=h
theorem EX{p:Prop}(h:p:=by simp[intOf];omega):p:=h
theorem xAa{p:Prop}(h:p:=by rw[Ez j B5 BS];first|assumption|(simp[go_sem, *];done)):p:=h
theorem xAb{p:Prop}(h:p:=by rw[Ff j B5 BS];first|assumption|(simp[go_sem, *];done)):p:=h
theorem xAc{p:Prop}(h:p:=by simp[Fj,go_sem]):p:=h
theorem xAd{p:Prop}(h:p:=by refine⟨(Ez o BU BS).trans (by simp[go_sem]),(Ez o BU BS).trans (by simp[go_sem]),(Ez o BU BS).trans (by simp[go_sem]),(Ff o BU BS).trans (by simp[go_sem]),(Ff o BU BS).trans (by simp[go_sem])⟩):p:=h
theorem xAe{p:Prop}(h:p:=by rw[BK];omega):p:=h
theorem xAf{p:Prop}(h:p:=by rw[DV];omega):p:=h
theorem xAg{p:Prop}(h:p:=by unfold Stil.arity;rw[BQ BS,BQ BS,BR BS]):p:=h
theorem xAh{p:Prop}(h:p:=by rwa[Bj BS]):p:=h
theorem xAi{p:Prop}(h:p:=by have:=c.size;simp at this;omega):p:=h
theorem xAj{p:Prop}(h:p:=by (try simp only[DT,DO,DU]);omega):p:=h
theorem xAk{p:Prop}(h:p:=by simp[results,results37,go_sem,l,m];rfl):p:=h
theorem xAl{p:Prop}(h:p:=by rw[d _ _ BU];simp[go_sem]):p:=h
theorem xAm{p:Prop}(h:p:=by simp[results,results21,go_sem,t0,t1,t2,t3,t4,t5]):p:=h
theorem xAn{p:Prop}(h:p:=by simp[results,results34,go_sem,q0,q1,hz0];rfl):p:=h
theorem xAo{p:Prop}(h:p:=by rwa[World.frozen?_setCell]):p:=h
theorem xAp{p:Prop}(h:p:=by have:=hB.size;simp at this;omega):p:=h
theorem xAq{p:Prop}(h:p:=by rwa[DV]):p:=h
theorem xAr{p:Prop}(h:p:=by rw[d.frozen (p:=(AL w 0)) Bw];simp[go_sem]):p:=h
theorem xAs{p:Prop}(h:p:=by rw[d.frozen (p:=(AL w 1)) Bw];simp[go_sem]):p:=h
theorem xAt{p:Prop}(h:p:=by rw[r,A];simp[go_sem]):p:=h
theorem xAu{p:Prop}(h:p:=by rw[d.cell (p:=(AL w 0)) Bw];simp[go_sem]):p:=h
theorem xAv{p:Prop}(h:p:=by rw[d.cell (p:=(AL w 1)) Bw];simp[go_sem]):p:=h
theorem xAw{p:Prop}(h:p:=by simp[results,results142,go_sem,y,A,B,C]):p:=h
theorem xAx{p:Prop}(h:p:=by simp[results,results167,go_sem,x,z,A,B]):p:=h
theorem xAy{p:Prop}(h:p:=by rw[bne_eq_false_iff_eq];omega):p:=h
theorem xAz{p:Prop}(h:p:=by rwa[DZ]):p:=h
theorem xBa{p:Prop}(h:p:=by simp[results,results36,go_sem,j,q1,f]):p:=h
theorem xBb{p:Prop}(h:p:=by rw[e1];exact DK _):p:=h
theorem xBc{p:Prop}(h:p:=by simpa using h.len):p:=h
theorem xBd{p:Prop}(h:p:=by simpa using h.siz):p:=h
theorem xBe{p:Prop}(h:p:=by simp[results,results19,go_sem,y,A]):p:=h
theorem xBf{p:Prop}(h:p:=by rw[c];simpa using(h.alloc _).box _):p:=h
theorem xBg{p:Prop}(h:p:=by exact(World.ownsRow_lit W #[] 0 (DK _) CH rfl).drew):p:=h
theorem xBh{p:Prop}(h:p:=by simp[results,results56,go_sem,G,H]):p:=h
theorem xBi{p:Prop}(h:p:=by rw[EP BS];exact h.c0):p:=h
theorem xBj{p:Prop}(h:p:=by have:=d.suf.length_le;simp only[DO] at this;omega):p:=h
theorem xBk{p:Prop}(h:p:=by rw[<-aF.out,DZ,FN];omega):p:=h
theorem xBl{p:Prop}(h:p:=by have:=hb.size;simp at this;omega):p:=h
theorem xBm{p:Prop}(h:p:=by have:=Pi kids;omega):p:=h
theorem xBn{p:Prop}(h:p:=by rw[J];exact X.grown G K (Vo (grown_of t _) _ _)):p:=h
theorem xBo{p:Prop}(h:p:=by simpa using d):p:=h
theorem xBp{p:Prop}(h:p:=by rwa[EP BS]):p:=h
theorem xBq{p:Prop}(h:p:=by obtain⟨a,cap,hv,_⟩:=f;exact⟨_,_,_,hv⟩):p:=h
theorem xBr{p:Prop}(h:p:=by simp[results,results17,go_sem]):p:=h
theorem xBs{p:Prop}(h:p:=by simp[Region.wanted,hg]):p:=h
theorem xBt{p:Prop}(h:p:=by simp only[Sem.runT,hr]):p:=h
theorem xBu{p:Prop}(h:p:=by simp[results,results5,go_sem]):p:=h
theorem xBv{p:Prop}(h:p:=by simp[results,results6,go_sem]):p:=h
theorem xBw{p:Prop}(h:p:=by have:=h.siz;omega):p:=h
theorem xBx{p:Prop}(h:p:=by unfold Dc;rw[BQ h1];simp[k]):p:=h
theorem xBy{p:Prop}(h:p:=by rcases f with rfl|rfl<;>rfl):p:=h
theorem xBz{p:Prop}(h:p:=by rw[bne_iff_ne];omega):p:=h
theorem xCa{p:Prop}(h:p:=by rw[r,R];simp[go_sem]):p:=h
theorem xCb{p:Prop}(h:p:=by simpa using f):p:=h
theorem xCc{p:Prop}(h:p:=by unfold i64;simp only;omega):p:=h
theorem xCd{p:Prop}(h:p:=by simp[sizes]):p:=h
theorem xCe{p:Prop}(h:p:=by show s.bits=1;omega):p:=h
theorem xCf{p:Prop}(h:p:=by rw[c];exact Bz (Aa _ _) _):p:=h
theorem xCg{p:Prop}(h:p:=by rw[d];exact qN4):p:=h
theorem xCh{p:Prop}(h:p:=by simp only[DT,DO,DU];omega):p:=h
theorem xCi{p:Prop}(h:p:=by (try simp only[DU]);omega):p:=h
theorem xCj{p:Prop}(h:p:=by simp[Act.eval,Act.put]):p:=h
theorem xCk{p:Prop}(h:p:=by simpa using a):p:=h
theorem xCl{p:Prop}(h:p:=by rw[HZ];omega):p:=h
theorem xCm{p:Prop}(h:p:=by rwa[g _ _ f]):p:=h
theorem xCn{p:Prop}(h:p:=by rw[DT];omega):p:=h
theorem xCo{p:Prop}(h:p:=by rw[c];exact qN2):p:=h
theorem xCp{p:Prop}(h:p:=by rw[i];exact qN4):p:=h
theorem xCq{p:Prop}(h:p:=by simp[F6]):p:=h
