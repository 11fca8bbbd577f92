import Derived.Below
import Derived.Maps.AppendAt
namespace Go
end Go
abbrev DO:=@Nat.lt_of_lt_of_le
abbrev DV:=@List.length_append
abbrev DT:=@List.length_cons
abbrev DW:=@List.length_nil
abbrev D1:=@List.size_toArray
abbrev Da:=@List.mem_cons_of_mem
abbrev DN:=@Nat.le_refl
abbrev E3:=@Bool.false_eq_true
abbrev DY:=@List.getElem_mem
abbrev EP:=@List.mem_append_right
abbrev EF:=@Nat.zero_add
abbrev ES:=@List.getElem?_set_ne
abbrev KA:=@List.mem_append_left
abbrev DU:=@Nat.le_trans
abbrev FZ:=@List.mem_append
abbrev D4:=@List.map_append
abbrev gZ:=@List.mem_singleton
abbrev Db:=@List.length_map
abbrev FA:=@List.getElem?_eq_getElem
abbrev DZ:=@List.map_cons
abbrev EK:=@List.take_succ_eq_append_getElem
abbrev Bb6:=@List.mem_map
abbrev EN:=@List.mem_cons
abbrev ga:=@List.pairwise_cons
abbrev Bb9:=@List.pairwise_append
abbrev EJ:=@List.append_assoc
abbrev Gk:=@List.getElem?_set_self
abbrev EA:=@List.cons_append
abbrev ED:=@List.nil_append
abbrev Hi:=@Array.getElem?_setIfInBounds_self_of_lt
abbrev EV:=@Array.replicate_succ
abbrev EW:=@Array.replicate_zero
abbrev E0:=@List.take_of_length_le
abbrev EX:=@List.append_toArray
abbrev Bcj:=@Array.getElem?_eq_some_iff
abbrev Bck:=@List.length_eq_zero_iff
abbrev EY:=@List.push_toArray
abbrev FV:=@List.length_singleton
abbrev DX:=@beq_eq_false_iff_ne
abbrev FC:=@Option.some.injEq
abbrev FI:=@List.map_nil
abbrev E1:=@Option.some.inj
abbrev FK:=@List.not_mem_nil
abbrev EQ:=@Nat.lt_succ_self
abbrev IQ:=@List.getElem_cons_zero
abbrev FO:=@List.sum_cons
abbrev Bcv:=@List.map_toArray
abbrev K4:=@Nat.lt_irrefl
abbrev FB:=@Bool.eq_iff_iff
abbrev ER:=@List.flatten_cons
abbrev JM:=@Array.getElem?_setIfInBounds_ne
abbrev GK:=@Bool.false_ne_true
abbrev Hh:=@Int.eq_ofNat_of_zero_le
abbrev KB:=@Nat.mul_le_mul_right
abbrev EL:=@if_false
abbrev EH:=@Nat.zero_le
abbrev JL:=@Nat.le_succ
abbrev FU:=@decide_eq_false_iff_not
abbrev GL:=@List.drop_eq_getElem_cons
abbrev Fo:=@List.getElem_map
abbrev E6:=@List.mem_cons_self
abbrev IU:=@List.drop_of_length_le
abbrev Bdb:=@List.pairwise_singleton
abbrev FM:=@or_false
abbrev KD:=@Array.getElem?_eq_getElem
abbrev LO:=@List.mem_of_getElem?
abbrev Bdf:=@List.map_singleton
abbrev FW:=@decide_eq_false
abbrev IF:=@List.mem_map_of_mem
abbrev GM:=@Nat.lt_or_ge
abbrev Bdj:=@List.getElem?_take
abbrev Bdk:=@List.getElem?_drop
abbrev JO:=@List.take_length
abbrev FP:=@List.length_take
abbrev IV:=@Nat.add_zero
abbrev JP:=@Array.getElem?_modify
abbrev FG:=@decide_eq_true
abbrev KE:=@List.sum_append
abbrev G0:=@Nat.zero_mul
abbrev M1:=@List.sum_nil
abbrev IW:=@List.map_map
abbrev Ft:=@List.flatten_append
abbrev LP:=@Nat.eq_zero_or_pos
abbrev M3:=@List.sizeOf_lt_of_mem
abbrev Bdx:=@List.mem_or_eq_of_mem_set
abbrev E4:=@beq_iff_eq
abbrev PI:=@List.length_set
abbrev PD:=@List.getElem?_map
abbrev JA:=@Nat.succ_mul
abbrev LN:=@List.map_congr_left
abbrev PE:=@Nat.le_max_right
abbrev PG:=@Array.getElem?_eq_none
abbrev MY:=@Array.getElem?_map
abbrev gb:=@Prod.mk.inj
abbrev MZ:=@Option.map_some
abbrev KC:=@List.take_append_drop
abbrev TR:=@Array.getElem?_append_right
abbrev Hj:=@and_true
abbrev TS:=@Array.getElem?_push_size
abbrev EZ:=@List.append_nil
abbrev TT:=@List.getElem?_cons_zero
abbrev TU:=@List.getElem?_cons_succ
abbrev LQ:=@List.getElem_cons_succ
abbrev gd:=@List.drop_eq_nil_of_le
abbrev TV:=@Array.getElem?_push_lt
abbrev M4:=@Bool.not_true
abbrev M5:=@Nat.le_max_left
abbrev PK:=@Array.size_push
abbrev IG:=@List.getElem?_append_right
abbrev PL:=@List.exists_cons_of_ne_nil
abbrev EO:=@Nat.le_of_lt
abbrev PN:=@List.drop_zero
abbrev LR:=@List.getElem?_append_left
abbrev Beq:=@List.getElem_append_left
abbrev M6:=@List.flatten_nil
abbrev gg:=@List.zipWith_cons_cons
theorem BS{p:Prop}(h:p:=by first|omega|(simp only[Go.World.z,List.l] at *;omega)):p:=h
theorem BW{p:Prop}(h:p:=by kernel_rfl):p:=h
theorem BU{p:Prop}(h:p:=by simp):p:=h
theorem Br{p:Prop}(h:p:=by rfl):p:=h
theorem CB{p:Prop}(h:p:=by assumption):p:=h
theorem BX{p:Prop}(h:p:=by decide):p:=h
theorem B5{p:Prop}(h:p:=by first | assumption | (simp;done) | (simp;omega)):p:=h
theorem B1{p:Prop}(h:p:=by first|(simp;omega)|(simp[Go.World.z,List.l] at *;omega)):p:=h
theorem B8{p:Prop}(h:p:=by simp+contextual):p:=h
theorem CH{p:Prop}(h:p:=by unfold maxLen;omega):p:=h
theorem CG{p:Prop}(h:p:=by decide+kernel):p:=h
theorem CY{p:Prop}(h:p:=by first | (simp;omega) | omega):p:=h
theorem CN{p:Prop}(h:p:=by simp[Act.eval]):p:=h
theorem C5{p:Prop}(h:p:=by simp only[FC] at hq;omega):p:=h
theorem DF{p:Prop}(h:p:=by first | (simp;done) | (simp;omega)):p:=h
theorem C0{p:Prop}(h:p:=by simpa using hlt):p:=h
theorem CQ{p:Prop}(h:p:=by cases h):p:=h
theorem yBb{p:Prop}(h:p:=by rw[World.size_alloc];omega):p:=h
theorem CU{p:Prop}(h:p:=by trivial):p:=h
theorem C6{p:Prop}(h:p:=by rw[Db];exact hown):p:=h
theorem C4{p:Prop}(h:p:=by simpa using h):p:=h
theorem yBf{p:Prop}(h:p:=by simp only[DT];omega):p:=h
theorem Cd{p:Prop}(h:p:=by simp[hx]):p:=h
theorem DG{p:Prop}(h:p:=by rw[FW HD.out]):p:=h
theorem yBi{p:Prop}(h:p:=by intro i hi;rcases List.mem_cons.1 hi with h | h;(rw[h];exact lY.out);(rw[List.mem_singleton.1 h];exact Qy BS)):p:=h
theorem yBj{p:Prop}(h:p:=by first | rfl | (simp[Act.eval];done)):p:=h
theorem yCa{p:Prop}(h:p:=by intro i hi;rw[List.mem_singleton.1 hi];exact zQ.out):p:=h
theorem yCb{p:Prop}(h:p:=by intro i hi;rw[List.mem_singleton.1 hi];exact uJ.out):p:=h
theorem yCc{p:Prop}(h:p:=by intro i hi;rw[List.mem_singleton.1 hi];exact Qy BS):p:=h
theorem CX{p:Prop}(h:p:=by first|omega|(simp only[Go.World.z,List.l] at *;omega)):p:=h
theorem C7{p:Prop}(h:p:=by rw[HX.out]):p:=h
theorem DC{p:Prop}(h:p:=by assumption):p:=h
theorem yCg{p:Prop}(h:p:=by first | omega | (rw[IntKind.wrap_i64];omega)):p:=h
theorem yCh{p:Prop}(h:p:=by unfold i64;omega):p:=h
theorem yCi{p:Prop}(h:p:=by simp only;omega):p:=h
theorem DI{p:Prop}(h:p:=by simp[base]):p:=h
theorem yDa{p:Prop}(h:p:=by rw[Db];exact DN _):p:=h
theorem yDb{p:Prop}(h:p:=by rw[IntKind.wrap_i64];omega):p:=h
theorem yDc{p:Prop}(h:p:=by exact(Below.refl _ _).drew):p:=h
theorem yDd{p:Prop}(h:p:=by intro k hk;cases hk;omega):p:=h
theorem yDe{p:Prop}(h:p:=by rw[FW HN.out]):p:=h
theorem yDf{p:Prop}(h:p:=by have:=dQ.out;omega):p:=h
theorem yDg{p:Prop}(h:p:=by have:=hb.size;simp;omega):p:=h
theorem yDh{p:Prop}(h:p:=by rw[Db];exact hlt):p:=h
theorem yDi{p:Prop}(h:p:=by unfold Df;rw[if_neg h1]):p:=h
theorem yDj{p:Prop}(h:p:=by rw[show Ad (NH op ds a1 c1).n=1 from by rw[Dn];rfl];show Ad n+1<=_;omega):p:=h
theorem yEa{p:Prop}(h:p:=by intro z hz;rcases List.mem_cons.1 hz with rfl | hz;exact .head _;simp[hz]):p:=h
theorem yEb{p:Prop}(h:p:=by rw[World.frozen?_setCell];exact hfz):p:=h
theorem DJ{p:Prop}(h:p:=by simp[hy]):p:=h
theorem yEd{p:Prop}(h:p:=by simpa using λb hb=>Nat.lt_succ_of_lt (Nat.lt_succ_of_lt (hbl b hb))):p:=h
theorem yEe{p:Prop}(h:p:=by simp[Value.ownBlock]):p:=h
theorem yEf{p:Prop}(h:p:=by right;right;simp[ha]):p:=h
theorem yEg{p:Prop}(h:p:=by simp[baseD]):p:=h
theorem yEh{p:Prop}(h:p:=by simpa using hi):p:=h
theorem yEi{p:Prop}(h:p:=by simp at hop ⊢;exact .inr hop):p:=h
theorem yEj{p:Prop}(h:p:=by rw[h1];exact hA.mono (PE _ _)):p:=h
theorem yFa{p:Prop}(h:p:=by rw[Bl BS];exact h0):p:=h
theorem yFb{p:Prop}(h:p:=by rw[Bl hl];exact hy'):p:=h
theorem yFc{p:Prop}(h:p:=by have:=(List.getElem?_eq_some_iff.1 hj).1;have:=hrow.1;omega):p:=h
theorem yFd{p:Prop}(h:p:=by rw[hv];rfl):p:=h
theorem yFe{p:Prop}(h:p:=by rw[gK.out]):p:=h
theorem yFf{p:Prop}(h:p:=by intro h;omega):p:=h
theorem yFg{p:Prop}(h:p:=by simp[Go.Conc.base]):p:=h
theorem yFh{p:Prop}(h:p:=by show p+1<=wq.heap.size;omega):p:=h
theorem yFi{p:Prop}(h:p:=by first | omega | (simp;omega)):p:=h
theorem yFj{p:Prop}(h:p:=by have e:Stil.CM n=Ad n:=if_neg (by rw[hn];exact GK);omega):p:=h
theorem yGa{p:Prop}(h:p:=by intro j hj;rw[List.mem_singleton.1 hj];exact⟨hti,sW⟩):p:=h
theorem yGb{p:Prop}(h:p:=by rw[hi0];exact e1):p:=h
theorem yGc{p:Prop}(h:p:=by have:=(Lc h0 hx).2;omega):p:=h
theorem yGd{p:Prop}(h:p:=by rw[h];exact GK):p:=h
theorem yGe{p:Prop}(h:p:=by rw[e];exact GK):p:=h
theorem yGf{p:Prop}(h:p:=by rw[FW HF2.out]):p:=h
theorem yQa{p:Prop}(h:p:=by(repeat (first | with_reducible exact KeepsFrom.refl _ _ | with_reducible refine Xu ?_ _ _ | with_reducible refine Rt ?_ | with_reducible refine Oi ?_ _ | with_reducible refine Ru ?_ DC))):p:=h
theorem AA{α:Sort _}(t:α):∃x,x=t:=⟨_,rfl⟩
abbrev AB (n:Int):Go.Value:=.int .i64 n
abbrev AE (p:Option Go.Addr)(n c:Nat):Go.Value:=.slice p n c
abbrev AG:Go.Value:=.slice none 0 0
abbrev AH (b:Nat):Go.Value:=.pointer (some ⟨b,0,none⟩)
abbrev AK (b o:Nat):Go.Addr:=⟨b,o,none⟩
abbrev AL (w:Go.World)(o:Nat):Go.Addr:=⟨w.heap.size,o,none⟩
abbrev AO (w v:Go.World):Prop:=Go.RowKit.Below w.heap.size w v
abbrev AN (w:Go.World)(v:Go.Value)(e:Go.Ending)(u:Go.World):Prop:=e=.returned v/\Go.RowKit.Below w.heap.size w u
abbrev AU:=Go.World
abbrev AW:=Go.Value
abbrev AX:=Go.Goroutine
abbrev AY:=Go.Program
abbrev AZ:=Go.TypeId
abbrev Ab:=Go.Addr
theorem Av{α:Type _}{a:α}{l:List α}:a∈a::l:=.head _
theorem Ax{α:Type _}{a b:α}{l:List α}(h:a∈l):a∈b::l:=.tail _ h
abbrev BA:=@List.forall_mem_cons
abbrev BB:=@List.mem_singleton
abbrev BD:=@List.mem_cons
abbrev BE:=@Go.World.cell?_of_block
abbrev BF:=@Array.getElem?_eq_some_iff
abbrev BG:=@Go.World.size_alloc
abbrev BH:=@Go.bodyPost_ret
abbrev BI:=@List.mem_append
abbrev BJ:=@Go.World.ownsRow_nil
abbrev BK:=@Go.IntKind.wrap_i64
abbrev BL:=@List.length_eq_zero_iff
abbrev BM:=@List.mem_map
abbrev BN:=@Go.Value.slice.injEq
abbrev BO:=@List.getElem?_eq_some_iff
abbrev BP:=@Go.RowKit.Below.refl
abbrev BQ:=@if_neg
abbrev BR:=@if_pos
abbrev _root_.Go.World.z(w:Go.World):Nat:=w.heap.size
abbrev AQ:Go.Value:=Go.undef
abbrev _root_.List.l{α:Type _}(l:List α):Nat:=l.length
abbrev _root_.Go.World.c(w:Go.World)(a:Go.Addr):Option Go.Value:=w.cell? a
abbrev _root_.Go.World.f(w:Go.World)(a:Go.Addr):Bool:=w.frozen? a
abbrev _root_.Go.World.s(w:Go.World)(a:Go.Addr)(v:Go.Value):Go.World:=w.setCell a v
abbrev _root_.Go.Value.b(v:Go.Value):Option Nat:=v.ownBlock
abbrev _root_.Eq.tr:=@Eq.trans
abbrev _root_.Go.RowKit.Below.tr:=@Go.RowKit.Below.trans
abbrev _root_.Go.RowKit.Below.mo:=@Go.RowKit.Below.mono
abbrev _root_.Go.Calls.mo:=@Go.Calls.mono
abbrev _root_.Iff.tr:=@Iff.trans
abbrev _root_.Go.RowKit.Below.s:=@Go.RowKit.Below.setCell
abbrev _root_.Relation.TransGen.tr:=@Relation.TransGen.trans
abbrev _root_.Go.World.grownBy.tr:=@Go.World.grownBy.trans
abbrev Sx4 (w:Go.World)(b e:Nat)(x y z u:Go.Value):Go.World:=(((w.setCell ⟨b,e,none⟩ x).setCell ⟨b,e+1,none⟩ y).setCell ⟨b,e+2,none⟩ z).setCell ⟨b,e+3,none⟩ u
abbrev Sx6 (w:Go.World)(b e:Nat)(x y z u v t:Go.Value):Go.World:=(((((w.setCell ⟨b,e,none⟩ x).setCell ⟨b,e+1,none⟩ y).setCell ⟨b,e+2,none⟩ z).setCell ⟨b,e+3,none⟩ u).setCell ⟨b,e+4,none⟩ v).setCell ⟨b,e+5,none⟩ t
abbrev Γ:=List Nat
abbrev Δ:=Option Go.Addr
abbrev Θ:=List Go.Value
abbrev Φ:=Nat->Prop
abbrev δ:=Array Go.Value
abbrev ε:=Option Nat
abbrev ζ:=List Int
theorem xAa{p:Prop}(h:p:=by simp[go_sem]):p:=h
theorem xAb{p:Prop}(h:p:=by simp[intOf];omega):p:=h
theorem xAc{p:Prop}(h:p:=by rw[Fb j B5 BS];first|assumption|(simp[go_sem, *];done)):p:=h
theorem xAd{p:Prop}(h:p:=by rw[Fj j B5 BS];first|assumption|(simp[go_sem, *];done)):p:=h
theorem xAe{p:Prop}(h:p:=by rw[BK];omega):p:=h
theorem xAf{p:Prop}(h:p:=by simp[F5,go_sem]):p:=h
theorem xAg{p:Prop}(h:p:=by refine⟨(Fb j BU BS).tr (by simp[go_sem]),(Fb j BU BS).tr (by simp[go_sem]),(Fb j BU BS).tr (by simp[go_sem]),(Fj j BU BS).tr (by simp[go_sem]),(Fj j BU BS).tr (by simp[go_sem])⟩):p:=h
theorem xAh{p:Prop}(h:p:=by rw[DX];omega):p:=h
theorem xAi{p:Prop}(h:p:=by have:=hB.size;simp at this;omega):p:=h
theorem xAj{p:Prop}(h:p:=by have:=c.size;simp at this;omega):p:=h
theorem xAk{p:Prop}(h:p:=by unfold Stil.arity;rw[BQ BS,BQ BS,BR BS]):p:=h
theorem xAl{p:Prop}(h:p:=by rwa[Bl BS]):p:=h
theorem xAm{p:Prop}(h:p:=by rw[iP];exact I7 (I7 hBW aF BS (λq e=>by cases e)) (Ho _ _ _ _) BS (λq e=>by cases e;omega)):p:=h
theorem xAn{p:Prop}(h:p:=by rw[bne_eq_false_iff_eq];omega):p:=h
theorem xAo{p:Prop}(h:p:=by (try simp only[DV,DT,DW]);omega):p:=h
theorem xAp{p:Prop}(h:p:=by simp[results,results46,go_sem,l,m];rfl):p:=h
theorem xAq{p:Prop}(h:p:=by rw[j _ _ BU];simp[go_sem]):p:=h
theorem xAr{p:Prop}(h:p:=by rwa[DX]):p:=h
theorem xAs{p:Prop}(h:p:=by simp[results,results25,go_sem,t0,t1,t2,t3,t4,t5]):p:=h
theorem xAt{p:Prop}(h:p:=by simp[results,results43,go_sem,q0,q1,hz0];rfl):p:=h
theorem xAu{p:Prop}(h:p:=by rwa[World.frozen?_setCell]):p:=h
theorem xAv{p:Prop}(h:p:=by rw[b.frozen (p:=(AL w 0)) B1];simp[go_sem]):p:=h
theorem xAw{p:Prop}(h:p:=by rw[b.frozen (p:=(AL w 1)) B1];simp[go_sem]):p:=h
theorem xAx{p:Prop}(h:p:=by rw[r,A];simp[go_sem]):p:=h
theorem xAy{p:Prop}(h:p:=by rw[b.cell (p:=(AL w 0)) B1];simp[go_sem]):p:=h
theorem xAz{p:Prop}(h:p:=by rw[b.cell (p:=(AL w 1)) B1];simp[go_sem]):p:=h
theorem xBa{p:Prop}(h:p:=by simp[results,results178,go_sem,B,C,A,z]):p:=h
theorem xBb{p:Prop}(h:p:=by simp[results,results173,go_sem,A,B,z,y]):p:=h
theorem xBc{p:Prop}(h:p:=by rwa[Db]):p:=h
theorem xBd{p:Prop}(h:p:=by simp[results,results45,go_sem,f,q1,m]):p:=h
theorem xBe{p:Prop}(h:p:=by rcases g with rfl|rfl<;>rfl):p:=h
theorem xBf{p:Prop}(h:p:=by rw[hL,iP,qF.out];exact(hS6.set BU).sub (λ_ h=>h) B8):p:=h
theorem xBg{p:Prop}(h:p:=by rw[e1];exact DN _):p:=h
theorem xBh{p:Prop}(h:p:=by simpa using h.len):p:=h
theorem xBi{p:Prop}(h:p:=by simpa using h.siz):p:=h
theorem xBj{p:Prop}(h:p:=by rw[c];simpa using(h.alloc _).box _):p:=h
theorem xBk{p:Prop}(h:p:=by exact(World.ownsRow_lit W #[] 0 (DN _) CH rfl).drew):p:=h
theorem xBl{p:Prop}(h:p:=by simp[results,results11,go_sem,y,B]):p:=h
theorem xBm{p:Prop}(h:p:=by rw[ES BS];exact h.c0):p:=h
theorem xBn{p:Prop}(h:p:=by simp[results,results8,go_sem,y,z]):p:=h
theorem xBo{p:Prop}(h:p:=by have:=d.suf.length_le;simp only[DT] at this;omega):p:=h
theorem xBp{p:Prop}(h:p:=by rw[<-aH.out,Db,FP];omega):p:=h
theorem xBq{p:Prop}(h:p:=by have:=hb.size;simp at this;omega):p:=h
theorem xBr{p:Prop}(h:p:=by have:=Po kids;omega):p:=h
theorem xBs{p:Prop}(h:p:=by rw[G];exact Y.grown I M (Vt (grown_of t _) _ _)):p:=h
theorem xBt{p:Prop}(h:p:=by simpa using d):p:=h
theorem xBu{p:Prop}(h:p:=by rwa[ES BS]):p:=h
theorem xBv{p:Prop}(h:p:=by obtain⟨a,cap,hv,_⟩:=g;exact⟨_,_,_,hv⟩):p:=h
theorem xBw{p:Prop}(h:p:=by simp[results,results22,go_sem]):p:=h
theorem xBx{p:Prop}(h:p:=by simp[Region.wanted,hg]):p:=h
theorem xBy{p:Prop}(h:p:=by simp only[Sem.runT,hr]):p:=h
theorem xBz{p:Prop}(h:p:=by simp[results,results5,go_sem]):p:=h
theorem xCa{p:Prop}(h:p:=by simp[results,results6,go_sem]):p:=h
theorem xCb{p:Prop}(h:p:=by have:=h.siz;omega):p:=h
theorem xCc{p:Prop}(h:p:=by unfold Df;rw[BQ h1];simp[k]):p:=h
theorem xCd{p:Prop}(h:p:=by rw[bne_iff_ne];omega):p:=h
theorem xCe{p:Prop}(h:p:=by rw[r,R];simp[go_sem]):p:=h
theorem xCf{p:Prop}(h:p:=by unfold i64;simp only;omega):p:=h
theorem xCg{p:Prop}(h:p:=by simp[sizes]):p:=h
theorem xCh{p:Prop}(h:p:=by show s.bits=1;omega):p:=h
theorem xCi{p:Prop}(h:p:=by rw[c];exact Bi (Aa _ _) _):p:=h
theorem xCj{p:Prop}(h:p:=by rw[d];exact qN4):p:=h
theorem xCk{p:Prop}(h:p:=by simp only[DV,DT,DW];omega):p:=h
theorem xCl{p:Prop}(h:p:=by (try simp only[DW]);omega):p:=h
theorem xCm{p:Prop}(h:p:=by simp[Act.eval,Act.put]):p:=h
theorem xCn{p:Prop}(h:p:=by simpa using j):p:=h
theorem xCo{p:Prop}(h:p:=by rw[iP];exact qN4):p:=h
theorem xCp{p:Prop}(h:p:=by rw[FU];omega):p:=h
theorem xCq{p:Prop}(h:p:=by rwa[g _ _ f]):p:=h
theorem xCr{p:Prop}(h:p:=by rw[DV];omega):p:=h
theorem xCs{p:Prop}(h:p:=by rw[c];exact qN2):p:=h
theorem xCt{p:Prop}(h:p:=by rw[q];exact qN6):p:=h
theorem xCu{p:Prop}(h:p:=by rw[i];exact qN4):p:=h
theorem xCv{p:Prop}(h:p:=by simp[Gh]):p:=h
theorem xCw{p:Prop}(h:p:=by simp[d]):p:=h
