/- D22: texts put together. -/
import Derived.Test.YtenoanhonjdpjaaGreatDoorD21
set_option maxHeartbeats 4000000
set_option maxRecDepth 100000
/- Contracts of the specification's draws: any ladder; the draws out of a code. -/
namespace Go.Proofs.YtenoanhonjdpjaaGreatDoor
open Go.RowKit Go.Sort Go.BigFrame
theorem s_l3Any (g P : Nat) (w : World) (hr : RdAt w g P) (hP : P ≤ 1000000) :
  Calls Tryz.prog 37 #[.pointer (some ⟨g,0,none⟩)] w fun e w' => LadOut e w w' g (P + 400000) 6000 104 := by
 have hg := rd_lt hr
 go_enter Tryz.func37,Tryz.ntmps37
 go_upto_region 2 with (go_at_call 30; refine (s_l3Ladder g _ _ raA (by omega)).mono ?_; rintro e w1 ⟨l,v,rfl,hav,ht,hl,hrd1,hgr1⟩; obtain ⟨a1,c1,rfl,-⟩ := id hav)
 have HAV : Hid (ArmsIn (fun b => w.heap.size ≤ b) w1 (.slice a1 l.length c1) l) := hav
 have HT : Hid (∀ a ∈ l,ATame a ∧ Stil.armSz a ≤ 4000) := ht
 clear hav ht
 have s1 := hgr1.size
 go_wp2_with (first | (go_at_call_of 31 (Value.int IntKind.i64 16); refine (s_pick g _ _ _ hrd1 (by omega) (by omega) (by omega)).mono ?_; rintro e w2 ⟨x,rfl,hx0,hx1,hrd2,hgr2⟩; have s2 := hgr2.size; have HAV2 : Hid (ArmsIn (fun b => w.heap.size ≤ b) w2 (.slice a1 l.length c1) l) := HAV.out.keep (KeepsIn.of_grown hgr2 (fun b hb e => (by simp only [Option.some.injEq] at e; omega))); have HSP : Hid (Calls Tryz.prog 32 #[.pointer (some ⟨g,0,none⟩),.slice a1 l.length c1] w2 fun e w' => LadOutQ (fun b => w.heap.size ≤ b) e w2 w' g (P + 60000 + 1 + 300000) 6000 104) := s_l3Spoil _ g (P + 60000 + 1) 4000 4 w2 _ l (fun b hb => (by omega)) HAV2.out HT.out hl (by omega) (by omega) hrd2 (by omega)) | (go_at_call 32; refine HSP.out.mono ?_; rintro e w3 ⟨l3,v3,rfl,hav3,ht3,hl3,hrd3,hgr3⟩))
 ·go_ret
  refine ⟨l3,_,rfl,hav3.mono fun b _ h => ?_,ht3,hl3,rd_mono hrd3 (by omega),gr_call (gr_call hgr1 hgr2) hgr3⟩
  rcases h with h | h
  ·exact h.1
  ·omega
 ·go_ret
  exact ⟨l,_,rfl,HAV2.out,fun a ha => ⟨(HT.out a ha).1,by have := (HT.out a ha).2; omega⟩,by omega,rd_mono hrd2 (by omega),gr_call hgr1 hgr2⟩
/-- What a draw out of a code leaves: a ladder of small numbers. -/
def LadNew (e : Ending) (w w' : World) (N k : Nat) : Prop := ∃ (l : List Stil.Arm) (v : Value),e = .returned v ∧ ArmsAt w' v l ∧ (∀ a ∈ l,ATame a ∧ Stil.armSz a ≤ N) ∧ l.length ≤ k ∧ Below w.heap.size w w'
theorem gr_new {w w' : World} {g : Nat} (h : w.grownBy w' (some g)) (hg : w.heap.size ≤ g) : Below w.heap.size w w' := ⟨h.os,h.tape,h.output,h.size,fun k hk => h.block k hk (by intro e; cases e; omega)⟩
theorem s_drawNormMake (u : Value) (w : World) (hu : BytesAt w u) :
  Calls Tryz.prog 18 #[u] w fun e w' => LadNew e w w' 6000 104 := by
 have HU : Hid (BytesAt w u) := hu
 obtain ⟨ua,ul,uc,rfl,-,-,-⟩ := hu
 go_enter Tryz.func18,Tryz.ntmps18
 go_wp2_with (first | (go_at_call 29; refine (s_l9Open _ _ HU.out).mono ?_; rintro e w0 ⟨rfl,hrd0,hb0⟩) | (go_at_call 37; refine (s_l3Any w.heap.size 0 _ hrd0 (by omega)).mono ?_; rintro e w1 ⟨l,v,rfl,hav,ht,hl,hrd1,hgr1⟩))
 go_ret
 exact ⟨l,_,rfl,hav.at,ht,hl,gr_new (gr_call (grown_below hb0 _) hgr1) (Nat.le_refl _)⟩
end Go.Proofs.YtenoanhonjdpjaaGreatDoor
