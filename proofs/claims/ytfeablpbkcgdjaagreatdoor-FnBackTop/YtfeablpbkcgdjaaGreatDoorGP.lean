import Derived.Test.YtfeablpbkcgdjaaGreatDoorG4
import Derived.Test.YtfeablpbkcgdjaaGreatDoorGO
import Derived.Test.YtfeablpbkcgdjaaGreatDoorD7c
import Derived.Test.YtfeablpbkcgdjaaGreatDoorCA6
import Derived.OpenVars
import Derived.LaidMore
import Derived.Lay
import Derived.Deep.DeepHandedRow
set_option linter.defProp false
set_option maxHeartbeats 4000000
set_option maxRecDepth 100000
namespace Go.Proofs.YtfeablpbkcgdjaaGreatDoor
open Tryz Go.RowKit Go.Sort Go.BigFrame
def Hl (w:World):Prop:=1<w.heap.size/\∀k:Nat,k<12->w.cell? ⟨1,k,none⟩=some (.string ⟨(Stil.listWords.getD k []).toArray⟩)
def Hl.below {w w':World}(h:Hl w)(a:Below w.heap.size w w'):Hl w':=
 ⟨B8 h.1 a.size,λk b=>by rw[a.cell (p:=⟨1,k,none⟩) h.1];exact h.2 k b⟩
theorem i7 (c:Int)(w:World)(h:c<0\/12<=c):
  Calls prog 175 #[.int .i64 c] w λe a=>e=.returned (.string ⟨#[]⟩)/\a=w:=by
 go_enter func175,ntmps175
 go_wp2
 all_goals first | (exfalso;omega) | (go_ret;exact⟨rfl,rfl⟩)
theorem sC (k:Nat)(w:World)(a:Hl w)(h:k<12):
  Calls prog 175 #[.int .i64 k] w λe d=>e=.returned (.string ⟨(Stil.listWords.getD k []).toArray⟩)/\d=w:=by
 have c:=a.2 k h;obtain⟨s,b⟩:∃s:ByteArray,s=⟨(Stil.listWords.getD k []).toArray⟩:=⟨_,rfl⟩
 rw[<-b] at c ⊢;clear b a;go_enter func175,ntmps175
 go_wp2
 go_ret;exact⟨rfl,rfl⟩
section
open Stil
theorem YO (i:Stil.Dj)(t:Value)(w:World)(hr:Ed w)(C:Hl w)(y:Ak w t i.one.args)(v:i.fits):
  Calls prog 164 #[.agg #[.int .i64 i.code, .int .i64 i.one.op,t]] w λe l=>e=.returned (.bool (Ob i))/\Below w.heap.size w l:=by
 obtain⟨c,op,d⟩:=i;simp only at y v ⊢;have J:d.length<=1048576:=v.2.2.1;have o:Hid (∀W,Below w.heap.size w W->Calls prog 172 #[.agg #[.int .i64 op,t]] W λe l=>e=.returned (.bool (Dl op d))/\Below W.heap.size W l):=λW s=>S8 op t d W (hr.below s) (y.below s) v.2.2.2 AU
 have r:Hid (∀W,Below w.heap.size w W->Calls prog 160 #[.agg #[.int .i64 op,t]] W λe l=>e=.returned (.bool (Fz op d))/\Below W.heap.size W l):=λW s=>VB op t d W (hr.below s) (y.below s) v.2.2.2 AU
 have f:Hid (∀W,Below w.heap.size w W->∀k:Nat,k<12->Calls prog 175 #[.int .i64 k] W λe l=>e=.returned (.string ⟨(Stil.listWords.getD k []).toArray⟩)/\l=W):=λW s k L=>sC k W (C.below s) L
 have b:Hid (Ob ⟨c,op,d⟩=if c<1\/11<c then false else if c<=3 then Dl op d else if c=10 then Fz op d else(op==0 && d.length==0)):=rfl;obtain⟨K,H,rfl,_⟩:=y;obtain⟨R,E⟩:∃R,R=Ob ⟨c,op,d⟩:=⟨_,rfl⟩
 obtain⟨q1,B⟩:∃q,q=Dl op d:=⟨_,rfl⟩
 obtain⟨I,F⟩:∃q,q=Fz op d:=⟨_,rfl⟩
 obtain⟨x,A⟩:∃x,x=d.length:=⟨_,rfl⟩
 rw[<-E] at b ⊢;rw[<-B] at b o;rw[<-F] at b r;rw[<-A] at b o r J ⊢;have g:Hid (∀W,Calls prog 136 #[.agg #[.int .i64 op, .slice K x H]] W λe l=>e=.returned (.bool (op==0 && x==0))/\Below W.heap.size W l):=λW=>Yy _ _ _ _ _ AU
 clear E B F v A hr C;by_cases D:c<0\/11<c
 .have a:Hid (R=false):=by show _=_;rw[b.out,if_pos AU]
  have O:(c==1)=false:=by rw[CJ];omega
  have M:(c==2)=false:=by rw[CJ];omega
  have Q:(c==3)=false:=by rw[CJ];omega
  have N:(c==10)=false:=by rw[CJ];omega
  have G:Hid (c<0\/12<=c):=by show _\/_;omega
  clear b o r f D;go_enter func164,ntmps164
  go_wp2_with (go_at_call 175;refine(i7 _ _ G.out).mono ?_;rintro e j ⟨rfl,rfl⟩)
  go_ret;exact⟨Ad a.symm,AX⟩
 .have z:c=0\/c=1\/c=2\/c=3\/c=10\/c=4\/c=5\/c=6\/c=7\/c=8\/c=9\/c=11:=by omega
  clear D;rcases z with rfl | rfl | rfl | rfl | rfl | z
  .have a:Hid (R=false):=by show _=_;rw[b.out,if_pos AU]
   clear b o r g;go_enter func164,ntmps164
   go_wp2_with (go_at_call 175;refine(f _ AX 0 AU).mono ?_;rintro e j ⟨rfl,rfl⟩;simp only[Stil.listWords,List.getD_cons_zero])
   go_ret;exact⟨Ad a.symm,AX⟩
  iterate 3
   .have a:Hid (R=q1):=by show _=_;rw[b.out,if_neg AU,if_pos AU]
    clear b f r g;go_enter func164,ntmps164
    go_wp2_with (go_at_call 172;refine(o _ AX).mono ?_;rintro e j ⟨rfl,m⟩)
    go_ret;exact⟨Ad a.symm,AX⟩
  .have a:Hid (R=I):=by show _=_;rw[b.out,if_neg AU,if_neg AU,if_pos rfl]
   clear b f o g;go_enter func164,ntmps164
   go_wp2_with (go_at_call 160;refine(r _ AX).mono ?_;rintro e j ⟨rfl,m⟩)
   go_ret;exact⟨Ad a.symm,AX⟩
  .have a:Hid (R=(op==0 && x==0)):=by show _=_;rw[b.out,if_neg AU,if_neg AU,if_neg AU]
   clear b o r;rcases z with rfl | rfl | rfl | rfl | rfl | rfl | rfl
   .go_enter func164,ntmps164
    go_wp2_with (first | (go_at_call 175;refine(f _ AX 4 AU).mono ?_;rintro e j ⟨rfl,rfl⟩;simp only[Stil.listWords,List.getD_cons_succ,List.getD_cons_zero]) | (go_at_call 136;refine(g _).mono ?_;rintro e u ⟨rfl,m⟩))
    go_ret;exact⟨Ad a.symm,AX⟩
   .go_enter func164,ntmps164
    go_wp2_with (first | (go_at_call 175;refine(f _ AX 5 AU).mono ?_;rintro e j ⟨rfl,rfl⟩;simp only[Stil.listWords,List.getD_cons_succ,List.getD_cons_zero]) | (go_at_call 136;refine(g _).mono ?_;rintro e u ⟨rfl,m⟩))
    go_ret;exact⟨Ad a.symm,AX⟩
   .go_enter func164,ntmps164
    go_wp2_with (first | (go_at_call 175;refine(f _ AX 6 AU).mono ?_;rintro e j ⟨rfl,rfl⟩;simp only[Stil.listWords,List.getD_cons_succ,List.getD_cons_zero]) | (go_at_call 136;refine(g _).mono ?_;rintro e u ⟨rfl,m⟩))
    go_ret;exact⟨Ad a.symm,AX⟩
   .go_enter func164,ntmps164
    go_wp2_with (first | (go_at_call 175;refine(f _ AX 7 AU).mono ?_;rintro e j ⟨rfl,rfl⟩;simp only[Stil.listWords,List.getD_cons_succ,List.getD_cons_zero]) | (go_at_call 136;refine(g _).mono ?_;rintro e u ⟨rfl,m⟩))
    go_ret;exact⟨Ad a.symm,AX⟩
   .go_enter func164,ntmps164
    go_wp2_with (first | (go_at_call 175;refine(f _ AX 8 AU).mono ?_;rintro e j ⟨rfl,rfl⟩;simp only[Stil.listWords,List.getD_cons_succ,List.getD_cons_zero]) | (go_at_call 136;refine(g _).mono ?_;rintro e u ⟨rfl,m⟩))
    go_ret;exact⟨Ad a.symm,AX⟩
   .go_enter func164,ntmps164
    go_wp2_with (first | (go_at_call 175;refine(f _ AX 9 AU).mono ?_;rintro e j ⟨rfl,rfl⟩;simp only[Stil.listWords,List.getD_cons_succ,List.getD_cons_zero]) | (go_at_call 136;refine(g _).mono ?_;rintro e u ⟨rfl,m⟩))
    go_ret;exact⟨Ad a.symm,AX⟩
   .go_enter func164,ntmps164
    go_wp2_with (first | (go_at_call 175;refine(f _ AX 11 AU).mono ?_;rintro e j ⟨rfl,rfl⟩;simp only[Stil.listWords,List.getD_cons_succ,List.getD_cons_zero]) | (go_at_call 136;refine(g _).mono ?_;rintro e u ⟨rfl,m⟩))
    go_ret;exact⟨Ad a.symm,AX⟩
theorem cm (b f:Int)(j d:Bool)(i:Stil.Dj)(a:Value)(w:World)(hr:Ed w)(l:Hl w)(m:Ak w a i.one.args)(k:i.fits):
  Calls prog 146 #[.agg #[.int .i64 b, .int .i64 f, .bool j, .bool d], .agg #[.int .i64 i.code, .int .i64 i.one.op,a]] w λe g=>e=.returned (.bool (Stil.rule 0 ⟨b,f,j,d⟩ i))/\Below w.heap.size w g:=by
 have p:Hid (∀W,Below w.heap.size w W->Calls prog 164 #[.agg #[.int .i64 i.code, .int .i64 i.one.op,a]] W λe g=>e=.returned (.bool (Ob i))/\Below W.heap.size W g):=λW c=>YO i a W (hr.below c) (l.below c) (m.below c) k
 have o:Hid (Stil.rule 0 ⟨b,f,j,d⟩ i=!Ob i):=rfl;obtain⟨t,s,rfl,_⟩:=m;clear hr l k;go_enter func146,ntmps146
 go_wp2_with (go_at_call 164;refine(p _ AX).mono ?_;rintro e q ⟨rfl,r⟩)
 go_ret;exact⟨Ad o.symm,AX⟩
theorem nF (c:Int)(w:World):
  Calls prog 165 #[.int .i64 c] w λe d=>e=.returned (.int .i64 (Stil.needs c))/\d=w:=by
 obtain⟨R,a⟩:∃R,R=Stil.needs c:=⟨_,rfl⟩
 have b:Hid (R=Stil.needs c):=a;rw[<-a];clear a;go_enter func165,ntmps165
 go_wp2
 all_goals go_ret
 all_goals refine⟨Fa ?_,rfl⟩
 all_goals (rw[b.out];go_light;(try simp only[D3,CJ] at*);simp[Stil.needs, *];try omega)
theorem ck (b f:Int)(d a:Bool)(i:Stil.Dj)(p:Option Addr)(n cap:Nat)(w:World):
  Calls prog 147 #[.agg #[.int .i64 b, .int .i64 f, .bool d, .bool a], .agg #[.int .i64 i.code, .int .i64 i.one.op, .slice p n cap]] w λe k=>e=.returned (.bool (Stil.rule 1 ⟨b,f,d,a⟩ i))/\Below w.heap.size w k:=by
 obtain⟨c,op,o⟩:=i;simp only;obtain⟨R,j⟩:∃R,R=Stil.rule 1 ⟨b,f,d,a⟩ ⟨c,op,o⟩:=⟨_,rfl⟩
 have m:Hid (R=decide (b<Stil.needs c)):=j;obtain⟨g,l⟩:∃g,g=Stil.needs c:=⟨_,rfl⟩
 have q:Hid (∀W,Calls prog 165 #[.int .i64 c] W λe k=>e=.returned (.int .i64 g)/\k=W):=by rw[l];exact λW=>nF c W
 rw[<-l] at m;rw[<-j];clear j l;cases d<;>cases a
 all_goals (
  go_enter func147,ntmps147
  go_upto_region 1 with fail
  go_region_with (go_at_call 165;refine(q _).mono ?_;rintro e r ⟨rfl,rfl⟩)
  all_goals (try go_wp2)
  all_goals go_ret
  all_goals refine⟨Ad ?_,AX⟩
  all_goals (rw[m.out]))
theorem cj (b f:Int)(d a:Bool)(i:Stil.Dj)(p:Option Addr)(n cap:Nat)(w:World):
  Calls prog 148 #[.agg #[.int .i64 b, .int .i64 f, .bool d, .bool a], .agg #[.int .i64 i.code, .int .i64 i.one.op, .slice p n cap]] w λe l=>e=.returned (.bool (Stil.rule 2 ⟨b,f,d,a⟩ i))/\Below w.heap.size w l:=by
 obtain⟨c,op,j⟩:=i;simp only;obtain⟨R,g⟩:∃R,R=Stil.rule 2 ⟨b,f,d,a⟩ ⟨c,op,j⟩:=⟨_,rfl⟩
 have k:Hid (R=Stil.rule 2 ⟨b,f,d,a⟩ ⟨c,op,j⟩):=g;rw[<-g];clear g;cases d<;>cases a
 all_goals (
  go_enter func148,ntmps148
  go_wp2
  all_goals go_ret
  all_goals refine⟨Ad ?_,AX⟩
  all_goals (rw[k.out];go_light;(try simp only[D3,CJ] at*);rw[Db];simp[Stil.rule, *];try omega))
theorem cg (b f:Int)(d a:Bool)(i:Stil.Dj)(p:Option Addr)(n cap:Nat)(w:World):
  Calls prog 149 #[.agg #[.int .i64 b, .int .i64 f, .bool d, .bool a], .agg #[.int .i64 i.code, .int .i64 i.one.op, .slice p n cap]] w λe l=>e=.returned (.bool (Stil.rule 3 ⟨b,f,d,a⟩ i))/\Below w.heap.size w l:=by
 obtain⟨c,op,j⟩:=i;simp only;obtain⟨R,g⟩:∃R,R=Stil.rule 3 ⟨b,f,d,a⟩ ⟨c,op,j⟩:=⟨_,rfl⟩
 have k:Hid (R=Stil.rule 3 ⟨b,f,d,a⟩ ⟨c,op,j⟩):=g;rw[<-g];clear g;cases d<;>cases a
 all_goals (
  go_enter func149,ntmps149
  go_wp2
  all_goals go_ret
  all_goals refine⟨Ad ?_,AX⟩
  all_goals (rw[k.out];go_light;(try simp only[D3,CJ] at*);rw[Db];simp[Stil.rule, *];try omega))
theorem cZ (b f:Int)(d a:Bool)(i:Stil.Dj)(p:Option Addr)(n cap:Nat)(w:World):
  Calls prog 150 #[.agg #[.int .i64 b, .int .i64 f, .bool d, .bool a], .agg #[.int .i64 i.code, .int .i64 i.one.op, .slice p n cap]] w λe l=>e=.returned (.bool (Stil.rule 4 ⟨b,f,d,a⟩ i))/\Below w.heap.size w l:=by
 obtain⟨c,op,j⟩:=i;simp only;obtain⟨R,g⟩:∃R,R=Stil.rule 4 ⟨b,f,d,a⟩ ⟨c,op,j⟩:=⟨_,rfl⟩
 have k:Hid (R=Stil.rule 4 ⟨b,f,d,a⟩ ⟨c,op,j⟩):=g;rw[<-g];clear g;cases d<;>cases a
 all_goals (
  go_enter func150,ntmps150
  go_wp2
  all_goals go_ret
  all_goals refine⟨Ad ?_,AX⟩
  all_goals (rw[k.out];go_light;(try simp only[D3,CJ] at*);rw[Db];simp[Stil.rule, *];try omega))
theorem cY (b f:Int)(d a:Bool)(i:Stil.Dj)(p:Option Addr)(n cap:Nat)(w:World):
  Calls prog 151 #[.agg #[.int .i64 b, .int .i64 f, .bool d, .bool a], .agg #[.int .i64 i.code, .int .i64 i.one.op, .slice p n cap]] w λe l=>e=.returned (.bool (Stil.rule 5 ⟨b,f,d,a⟩ i))/\Below w.heap.size w l:=by
 obtain⟨c,op,j⟩:=i;simp only;obtain⟨R,g⟩:∃R,R=Stil.rule 5 ⟨b,f,d,a⟩ ⟨c,op,j⟩:=⟨_,rfl⟩
 have k:Hid (R=Stil.rule 5 ⟨b,f,d,a⟩ ⟨c,op,j⟩):=g;rw[<-g];clear g;cases d<;>cases a
 all_goals (
  go_enter func151,ntmps151
  go_wp2
  all_goals go_ret
  all_goals refine⟨Ad ?_,AX⟩
  all_goals (rw[k.out];go_light;(try simp only[D3,CJ] at*);rw[Db];simp[Stil.rule, *];try omega))
theorem cX (b f:Int)(d a:Bool)(i:Stil.Dj)(p:Option Addr)(n cap:Nat)(w:World):
  Calls prog 152 #[.agg #[.int .i64 b, .int .i64 f, .bool d, .bool a], .agg #[.int .i64 i.code, .int .i64 i.one.op, .slice p n cap]] w λe l=>e=.returned (.bool (Stil.rule 6 ⟨b,f,d,a⟩ i))/\Below w.heap.size w l:=by
 obtain⟨c,op,j⟩:=i;simp only;obtain⟨R,g⟩:∃R,R=Stil.rule 6 ⟨b,f,d,a⟩ ⟨c,op,j⟩:=⟨_,rfl⟩
 have k:Hid (R=Stil.rule 6 ⟨b,f,d,a⟩ ⟨c,op,j⟩):=g;rw[<-g];clear g;cases d<;>cases a
 all_goals (
  go_enter func152,ntmps152
  go_wp2
  all_goals go_ret
  all_goals refine⟨Ad ?_,AX⟩
  all_goals (rw[k.out];go_light;(try simp only[D3,CJ] at*);rw[Db];simp[Stil.rule, *];try omega))
end
open Stil
theorem vp (s:Stil.Pt)(c:Int)(w:World)(g:s.good):
  Calls prog 121 #[.agg #[.int .i64 s.bits, .int .i64 s.forks, .bool s.seen, .bool s.coil], .int .i64 c] w λe i=>e=.returned (.agg #[.int .i64 (Stil.behind s c).bits, .int .i64 (Stil.behind s c).forks, .bool (Stil.behind s c).seen, .bool (Stil.behind s c).coil])/\Below w.heap.size w i:=by
 obtain⟨b,f,a,d⟩:=s;obtain⟨k,B,A,q,_⟩:=g;simp only at k B A q ⊢;have t:Hid (∀W,Calls prog 153 #[.agg #[.int .i64 b, .int .i64 f], .int .i64 c] W λe i=>e=.returned (.agg #[.int .i64 (Stil.behind ⟨b,f,a,d⟩ c).bits, .int .i64 (Stil.behind ⟨b,f,a,d⟩ c).forks])/\Below W.heap.size W i):=λW=>rp b f c W AU AU AU AU
 have r:Hid ((Stil.behind ⟨b,f,a,d⟩ c).seen=(decide (c≠11) && (a || c==10 || c==7))):=rfl;have m:Hid ((Stil.behind ⟨b,f,a,d⟩ c).coil=(c==10)):=rfl;obtain⟨x,z⟩:∃x:Int,x=(Stil.behind ⟨b,f,a,d⟩ c).bits:=⟨_,rfl⟩
 obtain⟨y,l⟩:∃y:Int,y=(Stil.behind ⟨b,f,a,d⟩ c).forks:=⟨_,rfl⟩
 rw[<-z,<-l] at t ⊢;obtain⟨u,hu⟩:∃u:Bool,u=(Stil.behind ⟨b,f,a,d⟩ c).seen:=⟨_,rfl⟩
 obtain⟨v,o⟩:∃v:Bool,v=(Stil.behind ⟨b,f,a,d⟩ c).coil:=⟨_,rfl⟩
 rw[<-hu] at r ⊢;rw[<-o] at m ⊢;clear z l hu o k B A q;cases a
 all_goals (
  go_enter func121,ntmps121
  go_wp2_with (go_at_call 153;refine(t _).mono ?_;rintro e C ⟨rfl,j⟩;have E:w.heap.size<C.heap.size:=B8 yDe j.size;obtain⟨D,F⟩:=Ff j))
 all_goals refine bodyPost_ret (by simp[results,results121,go_sem,D];rfl) rfl ⟨?_,AX⟩
 all_goals (rw[r.out,m.out];go_light;(try simp only[D3,CJ,bne_iff_ne,bne_eq_false_iff_eq] at*);simp[*])
def IC (k:Nat):Nat:=[146,147,148,149,150,151,152].getD k 0
def Tq (w:World)(g:Nat):Prop:=g<w.heap.size/\∀k:Nat,k<7->w.cell? ⟨g,k*2,none⟩=some (.int .i64 (k+2:Nat))/\w.cell? ⟨g,k*2+1,none⟩=some (.func (.func (IC k)) #[] #[])
theorem Tq.below {w w':World}{g:Nat}(h:Tq w g)(a:Below w.heap.size w w'):Tq w' g:=
 ⟨B8 h.1 a.size,λk b=>⟨(a.cell (p:=⟨g,k*2,none⟩) h.1).trans (h.2 k b).1,(a.cell (p:=⟨g,k*2+1,none⟩) h.1).trans (h.2 k b).2⟩⟩
theorem nE (w:World):Calls prog 120 #[] w λe a=>∃g,e=.returned (.slice (some ⟨g,0,none⟩) 7 7)/\Tq a g/\Below w.heap.size w a:=by
 go_enter func120,ntmps120
 go_wp2
 go_ret;refine⟨w.heap.size,rfl,⟨AW,λk c=>?_⟩,AX⟩;have b:k=0\/k=1\/k=2\/k=3\/k=4\/k=5\/k=6:=AU
 rcases b with rfl | rfl | rfl | rfl | rfl | rfl | rfl
 all_goals simp[go_sem,IC]
theorem iY (w:World):Calls prog 81 #[.nilIface] w λe a=>e=.returned (.agg #[.int .i64 0, .int .i64 0])/\Below w.heap.size w a:=by
 go_enter func81,ntmps81
 go_wp2
 refine bodyPost_ret (v:=.agg #[.int .i64 0, .int .i64 0]) (by simp[results,results81,go_sem]) rfl ⟨rfl,AX⟩
theorem rj (c k:Int)(w:World):Calls prog 81 #[.iface 83 (.agg #[.int .i64 c, .int .i64 k])] w λe a=>e=.returned (.agg #[.int .i64 c, .int .i64 k])/\Below w.heap.size w a:=by
 have b:∀(v:Value) (w:World),(Instr.typeAssert (.iface 83 v) 20 83 false).run prog w=.ok v w:=λ_ _=>by kernel_rfl
 go_enter func81,ntmps81
 go_wp2
 refine bodyPost_ret (v:=.agg #[.int .i64 c, .int .i64 k]) (by simp[results,results81,go_sem]) rfl ⟨rfl,AX⟩
def endOf (R:Int × Nat):Ending:=if 0<R.1 then .panicked [{v:=.iface 83 (.agg #[.int .i64 R.1, .int .i64 R.2]),recovered:=false}] else .returned (.tuple #[])
theorem qD (s:Stil.Pt)(x:Stil.Dj)(p:Option Addr)(cap:Nat)(w:World)(hr:Ed w)(c:Hl w)(f:Ak w (.slice p x.one.args.length cap) x.one.args)(a:x.fits)(k:Nat)(g:k<7):
  Calls prog (IC k) #[.agg #[.int .i64 s.bits, .int .i64 s.forks, .bool s.seen, .bool s.coil], .agg #[.int .i64 x.code, .int .i64 x.one.op, .slice p x.one.args.length cap]] w λe b=>e=.returned (.bool (Stil.rule k s x))/\Below w.heap.size w b:=by
 have d:k=0\/k=1\/k=2\/k=3\/k=4\/k=5\/k=6:=AU
 rcases d with rfl | rfl | rfl | rfl | rfl | rfl | rfl
 .exact cm s.bits s.forks s.seen s.coil x _ w hr c f a
 .exact ck s.bits s.forks s.seen s.coil x _ _ _ w
 .exact cj s.bits s.forks s.seen s.coil x _ _ _ w
 .exact cg s.bits s.forks s.seen s.coil x _ _ _ w
 .exact cZ s.bits s.forks s.seen s.coil x _ _ _ w
 .exact cY s.bits s.forks s.seen s.coil x _ _ _ w
 .exact cX s.bits s.forks s.seen s.coil x _ _ _ w
theorem XA (k:Nat)(b:k<7)(args:Array Value)(W:World):Sem.run prog (callFunc (IC k) args) W=.ok (.enter (IC k) args) W:=by
 have a:k=0\/k=1\/k=2\/k=3\/k=4\/k=5\/k=6:=AU
 rcases a with rfl | rfl | rfl | rfl | rfl | rfl | rfl
 .exact(show Sem.run prog (callFunc 146 args) W=.ok (.enter 146 args) W by kernel_rfl)
 .exact(show Sem.run prog (callFunc 147 args) W=.ok (.enter 147 args) W by kernel_rfl)
 .exact(show Sem.run prog (callFunc 148 args) W=.ok (.enter 148 args) W by kernel_rfl)
 .exact(show Sem.run prog (callFunc 149 args) W=.ok (.enter 149 args) W by kernel_rfl)
 .exact(show Sem.run prog (callFunc 150 args) W=.ok (.enter 150 args) W by kernel_rfl)
 .exact(show Sem.run prog (callFunc 151 args) W=.ok (.enter 151 args) W by kernel_rfl)
 .exact(show Sem.run prog (callFunc 152 args) W=.ok (.enter 152 args) W by kernel_rfl)
def Tq.set {w:World}{g b o:Nat}(h:Tq w g)(a:g≠b)(v:Value):Tq (w.setCell ⟨b,o,none⟩ v) g:=
 ⟨B8 h.1 (Jm _ _ _),λk c=>⟨(Dz a).trans (h.2 k c).1,(Dz a).trans (h.2 k c).2⟩⟩
theorem ud (l:List Stil.Dj)(v:Value)(w:World)(hr:Ed w)(hw:Hl w)(ai:Hu w v l)(hl:l.length<=1048576)(ab:∀x∈l,x.fits):
  Calls prog 82 #[v] w λe r=>e=endOf (Ew l)/\Below w.heap.size w r:=by
 have HF:Hid (∀x∈l,x.fits):=ab;have ah:Hid (∀W,Below w.heap.size w W->Ed W/\Hl W):=λW h=>⟨hr.below h,hw.below h⟩
 obtain⟨a,cap,rfl,hc⟩:=ai;have HC:Hid (∀i (h:i<l.length),∃b o,a=some ⟨b,o,none⟩/\b<w.heap.size/\JO w b (o+i*3) l[i]):=hc;obtain⟨t,I⟩:∃t,t=l.length:=⟨_,rfl⟩
 have dO:Hid (t=l.length):=I;have J:Hid (Ew l=if 1000<t then(1,0) else Hr Stil.pt0 0 l):=by show _=_;rw[I];rfl
 rw[<-I] at hl ⊢;obtain⟨R,hR⟩:∃R,R=Ew l:=⟨_,rfl⟩
 rw[<-hR] at J ⊢;clear hc ab I hR hr hw;by_cases h1:1000<t
 .have f:Hid (R=(1,0)):=by show _=_;rw[J.out,if_pos h1]
  go_enter func82,ntmps82
  go_wp2
  exact⟨rfl,by rw[f.out];rfl,Below.refl _ _⟩
 .have f:Hid (R=Hr Stil.pt0 0 l):=by show _=_;rw[J.out,if_neg h1]
  clear J;go_enter func82,ntmps82
  go_wp2_with (go_at_call 120;refine(nE _).mono ?_;rintro e B ⟨g,rfl,A,ac⟩)
  go_loopw [16] (λi wr=>∃(j:Nat) (s:Stil.Pt),j<=t/\i=.int .i64 j/\s.good/\R=Hr s j (l.drop j)/\GV wr B.heap.size s/\Tq wr g/\Below w.heap.size w wr) (λi _=>t - (intOf i).toNat)
  case atStart=>
   refine⟨0,Stil.pt0,AU,rfl,QO,by rw[f.out];rfl,?_,?_,?_⟩
   .refine⟨AW,?_,?_,?_,?_,?_,?_,?_,?_⟩
    all_goals simp[go_sem,Stil.pt0]
   .exact A.below (Aa _ _)
   .exact AX
  case round=>
   have ax:g<B.heap.size:=A.1;have K:w.heap.size<=B.heap.size:=ac.size;clear f A ac;obtain⟨j,s,hj,rfl,hg,aa,Q,A,m⟩:=hrel;have Y:Hid (R=Hr s j (l.drop j)):=aa;have z:Hid (s.good):=hg;have qg:Hid (GV wr B.heap.size s):=Q;have qf:Hid (Tq wr g):=A;clear aa hg;by_cases ay:j<t
   .have T:j<l.length:=by have:=dO.out;omega
    obtain⟨b,o,rfl,ao,hn⟩:=HC j T;obtain⟨x0,x1,nV,x2,M⟩:=hn.below m ao;have N:Hid (R=if 0<Stil.wrong s l[j] then(Stil.wrong s l[j],j) else Hr (Stil.next s l[j].code) (j+1) (l.drop (j+1))):=by show _=_;rw[Y.out,ip l s j T]
    have S:Hid (∀p cap,nV=.slice p l[j].one.args.length cap->∀k,k<7->∀W,Below wr.heap.size wr W->Calls prog (IC k) #[.agg #[.int .i64 s.bits, .int .i64 s.forks, .bool s.seen, .bool s.coil], .agg #[.int .i64 l[j].code, .int .i64 l[j].one.op, .slice p l[j].one.args.length cap]] W λe r=>e=.returned (.bool (Stil.rule k s l[j]))/\Below W.heap.size W r):=by
     intro p cap hk k y W hW;subst hk;have h2:=ah W (m.trans (hW.mono m.size));exact qD s l[j] p cap W h2.1 h2.2 (M.below hW) (HF _ (CG T)) k y
    obtain⟨x,hx⟩:∃x,x=l[j]:=⟨_,rfl⟩
    rw[<-hx] at N S x0 x1 M;obtain⟨D,C,rfl,_⟩:=M;have qp:=S D C rfl;have ap:Hid (∀k,k<7->∀W,Below wr.heap.size wr W->Calls prog (IC k) #[.agg #[.int .i64 s.bits, .int .i64 s.forks, .bool s.seen, .bool s.coil], .agg #[.int .i64 x.code, .int .i64 x.one.op, .slice D x.one.args.length C]] W λe r=>e=.returned (.bool (Stil.rule k s x))/\Below W.heap.size W r):=qp;clear hx hn Y S qp Q A;obtain⟨c,av⟩:∃c:World,c=wr:=⟨wr,rfl⟩
    subst av
    go_wp2
    go_loopw [23] (λi2 wr=>∃k:Nat,k<=7/\i2=.int .i64 k/\(∀q,q<k->Stil.rule q s x=false)/\Below (c.heap.size+1) (c.alloc (.cells #[.int .i64 x.code, .int .i64 x.one.op, .slice D x.one.args.length C] 66)) wr) (λi _=>7 - (intOf i).toNat)
    case atStart=>exact⟨0,AU,rfl,λq h=>absurd h AU,by simpa using Below.refl _ _⟩
    case round=>
     obtain⟨k,hk,rfl,af,u⟩:=hrel;have X:Hid (∀q,q<k->Stil.rule q s x=false):=af;have d:Below c.heap.size c wr:=(Aa _ _).trans (u.mono AU);obtain⟨ar,p0,p1,p2,p3,z0,z1,z2,z3⟩:=qg.below d;have hz:c.heap.size<wr.heap.size:=by have:=u.size;simp at this;omega
     have c0:wr.cell? ⟨c.heap.size,0,none⟩=some (.int .i64 x.code):=A3 u;have f0:wr.frozen? ⟨c.heap.size,0,none⟩=false:=A4 u;have c1:wr.cell? ⟨c.heap.size,1,none⟩=some (.int .i64 x.one.op):=A3 u;have f1:wr.frozen? ⟨c.heap.size,1,none⟩=false:=A4 u;have c2:wr.cell? ⟨c.heap.size,2,none⟩=some (.slice D x.one.args.length C):=A3 u;have f2:wr.frozen? ⟨c.heap.size,2,none⟩=false:=A4 u;clear af;by_cases y:k<7
     .obtain⟨az,ad⟩:=qf.below d
      obtain⟨m0,m1⟩:=ad k y;have V:Hid (∀W,Below c.heap.size c W->Calls prog (IC k) #[.agg #[.int .i64 s.bits, .int .i64 s.forks, .bool s.seen, .bool s.coil], .agg #[.int .i64 x.code, .int .i64 x.one.op, .slice D x.one.args.length C]] W λe r=>e=.returned (.bool (Stil.rule k s x))/\Below W.heap.size W r):=ap k y;obtain⟨G,Z⟩:∃G,G=Stil.rule k s x:=⟨_,rfl⟩
      rw[<-Z] at V;have nD:Hid (Stil.rule k s x=G):=Z.symm;clear ad Z;cases G
      .have aj:=XA k y
       go_wp2_with (refine(V _ (d.trans ((Aa _ _).mono d.size))).mono ?_;rintro e w4 ⟨rfl,H⟩)
       have gB:Hid (∀q,q<k+1->Stil.rule q s x=false):=λq hq=>if h:q=k then by rw[h];exact nD else X q AU
       exact⟨⟨k+1,AU,by go_num,gB.out,u.trans (((Aa _ _).trans (H.mono AW)).mono hz)⟩,by simp[intOf];omega⟩
      .have aj:=XA k y
       have f:Hid (R=((k:Int)+2,j)):=by
        have al:=lV z k y X nD.out;show _=_
        rw[N.out,al,if_pos AU];simp
       go_wp2_with (refine(V _ (d.trans ((Aa _ _).mono d.size))).mono ?_;rintro e w4 ⟨rfl,H⟩;have v0:w4.cell? ⟨wr.heap.size,0,none⟩=some (.int .i64 ((k:Int)+2)):=(A3 H))
       refine⟨rfl,?_,m.trans ((d.trans (((Aa _ _).trans (H.mono AW)).mono d.size)).mono m.size)⟩;rw[f.out];unfold endOf;rw[if_pos (by show(0:Int)<(k:Int)+2;omega)]
     .obtain rfl:k=7:=by omega
      have F:Stil.wrong s x=0:=ox z X.out;have f:Hid (R=Hr (Stil.next s x.code) (j+1) (l.drop (j+1))):=by show _=_;rw[N.out,F,if_neg AU]
      have ag:Hid (Stil.next s x.code).good:=wh z F;have ak:Hid (∀W,Calls prog 121 #[.agg #[.int .i64 s.bits, .int .i64 s.forks, .bool s.seen, .bool s.coil], .int .i64 x.code] W λe r=>e=.returned (.agg #[.int .i64 (Stil.next s x.code).bits, .int .i64 (Stil.next s x.code).forks, .bool (Stil.next s x.code).seen, .bool (Stil.next s x.code).coil])/\Below W.heap.size W r):=by
       intro W;have:=vp s x.code W z.out
       rwa [Stil.behind_next z.out F] at this
      clear F
      go_wp2_with (go_at_call 121;refine(ak _).mono ?_;rintro e U ⟨rfl,L⟩;have um:GV U B.heap.size s:=(qg.below d).below L;obtain⟨vg,g0,g1,g2,g3,y0,y1,y2,y3⟩:=um)
      have aw:Below w.heap.size w U:=m.trans ((d.trans (L.mono d.size)).mono m.size);have tC:Tq U g:=(qf.below d).below L;have E:g≠B.heap.size:=AU
      exact⟨⟨j+1,Stil.next s x.code,AU,by go_num,ag.out,f.out,GV.stored ⟨vg,g0,g1,g2,g3,y0,y1,y2,y3⟩ _,(((tC.set E _).set E _).set E _).set E _,(((aw.setCell K _).setCell K _).setCell K _).setCell K _⟩,by simp[intOf];omega⟩
   .obtain rfl:j=t:=by omega
    have f:Hid (R=if 0<s.bits then(9,j) else(0,0)):=by show _=_;rw[Y.out,j3 l s j (by have:=dO.out;omega)]
    obtain⟨ar,p0,p1,p2,p3,z0,z1,z2,z3⟩:=Q;by_cases ae:0<s.bits
    .have O:Hid (R=(9,j)):=by show _=_;rw[f.out,if_pos ae]
     go_wp2
     exact⟨rfl,by rw[O.out];rfl,m⟩
    .have O:Hid (R=(0,0)):=by show _=_;rw[f.out,if_neg ae]
     have an:s=Stil.pt0:=(wY z.out).2 AU;subst an;simp only[Stil.pt0] at p0 p1 p2 p3
     go_wp2
     go_end0
     exact⟨by rw[O.out];rfl,m⟩
def MB (w:World)(b:Nat):Prop:=b<w.heap.size/\(∃u,w.cell? ⟨b,0,none⟩=some u)/\(∃u,w.cell? ⟨b,1,none⟩=some u)/\w.frozen? ⟨b,0,none⟩=false/\w.frozen? ⟨b,1,none⟩=false
theorem catch_panicking (p:Nat)(c k:Int)(w:World)(o:MB w p):
  CallsD prog 80 #[.pointer (some ⟨p,0,none⟩)] (.panicking [{v:=.iface 83 (.agg #[.int .i64 c, .int .i64 k]),recovered:=false}]) w λe i m=>
   e=.returned (.tuple #[])/\i=.panicking [{v:=.iface 83 (.agg #[.int .i64 c, .int .i64 k]),recovered:=true}]/\∃a,Below w.heap.size w a/\m=(a.setCell ⟨p,0,none⟩ (.int .i64 c)).setCell ⟨p,1,none⟩ (.int .i64 k):=by
 obtain⟨d,⟨j,s⟩,⟨g,t⟩,q,n⟩:=o;refine callsD_of_wpS func80 rfl λu x hu=>?_
 apply wpS_region;simp[wpOpsS,go_sem,recoverD,hu,ntmps80];refine(rj c k _).mono ?_;rintro e a ⟨rfl,b⟩;have r:a.cell? ⟨p,0,none⟩=some j:=(b.cell (p:=⟨p,0,none⟩) d).trans s;have f:a.cell? ⟨p,1,none⟩=some g:=(b.cell (p:=⟨p,1,none⟩) d).trans t;have l:a.frozen? ⟨p,0,none⟩=false:=(b.frozen (p:=⟨p,0,none⟩) d).trans q;have h:a.frozen? ⟨p,1,none⟩=false:=(b.frozen (p:=⟨p,1,none⟩) d).trans n;simp[go_sem,r,f,l,h,bodyPostS,results,results80];exact⟨a,b,rfl⟩
theorem catch_idle (p:Nat)(w:World)(k:MB w p):
  CallsD prog 80 #[.pointer (some ⟨p,0,none⟩)] .returning w λe g i=>
   e=.returned (.tuple #[])/\g=.returning/\∃a,Below w.heap.size w a/\i=(a.setCell ⟨p,0,none⟩ (.int .i64 0)).setCell ⟨p,1,none⟩ (.int .i64 0):=by
 obtain⟨c,⟨h,m⟩,⟨d,n⟩,l,j⟩:=k;refine callsD_of_wpS func80 rfl λf s hu=>?_
 apply wpS_region;simp[wpOpsS,go_sem,recoverD,hu,ntmps80];refine(iY _).mono ?_;rintro e a ⟨rfl,b⟩;have t:a.cell? ⟨p,0,none⟩=some h:=(b.cell (p:=⟨p,0,none⟩) c).trans m;have o:a.cell? ⟨p,1,none⟩=some d:=(b.cell (p:=⟨p,1,none⟩) c).trans n;have r:a.frozen? ⟨p,0,none⟩=false:=(b.frozen (p:=⟨p,0,none⟩) c).trans l;have q:a.frozen? ⟨p,1,none⟩=false:=(b.frozen (p:=⟨p,1,none⟩) c).trans j;cases f;simp_all[go_sem,bodyPostS,results,results80];exact⟨a,b,rfl⟩
theorem nI (l:List Stil.Dj)(v:Value)(w:World)(hr:Ed w)(K:Hl w)(M:Hu w v l)(hl:l.length<=1048576)(J:∀x∈l,x.fits):
  Calls prog 49 #[v] w λe A=>e=.returned (.agg #[.int .i64 (Ew l).1, .int .i64 (Ew l).2])/\Below w.heap.size w A:=by
 have o:Hid (∀W,Below w.heap.size w W->Calls prog 82 #[v] W λe A=>e=endOf (Ew l)/\Below W.heap.size W A):=λW h=>ud l v W (hr.below h) (K.below h) (M.below h) hl J
 have R:∀(G:Fn) (first cap:Array Value) (w:World),(Instr.makeFunc G first cap).run prog w=.ok (.func G first cap) w:=λ_ _ _ _=>rfl
 obtain⟨a,cap,rfl,_⟩:=M;obtain⟨b,t⟩:∃b,b=(Ew l).1:=⟨_,rfl⟩
 obtain⟨k,s⟩:∃k,k=(Ew l).2:=⟨_,rfl⟩
 have I:Hid (endOf (Ew l)=endOf (b,k)):=by show _=_;rw[t,s]
 have D:Hid (¬0<b->b=0/\k=0):=by
  show _->_
  rw[t,s];exact S9 l
 rw[I.out] at o;rw[<-t,<-s];clear hr K J t s I;by_cases i:0<b
 .have m:Hid (endOf (b,k)=.panicked [{v:=.iface 83 (.agg #[.int .i64 b, .int .i64 k]),recovered:=false}]):=by show _=_;unfold endOf;rw[if_pos i]
  rw[m.out] at o;clear m D
  go_enter_defers func49,ntmps49
  go_wp2_with (go_at_call 82;refine(o _ AX).mono ?_;rintro e c ⟨rfl,hb⟩)
  have r:w.heap.size<c.heap.size:=B8 AW hb.size;have q:MB c w.heap.size:=⟨r,⟨_,by rw[hb.cell (p:=⟨w.heap.size,0,none⟩) AW];simp[go_sem];rfl⟩,⟨_,by rw[hb.cell (p:=⟨w.heap.size,1,none⟩) AW];simp[go_sem];rfl⟩,A4 hb,A4 hb⟩
  refine leaves_cons (f:=80) (args:=#[.pointer (some ⟨w.heap.size,0,none⟩)]) AW (by simp[go_sem]) ?_;refine(catch_panicking w.heap.size b k _ q).mono ?_;rintro e Q O ⟨rfl,rfl,g,j,rfl⟩;obtain⟨_,⟨z,i⟩,⟨y,h1⟩,_,_⟩:=q;have C:g.cell? ⟨w.heap.size,0,none⟩=some z:=(j.cell (p:=⟨w.heap.size,0,none⟩) r).trans i;have u:g.cell? ⟨w.heap.size,1,none⟩=some y:=(j.cell (p:=⟨w.heap.size,1,none⟩) r).trans h1;simp[Leaves,settle,results,results49,go_sem,C,u];have E:Below w.heap.size w g:=(Aa _ _).trans ((hb.trans (j.mono hb.size)).mono AW);exact(E.setCell (B7 _) _).setCell (B7 _) _
 .obtain⟨rfl,rfl⟩:=D i
  have m:Hid (endOf (0,0)=.returned (.tuple #[])):=by show _=_;unfold endOf;rw[if_neg AZ]
  rw[m.out] at o;clear m D i
  go_enter_defers func49,ntmps49
  go_wp2_with (go_at_call 82;refine(o _ AX).mono ?_;rintro e c ⟨rfl,hb⟩;have N:c.cell? ⟨w.heap.size,0,none⟩=some (.int .i64 0):=(A3 hb);have q1:c.cell? ⟨w.heap.size,1,none⟩=some (.int .i64 0):=(A3 hb);have L:c.frozen? ⟨w.heap.size,0,none⟩=false:=(A4 hb);have H:c.frozen? ⟨w.heap.size,1,none⟩=false:=(A4 hb))
  have r:w.heap.size<c.heap.size:=B8 AW hb.size;refine leaves_cons (f:=80) (args:=#[.pointer (some ⟨w.heap.size,0,none⟩)]) AW (by simp[go_sem]) ?_;obtain⟨W,d⟩:∃W,W=(c.setCell ⟨w.heap.size,0,none⟩ (.int .i64 0)).setCell ⟨w.heap.size,1,none⟩ (.int .i64 0):=⟨_,rfl⟩
  have B:w.heap.size<W.heap.size:=by rw[d];exact B8 r (CB (Jm _ _ _) (Jm _ _ _))
  have q:MB W w.heap.size:=by
   refine⟨B,⟨.int .i64 0,?_⟩,⟨.int .i64 0,?_⟩,?_,?_⟩
   .rw[d];exact(Eg AU).trans (Fp N)
   .rw[d];exact Fp ((Eg AU).trans q1)
   .rw[d];exact Lj.trans (Lj.trans L)
   .rw[d];exact Lj.trans (Lj.trans H)
  have F:Below w.heap.size w W:=by
   rw[d];exact(((Aa _ _).trans (hb.mono AW)).setCell (B7 _) _).setCell (B7 _) _
  rw[<-d];clear d N q1 L H;refine(catch_idle w.heap.size _ q).mono ?_;rintro e Q O ⟨rfl,rfl,g,j,rfl⟩;obtain⟨_,⟨z,i⟩,⟨y,h1⟩,_,_⟩:=q;have C:g.cell? ⟨w.heap.size,0,none⟩=some z:=(j.cell (p:=⟨w.heap.size,0,none⟩) B).trans i;have u:g.cell? ⟨w.heap.size,1,none⟩=some y:=(j.cell (p:=⟨w.heap.size,1,none⟩) B).trans h1;simp[Leaves,settle,results,results49,go_sem,C,u];have E:Below w.heap.size w g:=F.trans (j.mono F.size);exact(E.setCell (B7 _) _).setCell (B7 _) _
end Go.Proofs.YtfeablpbkcgdjaaGreatDoor
namespace Go.Co
section
variable {P:Program}
@[simp] theorem Afi (h):Calm P (Extern.Rtype.ofHandle h):=by
 unfold Extern.Rtype.ofHandle;exact A9
@[simp] theorem Ahe (t):Calm P (Extern.Rtype.handle t):=by
 unfold Extern.Rtype.handle;exact A9
@[simp] theorem Ahd (what t):Calm P (Extern.Rtype.noPack what t):=by
 unfold Extern.Rtype.noPack;exact A9
@[simp] theorem Ac6 (what t):Calm P (Extern.Rtype.noPackHeld what t):=by
 unfold Extern.Rtype.noPackHeld;exact A9
@[simp] theorem Acx (what t):Calm P (Extern.Rtype.noPackNamed what t):=by
 unfold Extern.Rtype.noPackNamed;exact A9
@[simp] theorem Abs (what t):Calm P (Extern.Rtype.noPackMethods what t):=by
 unfold Extern.Rtype.noPackMethods;exact A9
@[simp] theorem Ai4 (t):Calm P (Extern.Rtype.spelt t):=by
 unfold Extern.Rtype.spelt;exact A9
@[simp] theorem Ai3 (t):Calm P (Extern.Rtype.under t):=by
 unfold Extern.Rtype.under;exact A9
@[simp] theorem Ajo (t):Calm P (Extern.Rtype.kind t):=by
 unfold Extern.Rtype.kind;exact A9
@[simp] theorem Af7 (t):Calm P (Extern.Rtype.hasName t):=by
 unfold Extern.Rtype.hasName;exact A9
@[simp] theorem Ai5 (t):Calm P (Extern.Rtype.elem? t):=by
 unfold Extern.Rtype.elem?;exact A9
@[simp] theorem Ac7 (T V):Calm P (Extern.Rtype.implements T V):=by
 unfold Extern.Rtype.implements;exact A9
@[simp] theorem Ym (T V):Calm P (Extern.Rtype.directlyAssignable T V):=by
 unfold Extern.Rtype.directlyAssignable;exact A9
@[simp] theorem Zk (t):Calm P (Extern.ReflectliteType.toType t):=by
 unfold Extern.ReflectliteType.toType;exact A9
def zea {p:Prop}(h:p:=by
 repeat' first
  | exact Ae
  | exact Or.inl rfl
  | assumption
  | (simp;done)
  | refine Calm.bind ?_ (λ_=>?_)
  | dsimp only
  | refine Calm.map ?_
  | split
  | intro _):p:=h
@[simp] theorem Y5 (x0):Calm P (Extern.ReflectliteType.ofRtype x0):=by
 unfold Extern.ReflectliteType.ofRtype;cases x0
 case agg a=>
  (rcases a with⟨_ | ⟨c,_ | ⟨b,_⟩⟩⟩)
  all_goals
  exact zea
 all_goals
  exact cmC
@[simp] theorem Zj (x0):Calm P (Extern.ReflectliteType.typeOf x0):=by
 unfold Extern.ReflectliteType.typeOf;rcases x0 with⟨_ | ⟨a,_ | ⟨b,_ | ⟨c,l⟩⟩⟩⟩
 case cons.nil=>cases a<;>(repeat' first
   | exact Ae
   | exact Or.inl rfl
   | assumption
   | (simp;done)
   | refine Calm.bind ?_ (λ_=>?_)
   | dsimp only
   | refine Calm.map ?_
   | split
   | intro _)
 all_goals
  exact cmC
def zwa {p:Prop}(h:p:=by
 repeat' first
  | exact Ae
  | exact Or.inl rfl
  | assumption
  | (simp;done)
  | exact h1 _
  | refine Calm.bind ?_ (λ_=>?_)
  | dsimp only
  | refine Calm.map ?_
  | split
  | intro _):p:=h
theorem Nk {f:TypeId->Sem Value}(h1:∀t,Calm P (f t))(a:Array Value):Calm P (Extern.ReflectliteType.method f a):=by
 unfold Extern.ReflectliteType.method;rcases a with⟨_ | ⟨c,_ | ⟨b,_ | ⟨d,l⟩⟩⟩⟩
 all_goals exact zwa
@[simp] theorem Aa1 (t):Calm P (Extern.ReflectliteType.elem t):=by
 unfold Extern.ReflectliteType.elem;exact cmG
@[simp] theorem Aa0 (t):Calm P (Extern.ReflectliteType.name t):=by
 unfold Extern.ReflectliteType.name;exact A9
@[simp] theorem Y4 (t):Calm P (Extern.ReflectliteType.pkgPath t):=by
 unfold Extern.ReflectliteType.pkgPath;exact A9
theorem Lm (what:String){f:TypeId->TypeId->Sem Bool}(c:∀t u,Calm P (f t u))(a:Array Value):Calm P (Extern.ReflectliteType.relation what f a):=by
 unfold Extern.ReflectliteType.relation;rcases a with⟨_ | ⟨d,_ | ⟨b,_ | ⟨e,l⟩⟩⟩⟩
 case cons.cons.nil=>cases b<;>(repeat' first
   | exact Ae
   | exact Or.inl rfl
   | assumption
   | (simp;done)
   | exact c _ _
   | refine Calm.bind ?_ (λ_=>?_)
   | dsimp only
   | refine Calm.map ?_
   | split
   | intro _)
 all_goals
  exact cmC
@[simp] theorem X5 (u t):Calm P (Extern.ReflectliteType.implements_ u t):=by
 unfold Extern.ReflectliteType.implements_;exact A9
@[simp] theorem Wh (u t):Calm P (Extern.ReflectliteType.assignableTo u t):=by
 unfold Extern.ReflectliteType.assignableTo;exact A9
theorem Kw {f:TypeId->Sem Value}(h1:∀t,Calm P (f t))(a:Array Value):Calm P (Extern.ReflectliteType.abiMethod f a):=by
 unfold Extern.ReflectliteType.abiMethod;rcases a with⟨_ | ⟨c,_ | ⟨b,_ | ⟨d,l⟩⟩⟩⟩
 all_goals exact zwa
@[simp] theorem Abt (t a flags):Calm P (Extern.ReflectliteValue.mk t a flags):=by
 unfold Extern.ReflectliteValue.mk;exact A9
@[simp] theorem Y3 (x0):Calm P (Extern.ReflectliteValue.unpack x0):=by
 unfold Extern.ReflectliteValue.unpack;exact A9
@[simp] theorem Xh {α:Type}(method:String)(k:Nat):Calm P (Extern.ReflectliteValue.valueError method k:Sem α):=by
 unfold Extern.ReflectliteValue.valueError;exact A9
@[simp] theorem X8 (x0):Calm P (Extern.ReflectliteValue.partsAny x0):=by
 unfold Extern.ReflectliteValue.partsAny;cases x0
 case agg b=>
  rcases b with⟨_ | ⟨g,_ | ⟨d,_ | ⟨c,_ | ⟨i,l⟩⟩⟩⟩⟩
  case cons.cons.cons.nil=>
   cases c<;>first | exact Or.inl rfl | skip
   rename_i e a;cases e<;>first | exact Or.inl rfl | skip
   rcases a with(_ | a) | a
   .exact Ae
   all_goals
    cases d<;>first | exact Or.inl rfl | skip
    rename_i f;cases f<;>first | exact Or.inl rfl | (exact Calm.bind AW λ_=>Ae)
  all_goals
  exact zea
 all_goals
  exact cmC
@[simp] theorem Zh (x):Calm P (Extern.ReflectliteValue.parts x):=by
 unfold Extern.ReflectliteValue.parts;exact A9
def zua {p:Prop}(h:p:=by
 repeat' first
  | exact Ae
  | exact Or.inl rfl
  | assumption
  | (simp;done)
  | exact h2 _ _ _ _
  | refine Calm.bind ?_ (λ_=>?_)
  | dsimp only
  | refine Calm.map ?_
  | split
  | intro _):p:=h
theorem L8 {zero:Sem Value}{f:TypeId->Addr->Nat->Nat->Sem Value}(h0:Calm P zero)(h2:∀t a x y,Calm P (f t a x y))(b:Array Value):Calm P (Extern.ReflectliteValue.method zero f b):=by
 unfold Extern.ReflectliteValue.method;rcases b with⟨_ | ⟨d,_ | ⟨c,_ | ⟨e,l⟩⟩⟩⟩
 all_goals exact zua
theorem Kt {zero:Sem Value}{f:TypeId->Addr->Nat->Nat->Sem Value}(h0:Calm P zero)(h2:∀t a x y,Calm P (f t a x y))(b:Array Value):Calm P (Extern.ReflectliteValue.methodAny zero f b):=by
 unfold Extern.ReflectliteValue.methodAny;rcases b with⟨_ | ⟨d,_ | ⟨c,_ | ⟨e,l⟩⟩⟩⟩
 all_goals exact zua
@[simp] theorem Zi (t a x k):Calm P (Extern.ReflectliteValue.isNil t a x k):=by
 unfold Extern.ReflectliteValue.isNil;exact cmG
@[simp] theorem Aaz (t a x k):Calm P (Extern.ReflectliteValue.len t a x k):=by
 unfold Extern.ReflectliteValue.len;exact cmG
@[simp] theorem Aaj (t a x k):Calm P (Extern.ReflectliteValue.elem t a x k):=by
 unfold Extern.ReflectliteValue.elem;exact cmG
@[simp] theorem Aay (x0):Calm P (Extern.ReflectliteValue.set x0):=by
 unfold Extern.ReflectliteValue.set;rcases x0 with⟨_ | ⟨b,_ | ⟨a,_ | ⟨c,l⟩⟩⟩⟩
 all_goals
  exact cmC
@[simp] theorem X4 (x0):Calm P (Extern.ReflectliteValue.errorText x0):=by
 unfold Extern.ReflectliteValue.errorText;rcases x0 with⟨_ | ⟨a,_ | ⟨b,_ | ⟨c,l⟩⟩⟩⟩
 case cons.nil=>
  cases a
  case pointer o=>cases o<;>(repeat' first
   | exact Ae
   | exact Or.inl rfl
   | assumption
   | (simp;done)
   | refine Calm.bind ?_ (λ_=>?_)
   | dsimp only
   | refine Calm.map ?_
   | split
   | intro _)
  all_goals
  exact zea
 all_goals
  exact cmC
@[simp] theorem Ac8 (x0):Calm P (Extern.AbiNoEscape.same x0):=by
 unfold Extern.AbiNoEscape.same;rcases x0 with⟨_ | ⟨b,_ | ⟨a,_ | ⟨c,l⟩⟩⟩⟩
 all_goals
  exact cmC
@[simp] theorem Wi (ps rs x0):Calm P (Extern.BytealgMakeNoZero.makeNoZero ps rs x0):=by
 unfold Extern.BytealgMakeNoZero.makeNoZero;rcases x0 with⟨_ | ⟨a,_ | ⟨b,_ | ⟨c,l⟩⟩⟩⟩
 case cons.nil=>
  cases a
  case int k n=>cases k<;>(repeat' first
   | exact Ae
   | exact Or.inl rfl
   | assumption
   | (simp;done)
   | refine Calm.bind ?_ (λ_=>?_)
   | dsimp only
   | refine Calm.map ?_
   | split
   | intro _)
  all_goals
  exact zea
 all_goals
  exact cmC
@[simp] theorem Acw (s):Calm P (Extern.RuntimeError.text s):=by
 unfold Extern.RuntimeError.text;exact A9
@[simp] theorem Yl (x0):Calm P (Extern.RuntimeError.boundsError x0):=by
 unfold Extern.RuntimeError.boundsError;rcases x0 with⟨_ | ⟨f,_ | ⟨m,_ | ⟨q,l⟩⟩⟩⟩
 case cons.nil=>
  cases f
  case agg i=>
   rcases i with⟨_ | ⟨d,_ | ⟨c,_ | ⟨j,_ | ⟨e,_ | ⟨k,l⟩⟩⟩⟩⟩⟩
   case cons.cons.cons.cons.nil=>
    cases d<;>first | exact Or.inl rfl | skip
    cases c<;>first | exact Or.inl rfl | skip
    cases j<;>first | exact Or.inl rfl | skip
    cases e<;>first | exact Or.inl rfl | skip
    rename_i s x n y b r code;have key:∀(o:Option String) (g:String->String),Calm P (match o with | some a=>Extern.RuntimeError.text (g a) | none=>stuck "boundsError: no such code"):=λo g=>by cases o<;>first | exact Or.inl rfl | exact Ae
    exact key ((if(b && decide (x<0))=true then Extern.RuntimeError.boundsNegErrorFmts else Extern.RuntimeError.boundsErrorFmts)[code.toNat]?) (λa=> "runtime error: " ++(a.replace "%x" (toString (if b=true then x else IntKind.u64.wrap x))).replace "%y" (toString y))
   all_goals
   repeat' first
   | exact Ae
   | exact Or.inl rfl
   | assumption
   | (simp;done)
   | refine Calm.bind ?_ (λ_=>?_)
   | dsimp only
   | refine Calm.map ?_
   | split
   | intro _
  all_goals
  exact zea
 all_goals
  exact cmC
@[simp] theorem Zg (v):Calm P (Extern.RuntimeError.described v):=by
 unfold Extern.RuntimeError.described;exact A9
@[simp] theorem Zf (i):Calm P (Extern.RuntimeError.pkgpathOf i):=by
 unfold Extern.RuntimeError.pkgpathOf;exact A9
@[simp] theorem Vp (args):Calm P (Extern.RuntimeError.typeAssertionError args):=by
 unfold Extern.RuntimeError.typeAssertionError;exact A9
@[simp] theorem U1 (x0):Calm P (Extern.RuntimeError.unhashableTypeError x0):=by
 unfold Extern.RuntimeError.unhashableTypeError;rcases x0 with⟨_ | ⟨b,_ | ⟨c,_ | ⟨f,l⟩⟩⟩⟩
 case cons.nil=>
  cases b
  case agg a=>
   (rcases a with⟨_ | ⟨d,_ | ⟨e,_⟩⟩⟩)
   all_goals
   repeat' first
   | exact Ae
   | exact Or.inl rfl
   | assumption
   | (simp;done)
   | refine Calm.bind ?_ (λ_=>?_)
   | dsimp only
   | refine Calm.map ?_
   | split
   | intro _
  all_goals
  exact zea
 all_goals
  exact cmC
@[simp] theorem Aax (x0):Calm P (Extern.RuntimeError.nothing x0):=by
 exact Ae
end
end Go.Co
namespace Go.Proofs.YtfeablpbkcgdjaaGreatDoor
open Tryz Go.Co
def KH:List (String × (Array Value->Sem Value)):=Extern.ReflectliteValue.rows++(Extern.ReflectliteType.rows++(Extern.AbiNoEscape.rows++Extern.RuntimeError.rows))
theorem j9 (P:Program):∀p∈KH,∀args,Go.Co.Calm P (p.2 args):=by
 intro p a args;simp only[KH,Extern.ReflectliteValue.rows,Extern.ReflectliteType.rows,Extern.AbiNoEscape.rows,Extern.RuntimeError.rows,Dm,C2,EJ,EK] at a;rcases a with a | a | a | a
 .rcases a with rfl | rfl | rfl | rfl | rfl | rfl | rfl | rfl | rfl | rfl
  all_goals dsimp only
  all_goals first
   | (simp;done)
   | (refine L8 ?_ (λ_ _ _ _=>?_) _<;>first | exact Ae | (simp;done))
   | (refine Kt ?_ (λ_ _ _ _=>?_) _<;>first | exact Ae | (simp;done))
 .rcases a with rfl | rfl | rfl | rfl | rfl | rfl | rfl | rfl | rfl | rfl | rfl | rfl
  all_goals dsimp only
  all_goals first
   | (simp;done)
   | (refine Nk (λ_=>?_) _<;>first | (simp;done) | (refine Go.Co.Calm.bind AW λ_=>?_;first | (simp;done) | (refine Go.Co.Calm.bind AW λ_=>?_;exact Ae)))
   | (refine Lm _ (λ_ _=>?_) _<;>(simp;done))
   | (refine Kw (λ_=>?_) _<;>first | (simp;done) | (refine Go.Co.Calm.bind AW λ_=>?_;first | exact Ae | (simp;done) | (refine Go.Co.Calm.bind AW λ_=>?_;exact Ae)))
   | (refine Go.Co.Calm.bind AW λ_=>?_;exact Ae)
 .rcases a with rfl | rfl | rfl | rfl
  all_goals dsimp only
  all_goals first | (simp;done) | exact Ae
 .rcases a with rfl | rfl | rfl | rfl | rfl | rfl | rfl | rfl | rfl | rfl | rfl | rfl | rfl | rfl | rfl
  all_goals dsimp only
  all_goals first
   | (simp;done)
   | exact Ae
   | (refine Go.Co.Calm.bind AW λ_=>?_;first | exact Ae | (refine Go.Co.Calm.bind AW λ_=>?_;exact Ae))
def OZ (fn:Func):Option (Array Value->Sem Value):=match KH.lookup fn.name with
 | some e=>some e
 | none=>if fn.name= "internal/bytealg.MakeNoZero" then some (Extern.BytealgMakeNoZero.makeNoZero fn.params fn.resultTypes) else none
theorem kA (P:Program)(fn:Func)(e:Array Value->Sem Value)(h:OZ fn=some e)(args:Array Value):Go.Co.Calm P (e args):=by
 unfold OZ at h;split at h
 .rename_i d b
  cases h;have:(fn.name,e)∈KH:=by
   clear args
   revert b
   generalize KH=l;induction l with
   | nil=>intro h;cases h
   | cons p l c=>
    intro h;rw[List.lookup_cons] at h;split at h
    .rename_i a
     cases h;rw[D3] at a;rw[a];exact DX
    .exact CH _ (c h)
  exact j9 P _ this args
 .split at h
  .cases h
   simp
  .cases h
def ux:(prog.funcs.toList.all λa=>!(a.name== "runtime.NumGoroutine"))=true:=AY
def uv:((prog.funcs.toList.filter λa=>a.body.isNone).all λa=>(Extern.findNext a).isNone)=true:=AY
def u9:(prog.funcs.toList.filter λa=>a.body.isNone).map Extern.find=(prog.funcs.toList.filter λa=>a.body.isNone).map OZ:=AY
theorem okP:OkP prog:=by
 have c:∀(f:Nat) (a:Func),prog.funcs[f]?=some a->a∈prog.funcs.toList:=λf a h=>by
  rw[<-Array.getElem?_toList] at h;exact JD h
 refine⟨λf a h=>?_,λf a h b=>?_,λf a e h b d args=>?_⟩
 .have:=List.all_eq_true.1 ux a (c f a h)
  simpa using this
 .have:=List.all_eq_true.1 uv a (List.mem_filter.2 ⟨c f a h,b⟩)
  simpa using this
 .have:=List.map_inj_left.1 u9 a (List.mem_filter.2 ⟨c f a h,b⟩)
  rw[this] at d;exact kA _ a e d args
end Go.Proofs.YtfeablpbkcgdjaaGreatDoor
namespace Stil
structure QJ (a:B5):Prop where
 fineA:Ep a
 net:fine a.net
 norm:Ky a
 right:Bo a=0
 size:Ah a<=400
def Oh {l:List B5}(g:∀x∈l,Ba x)(h:(Am l).1=0):(∀a∈Af l,QJ a)/\Bc (Af l)<=400/\(Am (Af l)).1=0:=by
 obtain⟨j,p,_⟩:=Ve g h;have c:(Am (Af l)).1=0:=by rw[j]
 have f:=Jk c;refine⟨λa b=>?_,f.2.2.1,c⟩;obtain⟨k,i⟩:=Ti l a b;obtain⟨o,m⟩:=Jh c b;have e:Af l=l.map Dv:=by unfold Af;rw[if_pos h]
 have d:Ky a:=by
  rw[e] at b;obtain⟨x,n,rfl⟩:=List.mem_map.1 b;exact RQ x (Jh h n).1
 refine⟨k,(Y8 d).resolve_left (by rw[i];decide),d,(f.2.2.2 a b).2,m⟩
def NW {l:List B5}(h:(Am l).1≠0):E5 l=[]/\Hq l=0/\F9 l=0:=by
 have e:Af l=[]:=by unfold Af;rw[if_neg h]
 unfold E5 Hq F9;rw[e];exact⟨rfl,rfl,rfl⟩
theorem Va {l:List B5}(d:∀x∈l,Ba x):(E5 l).length<=800:=by
 by_cases h:(Am l).1=0
 .obtain⟨c,e,_⟩:=Oh d h
  have:=VT (Af l) (λa b=>⟨(c a b).fineA,(c a b).net⟩)
  show((Af l).map Ef).flatten.length<=800
  omega
 .rw[(NW h).1];exact DK _
theorem M9:∀(l:List Nat) (b x:Nat),x∈l->x<=Bg b l
 | [],_,_,h=>by cases h
 | y::r,b,x,h=>by
  rw[Ol];rcases List.mem_cons.1 h with rfl | h
  .exact J2 _ _
  .exact CB (M9 r b x h) (LJ _ _)
theorem UK {l:List B5}(c:∀x∈l,Ba x)(e:Hq l<=16)(j:F9 l<=8):Ew (E5 l)=(0,0):=by
 by_cases h:(Am l).1=0
 .obtain⟨d,k,_⟩:=Oh c h
  refine VJ (NY.2 ⟨by have:=Va c;omega,pt0,UL (Af l) (λa b=>?_),AZ⟩);have g:=d a b;have f:Ig a<=Hq l:=M9 _ _ _ (E0 b);have i:forks a<=F9 l:=M9 _ _ _ (E0 b);exact⟨g.fineA,g.net,g.right,AU,AU⟩
 .rw[(NW h).1]
  rfl
theorem lR {l:List B5}(b:∀x∈l,Ba x)(f:Hq l<=16)(g:F9 l<=8):La (E5 l)=(Af l).map Ef:=by
 unfold La;rw[UK b f g,if_neg AZ];by_cases h:(Am l).1=0
 .obtain⟨d,_⟩:=Oh b h
  exact VG (Af l) (λa c=>⟨(d a c).fineA,(d a c).net⟩)
 .have e:Af l=[]:=by unfold Af;rw[if_neg h]
  rw[(NW h).1,e];rfl
theorem XG:∀(l:List B5),(∀a∈l,QJ a)->UpR (l.map Ef) l
 | [],_=>rfl
 | a::l,h=>by
  have g:=h a AW;have c:=g.size;exact⟨a,l,Hg 11,rfl,pu g.norm g.net AU,XG l (λx b=>h x (CH _ b))⟩
def YX {l:List B5}(a:∀x∈l,Ba x)(h:(Am l).1=0)(b:Hq l<=16)(d:F9 l<=8):UpR (La (E5 l)) (Af l)/\FW (Af l)=(Af l,0):=by
 obtain⟨e,_,c⟩:=Oh a h;rw[lR a b d];refine⟨XG _ e,?_⟩;unfold FW;rw[c,if_neg AZ]
theorem Ug {k:Int}(h:i64 k):(Hg k).fits:=⟨h,by unfold i64;simp[Hg],by simp[Hg],λd hd=>by cases hd⟩
theorem Vn {k:Int}{n:B1}(c:k=2\/k=3)(b:Bi n)(h:∀x∈C9 n,x.fits):∀x∈D5 k n,x.fits:=by
 intro x a;unfold D5 PR at a;split at a
 .rw[List.mem_singleton.1 a];exact⟨by unfold i64;simp only;omega,(Dw b).2.1⟩
 .rcases List.mem_append.1 a with a | a
  .exact h x a
  .rw[List.mem_singleton.1 a];exact Ug yCc
theorem Zx (n:B1):Aj n=0->Bi n->∀x∈C9 n,x.fits:=by
 refine Fv (λn=>Aj n=0->Bi n->∀x∈C9 n,x.fits) ?_ n;intro k e kids f g j x a;have b:=(Gn _ _ _).1 j;have c:=Lc g;simp only at c;rcases Fg g with⟨rfl,rfl⟩ | ⟨q,m,_⟩ | ⟨rfl,_,y,rfl,_⟩
 .rw[Lu] at a
  rw[List.mem_singleton.1 a];exact⟨by unfold i64;simp only;omega,b.2.1⟩
 .cases kids with
  | nil=>simp at m
  | cons y r=>
   rw[Jr e y r AU AU] at a;rcases List.mem_append.1 a with a | a
   .exact f y AW (c y AW) (b.2.2.2 y AW) x a
   .obtain⟨l,o,i⟩:=List.mem_flatten.1 a
    obtain⟨z,d,rfl⟩:=List.mem_map.1 o;exact Vn AU (b.2.2.2 z (by simp[d])) (f z (by simp[d]) (c z (by simp[d])) (b.2.2.2 z (by simp[d]))) x i
 .rw[L6] at a
  rcases List.mem_append.1 a with a | a
  .exact f y AW (c y AW) (b.2.2.2 y AW) x a
  .rw[List.mem_singleton.1 a];exact Ug yCc
theorem gP {n:B1}(h:Gi n)(d:Bi n):∀x∈Be n,x.fits:=by
 intro x i;obtain⟨l,g,f⟩:=List.mem_flatten.1 i;obtain⟨y,a,rfl⟩:=List.mem_map.1 g;have b:Aj y=0/\Bi y:=by
  unfold Bh at a;split at a
  .cases a
  .rename_i e
   have c:=h.resolve_left e;split at a
   .exact⟨Lc c.2.2 y a,(Dw d).2.2.2 y a⟩
   .rw[List.mem_singleton.1 a];exact⟨c.2.2,d⟩
 exact Vn (.inl rfl) b.2 (Zx y b.1 b.2) x f
theorem g7 (a:B5):Ep a->Ba a->∀x∈Bj a,x.fits:=by
 refine Fb (λa=>Ep a->Ba a->∀x∈Bj a,x.fits) ?_ a;intro n v kids t r o x d;obtain⟨_,g⟩:=(D8 _ _ _).1 r;obtain⟨_,_,q,_,f⟩:=(Eu _ _ _).1 o;rw[U5] at d;rcases List.mem_append.1 d with d | d
 .obtain⟨c,j,rfl⟩:=List.mem_map.1 d
  exact⟨by unfold i64;simp only;omega,q c j⟩
 .obtain⟨l,s,b⟩:=List.mem_flatten.1 d
  obtain⟨i,hi,rfl⟩:=List.mem_iff_getElem.1 s;simp only[List.length_mapIdx] at hi;simp only[List.getElem_mapIdx,Ho,F4,Dm] at b;have e:=CG hi;rcases b with b | b | b
  .unfold Eb at b
   split at b
   .cases b
   .split at b
    .rw[List.mem_singleton.1 b];exact Ug yCc
    .split at b<;>(rw[List.mem_singleton.1 b];exact Ug yCc)
  .have k:=g _ e
   have m:=f _ e;generalize kids[i]=y at*;obtain⟨u,w,z⟩:=y;exact gP ((D8 _ _ _).1 k).1 ((Eu _ _ _).1 m).1 x b
  .exact t _ e (g _ e) (f _ e) x b
theorem qk {l:List B5}(e:∀x∈l,Ba x):∀x∈E5 l,x.fits:=by
 intro x i;obtain⟨r,k,d⟩:=List.mem_flatten.1 i;obtain⟨a,b,rfl⟩:=List.mem_map.1 k;by_cases f:(Am l).1=0
 .have c:=(Oh e f).1 a b
  have g:=(Jb e).1 a b;have j:=c.net;have m:=c.fineA;clear c;unfold Ef at d;rcases List.mem_append.1 d with h | h
  .exact Zx _ j.2.2 (G9 g).1 x h
  .rcases List.mem_append.1 h with h | h
   .exact g7 a m g x h
   .rw[List.mem_singleton.1 h];exact Ug yCc
 .rw[show Af l=[] by unfold Af;rw[if_neg f]] at b
  cases b
end Stil
namespace Go.Proofs.YtfeablpbkcgdjaaGreatDoor
open Tryz Go.ChangeShapes Go.WideShapes Go.ChangeAt Go.RowKit
def fR:prog.cellsOf 3=1:=AY
theorem lt_of_cell {W:World}{b o:Nat}{v:Value}(h:W.cell? ⟨b,o,none⟩=some v):b<W.heap.size:=by
 unfold World.cell? at h;cases a:W.heap[b]? with
 | none=>simp[a] at h
 | some x=>exact(Array.getElem?_eq_some_iff.1 a).1
open Go.Sort Go.BigFrame
end Go.Proofs.YtfeablpbkcgdjaaGreatDoor
namespace Stil
def Eh (l:List B5):List Dj × Int:=if 0<(Am l).1 then([],1) else if 16<Hq l\/8<F9 l then([],2) else(E5 l,0)
def P0 {l:List B5}(h:(Am l).1=0)(a:Hq l<=16)(b:F9 l<=8):Eh l=(E5 l,0):=by
 unfold Eh;rw[if_neg AU,if_neg AU]
theorem PP {l:List B5}(h:(Eh l).2=0):(Am l).1=0/\Hq l<=16/\F9 l<=8:=by
 unfold Eh at h;split at h
 .simp at h
 .rename_i a
  split at h
  .simp at h
  .have:=(Vo l).1
   exact⟨AU,AU,AU⟩
theorem yo {l:List B5}(c:∀x∈l,Ba x)(h:(Am l).1=0):Eh (Af l)=Eh l:=by
 obtain⟨e,_,_,a,_⟩:=Ve c h;have f:Hq (Af l)=Hq l:=by unfold Hq;rw[a]
 have b:F9 (Af l)=F9 l:=by unfold F9;rw[a]
 have d:E5 (Af l)=E5 l:=by unfold E5;rw[a]
 unfold Eh;rw[e,h,f,b,d]
end Stil
namespace Go.Proofs.YtfeablpbkcgdjaaGreatDoor
open Tryz Go.RowKit Go.Sort Go.BigFrame
variable {W:World}{fuel:Nat}
def BytesAt (w:World)(v:Value):Prop:=∃(a:Option Addr) (len cap:Nat),v=.slice a len cap/\len<=cap/\cap<=9223372036854775807/\∀i,i<len->∃b o z,a=some ⟨b,o,none⟩/\b<w.heap.size/\w.cell? ⟨b,o+i,none⟩=some (.int .u8 z)/\0<=z/\z<256
theorem y6 (v:Value)(w:World)(r:BytesAt w v):
  Calls prog 12 #[v] w λe g=>e=.returned (.pointer (some ⟨w.heap.size,0,none⟩))/\Ph g w.heap.size 0/\Below w.heap.size w g:=by
 obtain⟨a,len,cap,rfl,u,t,j⟩:=r;have f:Hid (∀i,i<len->∃b o z,a=some ⟨b,o,none⟩/\b<w.heap.size/\w.cell? ⟨b,o+i,none⟩=some (.int .u8 z)/\0<=z/\z<256):=j;clear j;have done:∀n c:Nat,n<=len->n<=2000->Ph (w.alloc (.cells #[.slice a n c, .int .i64 0] 71)) w.heap.size 0:=by
  intro n c x m;refine⟨a,n,c,0,by simp[go_sem],by simp[go_sem],by simp[go_sem],B7 _,m,λi hi=>?_⟩;obtain⟨b,o,z,k,d,q,s,l⟩:=f i AU;exact⟨b,o,z,k,d,by rw[(Aa w _).cell (p:=⟨b,o+i,none⟩) d];exact q,s,l⟩
 by_cases A:2000<len
 .cases a with
  | none=>obtain⟨b,o,z,h,_⟩:=f 0 AU;cases h
  | some y=>
   go_enter func12,ntmps12
   go_wp2
   go_ret;exact⟨rfl,done _ _ AU AU,Aa _ _⟩
 .go_enter func12,ntmps12
  go_wp2
  go_ret;exact⟨rfl,done _ _ AU AU,Aa _ _⟩
open Stil
open Go.ChangeShapes Go.WideShapes Go.ChangeAt
theorem PI {P:Program}:∀{l:List (String × DataW Unit)} {c:List MemPlace},DataW.LaidVars P W l c->∀{n:String} {d:DataW Unit},(n,d)∈l->
  ∃g t a fuel p,P.globalNamed n=some g/\(P.globals[g]?).map (·.type)=some t/\W.var? P n=some a/\DataW.trod (λ_=>()) P W 0 (λ_=>true) false fuel t a.toList=some (d,p)
 | [],_,_,_,_,b=>absurd b AW
 | (s,u)::r,c,⟨g,t,a,fuel,p,q,o,m,f,i,j,_⟩,n,d,b=>by
  rcases List.mem_cons.1 b with e | k
  .obtain⟨rfl,rfl⟩:=RF e
   exact⟨g,t,a,fuel,p,o,m,f,i⟩
  .exact PI j k
def ME (k:Nat):DataW Unit:=.agg [.lit (.string (Po k).data.toList), .lit (.int .i64 (H6 k)), .lit (.bool (Yc k)), .lit (.bool (O7 k)), .lit (.bool (Td k))]
def QS:prog.globalNamed "loop.example/stilway/impl.devRows" =some 2:=AY
def wj:(prog.globals[2]?).map (·.type)=some 235:=AY
def fN:prog.cellsOf 229=5:=AY
def MN:prog.cellsOf 4=1:=AY
def YF:prog.cellsOf 9=1:=AY
theorem XB {s:ByteArray}{b:ByteArray}(h:s.data.toList=b.data.toList):s=b:=by
 cases s;cases b;simp at h;rw[h]
theorem lO {cs:Array Value}{p:List MemPlace}(N:W.var? prog "loop.example/stilway/impl.devRows" =some cs)
  (hd:DataW.trod (λ_=>()) prog W 0 (λ_=>true) false fuel 235 cs.toList=some (.agg ((List.range 14).map ME),p)):Ed W:=by
 have aa:=λj=>World.var?_cell QS N j
 obtain⟨y,m,_,S,ac,hl,M⟩:=DataW.trod_array underlying235 hd;have O:=DataW.agg.inj (RF S).1;have t:∀k:Nat,k<14->W.cell? ⟨2,k*5,none⟩=some (.string (Po k))/\W.cell? ⟨2,k*5+1,none⟩=some (.int .i64 (H6 k))/\W.cell? ⟨2,k*5+2,none⟩=some (.bool (Yc k))/\W.cell? ⟨2,k*5+3,none⟩=some (.bool (O7 k))/\W.cell? ⟨2,k*5+4,none⟩=some (.bool (Td k)):=by
  intro k x;have w:k<y.length:=AU
  have z:=M k x;rw[fN,D1 w] at z;have L:y[k].1=ME k:=by
   have:=congrArg (λl=>l[k]?) O
   simp only[LI,D1 w,Jx] at this;rw[D1 (by simpa using x)] at this;simpa using(DT this).symm
  obtain⟨i,n,_,Z,ad,ab,e⟩:=DataW.trod_struct underlying229 z;have B:i.map (·.1)=[.lit (.string (Po k).data.toList), .lit (.int .i64 (H6 k)), .lit (.bool (Yc k)), .lit (.bool (O7 k)), .lit (.bool (Td k))]:=by
   have u:=congrArg Prod.fst Z;rw[L,ME] at u;exact(DataW.agg.inj u).symm
  obtain⟨d,c,g,a,b,rfl⟩:∃d c g a b,i=[d,c,g,a,b]:=by
   match i,ab with
   | [d,c,g,a,b],_=>exact⟨_,_,_,_,_,rfl⟩
  simp only[CN,EB,List.cons.injEq,F3] at B;obtain⟨r,q,A,s,o⟩:=B;have R:DataW.trod (λ_=>()) prog W 0 (λ_=>true) false n 9 (List.take 1 (List.drop 0 (List.take 5 (List.drop (k*5) cs.toList))))=some d:=by
   have h:DataW.trod (λ_=>()) prog W 0 (λ_=>true) false n 9 (List.take (prog.cellsOf 9) (List.drop 0 (List.take 5 (List.drop (k*5) cs.toList))))=some d:=e 0 _ rfl;rw[YF] at h;exact h
  have D:DataW.trod (λ_=>()) prog W 0 (λ_=>true) false n 3 (List.take 1 (List.drop 1 (List.take 5 (List.drop (k*5) cs.toList))))=some c:=by
   have h:DataW.trod (λ_=>()) prog W 0 (λ_=>true) false n 3 (List.take (prog.cellsOf 3) (List.drop 1 (List.take 5 (List.drop (k*5) cs.toList))))=some c:=e 1 _ rfl;rw[fR] at h;exact h
  have K:DataW.trod (λ_=>()) prog W 0 (λ_=>true) false n 4 (List.take 1 (List.drop 2 (List.take 5 (List.drop (k*5) cs.toList))))=some g:=by
   have h:DataW.trod (λ_=>()) prog W 0 (λ_=>true) false n 4 (List.take (prog.cellsOf 4) (List.drop 2 (List.take 5 (List.drop (k*5) cs.toList))))=some g:=e 2 _ rfl;rw[MN] at h;exact h
  have T:DataW.trod (λ_=>()) prog W 0 (λ_=>true) false n 4 (List.take 1 (List.drop 3 (List.take 5 (List.drop (k*5) cs.toList))))=some a:=by
   have h:DataW.trod (λ_=>()) prog W 0 (λ_=>true) false n 4 (List.take (prog.cellsOf 4) (List.drop 3 (List.take 5 (List.drop (k*5) cs.toList))))=some a:=e 3 _ rfl;rw[MN] at h;exact h
  have H:DataW.trod (λ_=>()) prog W 0 (λ_=>true) false n 4 (List.take 1 (List.drop 4 (List.take 5 (List.drop (k*5) cs.toList))))=some b:=by
   have h:DataW.trod (λ_=>()) prog W 0 (λ_=>true) false n 4 (List.take (prog.cellsOf 4) (List.drop 4 (List.take 5 (List.drop (k*5) cs.toList))))=some b:=e 4 _ rfl;rw[MN] at h;exact h
  obtain⟨s0,E,G,_⟩:=DataW.trod_string underlying9 R;obtain⟨s1,a1,X,_⟩:=DataW.trod_int underlying3 D;obtain⟨s2,Q,F⟩:=DataW.trod_bool underlying4 K;obtain⟨s3,U,C⟩:=DataW.trod_bool underlying4 T;obtain⟨s4,I,V⟩:=DataW.trod_bool underlying4 H;subst G X F C V;simp only[DataW.lit.injEq,Lit.string.injEq,Lit.int.injEq,Lit.bool.injEq,true_and] at r q A s o;have J:=XB r;subst J q A s o;have f:∀(j:Nat) (v:Value),j<5->List.take 1 (List.drop j (List.take 5 (List.drop (k*5) cs.toList)))=[v]->W.cell? ⟨2,k*5+j,none⟩=some v:=by
   intro j v Y h;rw[aa];have:=congrArg (λl=>l[0]?) h
   simpa[fk,fl,Y] using this
  exact⟨f 0 _ AU E,f 1 _ AU a1,f 2 _ AU Q,f 3 _ AU U,f 4 _ AU I⟩
 refine⟨?_,t⟩;have:=(t 0 AU).1
 exact lt_of_cell this
theorem jt {l:List (String × DataW Unit)}(h:laidMet prog l W)(d:("loop.example/stilway/impl.devRows",DataW.agg ((List.range 14).map ME))∈l):Ed W:=by
 obtain⟨j,b,_,_⟩:=h;obtain⟨g,t,i,fuel,p,f,e,a,c⟩:=PI b d;obtain rfl:=DT (QS.symm.trans f);obtain rfl:=DT (wj.symm.trans e);exact lO a c
def cU8:prog.cellsOf 5=1:=AY
def wf_u8 {n:Int}(h:(Lit.int .u8 n).wf=true):0<=n/\n<256:=by
 have:=h
 simp[Lit.wf,IntKind.min,IntKind.max,IntKind.signed,IntKind.bits] at this;omega
theorem jz {H:Type}{enc:TypeId × Value->H}{v:Value}{x:DataW H × List MemPlace}(h:DataW.trod enc prog W 0 (λ_=>true) true fuel 22 [v]=some x):BytesAt W v:=by
 rcases Deep.open_slice underlying22 h with⟨e,_⟩ | ⟨a,len,cap,m,n,D,B,e,_,k,g,q,_,s⟩
 .obtain rfl:v=.slice none 0 0:=by simpa using e
  exact⟨none,0,0,rfl,B7 _,AU,λi h=>absurd h AW⟩
 .obtain rfl:v=.slice (some a) len cap:=by simpa using e
  have C:len<=m:=by rw[q];split<;>omega
  have each:∀i,i<len->∃z:Int,W.cell? (a.add (i*1))=some (.int .u8 z)/\0<=z/\z<256:=by
   intro i hi;obtain⟨w,d,r⟩:=s i AU;rw[cU8] at d;obtain⟨_,A,u⟩:=World.cells?_some d;obtain⟨z,c,_,t⟩:=DataW.trod_int underlying5 r;have f:=u 0 AU;rw[Addr.add_add] at f;rw[c] at f;refine⟨z,by simpa using f,wf_u8 t⟩
  obtain⟨b,o,sp⟩:=a;refine⟨_,len,cap,rfl,k,CB g AZ,λi hi=>?_⟩;obtain⟨z,c,d⟩:=each i hi;have l:sp=none:=by
   obtain⟨y,j,_⟩:=each 0 AU;simpa[Addr.add] using World.cell?_spot j
  subst l;rw[Addr.add_lit,Nat.mul_one] at c;exact⟨b,o,z,rfl,lt_of_cell c,c,d⟩
