import Derived.Test.YtmnnkedjoecehaaGreatDoorKe
set_option linter.defProp false
set_option maxHeartbeats 4000000
set_option maxRecDepth 100000
namespace Go.Proofs.YtmnnkedjoecehaaGreatDoor
open Tryz Stil Go.RowKit Go.Sort Go.BigFrame
def gh (i:Stil.Gf)(t:Value)(w:World)(hr:Ep w)(C:Ii w)(y:Dj w t i.one.args)(x:i.fits):
  Calls prog 139 #[.agg #[AB i.code,AB i.one.op,t]] w (AN w (.bool (Qc i))):=by
 obtain⟨c,op,d⟩:=i;simp only at y x ⊢;have G:d.length<=1048576:=x.2.2.1;have r:Hid (∀W,AO w W->Calls prog 149 #[.agg #[AB op,t]] W (AN W (.bool (Dw op d)))):=λW o=>VZ op t d W (hr.below o) (y.below o) x.2.2.2 AQ
 have s:Hid (∀W,AO w W->Calls prog 145 #[.agg #[AB op,t]] W (AN W (.bool (Gj op d)))):=λW o=>Xs op t d W (hr.below o) (y.below o) x.2.2.2 AQ
 have f:Hid (∀W,AO w W->∀k:Nat,k<12->Calls prog 150 #[AB k] W λe l=>e=.returned (.string ⟨(Stil.listWords.getD k []).toArray⟩)/\l=W):=λW o k I=>Avl k W (C.below o) I
 have b:Hid (Qc ⟨c,op,d⟩=if c<1\/11<c then false else if c<=3 then Dw op d else if c=10 then Gj op d else(op==0 && d.length==0)):=rfl;obtain⟨H,K,rfl,_⟩:=y;obtain⟨R,A⟩:=AA (Qc ⟨c,op,d⟩)
 obtain⟨q1,E⟩:∃q,q=Dw op d:=⟨_,rfl⟩
 obtain⟨L,D⟩:∃q,q=Gj op d:=⟨_,rfl⟩
 obtain⟨v,F⟩:=AA d.length
 rw[<-A] at b ⊢;rw[<-E] at b r;rw[<-D] at b s;rw[<-F] at b r s G ⊢;have j:Hid (∀W,Calls prog 128 #[.agg #[AB op,AE H v K]] W (AN W (.bool (op==0 && v==0)))):=λW=>NV _ _ _ _ _ AQ
 clear A E D x F hr C;by_cases B:c<0\/11<c
 ·have a:Hid (R=false):=by show _=_;rw[b.out,if_pos AQ]
  have O:(c==1)=false:=by rw[CS];omega
  have P:(c==2)=false:=by rw[CS];omega
  have N:(c==3)=false:=by rw[CS];omega
  have M:(c==10)=false:=by rw[CS];omega
  have J:Hid (c<0\/12<=c):=by show _\/_;omega
  clear b r s f B;go_enter func139,ntmps139
  go_wp2_with (go_at_call 150;refine(qb _ _ J.out).mono ?_;rintro e g ⟨rfl,rfl⟩)
  go_ret;exact⟨Ae a.symm,AW⟩
 ·have z:c=0\/c=1\/c=2\/c=3\/c=10\/c=4\/c=5\/c=6\/c=7\/c=8\/c=9\/c=11:=by omega
  clear B;rcases z with rfl | rfl | rfl | rfl | rfl | z
  ·have a:Hid (R=false):=by show _=_;rw[b.out,if_pos AQ]
   clear b r s j;go_enter func139,ntmps139
   go_wp2_with (go_at_call 150;refine(f _ AW 0 AQ).mono ?_;rintro e g ⟨rfl,rfl⟩;simp only[Stil.listWords,List.getD_cons_zero])
   go_ret;exact⟨Ae a.symm,AW⟩
  iterate 3
   ·have a:Hid (R=q1):=by show _=_;rw[b.out,if_neg AQ,if_pos AQ]
    clear b f s j;go_enter func139,ntmps139
    go_wp2_with (go_at_call 149;refine(r _ AW).mono ?_;rintro e g ⟨rfl,m⟩)
    go_ret;exact⟨Ae a.symm,AW⟩
  ·have a:Hid (R=L):=by show _=_;rw[b.out,if_neg AQ,if_neg AQ,if_pos rfl]
   clear b f r j;go_enter func139,ntmps139
   go_wp2_with (go_at_call 145;refine(s _ AW).mono ?_;rintro e g ⟨rfl,m⟩)
   go_ret;exact⟨Ae a.symm,AW⟩
  ·have a:Hid (R=(op==0 && v==0)):=by show _=_;rw[b.out,if_neg AQ,if_neg AQ,if_neg AQ]
   clear b r s;rcases z with rfl | rfl | rfl | rfl | rfl | rfl | rfl
   ·go_enter func139,ntmps139
    go_wp2_with (first | (go_at_call 150;refine(f _ AW 4 AQ).mono ?_;rintro e g ⟨rfl,rfl⟩;simp only[Stil.listWords,List.getD_cons_succ,List.getD_cons_zero]) | (go_at_call 128;refine(j _).mono ?_;rintro e u ⟨rfl,m⟩))
    go_ret;exact⟨Ae a.symm,AW⟩
   ·go_enter func139,ntmps139
    go_wp2_with (first | (go_at_call 150;refine(f _ AW 5 AQ).mono ?_;rintro e g ⟨rfl,rfl⟩;simp only[Stil.listWords,List.getD_cons_succ,List.getD_cons_zero]) | (go_at_call 128;refine(j _).mono ?_;rintro e u ⟨rfl,m⟩))
    go_ret;exact⟨Ae a.symm,AW⟩
   ·go_enter func139,ntmps139
    go_wp2_with (first | (go_at_call 150;refine(f _ AW 6 AQ).mono ?_;rintro e g ⟨rfl,rfl⟩;simp only[Stil.listWords,List.getD_cons_succ,List.getD_cons_zero]) | (go_at_call 128;refine(j _).mono ?_;rintro e u ⟨rfl,m⟩))
    go_ret;exact⟨Ae a.symm,AW⟩
   ·go_enter func139,ntmps139
    go_wp2_with (first | (go_at_call 150;refine(f _ AW 7 AQ).mono ?_;rintro e g ⟨rfl,rfl⟩;simp only[Stil.listWords,List.getD_cons_succ,List.getD_cons_zero]) | (go_at_call 128;refine(j _).mono ?_;rintro e u ⟨rfl,m⟩))
    go_ret;exact⟨Ae a.symm,AW⟩
   ·go_enter func139,ntmps139
    go_wp2_with (first | (go_at_call 150;refine(f _ AW 8 AQ).mono ?_;rintro e g ⟨rfl,rfl⟩;simp only[Stil.listWords,List.getD_cons_succ,List.getD_cons_zero]) | (go_at_call 128;refine(j _).mono ?_;rintro e u ⟨rfl,m⟩))
    go_ret;exact⟨Ae a.symm,AW⟩
   ·go_enter func139,ntmps139
    go_wp2_with (first | (go_at_call 150;refine(f _ AW 9 AQ).mono ?_;rintro e g ⟨rfl,rfl⟩;simp only[Stil.listWords,List.getD_cons_succ,List.getD_cons_zero]) | (go_at_call 128;refine(j _).mono ?_;rintro e u ⟨rfl,m⟩))
    go_ret;exact⟨Ae a.symm,AW⟩
   ·go_enter func139,ntmps139
    go_wp2_with (first | (go_at_call 150;refine(f _ AW 11 AQ).mono ?_;rintro e g ⟨rfl,rfl⟩;simp only[Stil.listWords,List.getD_cons_succ,List.getD_cons_zero]) | (go_at_call 128;refine(j _).mono ?_;rintro e u ⟨rfl,m⟩))
    go_ret;exact⟨Ae a.symm,AW⟩
def lO (b f:Int)(d c:Bool)(i:Stil.Gf)(a:Value)(w:World)(hr:Ep w)(l:Ii w)(k:Dj w a i.one.args)(m:i.fits):
  Calls prog 109 #[.agg #[AB b,AB f, .bool d, .bool c], .agg #[AB i.code,AB i.one.op,a]] w (AN w (.bool (Stil.rule 0 ⟨b,f,d,c⟩ i))):=by
 have p:Hid (∀W,AO w W->Calls prog 139 #[.agg #[AB i.code,AB i.one.op,a]] W (AN W (.bool (Qc i)))):=λW j=>gh i a W (hr.below j) (l.below j) (k.below j) m
 have o:Hid (Stil.rule 0 ⟨b,f,d,c⟩ i=!Qc i):=rfl;obtain⟨r,t,rfl,_⟩:=k;clear hr l m;go_enter func109,ntmps109
 go_wp2_with (go_at_call 139;refine(p _ AW).mono ?_;rintro e s ⟨rfl,q⟩)
 go_ret;exact⟨Ae o.symm,AW⟩
def vf (c:Int)(w:World):
  Calls prog 140 #[AB c] w λe b=>e=.returned (AB (Stil.needs c))/\b=w:=by
 obtain⟨R,a⟩:=AA (Stil.needs c)
 have d:Hid (R=Stil.needs c):=a;rw[<-a];clear a;go_enter func140,ntmps140
 go_wp2
 all_goals go_ret
 all_goals refine⟨Fj ?_,rfl⟩
 all_goals (rw[d.out];go_light;(try simp only[ED,CS] at*);simp[Stil.needs, *];try omega)
def lN (b f:Int)(d a:Bool)(i:Stil.Gf)(p:Option Addr)(n cap:Nat)(w:World):
  Calls prog 110 #[.agg #[AB b,AB f, .bool d, .bool a], .agg #[AB i.code,AB i.one.op,AE p n cap]] w (AN w (.bool (Stil.rule 1 ⟨b,f,d,a⟩ i))):=by
 obtain⟨c,op,o⟩:=i;simp only;obtain⟨R,g⟩:=AA (Stil.rule 1 ⟨b,f,d,a⟩ ⟨c,op,o⟩)
 have m:Hid (R=decide (b<Stil.needs c)):=g;obtain⟨j,l⟩:=AA (Stil.needs c)
 have q:Hid (∀W,Calls prog 140 #[AB c] W λe k=>e=.returned (AB j)/\k=W):=by rw[l];exact λW=>vf c W
 rw[<-l] at m;rw[<-g];clear g l;cases d<;>cases a
 all_goals (
  go_enter func110,ntmps110
  go_upto_region 1 with fail
  go_region_with (go_at_call 140;refine(q _).mono ?_;rintro e r ⟨rfl,rfl⟩)
  all_goals (try go_wp2)
  all_goals go_ret
  all_goals refine⟨Ae ?_,AW⟩
  all_goals (rw[m.out]))
def lM (b f:Int)(a d:Bool)(i:Stil.Gf)(p:Option Addr)(n cap:Nat)(w:World):
  Calls prog 111 #[.agg #[AB b,AB f, .bool a, .bool d], .agg #[AB i.code,AB i.one.op,AE p n cap]] w (AN w (.bool (Stil.rule 2 ⟨b,f,a,d⟩ i))):=by
 obtain⟨c,op,j⟩:=i;simp only;obtain⟨R,g⟩:=AA (Stil.rule 2 ⟨b,f,a,d⟩ ⟨c,op,j⟩)
 have l:Hid (R=Stil.rule 2 ⟨b,f,a,d⟩ ⟨c,op,j⟩):=g;rw[<-g];clear g;cases a<;>cases d
 all_goals (
  go_enter func111,ntmps111
  go_wp2
  all_goals go_ret
  all_goals refine⟨Ae ?_,AW⟩
  all_goals (rw[l.out];go_light;(try simp only[ED,CS] at*);rw[DY];simp[Stil.rule, *];try omega))
def lK (b f:Int)(a d:Bool)(i:Stil.Gf)(p:Option Addr)(n cap:Nat)(w:World):
  Calls prog 112 #[.agg #[AB b,AB f, .bool a, .bool d], .agg #[AB i.code,AB i.one.op,AE p n cap]] w (AN w (.bool (Stil.rule 3 ⟨b,f,a,d⟩ i))):=by
 obtain⟨c,op,j⟩:=i;simp only;obtain⟨R,g⟩:=AA (Stil.rule 3 ⟨b,f,a,d⟩ ⟨c,op,j⟩)
 have l:Hid (R=Stil.rule 3 ⟨b,f,a,d⟩ ⟨c,op,j⟩):=g;rw[<-g];clear g;cases a<;>cases d
 all_goals (
  go_enter func112,ntmps112
  go_wp2
  all_goals go_ret
  all_goals refine⟨Ae ?_,AW⟩
  all_goals (rw[l.out];go_light;(try simp only[ED,CS] at*);rw[DY];simp[Stil.rule, *];try omega))
def lE (b f:Int)(a d:Bool)(i:Stil.Gf)(p:Option Addr)(n cap:Nat)(w:World):
  Calls prog 113 #[.agg #[AB b,AB f, .bool a, .bool d], .agg #[AB i.code,AB i.one.op,AE p n cap]] w (AN w (.bool (Stil.rule 4 ⟨b,f,a,d⟩ i))):=by
 obtain⟨c,op,j⟩:=i;simp only;obtain⟨R,g⟩:=AA (Stil.rule 4 ⟨b,f,a,d⟩ ⟨c,op,j⟩)
 have l:Hid (R=Stil.rule 4 ⟨b,f,a,d⟩ ⟨c,op,j⟩):=g;rw[<-g];clear g;cases a<;>cases d
 all_goals (
  go_enter func113,ntmps113
  go_wp2
  all_goals go_ret
  all_goals refine⟨Ae ?_,AW⟩
  all_goals (rw[l.out];go_light;(try simp only[ED,CS] at*);rw[DY];simp[Stil.rule, *];try omega))
def lC (b f:Int)(a d:Bool)(i:Stil.Gf)(p:Option Addr)(n cap:Nat)(w:World):
  Calls prog 114 #[.agg #[AB b,AB f, .bool a, .bool d], .agg #[AB i.code,AB i.one.op,AE p n cap]] w (AN w (.bool (Stil.rule 5 ⟨b,f,a,d⟩ i))):=by
 obtain⟨c,op,j⟩:=i;simp only;obtain⟨R,g⟩:=AA (Stil.rule 5 ⟨b,f,a,d⟩ ⟨c,op,j⟩)
 have l:Hid (R=Stil.rule 5 ⟨b,f,a,d⟩ ⟨c,op,j⟩):=g;rw[<-g];clear g;cases a<;>cases d
 all_goals (
  go_enter func114,ntmps114
  go_wp2
  all_goals go_ret
  all_goals refine⟨Ae ?_,AW⟩
  all_goals (rw[l.out];go_light;(try simp only[ED,CS] at*);rw[DY];simp[Stil.rule, *];try omega))
def lB (b f:Int)(a d:Bool)(i:Stil.Gf)(p:Option Addr)(n cap:Nat)(w:World):
  Calls prog 115 #[.agg #[AB b,AB f, .bool a, .bool d], .agg #[AB i.code,AB i.one.op,AE p n cap]] w (AN w (.bool (Stil.rule 6 ⟨b,f,a,d⟩ i))):=by
 obtain⟨c,op,j⟩:=i;simp only;obtain⟨R,g⟩:=AA (Stil.rule 6 ⟨b,f,a,d⟩ ⟨c,op,j⟩)
 have l:Hid (R=Stil.rule 6 ⟨b,f,a,d⟩ ⟨c,op,j⟩):=g;rw[<-g];clear g;cases a<;>cases d
 all_goals (
  go_enter func115,ntmps115
  go_wp2
  all_goals go_ret
  all_goals refine⟨Ae ?_,AW⟩
  all_goals (rw[l.out];go_light;(try simp only[ED,CS] at*);rw[DY];simp[Stil.rule, *];try omega))
end Go.Proofs.YtmnnkedjoecehaaGreatDoor
namespace Go.Proofs.YtmnnkedjoecehaaGreatDoor
open Tryz Stil Go.RowKit Go.Sort Go.BigFrame
def Azu (s:Stil.Pt)(c:Int)(w:World)(g:s.good):
  Calls prog 72 #[.agg #[AB s.bits,AB s.forks, .bool s.seen, .bool s.coil],AB c] w (AN w (.agg #[AB (Stil.behind s c).bits,AB (Stil.behind s c).forks, .bool (Stil.behind s c).seen, .bool (Stil.behind s c).coil])):=by
 obtain⟨b,f,a,d⟩:=s;obtain⟨B,q,l,z,_⟩:=g;simp only at B q l z ⊢;have m:Hid (∀W,Calls prog 116 #[.agg #[AB b,AB f],AB c] W (AN W (.agg #[AB (Stil.behind ⟨b,f,a,d⟩ c).bits,AB (Stil.behind ⟨b,f,a,d⟩ c).forks]))):=λW=>Avg b f c W AQ AQ AQ AQ
 have j:Hid ((Stil.behind ⟨b,f,a,d⟩ c).seen=(decide (c≠11) && (a || c==10 || c==7))):=rfl;have r:Hid ((Stil.behind ⟨b,f,a,d⟩ c).coil=(c==10)):=rfl;obtain⟨x,t⟩:∃x:Int,x=(Stil.behind ⟨b,f,a,d⟩ c).bits:=⟨_,rfl⟩
 obtain⟨y,A⟩:∃y:Int,y=(Stil.behind ⟨b,f,a,d⟩ c).forks:=⟨_,rfl⟩
 rw[<-t,<-A] at m ⊢;obtain⟨u,hu⟩:∃u:Bool,u=(Stil.behind ⟨b,f,a,d⟩ c).seen:=⟨_,rfl⟩
 obtain⟨v,o⟩:∃v:Bool,v=(Stil.behind ⟨b,f,a,d⟩ c).coil:=⟨_,rfl⟩
 rw[<-hu] at j ⊢;rw[<-o] at r ⊢;clear t A hu o B q l z;cases a
 all_goals (
  go_enter func72,ntmps72
  go_wp2_with (go_at_call 116;refine(m _).mono ?_;rintro e C ⟨rfl,k⟩;have F:w.heap.size<C.heap.size:=CB BZ k.size;obtain⟨D,E⟩:=En k))
 all_goals refine bodyPost_ret (by simp[results,results72,go_sem,D];rfl) rfl ⟨?_,AW⟩
 all_goals (rw[j.out,r.out];go_light;(try simp only[ED,CS,bne_iff_ne,bne_eq_false_iff_eq] at*);simp[*])
def IG (k:Nat):Nat:=[109,110,111,112,113,114,115].getD k 0
def Vu (w:World)(g:Nat):Prop:=g<w.heap.size/\∀k:Nat,k<7->w.cell? ⟨g,k*2,none⟩=some (AB (k+2:Nat))/\w.cell? ⟨g,k*2+1,none⟩=some (.func (.func (IG k)) #[] #[])
def Vu.below {w w':World}{g:Nat}(h:Vu w g)(a:AO w w'):Vu w' g:=
 ⟨CB h.1 a.size,λk b=>⟨(a.cell (p:=(AK g (k*2))) h.1).trans (h.2 k b).1,(a.cell (p:=(AK g (k*2+1))) h.1).trans (h.2 k b).2⟩⟩
def vd (w:World):Calls prog 71 #[] w λe a=>∃g,e=.returned (AE (some (AK g 0)) 7 7)/\Vu a g/\AO w a:=by
 go_enter func71,ntmps71
 go_wp2
 go_ret;refine⟨w.heap.size,rfl,⟨AU,λk c=>?_⟩,AW⟩;have b:k=0\/k=1\/k=2\/k=3\/k=4\/k=5\/k=6:=AQ
 rcases b with rfl | rfl | rfl | rfl | rfl | rfl | rfl
 all_goals simp[go_sem,IG]
def qD (w:World):Calls prog 42 #[.nilIface] w (AN w (.agg #[AB 0,AB 0])):=by
 go_enter func42,ntmps42
 go_wp2
 refine bodyPost_ret (v:=.agg #[AB 0,AB 0]) (by simp[results,results42,go_sem]) rfl ⟨rfl,AW⟩
def Avf (c k:Int)(w:World):Calls prog 42 #[.iface 42 (.agg #[AB c,AB k])] w (AN w (.agg #[AB c,AB k])):=by
 have b:∀(v:Value) (w:World),(Instr.typeAssert (.iface 42 v) 20 42 false).run prog w=.ok v w:=λ_ _=>by kernel_rfl
 go_enter func42,ntmps42
 go_wp2
 refine bodyPost_ret (v:=.agg #[AB c,AB k]) (by simp[results,results42,go_sem]) rfl ⟨rfl,AW⟩
def endOf (R:Int × Nat):Ending:=if 0<R.1 then .panicked [{v:=.iface 42 (.agg #[AB R.1,AB R.2]),recovered:=false}] else .returned (.tuple #[])
def yW (s:Stil.Pt)(x:Stil.Gf)(p:Option Addr)(cap:Nat)(w:World)(hr:Ep w)(a:Ii w)(b:Dj w (AE p x.one.args.length cap) x.one.args)(d:x.fits)(k:Nat)(g:k<7):
  Calls prog (IG k) #[.agg #[AB s.bits,AB s.forks, .bool s.seen, .bool s.coil], .agg #[AB x.code,AB x.one.op,AE p x.one.args.length cap]] w (AN w (.bool (Stil.rule k s x))):=by
 have f:k=0\/k=1\/k=2\/k=3\/k=4\/k=5\/k=6:=AQ
 rcases f with rfl | rfl | rfl | rfl | rfl | rfl | rfl
 ·exact lO s.bits s.forks s.seen s.coil x _ w hr a b d
 ·exact lN s.bits s.forks s.seen s.coil x _ _ _ w
 ·exact lM s.bits s.forks s.seen s.coil x _ _ _ w
 ·exact lK s.bits s.forks s.seen s.coil x _ _ _ w
 ·exact lE s.bits s.forks s.seen s.coil x _ _ _ w
 ·exact lC s.bits s.forks s.seen s.coil x _ _ _ w
 ·exact lB s.bits s.forks s.seen s.coil x _ _ _ w
def eE (k:Nat)(b:k<7)(args:Array Value)(W:World):Sem.run prog (callFunc (IG k) args) W=.ok (.enter (IG k) args) W:=by
 have a:k=0\/k=1\/k=2\/k=3\/k=4\/k=5\/k=6:=AQ
 rcases a with rfl | rfl | rfl | rfl | rfl | rfl | rfl
 ·exact(show Sem.run prog (callFunc 109 args) W=.ok (.enter 109 args) W by kernel_rfl)
 ·exact(show Sem.run prog (callFunc 110 args) W=.ok (.enter 110 args) W by kernel_rfl)
 ·exact(show Sem.run prog (callFunc 111 args) W=.ok (.enter 111 args) W by kernel_rfl)
 ·exact(show Sem.run prog (callFunc 112 args) W=.ok (.enter 112 args) W by kernel_rfl)
 ·exact(show Sem.run prog (callFunc 113 args) W=.ok (.enter 113 args) W by kernel_rfl)
 ·exact(show Sem.run prog (callFunc 114 args) W=.ok (.enter 114 args) W by kernel_rfl)
 ·exact(show Sem.run prog (callFunc 115 args) W=.ok (.enter 115 args) W by kernel_rfl)
def Vu.set {w:World}{g b o:Nat}(h:Vu w g)(c:g≠b)(v:Value):Vu (w.setCell (AK b o) v) g:=
 ⟨CB h.1 (Iz _ _ _),λk a=>⟨(Bl c).trans (h.2 k a).1,(Bl c).trans (h.2 k a).2⟩⟩
def Azs (l:List Stil.Gf)(v:Value)(w:World)(hr:Ep w)(hw:Ii w)(ao:H8 w v l)(hl:l.length<=1048576)(ah:∀x∈l,x.fits):
  Calls prog 43 #[v] w λe t=>e=endOf (Et l)/\AO w t:=by
 have HF:Hid (∀x∈l,x.fits):=ah;have ax:Hid (∀W,AO w W->Ep W/\Ii W):=λW h=>⟨hr.below h,hw.below h⟩
 obtain⟨a,cap,rfl,hc⟩:=ao;have HC:Hid (∀i (h:i<l.length),∃b o,a=some (AK b o)/\b<w.heap.size/\KA w b (o+i*3) l[i]):=hc;obtain⟨u,H⟩:=AA l.length
 have eF:Hid (u=l.length):=H;have J:Hid (Et l=if 1000<u then(1,0) else Iy Stil.pt0 0 l):=by show _=_;rw[H];rfl
 rw[<-H] at hl ⊢;obtain⟨R,hR⟩:=AA (Et l)
 rw[<-hR] at J ⊢;clear hc ah H hR hr hw;by_cases h1:1000<u
 ·have f:Hid (R=(1,0)):=by show _=_;rw[J.out,if_pos h1]
  go_enter func43,ntmps43
  go_wp2
  exact⟨rfl,by rw[f.out];rfl,Below.refl _ _⟩
 ·have f:Hid (R=Iy Stil.pt0 0 l):=by show _=_;rw[J.out,if_neg h1]
  clear J;go_enter func43,ntmps43
  go_wp2_with (go_at_call 71;refine(vd _).mono ?_;rintro e B ⟨g,rfl,z,ae⟩)
  go_loopw [16] (λi wr=>∃(j:Nat) (s:Stil.Pt),j<=u/\i=AB j/\s.good/\R=Iy s j (l.drop j)/\GM wr B.heap.size s/\Vu wr g/\AO w wr) (λi _=>u - (intOf i).toNat)
  case atStart=>
   refine⟨0,Stil.pt0,AQ,rfl,S8,by rw[f.out];rfl,?_,?_,?_⟩
   ·refine⟨AU,?_,?_,?_,?_,?_,?_,?_,?_⟩
    all_goals simp[go_sem,Stil.pt0]
   ·exact z.below (Aa _ _)
   ·exact AW
  case round=>
   have aD:g<B.heap.size:=z.1;have G:w.heap.size<=B.heap.size:=ae.size;clear f z ae;obtain⟨j,s,hj,rfl,hg,ag,N,z,r⟩:=hrel;have Y:Hid (R=Iy s j (l.drop j)):=ag;have A:Hid (s.good):=hg;have aa:Hid (GM wr B.heap.size s):=N;have ab:Hid (Vu wr g):=z;clear ag hg;by_cases aB:j<u
   ·have M:j<l.length:=by have:=eF.out;omega
    obtain⟨b,o,rfl,ar,Z⟩:=HC j M;obtain⟨x0,x1,rO,x2,Q⟩:=Z.below r ar;have P:Hid (R=if 0<Stil.wrong s l[j] then(Stil.wrong s l[j],j) else Iy (Stil.next s l[j].code) (j+1) (l.drop (j+1))):=by show _=_;rw[Y.out,qu l s j M]
    have U:Hid (∀p cap,rO=.slice p l[j].one.args.length cap->∀k,k<7->∀W,AO wr W->Calls prog (IG k) #[.agg #[AB s.bits,AB s.forks, .bool s.seen, .bool s.coil], .agg #[AB l[j].code,AB l[j].one.op, .slice p l[j].one.args.length cap]] W (AN W (.bool (Stil.rule k s l[j])))):=by
     intro p cap hk k y W hW;subst hk;have h2:=ax W (r.trans (hW.mono r.size));exact yW s l[j] p cap W h2.1 h2.2 (Q.below hW) (HF _ (CJ M)) k y
    obtain⟨x,hx⟩:=AA (l[j])
    rw[<-hx] at P U x0 x1 Q;obtain⟨D,C,rfl,_⟩:=Q;have nJ:=U D C rfl;have ak:Hid (∀k,k<7->∀W,AO wr W->Calls prog (IG k) #[.agg #[AB s.bits,AB s.forks, .bool s.seen, .bool s.coil], .agg #[AB x.code,AB x.one.op,AE D x.one.args.length C]] W (AN W (.bool (Stil.rule k s x)))):=nJ;clear hx Z Y U nJ N z;obtain⟨c,al⟩:∃c:World,c=wr:=⟨wr,rfl⟩
    subst al
    go_wp2
    go_loopw [23] (λi2 wr=>∃k:Nat,k<=7/\i2=AB k/\(∀q,q<k->Stil.rule q s x=false)/\Below (c.heap.size+1) (c.alloc (.cells #[AB x.code,AB x.one.op,AE D x.one.args.length C] 48)) wr) (λi _=>7 - (intOf i).toNat)
    case atStart=>exact⟨0,AQ,rfl,λq h=>absurd h AQ,by simpa using Below.refl _ _⟩
    case round=>
     obtain⟨k,hk,rfl,af,m⟩:=hrel;have L:Hid (∀q,q<k->Stil.rule q s x=false):=af;have d:AO c wr:=(Aa _ _).trans (m.mono AQ);obtain⟨ay,p0,p1,p2,p3,z0,z1,z2,z3⟩:=aa.below d;have hz:c.heap.size<wr.heap.size:=by have:=m.size;simp at this;omega
     have c0:wr.cell? (AL c 0)=some (AB x.code):=A0 m;have f0:wr.frozen? (AL c 0)=false:=A5 m;have c1:wr.cell? (AL c 1)=some (AB x.one.op):=A0 m;have f1:wr.frozen? (AL c 1)=false:=A5 m;have c2:wr.cell? (AL c 2)=some (AE D x.one.args.length C):=A0 m;have f2:wr.frozen? (AL c 2)=false:=A5 m;clear af;by_cases y:k<7
     ·obtain⟨aC,ac⟩:=ab.below d
      obtain⟨m0,m1⟩:=ac k y;have T:Hid (∀W,AO c W->Calls prog (IG k) #[.agg #[AB s.bits,AB s.forks, .bool s.seen, .bool s.coil], .agg #[AB x.code,AB x.one.op,AE D x.one.args.length C]] W (AN W (.bool (Stil.rule k s x)))):=ak k y;obtain⟨K,S⟩:=AA (Stil.rule k s x)
      rw[<-S] at T;have kY:Hid (Stil.rule k s x=K):=S.symm;clear ac S;cases K
      ·have aw:=eE k y
       go_wp2_with (refine(T _ (d.trans ((Aa _ _).mono d.size))).mono ?_;rintro e w4 ⟨rfl,I⟩)
       have dP:Hid (∀q,q<k+1->Stil.rule q s x=false):=λq hq=>if h:q=k then by rw[h];exact kY else L q AQ
       exact⟨⟨k+1,AQ,by go_num,dP.out,m.trans (((Aa _ _).trans (I.mono AU)).mono hz)⟩,by simp[intOf];omega⟩
      ·have aw:=eE k y
       have f:Hid (R=((k:Int)+2,j)):=by
        have az:=tc A k y L kY.out;show _=_
        rw[P.out,az,if_pos AQ];simp
       go_wp2_with (refine(T _ (d.trans ((Aa _ _).mono d.size))).mono ?_;rintro e w4 ⟨rfl,I⟩;have v0:w4.cell? (AL wr 0)=some (AB ((k:Int)+2)):=(A0 I))
       refine⟨rfl,?_,r.trans ((d.trans (((Aa _ _).trans (I.mono AU)).mono d.size)).mono r.size)⟩;rw[f.out];unfold endOf;rw[if_pos (by show(0:Int)<(k:Int)+2;omega)]
     ·obtain rfl:k=7:=by omega
      have F:Stil.wrong s x=0:=wV A L.out;have f:Hid (R=Iy (Stil.next s x.code) (j+1) (l.drop (j+1))):=by show _=_;rw[P.out,F,if_neg AQ]
      have aA:Hid (Stil.next s x.code).good:=fC A F;have ap:Hid (∀W,Calls prog 72 #[.agg #[AB s.bits,AB s.forks, .bool s.seen, .bool s.coil],AB x.code] W (AN W (.agg #[AB (Stil.next s x.code).bits,AB (Stil.next s x.code).forks, .bool (Stil.next s x.code).seen, .bool (Stil.next s x.code).coil]))):=by
       intro W;have:=Azu s x.code W A.out
       rwa [Stil.behind_next A.out F] at this
      clear F
      go_wp2_with (go_at_call 72;refine(ap _).mono ?_;rintro e V ⟨rfl,O⟩;have av:GM V B.heap.size s:=(aa.below d).below O;obtain⟨aj,g0,g1,g2,g3,y0,y1,y2,y3⟩:=av)
      have an:AO w V:=r.trans ((d.trans (O.mono d.size)).mono r.size);have lJ:Vu V g:=(ab.below d).below O;have E:g≠B.heap.size:=AQ
      exact⟨⟨j+1,Stil.next s x.code,AQ,by go_num,aA.out,f.out,GM.stored ⟨aj,g0,g1,g2,g3,y0,y1,y2,y3⟩ _,(((lJ.set E _).set E _).set E _).set E _,(((an.setCell G _).setCell G _).setCell G _).setCell G _⟩,by simp[intOf];omega⟩
   ·obtain rfl:j=u:=by omega
    have f:Hid (R=if 0<s.bits then(9,j) else(0,0)):=by show _=_;rw[Y.out,sJ l s j yFj]
    obtain⟨ay,p0,p1,p2,p3,z0,z1,z2,z3⟩:=N;by_cases ai:0<s.bits
    ·have X:Hid (R=(9,j)):=by show _=_;rw[f.out,if_pos ai]
     go_wp2
     exact⟨rfl,by rw[X.out];rfl,r⟩
    ·have X:Hid (R=(0,0)):=by show _=_;rw[f.out,if_neg ai]
     have au:s=Stil.pt0:=(e8 A.out).2 AQ;subst au;simp only[Stil.pt0] at p0 p1 p2 p3
     go_wp2
     go_end0
     exact⟨by rw[X.out];rfl,r⟩
def MS (w:World)(b:Nat):Prop:=b<w.heap.size/\(∃u,w.cell? ⟨b,0,none⟩=some u)/\(∃u,w.cell? ⟨b,1,none⟩=some u)/\w.frozen? ⟨b,0,none⟩=false/\w.frozen? ⟨b,1,none⟩=false
def catch_panicking (p:Nat)(c k:Int)(w:World)(t:MS w p):
  CallsD prog 41 #[AH p] (.panicking [{v:=.iface 42 (.agg #[AB c,AB k]),recovered:=false}]) w λe r j=>
   e=.returned (.tuple #[])/\r=.panicking [{v:=.iface 42 (.agg #[AB c,AB k]),recovered:=true}]/\∃a,AO w a/\j=(a.setCell (AK p 0) (AB c)).setCell (AK p 1) (AB k):=by
 obtain⟨d,⟨s,l⟩,⟨h,f⟩,i,q⟩:=t;refine callsD_of_wpS func41 rfl λx u hu=>?_
 apply wpS_region;simp[wpOpsS,go_sem,recoverD,hu,ntmps41];refine(Avf c k _).mono ?_;rintro e a ⟨rfl,b⟩;have g:a.cell? (AK p 0)=some s:=(b.cell (p:=(AK p 0)) d).trans l;have m:a.cell? (AK p 1)=some h:=(b.cell (p:=(AK p 1)) d).trans f;have o:a.frozen? (AK p 0)=false:=(b.frozen (p:=(AK p 0)) d).trans i;have n:a.frozen? (AK p 1)=false:=(b.frozen (p:=(AK p 1)) d).trans q;simp[go_sem,g,m,o,n,bodyPostS,results,results41];exact⟨a,b,rfl⟩
def catch_idle (p:Nat)(w:World)(n:MS w p):
  CallsD prog 41 #[AH p] .returning w λe l h=>
   e=.returned (.tuple #[])/\l=.returning/\∃a,AO w a/\h=(a.setCell (AK p 0) (AB 0)).setCell (AK p 1) (AB 0):=by
 obtain⟨c,⟨m,i⟩,⟨f,d⟩,g,k⟩:=n;refine callsD_of_wpS func41 rfl λj q hu=>?_
 apply wpS_region;simp[wpOpsS,go_sem,recoverD,hu,ntmps41];refine(qD _).mono ?_;rintro e a ⟨rfl,b⟩;have o:a.cell? (AK p 0)=some m:=(b.cell (p:=(AK p 0)) c).trans i;have r:a.cell? (AK p 1)=some f:=(b.cell (p:=(AK p 1)) c).trans d;have t:a.frozen? (AK p 0)=false:=(b.frozen (p:=(AK p 0)) c).trans g;have s:a.frozen? (AK p 1)=false:=(b.frozen (p:=(AK p 1)) c).trans k;cases j;simp_all[go_sem,bodyPostS,results,results41];exact⟨a,b,rfl⟩
def VX (l:List Stil.Gf)(v:Value)(w:World)(hr:Ep w)(K:Ii w)(I:H8 w v l)(hl:l.length<=1048576)(L:∀x∈l,x.fits):
  Calls prog 19 #[v] w λe C=>e=.returned (.agg #[AB (Et l).1,AB (Et l).2])/\AO w C:=by
 have q:Hid (∀W,AO w W->Calls prog 43 #[v] W λe C=>e=endOf (Et l)/\AO W C):=λW h=>Azs l v W (hr.below h) (K.below h) (I.below h) hl L
 have Q:∀(H:Fn) (first cap:Array Value) (w:World),(Instr.makeFunc H first cap).run prog w=.ok (.func H first cap) w:=λ_ _ _ _=>rfl
 obtain⟨a,cap,rfl,_⟩:=I;obtain⟨c,t⟩:=AA ((Et l).1)
 obtain⟨g,s⟩:=AA ((Et l).2)
 have M:Hid (endOf (Et l)=endOf (c,g)):=by show _=_;rw[t,s]
 have z:Hid (¬0<c->c=0/\g=0):=by
  show _->_
  rw[t,s];exact Vk l
 rw[M.out] at q;rw[<-t,<-s];clear hr K L t s M;by_cases j:0<c
 ·have m:Hid (endOf (c,g)=.panicked [{v:=.iface 42 (.agg #[AB c,AB g]),recovered:=false}]):=by show _=_;unfold endOf;rw[if_pos j]
  rw[m.out] at q;clear m z
  go_enter_defers func19,ntmps19
  go_wp2_with (go_at_call 43;refine(q _ AW).mono ?_;rintro e b ⟨rfl,hb⟩)
  have r:w.heap.size<b.heap.size:=CB AU hb.size;have o:MS b w.heap.size:=⟨r,⟨_,by rw[hb.cell (p:=(AL w 0)) AU];simp[go_sem];rfl⟩,⟨_,by rw[hb.cell (p:=(AL w 1)) AU];simp[go_sem];rfl⟩,A5 hb,A5 hb⟩
  refine leaves_cons (f:=41) (args:=#[AH w.heap.size]) AU (by simp[go_sem]) ?_;refine(catch_panicking w.heap.size c g _ o).mono ?_;rintro e O P ⟨rfl,rfl,k,i,rfl⟩;obtain⟨_,⟨E,j⟩,⟨y,h1⟩,_,_⟩:=o;have u:k.cell? (AL w 0)=some E:=(i.cell (p:=(AL w 0)) r).trans j;have D:k.cell? (AL w 1)=some y:=(i.cell (p:=(AL w 1)) r).trans h1;simp[Leaves,settle,results,results19,go_sem,u,D];have B:AO w k:=(Aa _ _).trans ((hb.trans (i.mono hb.size)).mono AU);exact(B.setCell (CG _) _).setCell (CG _) _
 ·obtain⟨rfl,rfl⟩:=z j
  have m:Hid (endOf (0,0)=.returned (.tuple #[])):=by show _=_;unfold endOf;rw[if_neg AY]
  rw[m.out] at q;clear m z j
  go_enter_defers func19,ntmps19
  go_wp2_with (go_at_call 43;refine(q _ AW).mono ?_;rintro e b ⟨rfl,hb⟩;have G:b.cell? (AL w 0)=some (AB 0):=(A0 hb);have q1:b.cell? (AL w 1)=some (AB 0):=(A0 hb);have F:b.frozen? (AL w 0)=false:=(A5 hb);have N:b.frozen? (AL w 1)=false:=(A5 hb))
  have r:w.heap.size<b.heap.size:=CB AU hb.size;refine leaves_cons (f:=41) (args:=#[AH w.heap.size]) AU (by simp[go_sem]) ?_;obtain⟨W,d⟩:=AA ((b.setCell (AL w 0) (AB 0)).setCell (AL w 1) (AB 0))
  have A:w.heap.size<W.heap.size:=by rw[d];exact CB r (CM (Iz _ _ _) (Iz _ _ _))
  have o:MS W w.heap.size:=by
   refine⟨A,⟨AB 0,?_⟩,⟨AB 0,?_⟩,?_,?_⟩
   ·rw[d];exact(A8 AQ).trans (Fb G)
   ·rw[d];exact Fb ((A8 AQ).trans q1)
   ·rw[d];exact Rn.trans (Rn.trans F)
   ·rw[d];exact Rn.trans (Rn.trans N)
  have J:AO w W:=by
   rw[d];exact(((Aa _ _).trans (hb.mono AU)).setCell (CG _) _).setCell (CG _) _
  rw[<-d];clear d G q1 F N;refine(catch_idle w.heap.size _ o).mono ?_;rintro e O P ⟨rfl,rfl,k,i,rfl⟩;obtain⟨_,⟨E,j⟩,⟨y,h1⟩,_,_⟩:=o;have u:k.cell? (AL w 0)=some E:=(i.cell (p:=(AL w 0)) A).trans j;have D:k.cell? (AL w 1)=some y:=(i.cell (p:=(AL w 1)) A).trans h1;simp[Leaves,settle,results,results19,go_sem,u,D];have B:AO w k:=J.trans (i.mono J.size);exact(B.setCell (CG _) _).setCell (CG _) _
