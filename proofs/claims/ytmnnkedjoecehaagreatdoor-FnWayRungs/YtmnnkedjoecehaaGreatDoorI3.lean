import Derived.Test.YtmnnkedjoecehaaGreatDoorGB
import Derived.Laws.EntriesVeiled
import Derived.Deep.WholeRow
import Derived.Laws.CopyOwn
set_option linter.defProp false
set_option maxHeartbeats 4000000
set_option maxRecDepth 100000
namespace Go.Proofs.YtmnnkedjoecehaaGreatDoor
open Tryz Stil Go.RowKit Go.Sort Go.BigFrame
def GQ (k:Int):Bool:=decide (1<=k) && (decide (k<=4) || k==6 || k==7 || k==8)
def Qw (k:Int):Bool:=k==7 || k==8 || k==9 || k==11
def Vm (k:Int):Bool:=k==10 || k==12 || k==13
def Ep (w:World):Prop:=2<w.heap.size/\∀k:Nat,k<14->w.cell? ⟨2,k*5,none⟩=some (.string (Rt k))/\w.cell? ⟨2,k*5+1,none⟩=some (AB (I9 k))/\w.cell? ⟨2,k*5+2,none⟩=some (.bool (GQ k))/\w.cell? ⟨2,k*5+3,none⟩=some (.bool (Qw k))/\w.cell? ⟨2,k*5+4,none⟩=some (.bool (Vm k))
def Ep.below {w w':World}(h:Ep w)(i:AO w w'):Ep w':=by
 obtain⟨f,h⟩:=h;obtain⟨g,_⟩:=En i;refine⟨CB f i.size,λk j=>?_⟩;obtain⟨a,b,c,d,e⟩:=h k j;exact⟨by rw[g _ _ f];exact a,by rw[g _ _ f];exact b,by rw[g _ _ f];exact c,by rw[g _ _ f];exact d,by rw[g _ _ f];exact e⟩
def Zt (k:Int)(w:World)(hr:Ep w):
  Calls prog 182 #[AB k] w (AN w (.agg #[.string (Rt k),AB (I9 k), .bool (GQ k), .bool (Qw k), .bool (Vm k)])):=by
 by_cases h:0<=k/\k<14
 ·obtain⟨m,rfl⟩:=FW h.1
  have f:m<14:=AQ
  obtain⟨q,hr⟩:=hr;obtain⟨a,b,c,d,e⟩:=hr m f;clear h hr;go_enter func182,ntmps182
  go_wp2
  refine bodyPost_ret (v:=.agg #[.string (Rt m),AB (I9 m), .bool (GQ m), .bool (Qw m), .bool (Vm m)]) (by simp[results,results182,go_sem]) rfl ⟨rfl,?_⟩
  (repeat (first | exact Below.refl _ _ | assumption | refine Bi ?_ _ | refine Je ?_ _ | refine Lj ?_ | refine G5 ?_ _ _ | refine Dq (CG _) ?_ _ | refine Bh ?_ BB))
 ·have hd:Rt k=⟨#[]⟩/\I9 k=0/\GQ k=false/\Qw k=false/\Vm k=false:=by
   unfold Rt I9 GQ Qw Vm;refine⟨by rw[if_neg AQ],by rw[if_neg AQ,if_neg AQ,if_neg AQ,if_neg AQ],?_,?_,?_⟩
   ·simp only[Bool.and_eq_false_iff,Bool.or_eq_false_iff,Ft,CS];omega
   ·simp only[Bool.or_eq_false_iff,CS];omega
   ·simp only[Bool.or_eq_false_iff,CS];omega
  have o:=AV hd;clear hd hr;go_enter func182,ntmps182
  go_wp2
  all_goals (obtain⟨q1,j,l,i,n⟩:=o.out)
  all_goals refine bodyPost_ret (v:=.agg #[.string ⟨#[]⟩,AB 0, .bool false, .bool false, .bool false]) (by simp[results,results182,go_sem]) rfl ⟨by rw[q1,j,l,i,n],?_⟩
  all_goals (repeat (first | exact Below.refl _ _ | assumption | refine Bi ?_ _ | refine Je ?_ _ | refine Lj ?_ | refine G5 ?_ _ _ | refine Dq (CG _) ?_ _ | refine Bh ?_ BB))
def hI (a:ByteArray)(b:Int)(c d e:Bool)(w:World):(Instr.field 204 (.agg #[.string a,AB b, .bool c, .bool d, .bool e]) 1).run prog w=.ok (AB b) w:=AX
def hH (a:ByteArray)(b:Int)(c d e:Bool)(w:World):(Instr.field 204 (.agg #[.string a,AB b, .bool c, .bool d, .bool e]) 2).run prog w=.ok (.bool c) w:=AX
def hG (a:ByteArray)(b:Int)(c d e:Bool)(w:World):(Instr.field 204 (.agg #[.string a,AB b, .bool c, .bool d, .bool e]) 3).run prog w=.ok (.bool d) w:=AX
def g9 (a:ByteArray)(b:Int)(c d e:Bool)(w:World):(Instr.field 204 (.agg #[.string a,AB b, .bool c, .bool d, .bool e]) 4).run prog w=.ok (.bool e) w:=AX
def LW (k:Int)(w:World)(hr:Ep w):
  Calls prog 186 #[AB k] w (AN w (AB (I9 k))):=by
 have d:=hI;go_enter func186,ntmps186
 go_wp2_with (go_at_call 182;refine(Zt _ _ hr).mono ?_;rintro e c ⟨rfl,b⟩)
 go_ret;exact⟨rfl,Ao⟩
def Avt (n p:Int)(w:World)(c:-9223372036854775808<=n)(b:n<=9223372036854775807):
  Calls prog 185 #[AB n,AB p] w λe a=>e=.returned (.bool (H9 12 n p))/\a=w:=by
 go_enter func185,ntmps185
 go_wp2
 all_goals go_ret
 all_goals (refine⟨Ae ?_,rfl⟩)
 all_goals go_light
 all_goals try simp only[ED,CS,bne_iff_ne,bne_eq_false_iff_eq] at*
 all_goals (rw[DY];simp[H9, *];try omega)
def MG (k n p:Int)(w:World)(hr:Ep w)(q:-9223372036854775808<=n)(r:n<=9223372036854775807):
  Calls prog 181 #[.agg #[AB k,AB n,AB p]] w (AN w (.bool (H9 k n p))):=by
 have c:=AV (λW (h:AO w W)=>hr.below h);clear hr;have f:(w.alloc (Obj.cells #[AB k,AB n,AB p] 111)).cell? (AL w 0)=some (AB k):=by simp[go_sem]
 have g:(w.alloc (Obj.cells #[AB k,AB n,AB p] 111)).cell? (AL w 1)=some (AB n):=by simp[go_sem]
 have j:(w.alloc (Obj.cells #[AB k,AB n,AB p] 111)).cell? (AL w 2)=some (AB p):=by simp[go_sem]
 have v:=cell_regrown f;have s:=cell_regrown g;have y:=cell_regrown j;clear f g j;go_enter func181,ntmps181
 go_wp2_with (go_at_call 185;refine(Avt _ _ _ q r).mono ?_;rintro e u ⟨rfl,rfl⟩)
 rotate_right 1
 focus
  by_cases i:p=0
  ·subst i
   by_cases o:0<=n
   ·by_cases l:n<I9 k
    ·refine wp_region_quiet_below AX AX ?_
     repeat (go_big_quiet_step ((exact Calls.regrown_of (LW _ _ (c _ Ao)))))
     refine wpQuiet_nil ?_;intro _ b;obtain⟨⟨d,osq⟩,a⟩:=b;subst a
     go_wp2
     go_ret;refine⟨Ae ?_,Ao⟩;go_light;simp only[CS] at*
     (rw[DY];simp[H9, *];try omega)
    ·have z:decide (n<I9 k)=false:=by simpa using l
     refine wp_region_quiet_below AX AX ?_;repeat (go_big_quiet_step ((exact Calls.regrown_of (LW _ _ (c _ Ao)))))
     refine wpQuiet_nil ?_;intro _ b;obtain⟨⟨d,osq⟩,a⟩:=b;subst a
     go_wp2
     go_ret;refine⟨Ae ?_,Ao⟩;go_light;simp only[CS] at*
     (rw[DY];simp[H9, *];try omega)
   ·have t:decide (0<=n)=false:=by simpa using o
    refine wp_region_quiet_below AX AX ?_;repeat (go_big_quiet_step ((exact Calls.regrown_of (LW _ _ (c _ Ao)))))
    refine wpQuiet_nil ?_;intro _ b;obtain⟨⟨d,osq⟩,a⟩:=b;subst a
    go_wp2
    go_ret;refine⟨Ae ?_,Ao⟩;go_light;simp only[CS] at*
    (rw[DY];simp[H9, *];try omega)
  ·have x:(p==0)=false:=by simpa using i
   refine wp_region_quiet_below AX AX ?_;repeat (go_big_quiet_step ((exact Calls.regrown_of (LW _ _ (c _ Ao)))))
   refine wpQuiet_nil ?_;intro _ b;obtain⟨⟨d,osq⟩,a⟩:=b;subst a
   go_wp2
   go_ret;refine⟨Ae ?_,Ao⟩;go_light;simp only[CS] at*
   (rw[DY];simp[H9, *];try omega)
 all_goals go_ret
 all_goals (refine⟨Ae ?_,Ao⟩)
 all_goals go_light
 all_goals try simp only[ED,CS] at*
 all_goals first | (subst k;rfl) | (rw[DY];simp[H9, *];try omega)
def OP {k n p:Int}(h:H9 k n p=true):1<=k/\k<=13:=by
 by_cases b:k=11
 ·omega
 ·by_cases c:k=12
  ·omega
  ·by_cases a:k=13
   ·omega
   ·have:=fh h b c a;omega
def fi (k n p:Int):(H9 k n p && GQ k)=Ru k n p:=by
 cases h:H9 k n p
 ·simp[Ru,h]
 ·have a:=OP h
  rw[Ru,h,DY];simp[GQ];try omega
def Avs (k n p:Int)(w:World)(hr:Ep w)(c:-9223372036854775808<=n)(d:n<=9223372036854775807):
  Calls prog 172 #[.agg #[AB k,AB n,AB p]] w (AN w (.bool (Ru k n p))):=by
 have j:=hH;have a:=AV (λW (h:AO w W)=>hr.below h);have f:=AV (fi k n p);clear hr;cases h:H9 k n p;all_goals
  go_enter func172,ntmps172
  go_wp2_with (first | (go_at_call 181;refine(MG _ _ _ _ (a _ Ao) c d).mono ?_;rw[h];rintro e m ⟨rfl,b⟩;obtain⟨i,o⟩:=En b) | (go_at_call 182;refine(Zt _ _ (a _ Ao)).mono ?_;rintro e q ⟨rfl,l⟩))
  all_goals go_ret
  all_goals (refine⟨Ae ?_,Ao⟩)
  all_goals (rw[<-f.out,h];rfl)
def ux (k n p:Int):(H9 k n p && Qw k)=Ja k n p:=by
 cases h:H9 k n p
 ·simp[Ja,h]
 ·have a:=OP h
  rw[Ja,h,DY];simp[Qw];try omega
def sR (k n p:Int)(w:World)(hr:Ep w)(c:-9223372036854775808<=n)(d:n<=9223372036854775807):
  Calls prog 165 #[.agg #[AB k,AB n,AB p]] w (AN w (.bool (Ja k n p))):=by
 have j:=hG;have a:=AV (λW (h:AO w W)=>hr.below h);have f:=AV (ux k n p);clear hr;cases h:H9 k n p;all_goals
  go_enter func165,ntmps165
  go_wp2_with (first | (go_at_call 181;refine(MG _ _ _ _ (a _ Ao) c d).mono ?_;rw[h];rintro e m ⟨rfl,b⟩;obtain⟨i,o⟩:=En b) | (go_at_call 182;refine(Zt _ _ (a _ Ao)).mono ?_;rintro e q ⟨rfl,l⟩))
  all_goals go_ret
  all_goals (refine⟨Ae ?_,Ao⟩)
  all_goals (rw[<-f.out,h];rfl)
def Av3 (k n p:Int):(H9 k n p && Vm k)=J4 k n p:=by
 cases h:H9 k n p
 ·simp[J4,h]
 ·have a:=OP h
  rw[J4,h,DY];simp[Vm];try omega
def uW (k n p:Int)(w:World)(hr:Ep w)(c:-9223372036854775808<=n)(d:n<=9223372036854775807):
  Calls prog 166 #[.agg #[AB k,AB n,AB p]] w (AN w (.bool (J4 k n p))):=by
 have j:=g9;have a:=AV (λW (h:AO w W)=>hr.below h);have f:=AV (Av3 k n p);clear hr;cases h:H9 k n p;all_goals
  go_enter func166,ntmps166
  go_wp2_with (first | (go_at_call 181;refine(MG _ _ _ _ (a _ Ao) c d).mono ?_;rw[h];rintro e m ⟨rfl,b⟩;obtain⟨i,o⟩:=En b) | (go_at_call 182;refine(Zt _ _ (a _ Ao)).mono ?_;rintro e q ⟨rfl,l⟩))
  all_goals go_ret
  all_goals (refine⟨Ae ?_,Ao⟩)
  all_goals (rw[<-f.out,h];rfl)
def JH (w:World)(b o:Nat)(l:List Int):Prop:=∀i (h:i<l.length),w.cell? ⟨b,o+i,none⟩=some (AB l[i])
def Azt (b cap:Nat)(l:List Int)(v:Int)(w:World)(f:JH w b 0 l)(hl:l.length<=1000):
  Calls prog 191 #[AE (some (AK b 0)) l.length cap,AB v] w λe q=>(∃r,e=.returned (AB r)/\(0<=r↔v∈l))/\q=w:=by
 have m:=AV f;clear f;go_enter func191,ntmps191
 go_wp2
 go_loop [8] (λi=>∃k:Nat,k<=l.length/\i=AB k/\v∉l.take k) (λi=>l.length - (intOf i).toNat)
 case atStart=>exact⟨0,AQ,rfl,AU⟩
 case round=>
  obtain⟨k,s,rfl,g⟩:=hrel;have j:=AV g;clear g;by_cases d:k<l.length
  ·have n:=m k d
   rw[CV] at n;by_cases a:v=l[k]
   ·have o:(v==l[k])=true:=by simpa using a
    have c:Hid (v∈l):=by show _∈_;rw[a];exact CJ d
    clear a
    go_wp2
    go_ret;exact⟨⟨k,rfl,λ_=>c.out,λ_=>by omega⟩,rfl⟩
   ·have o:(v==l[k])=false:=by simpa using a
    have c:Hid (v∉l.take (k+1)):=by
     show _∉_;rw[EB d,EN];rintro(h | h)
     ·exact j h
     ·exact a BV
    clear a
    go_wp2
    exact⟨⟨k+1,AQ,by go_num,c.out⟩,by simp[intOf];omega⟩
  ·have c:Hid (v∉l):=by
    show _∉_
    have:=j.out
    rwa [EC AQ] at this
   go_wp2
   go_ret;exact⟨⟨-1,rfl,λh=>by omega,λh=>absurd h c.out⟩,rfl⟩
def sM (b cap:Nat)(l:List Int)(v:Int)(w:World)(a:JH w b 0 l)(hl:l.length<=1000):
  Calls prog 187 #[AE (some (AK b 0)) l.length cap,AB v] w λe c=>e=.returned (.bool (decide (v∈l)))/\c=w:=by
 have d:=AV a;clear a;go_enter func187,ntmps187
 go_wp2_with (go_at_call 191;refine(Azt b cap l v _ d hl).mono ?_;rintro e g ⟨⟨r,rfl,f⟩,rfl⟩)
 go_ret;exact⟨Ae (by first | rfl | exact decide_eq_decide.2 f),rfl⟩
def Vp (d:Stil.CC)(b cap:Nat)(l:List Int)(w:World)(hr:Ep w)(a:JH w b 0 l)(c:b<w.heap.size)(hl:l.length<=1000)(j:-9223372036854775808<=d.n)(k:d.n<=9223372036854775807):
  Calls prog 183 #[.agg #[AB d.kind,AB d.n,AB d.p],AE (some (AK b 0)) l.length cap] w (AN w (.bool (d.ok && decide (d.kind∈l)))):=by
 have g:=AV (λW (h:AO w W)=>hr.below h);have f:Hid (∀W,AO w W->JH W b 0 l):=λW h i hi=>by rw[(En h).1 _ _ c];exact a i hi
 clear hr a;cases h:d.ok;all_goals
  go_enter func183,ntmps183
  go_wp2_with (first | (go_at_call 181;refine(MG _ _ _ _ (g _ Ao) j k).mono ?_;rw[show H9 d.kind d.n d.p=_ from h];rintro e r ⟨rfl,o⟩;obtain⟨q,s⟩:=En o) | (go_at_call 187;refine(sM b cap l _ _ (f _ Ao) hl).mono ?_;rintro e t ⟨rfl,rfl⟩))
  all_goals go_ret
  all_goals exact⟨rfl,Ao⟩
def Gn (w:World)(b:Nat):Nat->List Int->Prop
 | _,[]=>True
 | o,x::r=>w.cell? ⟨b,o,none⟩=some (AB x)/\Gn w b (o+1) r
theorem Dp {w:World}{b:Nat}:∀{l:List Int} {o:Nat},Gn w b o l->JH w b o l
 | [],_,_=>λi hi=>absurd hi AU
 | x::r,o,h=>λi hi=>by
  cases i with
  | zero=>exact h.1
  | succ k=>
   have:=Dp h.2 k (by simpa using hi)
   rw[show o+(k+1)=o+1+k from by omega];simpa using this
def nm (d:Stil.CC)(w:World)(hr:Ep w)(f:-9223372036854775808<=d.n)(a:d.n<=9223372036854775807):
  Calls prog 173 #[.agg #[AB d.kind,AB d.n,AB d.p]] w (AN w (.bool (d.ok && decide (d.kind∈([5]:List Int))))):=by
 have c:=AV (λW (h:AO w W)=>hr.below h);clear hr;go_enter func173,ntmps173
 go_wp2_with (go_at_call 183;refine(Vp d _ _ [5] _ (c _ Ao) (Dp (by simp[Gn,go_sem])) AU AU f a).mono ?_;rintro e i ⟨rfl,g⟩)
 go_ret;exact⟨Ae AU,Ao⟩
def nh (d:Stil.CC)(w:World)(hr:Ep w)(f:-9223372036854775808<=d.n)(a:d.n<=9223372036854775807):
  Calls prog 179 #[.agg #[AB d.kind,AB d.n,AB d.p]] w (AN w (.bool (d.ok && decide (d.kind∈([4]:List Int))))):=by
 have c:=AV (λW (h:AO w W)=>hr.below h);clear hr;go_enter func179,ntmps179
 go_wp2_with (go_at_call 183;refine(Vp d _ _ [4] _ (c _ Ao) (Dp (by simp[Gn,go_sem])) AU AU f a).mono ?_;rintro e i ⟨rfl,g⟩)
 go_ret;exact⟨Ae AU,Ao⟩
def ng (d:Stil.CC)(w:World)(hr:Ep w)(f:-9223372036854775808<=d.n)(a:d.n<=9223372036854775807):
  Calls prog 167 #[.agg #[AB d.kind,AB d.n,AB d.p]] w (AN w (.bool (d.ok && decide (d.kind∈([7]:List Int))))):=by
 have c:=AV (λW (h:AO w W)=>hr.below h);clear hr;go_enter func167,ntmps167
 go_wp2_with (go_at_call 183;refine(Vp d _ _ [7] _ (c _ Ao) (Dp (by simp[Gn,go_sem])) AU AU f a).mono ?_;rintro e i ⟨rfl,g⟩)
 go_ret;exact⟨Ae AU,Ao⟩
def nt (d:Stil.CC)(w:World)(hr:Ep w)(f:-9223372036854775808<=d.n)(a:d.n<=9223372036854775807):
  Calls prog 180 #[.agg #[AB d.kind,AB d.n,AB d.p]] w (AN w (.bool (d.ok && decide (d.kind∈([8]:List Int))))):=by
 have c:=AV (λW (h:AO w W)=>hr.below h);clear hr;go_enter func180,ntmps180
 go_wp2_with (go_at_call 183;refine(Vp d _ _ [8] _ (c _ Ao) (Dp (by simp[Gn,go_sem])) AU AU f a).mono ?_;rintro e i ⟨rfl,g⟩)
 go_ret;exact⟨Ae AU,Ao⟩
def nr (d:Stil.CC)(w:World)(hr:Ep w)(f:-9223372036854775808<=d.n)(a:d.n<=9223372036854775807):
  Calls prog 169 #[.agg #[AB d.kind,AB d.n,AB d.p]] w (AN w (.bool (d.ok && decide (d.kind∈([9]:List Int))))):=by
 have c:=AV (λW (h:AO w W)=>hr.below h);clear hr;go_enter func169,ntmps169
 go_wp2_with (go_at_call 183;refine(Vp d _ _ [9] _ (c _ Ao) (Dp (by simp[Gn,go_sem])) AU AU f a).mono ?_;rintro e i ⟨rfl,g⟩)
 go_ret;exact⟨Ae AU,Ao⟩
def nj (d:Stil.CC)(w:World)(hr:Ep w)(f:-9223372036854775808<=d.n)(a:d.n<=9223372036854775807):
  Calls prog 170 #[.agg #[AB d.kind,AB d.n,AB d.p]] w (AN w (.bool (d.ok && decide (d.kind∈([10]:List Int))))):=by
 have c:=AV (λW (h:AO w W)=>hr.below h);clear hr;go_enter func170,ntmps170
 go_wp2_with (go_at_call 183;refine(Vp d _ _ [10] _ (c _ Ao) (Dp (by simp[Gn,go_sem])) AU AU f a).mono ?_;rintro e i ⟨rfl,g⟩)
 go_ret;exact⟨Ae AU,Ao⟩
def nM (d:Stil.CC)(w:World)(hr:Ep w)(f:-9223372036854775808<=d.n)(a:d.n<=9223372036854775807):
  Calls prog 176 #[.agg #[AB d.kind,AB d.n,AB d.p]] w (AN w (.bool (d.ok && decide (d.kind∈([2,3]:List Int))))):=by
 have c:=AV (λW (h:AO w W)=>hr.below h);clear hr;go_enter func176,ntmps176
 go_wp2_with (go_at_call 183;refine(Vp d _ _ [2,3] _ (c _ Ao) (Dp (by simp[Gn,go_sem])) AU AU f a).mono ?_;rintro e i ⟨rfl,g⟩)
 go_ret;exact⟨Ae AU,Ao⟩
def lj (d:Stil.CC)(w:World)(hr:Ep w)(f:-9223372036854775808<=d.n)(a:d.n<=9223372036854775807):
  Calls prog 177 #[.agg #[AB d.kind,AB d.n,AB d.p]] w (AN w (.bool (d.ok && decide (d.kind∈([2,3,4]:List Int))))):=by
 have c:=AV (λW (h:AO w W)=>hr.below h);clear hr;go_enter func177,ntmps177
 go_wp2_with (go_at_call 183;refine(Vp d _ _ [2,3,4] _ (c _ Ao) (Dp (by simp[Gn,go_sem])) AU AU f a).mono ?_;rintro e i ⟨rfl,g⟩)
 go_ret;exact⟨Ae AU,Ao⟩
def Az4 (d:Stil.CC)(w:World)(hr:Ep w)(f:-9223372036854775808<=d.n)(a:d.n<=9223372036854775807):
  Calls prog 178 #[.agg #[AB d.kind,AB d.n,AB d.p]] w (AN w (.bool (d.ok && decide (d.kind∈([2,3,4,7,8]:List Int))))):=by
 have c:=AV (λW (h:AO w W)=>hr.below h);clear hr;go_enter func178,ntmps178
 go_wp2_with (go_at_call 183;refine(Vp d _ _ [2,3,4,7,8] _ (c _ Ao) (Dp (by simp[Gn,go_sem])) AU AU f a).mono ?_;rintro e i ⟨rfl,g⟩)
 go_ret;exact⟨Ae AU,Ao⟩
def Avn (d:Stil.CC)(w:World)(hr:Ep w)(g:-9223372036854775808<=d.n)(b:d.n<=9223372036854775807):
  Calls prog 168 #[.agg #[AB d.kind,AB d.n,AB d.p]] w (AN w (.bool (d.ok && decide (d.kind∈([11]:List Int)) && decide (0<=d.n)))):=by
 have f:=AV (λW (h:AO w W)=>hr.below h);clear hr;cases h:(d.ok && decide (d.kind∈([11]:List Int)));all_goals
  go_enter func168,ntmps168
  go_wp2_with (go_at_call 183;refine(Vp d _ _ [11] _ (f _ Ao) (Dp (by simp[Gn,go_sem])) AU AU g b).mono ?_;rw[h];rintro e i ⟨rfl,a⟩;obtain⟨k,j⟩:=En a)
  all_goals go_ret
  all_goals exact⟨Ae AU,Ao⟩
def MK:List (List UInt8 × Nat × List Nat × List Nat):=
  [([],0,[],[]),
   ([],171,[172],[]),
   ([47],171,[172],[]),
   ([43],171,[172,173],[]),
   ([45],171,[172,173],[]),
   ([60],174,[165,165],[166,166]),
   ([60,61],174,[165,165],[166,166]),
   ([61],174,[165,165],[166,166]),
   ([60,62],174,[165,165],[166,166]),
   ([62,61],174,[165,165],[166,166]),
   ([62],174,[165,165],[166,166]),
   ([],0,[],[]),
   ([],0,[],[]),
   ([],0,[],[]),
   ([],0,[],[]),
   ([],0,[],[]),
   ([],0,[],[]),
   ([],0,[],[]),
   ([],0,[],[]),
   ([],0,[],[]),
   ([],0,[],[]),
   ([111,117,116],175,[176],[]),
   ([115,101,116],175,[177],[]),
   ([114,101,115,101,116],175,[178],[]),
   ([112,117,108,115,101],175,[176,173],[]),
   ([115,116,101,112],175,[179],[]),
   ([116,105,109,101,114],175,[167,168],[]),
   ([104,111,108,100],175,[167,168],[]),
   ([108,97,116,101],175,[167,168],[]),
   ([99,111,117,110,116],175,[180,168],[]),
   ([109,111,118,101],175,[169,165],[170,166]),
   ([97,100,100],175,[169,165,165],[170,166,166]),
   ([115,117,98],175,[169,165,165],[170,166,166]),
   ([109,117,108],175,[169,165,165],[170,166,166]),
   ([100,105,118],175,[169,165,165],[170,166,166]),
   ([114,101,109],175,[169,165,165],[]),
   ([114,101,97,108],175,[170,165],[]),
   ([119,104,111,108,101],175,[169,166],[])]
def fnv (n:Nat):Value:=if n=0 then .nilFunc else .func (.func n) #[] #[]
def Qx (r:List UInt8 × Nat × List Nat × List Nat):List Value:=
  [.string ⟨r.1.toArray⟩,fnv r.2.1,fnv (r.2.2.1.getD 0 0),fnv (r.2.2.1.getD 1 0),fnv (r.2.2.1.getD 2 0),fnv (r.2.2.2.getD 0 0),fnv (r.2.2.2.getD 1 0),fnv (r.2.2.2.getD 2 0)]
def Ko:List Value:=MK.flatMap Qx
def N3 {P:Program}{g:Nat}{t:TypeId}{vs tgt:List Value}{cur:Array Value}{w:World}{α:Type}(f:Unit->World->Result α)(hvs:vs=tgt)(hg:w.heap[g]?=some (.cells cur t (0,0)))(hl:tgt.length=cur.size)(h1:tgt.all (·.oneCell')=true):
    ((storeCells (AK g 0) vs 0).run P w).andThen f=f () (w.setRow g tgt.toArray):=by
  subst hvs;rw[run_storeCells_from (P:=P) g t vs 0 cur w hg AQ (λv a=>List.all_eq_true.1 h1 v a)];simp[Result.andThen]
def Vn (w:World)(a b d c:Obj):((((w.alloc a).alloc b).alloc d).alloc c).heap[w.heap.size]?=some a:=by
  show((((w.heap.push a).push b).push d).push c)[w.heap.size]?=_
  simp[Array.getElem?_push];rw[if_neg AQ,if_neg AQ]
def SR (w:World):
    Calls prog 163 #[] w (AN w (.agg Ko.toArray)):=by
  go_enter func163,ntmps163
  go_wp2
  rw[N3 (tgt:=Ko) (cur:=Tryz.zeroCells200) (t:=200)]
  case hvs=>kernel_rfl
  case hl=>kernel_rfl
  case h1=>kernel_rfl
  case hg=>exact Vn _ _ _ _ _
  obtain⟨W,a⟩:=AA ((((w.alloc (Obj.cells Tryz.zeroCells200 200)).alloc (Obj.cells #[.func (.func 165) #[] #[], .func (.func 165) #[] #[], .nilFunc, .func (.func 166) #[] #[], .func (.func 166) #[] #[], .nilFunc] 195)).alloc (Obj.cells #[.func (.func 167) #[] #[], .func (.func 168) #[] #[], .nilFunc, .nilFunc, .nilFunc, .nilFunc] 195)).alloc (Obj.cells #[.func (.func 169) #[] #[], .func (.func 165) #[] #[], .func (.func 165) #[] #[], .func (.func 170) #[] #[], .func (.func 166) #[] #[], .func (.func 166) #[] #[]] 195))
  have hg:W.heap[w.heap.size]?=some (.cells Tryz.zeroCells200 200 (0,0)):=by rw[a];exact Vn _ _ _ _ _
  have d:AO w W:=by rw[a];(repeat (first | exact Below.refl _ _ | assumption | refine Bi ?_ _ | refine Je ?_ _ | refine Lj ?_ | refine G5 ?_ _ _ | refine Dq (CG _) ?_ _ | refine Bh ?_ BB))
  rw[<-a];clear a;have c:(loadVar 200 (AL w 0)).run prog (W.setRow w.heap.size Ko.toArray)=.ok (.agg Ko.toArray) (W.setRow w.heap.size Ko.toArray):=
    run_loadVar_row _ _ _ 200 _ (0,0) _ (setRow_heap _ _ _ _ _ _ hg) underlying200 rfl AX
  have b:AO w (W.setRow w.heap.size Ko.toArray):=below_setRow d (CG _) _;generalize W.setRow w.heap.size Ko.toArray=V at c b ⊢;rw[Oper.upon_skip]
  go_wp2
  refine bodyPost_ret (v:=.agg Ko.toArray) (by simp[results,results163,Act.put,asAddr,c]) rfl ⟨rfl,b⟩
