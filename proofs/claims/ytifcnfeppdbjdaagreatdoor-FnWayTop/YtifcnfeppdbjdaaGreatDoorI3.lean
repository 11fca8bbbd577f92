import Derived.Test.YtifcnfeppdbjdaaGreatDoorGB
import Derived.Laws.EntriesVeiled
import Derived.Deep.WholeRow
import Derived.Laws.CopyOwn
set_option maxHeartbeats 4000000
set_option maxRecDepth 100000
namespace Go.Proofs.YtifcnfeppdbjdaaGreatDoor
open Tryz Stil Go.RowKit Go.Sort Go.BigFrame
def Zw (k:Int):Bool:=decide (1<=k) && (decide (k<=4) || k==6 || k==7 || k==8)
def Qn (k:Int):Bool:=k==7 || k==8 || k==9 || k==11
def U9 (k:Int):Bool:=k==10 || k==12 || k==13
def Et (w:World):Prop:=2<w.heap.size/\∀k:Nat,k<14->w.cell? (AK 2 (k*5))=some (.string (Ri k))/\w.cell? (AK 2 (k*5+1))=some (AB (Jd k))/\w.cell? (AK 2 (k*5+2))=some (.bool (Zw k))/\w.cell? (AK 2 (k*5+3))=some (.bool (Qn k))/\w.cell? (AK 2 (k*5+4))=some (.bool (U9 k))
theorem Et.below {w w':World}(h:Et w)(i:AO w w'):Et w':=by
 obtain⟨f,h⟩:=h;obtain⟨g,_⟩:=Ef i;refine⟨CB f i.size,λk j=>?_⟩;obtain⟨a,b,c,d,e⟩:=h k j;exact⟨by rw[g _ _ f];exact a,by rw[g _ _ f];exact b,by rw[g _ _ f];exact c,by rw[g _ _ f];exact d,by rw[g _ _ f];exact e⟩
theorem Ze (k:Int)(w:World)(hr:Et w):
  Calls prog 185 #[AB k] w (AN w (.agg #[.string (Ri k),AB (Jd k), .bool (Zw k), .bool (Qn k), .bool (U9 k)])):=by
 by_cases h:0<=k/\k<14
 ·obtain⟨m,rfl⟩:=FP h.1
  have g:m<14:=AQ
  obtain⟨q,hr⟩:=hr;obtain⟨a,b,c,d,e⟩:=hr m g;clear h hr;go_enter func185,ntmps185
  go_wp2
  refine bodyPost_ret (v:=.agg #[.string (Ri m),AB (Jd m), .bool (Zw m), .bool (Qn m), .bool (U9 m)]) (by simp[results,results185,go_sem]) rfl ⟨rfl,?_⟩
  (repeat (first | exact Below.refl _ _ | assumption | refine Bd ?_ _ | refine Ja ?_ _ | refine J7 ?_ | refine Gq ?_ _ _ | refine Dj (CG _) ?_ _ | refine Bc ?_ BD))
 ·have hd:Ri k=⟨#[]⟩/\Jd k=0/\Zw k=false/\Qn k=false/\U9 k=false:=by
   unfold Ri Jd Zw Qn U9;refine⟨by rw[if_neg AQ],by rw[if_neg AQ,if_neg AQ,if_neg AQ,if_neg AQ],?_,?_,?_⟩
   ·simp only[Bool.and_eq_false_iff,Bool.or_eq_false_iff,FQ,CS];omega
   ·simp only[Bool.or_eq_false_iff,CS];omega
   ·simp only[Bool.or_eq_false_iff,CS];omega
  have l:=AV hd;clear hd hr;go_enter func185,ntmps185
  go_wp2
  all_goals (obtain⟨q1,n,i,f,j⟩:=l.out)
  all_goals refine bodyPost_ret (v:=.agg #[.string ⟨#[]⟩,AB 0, .bool false, .bool false, .bool false]) (by simp[results,results185,go_sem]) rfl ⟨by rw[q1,n,i,f,j],?_⟩
  all_goals (repeat (first | exact Below.refl _ _ | assumption | refine Bd ?_ _ | refine Ja ?_ _ | refine J7 ?_ | refine Gq ?_ _ _ | refine Dj (CG _) ?_ _ | refine Bc ?_ BD))
theorem gP (a:ByteArray)(b:Int)(c d e:Bool)(w:World):(Instr.field 205 (.agg #[.string a,AB b, .bool c, .bool d, .bool e]) 1).run prog w=.ok (AB b) w:=AX
theorem gC (a:ByteArray)(b:Int)(c d e:Bool)(w:World):(Instr.field 205 (.agg #[.string a,AB b, .bool c, .bool d, .bool e]) 2).run prog w=.ok (.bool c) w:=AX
theorem fe (a:ByteArray)(b:Int)(c d e:Bool)(w:World):(Instr.field 205 (.agg #[.string a,AB b, .bool c, .bool d, .bool e]) 3).run prog w=.ok (.bool d) w:=AX
theorem fZ (a:ByteArray)(b:Int)(c d e:Bool)(w:World):(Instr.field 205 (.agg #[.string a,AB b, .bool c, .bool d, .bool e]) 4).run prog w=.ok (.bool e) w:=AX
theorem LR (k:Int)(w:World)(hr:Et w):
  Calls prog 189 #[AB k] w (AN w (AB (Jd k))):=by
 have c:=gP;go_enter func189,ntmps189
 go_wp2_with (go_at_call 185;refine(Ze _ _ hr).mono ?_;rintro e d ⟨rfl,b⟩)
 go_ret;exact⟨rfl,Av⟩
theorem Avl (n p:Int)(w:World)(c:-9223372036854775808<=n)(b:n<=9223372036854775807):
  Calls prog 188 #[AB n,AB p] w λe a=>e=.returned (.bool (Ih 12 n p))/\a=w:=by
 go_enter func188,ntmps188
 go_wp2
 all_goals go_ret
 all_goals (refine⟨Ae ?_,rfl⟩)
 all_goals go_light
 all_goals try simp only[EC,CS,bne_iff_ne,bne_eq_false_iff_eq] at*
 all_goals (rw[DY];simp[Ih, *];try omega)
theorem MD (k n p:Int)(w:World)(hr:Et w)(m:-9223372036854775808<=n)(o:n<=9223372036854775807):
  Calls prog 184 #[.agg #[AB k,AB n,AB p]] w (AN w (.bool (Ih k n p))):=by
 have c:=AV (λW (h:AO w W)=>hr.below h);clear hr;have j:(w.alloc (Obj.cells #[AB k,AB n,AB p] 55)).cell? (AL w 0)=some (AB k):=by simp[go_sem]
 have f:(w.alloc (Obj.cells #[AB k,AB n,AB p] 55)).cell? (AL w 1)=some (AB n):=by simp[go_sem]
 have i:(w.alloc (Obj.cells #[AB k,AB n,AB p] 55)).cell? (AL w 2)=some (AB p):=by simp[go_sem]
 have s:=cell_regrown j;have x:=cell_regrown f;have u:=cell_regrown i;clear j f i;go_enter func184,ntmps184
 go_wp2_with (go_at_call 188;refine(Avl _ _ _ m o).mono ?_;rintro e v ⟨rfl,rfl⟩)
 rotate_right 1
 focus
  by_cases g:p=0
  ·subst g
   by_cases l:0<=n
   ·by_cases q:n<Jd k
    ·refine wp_region_quiet_below AX AX ?_
     repeat (go_big_quiet_step ((exact Calls.regrown_of (LR _ _ (c _ Av)))))
     refine wpQuiet_nil ?_;intro _ a;obtain⟨⟨d,osq⟩,b⟩:=a;subst b
     go_wp2
     go_ret;refine⟨Ae ?_,Av⟩;go_light;simp only[CS] at*
     (rw[DY];simp[Ih, *];try omega)
    ·have z:decide (n<Jd k)=false:=by simpa using q
     refine wp_region_quiet_below AX AX ?_;repeat (go_big_quiet_step ((exact Calls.regrown_of (LR _ _ (c _ Av)))))
     refine wpQuiet_nil ?_;intro _ a;obtain⟨⟨d,osq⟩,b⟩:=a;subst b
     go_wp2
     go_ret;refine⟨Ae ?_,Av⟩;go_light;simp only[CS] at*
     (rw[DY];simp[Ih, *];try omega)
   ·have t:decide (0<=n)=false:=by simpa using l
    refine wp_region_quiet_below AX AX ?_;repeat (go_big_quiet_step ((exact Calls.regrown_of (LR _ _ (c _ Av)))))
    refine wpQuiet_nil ?_;intro _ a;obtain⟨⟨d,osq⟩,b⟩:=a;subst b
    go_wp2
    go_ret;refine⟨Ae ?_,Av⟩;go_light;simp only[CS] at*
    (rw[DY];simp[Ih, *];try omega)
  ·have y:(p==0)=false:=by simpa using g
   refine wp_region_quiet_below AX AX ?_;repeat (go_big_quiet_step ((exact Calls.regrown_of (LR _ _ (c _ Av)))))
   refine wpQuiet_nil ?_;intro _ a;obtain⟨⟨d,osq⟩,b⟩:=a;subst b
   go_wp2
   go_ret;refine⟨Ae ?_,Av⟩;go_light;simp only[CS] at*
   (rw[DY];simp[Ih, *];try omega)
 all_goals go_ret
 all_goals (refine⟨Ae ?_,Av⟩)
 all_goals go_light
 all_goals try simp only[EC,CS] at*
 all_goals first | (subst k;rfl) | (rw[DY];simp[Ih, *];try omega)
theorem OO {k n p:Int}(h:Ih k n p=true):1<=k/\k<=13:=by
 by_cases c:k=11
 ·omega
 ·by_cases a:k=12
  ·omega
  ·by_cases b:k=13
   ·omega
   ·have:=er h c a b;omega
theorem ez (k n p:Int):(Ih k n p && Zw k)=Rj k n p:=by
 cases h:Ih k n p
 ·simp[Rj,h]
 ·have a:=OO h
  rw[Rj,h,DY];simp[Zw];try omega
theorem Avk (k n p:Int)(w:World)(hr:Et w)(b:-9223372036854775808<=n)(d:n<=9223372036854775807):
  Calls prog 175 #[.agg #[AB k,AB n,AB p]] w (AN w (.bool (Rj k n p))):=by
 have j:=gC;have a:=AV (λW (h:AO w W)=>hr.below h);have f:=AV (ez k n p);clear hr;cases h:Ih k n p;all_goals
  go_enter func175,ntmps175
  go_wp2_with (first | (go_at_call 184;refine(MD _ _ _ _ (a _ Av) b d).mono ?_;rw[h];rintro e q ⟨rfl,c⟩;obtain⟨m,i⟩:=Ef c) | (go_at_call 185;refine(Ze _ _ (a _ Av)).mono ?_;rintro e o ⟨rfl,l⟩))
  all_goals go_ret
  all_goals (refine⟨Ae ?_,Av⟩)
  all_goals (rw[<-f.out,h];rfl)
theorem ux (k n p:Int):(Ih k n p && Qn k)=Je k n p:=by
 cases h:Ih k n p
 ·simp[Je,h]
 ·have a:=OO h
  rw[Je,h,DY];simp[Qn];try omega
theorem tA (k n p:Int)(w:World)(hr:Et w)(b:-9223372036854775808<=n)(d:n<=9223372036854775807):
  Calls prog 168 #[.agg #[AB k,AB n,AB p]] w (AN w (.bool (Je k n p))):=by
 have j:=fe;have a:=AV (λW (h:AO w W)=>hr.below h);have f:=AV (ux k n p);clear hr;cases h:Ih k n p;all_goals
  go_enter func168,ntmps168
  go_wp2_with (first | (go_at_call 184;refine(MD _ _ _ _ (a _ Av) b d).mono ?_;rw[h];rintro e q ⟨rfl,c⟩;obtain⟨m,i⟩:=Ef c) | (go_at_call 185;refine(Ze _ _ (a _ Av)).mono ?_;rintro e o ⟨rfl,l⟩))
  all_goals go_ret
  all_goals (refine⟨Ae ?_,Av⟩)
  all_goals (rw[<-f.out,h];rfl)
theorem Avv (k n p:Int):(Ih k n p && U9 k)=J6 k n p:=by
 cases h:Ih k n p
 ·simp[J6,h]
 ·have a:=OO h
  rw[J6,h,DY];simp[U9];try omega
theorem vo (k n p:Int)(w:World)(hr:Et w)(b:-9223372036854775808<=n)(d:n<=9223372036854775807):
  Calls prog 169 #[.agg #[AB k,AB n,AB p]] w (AN w (.bool (J6 k n p))):=by
 have j:=fZ;have a:=AV (λW (h:AO w W)=>hr.below h);have f:=AV (Avv k n p);clear hr;cases h:Ih k n p;all_goals
  go_enter func169,ntmps169
  go_wp2_with (first | (go_at_call 184;refine(MD _ _ _ _ (a _ Av) b d).mono ?_;rw[h];rintro e q ⟨rfl,c⟩;obtain⟨m,i⟩:=Ef c) | (go_at_call 185;refine(Ze _ _ (a _ Av)).mono ?_;rintro e o ⟨rfl,l⟩))
  all_goals go_ret
  all_goals (refine⟨Ae ?_,Av⟩)
  all_goals (rw[<-f.out,h];rfl)
def I6 (w:World)(b o:Nat)(l:List Int):Prop:=∀i (h:i<l.length),w.cell? (AK b (o+i))=some (AB l[i])
theorem Azl (b cap:Nat)(l:List Int)(v:Int)(w:World)(j:I6 w b 0 l)(hl:l.length<=1000):
  Calls prog 194 #[AE (some (AK b 0)) l.length cap,AB v] w λe q=>(∃r,e=.returned (AB r)/\(0<=r↔v∈l))/\q=w:=by
 have m:=AV j;clear j;go_enter func194,ntmps194
 go_wp2
 go_loop [8] (λi=>∃k:Nat,k<=l.length/\i=AB k/\v∉l.take k) (λi=>l.length - (intOf i).toNat)
 case atStart=>exact⟨0,AQ,rfl,AU⟩
 case round=>
  obtain⟨k,s,rfl,g⟩:=hrel;have f:=AV g;clear g;by_cases d:k<l.length
  ·have o:=m k d
   rw[CV] at o;by_cases a:v=l[k]
   ·have n:(v==l[k])=true:=by simpa using a
    have c:Hid (v∈l):=by show _∈_;rw[a];exact CN d
    clear a
    go_wp2
    go_ret;exact⟨⟨k,rfl,λ_=>c.out,λ_=>by omega⟩,rfl⟩
   ·have n:(v==l[k])=false:=by simpa using a
    have c:Hid (v∉l.take (k+1)):=by
     show _∉_;rw[D2 d,E7];rintro(h | h)
     ·exact f h
     ·exact a BR
    clear a
    go_wp2
    exact⟨⟨k+1,AQ,by go_num,c.out⟩,by simp[intOf];omega⟩
  ·have c:Hid (v∉l):=by
    show _∉_
    have:=f.out
    rwa [EA AQ] at this
   go_wp2
   go_ret;exact⟨⟨-1,rfl,λh=>by omega,λh=>absurd h c.out⟩,rfl⟩
theorem sq (b cap:Nat)(l:List Int)(v:Int)(w:World)(a:I6 w b 0 l)(hl:l.length<=1000):
  Calls prog 190 #[AE (some (AK b 0)) l.length cap,AB v] w λe f=>e=.returned (.bool (decide (v∈l)))/\f=w:=by
 have c:=AV a;clear a;go_enter func190,ntmps190
 go_wp2_with (go_at_call 194;refine(Azl b cap l v _ c hl).mono ?_;rintro e g ⟨⟨r,rfl,d⟩,rfl⟩)
 go_ret;exact⟨Ae (by first | rfl | exact decide_eq_decide.2 d),rfl⟩
theorem Vd (d:Stil.CC)(b cap:Nat)(l:List Int)(w:World)(hr:Et w)(a:I6 w b 0 l)(j:b<w.heap.size)(hl:l.length<=1000)(f:-9223372036854775808<=d.n)(k:d.n<=9223372036854775807):
  Calls prog 186 #[.agg #[AB d.kind,AB d.n,AB d.p],AE (some (AK b 0)) l.length cap] w (AN w (.bool (d.ok && decide (d.kind∈l)))):=by
 have o:=AV (λW (h:AO w W)=>hr.below h);have c:Hid (∀W,AO w W->I6 W b 0 l):=λW h i hi=>by rw[(Ef h).1 _ _ j];exact a i hi
 clear hr a;cases h:d.ok;all_goals
  go_enter func186,ntmps186
  go_wp2_with (first | (go_at_call 184;refine(MD _ _ _ _ (o _ Av) f k).mono ?_;rw[show Ih d.kind d.n d.p=_ from h];rintro e t ⟨rfl,g⟩;obtain⟨r,q⟩:=Ef g) | (go_at_call 190;refine(sq b cap l _ _ (c _ Av) hl).mono ?_;rintro e s ⟨rfl,rfl⟩))
  all_goals go_ret
  all_goals exact⟨rfl,Av⟩
def Fz (w:World)(b:Nat):Nat->List Int->Prop
 | _,[]=>True
 | o,x::r=>w.cell? (AK b o)=some (AB x)/\Fz w b (o+1) r
theorem Cm {w:World}{b:Nat}:∀{l:List Int} {o:Nat},Fz w b o l->I6 w b o l
 | [],_,_=>λi hi=>absurd hi AU
 | x::r,o,h=>λi hi=>by
  cases i with
  | zero=>exact h.1
  | succ k=>
   have:=Cm h.2 k (by simpa using hi)
   rw[show o+(k+1)=o+1+k from by omega];simpa using this
theorem ni (d:Stil.CC)(w:World)(hr:Et w)(a:-9223372036854775808<=d.n)(b:d.n<=9223372036854775807):
  Calls prog 176 #[.agg #[AB d.kind,AB d.n,AB d.p]] w (AN w (.bool (d.ok && decide (d.kind∈([5]:List Int))))):=by
 have c:=AV (λW (h:AO w W)=>hr.below h);clear hr;go_enter func176,ntmps176
 go_wp2_with (go_at_call 186;refine(Vd d _ _ [5] _ (c _ Av) (Cm (by simp[Fz,go_sem])) AU AU a b).mono ?_;rintro e g ⟨rfl,i⟩)
 go_ret;exact⟨Ae AU,Av⟩
theorem nf (d:Stil.CC)(w:World)(hr:Et w)(a:-9223372036854775808<=d.n)(b:d.n<=9223372036854775807):
  Calls prog 182 #[.agg #[AB d.kind,AB d.n,AB d.p]] w (AN w (.bool (d.ok && decide (d.kind∈([4]:List Int))))):=by
 have c:=AV (λW (h:AO w W)=>hr.below h);clear hr;go_enter func182,ntmps182
 go_wp2_with (go_at_call 186;refine(Vd d _ _ [4] _ (c _ Av) (Cm (by simp[Fz,go_sem])) AU AU a b).mono ?_;rintro e g ⟨rfl,i⟩)
 go_ret;exact⟨Ae AU,Av⟩
theorem nZ (d:Stil.CC)(w:World)(hr:Et w)(a:-9223372036854775808<=d.n)(b:d.n<=9223372036854775807):
  Calls prog 170 #[.agg #[AB d.kind,AB d.n,AB d.p]] w (AN w (.bool (d.ok && decide (d.kind∈([7]:List Int))))):=by
 have c:=AV (λW (h:AO w W)=>hr.below h);clear hr;go_enter func170,ntmps170
 go_wp2_with (go_at_call 186;refine(Vd d _ _ [7] _ (c _ Av) (Cm (by simp[Fz,go_sem])) AU AU a b).mono ?_;rintro e g ⟨rfl,i⟩)
 go_ret;exact⟨Ae AU,Av⟩
theorem nm (d:Stil.CC)(w:World)(hr:Et w)(a:-9223372036854775808<=d.n)(b:d.n<=9223372036854775807):
  Calls prog 183 #[.agg #[AB d.kind,AB d.n,AB d.p]] w (AN w (.bool (d.ok && decide (d.kind∈([8]:List Int))))):=by
 have c:=AV (λW (h:AO w W)=>hr.below h);clear hr;go_enter func183,ntmps183
 go_wp2_with (go_at_call 186;refine(Vd d _ _ [8] _ (c _ Av) (Cm (by simp[Fz,go_sem])) AU AU a b).mono ?_;rintro e g ⟨rfl,i⟩)
 go_ret;exact⟨Ae AU,Av⟩
theorem nj (d:Stil.CC)(w:World)(hr:Et w)(a:-9223372036854775808<=d.n)(b:d.n<=9223372036854775807):
  Calls prog 172 #[.agg #[AB d.kind,AB d.n,AB d.p]] w (AN w (.bool (d.ok && decide (d.kind∈([9]:List Int))))):=by
 have c:=AV (λW (h:AO w W)=>hr.below h);clear hr;go_enter func172,ntmps172
 go_wp2_with (go_at_call 186;refine(Vd d _ _ [9] _ (c _ Av) (Cm (by simp[Fz,go_sem])) AU AU a b).mono ?_;rintro e g ⟨rfl,i⟩)
 go_ret;exact⟨Ae AU,Av⟩
theorem nh (d:Stil.CC)(w:World)(hr:Et w)(a:-9223372036854775808<=d.n)(b:d.n<=9223372036854775807):
  Calls prog 173 #[.agg #[AB d.kind,AB d.n,AB d.p]] w (AN w (.bool (d.ok && decide (d.kind∈([10]:List Int))))):=by
 have c:=AV (λW (h:AO w W)=>hr.below h);clear hr;go_enter func173,ntmps173
 go_wp2_with (go_at_call 186;refine(Vd d _ _ [10] _ (c _ Av) (Cm (by simp[Fz,go_sem])) AU AU a b).mono ?_;rintro e g ⟨rfl,i⟩)
 go_ret;exact⟨Ae AU,Av⟩
theorem nB (d:Stil.CC)(w:World)(hr:Et w)(a:-9223372036854775808<=d.n)(b:d.n<=9223372036854775807):
  Calls prog 179 #[.agg #[AB d.kind,AB d.n,AB d.p]] w (AN w (.bool (d.ok && decide (d.kind∈([2,3]:List Int))))):=by
 have c:=AV (λW (h:AO w W)=>hr.below h);clear hr;go_enter func179,ntmps179
 go_wp2_with (go_at_call 186;refine(Vd d _ _ [2,3] _ (c _ Av) (Cm (by simp[Fz,go_sem])) AU AU a b).mono ?_;rintro e g ⟨rfl,i⟩)
 go_ret;exact⟨Ae AU,Av⟩
theorem lj (d:Stil.CC)(w:World)(hr:Et w)(a:-9223372036854775808<=d.n)(b:d.n<=9223372036854775807):
  Calls prog 180 #[.agg #[AB d.kind,AB d.n,AB d.p]] w (AN w (.bool (d.ok && decide (d.kind∈([2,3,4]:List Int))))):=by
 have c:=AV (λW (h:AO w W)=>hr.below h);clear hr;go_enter func180,ntmps180
 go_wp2_with (go_at_call 186;refine(Vd d _ _ [2,3,4] _ (c _ Av) (Cm (by simp[Fz,go_sem])) AU AU a b).mono ?_;rintro e g ⟨rfl,i⟩)
 go_ret;exact⟨Ae AU,Av⟩
theorem Azw (d:Stil.CC)(w:World)(hr:Et w)(a:-9223372036854775808<=d.n)(b:d.n<=9223372036854775807):
  Calls prog 181 #[.agg #[AB d.kind,AB d.n,AB d.p]] w (AN w (.bool (d.ok && decide (d.kind∈([2,3,4,7,8]:List Int))))):=by
 have c:=AV (λW (h:AO w W)=>hr.below h);clear hr;go_enter func181,ntmps181
 go_wp2_with (go_at_call 186;refine(Vd d _ _ [2,3,4,7,8] _ (c _ Av) (Cm (by simp[Fz,go_sem])) AU AU a b).mono ?_;rintro e g ⟨rfl,i⟩)
 go_ret;exact⟨Ae AU,Av⟩
theorem Avf (d:Stil.CC)(w:World)(hr:Et w)(b:-9223372036854775808<=d.n)(c:d.n<=9223372036854775807):
  Calls prog 171 #[.agg #[AB d.kind,AB d.n,AB d.p]] w (AN w (.bool (d.ok && decide (d.kind∈([11]:List Int)) && decide (0<=d.n)))):=by
 have f:=AV (λW (h:AO w W)=>hr.below h);clear hr;cases h:(d.ok && decide (d.kind∈([11]:List Int)));all_goals
  go_enter func171,ntmps171
  go_wp2_with (go_at_call 186;refine(Vd d _ _ [11] _ (f _ Av) (Cm (by simp[Fz,go_sem])) AU AU b c).mono ?_;rw[h];rintro e i ⟨rfl,a⟩;obtain⟨k,j⟩:=Ef a)
  all_goals go_ret
  all_goals exact⟨Ae AU,Av⟩
def L1:List (List UInt8 × Nat × List Nat × List Nat):=
  [([],0,[],[]),
   ([],174,[175],[]),
   ([47],174,[175],[]),
   ([43],174,[175,176],[]),
   ([45],174,[175,176],[]),
   ([60],177,[168,168],[169,169]),
   ([60,61],177,[168,168],[169,169]),
   ([61],177,[168,168],[169,169]),
   ([60,62],177,[168,168],[169,169]),
   ([62,61],177,[168,168],[169,169]),
   ([62],177,[168,168],[169,169]),
   ([],0,[],[]),
   ([],0,[],[]),
   ([],0,[],[]),
   ([],0,[],[]),
   ([],0,[],[]),
   ([],0,[],[]),
   ([],0,[],[]),
   ([],0,[],[]),
   ([],0,[],[]),
   ([],0,[],[]),
   ([111,117,116],178,[179],[]),
   ([115,101,116],178,[180],[]),
   ([114,101,115,101,116],178,[181],[]),
   ([112,117,108,115,101],178,[179,176],[]),
   ([115,116,101,112],178,[182],[]),
   ([116,105,109,101,114],178,[170,171],[]),
   ([104,111,108,100],178,[170,171],[]),
   ([108,97,116,101],178,[170,171],[]),
   ([99,111,117,110,116],178,[183,171],[]),
   ([109,111,118,101],178,[172,168],[173,169]),
   ([97,100,100],178,[172,168,168],[173,169,169]),
   ([115,117,98],178,[172,168,168],[173,169,169]),
   ([109,117,108],178,[172,168,168],[173,169,169]),
   ([100,105,118],178,[172,168,168],[173,169,169]),
   ([114,101,109],178,[172,168,168],[]),
   ([114,101,97,108],178,[173,168],[]),
   ([119,104,111,108,101],178,[172,169],[])]
def fnv (n:Nat):Value:=if n=0 then .nilFunc else .func (.func n) #[] #[]
def Qo (r:List UInt8 × Nat × List Nat × List Nat):List Value:=
  [.string ⟨r.1.toArray⟩,fnv r.2.1,fnv (r.2.2.1.getD 0 0),fnv (r.2.2.1.getD 1 0),fnv (r.2.2.1.getD 2 0),fnv (r.2.2.2.getD 0 0),fnv (r.2.2.2.getD 1 0),fnv (r.2.2.2.getD 2 0)]
def Kr:List Value:=L1.flatMap Qo
theorem OB {P:Program}{g:Nat}{t:TypeId}{vs tgt:List Value}{cur:Array Value}{w:World}{α:Type}(f:Unit->World->Result α)(hvs:vs=tgt)(hg:w.heap[g]?=some (.cells cur t (0,0)))(hl:tgt.length=cur.size)(h1:tgt.all (·.oneCell')=true):
    ((storeCells (AK g 0) vs 0).run P w).andThen f=f () (w.setRow g tgt.toArray):=by
  subst hvs;rw[run_storeCells_from (P:=P) g t vs 0 cur w hg AQ (λv a=>List.all_eq_true.1 h1 v a)];simp[Result.andThen]
theorem VI (w:World)(a c b d:Obj):((((w.alloc a).alloc c).alloc b).alloc d).heap[w.heap.size]?=some a:=by
  show((((w.heap.push a).push c).push b).push d)[w.heap.size]?=_
  simp[Array.getElem?_push];rw[if_neg AQ,if_neg AQ]
set_option maxHeartbeats 4000000 in
set_option maxRecDepth 100000 in
theorem SJ (w:World):
    Calls prog 166 #[] w (AN w (.agg Kr.toArray)):=by
  go_enter func166,ntmps166
  go_wp2
  rw[OB (tgt:=Kr) (cur:=Tryz.zeroCells201) (t:=201)]
  case hvs=>kernel_rfl
  case hl=>kernel_rfl
  case h1=>kernel_rfl
  case hg=>exact VI _ _ _ _ _
  obtain⟨W,a⟩:=AA ((((w.alloc (Obj.cells Tryz.zeroCells201 201)).alloc (Obj.cells #[.func (.func 168) #[] #[], .func (.func 168) #[] #[], .nilFunc, .func (.func 169) #[] #[], .func (.func 169) #[] #[], .nilFunc] 195)).alloc (Obj.cells #[.func (.func 170) #[] #[], .func (.func 171) #[] #[], .nilFunc, .nilFunc, .nilFunc, .nilFunc] 195)).alloc (Obj.cells #[.func (.func 172) #[] #[], .func (.func 168) #[] #[], .func (.func 168) #[] #[], .func (.func 173) #[] #[], .func (.func 169) #[] #[], .func (.func 169) #[] #[]] 195))
  have hg:W.heap[w.heap.size]?=some (.cells Tryz.zeroCells201 201 (0,0)):=by rw[a];exact VI _ _ _ _ _
  have d:AO w W:=by rw[a];(repeat (first | exact Below.refl _ _ | assumption | refine Bd ?_ _ | refine Ja ?_ _ | refine J7 ?_ | refine Gq ?_ _ _ | refine Dj (CG _) ?_ _ | refine Bc ?_ BD))
  rw[<-a];clear a;have b:(loadVar 201 (AL w 0)).run prog (W.setRow w.heap.size Kr.toArray)=.ok (.agg Kr.toArray) (W.setRow w.heap.size Kr.toArray):=
    run_loadVar_row _ _ _ 201 _ (0,0) _ (setRow_heap _ _ _ _ _ _ hg) underlying201 rfl AX
  have c:AO w (W.setRow w.heap.size Kr.toArray):=below_setRow d (CG _) _;generalize W.setRow w.heap.size Kr.toArray=V at b c ⊢;rw[Oper.upon_skip]
  go_wp2
  refine bodyPost_ret (v:=.agg Kr.toArray) (by simp[results,results166,Act.put,asAddr,b]) rfl ⟨rfl,c⟩
