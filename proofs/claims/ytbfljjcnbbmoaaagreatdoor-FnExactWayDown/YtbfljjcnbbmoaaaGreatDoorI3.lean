import Derived.Test.YtbfljjcnbbmoaaaGreatDoorGB
import Derived.Laws.EntriesVeiled
import Derived.Deep.WholeRow
import Derived.Laws.CopyOwn
set_option maxHeartbeats 4000000
set_option maxRecDepth 100000
namespace Go.Proofs.YtbfljjcnbbmoaaaGreatDoor
open Stil
open Go.RowKit Go.Sort Go.BigFrame
def X3 (k:Int):Bool:=decide (1<=k) && (decide (k<=4) || k==6 || k==7 || k==8)
def Oj (k:Int):Bool:=k==7 || k==8 || k==9 || k==11
def S9 (k:Int):Bool:=k==10 || k==12 || k==13
def Es (w:World):Prop:=1<w.heap.size/\∀k:Nat,k<14->w.cell? ⟨1,k*5,none⟩=some (.string (O7 k))/\w.cell? ⟨1,k*5+1,none⟩=some (.int .i64 (Jw k))/\w.cell? ⟨1,k*5+2,none⟩=some (.bool (X3 k))/\w.cell? ⟨1,k*5+3,none⟩=some (.bool (Oj k))/\w.cell? ⟨1,k*5+4,none⟩=some (.bool (S9 k))
theorem Es.below {w w':World}(h:Es w)(hb:Below w.heap.size w w'):Es w':=by
 obtain⟨h0,h⟩:=h;obtain⟨hc,_⟩:=Dq hb;refine⟨A37 h0 hb.size,λk hk=>?_⟩;obtain⟨a,b,c,d,e⟩:=h k hk;exact⟨by rw[hc _ _ h0];exact a,by rw[hc _ _ h0];exact b,by rw[hc _ _ h0];exact c,by rw[hc _ _ h0];exact d,by rw[hc _ _ h0];exact e⟩
theorem Xm (k:Int)(w:World)(hr:Es w):
  Calls Tryz.prog 170 #[.int .i64 k] w λe w'=>e=.returned (.agg #[.string (O7 k), .int .i64 (Jw k), .bool (X3 k), .bool (Oj k), .bool (S9 k)])/\Below w.heap.size w w':=by
 by_cases h:0<=k/\k<14
 ·obtain⟨m,rfl⟩:=Int.eq_ofNat_of_zero_le h.1
  have hm:m<14:=omz
  obtain⟨h0,hr⟩:=hr;obtain⟨a,b,c,d,e⟩:=hr m hm;clear h hr;go_enter Tryz.func170,Tryz.ntmps170
  go_wp2
  refine bodyPost_ret (v:=.agg #[.string (O7 m), .int .i64 (Jw m), .bool (X3 m), .bool (Oj m), .bool (S9 m)]) (by simp[results,Tryz.results170,go_sem]) rfl ⟨rfl,?_⟩
  (repeat (first | exact Below.refl _ _ | assumption | refine Bq ?_ _ | refine Hg ?_ _ | refine Iw ?_ | refine Ep ?_ _ _ | refine Bz (A4d _) ?_ _ | refine Bd ?_ aqz))
 ·have hd:O7 k=⟨#[]⟩/\Jw k=0/\X3 k=false/\Oj k=false/\S9 k=false:=by
   unfold O7 Jw X3 Oj S9;refine⟨by rw[if_neg omz],by rw[if_neg omz,if_neg omz,if_neg omz,if_neg omz],?_,?_,?_⟩
   ·simp only[Bool.and_eq_false_iff,Bool.or_eq_false_iff,decide_eq_false_iff_not,A5a];omega
   ·simp only[Bool.or_eq_false_iff,A5a];omega
   ·simp only[Bool.or_eq_false_iff,A5a];omega
  have HD:=hid hd;clear hd hr;go_enter Tryz.func170,Tryz.ntmps170
  go_wp2
  all_goals (obtain⟨q1,q2,q3,q4,q5⟩:=HD.out)
  all_goals refine bodyPost_ret (v:=.agg #[.string ⟨#[]⟩, .int .i64 0, .bool false, .bool false, .bool false]) (by simp[results,Tryz.results170,go_sem]) rfl ⟨by rw[q1,q2,q3,q4,q5],?_⟩
  all_goals (repeat (first | exact Below.refl _ _ | assumption | refine Bq ?_ _ | refine Hg ?_ _ | refine Iw ?_ | refine Ep ?_ _ _ | refine Bz (A4d _) ?_ _ | refine Bd ?_ aqz))
theorem Axp (a:ByteArray)(b:Int)(c d e:Bool)(w:World):(Instr.field 198 (.agg #[.string a, .int .i64 b, .bool c, .bool d, .bool e]) 1).run Tryz.prog w=.ok (.int .i64 b) w:=krz
theorem Axo (a:ByteArray)(b:Int)(c d e:Bool)(w:World):(Instr.field 198 (.agg #[.string a, .int .i64 b, .bool c, .bool d, .bool e]) 2).run Tryz.prog w=.ok (.bool c) w:=krz
theorem Axn (a:ByteArray)(b:Int)(c d e:Bool)(w:World):(Instr.field 198 (.agg #[.string a, .int .i64 b, .bool c, .bool d, .bool e]) 3).run Tryz.prog w=.ok (.bool d) w:=krz
theorem Axm (a:ByteArray)(b:Int)(c d e:Bool)(w:World):(Instr.field 198 (.agg #[.string a, .int .i64 b, .bool c, .bool d, .bool e]) 4).run Tryz.prog w=.ok (.bool e) w:=krz
theorem Zt (k:Int)(w:World)(hr:Es w):
  Calls Tryz.prog 174 #[.int .i64 k] w λe w'=>e=.returned (.int .i64 (Jw k))/\Below w.heap.size w w':=by
 have hfd:=Axp;go_enter Tryz.func174,Tryz.ntmps174
 go_wp2_with (go_at_call 170;refine(Xm _ _ hr).mono ?_;rintro e w1 ⟨rfl,hb⟩)
 go_ret;exact⟨rfl,blB⟩
theorem Aqp (n p:Int)(w:World)(hn1:-9223372036854775808<=n)(hn2:n<=9223372036854775807):
  Calls Tryz.prog 173 #[.int .i64 n, .int .i64 p] w λe w'=>e=.returned (.bool (Gy 12 n p))/\w'=w:=by
 go_enter Tryz.func173,Tryz.ntmps173
 go_wp2
 all_goals go_ret
 all_goals (refine⟨Ar ?_,rfl⟩)
 all_goals go_light
 all_goals try simp only[beq_iff_eq,A5a,bne_iff_ne,bne_eq_false_iff_eq] at*
 all_goals (rw[Bool.eq_iff_iff];simp[Gy, *];try omega)
theorem Ag7 (k n p:Int)(w:World)(hr:Es w)(hn1:-9223372036854775808<=n)(hn2:n<=9223372036854775807):
  Calls Tryz.prog 169 #[.agg #[.int .i64 k, .int .i64 n, .int .i64 p]] w λe w'=>e=.returned (.bool (Gy k n p))/\Below w.heap.size w w':=by
 have HR:=hid (λW (h:Below w.heap.size w W)=>hr.below h);clear hr;have c0:(w.alloc (Obj.cells #[.int .i64 k, .int .i64 n, .int .i64 p] 86)).cell? ⟨w.heap.size,0,none⟩=some (.int .i64 k):=by simp[go_sem]
 have c1:(w.alloc (Obj.cells #[.int .i64 k, .int .i64 n, .int .i64 p] 86)).cell? ⟨w.heap.size,1,none⟩=some (.int .i64 n):=by simp[go_sem]
 have c2:(w.alloc (Obj.cells #[.int .i64 k, .int .i64 n, .int .i64 p] 86)).cell? ⟨w.heap.size,2,none⟩=some (.int .i64 p):=by simp[go_sem]
 have r0:=cell_regrown c0;have r1:=cell_regrown c1;have r2:=cell_regrown c2;clear c0 c1 c2;go_enter Tryz.func169,Tryz.ntmps169
 go_wp2_with (go_at_call 173;refine(Aqp _ _ _ hn1 hn2).mono ?_;rintro e w1 ⟨rfl,rfl⟩)
 rotate_right 1
 focus
  by_cases hp:p=0
  ·subst hp
   by_cases h0:0<=n
   ·by_cases h1:n<Jw k
    ·refine wp_region_quiet_below krz krz ?_
     repeat (go_big_quiet_step ((exact Calls.regrown_of (Zt _ _ (HR _ blB)))))
     refine wpQuiet_nil ?_;intro _ hw';obtain⟨⟨dq,osq⟩,hw''⟩:=hw';subst hw''
     go_wp2
     go_ret;refine⟨Ar ?_,blB⟩;go_light;simp only[A5a] at*
     (rw[Bool.eq_iff_iff];simp[Gy, *];try omega)
    ·have h1':decide (n<Jw k)=false:=by simpa using h1
     refine wp_region_quiet_below krz krz ?_;repeat (go_big_quiet_step ((exact Calls.regrown_of (Zt _ _ (HR _ blB)))))
     refine wpQuiet_nil ?_;intro _ hw';obtain⟨⟨dq,osq⟩,hw''⟩:=hw';subst hw''
     go_wp2
     go_ret;refine⟨Ar ?_,blB⟩;go_light;simp only[A5a] at*
     (rw[Bool.eq_iff_iff];simp[Gy, *];try omega)
   ·have h0':decide (0<=n)=false:=by simpa using h0
    refine wp_region_quiet_below krz krz ?_;repeat (go_big_quiet_step ((exact Calls.regrown_of (Zt _ _ (HR _ blB)))))
    refine wpQuiet_nil ?_;intro _ hw';obtain⟨⟨dq,osq⟩,hw''⟩:=hw';subst hw''
    go_wp2
    go_ret;refine⟨Ar ?_,blB⟩;go_light;simp only[A5a] at*
    (rw[Bool.eq_iff_iff];simp[Gy, *];try omega)
  ·have hp':(p==0)=false:=by simpa using hp
   refine wp_region_quiet_below krz krz ?_;repeat (go_big_quiet_step ((exact Calls.regrown_of (Zt _ _ (HR _ blB)))))
   refine wpQuiet_nil ?_;intro _ hw';obtain⟨⟨dq,osq⟩,hw''⟩:=hw';subst hw''
   go_wp2
   go_ret;refine⟨Ar ?_,blB⟩;go_light;simp only[A5a] at*
   (rw[Bool.eq_iff_iff];simp[Gy, *];try omega)
 all_goals go_ret
 all_goals (refine⟨Ar ?_,blB⟩)
 all_goals go_light
 all_goals try simp only[beq_iff_eq,A5a] at*
 all_goals first | (subst k;rfl) | (rw[Bool.eq_iff_iff];simp[Gy, *];try omega)
theorem Aaz {k n p:Int}(h:Gy k n p=true):1<=k/\k<=13:=by
 by_cases h1:k=11
 ·omega
 ·by_cases h2:k=12
  ·omega
  ·by_cases h3:k=13
   ·omega
   ·have:=Awa h h1 h2 h3;omega
theorem Awb (k n p:Int):(Gy k n p && X3 k)=O8 k n p:=by
 cases h:Gy k n p
 ·simp[O8,h]
 ·have hk:=Aaz h
  rw[O8,h,Bool.eq_iff_iff];simp[X3];try omega
theorem Aqo (k n p:Int)(w:World)(hr:Es w)(hn1:-9223372036854775808<=n)(hn2:n<=9223372036854775807):
  Calls Tryz.prog 160 #[.agg #[.int .i64 k, .int .i64 n, .int .i64 p]] w λe w'=>e=.returned (.bool (O8 k n p))/\Below w.heap.size w w':=by
 have hfd:=Axo;have HR:=hid (λW (h:Below w.heap.size w W)=>hr.below h);have HE:=hid (Awb k n p);clear hr;cases h:Gy k n p;all_goals
  go_enter Tryz.func160,Tryz.ntmps160
  go_wp2_with (first | (go_at_call 169;refine(Ag7 _ _ _ _ (HR _ blB) hn1 hn2).mono ?_;rw[h];rintro e w1 ⟨rfl,hb⟩;obtain⟨hc,hf⟩:=Dq hb) | (go_at_call 170;refine(Xm _ _ (HR _ blB)).mono ?_;rintro e w2 ⟨rfl,hb2⟩))
  all_goals go_ret
  all_goals (refine⟨Ar ?_,blB⟩)
  all_goals (rw[<-HE.out,h];rfl)
theorem Amo (k n p:Int):(Gy k n p && Oj k)=Hy k n p:=by
 cases h:Gy k n p
 ·simp[Hy,h]
 ·have hk:=Aaz h
  rw[Hy,h,Bool.eq_iff_iff];simp[Oj];try omega
theorem Ajo (k n p:Int)(w:World)(hr:Es w)(hn1:-9223372036854775808<=n)(hn2:n<=9223372036854775807):
  Calls Tryz.prog 153 #[.agg #[.int .i64 k, .int .i64 n, .int .i64 p]] w λe w'=>e=.returned (.bool (Hy k n p))/\Below w.heap.size w w':=by
 have hfd:=Axn;have HR:=hid (λW (h:Below w.heap.size w W)=>hr.below h);have HE:=hid (Amo k n p);clear hr;cases h:Gy k n p;all_goals
  go_enter Tryz.func153,Tryz.ntmps153
  go_wp2_with (first | (go_at_call 169;refine(Ag7 _ _ _ _ (HR _ blB) hn1 hn2).mono ?_;rw[h];rintro e w1 ⟨rfl,hb⟩;obtain⟨hc,hf⟩:=Dq hb) | (go_at_call 170;refine(Xm _ _ (HR _ blB)).mono ?_;rintro e w2 ⟨rfl,hb2⟩))
  all_goals go_ret
  all_goals (refine⟨Ar ?_,blB⟩)
  all_goals (rw[<-HE.out,h];rfl)
theorem Aqz (k n p:Int):(Gy k n p && S9 k)=Iu k n p:=by
 cases h:Gy k n p
 ·simp[Iu,h]
 ·have hk:=Aaz h
  rw[Iu,h,Bool.eq_iff_iff];simp[S9];try omega
theorem Amh (k n p:Int)(w:World)(hr:Es w)(hn1:-9223372036854775808<=n)(hn2:n<=9223372036854775807):
  Calls Tryz.prog 154 #[.agg #[.int .i64 k, .int .i64 n, .int .i64 p]] w λe w'=>e=.returned (.bool (Iu k n p))/\Below w.heap.size w w':=by
 have hfd:=Axm;have HR:=hid (λW (h:Below w.heap.size w W)=>hr.below h);have HE:=hid (Aqz k n p);clear hr;cases h:Gy k n p;all_goals
  go_enter Tryz.func154,Tryz.ntmps154
  go_wp2_with (first | (go_at_call 169;refine(Ag7 _ _ _ _ (HR _ blB) hn1 hn2).mono ?_;rw[h];rintro e w1 ⟨rfl,hb⟩;obtain⟨hc,hf⟩:=Dq hb) | (go_at_call 170;refine(Xm _ _ (HR _ blB)).mono ?_;rintro e w2 ⟨rfl,hb2⟩))
  all_goals go_ret
  all_goals (refine⟨Ar ?_,blB⟩)
  all_goals (rw[<-HE.out,h];rfl)
def Akr (w:World)(b o:Nat)(l:List Int):Prop:=∀i (h:i<l.length),w.cell? ⟨b,o+i,none⟩=some (.int .i64 l[i])
theorem Avk (b cap:Nat)(l:List Int)(v:Int)(w:World)(hat:Akr w b 0 l)(hl:l.length<=1000):
  Calls Tryz.prog 179 #[.slice (some ⟨b,0,none⟩) l.length cap, .int .i64 v] w λe w'=>(∃r,e=.returned (.int .i64 r)/\(0<=r↔v∈l))/\w'=w:=by
 have HA:=hid hat;clear hat;go_enter Tryz.func179,Tryz.ntmps179
 go_wp2
 go_loop [8] (λi=>∃k:Nat,k<=l.length/\i=.int .i64 k/\v∉l.take k) (λi=>l.length - (intOf i).toNat)
 case atStart=>exact⟨0,omz,rfl,spz⟩
 case round=>
  obtain⟨k,hk,rfl,hno⟩:=hrel;have HN:=hid hno;clear hno;by_cases hlt:k<l.length
  ·have hc:=HA k hlt
   rw[A4h] at hc;by_cases hx:v=l[k]
   ·have hxb:(v==l[k])=true:=by simpa using hx
    have HM:Hid (v∈l):=by show _∈_;rw[hx];exact A4f hlt
    clear hx
    go_wp2
    go_ret;exact⟨⟨k,rfl,λ_=>HM.out,λ_=>by omega⟩,rfl⟩
   ·have hxb:(v==l[k])=false:=by simpa using hx
    have HM:Hid (v∉l.take (k+1)):=by
     show _∉_;rw[A4r hlt,A4l];rintro(h | h)
     ·exact HN h
     ·exact hx (by simpa using h)
    clear hx
    go_wp2
    exact⟨⟨k+1,omz,by go_num,HM.out⟩,by simp[intOf];omega⟩
  ·have HM:Hid (v∉l):=by
    show _∉_
    have:=HN.out
    rwa [A43 omz] at this
   go_wp2
   go_ret;exact⟨⟨-1,rfl,λh=>by omega,λh=>absurd h HM.out⟩,rfl⟩
theorem Aji (b cap:Nat)(l:List Int)(v:Int)(w:World)(hat:Akr w b 0 l)(hl:l.length<=1000):
  Calls Tryz.prog 175 #[.slice (some ⟨b,0,none⟩) l.length cap, .int .i64 v] w λe w'=>e=.returned (.bool (decide (v∈l)))/\w'=w:=by
 have HA:=hid hat;clear hat;go_enter Tryz.func175,Tryz.ntmps175
 go_wp2_with (go_at_call 179;refine(Avk b cap l v _ HA hl).mono ?_;rintro e w1 ⟨⟨r,rfl,hr⟩,rfl⟩)
 go_ret;exact⟨Ar (by first | rfl | exact decide_eq_decide.2 hr),rfl⟩
theorem Tf (d:Stil.Dev)(b cap:Nat)(l:List Int)(w:World)(hr:Es w)(hat:Akr w b 0 l)(hb:b<w.heap.size)(hl:l.length<=1000)(hn1:-9223372036854775808<=d.n)(hn2:d.n<=9223372036854775807):
  Calls Tryz.prog 171 #[.agg #[.int .i64 d.kind, .int .i64 d.n, .int .i64 d.p], .slice (some ⟨b,0,none⟩) l.length cap] w λe w'=>e=.returned (.bool (d.ok && decide (d.kind∈l)))/\Below w.heap.size w w':=by
 have HR:=hid (λW (h:Below w.heap.size w W)=>hr.below h);have HA:Hid (∀W,Below w.heap.size w W->Akr W b 0 l):=λW h i hi=>by rw[(Dq h).1 _ _ hb];exact hat i hi
 clear hr hat;cases h:d.ok;all_goals
  go_enter Tryz.func171,Tryz.ntmps171
  go_wp2_with (first | (go_at_call 169;refine(Ag7 _ _ _ _ (HR _ blB) hn1 hn2).mono ?_;rw[show Gy d.kind d.n d.p=_ from h];rintro e w1 ⟨rfl,hb1⟩;obtain⟨hc,hf⟩:=Dq hb1) | (go_at_call 175;refine(Aji b cap l _ _ (HA _ blB) hl).mono ?_;rintro e w2 ⟨rfl,rfl⟩))
  all_goals go_ret
  all_goals exact⟨rfl,blB⟩
def Lj (w:World)(b:Nat):Nat->List Int->Prop
 | _,[]=>True
 | o,x::r=>w.cell? ⟨b,o,none⟩=some (.int .i64 x)/\Lj w b (o+1) r
theorem Ha {w:World}{b:Nat}:∀{l:List Int} {o:Nat},Lj w b o l->Akr w b o l
 | [],_,_=>λi hi=>absurd hi spz
 | x::r,o,h=>λi hi=>by
  cases i with
  | zero=>exact h.1
  | succ k=>
   have:=Ha h.2 k (by simpa using hi)
   rw[show o+(k+1)=o+1+k from by omega];simpa using this
theorem A3p (d:Stil.Dev)(w:World)(hr:Es w)(hn1:-9223372036854775808<=d.n)(hn2:d.n<=9223372036854775807):
  Calls Tryz.prog 161 #[.agg #[.int .i64 d.kind, .int .i64 d.n, .int .i64 d.p]] w λe w'=>e=.returned (.bool (d.ok && decide (d.kind∈([5]:List Int))))/\Below w.heap.size w w':=by
 have HR:=hid (λW (h:Below w.heap.size w W)=>hr.below h);clear hr;go_enter Tryz.func161,Tryz.ntmps161
 go_wp2_with (go_at_call 171;refine(Tf d _ _ [5] _ (HR _ blB) (Ha (by simp[Lj,go_sem])) spz spz hn1 hn2).mono ?_;rintro e w1 ⟨rfl,hb⟩)
 go_ret;exact⟨Ar spz,blB⟩
theorem A3n (d:Stil.Dev)(w:World)(hr:Es w)(hn1:-9223372036854775808<=d.n)(hn2:d.n<=9223372036854775807):
  Calls Tryz.prog 167 #[.agg #[.int .i64 d.kind, .int .i64 d.n, .int .i64 d.p]] w λe w'=>e=.returned (.bool (d.ok && decide (d.kind∈([4]:List Int))))/\Below w.heap.size w w':=by
 have HR:=hid (λW (h:Below w.heap.size w W)=>hr.below h);clear hr;go_enter Tryz.func167,Tryz.ntmps167
 go_wp2_with (go_at_call 171;refine(Tf d _ _ [4] _ (HR _ blB) (Ha (by simp[Lj,go_sem])) spz spz hn1 hn2).mono ?_;rintro e w1 ⟨rfl,hb⟩)
 go_ret;exact⟨Ar spz,blB⟩
theorem A3m (d:Stil.Dev)(w:World)(hr:Es w)(hn1:-9223372036854775808<=d.n)(hn2:d.n<=9223372036854775807):
  Calls Tryz.prog 155 #[.agg #[.int .i64 d.kind, .int .i64 d.n, .int .i64 d.p]] w λe w'=>e=.returned (.bool (d.ok && decide (d.kind∈([7]:List Int))))/\Below w.heap.size w w':=by
 have HR:=hid (λW (h:Below w.heap.size w W)=>hr.below h);clear hr;go_enter Tryz.func155,Tryz.ntmps155
 go_wp2_with (go_at_call 171;refine(Tf d _ _ [7] _ (HR _ blB) (Ha (by simp[Lj,go_sem])) spz spz hn1 hn2).mono ?_;rintro e w1 ⟨rfl,hb⟩)
 go_ret;exact⟨Ar spz,blB⟩
theorem A3r (d:Stil.Dev)(w:World)(hr:Es w)(hn1:-9223372036854775808<=d.n)(hn2:d.n<=9223372036854775807):
  Calls Tryz.prog 168 #[.agg #[.int .i64 d.kind, .int .i64 d.n, .int .i64 d.p]] w λe w'=>e=.returned (.bool (d.ok && decide (d.kind∈([8]:List Int))))/\Below w.heap.size w w':=by
 have HR:=hid (λW (h:Below w.heap.size w W)=>hr.below h);clear hr;go_enter Tryz.func168,Tryz.ntmps168
 go_wp2_with (go_at_call 171;refine(Tf d _ _ [8] _ (HR _ blB) (Ha (by simp[Lj,go_sem])) spz spz hn1 hn2).mono ?_;rintro e w1 ⟨rfl,hb⟩)
 go_ret;exact⟨Ar spz,blB⟩
theorem A3q (d:Stil.Dev)(w:World)(hr:Es w)(hn1:-9223372036854775808<=d.n)(hn2:d.n<=9223372036854775807):
  Calls Tryz.prog 157 #[.agg #[.int .i64 d.kind, .int .i64 d.n, .int .i64 d.p]] w λe w'=>e=.returned (.bool (d.ok && decide (d.kind∈([9]:List Int))))/\Below w.heap.size w w':=by
 have HR:=hid (λW (h:Below w.heap.size w W)=>hr.below h);clear hr;go_enter Tryz.func157,Tryz.ntmps157
 go_wp2_with (go_at_call 171;refine(Tf d _ _ [9] _ (HR _ blB) (Ha (by simp[Lj,go_sem])) spz spz hn1 hn2).mono ?_;rintro e w1 ⟨rfl,hb⟩)
 go_ret;exact⟨Ar spz,blB⟩
theorem A3o (d:Stil.Dev)(w:World)(hr:Es w)(hn1:-9223372036854775808<=d.n)(hn2:d.n<=9223372036854775807):
  Calls Tryz.prog 158 #[.agg #[.int .i64 d.kind, .int .i64 d.n, .int .i64 d.p]] w λe w'=>e=.returned (.bool (d.ok && decide (d.kind∈([10]:List Int))))/\Below w.heap.size w w':=by
 have HR:=hid (λW (h:Below w.heap.size w W)=>hr.below h);clear hr;go_enter Tryz.func158,Tryz.ntmps158
 go_wp2_with (go_at_call 171;refine(Tf d _ _ [10] _ (HR _ blB) (Ha (by simp[Lj,go_sem])) spz spz hn1 hn2).mono ?_;rintro e w1 ⟨rfl,hb⟩)
 go_ret;exact⟨Ar spz,blB⟩
theorem A2s (d:Stil.Dev)(w:World)(hr:Es w)(hn1:-9223372036854775808<=d.n)(hn2:d.n<=9223372036854775807):
  Calls Tryz.prog 164 #[.agg #[.int .i64 d.kind, .int .i64 d.n, .int .i64 d.p]] w λe w'=>e=.returned (.bool (d.ok && decide (d.kind∈([2,3]:List Int))))/\Below w.heap.size w w':=by
 have HR:=hid (λW (h:Below w.heap.size w W)=>hr.below h);clear hr;go_enter Tryz.func164,Tryz.ntmps164
 go_wp2_with (go_at_call 171;refine(Tf d _ _ [2,3] _ (HR _ blB) (Ha (by simp[Lj,go_sem])) spz spz hn1 hn2).mono ?_;rintro e w1 ⟨rfl,hb⟩)
 go_ret;exact⟨Ar spz,blB⟩
theorem A05 (d:Stil.Dev)(w:World)(hr:Es w)(hn1:-9223372036854775808<=d.n)(hn2:d.n<=9223372036854775807):
  Calls Tryz.prog 165 #[.agg #[.int .i64 d.kind, .int .i64 d.n, .int .i64 d.p]] w λe w'=>e=.returned (.bool (d.ok && decide (d.kind∈([2,3,4]:List Int))))/\Below w.heap.size w w':=by
 have HR:=hid (λW (h:Below w.heap.size w W)=>hr.below h);clear hr;go_enter Tryz.func165,Tryz.ntmps165
 go_wp2_with (go_at_call 171;refine(Tf d _ _ [2,3,4] _ (HR _ blB) (Ha (by simp[Lj,go_sem])) spz spz hn1 hn2).mono ?_;rintro e w1 ⟨rfl,hb⟩)
 go_ret;exact⟨Ar spz,blB⟩
theorem Avu (d:Stil.Dev)(w:World)(hr:Es w)(hn1:-9223372036854775808<=d.n)(hn2:d.n<=9223372036854775807):
  Calls Tryz.prog 166 #[.agg #[.int .i64 d.kind, .int .i64 d.n, .int .i64 d.p]] w λe w'=>e=.returned (.bool (d.ok && decide (d.kind∈([2,3,4,7,8]:List Int))))/\Below w.heap.size w w':=by
 have HR:=hid (λW (h:Below w.heap.size w W)=>hr.below h);clear hr;go_enter Tryz.func166,Tryz.ntmps166
 go_wp2_with (go_at_call 171;refine(Tf d _ _ [2,3,4,7,8] _ (HR _ blB) (Ha (by simp[Lj,go_sem])) spz spz hn1 hn2).mono ?_;rintro e w1 ⟨rfl,hb⟩)
 go_ret;exact⟨Ar spz,blB⟩
theorem Aqm (d:Stil.Dev)(w:World)(hr:Es w)(hn1:-9223372036854775808<=d.n)(hn2:d.n<=9223372036854775807):
  Calls Tryz.prog 156 #[.agg #[.int .i64 d.kind, .int .i64 d.n, .int .i64 d.p]] w λe w'=>e=.returned (.bool (d.ok && decide (d.kind∈([11]:List Int)) && decide (0<=d.n)))/\Below w.heap.size w w':=by
 have HR:=hid (λW (h:Below w.heap.size w W)=>hr.below h);clear hr;cases h:(d.ok && decide (d.kind∈([11]:List Int)));all_goals
  go_enter Tryz.func156,Tryz.ntmps156
  go_wp2_with (go_at_call 171;refine(Tf d _ _ [11] _ (HR _ blB) (Ha (by simp[Lj,go_sem])) spz spz hn1 hn2).mono ?_;rw[h];rintro e w1 ⟨rfl,hb⟩;obtain⟨hc,hf⟩:=Dq hb)
  all_goals go_ret
  all_goals exact⟨Ar spz,blB⟩
end Go.Proofs.YtbfljjcnbbmoaaaGreatDoor
namespace Go.Proofs.YtbfljjcnbbmoaaaGreatDoor
open Go.RowKit Go.Sort Go.BigFrame
def Ahe:List (List UInt8 × Nat × List Nat × List Nat):=
  [([],0,[],[]),
   ([],159,[160],[]),
   ([47],159,[160],[]),
   ([43],159,[160,161],[]),
   ([45],159,[160,161],[]),
   ([60],162,[153,153],[154,154]),
   ([60,61],162,[153,153],[154,154]),
   ([61],162,[153,153],[154,154]),
   ([60,62],162,[153,153],[154,154]),
   ([62,61],162,[153,153],[154,154]),
   ([62],162,[153,153],[154,154]),
   ([],0,[],[]),
   ([],0,[],[]),
   ([],0,[],[]),
   ([],0,[],[]),
   ([],0,[],[]),
   ([],0,[],[]),
   ([],0,[],[]),
   ([],0,[],[]),
   ([],0,[],[]),
   ([],0,[],[]),
   ([111,117,116],163,[164],[]),
   ([115,101,116],163,[165],[]),
   ([114,101,115,101,116],163,[166],[]),
   ([112,117,108,115,101],163,[164,161],[]),
   ([115,116,101,112],163,[167],[]),
   ([116,105,109,101,114],163,[155,156],[]),
   ([104,111,108,100],163,[155,156],[]),
   ([108,97,116,101],163,[155,156],[]),
   ([99,111,117,110,116],163,[168,156],[]),
   ([109,111,118,101],163,[157,153],[158,154]),
   ([97,100,100],163,[157,153,153],[158,154,154]),
   ([115,117,98],163,[157,153,153],[158,154,154]),
   ([109,117,108],163,[157,153,153],[158,154,154]),
   ([100,105,118],163,[157,153,153],[158,154,154]),
   ([114,101,109],163,[157,153,153],[]),
   ([114,101,97,108],163,[158,153],[]),
   ([119,104,111,108,101],163,[157,154],[])]
def fnv (n:Nat):Value:=if n=0 then .nilFunc else .func (.func n) #[] #[]
def Ol (r:List UInt8 × Nat × List Nat × List Nat):List Value:=
  [.string ⟨r.1.toArray⟩,fnv r.2.1,fnv (r.2.2.1.getD 0 0),fnv (r.2.2.1.getD 1 0),fnv (r.2.2.1.getD 2 0),fnv (r.2.2.2.getD 0 0),fnv (r.2.2.2.getD 1 0),fnv (r.2.2.2.getD 2 0)]
def I8:List Value:=Ahe.flatMap Ol
theorem Aam {P:Program}{g:Nat}{t:TypeId}{vs tgt:List Value}{cur:Array Value}{w:World}{α:Type}(f:Unit->World->Result α)(hvs:vs=tgt)(hg:w.heap[g]?=some (.cells cur t (0,0)))(hl:tgt.length=cur.size)(h1:tgt.all (·.oneCell')=true):
    ((storeCells ⟨g,0,none⟩ vs 0).run P w).andThen f=f () (w.setRow g tgt.toArray):=by
  subst hvs;rw[run_storeCells_from (P:=P) g t vs 0 cur w hg omz (λv hv=>List.all_eq_true.1 h1 v hv)];simp[Result.andThen]
theorem Adv (w:World)(o1 o2 o3 o4:Obj):((((w.alloc o1).alloc o2).alloc o3).alloc o4).heap[w.heap.size]?=some o1:=by
  show((((w.heap.push o1).push o2).push o3).push o4)[w.heap.size]?=_
  simp[Array.getElem?_push];rw[if_neg omz,if_neg omz]
set_option maxHeartbeats 4000000 in
set_option maxRecDepth 100000 in
theorem Azt (w:World):
    Calls Tryz.prog 151 #[] w λe w'=>e=.returned (.agg I8.toArray)/\Below w.heap.size w w':=by
  go_enter Tryz.func151,Tryz.ntmps151
  go_wp2
  rw[Aam (tgt:=I8) (cur:=Tryz.zeroCells194) (t:=194)]
  case hvs=>kernel_rfl
  case hl=>kernel_rfl
  case h1=>kernel_rfl
  case hg=>exact Adv _ _ _ _ _
  obtain⟨W,hW⟩:∃W,W=(((w.alloc (Obj.cells Tryz.zeroCells194 194)).alloc (Obj.cells #[.func (.func 153) #[] #[], .func (.func 153) #[] #[], .nilFunc, .func (.func 154) #[] #[], .func (.func 154) #[] #[], .nilFunc] 189)).alloc (Obj.cells #[.func (.func 155) #[] #[], .func (.func 156) #[] #[], .nilFunc, .nilFunc, .nilFunc, .nilFunc] 189)).alloc (Obj.cells #[.func (.func 157) #[] #[], .func (.func 153) #[] #[], .func (.func 153) #[] #[], .func (.func 158) #[] #[], .func (.func 154) #[] #[], .func (.func 154) #[] #[]] 189):=⟨_,rfl⟩
  have hg:W.heap[w.heap.size]?=some (.cells Tryz.zeroCells194 194 (0,0)):=by rw[hW];exact Adv _ _ _ _ _
  have hb:Below w.heap.size w W:=by rw[hW];(repeat (first | exact Below.refl _ _ | assumption | refine Bq ?_ _ | refine Hg ?_ _ | refine Iw ?_ | refine Ep ?_ _ _ | refine Bz (A4d _) ?_ _ | refine Bd ?_ aqz))
  rw[<-hW];clear hW;have hld:(loadVar 194 ⟨w.heap.size,0,none⟩).run Tryz.prog (W.setRow w.heap.size I8.toArray)=.ok (.agg I8.toArray) (W.setRow w.heap.size I8.toArray):=
    run_loadVar_row _ _ _ 194 _ (0,0) _ (setRow_heap _ _ _ _ _ _ hg) Tryz.underlying194 rfl krz
  have hbs:Below w.heap.size w (W.setRow w.heap.size I8.toArray):=below_setRow hb (A4d _) _;generalize W.setRow w.heap.size I8.toArray=V at hld hbs ⊢;rw[Oper.upon_skip]
  go_wp2
  refine bodyPost_ret (v:=.agg I8.toArray) (by simp[results,Tryz.results151,Act.put,asAddr,hld]) rfl ⟨rfl,hbs⟩
end Go.Proofs.YtbfljjcnbbmoaaaGreatDoor
