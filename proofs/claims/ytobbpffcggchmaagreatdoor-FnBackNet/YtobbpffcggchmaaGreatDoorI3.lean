import Derived.Test.YtobbpffcggchmaaGreatDoorGB
import Derived.Laws.EntriesVeiled
import Derived.Deep.WholeRow
import Derived.Laws.CopyOwn
set_option maxHeartbeats 4000000
set_option maxRecDepth 100000
namespace Go.Proofs.YtobbpffcggchmaaGreatDoor
open Tryz
open Stil
open Go.RowKit Go.Sort Go.BigFrame
def Yh (k:Int):Bool:=decide (1<=k) && (decide (k<=4) || k==6 || k==7 || k==8)
def Py (k:Int):Bool:=k==7 || k==8 || k==9 || k==11
def Tv (k:Int):Bool:=k==10 || k==12 || k==13
def Ei (w:World):Prop:=2<w.heap.size/\∀k:Nat,k<14->w.cell? ⟨2,k*5,none⟩=some (.string (Ql k))/\w.cell? ⟨2,k*5+1,none⟩=some (.int .i64 (Ie k))/\w.cell? ⟨2,k*5+2,none⟩=some (.bool (Yh k))/\w.cell? ⟨2,k*5+3,none⟩=some (.bool (Py k))/\w.cell? ⟨2,k*5+4,none⟩=some (.bool (Tv k))
theorem Ei.below {w w':World}(h:Ei w)(i:Below w.heap.size w w'):Ei w':=by
 obtain⟨f,h⟩:=h;obtain⟨g,_⟩:=Eh i;refine⟨A82 f i.size,λk j=>?_⟩;obtain⟨a,b,c,d,e⟩:=h k j;exact⟨by rw[g _ _ f];exact a,by rw[g _ _ f];exact b,by rw[g _ _ f];exact c,by rw[g _ _ f];exact d,by rw[g _ _ f];exact e⟩
theorem X4 (k:Int)(w:World)(hr:Ei w):
  Calls prog 145 #[.int .i64 k] w λe n=>e=.returned (.agg #[.string (Ql k), .int .i64 (Ie k), .bool (Yh k), .bool (Py k), .bool (Tv k)])/\Below w.heap.size w n:=by
 by_cases h:0<=k/\k<14
 ·obtain⟨m,rfl⟩:=Baj h.1
  have j:m<14:=omz
  obtain⟨q,hr⟩:=hr;obtain⟨a,b,c,d,e⟩:=hr m j;clear h hr;go_enter func145,ntmps145
  go_wp2
  refine bodyPost_ret (v:=.agg #[.string (Ql m), .int .i64 (Ie m), .bool (Yh m), .bool (Py m), .bool (Tv m)]) (by simp[results,results145,go_sem]) rfl ⟨rfl,?_⟩
  (repeat (first | exact Below.refl _ _ | assumption | refine Be ?_ _ | refine Jt ?_ _ | refine Nw ?_ | refine Js ?_ _ _ | refine Ep (A88 _) ?_ _ | refine Dj ?_ aqz))
 ·have hd:Ql k=⟨#[]⟩/\Ie k=0/\Yh k=false/\Py k=false/\Tv k=false:=by
   unfold Ql Ie Yh Py Tv;refine⟨by rw[if_neg omz],by rw[if_neg omz,if_neg omz,if_neg omz,if_neg omz],?_,?_,?_⟩
   ·simp only[Bool.and_eq_false_iff,Bool.or_eq_false_iff,Baq,A95];omega
   ·simp only[Bool.or_eq_false_iff,A95];omega
   ·simp only[Bool.or_eq_false_iff,A95];omega
  have g:=hid hd;clear hd hr;go_enter func145,ntmps145
  go_wp2
  all_goals (obtain⟨q1,f,o,i,l⟩:=g.out)
  all_goals refine bodyPost_ret (v:=.agg #[.string ⟨#[]⟩, .int .i64 0, .bool false, .bool false, .bool false]) (by simp[results,results145,go_sem]) rfl ⟨by rw[q1,f,o,i,l],?_⟩
  all_goals (repeat (first | exact Below.refl _ _ | assumption | refine Be ?_ _ | refine Jt ?_ _ | refine Nw ?_ | refine Js ?_ _ _ | refine Ep (A88 _) ?_ _ | refine Dj ?_ aqz))
theorem A1m (a:ByteArray)(b:Int)(c d e:Bool)(w:World):(Instr.field 186 (.agg #[.string a, .int .i64 b, .bool c, .bool d, .bool e]) 1).run prog w=.ok (.int .i64 b) w:=krz
theorem A1l (a:ByteArray)(b:Int)(c d e:Bool)(w:World):(Instr.field 186 (.agg #[.string a, .int .i64 b, .bool c, .bool d, .bool e]) 2).run prog w=.ok (.bool c) w:=krz
theorem A1k (a:ByteArray)(b:Int)(c d e:Bool)(w:World):(Instr.field 186 (.agg #[.string a, .int .i64 b, .bool c, .bool d, .bool e]) 3).run prog w=.ok (.bool d) w:=krz
theorem A1j (a:ByteArray)(b:Int)(c d e:Bool)(w:World):(Instr.field 186 (.agg #[.string a, .int .i64 b, .bool c, .bool d, .bool e]) 4).run prog w=.ok (.bool e) w:=krz
theorem Aah (k:Int)(w:World)(hr:Ei w):
  Calls prog 149 #[.int .i64 k] w λe a=>e=.returned (.int .i64 (Ie k))/\Below w.heap.size w a:=by
 have d:=A1m;go_enter func149,ntmps149
 go_wp2_with (go_at_call 145;refine(X4 _ _ hr).mono ?_;rintro e c ⟨rfl,b⟩)
 go_ret;exact⟨rfl,blB⟩
theorem Atr (n p:Int)(w:World)(b:-9223372036854775808<=n)(c:n<=9223372036854775807):
  Calls prog 148 #[.int .i64 n, .int .i64 p] w λe a=>e=.returned (.bool (Ha 12 n p))/\a=w:=by
 go_enter func148,ntmps148
 go_wp2
 all_goals go_ret
 all_goals (refine⟨Ad ?_,rfl⟩)
 all_goals go_light
 all_goals try simp only[Bbk,A95,bne_iff_ne,bne_eq_false_iff_eq] at*
 all_goals (rw[Baf];simp[Ha, *];try omega)
theorem Ai8 (k n p:Int)(w:World)(hr:Ei w)(l:-9223372036854775808<=n)(o:n<=9223372036854775807):
  Calls prog 144 #[.agg #[.int .i64 k, .int .i64 n, .int .i64 p]] w λe q=>e=.returned (.bool (Ha k n p))/\Below w.heap.size w q:=by
 have c:=hid (λW (h:Below w.heap.size w W)=>hr.below h);clear hr;have i:(w.alloc (Obj.cells #[.int .i64 k, .int .i64 n, .int .i64 p] 34)).cell? ⟨w.heap.size,0,none⟩=some (.int .i64 k):=by simp[go_sem]
 have f:(w.alloc (Obj.cells #[.int .i64 k, .int .i64 n, .int .i64 p] 34)).cell? ⟨w.heap.size,1,none⟩=some (.int .i64 n):=by simp[go_sem]
 have g:(w.alloc (Obj.cells #[.int .i64 k, .int .i64 n, .int .i64 p] 34)).cell? ⟨w.heap.size,2,none⟩=some (.int .i64 p):=by simp[go_sem]
 have z:=cell_regrown i;have s:=cell_regrown f;have y:=cell_regrown g;clear i f g;go_enter func144,ntmps144
 go_wp2_with (go_at_call 148;refine(Atr _ _ _ l o).mono ?_;rintro e x ⟨rfl,rfl⟩)
 rotate_right 1
 focus
  by_cases j:p=0
  ·subst j
   by_cases m:0<=n
   ·by_cases r:n<Ie k
    ·refine wp_region_quiet_below krz krz ?_
     repeat (go_big_quiet_step ((exact Calls.regrown_of (Aah _ _ (c _ blB)))))
     refine wpQuiet_nil ?_;intro _ b;obtain⟨⟨d,osq⟩,a⟩:=b;subst a
     go_wp2
     go_ret;refine⟨Ad ?_,blB⟩;go_light;simp only[A95] at*
     (rw[Baf];simp[Ha, *];try omega)
    ·have v:decide (n<Ie k)=false:=by simpa using r
     refine wp_region_quiet_below krz krz ?_;repeat (go_big_quiet_step ((exact Calls.regrown_of (Aah _ _ (c _ blB)))))
     refine wpQuiet_nil ?_;intro _ b;obtain⟨⟨d,osq⟩,a⟩:=b;subst a
     go_wp2
     go_ret;refine⟨Ad ?_,blB⟩;go_light;simp only[A95] at*
     (rw[Baf];simp[Ha, *];try omega)
   ·have t:decide (0<=n)=false:=by simpa using m
    refine wp_region_quiet_below krz krz ?_;repeat (go_big_quiet_step ((exact Calls.regrown_of (Aah _ _ (c _ blB)))))
    refine wpQuiet_nil ?_;intro _ b;obtain⟨⟨d,osq⟩,a⟩:=b;subst a
    go_wp2
    go_ret;refine⟨Ad ?_,blB⟩;go_light;simp only[A95] at*
    (rw[Baf];simp[Ha, *];try omega)
  ·have u:(p==0)=false:=by simpa using j
   refine wp_region_quiet_below krz krz ?_;repeat (go_big_quiet_step ((exact Calls.regrown_of (Aah _ _ (c _ blB)))))
   refine wpQuiet_nil ?_;intro _ b;obtain⟨⟨d,osq⟩,a⟩:=b;subst a
   go_wp2
   go_ret;refine⟨Ad ?_,blB⟩;go_light;simp only[A95] at*
   (rw[Baf];simp[Ha, *];try omega)
 all_goals go_ret
 all_goals (refine⟨Ad ?_,blB⟩)
 all_goals go_light
 all_goals try simp only[Bbk,A95] at*
 all_goals first | (subst k;rfl) | (rw[Baf];simp[Ha, *];try omega)
theorem Abq {k n p:Int}(h:Ha k n p=true):1<=k/\k<=13:=by
 by_cases a:k=11
 ·omega
 ·by_cases c:k=12
  ·omega
  ·by_cases b:k=13
   ·omega
   ·have:=Azv h a c b;omega
theorem Azw (k n p:Int):(Ha k n p && Yh k)=Qm k n p:=by
 cases h:Ha k n p
 ·simp[Qm,h]
 ·have a:=Abq h
  rw[Qm,h,Baf];simp[Yh];try omega
theorem Atq (k n p:Int)(w:World)(hr:Ei w)(b:-9223372036854775808<=n)(g:n<=9223372036854775807):
  Calls prog 134 #[.agg #[.int .i64 k, .int .i64 n, .int .i64 p]] w λe d=>e=.returned (.bool (Qm k n p))/\Below w.heap.size w d:=by
 have q:=A1l;have a:=hid (λW (h:Below w.heap.size w W)=>hr.below h);have c:=hid (Azw k n p);clear hr;cases h:Ha k n p;all_goals
  go_enter func134,ntmps134
  go_wp2_with (first | (go_at_call 144;refine(Ai8 _ _ _ _ (a _ blB) b g).mono ?_;rw[h];rintro e j ⟨rfl,f⟩;obtain⟨l,i⟩:=Eh f) | (go_at_call 145;refine(X4 _ _ (a _ blB)).mono ?_;rintro e o ⟨rfl,m⟩))
  all_goals go_ret
  all_goals (refine⟨Ad ?_,blB⟩)
  all_goals (rw[<-c.out,h];rfl)
theorem Apb (k n p:Int):(Ha k n p && Py k)=Ig k n p:=by
 cases h:Ha k n p
 ·simp[Ig,h]
 ·have a:=Abq h
  rw[Ig,h,Baf];simp[Py];try omega
theorem Al1 (k n p:Int)(w:World)(hr:Ei w)(b:-9223372036854775808<=n)(g:n<=9223372036854775807):
  Calls prog 127 #[.agg #[.int .i64 k, .int .i64 n, .int .i64 p]] w λe d=>e=.returned (.bool (Ig k n p))/\Below w.heap.size w d:=by
 have q:=A1k;have a:=hid (λW (h:Below w.heap.size w W)=>hr.below h);have c:=hid (Apb k n p);clear hr;cases h:Ha k n p;all_goals
  go_enter func127,ntmps127
  go_wp2_with (first | (go_at_call 144;refine(Ai8 _ _ _ _ (a _ blB) b g).mono ?_;rw[h];rintro e j ⟨rfl,f⟩;obtain⟨l,i⟩:=Eh f) | (go_at_call 145;refine(X4 _ _ (a _ blB)).mono ?_;rintro e o ⟨rfl,m⟩))
  all_goals go_ret
  all_goals (refine⟨Ad ?_,blB⟩)
  all_goals (rw[<-c.out,h];rfl)
theorem Atz (k n p:Int):(Ha k n p && Tv k)=Ji k n p:=by
 cases h:Ha k n p
 ·simp[Ji,h]
 ·have a:=Abq h
  rw[Ji,h,Baf];simp[Tv];try omega
theorem Ao1 (k n p:Int)(w:World)(hr:Ei w)(b:-9223372036854775808<=n)(g:n<=9223372036854775807):
  Calls prog 128 #[.agg #[.int .i64 k, .int .i64 n, .int .i64 p]] w λe d=>e=.returned (.bool (Ji k n p))/\Below w.heap.size w d:=by
 have q:=A1j;have a:=hid (λW (h:Below w.heap.size w W)=>hr.below h);have c:=hid (Atz k n p);clear hr;cases h:Ha k n p;all_goals
  go_enter func128,ntmps128
  go_wp2_with (first | (go_at_call 144;refine(Ai8 _ _ _ _ (a _ blB) b g).mono ?_;rw[h];rintro e j ⟨rfl,f⟩;obtain⟨l,i⟩:=Eh f) | (go_at_call 145;refine(X4 _ _ (a _ blB)).mono ?_;rintro e o ⟨rfl,m⟩))
  all_goals go_ret
  all_goals (refine⟨Ad ?_,blB⟩)
  all_goals (rw[<-c.out,h];rfl)
def Afq (w:World)(b o:Nat)(l:List Int):Prop:=∀i (h:i<l.length),w.cell? ⟨b,o+i,none⟩=some (.int .i64 l[i])
theorem Ayw (b cap:Nat)(l:List Int)(v:Int)(w:World)(g:Afq w b 0 l)(hl:l.length<=1000):
  Calls prog 154 #[.slice (some ⟨b,0,none⟩) l.length cap, .int .i64 v] w λe q=>(∃r,e=.returned (.int .i64 r)/\(0<=r↔v∈l))/\q=w:=by
 have o:=hid g;clear g;go_enter func154,ntmps154
 go_wp2
 go_loop [8] (λi=>∃k:Nat,k<=l.length/\i=.int .i64 k/\v∉l.take k) (λi=>l.length - (intOf i).toNat)
 case atStart=>exact⟨0,omz,rfl,spz⟩
 case round=>
  obtain⟨k,s,rfl,f⟩:=hrel;have j:=hid f;clear f;by_cases d:k<l.length
  ·have n:=o k d
   rw[A9c] at n;by_cases a:v=l[k]
   ·have m:(v==l[k])=true:=by simpa using a
    have c:Hid (v∈l):=by show _∈_;rw[a];exact A9a d
    clear a
    go_wp2
    go_ret;exact⟨⟨k,rfl,λ_=>c.out,λ_=>by omega⟩,rfl⟩
   ·have m:(v==l[k])=false:=by simpa using a
    have c:Hid (v∉l.take (k+1)):=by
     show _∉_;rw[A9m d,A9g];rintro(h | h)
     ·exact j h
     ·exact a yBc
    clear a
    go_wp2
    exact⟨⟨k+1,omz,by go_num,c.out⟩,by simp[intOf];omega⟩
  ·have c:Hid (v∉l):=by
    show _∉_
    have:=j.out
    rwa [A9y omz] at this
   go_wp2
   go_ret;exact⟨⟨-1,rfl,λh=>by omega,λh=>absurd h c.out⟩,rfl⟩
theorem Als (b cap:Nat)(l:List Int)(v:Int)(w:World)(a:Afq w b 0 l)(hl:l.length<=1000):
  Calls prog 150 #[.slice (some ⟨b,0,none⟩) l.length cap, .int .i64 v] w λe d=>e=.returned (.bool (decide (v∈l)))/\d=w:=by
 have f:=hid a;clear a;go_enter func150,ntmps150
 go_wp2_with (go_at_call 154;refine(Ayw b cap l v _ f hl).mono ?_;rintro e g ⟨⟨r,rfl,c⟩,rfl⟩)
 go_ret;exact⟨Ad (by first | rfl | exact decide_eq_decide.2 c),rfl⟩
theorem Ua (d:Stil.Dev)(b cap:Nat)(l:List Int)(w:World)(hr:Ei w)(a:Afq w b 0 l)(k:b<w.heap.size)(hl:l.length<=1000)(f:-9223372036854775808<=d.n)(m:d.n<=9223372036854775807):
  Calls prog 146 #[.agg #[.int .i64 d.kind, .int .i64 d.n, .int .i64 d.p], .slice (some ⟨b,0,none⟩) l.length cap] w λe j=>e=.returned (.bool (d.ok && decide (d.kind∈l)))/\Below w.heap.size w j:=by
 have o:=hid (λW (h:Below w.heap.size w W)=>hr.below h);have g:Hid (∀W,Below w.heap.size w W->Afq W b 0 l):=λW h i hi=>by rw[(Eh h).1 _ _ k];exact a i hi
 clear hr a;cases h:d.ok;all_goals
  go_enter func146,ntmps146
  go_wp2_with (first | (go_at_call 144;refine(Ai8 _ _ _ _ (o _ blB) f m).mono ?_;rw[show Ha d.kind d.n d.p=_ from h];rintro e r ⟨rfl,c⟩;obtain⟨s,q⟩:=Eh c) | (go_at_call 150;refine(Als b cap l _ _ (g _ blB) hl).mono ?_;rintro e t ⟨rfl,rfl⟩))
  all_goals go_ret
  all_goals exact⟨rfl,blB⟩
def F6 (w:World)(b:Nat):Nat->List Int->Prop
 | _,[]=>True
 | o,x::r=>w.cell? ⟨b,o,none⟩=some (.int .i64 x)/\F6 w b (o+1) r
theorem Di {w:World}{b:Nat}:∀{l:List Int} {o:Nat},F6 w b o l->Afq w b o l
 | [],_,_=>λi hi=>absurd hi spz
 | x::r,o,h=>λi hi=>by
  cases i with
  | zero=>exact h.1
  | succ k=>
   have:=Di h.2 k (by simpa using hi)
   rw[show o+(k+1)=o+1+k from by omega];simpa using this
theorem A8j (d:Stil.Dev)(w:World)(hr:Ei w)(f:-9223372036854775808<=d.n)(b:d.n<=9223372036854775807):
  Calls prog 135 #[.agg #[.int .i64 d.kind, .int .i64 d.n, .int .i64 d.p]] w λe a=>e=.returned (.bool (d.ok && decide (d.kind∈([5]:List Int))))/\Below w.heap.size w a:=by
 have c:=hid (λW (h:Below w.heap.size w W)=>hr.below h);clear hr;go_enter func135,ntmps135
 go_wp2_with (go_at_call 146;refine(Ua d _ _ [5] _ (c _ blB) (Di (by simp[F6,go_sem])) spz spz f b).mono ?_;rintro e i ⟨rfl,g⟩)
 go_ret;exact⟨Ad spz,blB⟩
theorem A8g (d:Stil.Dev)(w:World)(hr:Ei w)(f:-9223372036854775808<=d.n)(b:d.n<=9223372036854775807):
  Calls prog 141 #[.agg #[.int .i64 d.kind, .int .i64 d.n, .int .i64 d.p]] w λe a=>e=.returned (.bool (d.ok && decide (d.kind∈([4]:List Int))))/\Below w.heap.size w a:=by
 have c:=hid (λW (h:Below w.heap.size w W)=>hr.below h);clear hr;go_enter func141,ntmps141
 go_wp2_with (go_at_call 146;refine(Ua d _ _ [4] _ (c _ blB) (Di (by simp[F6,go_sem])) spz spz f b).mono ?_;rintro e i ⟨rfl,g⟩)
 go_ret;exact⟨Ad spz,blB⟩
theorem A8f (d:Stil.Dev)(w:World)(hr:Ei w)(f:-9223372036854775808<=d.n)(b:d.n<=9223372036854775807):
  Calls prog 129 #[.agg #[.int .i64 d.kind, .int .i64 d.n, .int .i64 d.p]] w λe a=>e=.returned (.bool (d.ok && decide (d.kind∈([7]:List Int))))/\Below w.heap.size w a:=by
 have c:=hid (λW (h:Below w.heap.size w W)=>hr.below h);clear hr;go_enter func129,ntmps129
 go_wp2_with (go_at_call 146;refine(Ua d _ _ [7] _ (c _ blB) (Di (by simp[F6,go_sem])) spz spz f b).mono ?_;rintro e i ⟨rfl,g⟩)
 go_ret;exact⟨Ad spz,blB⟩
theorem A8l (d:Stil.Dev)(w:World)(hr:Ei w)(f:-9223372036854775808<=d.n)(b:d.n<=9223372036854775807):
  Calls prog 142 #[.agg #[.int .i64 d.kind, .int .i64 d.n, .int .i64 d.p]] w λe a=>e=.returned (.bool (d.ok && decide (d.kind∈([8]:List Int))))/\Below w.heap.size w a:=by
 have c:=hid (λW (h:Below w.heap.size w W)=>hr.below h);clear hr;go_enter func142,ntmps142
 go_wp2_with (go_at_call 146;refine(Ua d _ _ [8] _ (c _ blB) (Di (by simp[F6,go_sem])) spz spz f b).mono ?_;rintro e i ⟨rfl,g⟩)
 go_ret;exact⟨Ad spz,blB⟩
theorem A8k (d:Stil.Dev)(w:World)(hr:Ei w)(f:-9223372036854775808<=d.n)(b:d.n<=9223372036854775807):
  Calls prog 131 #[.agg #[.int .i64 d.kind, .int .i64 d.n, .int .i64 d.p]] w λe a=>e=.returned (.bool (d.ok && decide (d.kind∈([9]:List Int))))/\Below w.heap.size w a:=by
 have c:=hid (λW (h:Below w.heap.size w W)=>hr.below h);clear hr;go_enter func131,ntmps131
 go_wp2_with (go_at_call 146;refine(Ua d _ _ [9] _ (c _ blB) (Di (by simp[F6,go_sem])) spz spz f b).mono ?_;rintro e i ⟨rfl,g⟩)
 go_ret;exact⟨Ad spz,blB⟩
theorem A8h (d:Stil.Dev)(w:World)(hr:Ei w)(f:-9223372036854775808<=d.n)(b:d.n<=9223372036854775807):
  Calls prog 132 #[.agg #[.int .i64 d.kind, .int .i64 d.n, .int .i64 d.p]] w λe a=>e=.returned (.bool (d.ok && decide (d.kind∈([10]:List Int))))/\Below w.heap.size w a:=by
 have c:=hid (λW (h:Below w.heap.size w W)=>hr.below h);clear hr;go_enter func132,ntmps132
 go_wp2_with (go_at_call 146;refine(Ua d _ _ [10] _ (c _ blB) (Di (by simp[F6,go_sem])) spz spz f b).mono ?_;rintro e i ⟨rfl,g⟩)
 go_ret;exact⟨Ad spz,blB⟩
theorem A7f (d:Stil.Dev)(w:World)(hr:Ei w)(f:-9223372036854775808<=d.n)(b:d.n<=9223372036854775807):
  Calls prog 138 #[.agg #[.int .i64 d.kind, .int .i64 d.n, .int .i64 d.p]] w λe a=>e=.returned (.bool (d.ok && decide (d.kind∈([2,3]:List Int))))/\Below w.heap.size w a:=by
 have c:=hid (λW (h:Below w.heap.size w W)=>hr.below h);clear hr;go_enter func138,ntmps138
 go_wp2_with (go_at_call 146;refine(Ua d _ _ [2,3] _ (c _ blB) (Di (by simp[F6,go_sem])) spz spz f b).mono ?_;rintro e i ⟨rfl,g⟩)
 go_ret;exact⟨Ad spz,blB⟩
theorem A5m (d:Stil.Dev)(w:World)(hr:Ei w)(f:-9223372036854775808<=d.n)(b:d.n<=9223372036854775807):
  Calls prog 139 #[.agg #[.int .i64 d.kind, .int .i64 d.n, .int .i64 d.p]] w λe a=>e=.returned (.bool (d.ok && decide (d.kind∈([2,3,4]:List Int))))/\Below w.heap.size w a:=by
 have c:=hid (λW (h:Below w.heap.size w W)=>hr.below h);clear hr;go_enter func139,ntmps139
 go_wp2_with (go_at_call 146;refine(Ua d _ _ [2,3,4] _ (c _ blB) (Di (by simp[F6,go_sem])) spz spz f b).mono ?_;rintro e i ⟨rfl,g⟩)
 go_ret;exact⟨Ad spz,blB⟩
theorem Ay7 (d:Stil.Dev)(w:World)(hr:Ei w)(f:-9223372036854775808<=d.n)(b:d.n<=9223372036854775807):
  Calls prog 140 #[.agg #[.int .i64 d.kind, .int .i64 d.n, .int .i64 d.p]] w λe a=>e=.returned (.bool (d.ok && decide (d.kind∈([2,3,4,7,8]:List Int))))/\Below w.heap.size w a:=by
 have c:=hid (λW (h:Below w.heap.size w W)=>hr.below h);clear hr;go_enter func140,ntmps140
 go_wp2_with (go_at_call 146;refine(Ua d _ _ [2,3,4,7,8] _ (c _ blB) (Di (by simp[F6,go_sem])) spz spz f b).mono ?_;rintro e i ⟨rfl,g⟩)
 go_ret;exact⟨Ad spz,blB⟩
theorem Atn (d:Stil.Dev)(w:World)(hr:Ei w)(g:-9223372036854775808<=d.n)(c:d.n<=9223372036854775807):
  Calls prog 130 #[.agg #[.int .i64 d.kind, .int .i64 d.n, .int .i64 d.p]] w λe a=>e=.returned (.bool (d.ok && decide (d.kind∈([11]:List Int)) && decide (0<=d.n)))/\Below w.heap.size w a:=by
 have f:=hid (λW (h:Below w.heap.size w W)=>hr.below h);clear hr;cases h:(d.ok && decide (d.kind∈([11]:List Int)));all_goals
  go_enter func130,ntmps130
  go_wp2_with (go_at_call 146;refine(Ua d _ _ [11] _ (f _ blB) (Di (by simp[F6,go_sem])) spz spz g c).mono ?_;rw[h];rintro e j ⟨rfl,b⟩;obtain⟨k,i⟩:=Eh b)
  all_goals go_ret
  all_goals exact⟨Ad spz,blB⟩
def Aje:List (List UInt8 × Nat × List Nat × List Nat):=
  [([],0,[],[]),
   ([],133,[134],[]),
   ([47],133,[134],[]),
   ([43],133,[134,135],[]),
   ([45],133,[134,135],[]),
   ([60],136,[127,127],[128,128]),
   ([60,61],136,[127,127],[128,128]),
   ([61],136,[127,127],[128,128]),
   ([60,62],136,[127,127],[128,128]),
   ([62,61],136,[127,127],[128,128]),
   ([62],136,[127,127],[128,128]),
   ([],0,[],[]),
   ([],0,[],[]),
   ([],0,[],[]),
   ([],0,[],[]),
   ([],0,[],[]),
   ([],0,[],[]),
   ([],0,[],[]),
   ([],0,[],[]),
   ([],0,[],[]),
   ([],0,[],[]),
   ([111,117,116],137,[138],[]),
   ([115,101,116],137,[139],[]),
   ([114,101,115,101,116],137,[140],[]),
   ([112,117,108,115,101],137,[138,135],[]),
   ([115,116,101,112],137,[141],[]),
   ([116,105,109,101,114],137,[129,130],[]),
   ([104,111,108,100],137,[129,130],[]),
   ([108,97,116,101],137,[129,130],[]),
   ([99,111,117,110,116],137,[142,130],[]),
   ([109,111,118,101],137,[131,127],[132,128]),
   ([97,100,100],137,[131,127,127],[132,128,128]),
   ([115,117,98],137,[131,127,127],[132,128,128]),
   ([109,117,108],137,[131,127,127],[132,128,128]),
   ([100,105,118],137,[131,127,127],[132,128,128]),
   ([114,101,109],137,[131,127,127],[]),
   ([114,101,97,108],137,[132,127],[]),
   ([119,104,111,108,101],137,[131,128],[])]
def fnv (n:Nat):Value:=if n=0 then .nilFunc else .func (.func n) #[] #[]
def Pz (r:List UInt8 × Nat × List Nat × List Nat):List Value:=
  [.string ⟨r.1.toArray⟩,fnv r.2.1,fnv (r.2.2.1.getD 0 0),fnv (r.2.2.1.getD 1 0),fnv (r.2.2.1.getD 2 0),fnv (r.2.2.2.getD 0 0),fnv (r.2.2.2.getD 1 0),fnv (r.2.2.2.getD 2 0)]
def Jn:List Value:=Aje.flatMap Pz
theorem Aa5 {P:Program}{g:Nat}{t:TypeId}{vs tgt:List Value}{cur:Array Value}{w:World}{α:Type}(f:Unit->World->Result α)(hvs:vs=tgt)(hg:w.heap[g]?=some (.cells cur t (0,0)))(hl:tgt.length=cur.size)(h1:tgt.all (·.oneCell')=true):
    ((storeCells ⟨g,0,none⟩ vs 0).run P w).andThen f=f () (w.setRow g tgt.toArray):=by
  subst hvs;rw[run_storeCells_from (P:=P) g t vs 0 cur w hg omz (λv a=>List.all_eq_true.1 h1 v a)];simp[Result.andThen]
theorem Aey (w:World)(o1 o2 o3 o4:Obj):((((w.alloc o1).alloc o2).alloc o3).alloc o4).heap[w.heap.size]?=some o1:=by
  show((((w.heap.push o1).push o2).push o3).push o4)[w.heap.size]?=_
  simp[Array.getElem?_push];rw[if_neg omz,if_neg omz]
set_option maxHeartbeats 4000000 in
set_option maxRecDepth 100000 in
theorem A38 (w:World):
    Calls prog 124 #[] w λe d=>e=.returned (.agg Jn.toArray)/\Below w.heap.size w d:=by
  go_enter func124,ntmps124
  go_wp2
  rw[Aa5 (tgt:=Jn) (cur:=Tryz.zeroCells181) (t:=181)]
  case hvs=>kernel_rfl
  case hl=>kernel_rfl
  case h1=>kernel_rfl
  case hg=>exact Aey _ _ _ _ _
  obtain⟨W,a⟩:∃W,W=(((w.alloc (Obj.cells Tryz.zeroCells181 181)).alloc (Obj.cells #[.func (.func 127) #[] #[], .func (.func 127) #[] #[], .nilFunc, .func (.func 128) #[] #[], .func (.func 128) #[] #[], .nilFunc] 173)).alloc (Obj.cells #[.func (.func 129) #[] #[], .func (.func 130) #[] #[], .nilFunc, .nilFunc, .nilFunc, .nilFunc] 173)).alloc (Obj.cells #[.func (.func 131) #[] #[], .func (.func 127) #[] #[], .func (.func 127) #[] #[], .func (.func 132) #[] #[], .func (.func 128) #[] #[], .func (.func 128) #[] #[]] 173):=⟨_,rfl⟩
  have hg:W.heap[w.heap.size]?=some (.cells Tryz.zeroCells181 181 (0,0)):=by rw[a];exact Aey _ _ _ _ _
  have f:Below w.heap.size w W:=by rw[a];(repeat (first | exact Below.refl _ _ | assumption | refine Be ?_ _ | refine Jt ?_ _ | refine Nw ?_ | refine Js ?_ _ _ | refine Ep (A88 _) ?_ _ | refine Dj ?_ aqz))
  rw[<-a];clear a;have b:(loadVar 181 ⟨w.heap.size,0,none⟩).run prog (W.setRow w.heap.size Jn.toArray)=.ok (.agg Jn.toArray) (W.setRow w.heap.size Jn.toArray):=
    run_loadVar_row _ _ _ 181 _ (0,0) _ (setRow_heap _ _ _ _ _ _ hg) underlying181 rfl krz
  have c:Below w.heap.size w (W.setRow w.heap.size Jn.toArray):=below_setRow f (A88 _) _;generalize W.setRow w.heap.size Jn.toArray=V at b c ⊢;rw[Oper.upon_skip]
  go_wp2
  refine bodyPost_ret (v:=.agg Jn.toArray) (by simp[results,results124,Act.put,asAddr,b]) rfl ⟨rfl,c⟩
end Go.Proofs.YtobbpffcggchmaaGreatDoor
