import Derived.Test.YtnpfcnolmkanfaaGreatDoorGB
import Derived.Laws.EntriesVeiled
import Derived.Deep.WholeRow
import Derived.Laws.CopyOwn
set_option maxHeartbeats 4000000
set_option maxRecDepth 100000
namespace Go.Proofs.YtnpfcnolmkanfaaGreatDoor
open Tryz
open Stil
open Go.RowKit Go.Sort Go.BigFrame
def Yr (k:Int):Bool:=decide (1<=k) && (decide (k<=4) || k==6 || k==7 || k==8)
def Pi (k:Int):Bool:=k==7 || k==8 || k==9 || k==11
def Tu (k:Int):Bool:=k==10 || k==12 || k==13
def Em (w:World):Prop:=1<w.heap.size/\∀k:Nat,k<14->w.cell? ⟨1,k*5,none⟩=some (.string (P9 k))/\w.cell? ⟨1,k*5+1,none⟩=some (.int .i64 (Ih k))/\w.cell? ⟨1,k*5+2,none⟩=some (.bool (Yr k))/\w.cell? ⟨1,k*5+3,none⟩=some (.bool (Pi k))/\w.cell? ⟨1,k*5+4,none⟩=some (.bool (Tu k))
theorem Em.below {w w':World}(h:Em w)(i:Below w.heap.size w w'):Em w':=by
 obtain⟨f,h⟩:=h;obtain⟨g,_⟩:=D7 i;refine⟨A51 f i.size,λk j=>?_⟩;obtain⟨a,b,c,d,e⟩:=h k j;exact⟨by rw[g _ _ f];exact a,by rw[g _ _ f];exact b,by rw[g _ _ f];exact c,by rw[g _ _ f];exact d,by rw[g _ _ f];exact e⟩
theorem Yb (k:Int)(w:World)(hr:Em w):
  Calls prog 150 #[.int .i64 k] w λe n=>e=.returned (.agg #[.string (P9 k), .int .i64 (Ih k), .bool (Yr k), .bool (Pi k), .bool (Tu k)])/\Below w.heap.size w n:=by
 by_cases h:0<=k/\k<14
 ·obtain⟨m,rfl⟩:=A7i h.1
  have l:m<14:=omz
  obtain⟨q,hr⟩:=hr;obtain⟨a,b,c,d,e⟩:=hr m l;clear h hr;go_enter func150,ntmps150
  go_wp2
  refine bodyPost_ret (v:=.agg #[.string (P9 m), .int .i64 (Ih m), .bool (Yr m), .bool (Pi m), .bool (Tu m)]) (by simp[results,results150,go_sem]) rfl ⟨rfl,?_⟩
  (repeat (first | exact Below.refl _ _ | assumption | refine Cc ?_ _ | refine Je ?_ _ | refine L6 ?_ | refine Hw ?_ _ _ | refine Di (A57 _) ?_ _ | refine Du ?_ aqz))
 ·have hd:P9 k=⟨#[]⟩/\Ih k=0/\Yr k=false/\Pi k=false/\Tu k=false:=by
   unfold P9 Ih Yr Pi Tu;refine⟨by rw[if_neg omz],by rw[if_neg omz,if_neg omz,if_neg omz,if_neg omz],?_,?_,?_⟩
   ·simp only[Bool.and_eq_false_iff,Bool.or_eq_false_iff,A7o,A64];omega
   ·simp only[Bool.or_eq_false_iff,A64];omega
   ·simp only[Bool.or_eq_false_iff,A64];omega
  have f:=hid hd;clear hd hr;go_enter func150,ntmps150
  go_wp2
  all_goals (obtain⟨q1,g,j,o,i⟩:=f.out)
  all_goals refine bodyPost_ret (v:=.agg #[.string ⟨#[]⟩, .int .i64 0, .bool false, .bool false, .bool false]) (by simp[results,results150,go_sem]) rfl ⟨by rw[q1,g,j,o,i],?_⟩
  all_goals (repeat (first | exact Below.refl _ _ | assumption | refine Cc ?_ _ | refine Je ?_ _ | refine L6 ?_ | refine Hw ?_ _ _ | refine Di (A57 _) ?_ _ | refine Du ?_ aqz))
theorem Azo (a:ByteArray)(b:Int)(c d e:Bool)(w:World):(Instr.field 179 (.agg #[.string a, .int .i64 b, .bool c, .bool d, .bool e]) 1).run prog w=.ok (.int .i64 b) w:=krz
theorem Azn (a:ByteArray)(b:Int)(c d e:Bool)(w:World):(Instr.field 179 (.agg #[.string a, .int .i64 b, .bool c, .bool d, .bool e]) 2).run prog w=.ok (.bool c) w:=krz
theorem Azm (a:ByteArray)(b:Int)(c d e:Bool)(w:World):(Instr.field 179 (.agg #[.string a, .int .i64 b, .bool c, .bool d, .bool e]) 3).run prog w=.ok (.bool d) w:=krz
theorem Azl (a:ByteArray)(b:Int)(c d e:Bool)(w:World):(Instr.field 179 (.agg #[.string a, .int .i64 b, .bool c, .bool d, .bool e]) 4).run prog w=.ok (.bool e) w:=krz
theorem Aar (k:Int)(w:World)(hr:Em w):
  Calls prog 154 #[.int .i64 k] w λe a=>e=.returned (.int .i64 (Ih k))/\Below w.heap.size w a:=by
 have b:=Azo;go_enter func154,ntmps154
 go_wp2_with (go_at_call 150;refine(Yb _ _ hr).mono ?_;rintro e d ⟨rfl,c⟩)
 go_ret;exact⟨rfl,blB⟩
theorem Asb (n p:Int)(w:World)(b:-9223372036854775808<=n)(c:n<=9223372036854775807):
  Calls prog 153 #[.int .i64 n, .int .i64 p] w λe a=>e=.returned (.bool (Hg 12 n p))/\a=w:=by
 go_enter func153,ntmps153
 go_wp2
 all_goals go_ret
 all_goals (refine⟨Ap ?_,rfl⟩)
 all_goals go_light
 all_goals try simp only[A8h,A64,bne_iff_ne,bne_eq_false_iff_eq] at*
 all_goals (rw[A7e];simp[Hg, *];try omega)
theorem Aik (k n p:Int)(w:World)(hr:Em w)(r:-9223372036854775808<=n)(m:n<=9223372036854775807):
  Calls prog 149 #[.agg #[.int .i64 k, .int .i64 n, .int .i64 p]] w λe q=>e=.returned (.bool (Hg k n p))/\Below w.heap.size w q:=by
 have c:=hid (λW (h:Below w.heap.size w W)=>hr.below h);clear hr;have g:(w.alloc (Obj.cells #[.int .i64 k, .int .i64 n, .int .i64 p] 92)).cell? ⟨w.heap.size,0,none⟩=some (.int .i64 k):=by simp[go_sem]
 have j:(w.alloc (Obj.cells #[.int .i64 k, .int .i64 n, .int .i64 p] 92)).cell? ⟨w.heap.size,1,none⟩=some (.int .i64 n):=by simp[go_sem]
 have f:(w.alloc (Obj.cells #[.int .i64 k, .int .i64 n, .int .i64 p] 92)).cell? ⟨w.heap.size,2,none⟩=some (.int .i64 p):=by simp[go_sem]
 have y:=cell_regrown g;have s:=cell_regrown j;have u:=cell_regrown f;clear g j f;go_enter func149,ntmps149
 go_wp2_with (go_at_call 153;refine(Asb _ _ _ r m).mono ?_;rintro e x ⟨rfl,rfl⟩)
 rotate_right 1
 focus
  by_cases i:p=0
  ·subst i
   by_cases l:0<=n
   ·by_cases o:n<Ih k
    ·refine wp_region_quiet_below krz krz ?_
     repeat (go_big_quiet_step ((exact Calls.regrown_of (Aar _ _ (c _ blB)))))
     refine wpQuiet_nil ?_;intro _ b;obtain⟨⟨d,osq⟩,a⟩:=b;subst a
     go_wp2
     go_ret;refine⟨Ap ?_,blB⟩;go_light;simp only[A64] at*
     (rw[A7e];simp[Hg, *];try omega)
    ·have z:decide (n<Ih k)=false:=by simpa using o
     refine wp_region_quiet_below krz krz ?_;repeat (go_big_quiet_step ((exact Calls.regrown_of (Aar _ _ (c _ blB)))))
     refine wpQuiet_nil ?_;intro _ b;obtain⟨⟨d,osq⟩,a⟩:=b;subst a
     go_wp2
     go_ret;refine⟨Ap ?_,blB⟩;go_light;simp only[A64] at*
     (rw[A7e];simp[Hg, *];try omega)
   ·have v:decide (0<=n)=false:=by simpa using l
    refine wp_region_quiet_below krz krz ?_;repeat (go_big_quiet_step ((exact Calls.regrown_of (Aar _ _ (c _ blB)))))
    refine wpQuiet_nil ?_;intro _ b;obtain⟨⟨d,osq⟩,a⟩:=b;subst a
    go_wp2
    go_ret;refine⟨Ap ?_,blB⟩;go_light;simp only[A64] at*
    (rw[A7e];simp[Hg, *];try omega)
  ·have t:(p==0)=false:=by simpa using i
   refine wp_region_quiet_below krz krz ?_;repeat (go_big_quiet_step ((exact Calls.regrown_of (Aar _ _ (c _ blB)))))
   refine wpQuiet_nil ?_;intro _ b;obtain⟨⟨d,osq⟩,a⟩:=b;subst a
   go_wp2
   go_ret;refine⟨Ap ?_,blB⟩;go_light;simp only[A64] at*
   (rw[A7e];simp[Hg, *];try omega)
 all_goals go_ret
 all_goals (refine⟨Ap ?_,blB⟩)
 all_goals go_light
 all_goals try simp only[A8h,A64] at*
 all_goals first | (subst k;rfl) | (rw[A7e];simp[Hg, *];try omega)
theorem Abz {k n p:Int}(h:Hg k n p=true):1<=k/\k<=13:=by
 by_cases b:k=11
 ·omega
 ·by_cases c:k=12
  ·omega
  ·by_cases a:k=13
   ·omega
   ·have:=Ax1 h b c a;omega
theorem Ax2 (k n p:Int):(Hg k n p && Yr k)=Qa k n p:=by
 cases h:Hg k n p
 ·simp[Qa,h]
 ·have a:=Abz h
  rw[Qa,h,A7e];simp[Yr];try omega
theorem Asa (k n p:Int)(w:World)(hr:Em w)(g:-9223372036854775808<=n)(d:n<=9223372036854775807):
  Calls prog 140 #[.agg #[.int .i64 k, .int .i64 n, .int .i64 p]] w λe c=>e=.returned (.bool (Qa k n p))/\Below w.heap.size w c:=by
 have o:=Azn;have a:=hid (λW (h:Below w.heap.size w W)=>hr.below h);have b:=hid (Ax2 k n p);clear hr;cases h:Hg k n p;all_goals
  go_enter func140,ntmps140
  go_wp2_with (first | (go_at_call 149;refine(Aik _ _ _ _ (a _ blB) g d).mono ?_;rw[h];rintro e q ⟨rfl,f⟩;obtain⟨j,l⟩:=D7 f) | (go_at_call 150;refine(Yb _ _ (a _ blB)).mono ?_;rintro e i ⟨rfl,m⟩))
  all_goals go_ret
  all_goals (refine⟨Ap ?_,blB⟩)
  all_goals (rw[<-b.out,h];rfl)
theorem Aof (k n p:Int):(Hg k n p && Pi k)=Ii k n p:=by
 cases h:Hg k n p
 ·simp[Ii,h]
 ·have a:=Abz h
  rw[Ii,h,A7e];simp[Pi];try omega
theorem Ak6 (k n p:Int)(w:World)(hr:Em w)(g:-9223372036854775808<=n)(d:n<=9223372036854775807):
  Calls prog 133 #[.agg #[.int .i64 k, .int .i64 n, .int .i64 p]] w λe c=>e=.returned (.bool (Ii k n p))/\Below w.heap.size w c:=by
 have o:=Azm;have a:=hid (λW (h:Below w.heap.size w W)=>hr.below h);have b:=hid (Aof k n p);clear hr;cases h:Hg k n p;all_goals
  go_enter func133,ntmps133
  go_wp2_with (first | (go_at_call 149;refine(Aik _ _ _ _ (a _ blB) g d).mono ?_;rw[h];rintro e q ⟨rfl,f⟩;obtain⟨j,l⟩:=D7 f) | (go_at_call 150;refine(Yb _ _ (a _ blB)).mono ?_;rintro e i ⟨rfl,m⟩))
  all_goals go_ret
  all_goals (refine⟨Ap ?_,blB⟩)
  all_goals (rw[<-b.out,h];rfl)
theorem Asn (k n p:Int):(Hg k n p && Tu k)=Jh k n p:=by
 cases h:Hg k n p
 ·simp[Jh,h]
 ·have a:=Abz h
  rw[Jh,h,A7e];simp[Tu];try omega
theorem An9 (k n p:Int)(w:World)(hr:Em w)(g:-9223372036854775808<=n)(d:n<=9223372036854775807):
  Calls prog 134 #[.agg #[.int .i64 k, .int .i64 n, .int .i64 p]] w λe c=>e=.returned (.bool (Jh k n p))/\Below w.heap.size w c:=by
 have o:=Azl;have a:=hid (λW (h:Below w.heap.size w W)=>hr.below h);have b:=hid (Asn k n p);clear hr;cases h:Hg k n p;all_goals
  go_enter func134,ntmps134
  go_wp2_with (first | (go_at_call 149;refine(Aik _ _ _ _ (a _ blB) g d).mono ?_;rw[h];rintro e q ⟨rfl,f⟩;obtain⟨j,l⟩:=D7 f) | (go_at_call 150;refine(Yb _ _ (a _ blB)).mono ?_;rintro e i ⟨rfl,m⟩))
  all_goals go_ret
  all_goals (refine⟨Ap ?_,blB⟩)
  all_goals (rw[<-b.out,h];rfl)
def Afi (w:World)(b o:Nat)(l:List Int):Prop:=∀i (h:i<l.length),w.cell? ⟨b,o+i,none⟩=some (.int .i64 l[i])
theorem Aw4 (b cap:Nat)(l:List Int)(v:Int)(w:World)(j:Afi w b 0 l)(hl:l.length<=1000):
  Calls prog 159 #[.slice (some ⟨b,0,none⟩) l.length cap, .int .i64 v] w λe n=>(∃r,e=.returned (.int .i64 r)/\(0<=r↔v∈l))/\n=w:=by
 have m:=hid j;clear j;go_enter func159,ntmps159
 go_wp2
 go_loop [8] (λi=>∃k:Nat,k<=l.length/\i=.int .i64 k/\v∉l.take k) (λi=>l.length - (intOf i).toNat)
 case atStart=>exact⟨0,omz,rfl,spz⟩
 case round=>
  obtain⟨k,s,rfl,g⟩:=hrel;have f:=hid g;clear g;by_cases d:k<l.length
  ·have o:=m k d
   rw[A6b] at o;by_cases a:v=l[k]
   ·have q:(v==l[k])=true:=by simpa using a
    have c:Hid (v∈l):=by show _∈_;rw[a];exact A59 d
    clear a
    go_wp2
    go_ret;exact⟨⟨k,rfl,λ_=>c.out,λ_=>by omega⟩,rfl⟩
   ·have q:(v==l[k])=false:=by simpa using a
    have c:Hid (v∉l.take (k+1)):=by
     show _∉_;rw[A6l d,A6f];rintro(h | h)
     ·exact f h
     ·exact a yBi
    clear a
    go_wp2
    exact⟨⟨k+1,omz,by go_num,c.out⟩,by simp[intOf];omega⟩
  ·have c:Hid (v∉l):=by
    show _∉_
    have:=f.out
    rwa [A6x omz] at this
   go_wp2
   go_ret;exact⟨⟨-1,rfl,λh=>by omega,λh=>absurd h c.out⟩,rfl⟩
theorem Ak0 (b cap:Nat)(l:List Int)(v:Int)(w:World)(a:Afi w b 0 l)(hl:l.length<=1000):
  Calls prog 155 #[.slice (some ⟨b,0,none⟩) l.length cap, .int .i64 v] w λe f=>e=.returned (.bool (decide (v∈l)))/\f=w:=by
 have c:=hid a;clear a;go_enter func155,ntmps155
 go_wp2_with (go_at_call 159;refine(Aw4 b cap l v _ c hl).mono ?_;rintro e g ⟨⟨r,rfl,d⟩,rfl⟩)
 go_ret;exact⟨Ap (by first | rfl | exact decide_eq_decide.2 d),rfl⟩
theorem Ua (d:Stil.Dev)(b cap:Nat)(l:List Int)(w:World)(hr:Em w)(a:Afi w b 0 l)(m:b<w.heap.size)(hl:l.length<=1000)(o:-9223372036854775808<=d.n)(j:d.n<=9223372036854775807):
  Calls prog 151 #[.agg #[.int .i64 d.kind, .int .i64 d.n, .int .i64 d.p], .slice (some ⟨b,0,none⟩) l.length cap] w λe g=>e=.returned (.bool (d.ok && decide (d.kind∈l)))/\Below w.heap.size w g:=by
 have f:=hid (λW (h:Below w.heap.size w W)=>hr.below h);have c:Hid (∀W,Below w.heap.size w W->Afi W b 0 l):=λW h i hi=>by rw[(D7 h).1 _ _ m];exact a i hi
 clear hr a;cases h:d.ok;all_goals
  go_enter func151,ntmps151
  go_wp2_with (first | (go_at_call 149;refine(Aik _ _ _ _ (f _ blB) o j).mono ?_;rw[show Hg d.kind d.n d.p=_ from h];rintro e t ⟨rfl,k⟩;obtain⟨r,s⟩:=D7 k) | (go_at_call 155;refine(Ak0 b cap l _ _ (c _ blB) hl).mono ?_;rintro e q ⟨rfl,rfl⟩))
  all_goals go_ret
  all_goals exact⟨rfl,blB⟩
def Fj (w:World)(b:Nat):Nat->List Int->Prop
 | _,[]=>True
 | o,x::r=>w.cell? ⟨b,o,none⟩=some (.int .i64 x)/\Fj w b (o+1) r
theorem C9 {w:World}{b:Nat}:∀{l:List Int} {o:Nat},Fj w b o l->Afi w b o l
 | [],_,_=>λi hi=>absurd hi spz
 | x::r,o,h=>λi hi=>by
  cases i with
  | zero=>exact h.1
  | succ k=>
   have:=C9 h.2 k (by simpa using hi)
   rw[show o+(k+1)=o+1+k from by omega];simpa using this
theorem A5m (d:Stil.Dev)(w:World)(hr:Em w)(a:-9223372036854775808<=d.n)(f:d.n<=9223372036854775807):
  Calls prog 141 #[.agg #[.int .i64 d.kind, .int .i64 d.n, .int .i64 d.p]] w λe c=>e=.returned (.bool (d.ok && decide (d.kind∈([5]:List Int))))/\Below w.heap.size w c:=by
 have b:=hid (λW (h:Below w.heap.size w W)=>hr.below h);clear hr;go_enter func141,ntmps141
 go_wp2_with (go_at_call 151;refine(Ua d _ _ [5] _ (b _ blB) (C9 (by simp[Fj,go_sem])) spz spz a f).mono ?_;rintro e i ⟨rfl,g⟩)
 go_ret;exact⟨Ap spz,blB⟩
theorem A5k (d:Stil.Dev)(w:World)(hr:Em w)(a:-9223372036854775808<=d.n)(f:d.n<=9223372036854775807):
  Calls prog 147 #[.agg #[.int .i64 d.kind, .int .i64 d.n, .int .i64 d.p]] w λe c=>e=.returned (.bool (d.ok && decide (d.kind∈([4]:List Int))))/\Below w.heap.size w c:=by
 have b:=hid (λW (h:Below w.heap.size w W)=>hr.below h);clear hr;go_enter func147,ntmps147
 go_wp2_with (go_at_call 151;refine(Ua d _ _ [4] _ (b _ blB) (C9 (by simp[Fj,go_sem])) spz spz a f).mono ?_;rintro e i ⟨rfl,g⟩)
 go_ret;exact⟨Ap spz,blB⟩
theorem A5j (d:Stil.Dev)(w:World)(hr:Em w)(a:-9223372036854775808<=d.n)(f:d.n<=9223372036854775807):
  Calls prog 135 #[.agg #[.int .i64 d.kind, .int .i64 d.n, .int .i64 d.p]] w λe c=>e=.returned (.bool (d.ok && decide (d.kind∈([7]:List Int))))/\Below w.heap.size w c:=by
 have b:=hid (λW (h:Below w.heap.size w W)=>hr.below h);clear hr;go_enter func135,ntmps135
 go_wp2_with (go_at_call 151;refine(Ua d _ _ [7] _ (b _ blB) (C9 (by simp[Fj,go_sem])) spz spz a f).mono ?_;rintro e i ⟨rfl,g⟩)
 go_ret;exact⟨Ap spz,blB⟩
theorem A5o (d:Stil.Dev)(w:World)(hr:Em w)(a:-9223372036854775808<=d.n)(f:d.n<=9223372036854775807):
  Calls prog 148 #[.agg #[.int .i64 d.kind, .int .i64 d.n, .int .i64 d.p]] w λe c=>e=.returned (.bool (d.ok && decide (d.kind∈([8]:List Int))))/\Below w.heap.size w c:=by
 have b:=hid (λW (h:Below w.heap.size w W)=>hr.below h);clear hr;go_enter func148,ntmps148
 go_wp2_with (go_at_call 151;refine(Ua d _ _ [8] _ (b _ blB) (C9 (by simp[Fj,go_sem])) spz spz a f).mono ?_;rintro e i ⟨rfl,g⟩)
 go_ret;exact⟨Ap spz,blB⟩
theorem A5n (d:Stil.Dev)(w:World)(hr:Em w)(a:-9223372036854775808<=d.n)(f:d.n<=9223372036854775807):
  Calls prog 137 #[.agg #[.int .i64 d.kind, .int .i64 d.n, .int .i64 d.p]] w λe c=>e=.returned (.bool (d.ok && decide (d.kind∈([9]:List Int))))/\Below w.heap.size w c:=by
 have b:=hid (λW (h:Below w.heap.size w W)=>hr.below h);clear hr;go_enter func137,ntmps137
 go_wp2_with (go_at_call 151;refine(Ua d _ _ [9] _ (b _ blB) (C9 (by simp[Fj,go_sem])) spz spz a f).mono ?_;rintro e i ⟨rfl,g⟩)
 go_ret;exact⟨Ap spz,blB⟩
theorem A5l (d:Stil.Dev)(w:World)(hr:Em w)(a:-9223372036854775808<=d.n)(f:d.n<=9223372036854775807):
  Calls prog 138 #[.agg #[.int .i64 d.kind, .int .i64 d.n, .int .i64 d.p]] w λe c=>e=.returned (.bool (d.ok && decide (d.kind∈([10]:List Int))))/\Below w.heap.size w c:=by
 have b:=hid (λW (h:Below w.heap.size w W)=>hr.below h);clear hr;go_enter func138,ntmps138
 go_wp2_with (go_at_call 151;refine(Ua d _ _ [10] _ (b _ blB) (C9 (by simp[Fj,go_sem])) spz spz a f).mono ?_;rintro e i ⟨rfl,g⟩)
 go_ret;exact⟨Ap spz,blB⟩
theorem A4x (d:Stil.Dev)(w:World)(hr:Em w)(a:-9223372036854775808<=d.n)(f:d.n<=9223372036854775807):
  Calls prog 144 #[.agg #[.int .i64 d.kind, .int .i64 d.n, .int .i64 d.p]] w λe c=>e=.returned (.bool (d.ok && decide (d.kind∈([2,3]:List Int))))/\Below w.heap.size w c:=by
 have b:=hid (λW (h:Below w.heap.size w W)=>hr.below h);clear hr;go_enter func144,ntmps144
 go_wp2_with (go_at_call 151;refine(Ua d _ _ [2,3] _ (b _ blB) (C9 (by simp[Fj,go_sem])) spz spz a f).mono ?_;rintro e i ⟨rfl,g⟩)
 go_ret;exact⟨Ap spz,blB⟩
theorem A25 (d:Stil.Dev)(w:World)(hr:Em w)(a:-9223372036854775808<=d.n)(f:d.n<=9223372036854775807):
  Calls prog 145 #[.agg #[.int .i64 d.kind, .int .i64 d.n, .int .i64 d.p]] w λe c=>e=.returned (.bool (d.ok && decide (d.kind∈([2,3,4]:List Int))))/\Below w.heap.size w c:=by
 have b:=hid (λW (h:Below w.heap.size w W)=>hr.below h);clear hr;go_enter func145,ntmps145
 go_wp2_with (go_at_call 151;refine(Ua d _ _ [2,3,4] _ (b _ blB) (C9 (by simp[Fj,go_sem])) spz spz a f).mono ?_;rintro e i ⟨rfl,g⟩)
 go_ret;exact⟨Ap spz,blB⟩
theorem Axe (d:Stil.Dev)(w:World)(hr:Em w)(a:-9223372036854775808<=d.n)(f:d.n<=9223372036854775807):
  Calls prog 146 #[.agg #[.int .i64 d.kind, .int .i64 d.n, .int .i64 d.p]] w λe c=>e=.returned (.bool (d.ok && decide (d.kind∈([2,3,4,7,8]:List Int))))/\Below w.heap.size w c:=by
 have b:=hid (λW (h:Below w.heap.size w W)=>hr.below h);clear hr;go_enter func146,ntmps146
 go_wp2_with (go_at_call 151;refine(Ua d _ _ [2,3,4,7,8] _ (b _ blB) (C9 (by simp[Fj,go_sem])) spz spz a f).mono ?_;rintro e i ⟨rfl,g⟩)
 go_ret;exact⟨Ap spz,blB⟩
theorem Ar5 (d:Stil.Dev)(w:World)(hr:Em w)(b:-9223372036854775808<=d.n)(g:d.n<=9223372036854775807):
  Calls prog 136 #[.agg #[.int .i64 d.kind, .int .i64 d.n, .int .i64 d.p]] w λe f=>e=.returned (.bool (d.ok && decide (d.kind∈([11]:List Int)) && decide (0<=d.n)))/\Below w.heap.size w f:=by
 have c:=hid (λW (h:Below w.heap.size w W)=>hr.below h);clear hr;cases h:(d.ok && decide (d.kind∈([11]:List Int)));all_goals
  go_enter func136,ntmps136
  go_wp2_with (go_at_call 151;refine(Ua d _ _ [11] _ (c _ blB) (C9 (by simp[Fj,go_sem])) spz spz b g).mono ?_;rw[h];rintro e j ⟨rfl,a⟩;obtain⟨k,i⟩:=D7 a)
  all_goals go_ret
  all_goals exact⟨Ap spz,blB⟩
def Ais:List (List UInt8 × Nat × List Nat × List Nat):=
  [([],0,[],[]),
   ([],139,[140],[]),
   ([47],139,[140],[]),
   ([43],139,[140,141],[]),
   ([45],139,[140,141],[]),
   ([60],142,[133,133],[134,134]),
   ([60,61],142,[133,133],[134,134]),
   ([61],142,[133,133],[134,134]),
   ([60,62],142,[133,133],[134,134]),
   ([62,61],142,[133,133],[134,134]),
   ([62],142,[133,133],[134,134]),
   ([],0,[],[]),
   ([],0,[],[]),
   ([],0,[],[]),
   ([],0,[],[]),
   ([],0,[],[]),
   ([],0,[],[]),
   ([],0,[],[]),
   ([],0,[],[]),
   ([],0,[],[]),
   ([],0,[],[]),
   ([111,117,116],143,[144],[]),
   ([115,101,116],143,[145],[]),
   ([114,101,115,101,116],143,[146],[]),
   ([112,117,108,115,101],143,[144,141],[]),
   ([115,116,101,112],143,[147],[]),
   ([116,105,109,101,114],143,[135,136],[]),
   ([104,111,108,100],143,[135,136],[]),
   ([108,97,116,101],143,[135,136],[]),
   ([99,111,117,110,116],143,[148,136],[]),
   ([109,111,118,101],143,[137,133],[138,134]),
   ([97,100,100],143,[137,133,133],[138,134,134]),
   ([115,117,98],143,[137,133,133],[138,134,134]),
   ([109,117,108],143,[137,133,133],[138,134,134]),
   ([100,105,118],143,[137,133,133],[138,134,134]),
   ([114,101,109],143,[137,133,133],[]),
   ([114,101,97,108],143,[138,133],[]),
   ([119,104,111,108,101],143,[137,134],[])]
def fnv (n:Nat):Value:=if n=0 then .nilFunc else .func (.func n) #[] #[]
def Pj (r:List UInt8 × Nat × List Nat × List Nat):List Value:=
  [.string ⟨r.1.toArray⟩,fnv r.2.1,fnv (r.2.2.1.getD 0 0),fnv (r.2.2.1.getD 1 0),fnv (r.2.2.1.getD 2 0),fnv (r.2.2.2.getD 0 0),fnv (r.2.2.2.getD 1 0),fnv (r.2.2.2.getD 2 0)]
def Jn:List Value:=Ais.flatMap Pj
theorem Abg {P:Program}{g:Nat}{t:TypeId}{vs tgt:List Value}{cur:Array Value}{w:World}{α:Type}(f:Unit->World->Result α)(hvs:vs=tgt)(hg:w.heap[g]?=some (.cells cur t (0,0)))(hl:tgt.length=cur.size)(h1:tgt.all (·.oneCell')=true):
    ((storeCells ⟨g,0,none⟩ vs 0).run P w).andThen f=f () (w.setRow g tgt.toArray):=by
  subst hvs;rw[run_storeCells_from (P:=P) g t vs 0 cur w hg omz (λv a=>List.all_eq_true.1 h1 v a)];simp[Result.andThen]
theorem Aep (w:World)(a b c d:Obj):((((w.alloc a).alloc b).alloc c).alloc d).heap[w.heap.size]?=some a:=by
  show((((w.heap.push a).push b).push c).push d)[w.heap.size]?=_
  simp[Array.getElem?_push];rw[if_neg omz,if_neg omz]
set_option maxHeartbeats 4000000 in
set_option maxRecDepth 100000 in
theorem A1w (w:World):
    Calls prog 131 #[] w λe f=>e=.returned (.agg Jn.toArray)/\Below w.heap.size w f:=by
  go_enter func131,ntmps131
  go_wp2
  rw[Abg (tgt:=Jn) (cur:=Tryz.zeroCells175) (t:=175)]
  case hvs=>kernel_rfl
  case hl=>kernel_rfl
  case h1=>kernel_rfl
  case hg=>exact Aep _ _ _ _ _
  obtain⟨W,a⟩:∃W,W=(((w.alloc (Obj.cells Tryz.zeroCells175 175)).alloc (Obj.cells #[.func (.func 133) #[] #[], .func (.func 133) #[] #[], .nilFunc, .func (.func 134) #[] #[], .func (.func 134) #[] #[], .nilFunc] 170)).alloc (Obj.cells #[.func (.func 135) #[] #[], .func (.func 136) #[] #[], .nilFunc, .nilFunc, .nilFunc, .nilFunc] 170)).alloc (Obj.cells #[.func (.func 137) #[] #[], .func (.func 133) #[] #[], .func (.func 133) #[] #[], .func (.func 138) #[] #[], .func (.func 134) #[] #[], .func (.func 134) #[] #[]] 170):=⟨_,rfl⟩
  have hg:W.heap[w.heap.size]?=some (.cells Tryz.zeroCells175 175 (0,0)):=by rw[a];exact Aep _ _ _ _ _
  have d:Below w.heap.size w W:=by rw[a];(repeat (first | exact Below.refl _ _ | assumption | refine Cc ?_ _ | refine Je ?_ _ | refine L6 ?_ | refine Hw ?_ _ _ | refine Di (A57 _) ?_ _ | refine Du ?_ aqz))
  rw[<-a];clear a;have b:(loadVar 175 ⟨w.heap.size,0,none⟩).run prog (W.setRow w.heap.size Jn.toArray)=.ok (.agg Jn.toArray) (W.setRow w.heap.size Jn.toArray):=
    run_loadVar_row _ _ _ 175 _ (0,0) _ (setRow_heap _ _ _ _ _ _ hg) underlying175 rfl krz
  have c:Below w.heap.size w (W.setRow w.heap.size Jn.toArray):=below_setRow d (A57 _) _;generalize W.setRow w.heap.size Jn.toArray=V at b c ⊢;rw[Oper.upon_skip]
  go_wp2
  refine bodyPost_ret (v:=.agg Jn.toArray) (by simp[results,results131,Act.put,asAddr,b]) rfl ⟨rfl,c⟩
end Go.Proofs.YtnpfcnolmkanfaaGreatDoor
