import Derived.Test.YtfeablpbkcgdjaaGreatDoorGB
import Derived.Lib.SmallJoins
import Derived.Deep.RegionLaw
import Derived.Deep.DeepCutAuto
set_option linter.defProp false
set_option maxHeartbeats 4000000
set_option maxRecDepth 100000
namespace Go.Proofs.YtfeablpbkcgdjaaGreatDoor
open Tryz Stil Go.RowKit Go.Sort Go.BigFrame
variable {base n size:Nat}{e:TypeId}{v:Value}{w':World}{xs:List Value}
def Yc (k:Int):Bool:=decide (1<=k) && (decide (k<=4) || k==6 || k==7 || k==8)
def O7 (k:Int):Bool:=k==7 || k==8 || k==9 || k==11
def Td (k:Int):Bool:=k==10 || k==12 || k==13
def Ed (w:World):Prop:=2<w.heap.size/\∀k:Nat,k<14->w.cell? ⟨2,k*5,none⟩=some (.string (Po k))/\w.cell? ⟨2,k*5+1,none⟩=some (.int .i64 (H6 k))/\w.cell? ⟨2,k*5+2,none⟩=some (.bool (Yc k))/\w.cell? ⟨2,k*5+3,none⟩=some (.bool (O7 k))/\w.cell? ⟨2,k*5+4,none⟩=some (.bool (Td k))
theorem Ed.below {w:World}(h:Ed w)(i:Below w.heap.size w w'):Ed w':=by
 obtain⟨f,h⟩:=h;obtain⟨g,_⟩:=Ff i;refine⟨B8 f i.size,λk j=>?_⟩;obtain⟨a,b,c,d,e⟩:=h k j;exact⟨by rw[g _ _ f];exact a,by rw[g _ _ f];exact b,by rw[g _ _ f];exact c,by rw[g _ _ f];exact d,by rw[g _ _ f];exact e⟩
theorem Xw (k:Int)(w:World)(hr:Ed w):
  Calls prog 200 #[.int .i64 k] w λe w'=>e=.returned (.agg #[.string (Po k), .int .i64 (H6 k), .bool (Yc k), .bool (O7 k), .bool (Td k)])/\Below w.heap.size w w':=by
 by_cases h:0<=k/\k<14
 .obtain⟨m,rfl⟩:=FN h.1
  have i:m<14:=AU
  obtain⟨q,hr⟩:=hr;obtain⟨a,b,c,d,e⟩:=hr m i;clear h hr;go_enter func200,ntmps200
  go_wp2
  refine bodyPost_ret (v:=.agg #[.string (Po m), .int .i64 (H6 m), .bool (Yc m), .bool (O7 m), .bool (Td m)]) (by simp[results,results200,go_sem]) rfl ⟨rfl,?_⟩
  (repeat (first | exact Below.refl _ _ | assumption | refine Ce ?_ _ | refine Ny ?_ _ | refine Rh ?_ | refine H9 ?_ _ _ | refine Uu (B7 _) ?_ _ | refine Au ?_ BA))
 .have hd:Po k=⟨#[]⟩/\H6 k=0/\Yc k=false/\O7 k=false/\Td k=false:=by
   unfold Po H6 Yc O7 Td;refine⟨by rw[if_neg AU],by rw[if_neg AU,if_neg AU,if_neg AU,if_neg AU],?_,?_,?_⟩
   .simp only[Bool.and_eq_false_iff,Bool.or_eq_false_iff,ES,CJ];omega
   .simp only[Bool.or_eq_false_iff,CJ];omega
   .simp only[Bool.or_eq_false_iff,CJ];omega
  have l:=Ab hd;clear hd hr;go_enter func200,ntmps200
  go_wp2
  all_goals (obtain⟨q1,g,f,j,o⟩:=l.out)
  all_goals refine bodyPost_ret (v:=.agg #[.string ⟨#[]⟩, .int .i64 0, .bool false, .bool false, .bool false]) (by simp[results,results200,go_sem]) rfl ⟨by rw[q1,g,f,j,o],?_⟩
  all_goals (repeat (first | exact Below.refl _ _ | assumption | refine Ce ?_ _ | refine Ny ?_ _ | refine Rh ?_ | refine H9 ?_ _ _ | refine Uu (B7 _) ?_ _ | refine Au ?_ BA))
def YS (a:ByteArray)(b:Int)(c d e:Bool)(w:World):(Instr.field 229 (.agg #[.string a, .int .i64 b, .bool c, .bool d, .bool e]) 1).run prog w=.ok (.int .i64 b) w:=AY
def YR (a:ByteArray)(b:Int)(c d e:Bool)(w:World):(Instr.field 229 (.agg #[.string a, .int .i64 b, .bool c, .bool d, .bool e]) 2).run prog w=.ok (.bool c) w:=AY
def YQ (a:ByteArray)(b:Int)(c d e:Bool)(w:World):(Instr.field 229 (.agg #[.string a, .int .i64 b, .bool c, .bool d, .bool e]) 3).run prog w=.ok (.bool d) w:=AY
def yk (a:ByteArray)(b:Int)(c d e:Bool)(w:World):(Instr.field 229 (.agg #[.string a, .int .i64 b, .bool c, .bool d, .bool e]) 4).run prog w=.ok (.bool e) w:=AY
theorem RH (k:Int)(w:World)(hr:Ed w):
  Calls prog 204 #[.int .i64 k] w λe w'=>e=.returned (.int .i64 (H6 k))/\Below w.heap.size w w':=by
 have c:=YS;go_enter func204,ntmps204
 go_wp2_with (go_at_call 200;refine(Xw _ _ hr).mono ?_;rintro e a ⟨rfl,b⟩)
 go_ret;exact⟨rfl,A2⟩
theorem rA (n p:Int)(w:World)(b:-9223372036854775808<=n)(a:n<=9223372036854775807):
  Calls prog 203 #[.int .i64 n, .int .i64 p] w λe w'=>e=.returned (.bool (Gz 12 n p))/\w'=w:=by
 go_enter func203,ntmps203
 go_wp2
 all_goals go_ret
 all_goals (refine⟨Ad ?_,rfl⟩)
 all_goals go_light
 all_goals try simp only[D3,CJ,bne_iff_ne,bne_eq_false_iff_eq] at*
 all_goals (rw[Db];simp[Gz, *];try omega)
def zga {p:Prop}(h:p:=by
 refine wp_region_quiet_below AY AY ?_;repeat (go_big_quiet_step ((exact Calls.regrown_of (RH _ _ (HR _ A2)))))
 refine wpQuiet_nil ?_;intro _ hw';obtain⟨⟨dq,osq⟩,hw''⟩:=hw';subst hw''
 go_wp2
 go_ret;refine⟨Ad ?_,A2⟩;go_light;simp only[CJ] at*
 (rw[Db];simp[Gz, *];try omega)):p:=h
theorem VC (k n p:Int)(w:World)(hr:Ed w)(f:-9223372036854775808<=n)(i:n<=9223372036854775807):
  Calls prog 199 #[.agg #[.int .i64 k, .int .i64 n, .int .i64 p]] w λe w'=>e=.returned (.bool (Gz k n p))/\Below w.heap.size w w':=by
 have HR:=Ab (λW (h:Below w.heap.size w W)=>hr.below h);clear hr;have c:(w.alloc (Obj.cells #[.int .i64 k, .int .i64 n, .int .i64 p] 92)).cell? ⟨w.heap.size,0,none⟩=some (.int .i64 k):=by simp[go_sem]
 have d:(w.alloc (Obj.cells #[.int .i64 k, .int .i64 n, .int .i64 p] 92)).cell? ⟨w.heap.size,1,none⟩=some (.int .i64 n):=by simp[go_sem]
 have a:(w.alloc (Obj.cells #[.int .i64 k, .int .i64 n, .int .i64 p] 92)).cell? ⟨w.heap.size,2,none⟩=some (.int .i64 p):=by simp[go_sem]
 have m:=cell_regrown c;have r:=cell_regrown d;have o:=cell_regrown a;clear c d a;go_enter func199,ntmps199
 go_wp2_with (go_at_call 203;refine(rA _ _ _ f i).mono ?_;rintro e q ⟨rfl,rfl⟩)
 rotate_right 1
 focus
  by_cases b:p=0
  .subst b
   by_cases g:0<=n
   .by_cases j:n<H6 k
    .refine wp_region_quiet_below AY AY ?_
     repeat (go_big_quiet_step ((exact Calls.regrown_of (RH _ _ (HR _ A2)))))
     refine wpQuiet_nil ?_;intro _ hw';obtain⟨⟨dq,osq⟩,hw''⟩:=hw';subst hw''
     go_wp2
     go_ret;refine⟨Ad ?_,A2⟩;go_light;simp only[CJ] at*
     (rw[Db];simp[Gz, *];try omega)
    .have t:decide (n<H6 k)=false:=by simpa using j
     exact zga
   .have l:decide (0<=n)=false:=by simpa using g
    exact zga
  .have s:(p==0)=false:=by simpa using b
   exact zga
 all_goals go_ret
 all_goals (refine⟨Ad ?_,A2⟩)
 all_goals go_light
 all_goals try simp only[D3,CJ] at*
 all_goals first | (subst k;rfl) | (rw[Db];simp[Gz, *];try omega)
theorem NG {k n p:Int}(h:Gz k n p=true):1<=k/\k<=13:=by
 by_cases c:k=11
 .omega
 .by_cases a:k=12
  .omega
  .by_cases b:k=13
   .omega
   .have:=xY h c a b;omega
theorem xd (k n p:Int):(Gz k n p && Yc k)=Pq k n p:=by
 cases h:Gz k n p
 .simp[Pq,h]
 .have a:=NG h
  rw[Pq,h,Db];simp[Yc];try omega
def zfa {p:Prop}(h:p:=by
 go_wp2_with (first | (go_at_call 199;refine(VC _ _ _ _ (HR _ A2) hn1 hn2).mono ?_;rw[h];rintro e w1 ⟨rfl,hb⟩;obtain⟨hc,hf⟩:=Ff hb) | (go_at_call 200;refine(Xw _ _ (HR _ A2)).mono ?_;rintro e w2 ⟨rfl,hb2⟩))
 all_goals go_ret
 all_goals (refine⟨Ad ?_,A2⟩)
 all_goals (rw[<-HE.out,h];rfl)):p:=h
theorem qz (k n p:Int)(w:World)(hr:Ed w)(hn1:-9223372036854775808<=n)(hn2:n<=9223372036854775807):
  Calls prog 190 #[.agg #[.int .i64 k, .int .i64 n, .int .i64 p]] w λe w'=>e=.returned (.bool (Pq k n p))/\Below w.heap.size w w':=by
 have a:=YR;have HR:=Ab (λW (h:Below w.heap.size w W)=>hr.below h);have HE:=Ab (xd k n p);clear hr;cases h:Gz k n p;all_goals
  go_enter func190,ntmps190
  exact zfa
theorem nw (k n p:Int):(Gz k n p && O7 k)=H7 k n p:=by
 cases h:Gz k n p
 .simp[H7,h]
 .have a:=NG h
  rw[H7,h,Db];simp[O7];try omega
theorem j7 (k n p:Int)(w:World)(hr:Ed w)(hn1:-9223372036854775808<=n)(hn2:n<=9223372036854775807):
  Calls prog 183 #[.agg #[.int .i64 k, .int .i64 n, .int .i64 p]] w λe w'=>e=.returned (.bool (H7 k n p))/\Below w.heap.size w w':=by
 have a:=YQ;have HR:=Ab (λW (h:Below w.heap.size w W)=>hr.below h);have HE:=Ab (nw k n p);clear hr;cases h:Gz k n p;all_goals
  go_enter func183,ntmps183
  exact zfa
theorem sw (k n p:Int):(Gz k n p && Td k)=Iy k n p:=by
 cases h:Gz k n p
 .simp[Iy,h]
 .have a:=NG h
  rw[Iy,h,Db];simp[Td];try omega
theorem mh (k n p:Int)(w:World)(hr:Ed w)(hn1:-9223372036854775808<=n)(hn2:n<=9223372036854775807):
  Calls prog 184 #[.agg #[.int .i64 k, .int .i64 n, .int .i64 p]] w λe w'=>e=.returned (.bool (Iy k n p))/\Below w.heap.size w w':=by
 have a:=yk;have HR:=Ab (λW (h:Below w.heap.size w W)=>hr.below h);have HE:=Ab (sw k n p);clear hr;cases h:Gz k n p;all_goals
  go_enter func184,ntmps184
  exact zfa
def Im (w:World)(b o:Nat)(l:List Int):Prop:=∀i (h:i<l.length),w.cell? ⟨b,o+i,none⟩=some (.int .i64 l[i])
theorem uf (b cap:Nat)(l:List Int)(v:Int)(w:World)(j:Im w b 0 l)(hl:l.length<=1000):
  Calls prog 209 #[.slice (some ⟨b,0,none⟩) l.length cap, .int .i64 v] w λe w'=>(∃r,e=.returned (.int .i64 r)/\(0<=r↔v∈l))/\w'=w:=by
 have q:=Ab j;clear j;go_enter func209,ntmps209
 go_wp2
 go_loop [8] (λi=>∃k:Nat,k<=l.length/\i=.int .i64 k/\v∉l.take k) (λi=>l.length - (intOf i).toNat)
 case atStart=>exact⟨0,AU,rfl,AW⟩
 case round=>
  obtain⟨k,s,rfl,f⟩:=hrel;have g:=Ab f;clear f;by_cases d:k<l.length
  .have m:=q k d
   rw[Cd] at m;by_cases a:v=l[k]
   .have o:(v==l[k])=true:=by simpa using a
    have c:Hid (v∈l):=by show _∈_;rw[a];exact CG d
    clear a
    go_wp2
    go_ret;exact⟨⟨k,rfl,λ_=>c.out,λ_=>by omega⟩,rfl⟩
   .have o:(v==l[k])=false:=by simpa using a
    have c:Hid (v∉l.take (k+1)):=by
     show _∉_;rw[DO d,Dm];rintro(h | h)
     .exact g h
     .exact a Br
    clear a
    go_wp2
    exact⟨⟨k+1,AU,by go_num,c.out⟩,by simp[intOf];omega⟩
  .have c:Hid (v∉l):=by
    show _∉_
    have:=g.out
    rwa [EC AU] at this
   go_wp2
   go_ret;exact⟨⟨-1,rfl,λh=>by omega,λh=>absurd h c.out⟩,rfl⟩
theorem kh (b cap:Nat)(l:List Int)(v:Int)(w:World)(a:Im w b 0 l)(hl:l.length<=1000):
  Calls prog 205 #[.slice (some ⟨b,0,none⟩) l.length cap, .int .i64 v] w λe w'=>e=.returned (.bool (decide (v∈l)))/\w'=w:=by
 have d:=Ab a;clear a;go_enter func205,ntmps205
 go_wp2_with (go_at_call 209;refine(uf b cap l v _ d hl).mono ?_;rintro e f ⟨⟨r,rfl,c⟩,rfl⟩)
 go_ret;exact⟨Ad (by first | rfl | exact decide_eq_decide.2 c),rfl⟩
theorem Tj (d:Stil.B9)(b cap:Nat)(l:List Int)(w:World)(hr:Ed w)(a:Im w b 0 l)(c:b<w.heap.size)(hl:l.length<=1000)(f:-9223372036854775808<=d.n)(g:d.n<=9223372036854775807):
  Calls prog 201 #[.agg #[.int .i64 d.kind, .int .i64 d.n, .int .i64 d.p], .slice (some ⟨b,0,none⟩) l.length cap] w λe w'=>e=.returned (.bool (d.ok && decide (d.kind∈l)))/\Below w.heap.size w w':=by
 have k:=Ab (λW (h:Below w.heap.size w W)=>hr.below h);have m:Hid (∀W,Below w.heap.size w W->Im W b 0 l):=λW h i hi=>by rw[(Ff h).1 _ _ c];exact a i hi
 clear hr a;cases h:d.ok;all_goals
  go_enter func201,ntmps201
  go_wp2_with (first | (go_at_call 199;refine(VC _ _ _ _ (k _ A2) f g).mono ?_;rw[show Gz d.kind d.n d.p=_ from h];rintro e o ⟨rfl,j⟩;obtain⟨s,q⟩:=Ff j) | (go_at_call 205;refine(kh b cap l _ _ (m _ A2) hl).mono ?_;rintro e r ⟨rfl,rfl⟩))
  all_goals go_ret
  all_goals exact⟨rfl,A2⟩
def F5 (w:World)(b:Nat):Nat->List Int->Prop
 | _,[]=>True
 | o,x::r=>w.cell? ⟨b,o,none⟩=some (.int .i64 x)/\F5 w b (o+1) r
theorem Dh {w:World}{b:Nat}:∀{l:List Int} {o:Nat},F5 w b o l->Im w b o l
 | [],_,_=>λi hi=>absurd hi AW
 | x::r,o,h=>λi hi=>by
  cases i with
  | zero=>exact h.1
  | succ k=>
   have:=Dh h.2 k Bn
   rw[show o+(k+1)=o+1+k from by omega];simpa using this
theorem eJ (d:Stil.B9)(w:World)(hr:Ed w)(a:-9223372036854775808<=d.n)(c:d.n<=9223372036854775807):
  Calls prog 191 #[.agg #[.int .i64 d.kind, .int .i64 d.n, .int .i64 d.p]] w λe w'=>e=.returned (.bool (d.ok && decide (d.kind∈([5]:List Int))))/\Below w.heap.size w w':=by
 have b:=Ab (λW (h:Below w.heap.size w W)=>hr.below h);clear hr;go_enter func191,ntmps191
 go_wp2_with (go_at_call 201;refine(Tj d _ _ [5] _ (b _ A2) (Dh (by simp[F5,go_sem])) AW AW a c).mono ?_;rintro e f ⟨rfl,g⟩)
 go_ret;exact⟨Ad AW,A2⟩
theorem eF (d:Stil.B9)(w:World)(hr:Ed w)(a:-9223372036854775808<=d.n)(c:d.n<=9223372036854775807):
  Calls prog 197 #[.agg #[.int .i64 d.kind, .int .i64 d.n, .int .i64 d.p]] w λe w'=>e=.returned (.bool (d.ok && decide (d.kind∈([4]:List Int))))/\Below w.heap.size w w':=by
 have b:=Ab (λW (h:Below w.heap.size w W)=>hr.below h);clear hr;go_enter func197,ntmps197
 go_wp2_with (go_at_call 201;refine(Tj d _ _ [4] _ (b _ A2) (Dh (by simp[F5,go_sem])) AW AW a c).mono ?_;rintro e f ⟨rfl,g⟩)
 go_ret;exact⟨Ad AW,A2⟩
theorem eE (d:Stil.B9)(w:World)(hr:Ed w)(a:-9223372036854775808<=d.n)(c:d.n<=9223372036854775807):
  Calls prog 185 #[.agg #[.int .i64 d.kind, .int .i64 d.n, .int .i64 d.p]] w λe w'=>e=.returned (.bool (d.ok && decide (d.kind∈([7]:List Int))))/\Below w.heap.size w w':=by
 have b:=Ab (λW (h:Below w.heap.size w W)=>hr.below h);clear hr;go_enter func185,ntmps185
 go_wp2_with (go_at_call 201;refine(Tj d _ _ [7] _ (b _ A2) (Dh (by simp[F5,go_sem])) AW AW a c).mono ?_;rintro e f ⟨rfl,g⟩)
 go_ret;exact⟨Ad AW,A2⟩
theorem eL (d:Stil.B9)(w:World)(hr:Ed w)(a:-9223372036854775808<=d.n)(c:d.n<=9223372036854775807):
  Calls prog 198 #[.agg #[.int .i64 d.kind, .int .i64 d.n, .int .i64 d.p]] w λe w'=>e=.returned (.bool (d.ok && decide (d.kind∈([8]:List Int))))/\Below w.heap.size w w':=by
 have b:=Ab (λW (h:Below w.heap.size w W)=>hr.below h);clear hr;go_enter func198,ntmps198
 go_wp2_with (go_at_call 201;refine(Tj d _ _ [8] _ (b _ A2) (Dh (by simp[F5,go_sem])) AW AW a c).mono ?_;rintro e f ⟨rfl,g⟩)
 go_ret;exact⟨Ad AW,A2⟩
theorem eK (d:Stil.B9)(w:World)(hr:Ed w)(a:-9223372036854775808<=d.n)(c:d.n<=9223372036854775807):
  Calls prog 187 #[.agg #[.int .i64 d.kind, .int .i64 d.n, .int .i64 d.p]] w λe w'=>e=.returned (.bool (d.ok && decide (d.kind∈([9]:List Int))))/\Below w.heap.size w w':=by
 have b:=Ab (λW (h:Below w.heap.size w W)=>hr.below h);clear hr;go_enter func187,ntmps187
 go_wp2_with (go_at_call 201;refine(Tj d _ _ [9] _ (b _ A2) (Dh (by simp[F5,go_sem])) AW AW a c).mono ?_;rintro e f ⟨rfl,g⟩)
 go_ret;exact⟨Ad AW,A2⟩
theorem eI (d:Stil.B9)(w:World)(hr:Ed w)(a:-9223372036854775808<=d.n)(c:d.n<=9223372036854775807):
  Calls prog 188 #[.agg #[.int .i64 d.kind, .int .i64 d.n, .int .i64 d.p]] w λe w'=>e=.returned (.bool (d.ok && decide (d.kind∈([10]:List Int))))/\Below w.heap.size w w':=by
 have b:=Ab (λW (h:Below w.heap.size w W)=>hr.below h);clear hr;go_enter func188,ntmps188
 go_wp2_with (go_at_call 201;refine(Tj d _ _ [10] _ (b _ A2) (Dh (by simp[F5,go_sem])) AW AW a c).mono ?_;rintro e f ⟨rfl,g⟩)
 go_ret;exact⟨Ad AW,A2⟩
theorem eV (d:Stil.B9)(w:World)(hr:Ed w)(a:-9223372036854775808<=d.n)(c:d.n<=9223372036854775807):
  Calls prog 194 #[.agg #[.int .i64 d.kind, .int .i64 d.n, .int .i64 d.p]] w λe w'=>e=.returned (.bool (d.ok && decide (d.kind∈([2,3]:List Int))))/\Below w.heap.size w w':=by
 have b:=Ab (λW (h:Below w.heap.size w W)=>hr.below h);clear hr;go_enter func194,ntmps194
 go_wp2_with (go_at_call 201;refine(Tj d _ _ [2,3] _ (b _ A2) (Dh (by simp[F5,go_sem])) AW AW a c).mono ?_;rintro e f ⟨rfl,g⟩)
 go_ret;exact⟨Ad AW,A2⟩
theorem ct (d:Stil.B9)(w:World)(hr:Ed w)(a:-9223372036854775808<=d.n)(c:d.n<=9223372036854775807):
  Calls prog 195 #[.agg #[.int .i64 d.kind, .int .i64 d.n, .int .i64 d.p]] w λe w'=>e=.returned (.bool (d.ok && decide (d.kind∈([2,3,4]:List Int))))/\Below w.heap.size w w':=by
 have b:=Ab (λW (h:Below w.heap.size w W)=>hr.below h);clear hr;go_enter func195,ntmps195
 go_wp2_with (go_at_call 201;refine(Tj d _ _ [2,3,4] _ (b _ A2) (Dh (by simp[F5,go_sem])) AW AW a c).mono ?_;rintro e f ⟨rfl,g⟩)
 go_ret;exact⟨Ad AW,A2⟩
theorem wA (d:Stil.B9)(w:World)(hr:Ed w)(a:-9223372036854775808<=d.n)(c:d.n<=9223372036854775807):
  Calls prog 196 #[.agg #[.int .i64 d.kind, .int .i64 d.n, .int .i64 d.p]] w λe w'=>e=.returned (.bool (d.ok && decide (d.kind∈([2,3,4,7,8]:List Int))))/\Below w.heap.size w w':=by
 have b:=Ab (λW (h:Below w.heap.size w W)=>hr.below h);clear hr;go_enter func196,ntmps196
 go_wp2_with (go_at_call 201;refine(Tj d _ _ [2,3,4,7,8] _ (b _ A2) (Dh (by simp[F5,go_sem])) AW AW a c).mono ?_;rintro e f ⟨rfl,g⟩)
 go_ret;exact⟨Ad AW,A2⟩
theorem sL (d:Stil.B9)(w:World)(hr:Ed w)(b:-9223372036854775808<=d.n)(f:d.n<=9223372036854775807):
  Calls prog 186 #[.agg #[.int .i64 d.kind, .int .i64 d.n, .int .i64 d.p]] w λe w'=>e=.returned (.bool (d.ok && decide (d.kind∈([11]:List Int)) && decide (0<=d.n)))/\Below w.heap.size w w':=by
 have c:=Ab (λW (h:Below w.heap.size w W)=>hr.below h);clear hr;cases h:(d.ok && decide (d.kind∈([11]:List Int)));all_goals
  go_enter func186,ntmps186
  go_wp2_with (go_at_call 201;refine(Tj d _ _ [11] _ (c _ A2) (Dh (by simp[F5,go_sem])) AW AW b f).mono ?_;rw[h];rintro e g ⟨rfl,a⟩;obtain⟨j,i⟩:=Ff a)
  all_goals go_ret
  all_goals exact⟨Ad AW,A2⟩
def YK:(prog.info? 92).map (λi=>(i.zero,i.size,i.bytes))=some (some (.agg #[.int .i64 0, .int .i64 0, .int .i64 0]),3,24):=AY
def Sl (d:Stil.B9):List Value:=[.int .i64 d.kind, .int .i64 d.n, .int .i64 d.p]
def Bv (ds:List Stil.B9):List Value:=ds.flatMap Sl
def Qb (ds:List Stil.B9):(Bv ds).length=ds.length*3:=by
 induction ds with
 | nil=>rfl
 | cons d r a=>simp[Bv,Sl] at a ⊢;omega
def gp (ds:List Stil.B9)(d:Stil.B9):Bv (ds++[d])=Bv ds++Sl d:=by simp[Bv]
theorem Qm (ds:List Stil.B9):∀(i:Nat) (h:i<ds.length),(Bv ds)[i*3]?=some (.int .i64 ds[i].kind)/\(Bv ds)[i*3+1]?=some (.int .i64 ds[i].n)/\(Bv ds)[i*3+2]?=some (.int .i64 ds[i].p):=by
 induction ds with
 | nil=>intro i h;simp at h
 | cons d r c=>
  intro i h;have e:Bv (d::r)=.int .i64 d.kind::.int .i64 d.n::.int .i64 d.p::Bv r:=rfl;cases i with
  | zero=>rw[e];simp
  | succ i=>
   have a:i<r.length:=by simpa using h
   rw[e];have:=c i a
   have b:(i+1)*3=i*3+3:=AU
   rw[b];simpa using this
def add_plain (g j:Nat):(⟨g,0,none⟩:Addr).add j=⟨g,j,none⟩:=by unfold Addr.add;split<;>simp_all
theorem G7 {w:World}(h:w.ownsRow base e size v n xs)(d:0<n):∃g cap,v=.slice (some ⟨g,0,none⟩) n cap/\base<=g/\g<w.heap.size/\n<=cap/\∀j u,xs[j]?=some u->w.cell? ⟨g,j,none⟩=some u:=by
 have b:=h.2;rcases b with⟨_,f⟩ | ⟨g,cap,cur,hv,c,_,a,_⟩
 .omega
 .refine⟨g,cap,hv,c,(h.lt g yEi).2,a,λj u hu=>?_⟩
  have:=h.cells (g:=g) yEi j u hu
  rwa [add_plain] at this
theorem Ak.of_owns {w:World}{ds:List Stil.B9}(h:w.ownsRow base 92 3 v ds.length (Bv ds)):Ak w v ds:=by
 by_cases hd:ds.length=0
 .have d:=List.length_eq_zero_iff.1 hd
  subst d;rcases h.2 with⟨k,_⟩ | ⟨g,cap,cur,b,_⟩
  .exact⟨none,0,k,λi hi=>by simp at hi⟩
  .exact⟨_,cap,b,λi hi=>by simp at hi⟩
 .obtain⟨g,cap,b,_,f,_,a⟩:=G7 h AU
  refine⟨_,cap,b,λi hi=>⟨g,0,rfl,f,?_⟩⟩;obtain⟨j,c,l⟩:=Qm ds i hi;unfold Iz;rw[Cd];exact⟨a _ _ j,a _ _ c,a _ _ l⟩
theorem ownsRow_below {w:World}(h:w.ownsRow base e size v n xs)(a:Below w.heap.size w w'):w'.ownsRow base e size v n xs:=by
 refine⟨h.1,?_⟩;rcases h.2 with f | ⟨g,cap,cur,hv,c,d,b⟩
 .exact Or.inl f
 .have:=(h.lt g yEi).2
  exact Or.inr ⟨g,cap,cur,hv,c,by rw[a.block g this];exact d,b⟩
theorem Xf (W:World)(cs:List Value)(t:TypeId)(b:Nat)(a:b=W.heap.size):∀j u,cs[j]?=some u->(W.alloc (.cells cs.toArray t)).cell? ((⟨b,0,none⟩:Addr).add j)=some u:=by
 subst a;intro j u c;rw[add_plain,World.cell?_alloc_at _ _ _ _ rfl];simpa using c
theorem gW {P:Program}{ops:Array Oper}{o:Oper}{a:Act}{w:World}{K:Act->World->Prop}{Q:Exit->Act->World->Prop}{E:Prop}
  (hg:o.guard=none) (s x:Operand) (t:TypeId) (B:o.op=.call {callee:=.builtin .append,args:=#[s,x],argTypes:=#[t,t]})
  (base:Nat) (e:TypeId) (i:TypeInfo) (z:Value) (size bytes:Nat) (C:P.underlying t=some (.slice e)) (hi:P.info? e=some i) (G:i.zero=some z)
  (I:i.size=size) (F:i.bytes=bytes) (H:z.cells.size=size) (y:0<size)
  (v:Value) (n:Nat) (xs:List Value) (h:a.eval s=v) (A:w.ownsRow base e size v n xs)
  (d:Addr) (m c:Nat) (news:List Value) (hx:a.eval x=.slice (some d) m c) (hl:news.length=m*size) (r:∀j u,news[j]?=some u->w.cell? (d.add j)=some u) (h1:∀u∈news,u.oneCell'=true)
  (p:n+m<=maxLen) (q:(n+m)*bytes<=140737488355328) (g:base<=w.heap.size)
  (k:∀b w',w'.ownsRow base e size b (n+m) (xs++news)->w.grownBy w' v.ownBlock->K (a.put o.dst b) w'):
  if Region.wanted o (yielded ops a.tmps)=true then Oper.wp P o a w K Q else E:=by
 have D:Region.wanted o (yielded ops a.tmps)=true:=by simp[Region.wanted,hg]
 rw[if_pos D];exact wp_append_own w s x t B base e i z size bytes C hi G I F H y v n xs h A d m c news hx hl r h1 p q g λb w' l f _=>k b w' l f
theorem jO (ds:List Stil.B9):∀u∈Bv ds,u.oneCell'=true:=by
 intro u hu;simp only[Bv,List.mem_flatMap,Sl] at hu;obtain⟨d,_,hd⟩:=hu;simp at hd;rcases hd with rfl | rfl | rfl<;>rfl
theorem cK (d e:Stil.B9):(d=e)↔(d.kind=e.kind/\d.n=e.n/\d.p=e.p):=by
 cases d;cases e;simp
