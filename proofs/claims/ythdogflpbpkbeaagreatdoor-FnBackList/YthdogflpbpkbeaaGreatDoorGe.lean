import Derived.Test.YthdogflpbpkbeaaGreatDoorHn
set_option linter.defProp false
set_option maxHeartbeats 4000000
set_option maxRecDepth 100000
namespace Go.Proofs.YthdogflpbpkbeaaGreatDoor
open Tryz Go.RowKit Go.Sort Go.BigFrame
def Hr(w:AU):Prop:=1<w.heap.size/\∀k:Nat,k<12->w.cell? (AK 1 k)=some (.string ⟨(Stil.listWords.getD k []).toArray⟩)
def Hr.below{w w':AU}(h:Hr w)(a:AO w w'):Hr w':=
 ⟨DO h.1 a.size,λk b=>by rw[a.cell (p:=(AK 1 k)) h.1];exact h.2 k b⟩
def tf(c:Int)(w:AU)(h:c<0\/12<=c):
  Calls prog 197 #[AB c] w λe w'=>e=.returned (.string ⟨#[]⟩)/\w'=w:=by go_enter func197,ntmps197;go_wp2;all_goals first|(exfalso;omega)|(go_ret;exact⟨rfl,rfl⟩)
def Avs(k:Nat)(w:AU)(b:Hr w)(h:k<12):
  Calls prog 197 #[AB k] w λe w'=>e=.returned (.string ⟨(Stil.listWords.getD k []).toArray⟩)/\w'=w:=by have c:=b.2 k h;obtain⟨s,a⟩:∃s:ByteArray,s=⟨(Stil.listWords.getD k []).toArray⟩:=⟨_,rfl⟩;rw[<-a]at c⊢;clear a b;go_enter func197,ntmps197;go_wp2;go_ret;exact⟨rfl,rfl⟩
section
open Stil
variable {v1 v2 v3 v4 v5:AW}{w':AU}
theorem mw(i:Stil.Ar)(t:AW)(w:AU)(hr:Eh w)(C:Hr w)(x:Aq w t i.O.args)(u:i.fits):
  Calls prog 174 #[.agg #[AB i.code,AB i.O.op,t]] w (AN w (.bool (Jz i))):=by
 obtain⟨c,op,d⟩:=i;simp only at x u⊢;have J:d.length<=1048576:=u.2.2.1;have m:=BZ (λW(r:AO w W)=>XR op t d W (hr.below r) (x.below r) u.2.2.2 BS);have o:=BZ (λW(r:AO w W)=>Z2 op t d W (hr.below r) (x.below r) u.2.2.2 BS);have f:=BZ (λW(r:AO w W)(k:Nat)(K:k<12)=>Avs k W (C.below r) K);have b:Hid (Jz ⟨c,op,d⟩=if c<1\/11<c then false else if c<=3 then Df op d else if c=10 then Gi op d else(op==0 && d.length==0)):=rfl;obtain⟨F,I,rfl,_⟩:=x;have⟨R,A⟩:=AA (Jz ⟨c,op,d⟩);obtain⟨q1,D⟩:∃q,q=Df op d:=⟨_,rfl⟩;obtain⟨G,E⟩:∃q,q=Gi op d:=⟨_,rfl⟩;have⟨v,B⟩:=AA d.length;rw[<-A]at b⊢;rw[<-D]at b m;rw[<-E]at b o;rw[<-B]at b m o J⊢;have g:Hid (∀W,Calls prog 165 #[.agg #[AB op,AE F v I]] W (AN W (.bool (op==0 && v==0)))):=λW=>QH _ _ _ _ _ BS;clear A D E u B hr C;by_cases z:c<0\/11<c
 .have a:Hid (R=false):=by show _=_;rw[b.out,BR BS]
  have M:(c==1)=false:=xAh;have L:(c==2)=false:=xAh;have N:(c==3)=false:=xAh;have O:(c==10)=false:=xAh;have H:Hid (c<0\/12<=c):=by show _\/_;omega
  clear b m o f z;go_enter func174,ntmps174;go_wp2_with(go_at_call 197;refine(tf _ _ H.out).mo ?_;rintro e j⟨rfl,rfl⟩);go_ret;exact⟨Ac a.symm,BV⟩
 have y:c=0\/c=1\/c=2\/c=3\/c=10\/c=4\/c=5\/c=6\/c=7\/c=8\/c=9\/c=11:=by omega
 clear z;rcases y with rfl|rfl|rfl|rfl|rfl|y
 .have a:Hid (R=false):=by show _=_;rw[b.out,BR BS]
  clear b m o g;go_enter func174,ntmps174;go_wp2_with(go_at_call 197;refine(f _ BV 0 BS).mo ?_;rintro e j⟨rfl,rfl⟩;simp only[Stil.listWords,List.getD_cons_zero]);go_ret;exact⟨Ac a.symm,BV⟩
 iterate 3
  .have a:Hid (R=q1):=by show _=_;rw[b.out,BQ BS,BR BS]
   clear b f o g;go_enter func174,ntmps174
   go_wp2_with(go_at_call 191;refine(m _ BV).mo ?_;rintro e j⟨rfl,l⟩)
   go_ret;exact⟨Ac a.symm,BV⟩
 .have a:Hid (R=G):=by show _=_;rw[b.out,BQ BS,BQ BS,BR rfl]
  clear b f m g;go_enter func174,ntmps174;go_wp2_with(go_at_call 168;refine(o _ BV).mo ?_;rintro e j⟨rfl,l⟩);go_ret;exact⟨Ac a.symm,BV⟩
 have a:Hid (R=(op==0 && v==0)):=by show _=_;rw[b.out,BQ BS,BQ BS,BQ BS]
 clear b m o;rcases y with rfl|rfl|rfl|rfl|rfl|rfl|rfl
 .go_enter func174,ntmps174;go_wp2_with(first|(go_at_call 197;refine(f _ BV 4 BS).mo ?_;rintro e j⟨rfl,rfl⟩;simp only[Stil.listWords,List.getD_cons_succ,List.getD_cons_zero])|(go_at_call 165;refine(g _).mo ?_;rintro e s⟨rfl,l⟩));go_ret;exact⟨Ac a.symm,BV⟩
 .go_enter func174,ntmps174;go_wp2_with(first|(go_at_call 197;refine(f _ BV 5 BS).mo ?_;rintro e j⟨rfl,rfl⟩;simp only[Stil.listWords,List.getD_cons_succ,List.getD_cons_zero])|(go_at_call 165;refine(g _).mo ?_;rintro e s⟨rfl,l⟩));go_ret;exact⟨Ac a.symm,BV⟩
 .go_enter func174,ntmps174;go_wp2_with(first|(go_at_call 197;refine(f _ BV 6 BS).mo ?_;rintro e j⟨rfl,rfl⟩;simp only[Stil.listWords,List.getD_cons_succ,List.getD_cons_zero])|(go_at_call 165;refine(g _).mo ?_;rintro e s⟨rfl,l⟩));go_ret;exact⟨Ac a.symm,BV⟩
 .go_enter func174,ntmps174;go_wp2_with(first|(go_at_call 197;refine(f _ BV 7 BS).mo ?_;rintro e j⟨rfl,rfl⟩;simp only[Stil.listWords,List.getD_cons_succ,List.getD_cons_zero])|(go_at_call 165;refine(g _).mo ?_;rintro e s⟨rfl,l⟩));go_ret;exact⟨Ac a.symm,BV⟩
 .go_enter func174,ntmps174;go_wp2_with(first|(go_at_call 197;refine(f _ BV 8 BS).mo ?_;rintro e j⟨rfl,rfl⟩;simp only[Stil.listWords,List.getD_cons_succ,List.getD_cons_zero])|(go_at_call 165;refine(g _).mo ?_;rintro e s⟨rfl,l⟩));go_ret;exact⟨Ac a.symm,BV⟩
 .go_enter func174,ntmps174;go_wp2_with(first|(go_at_call 197;refine(f _ BV 9 BS).mo ?_;rintro e j⟨rfl,rfl⟩;simp only[Stil.listWords,List.getD_cons_succ,List.getD_cons_zero])|(go_at_call 165;refine(g _).mo ?_;rintro e s⟨rfl,l⟩));go_ret;exact⟨Ac a.symm,BV⟩
 go_enter func174,ntmps174;go_wp2_with(first|(go_at_call 197;refine(f _ BV 11 BS).mo ?_;rintro e j⟨rfl,rfl⟩;simp only[Stil.listWords,List.getD_cons_succ,List.getD_cons_zero])|(go_at_call 165;refine(g _).mo ?_;rintro e s⟨rfl,l⟩));go_ret;exact⟨Ac a.symm,BV⟩
theorem pN(b f:Int)(d g:Bool)(i:Stil.Ar)(a:AW)(w:AU)(hr:Eh w)(l:Hr w)(k:Aq w a i.O.args)(j:i.fits):
  Calls prog 134 #[.agg #[AB b,AB f,.bool d,.bool g],.agg #[AB i.code,AB i.O.op,a]] w (AN w (.bool (Stil.rule 0 ⟨b,f,d,g⟩ i))):=by have m:=BZ (λW(c:AO w W)=>mw i a W (hr.below c) (l.below c) (k.below c) j);have o:Hid (Stil.rule 0 ⟨b,f,d,g⟩ i=!Jz i):=rfl;obtain⟨r,s,rfl,_⟩:=k;clear hr l j;go_enter func134,ntmps134;go_wp2_with(go_at_call 174;refine(m _ BV).mo ?_;rintro e p⟨rfl,q⟩);go_ret;exact⟨Ac o.symm,BV⟩
theorem ye(c:Int)(w:AU):
  Calls prog 175 #[AB c] w λe w'=>e=.returned (AB (Stil.needs c))/\w'=w:=by
 have⟨R,a⟩:=AA (Stil.needs c);have b:=BZ a;rw[<-a];clear a;go_enter func175,ntmps175;go_wp2;all_goals go_ret
 all_goals refine⟨Fp ?_,rfl⟩
 all_goals(rw[b.out];go_light;(try simp only[E4,DX] at*);simp[Stil.needs, *];try omega)
theorem pL(b f:Int)(a d:Bool)(i:Stil.Ar)(p:Δ)(n cap:Nat)(w:AU):
  Calls prog 135 #[.agg #[AB b,AB f,.bool a,.bool d],.agg #[AB i.code,AB i.O.op,AE p n cap]] w (AN w (.bool (Stil.rule 1 ⟨b,f,a,d⟩ i))):=by
 obtain⟨c,op,m⟩:=i;simp only;have⟨R,g⟩:=AA (Stil.rule 1 ⟨b,f,a,d⟩ ⟨c,op,m⟩);have l:Hid (R=decide (b<Stil.needs c)):=g;have⟨j,k⟩:=AA (Stil.needs c);have o:Hid (∀W,Calls prog 175 #[AB c] W λe w'=>e=.returned (AB j)/\w'=W):=by rw[k];exact λW=>ye c W
 rw[<-k]at l;rw[<-g];clear g k;cases a<;>cases d
 all_goals (
  go_enter func135,ntmps135
  go_upto_region 1 with fail
  go_region_with(go_at_call 175;refine(o _).mo ?_;rintro e q⟨rfl,rfl⟩)
  all_goals(try go_wp2)
  all_goals go_ret
  all_goals refine⟨Ac ?_,BV⟩
  all_goals (rw[l.out]))
theorem pJ(b f:Int)(a d:Bool)(i:Stil.Ar)(p:Δ)(n cap:Nat)(w:AU):
  Calls prog 136 #[.agg #[AB b,AB f,.bool a,.bool d],.agg #[AB i.code,AB i.O.op,AE p n cap]] w (AN w (.bool (Stil.rule 2 ⟨b,f,a,d⟩ i))):=by
 obtain⟨c,op,j⟩:=i;simp only;have⟨R,g⟩:=AA (Stil.rule 2 ⟨b,f,a,d⟩ ⟨c,op,j⟩);have k:=BZ g;rw[<-g];clear g;cases a<;>cases d
 all_goals (
  go_enter func136,ntmps136
  go_wp2
  all_goals go_ret
  all_goals refine⟨Ac ?_,BV⟩
  all_goals (rw[k.out];go_light;(try simp only[E4,DX] at*);rw[FB];simp[Stil.rule, *];try omega))
theorem pH(b f:Int)(a d:Bool)(i:Stil.Ar)(p:Δ)(n cap:Nat)(w:AU):
  Calls prog 137 #[.agg #[AB b,AB f,.bool a,.bool d],.agg #[AB i.code,AB i.O.op,AE p n cap]] w (AN w (.bool (Stil.rule 3 ⟨b,f,a,d⟩ i))):=by
 obtain⟨c,op,j⟩:=i;simp only;have⟨R,g⟩:=AA (Stil.rule 3 ⟨b,f,a,d⟩ ⟨c,op,j⟩);have k:=BZ g;rw[<-g];clear g;cases a<;>cases d
 all_goals (
  go_enter func137,ntmps137
  go_wp2
  all_goals go_ret
  all_goals refine⟨Ac ?_,BV⟩
  all_goals (rw[k.out];go_light;(try simp only[E4,DX] at*);rw[FB];simp[Stil.rule, *];try omega))
theorem pE(b f:Int)(a d:Bool)(i:Stil.Ar)(p:Δ)(n cap:Nat)(w:AU):
  Calls prog 138 #[.agg #[AB b,AB f,.bool a,.bool d],.agg #[AB i.code,AB i.O.op,AE p n cap]] w (AN w (.bool (Stil.rule 4 ⟨b,f,a,d⟩ i))):=by
 obtain⟨c,op,j⟩:=i;simp only;have⟨R,g⟩:=AA (Stil.rule 4 ⟨b,f,a,d⟩ ⟨c,op,j⟩);have k:=BZ g;rw[<-g];clear g;cases a<;>cases d
 all_goals (
  go_enter func138,ntmps138
  go_wp2
  all_goals go_ret
  all_goals refine⟨Ac ?_,BV⟩
  all_goals (rw[k.out];go_light;(try simp only[E4,DX] at*);rw[FB];simp[Stil.rule, *];try omega))
theorem pD(b f:Int)(a d:Bool)(i:Stil.Ar)(p:Δ)(n cap:Nat)(w:AU):
  Calls prog 139 #[.agg #[AB b,AB f,.bool a,.bool d],.agg #[AB i.code,AB i.O.op,AE p n cap]] w (AN w (.bool (Stil.rule 5 ⟨b,f,a,d⟩ i))):=by
 obtain⟨c,op,j⟩:=i;simp only;have⟨R,g⟩:=AA (Stil.rule 5 ⟨b,f,a,d⟩ ⟨c,op,j⟩);have k:=BZ g;rw[<-g];clear g;cases a<;>cases d
 all_goals (
  go_enter func139,ntmps139
  go_wp2
  all_goals go_ret
  all_goals refine⟨Ac ?_,BV⟩
  all_goals (rw[k.out];go_light;(try simp only[E4,DX] at*);rw[FB];simp[Stil.rule, *];try omega))
theorem pC(b f:Int)(a d:Bool)(i:Stil.Ar)(p:Δ)(n cap:Nat)(w:AU):
  Calls prog 140 #[.agg #[AB b,AB f,.bool a,.bool d],.agg #[AB i.code,AB i.O.op,AE p n cap]] w (AN w (.bool (Stil.rule 6 ⟨b,f,a,d⟩ i))):=by
 obtain⟨c,op,j⟩:=i;simp only;have⟨R,g⟩:=AA (Stil.rule 6 ⟨b,f,a,d⟩ ⟨c,op,j⟩);have k:=BZ g;rw[<-g];clear g;cases a<;>cases d
 all_goals (
  go_enter func140,ntmps140
  go_wp2
  all_goals go_ret
  all_goals refine⟨Ac ?_,BV⟩
  all_goals (rw[k.out];go_light;(try simp only[E4,DX] at*);rw[FB];simp[Stil.rule, *];try omega))
def B6(w:AU)(b:Nat)(v0 v1 v2 v3 v4 v5:AW):Prop:=b<w.heap.size/\(w.cell? (AK b 0)=some v0/\w.cell? (AK b 1)=some v1/\w.cell? (AK b 2)=some v2/\w.cell? (AK b 3)=some v3/\w.cell? (AK b 4)=some v4/\w.cell? (AK b 5)=some v5)/\∀o,o<6->w.frozen? (AK b o)=false
def B6.below{w:AU}{n b:Nat}{v0:AW}(h:B6 w b v0 v1 v2 v3 v4 v5)(a:Below n w w')(c:b<n):B6 w' b v0 v1 v2 v3 v4 v5:=by obtain⟨m,⟨i,l,e,g,k,d⟩,f⟩:=h;refine⟨DO m a.size,⟨(a.cell (p:=(AK b 0)) c).tr i,(a.cell (p:=(AK b 1)) c).tr l,(a.cell (p:=(AK b 2)) c).tr e,(a.cell (p:=(AK b 3)) c).tr g,(a.cell (p:=(AK b 4)) c).tr k,(a.cell (p:=(AK b 5)) c).tr d⟩,λo j=>(a.frozen (p:=(AK b o)) c).tr (f o j)⟩
def B6.at{w:AU}{b:Nat}{v0:AW}(h:B6 w b v0 v1 v2 v3 v4 v5)(a:AO w w'):B6 w' b v0 v1 v2 v3 v4 v5:=h.below a h.1
def B6.grown{w:AU}{b:Nat}{r:ε}{v0:AW}(h:B6 w b v0 v1 v2 v3 v4 v5)(hg:w.grownBy w' r)(c:r≠some b):B6 w' b v0 v1 v2 v3 v4 v5:=by obtain⟨a,⟨i,l,e,g,k,d⟩,f⟩:=h;exact⟨DO a hg.size,⟨(Gt hg a c).tr i,(Gt hg a c).tr l,(Gt hg a c).tr e,(Gt hg a c).tr g,(Gt hg a c).tr k,(Gt hg a c).tr d⟩,λo j=>(Ns hg a c).tr (f o j)⟩
def B6.setO{w:AU}{b c o:Nat}{v0:AW}(h:B6 w b v0 v1 v2 v3 v4 v5)(a:b≠c)(u:AW):B6 (w.setCell (AK c o) u) b v0 v1 v2 v3 v4 v5:=by obtain⟨m,⟨i,l,e,g,k,d⟩,f⟩:=h;exact⟨DO m (Jl _ _ _),⟨(Ec a).tr i,(Ec a).tr l,(Ec a).tr e,(Ec a).tr g,(Ec a).tr k,(Ec a).tr d⟩,λo j=>K8.tr (f o j)⟩
def B6.set1{w:AU}{b:Nat}{v0:AW}(h:B6 w b v0 v1 v2 v3 v4 v5)(u:AW):B6 (w.setCell (AK b 1) u) b v0 u v2 v3 v4 v5:=by obtain⟨k,⟨e,j,c,d,i,a⟩,f⟩:=h;exact⟨DO k (Jl _ _ _),⟨(Cm BS).tr e,Ff j,(Cm BS).tr c,(Cm BS).tr d,(Cm BS).tr i,(Cm BS).tr a⟩,λo g=>K8.tr (f o g)⟩
def B6.set2{w:AU}{b:Nat}{v0:AW}(h:B6 w b v0 v1 v2 v3 v4 v5)(u:AW):B6 (w.setCell (AK b 2) u) b v0 v1 u v3 v4 v5:=by obtain⟨k,⟨e,j,c,d,i,a⟩,f⟩:=h;exact⟨DO k (Jl _ _ _),⟨(Cm BS).tr e,(Cm BS).tr j,Ff c,(Cm BS).tr d,(Cm BS).tr i,(Cm BS).tr a⟩,λo g=>K8.tr (f o g)⟩
def B6.set3{w:AU}{b:Nat}{v0:AW}(h:B6 w b v0 v1 v2 v3 v4 v5)(u:AW):B6 (w.setCell (AK b 3) u) b v0 v1 v2 u v4 v5:=by obtain⟨k,⟨e,j,c,d,i,a⟩,f⟩:=h;exact⟨DO k (Jl _ _ _),⟨(Cm BS).tr e,(Cm BS).tr j,(Cm BS).tr c,Ff d,(Cm BS).tr i,(Cm BS).tr a⟩,λo g=>K8.tr (f o g)⟩
def B6.set4{w:AU}{b:Nat}{v0:AW}(h:B6 w b v0 v1 v2 v3 v4 v5)(u:AW):B6 (w.setCell (AK b 4) u) b v0 v1 v2 v3 u v5:=by obtain⟨k,⟨e,j,c,d,i,a⟩,f⟩:=h;exact⟨DO k (Jl _ _ _),⟨(Cm BS).tr e,(Cm BS).tr j,(Cm BS).tr c,(Cm BS).tr d,Ff i,(Cm BS).tr a⟩,λo g=>K8.tr (f o g)⟩
def B6.set5{w:AU}{b:Nat}{v0:AW}(h:B6 w b v0 v1 v2 v3 v4 v5)(u:AW):B6 (w.setCell (AK b 5) u) b v0 v1 v2 v3 v4 u:=by obtain⟨k,⟨e,j,c,d,i,a⟩,f⟩:=h;exact⟨DO k (Jl _ _ _),⟨(Cm BS).tr e,(Cm BS).tr j,(Cm BS).tr c,(Cm BS).tr d,(Cm BS).tr i,Ff a⟩,λo g=>K8.tr (f o g)⟩
theorem B6.new(w:AU)(v0 v1 v2 v3 v4 v5:AW)(t:AZ):B6 (w.alloc (.cells #[v0,v1,v2,v3,v4,v5] t)) w.heap.size v0 v1 v2 v3 v4 v5:=by refine⟨BU,⟨?_,?_,?_,?_,?_,?_⟩,λo _=>?_⟩<;>simp[go_sem]
end
open Stil
def g9(s:Stil.Pt)(c:Int)(w:AU)(g:s.good):
  Calls prog 86 #[.agg #[AB s.bits,AB s.forks,.bool s.seen,.bool s.coil],AB c] w (AN w (.agg #[AB (Stil.behind s c).bits,AB (Stil.behind s c).forks,.bool (Stil.behind s c).seen,.bool (Stil.behind s c).coil])):=by
 obtain⟨b,f,a,d⟩:=s;obtain⟨j,A,z,l,_⟩:=g;simp only at j A z l⊢;have o:Hid (∀W,Calls prog 70 #[.agg #[AB b,AB f],AB c] W (AN W (.agg #[AB (Stil.behind ⟨b,f,a,d⟩ c).bits,AB (Stil.behind ⟨b,f,a,d⟩ c).forks]))):=λW=>ZO b f c W BS BS BS BS;have r:Hid ((Stil.behind ⟨b,f,a,d⟩ c).seen=(decide (c≠11) && (a || c==10 || c==7))):=rfl;have q:Hid ((Stil.behind ⟨b,f,a,d⟩ c).coil=(c==10)):=rfl;obtain⟨x,m⟩:∃x:Int,x=(Stil.behind ⟨b,f,a,d⟩ c).bits:=⟨_,rfl⟩;obtain⟨y,k⟩:∃y:Int,y=(Stil.behind ⟨b,f,a,d⟩ c).forks:=⟨_,rfl⟩;rw[<-m,<-k]at o⊢;obtain⟨u,hu⟩:∃u:Bool,u=(Stil.behind ⟨b,f,a,d⟩ c).seen:=⟨_,rfl⟩;obtain⟨v,t⟩:∃v:Bool,v=(Stil.behind ⟨b,f,a,d⟩ c).coil:=⟨_,rfl⟩;rw[<-hu]at r⊢;rw[<-t]at q⊢;clear m k hu t j A z l;cases a
 all_goals (
  go_enter func86,ntmps86
  go_wp2_with (go_at_call 70;refine(o _).mono ?_;rintro e C ⟨rfl,i⟩;have E:w.heap.size<C.heap.size:=DO DF i.size;have⟨B,D⟩:=F7 i))
 all_goals refine BH (by simp[results,results86,go_sem,B];rfl) rfl ⟨?_,BV⟩
 all_goals(rw[r.out,q.out];go_light;(try simp only[E4,DX,bne_iff_ne,bne_eq_false_iff_eq] at*);simp[*])
def JX(k:Nat):Nat:=[134,135,136,137,138,139,140].getD k 0
def Ve(w:AU)(g:Nat):Prop:=g<w.heap.size/\∀k:Nat,k<7->w.cell? (AK g (k*2))=some (AB (k+2:Nat))/\w.cell? (AK g (k*2+1))=some (.func (.func (JX k)) #[] #[])
def Ve.below{w w':AU}{g:Nat}(h:Ve w g)(a:AO w w'):Ve w' g:=
 ⟨DO h.1 a.size,λk b=>⟨(a.cell (p:=(AK g (k*2))) h.1).tr (h.2 k b).1,(a.cell (p:=(AK g (k*2+1))) h.1).tr (h.2 k b).2⟩⟩
def yd(w:AU):Calls prog 85 #[] w λe w'=>∃g,e=.returned (AE (some (AK g 0)) 7 7)/\Ve w' g/\AO w w':=by go_enter func85,ntmps85;go_wp2;go_ret;refine⟨w.z,rfl,⟨BU,λk b=>?_⟩,BV⟩;have a:k=0\/k=1\/k=2\/k=3\/k=4\/k=5\/k=6:=BS;rcases a with rfl|rfl|rfl|rfl|rfl|rfl|rfl;all_goals simp[go_sem,JX]
def sY(w:AU):Calls prog 40 #[.nilIface] w (AN w (.agg #[AB 0,AB 0])):=by go_enter func40,ntmps40;go_wp2;refine BH (v:=.agg #[AB 0,AB 0]) (by simp[results,results40,go_sem]) rfl ⟨rfl,BV⟩
def Avn(c k:Int)(w:AU):Calls prog 40 #[.iface 30 (.agg #[AB c,AB k])] w (AN w (.agg #[AB c,AB k])):=by
 have a:∀(v:AW)(w:AU),(Instr.typeAssert (.iface 30 v) 20 30 false).run prog w=.ok v w:=λ_ _=>by kernel_rfl
 go_enter func40,ntmps40;go_wp2;refine BH (v:=.agg #[AB c,AB k]) (by simp[results,results40,go_sem]) rfl ⟨rfl,BV⟩
def endOf(R:Int × Nat):Ending:=if 0<R.1 then .panicked [{v:=.iface 30 (.agg #[AB R.1,AB R.2]),recovered:=false}] else .returned (.tuple #[])
def Auo(s:Stil.Pt)(x:Stil.Ar)(p:Δ)(cap:Nat)(w:AU)(hr:Eh w)(d:Hr w)(b:Aq w (AE p x.O.args.length cap) x.O.args)(a:x.fits)(k:Nat)(f:k<7):
  Calls prog (JX k) #[.agg #[AB s.bits,AB s.forks,.bool s.seen,.bool s.coil],.agg #[AB x.code,AB x.O.op,AE p x.O.args.length cap]] w (AN w (.bool (Stil.rule k s x))):=by
 have c:k=0\/k=1\/k=2\/k=3\/k=4\/k=5\/k=6:=BS;rcases c with rfl|rfl|rfl|rfl|rfl|rfl|rfl
 .exact pN s.bits s.forks s.seen s.coil x _ w hr d b a
 .exact pL s.bits s.forks s.seen s.coil x _ _ _ w
 .exact pJ s.bits s.forks s.seen s.coil x _ _ _ w
 .exact pH s.bits s.forks s.seen s.coil x _ _ _ w
 .exact pE s.bits s.forks s.seen s.coil x _ _ _ w
 .exact pD s.bits s.forks s.seen s.coil x _ _ _ w
 exact pC s.bits s.forks s.seen s.coil x _ _ _ w
def fD(k:Nat)(b:k<7)(args:δ)(W:AU):Sem.run prog (callFunc (JX k) args) W=.ok (.enter (JX k) args) W:=by
 have a:k=0\/k=1\/k=2\/k=3\/k=4\/k=5\/k=6:=BS;rcases a with rfl|rfl|rfl|rfl|rfl|rfl|rfl
 .exact(show Sem.run prog (callFunc 134 args) W=.ok (.enter 134 args) W by kernel_rfl)
 .exact(show Sem.run prog (callFunc 135 args) W=.ok (.enter 135 args) W by kernel_rfl)
 .exact(show Sem.run prog (callFunc 136 args) W=.ok (.enter 136 args) W by kernel_rfl)
 .exact(show Sem.run prog (callFunc 137 args) W=.ok (.enter 137 args) W by kernel_rfl)
 .exact(show Sem.run prog (callFunc 138 args) W=.ok (.enter 138 args) W by kernel_rfl)
 .exact(show Sem.run prog (callFunc 139 args) W=.ok (.enter 139 args) W by kernel_rfl)
 exact(show Sem.run prog (callFunc 140 args) W=.ok (.enter 140 args) W by kernel_rfl)
def Ve.set{w:AU}{g b o:Nat}(h:Ve w g)(a:g≠b)(v:AW):Ve (w.setCell (AK b o) v) g:=
 ⟨DO h.1 (Jl _ _ _),λk c=>⟨(Ec a).tr (h.2 k c).1,(Ec a).tr (h.2 k c).2⟩⟩
def Az7(l:AP)(v:AW)(w:AU)(hr:Eh w)(hw:Hr w)(al:Eo w v l)(hl:l.length<=1048576)(Y:∀x∈l,x.fits):
  Calls prog 41 #[v] w λe w'=>e=endOf (Az l)/\AO w w':=by
 have HF:=BZ Y;have au:Hid (∀W,AO w W->Eh W/\Hr W):=λW h=>⟨hr.below h,hw.below h⟩;obtain⟨a,cap,rfl,hc⟩:=al;have HC:=BZ hc;have⟨t,D⟩:=AA l.length;have dQ:=BZ D;have E:Hid (Az l=if 1000<t then(1,0) else Gf Stil.pt0 0 l):=by show _=_;rw[D];rfl
 rw[<-D]at hl⊢;have⟨R,hR⟩:=AA (Az l);rw[<-hR]at E⊢;clear hc Y D hR hr hw;by_cases h1:1000<t
 .have f:Hid (R=(1,0)):=by show _=_;rw[E.out,BR h1]
  go_enter func41,ntmps41;go_wp2;exact⟨rfl,by rw[f.out];rfl,BP _ _⟩
 have f:Hid (R=Gf Stil.pt0 0 l):=by show _=_;rw[E.out,BQ h1]
 clear E;go_enter func41,ntmps41;go_wp2_with(go_at_call 85;refine(yd _).mono ?_;rintro e A⟨g,rfl,z,ah⟩);go_loopw [16] (λi wr=>∃(j:Nat)(s:Stil.Pt),j<=t/\i=AB j/\s.good/\R=Gf s j (l.drop j)/\GY wr A.heap.size s/\Ve wr g/\AO w wr) (λi _=>t - (intOf i).toNat);case atStart=>refine⟨0,Stil.pt0,BS,rfl,J2,by rw[f.out];rfl,?_,?_,?_⟩;{refine⟨BU,?_,?_,?_,?_,?_,?_,?_,?_⟩;all_goals simp[go_sem,Stil.pt0]};{exact z.below (Aa _ _)};exact BV
 case round=>
  have aA:g<A.heap.size:=z.1;have I:w.heap.size<=A.heap.size:=ah.size;clear f z ah;obtain⟨j,s,hj,rfl,hg,ae,V,z,m⟩:=hrel;have K:=BZ ae;have y:=BZ hg;have ag:=BZ V;have ad:=BZ z;clear ae hg;by_cases aB:j<t
  .have L:j<l.length:=(by have:=dQ.out;omega);(obtain⟨b,o,rfl,ak,hn⟩:=HC j L;have⟨x0,x1,mM,x2,U⟩:=hn.below m ak;have M:Hid (R=if 0<Stil.wrong s l[j] then(Stil.wrong s l[j],j) else Gf (Stil.next s l[j].code) (j+1) (l.drop (j+1))):=by show _=_;rw[K.out,VU l s j L]);have P:Hid (∀p cap,mM=.slice p l[j].O.args.length cap->∀k,k<7->∀W,AO wr W->Calls prog (JX k) #[.agg #[AB s.bits,AB s.forks,.bool s.seen,.bool s.coil],.agg #[AB l[j].code,AB l[j].O.op,.slice p l[j].O.args.length cap]] W (AN W (.bool (Stil.rule k s l[j])))):=(by intro p cap hk k u W hW;subst hk;have h2:=au W (m.trans (hW.mono m.size));exact Auo s l[j] p cap W h2.1 h2.2 (U.below hW) (HF _ (DY L)) k u);have⟨x,hx⟩:=AA (l[j]);rw[<-hx]at M P x0 x1 U;obtain⟨B,C,rfl,_⟩:=U;have af:=P B C rfl;have ai:=BZ af;clear hx hn K P af V z;obtain⟨c,ax⟩:∃c:AU,c=wr:=⟨wr,rfl⟩;subst ax;go_wp2;go_loopw [23] (λi2 wr=>∃k:Nat,k<=7/\i2=AB k/\(∀q,q<k->Stil.rule q s x=false)/\Below (c.heap.size+1) (c.alloc (.cells #[AB x.code,AB x.O.op,AE B x.O.args.length C] 73)) wr) (λi _=>7 - (intOf i).toNat);case atStart=>exact⟨0,BS,rfl,λq h=>absurd h BS,by simpa using BP _ _⟩
   case round=>(obtain⟨k,hk,rfl,ac,r⟩:=hrel;have S:=BZ ac;have d:AO c wr:=(Aa _ _).trans (r.mono BS);have⟨av,Z,p1,p2,p3,z0,z1,z2,z3⟩:=ag.below d;have hz:c.heap.size<wr.heap.size:=by have:=r.size;simp at this;omega);have c0:wr.cell? (AL c 0)=some (AB x.code):=Bn r;have f0:wr.frozen? (AL c 0)=false:=Bt r;have c1:wr.cell? (AL c 1)=some (AB x.O.op):=Bn r;have f1:wr.frozen? (AL c 1)=false:=Bt r;have c2:wr.cell? (AL c 2)=some (AE B x.O.args.length C):=Bn r;have f2:wr.frozen? (AL c 2)=false:=Bt r;clear ac;by_cases u:k<7;{have⟨az,ab⟩:=ad.below d;have⟨m0,m1⟩:=ab k u;have O:=BZ (ai k u);have⟨F,T⟩:=AA (Stil.rule k s x);rw[<-T]at O;have rF:=BZ T.symm;clear ab T;cases F;{have an:=fD k u;go_wp2_with(refine(O _ (d.trans ((Aa _ _).mono d.size))).mono ?_;rintro e w4⟨rfl,J⟩);(have iY:Hid (∀q,q<k+1->Stil.rule q s x=false):=λq hq=>if h:q=k then by rw[h];exact rF else S q BS);exact⟨⟨k+1,BS,by go_num,iY.out,r.trans (((Aa _ _).trans (J.mono BU)).mono hz)⟩,xAb⟩};have an:=fD k u;have f:Hid (R=((k:Int)+2,j)):=(by have ay:=vr y k u S rF.out;show _=_;rw[M.out,ay,BR BS];simp);go_wp2_with(refine(O _ (d.trans ((Aa _ _).mono d.size))).mono ?_;rintro e w4⟨rfl,J⟩;have v0:w4.cell? (AL wr 0)=some (AB ((k:Int)+2)):=(Bn J));refine⟨rfl,?_,m.trans ((d.trans (((Aa _ _).trans (J.mono BU)).mono d.size)).mono m.size)⟩;rw[f.out];unfold endOf;rw[BR (by show(0:Int)<(k:Int)+2;omega)]};(obtain rfl:k=7:=by omega);have G:Stil.wrong s x=0:=Atx y S.out;have f:Hid (R=Gf (Stil.next s x.code) (j+1) (l.drop (j+1))):=(by show _=_;rw[M.out,G,BQ BS]);have ao:Hid (Stil.next s x.code).good:=Vu y G;have aw:Hid (∀W,Calls prog 86 #[.agg #[AB s.bits,AB s.forks,.bool s.seen,.bool s.coil],AB x.code] W (AN W (.agg #[AB (Stil.next s x.code).bits,AB (Stil.next s x.code).forks,.bool (Stil.next s x.code).seen,.bool (Stil.next s x.code).coil]))):=(by intro W;have:=g9 s x.code W y.out;rwa [Stil.behind_next y.out G]at this);clear G;go_wp2_with(go_at_call 86;refine(aw _).mono ?_;rintro e N⟨rfl,X⟩;have ar:GY N A.heap.size s:=(ag.below d).below X;obtain⟨gq,g0,g1,g2,g3,y0,y1,y2,y3⟩:=ar);have aj:AO w N:=m.trans ((d.trans (X.mono d.size)).mono m.size);have ig:Ve N g:=(ad.below d).below X;have H:g≠A.heap.size:=BS;exact⟨⟨j+1,Stil.next s x.code,BS,by go_num,ao.out,f.out,GY.stored ⟨gq,g0,g1,g2,g3,y0,y1,y2,y3⟩ _,(((ig.set H _).set H _).set H _).set H _,(((aj.setCell I _).setCell I _).setCell I _).setCell I _⟩,xAb⟩
  obtain rfl:j=t:=by omega
  have f:Hid (R=if 0<s.bits then(9,j) else(0,0)):=by show _=_;rw[K.out,WN l s j yDf]
  obtain⟨av,Z,p1,p2,p3,z0,z1,z2,z3⟩:=V;by_cases aa:0<s.bits;{have Q:Hid (R=(9,j)):=(by show _=_;rw[f.out,BR aa]);go_wp2;exact⟨rfl,by rw[Q.out];rfl,m⟩};have Q:Hid (R=(0,0)):=by show _=_;rw[f.out,BQ aa]
  have ap:s=Stil.pt0:=(i7 y.out).2 BS;subst ap;simp only[Stil.pt0]at Z p1 p2 p3;go_wp2;go_end0;exact⟨by rw[Q.out];rfl,m⟩
def OL(w:AU)(b:Nat):Prop:=b<w.heap.size/\(∃u,w.cell? (AK b 0)=some u)/\(∃u,w.cell? (AK b 1)=some u)/\w.frozen? (AK b 0)=false/\w.frozen? (AK b 1)=false
def catch_panicking(p:Nat)(c k:Int)(w:AU)(l:OL w p):
  CallsD prog 39 #[AH p] (.panicking [{v:=.iface 30 (.agg #[AB c,AB k]),recovered:=false}]) w λe n w'=>
   e=.returned (.tuple #[])/\n=.panicking [{v:=.iface 30 (.agg #[AB c,AB k]),recovered:=true}]/\∃a,AO w a/\w'=(a.setCell (AK p 0) (AB c)).setCell (AK p 1) (AB k):=by obtain⟨d,⟨r,j⟩,⟨s,f⟩,q,m⟩:=l;refine callsD_of_wpS func39 rfl λu t hu=>?_;apply wpS_region;simp[wpOpsS,go_sem,recoverD,hu,ntmps39];refine(Avn c k _).mo ?_;rintro e a⟨rfl,b⟩;have o:a.c (AK p 0)=some r:=(b.cell (p:=(AK p 0)) d).tr j;have h:a.c (AK p 1)=some s:=(b.cell (p:=(AK p 1)) d).tr f;have i:a.f (AK p 0)=false:=(b.frozen (p:=(AK p 0)) d).tr q;have g:a.f (AK p 1)=false:=(b.frozen (p:=(AK p 1)) d).tr m;simp[go_sem,o,h,i,g,bodyPostS,results,results39];exact⟨a,b,rfl⟩
def catch_idle(p:Nat)(w:AU)(g:OL w p):
  CallsD prog 39 #[AH p] .returning w λe i w'=>
   e=.returned (.tuple #[])/\i=.returning/\∃a,AO w a/\w'=(a.setCell (AK p 0) (AB 0)).setCell (AK p 1) (AB 0):=by obtain⟨c,⟨l,f⟩,⟨m,d⟩,j,h⟩:=g;refine callsD_of_wpS func39 rfl λk r hu=>?_;apply wpS_region;simp[wpOpsS,go_sem,recoverD,hu,ntmps39];refine(sY _).mo ?_;rintro e a⟨rfl,b⟩;have s:a.c (AK p 0)=some l:=(b.cell (p:=(AK p 0)) c).tr f;have o:a.c (AK p 1)=some m:=(b.cell (p:=(AK p 1)) c).tr d;have q:a.f (AK p 0)=false:=(b.frozen (p:=(AK p 0)) c).tr j;have n:a.f (AK p 1)=false:=(b.frozen (p:=(AK p 1)) c).tr h;cases k;simp_all[go_sem,bodyPostS,results,results39];exact⟨a,b,rfl⟩
def QG(l:AP)(v:AW)(w:AU)(hr:Eh w)(K:Hr w)(H:Eo w v l)(hl:l.length<=1048576)(F:∀x∈l,x.fits):
  Calls prog 13 #[v] w λe w'=>e=.returned (.agg #[.int .i64 (Az l).1,.int .i64 (Az l).2])/\Below w.heap.size w w':=by
 have m:Hid (∀W,Below w.heap.size w W->Calls prog 41 #[v] W λe w'=>e=endOf (Az l)/\Below W.heap.size W w'):=λW h=>Az7 l v W (hr.below h) (K.below h) (H.below h) hl F;have P:∀(L:Fn)(first cap:δ)(w:AU),(Instr.makeFunc L first cap).run prog w=.ok (.func L first cap) w:=λ_ _ _ _=>rfl;obtain⟨a,cap,rfl,_⟩:=H;obtain⟨b,t⟩:∃b,b=(Az l).1:=⟨_,rfl⟩;obtain⟨j,s⟩:∃j,j=(Az l).2:=⟨_,rfl⟩;have M:Hid (endOf (Az l)=endOf (b,j)):=by show _=_;rw[t,s]
 have B:Hid (¬0<b->b=0/\j=0):=by show _->_;rw[t,s];exact N7 l
 rw[M.out]at m;rw[<-t,<-s];clear hr K F t s M;by_cases i:0<b
 .have r:Hid (endOf (b,j)=.panicked [{v:=.iface 30 (.agg #[.int .i64 b,.int .i64 j]),recovered:=false}]):=by show _=_;unfold endOf;rw[BR i]
  rw[r.out]at m;clear r B;go_enter_defers func13,ntmps13;go_wp2_with(go_at_call 41;refine(m _ BV).mono ?_;rintro e c⟨rfl,hb⟩);have q:w.heap.size<c.heap.size:=DO BU hb.size;have o:OL c w.heap.size:=⟨q,⟨_,by rw[hb.cell (p:=⟨w.heap.size,0,none⟩) BU];simp[go_sem];rfl⟩,⟨_,by rw[hb.cell (p:=⟨w.heap.size,1,none⟩) BU];simp[go_sem];rfl⟩,Bt hb,Bt hb⟩;refine leaves_cons (f:=39) (args:=#[.pointer (some ⟨w.heap.size,0,none⟩)]) BU xAa ?_;refine(catch_panicking w.heap.size b j _ o).mono ?_;rintro e O N⟨rfl,rfl,g,k,rfl⟩;obtain⟨_,⟨D,i⟩,⟨y,h1⟩,_,_⟩:=o;have C:g.cell? ⟨w.heap.size,0,none⟩=some D:=(k.cell (p:=⟨w.heap.size,0,none⟩) q).trans i;have z:g.cell? ⟨w.heap.size,1,none⟩=some y:=(k.cell (p:=⟨w.heap.size,1,none⟩) q).trans h1;simp[Leaves,settle,results,results13,go_sem,C,z];have u:Below w.heap.size w g:=(Aa _ _).trans ((hb.trans (k.mono hb.size)).mono BU);exact(u.setCell (DN _) _).setCell (DN _) _
 obtain⟨rfl,rfl⟩:=B i;have r:Hid (endOf (0,0)=.returned (.tuple #[])):=by show _=_;unfold endOf;rw[BQ BX]
 rw[r.out]at m;clear r B i;go_enter_defers func13,ntmps13;go_wp2_with(go_at_call 41;refine(m _ BV).mono ?_;rintro e c⟨rfl,hb⟩;have E:c.cell? ⟨w.heap.size,0,none⟩=some (.int .i64 0):=(Bn hb);have q1:c.cell? ⟨w.heap.size,1,none⟩=some (.int .i64 0):=(Bn hb);have G:c.frozen? ⟨w.heap.size,0,none⟩=false:=(Bt hb);have J:c.frozen? ⟨w.heap.size,1,none⟩=false:=(Bt hb));have q:w.heap.size<c.heap.size:=DO BU hb.size;refine leaves_cons (f:=39) (args:=#[.pointer (some ⟨w.heap.size,0,none⟩)]) BU xAa ?_;obtain⟨W,d⟩:∃W,W=(c.setCell ⟨w.heap.size,0,none⟩ (.int .i64 0)).setCell ⟨w.heap.size,1,none⟩ (.int .i64 0):=⟨_,rfl⟩;have A:w.heap.size<W.heap.size:=by rw[d];exact DO q (DU (Jl _ _ _) (Jl _ _ _))
 have o:OL W w.heap.size:=by refine⟨A,⟨.int .i64 0,?_⟩,⟨.int .i64 0,?_⟩,?_,?_⟩;{rw[d];exact(Cm BS).trans (Ff E)};{rw[d];exact Ff ((Cm BS).trans q1)};{rw[d];exact Me.trans (Me.trans G)};rw[d];exact Me.trans (Me.trans J)
 have I:Below w.heap.size w W:=by rw[d];exact(((Aa _ _).trans (hb.mono BU)).setCell (DN _) _).setCell (DN _) _
 rw[<-d];clear d E q1 G J;refine(catch_idle w.heap.size _ o).mono ?_;rintro e O N⟨rfl,rfl,g,k,rfl⟩;obtain⟨_,⟨D,i⟩,⟨y,h1⟩,_,_⟩:=o;have C:g.cell? ⟨w.heap.size,0,none⟩=some D:=(k.cell (p:=⟨w.heap.size,0,none⟩) A).trans i;have z:g.cell? ⟨w.heap.size,1,none⟩=some y:=(k.cell (p:=⟨w.heap.size,1,none⟩) A).trans h1;simp[Leaves,settle,results,results13,go_sem,C,z];have u:Below w.heap.size w g:=I.trans (k.mono I.size);exact(u.setCell (DN _) _).setCell (DN _) _
