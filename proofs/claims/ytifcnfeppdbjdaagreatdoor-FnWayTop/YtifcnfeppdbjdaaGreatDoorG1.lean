import Derived.Test.YtifcnfeppdbjdaaGreatDoorGv
set_option maxHeartbeats 4000000
set_option maxRecDepth 100000
namespace Go.Proofs.YtifcnfeppdbjdaaGreatDoor
open Tryz Stil Go.RowKit Go.Sort Go.BigFrame
variable {a:Option Addr}{base c n o:Nat}{v:Value}{w':World}
def Td (w:World)(v:Value)(b:List Stil.CC):Prop:=Bi (λ_=>True) w v b
def Lp (w:World)(v:Value)(ns:List Stil.B9):Prop:=Dp (λ_=>True) w v ns
def U7 (w:World)(v:Value)(es:List Stil.Elem):Prop:=Dq (λ_=>True) w v es
def Uo (w:World)(v:Value)(l:List Stil.B8):Prop:=Em (λ_=>True) w v l
def Hh (w:World)(b o:Nat)(n:Stil.B9):Prop:=Sm (λ_=>True) w b o n
def II (w:World)(b o:Nat)(n:Stil.B8):Prop:=Xl (λ_=>True) w b o n
theorem Td.below {w:World}{b:List Stil.CC}(h:Td w v b)(d:AO w w'):Td w' v b:=Bi.keep h (Ac.of_below d)
theorem Lp.below {w:World}{b:List Stil.B9}(h:Lp w v b)(d:AO w w'):Lp w' v b:=Dp.keep h (Ac.of_below d)
theorem U7.below {w:World}{b:List Stil.Elem}(h:U7 w v b)(d:AO w w'):U7 w' v b:=Dq.keep h (Ac.of_below d)
theorem Uo.below {w:World}{b:List Stil.B8}(h:Uo w v b)(d:AO w w'):Uo w' v b:=Em.keep h (Ac.of_below d)
theorem Hh.below {w:World}(d:AO w w')(n:Stil.B9)(b o:Nat)(h:Hh w b o n)(hl:b<w.heap.size):Hh w' b o n:=Sm.keep (Ac.of_below d) n b o h trivial hl
theorem II.below {w:World}(d:AO w w')(n:Stil.B8)(b o:Nat)(h:II w b o n)(hl:b<w.heap.size):II w' b o n:=Xl.keep (Ac.of_below d) n b o h trivial hl
theorem Td.at {w:World}{b:List Stil.CC}(h:Td w v b):Dk w v b:=Bi.at h
theorem Lp.at {w:World}{b:List Stil.B9}(h:Lp w v b):Gn w v b:=Dp.at h
theorem U7.at {w:World}{b:List Stil.Elem}(h:U7 w v b):Iz w v b:=Dq.at h
theorem Td.shape {w:World}{b:List Stil.CC}(h:Td w v b):∃a cap,v=AE a b.length cap/\b.length<=cap:=by
 obtain⟨a,cap,d,e,_⟩:=h;exact⟨a,cap,d,e.1⟩
theorem U7.shape {w:World}{b:List Stil.Elem}(h:U7 w v b):∃a cap,v=AE a b.length cap/\b.length<=cap:=by
 obtain⟨a,cap,d,e,_⟩:=h;exact⟨a,cap,d,e.1⟩
theorem Lp.shape {w:World}{ns:List Stil.B9}(h:Lp w v ns):∃a cap,v=AE a ns.length cap/\Zr a ns.length cap/\∀i (h:i<ns.length),∃b o,a=some (AK b o)/\b<w.heap.size/\Hh w b (o+i*4) ns[i]:=by
 obtain⟨a,cap,f,k,g⟩:=h;exact⟨a,cap,f,k,λi hi=>by obtain⟨b,o,e,_,d,j⟩:=g i hi;exact⟨b,o,e,d,j⟩⟩
theorem Uo.shape {w:World}{ns:List Stil.B8}(h:Uo w v ns):∃a cap,v=AE a ns.length cap/\Zr a ns.length cap/\∀i (h:i<ns.length),∃b o,a=some (AK b o)/\b<w.heap.size/\II w b (o+i*6) ns[i]:=by
 obtain⟨a,cap,f,k,g⟩:=h;exact⟨a,cap,f,k,λi hi=>by obtain⟨b,o,e,_,d,j⟩:=g i hi;exact⟨b,o,e,d,j⟩⟩
theorem Hh.open {w:World}{b:Nat}{n:Stil.B9}(h:Hh w b o n):w.cell? (AK b o)=some (AB n.kind)/\w.cell? (AK b (o+1))=some (AB n.one.op)/\
   ∃e d,w.cell? (AK b (o+2))=some e/\w.cell? (AK b (o+3))=some d/\Td w e n.one.args/\Lp w d n.kids:=by
 obtain⟨g,k,⟨e,f,l⟩,⟨d,j,i⟩⟩:=(Rt _ _ _ _ _).1 h;exact⟨g,k,e,d,f,j,l,i⟩
theorem II.open {w:World}{b:Nat}{n:Stil.B8}(h:II w b o n):Hh w b o n.net/\∃d e,w.cell? (AK b (o+4))=some d/\w.cell? (AK b (o+5))=some e/\U7 w d n.coils/\Uo w e n.kids:=by
 obtain⟨g,⟨d,f,k⟩,⟨e,j,i⟩⟩:=(LW _ _ _ _ _).1 h;exact⟨g,d,e,f,j,k,i⟩
theorem LZ {w:World}{s:Nat}{e:TypeId}{xs:List Value}(h:w.ownsRow base e s (AE a n c) n xs):Zr a n c:=by
 rcases h.2 with⟨b,f⟩ | ⟨g,j,cur,b,_,_,d,_⟩
 ·simp only[Value.slice.injEq] at b
  obtain⟨rfl,i,rfl⟩:=b;exact⟨AQ,λ_=>rfl⟩
 ·simp only[Value.slice.injEq] at b
  obtain⟨rfl,_,rfl⟩:=b;exact⟨d,λh=>by cases h⟩
theorem SN {w:World}{f:Value}{d:List Stil.CC}(h:w.ownsRow base 55 3 f d.length (Au d)):Td w f d:=by
 obtain⟨a,cap,rfl⟩:=Ah h;obtain⟨p,m,e,j⟩:=(Ny.of_owns h).at;simp only[Value.slice.injEq,true_and] at e;obtain⟨rfl,rfl⟩:=e;refine⟨a,cap,rfl,LZ h,λi hi=>?_⟩;obtain⟨b,o,g,l,k⟩:=j i hi;exact⟨b,o,g,trivial,l,k⟩
theorem MOk.T {w:World}(m:Ak)(h:MOk w base m):Td w m.av m.net.one.args/\Lp w m.kv m.net.kids:=by
 revert h
 refine Za (λm=>MOk w base m->Td w m.av m.net.one.args/\Lp w m.kv m.net.kids) ?_ m;intro k op E D C kids t h;rw[Jw] at h;rw[Ak.net_eq];refine⟨SN h.1,?_⟩;simp only at h ⊢;have s:=h.2.1;obtain⟨a,cap,rfl⟩:=Ah h.2.1;refine⟨a,cap,AU,by rw[CW];exact LZ s,λi hi=>?_⟩;have d:i<kids.length:=by simpa using hi
 obtain⟨g,B,f,F,r,_,b⟩:=Cb h.2.1 AQ;simp only[Value.slice.injEq,true_and] at f;obtain⟨rfl,rfl⟩:=f;refine⟨g,0,rfl,trivial,r,?_⟩;obtain⟨y,j,u,l⟩:=O6 kids i d;obtain⟨x,A⟩:=t _ (CN d) (h.2.2 _ (CN d));rw[EI,Rt,CV];have e:=Ak.net_eq kids[i];have q:kids[i].net.kind=kids[i].kind:=by rw[e]
 have z:kids[i].net.one.op=kids[i].op:=by rw[e]
 rw[q,z];exact⟨b _ _ y,b _ _ j,⟨_,b _ _ u,x⟩,⟨_,b _ _ l,A⟩⟩
theorem j8 {w:World}{es:List Ej}(h1:w.ownsRow base 51 2 v es.length (Jc es))(k:∀m∈es,EOk w base m):U7 w v (es.map Ej.elem):=by
 obtain⟨a,cap,rfl⟩:=Ah h1;refine⟨a,cap,AU,by rw[CW];exact LZ h1,λi hi=>?_⟩;have b:i<es.length:=by simpa using hi
 obtain⟨g,q,e,r,l,_,d⟩:=Cb h1 AQ;simp only[Value.slice.injEq,true_and] at e;obtain⟨rfl,rfl⟩:=e;refine⟨g,0,rfl,trivial,l,?_⟩;obtain⟨j,f⟩:=OM es i b;rw[EI,CV];exact⟨d _ _ j,_,d _ _ f,SN (k _ (CN b))⟩
theorem AOk.T {w:World}(m:Bq)(h:AOk w base m):Td w m.net.av m.arm.net.one.args/\Lp w m.net.kv m.arm.net.kids/\U7 w m.cv m.arm.coils/\Uo w m.kv m.arm.kids:=by
 revert h
 refine KI (λm=>AOk w base m->Td w m.net.av m.arm.net.one.args/\Lp w m.net.kv m.arm.net.kids/\U7 w m.cv m.arm.coils/\Uo w m.kv m.arm.kids) ?_ m;intro n O N M kids B h;rw[Jp] at h;rw[Bq.arm_eq];simp only at h ⊢;obtain⟨F,⟨I,y⟩,d,H⟩:=h;obtain⟨E,K⟩:=MOk.T n F;refine⟨E,K,j8 I y,?_⟩;have x:=d;obtain⟨a,cap,rfl⟩:=Ah d;refine⟨a,cap,AU,by rw[CW];exact LZ x,λi hi=>?_⟩;have f:i<kids.length:=by simpa using hi
 obtain⟨g,L,j,P,t,_,b⟩:=Cb d AQ;simp only[Value.slice.injEq,true_and] at j;obtain⟨rfl,rfl⟩:=j;refine⟨g,0,rfl,trivial,t,?_⟩;obtain⟨G,k,C,l,r,u⟩:=V7 kids i f;obtain⟨D,s,A,z⟩:=B _ (CN f) (H _ (CN f));rw[EI,LW,Rt,CV];have e:=Bq.arm_eq kids[i];have q:kids[i].arm.net.kind=kids[i].net.kind:=by rw[e];simp only;rw[Ak.net_eq]
 have J:kids[i].arm.net.one.op=kids[i].net.op:=by rw[e];simp only;rw[Ak.net_eq]
 rw[q,J];exact⟨⟨b _ _ G,b _ _ k,⟨_,b _ _ C,D⟩,⟨_,b _ _ l,s⟩⟩,⟨_,b _ _ r,A⟩,⟨_,b _ _ u,z⟩⟩
theorem Uo.take {w:World}{l:List Stil.B8}(h:Uo w (AE a l.length c) l)(f:n<=l.length):Uo w (AE a n c) (l.take n):=by
 obtain⟨s,t,e,g,k⟩:=h;simp only[Value.slice.injEq,true_and] at e;obtain⟨rfl,rfl⟩:=e;have d:(l.take n).length=n:=by rw[FY,Nat.min_eq_left f]
 refine⟨a,c,by rw[d],⟨by rw[d];exact CJ f g.1,g.2⟩,λi hi=>?_⟩;rw[d] at hi;obtain⟨b,o,q,r,j,m⟩:=k i AQ;exact⟨b,o,q,r,j,by rw[List.getElem_take];exact m⟩
def FC (F:Nat)(x:Stil.B8)(f:Nat):Prop:=∀(h d b g:Value) (w:World),Td w h x.net.one.args->Lp w d x.net.kids->U7 w b x.coils->Uo w g x.kids->Calls prog F #[.agg #[AB x.net.kind,AB x.net.one.op,h,d,b,g]] w (AN w (AB f))
def FM (F:Nat)(x:Stil.B9)(f:Nat):Prop:=∀(d b:Value) (w:World),Td w d x.one.args->Lp w b x.kids->Calls prog F #[.agg #[AB x.kind,AB x.one.op,d,b]] w (AN w (AB f))
theorem fu (x:Stil.B8)(f F B m:Nat)(g b i d:Value)(w:World)(G:∀args w,(callFunc F args).run prog w=.ok (.enter F args) w)(p:FC F x f)
  (q:Td w g x.net.one.args) (l:Lp w b x.net.kids) (k:U7 w i x.coils) (j:Uo w d x.kids) (I:w.cell? (AK B 0)=some (.func (.func F) #[] #[])) (y:B<w.heap.size):
  Calls prog 57 #[AB m, .agg #[AB x.net.kind,AB x.net.one.op,g,b,i,d],AH B] w (AN w (AB (max m f:Nat))):=by
 have r:=AV (λW h=>p g b i d W (q.below h) (l.below h) (k.below h) (j.below h));obtain⟨t,u,rfl,_⟩:=q.shape;obtain⟨s,E,rfl,_,_⟩:=l.shape;obtain⟨J,A,rfl,_⟩:=k.shape;obtain⟨C,z,rfl,_,_⟩:=j.shape;clear p;go_enter func57,ntmps57
 go_wp2_with (refine(r _ AW).mono ?_;rintro e D ⟨rfl,H⟩)
 all_goals go_ret
 all_goals refine⟨F5 ?_,AW⟩
 all_goals (congr 1;omega)
theorem zp0 {p:Prop}(h:p:=by
 obtain rfl:j=es.length:=by omega
 have hmn:=HM.out;rw[EA yFh] at hmn;have eF:=AV hmn;clear hmn
 go_wp2
 go_ret;exact⟨F5 (by rw[eF.out]),hb⟩):p:=h
theorem f8 (es:List Stil.B8)(f:Stil.B8->Nat)(F:Nat)(P:∀args w,(callFunc F args).run prog w=.ok (.enter F args) w)(E:∀x∈es,FC F x (f x))
  (B g:Nat) (v:Value) (w:World) (Q:Uo w v es) (hl:es.length<=999999) (G:w.cell? (AK B 0)=some (.func (.func F) #[] #[])) (M:B<w.heap.size):
  Calls prog 56 #[v,AB g, .func (.func 57) #[] #[AH B]] w (AN w (AB (Bo g (es.map f)))):=by
 obtain⟨a,cap,rfl,ab,R⟩:=Q.shape;have T:=AV R;have IH:=AV E;have S:=AV G;have HE:=AV P;clear R E G P ab Q;go_enter func56,ntmps56
 go_wp2
 go_loopw [1,11] (λd i wr=>∃(j m:Nat),j<=es.length/\i=AB j/\d=AB m/\m=Bo g ((es.map f).take j)/\AO w wr) (λ_ i _=>es.length - (intOf i).toNat)
 case atStart=>exact⟨0,g,AQ,rfl,rfl,rfl,Below.refl _ _⟩
 case round=>
  obtain⟨j,m,hj,rfl,rfl,K,hb⟩:=hrel;have HM:=AV K;clear K;by_cases hlt:j<es.length
  ·obtain⟨b,o,rfl,z,I⟩:=T j hlt
   obtain⟨L,O,A,x4,x5,q,l⟩:=(II.below hb _ _ _ I z).open;obtain⟨U,x1,J,H,x2,x3,y,u⟩:=L.open;have s:Hid (Bo g ((es.map f).take (j+1))=max (Bo g ((es.map f).take j)) (f es[j])):=by
    show _=_
    rw[L9 yEe,EI]
   have r:Hid (∀W,AO wr W->Calls prog 57 #[AB m, .agg #[AB es[j].net.kind,AB es[j].net.one.op,J,H,O,A],AH B] W (AN W (AB (max m (f es[j]):Nat)))):=by
    intro W k;have C:=hb.trans (k.mono hb.size);exact fu es[j] (f es[j]) F B m J H O A W HE (IH es[j] (CN hlt)) (y.below k) (u.below k) (q.below k) (l.below k) ((C.cell (p:=(AK B 0)) M).trans S.out) (CB M C.size)
   obtain⟨x,D⟩:=AA (es[j])
   rw[<-D] at r U x1 y u q l s;obtain⟨p0,r0,rfl,V⟩:=y.shape;obtain⟨p1,r1,rfl,Z,_⟩:=u.shape;obtain⟨p2,r2,rfl,dL⟩:=q.shape;obtain⟨p3,r3,rfl,Y,_⟩:=l.shape;obtain⟨t,N⟩:=AA (f x)
   rw[<-N] at r s;have ac:=CB z hb.size;clear V Z dL Y L D I z N
   go_wp2_with (go_at_call 57;refine(r _ AW).mono ?_;rintro e w2 ⟨rfl,X⟩;have aa:=(show AO w _ from hb.trans ((show AO wr _ from AW).mono hb.size)).trans (X.mono (by have:=hb.size;simp;omega)))
   refine⟨⟨j+1,max m t,AQ,by go_num,rfl,?_,aa⟩,by simp[intOf];omega⟩;rw[s.out,<-HM.out]
  ·exact zp0
theorem MC (es:List Stil.B8)(f:Stil.B8->Nat)(F:Nat)(d:∀args w,(callFunc F args).run prog w=.ok (.enter F args) w)(g:∀x∈es,FC F x (f x))
  (b:Nat) (v:Value) (w:World) (i:Uo w v es) (hl:es.length<=999999):
  Calls prog 27 #[v,AB b, .func (.func F) #[] #[]] w (AN w (AB (Bo b (es.map f)))):=by
 have k:=AV (λW B h j l=>f8 es f F d g B b v W (i.below h) hl j l);obtain⟨q,r,rfl,m,_⟩:=i.shape;clear m g d;go_enter func27,ntmps27
 go_wp2_with (go_at_call 56;refine(k _ _ AW (by simp[go_sem]) AU).mono ?_;rintro e t ⟨rfl,s⟩)
 go_ret;exact⟨rfl,AW⟩
theorem ft (x:Stil.B9)(f F B m:Nat)(d b:Value)(w:World)(p:∀args w,(callFunc F args).run prog w=.ok (.enter F args) w)(g:FM F x f)
  (i:Td w d x.one.args) (j:Lp w b x.kids) (y:w.cell? (AK B 0)=some (.func (.func F) #[] #[])) (t:B<w.heap.size):
  Calls prog 128 #[AB m, .agg #[AB x.kind,AB x.one.op,d,b],AH B] w (AN w (AB (max m f:Nat))):=by
 have k:=AV (λW h=>g d b W (i.below h) (j.below h));obtain⟨q,r,rfl,_⟩:=i.shape;obtain⟨l,u,rfl,_,_⟩:=j.shape;clear g;go_enter func128,ntmps128
 go_wp2_with (refine(k _ AW).mono ?_;rintro e z ⟨rfl,s⟩)
 all_goals go_ret
 all_goals refine⟨F5 ?_,AW⟩
 all_goals (congr 1;omega)
theorem f7 (es:List Stil.B9)(f:Stil.B9->Nat)(F:Nat)(I:∀args w,(callFunc F args).run prog w=.ok (.enter F args) w)(J:∀x∈es,FM F x (f x))
  (B g:Nat) (v:Value) (w:World) (K:Lp w v es) (hl:es.length<=999999) (M:w.cell? (AK B 0)=some (.func (.func F) #[] #[])) (D:B<w.heap.size):
  Calls prog 127 #[v,AB g, .func (.func 128) #[] #[AH B]] w (AN w (AB (Bo g (es.map f)))):=by
 obtain⟨a,cap,rfl,T,L⟩:=K.shape;have P:=AV L;have Q:=AV J;have O:=AV M;have Y:=AV I;clear L J M I T K;go_enter func127,ntmps127
 go_wp2
 go_loopw [1,11] (λd i wr=>∃(j m:Nat),j<=es.length/\i=AB j/\d=AB m/\m=Bo g ((es.map f).take j)/\AO w wr) (λ_ i _=>es.length - (intOf i).toNat)
 case atStart=>exact⟨0,g,AQ,rfl,rfl,rfl,Below.refl _ _⟩
 case round=>
  obtain⟨j,m,hj,rfl,rfl,C,hb⟩:=hrel;have HM:=AV C;clear C;by_cases hlt:j<es.length
  ·obtain⟨b,o,rfl,u,z⟩:=P j hlt
   obtain⟨R,U,A,y,x2,x3,t,r⟩:=(Hh.below hb _ _ _ z u).open;have k:Hid (Bo g ((es.map f).take (j+1))=max (Bo g ((es.map f).take j)) (f es[j])):=by
    show _=_
    rw[L9 yEe,EI]
   have s:Hid (∀W,AO wr W->Calls prog 128 #[AB m, .agg #[AB es[j].kind,AB es[j].one.op,A,y],AH B] W (AN W (AB (max m (f es[j]):Nat)))):=by
    intro W l;have G:=hb.trans (l.mono hb.size);exact ft es[j] (f es[j]) F B m A y W Y (Q es[j] (CN hlt)) (t.below l) (r.below l) ((G.cell (p:=(AK B 0)) D).trans O.out) (CB D G.size)
   obtain⟨x,H⟩:=AA (es[j])
   rw[<-H] at s R U t r k;obtain⟨p0,r0,rfl,S⟩:=t.shape;obtain⟨Z,r1,rfl,X,_⟩:=r.shape;obtain⟨q,E⟩:=AA (f x)
   rw[<-E] at s k;have aa:=CB u hb.size;clear S X H z u E
   go_wp2_with (go_at_call 128;refine(s _ AW).mono ?_;rintro e w2 ⟨rfl,V⟩;have N:=(show AO w _ from hb.trans ((show AO wr _ from AW).mono hb.size)).trans (V.mono (by have:=hb.size;simp;omega)))
   refine⟨⟨j+1,max m q,AQ,by go_num,rfl,?_,N⟩,by simp[intOf];omega⟩;rw[k.out,<-HM.out]
  ·exact zp0
theorem eN (es:List Stil.B9)(f:Stil.B9->Nat)(F:Nat)(d:∀args w,(callFunc F args).run prog w=.ok (.enter F args) w)(g:∀x∈es,FM F x (f x))
  (b:Nat) (v:Value) (w:World) (i:Lp w v es) (hl:es.length<=999999):
  Calls prog 90 #[v,AB b, .func (.func F) #[] #[]] w (AN w (AB (Bo b (es.map f)))):=by
 have k:=AV (λW B h j l=>f7 es f F d g B b v W (i.below h) hl j l);obtain⟨q,r,rfl,m,_⟩:=i.shape;clear m g d;go_enter func90,ntmps90
 go_wp2_with (go_at_call 127;refine(k _ _ AW (by simp[go_sem]) AU).mono ?_;rintro e t ⟨rfl,s⟩)
 go_ret;exact⟨rfl,AW⟩
end Go.Proofs.YtifcnfeppdbjdaaGreatDoor
set_option maxHeartbeats 4000000
set_option maxRecDepth 100000
namespace Go.Proofs.YtifcnfeppdbjdaaGreatDoor
open Tryz Stil Go.RowKit Go.Sort Go.BigFrame
theorem N2 (l:List Stil.B8)(b:Value)(w:World)(hr:Et w)(hg:Fh w)(i:Fe w b l)(hl:l.length<=1048576)(m:Bz l<=1000000000)(j:∀x∈l,Dh x):
  Calls prog 18 #[b] w (AN w (.bool (decide ((Aw l).1=0)))):=by
 have f:=AV (λW h=>vb l b W (hr.below h) (hg.below h) (i.below h) hl m j);have k:Hid ((Aw l).1=0->(Aw l).2=0):=λh=>(Ns h).1
 obtain⟨q,t,rfl,p⟩:=i;obtain⟨c,d⟩:=AA ((Aw l).1)
 obtain⟨r,g⟩:=AA ((Aw l).2)
 rw[<-d,<-g] at f k;rw[<-d];clear p d g hr hg j;go_enter func18,ntmps18
 go_wp2_with (go_at_call 43;refine(f _ AW).mono ?_;rintro e u ⟨rfl,z⟩)
 all_goals go_ret
 all_goals refine⟨Ae ?_,AW⟩
 all_goals (have s:=k.out;by_cases y:c=0<;>simp_all)
def QZ (w:World)(base:Nat)(l:List Stil.B8)(e:Ending):Prop:=∃(a:Option Addr) (c:Nat) (b:List Bq),e=.returned (AE a b.length c)/\b.map Bq.arm=l/\Su w base (AE a b.length c) b
theorem N4 (l:List Stil.B8)(d:Value)(w:World)(hr:Et w)(hg:Fh w)(j:Fe w d l)(hl:l.length<=1048576)(A:Bz l<=1000000000)(i:∀x∈l,Dh x):
  Calls prog 20 #[d] w λe w'=>QZ w' w.heap.size (Aq l) e/\AO w w':=by
 have g:=AV (λW h=>N2 l d W (hr.below h) (hg.below h) (j.below h) hl A i);have k:Hid ((Aw l).1=0->∀W,AO w W->Calls prog 45 #[d, .func (.func 46) #[] #[]] W λe w'=>∃(a:Option Addr) (c:Nat) (b:List Bq),e=.returned (AE a b.length c)/\b.map Bq.arm=l.map Dt/\Su w' W.heap.size (AE a b.length c) b/\AO W w'):=by
  intro h0 W h;exact UO l (λx hx=>Azs x (i x hx) yGf) d W (j.below h) (by have:=(Ns h0).2.1;omega)
 obtain⟨E,F,rfl,t⟩:=j;by_cases h0:(Aw l).1=0
 ·have f:Hid (Aq l=l.map Dt):=if_pos h0
  rw[f.out];have r:=k h0;have C:=AV r;rw[JH h0] at g;clear t hr hg i f k r h0;go_enter func20,ntmps20
  go_wp2_with (first | (go_at_call 18;refine(g _ AW).mono ?_;rintro e z ⟨rfl,s⟩) | (go_at_call 45;refine(C _ AW).mono ?_;rintro e G ⟨B,u,b,rfl,m,q,H⟩;have D:=AV m;have y:=AV q;clear m q))
  go_ret;exact⟨⟨B,u,b,rfl,D.out,y.le s.size⟩,AW⟩
 ·have f:Hid (Aq l=[]):=if_neg h0
  rw[f.out];rw[FW h0] at g;clear t hr hg i f k h0;go_enter func20,ntmps20
  go_wp2_with (go_at_call 18;refine(g _ AW).mono ?_;rintro e z ⟨rfl,s⟩)
  go_ret;exact⟨⟨none,0,[],rfl,rfl,Su.nil _ _⟩,AW⟩
end Go.Proofs.YtifcnfeppdbjdaaGreatDoor
namespace Stil
theorem Kt {l:List B8}(h:∀x∈l,Dh x):(∀x∈Aq l,Dh x)/\Bz (Aq l)<=400/\(Aq l).length<=40:=by
 unfold Aq;by_cases h0:(Aw l).1=0
 ·rw[if_pos h0]
  have hx:=λx hx=>Y8 x (h x hx) yGf
  refine⟨λx e=>?_,?_,?_⟩
  ·obtain⟨y,d,rfl⟩:=List.mem_map.1 e
   exact(hx y d).1
  ·refine CJ ?_ (Ns h0).2.2.1
   clear h h0;unfold Bz;induction l with
   | nil=>simp
   | cons x r f=>
    have a:=(hx x AU).2;have b:=f (λy d=>hx y (CQ _ d));simp only[CP,DW] at b ⊢;omega
  ·rw[CW];exact(Ns h0).2.1
 ·rw[if_neg h0]
  exact⟨(λx hx=>by cases hx),by simp[Bz],AU⟩
end Stil
namespace Go.Proofs.YtifcnfeppdbjdaaGreatDoor
open Tryz Stil Go.RowKit Go.Sort Go.BigFrame
def Q6 (v:Value)(b:List Bq):Bq:=⟨Qy,AG,[],v,b⟩
theorem Vp {w:World}{base:Nat}{v:Value}{d:List Bq}(h:Su w base v d):Lt w base (Q6 v d):=by
 have e:(Q6 v d).vals=Qy.vals++(([AG])++(v::Iy d)):=Bq.vals_eq _;refine⟨(Jp _ _ _).2 ⟨YI _ _,⟨World.ownsRow_nil _ _ _ _,λx b=>by cases b⟩,h.1,h.2.1⟩,?_⟩;rw[e];refine List.pairwise_append.2 ⟨?_,List.pairwise_append.2 ⟨G1 _ _,h.2.2,λx b y _=>?_⟩,λx b y _=>.inl (QL b)⟩
 ·rw[NT]
  exact List.pairwise_cons.2 ⟨λy _=>Py y,G1 _ _⟩
 ·rw[List.mem_singleton.1 b];exact Py y
def m8:Bq:=⟨Qy,AG,[],AG,[]⟩
theorem OL (c r:Value)(w:World):Sem.run prog (Instr.field 35 (.agg #[c,r]) 0) w=.ok c w:=AX
theorem OE (l:List Stil.B8)(Q:Value)(w:World)(q:Fe w Q l)(hl:l.length<=1048576)(ab:Bz l<=1000000000)(G:∀x∈l,Dh x):
  Calls prog 23 #[Q] w λe w'=>QZ w' w.heap.size (Aq l) e/\AO w w':=by
 have D:=AV (λW h=>NR l Q W (q.below h) hl ab G);have jA:=AV (λW (h:AO w W)=>q.below h);have J:=Xd l;obtain⟨p0,r0,rfl,hz⟩:=q;by_cases h0:(Aw l).1=0
 ·have C:Hid (Aq l=l.map Dt):=if_pos h0
  have HI:=AV (λx hx=>i7 x (G x hx) yGf (Kz h0 hx).1);have aA:=(Ns h0).2.1;rw[C.out];rw[h0] at D;obtain⟨rr,A⟩:∃r,r=(Aw l).2:=⟨_,rfl⟩
  rw[<-A] at D;clear hz G C h0 J A ab;have ap:=OL;go_enter func23,ntmps23
  go_wp2_with (go_at_call 13;refine(D _ AW).mono ?_;rintro e w1 ⟨rfl,V⟩)
  go_loopw [3,4] (λd i wr=>∃(j:Nat) (f:List Bq) (E:Option Addr) (z:Nat),j<=l.length/\i=AB j/\d=AE E f.length z/\f.map Bq.arm=(l.take j).map Dt/\Su wr w.heap.size (AE E f.length z) f/\AO w wr) (λ_ i _=>l.length - (intOf i).toNat)
  case atStart=>
   refine⟨0,[],some (AL w1 0),0,AQ,rfl,rfl,rfl,⟨?_,(λm B=>by cases B),G1 _ _⟩,AW⟩;have:=World.ownsRow_lit (base:=w.heap.size) (e:=62) (size:=6) w1 #[] 0 V.size A6 rfl
   simpa[Jl] using this
  case round=>
   clear V;obtain⟨j,f,E,z,hj,rfl,rfl,g,ac,hb⟩:=hrel;have P:=AV g;have F:=AV ac;clear g ac;by_cases U:j<l.length
   ·have aj:f.length=j:=by
     have h1:=congrArg List.length P.out;simp only[CW,FY] at h1;omega
    have al:=jA wr hb;obtain⟨pa,pc,ah,af⟩:=al;simp only[Value.slice.injEq,true_and] at ah;obtain⟨rfl,rfl⟩:=ah;obtain⟨b,o,rfl,aB,hn⟩:=af j U;obtain⟨ai,an,zq,x4,x5,S,q⟩:=hn.open;obtain⟨x0,x1,jW,jT,x2,x3,O,M⟩:=ai.open;have aa:=AV (λW h=>HI l[j] (CN U) jW jT an zq W (O.below h) (M.below h) (S.below h) (q.below h));have aX:Hid ((l.take (j+1)).map Dt=(l.take j).map Dt++[Dt l[j]]):=by show _=_;rw[D2 U,CU];rfl
    obtain⟨x,hx⟩:=AA (l[j])
    rw[<-hx] at aa aX x0 x1 O M S q;obtain⟨q0,s0,rfl,_⟩:=O;obtain⟨q1,az,rfl,_⟩:=M;obtain⟨q2,av,rfl,_⟩:=S;obtain⟨q3,au,rfl,_⟩:=q;have kP:=AV (λk hk=>(F.1.lt k hk).1);have ao:f.length+[m8].length<=1000000:=by simp only[ED];omega
    have ay:(0:Int)<=(j:Int):=AQ
    have ax:(j:Int)<(l.length:Int):=AQ
    clear hx hn ai af aj
    go_wp2_with (first | (go_at_call 51;refine(aa _ AW).mono ?_;rintro e w5 ⟨⟨L,aJ,y,Z,K,u,H,N,s,X,I,t,T,R,rfl,ae,g⟩,hb5⟩;have Y:=AV ae;have ar:=AV g;clear ae g) | (at_builtin;refine Xo rfl _ _ rfl w.heap.size w.heap.size E z f [(Bq.mk ⟨L,aJ,y,AE Z y.length K,AE H u.length N,u⟩ (AE X s.length I) s (AE T t.length R) t)] _ 1 rfl rfl ((F.below hb5).below (Aa _ _)) (λ_=>⟨_,rfl,by exact RY⟩) (λm B=>by rw[List.mem_singleton.1 B];exact((Y.1.le hb.size).below (Aa _ _))) (F.apart (w1:=w5) (b1:=wr.heap.size) (λm B=>by rw[List.mem_singleton.1 B];exact Y.1) (CG _) (by rw[Ro];exact Y.2)) ao yFe yFe kP.out ?_;intro a6 c6 w6 bC ag ak;have iQ:Hid (Su w6 w.heap.size (AE a6 (f.length+1) c6) (f++[(Bq.mk ⟨L,aJ,y,AE Z y.length K,AE H u.length N,u⟩ (AE X s.length I) s (AE T t.length R) t)])):=bC;have yM:=AV ((Bd (Bc hb hb5) _).trans ag);clear bC ag ak))
    refine⟨⟨j+1,f++[(Bq.mk ⟨L,aJ,y,AE Z y.length K,AE H u.length N,u⟩ (AE X s.length I) s (AE T t.length R) t)],a6,c6,AQ,by go_num,AU,?_,by rw[CM];exact iQ.out,yM.out⟩,by simp[intOf];omega⟩;rw[aX.out,CU,P.out,GU,ar.out]
   ·obtain rfl:j=l.length:=by omega
    have g:=P.out;rw[Gk] at g;have dI:=AV g;clear g
    go_wp2
    go_ret;exact⟨⟨E,z,f,rfl,dI.out,F.out⟩,hb⟩
 ·have C:Hid (Aq l=[]):=if_neg h0
  rw[C.out];obtain⟨c,hc⟩:=AA ((Aw l).1)
  obtain⟨rr,A⟩:∃r,r=(Aw l).2:=⟨_,rfl⟩
  rw[<-hc,<-A] at D;rw[<-hc] at J h0;have aw:(0:Int)<c:=AQ
  clear hz G C h0 jA hc A J;have ap:=OL;go_enter func23,ntmps23
  go_wp2_with (go_at_call 13;refine(D _ AW).mono ?_;rintro e w1 ⟨rfl,V⟩)
  go_ret;exact⟨⟨none,0,[],rfl,rfl,Su.nil _ _⟩,AW⟩
end Go.Proofs.YtifcnfeppdbjdaaGreatDoor
set_option maxHeartbeats 4000000
set_option maxRecDepth 100000
namespace Go.Proofs.YtifcnfeppdbjdaaGreatDoor
open Tryz Stil Go.RowKit Go.Sort Go.BigFrame
theorem Vo (a b:Nat)(w:World):Calls prog 47 #[AB a,AB b] w λe w'=>e=.returned (AB (max a b:Nat))/\w'=w:=by
 go_enter func47,ntmps47
 go_wp2
 all_goals go_ret
 all_goals refine⟨F5 ?_,rfl⟩
 all_goals (congr 1;omega)
theorem wX (a:Stil.B8):Aj a<=1000000->FC 50 a (Stil.forks a):=by
 induction a using Gl with
 | h n cs kids S=>
  intro Q I H O M w q l r k;simp only at q l r k;rw[Ce] at Q;have J:∀x∈kids,Aj x<=1000000:=λx g=>by have:Aj x<=I5 kids:=D9 Aj kids x g;omega
  have ai:kids.length<=999999:=by have:=Og kids;omega
  have IH:=AV (λx g=>S x g (J x g));have xu:=AV (λx g=>CJ (ZV x) (J x g));have jA:=AV (λW (h:AO w W)=>k.below h);rw[Zg];obtain⟨p0,r0,rfl,K⟩:=q.shape;obtain⟨p1,r1,rfl,N,_⟩:=l.shape;obtain⟨p2,r2,rfl,C⟩:=r.shape;obtain⟨p3,r3,rfl,L,_⟩:=k.shape;clear K N C L Q S J q l r k;obtain⟨s,G⟩:=AA (kids.map Stil.forks)
  have D:=AV G;rw[<-G];clear G;go_enter func50,ntmps50
  go_wp2
  obtain⟨W,u⟩:=AA (w.alloc (.cells #[AB n.kind,AB n.one.op,AE p0 n.one.args.length r0,AE p1 n.kids.length r1,AE p2 cs.length r2,AE p3 kids.length r3] 62))
  rw[<-u];have R:AO w W:=by rw[u];exact Aa _ _
  have nM:w.heap.size<W.heap.size:=by rw[u];simp
  have y5:W.cell? (AL w 5)=some (AE p3 kids.length r3):=by rw[u];simp[go_sem]
  clear u;go_loopw [3,5] (λd i wr=>∃(j m:Nat),j<=kids.length/\i=AB j/\d=AB m/\m=Bo 0 ((Stil.bump s).take j)/\AO W wr) (λ_ i _=>kids.length - (intOf i).toNat)
  case atStart=>exact⟨0,0,AQ,rfl,rfl,rfl,Below.refl _ _⟩
  case round=>
   obtain⟨j,m,hj,rfl,rfl,U,z⟩:=hrel;have P:=AV U;clear U;by_cases y:j<kids.length
   ·have ag:=Bc R z
    obtain⟨pa,pc,ac,_,aa⟩:=(jA wr ag).shape;simp only[Value.slice.injEq,true_and] at ac;obtain⟨rfl,rfl⟩:=ac;obtain⟨b,o,rfl,ah,hn⟩:=aa j y;obtain⟨X,O,M,x4,x5,r,k⟩:=hn.open;obtain⟨x0,x1,I,H,x2,x3,q,l⟩:=X.open;have B:Hid (∀V,AO wr V->Calls prog 50 #[.agg #[AB kids[j].net.kind,AB kids[j].net.one.op,I,H,O,M]] V (AN V (AB (Stil.forks kids[j])))):=λV h=>IH kids[j] (CN y) I H O M V (q.below h) (l.below h) (r.below h) (k.below h)
    have T:=xu kids[j] (CN y);have A:s.length=kids.length:=by rw[D.out,CW]
    have t:Hid (Bo 0 ((Stil.bump s).take (j+1))=max (Bo 0 ((Stil.bump s).take j)) (if j+1<kids.length then Stil.forks kids[j]+1 else Stil.forks kids[j])):=by
     show _=_
     rw[L9 (by rw[KE,A];exact y),QF];have e1:s[j]'(by rw[A];exact y)=Stil.forks kids[j]:=by simp[D.out]
     rw[e1,A];rfl
    obtain⟨x,g⟩:=AA (kids[j])
    rw[<-g] at B t T x0 x1 q l r k;obtain⟨f,Z⟩:=AA (Stil.forks x)
    rw[<-Z] at B t T;obtain⟨q0,s0,rfl,K⟩:=q.shape;obtain⟨q1,s1,rfl,N,_⟩:=l.shape;obtain⟨q2,s2,rfl,C⟩:=r.shape;obtain⟨q3,s3,rfl,L,_⟩:=k.shape;have vT:=(z.cell (p:=(AL w 5)) nM).trans y5;have an:(0:Int)<=(j:Int):=AQ
    have al:(j:Int)<(kids.length:Int):=AQ
    have aj:IntKind.i64.wrap ((kids.length:Int) - 1)=(kids.length:Int) - 1:=by rw[IntKind.wrap_i64];omega
    have ak:IntKind.i64.wrap ((f:Int)+1)=(f:Int)+1:=by rw[IntKind.wrap_i64];omega
    have Y:(f:Int)+1=((f+1:Nat):Int):=AQ
    have HG:=AV Vo;have af:Hid (∀(p:Nat) (V:World),Calls prog 47 #[AB p,AB ((f:Int)+1)] V λe w'=>e=.returned (AB (max p (f+1):Nat))/\w'=V):=λp V=>by rw[Y];exact Vo p (f+1) V
    clear K N C L g Z hn X aa A q l r k Y ah;by_cases ab:j+1<kids.length
    ·rw[if_pos ab] at t
     have ae:(j:Int)<(kids.length:Int) - 1:=AQ
     go_wp2_with (first | (go_at_call 50;refine(B _ AW).mono ?_;rintro e w2 ⟨rfl,F⟩) | (go_at_call 47;refine(af _ _).mono ?_;rintro e w3 ⟨rfl,rfl⟩))
     refine⟨⟨j+1,max m (f+1),AQ,by go_num,rfl,?_,Bc z F⟩,by simp[intOf];omega⟩;rw[t.out,<-P.out]
    ·rw[if_neg ab] at t
     have ae:¬((j:Int)<(kids.length:Int) - 1):=AQ
     go_wp2_with (first | (go_at_call 50;refine(B _ AW).mono ?_;rintro e w2 ⟨rfl,F⟩) | (go_at_call 47;refine(HG _ _ _).mono ?_;rintro e w3 ⟨rfl,rfl⟩))
     refine⟨⟨j+1,max m f,AQ,by go_num,rfl,?_,Bc z F⟩,by simp[intOf];omega⟩;rw[t.out,<-P.out]
   ·obtain rfl:j=kids.length:=by omega
    have E:=P.out;rw[EA (by rw[KE,D.out,CW];exact CG _)] at E;have eF:=AV E;clear E
    go_wp2
    go_ret;exact⟨F5 (by rw[eF.out]),Bc R z⟩
theorem zo0 {p:Prop}(h:p:=by
 obtain rfl:j=L.length:=by omega
 have hmn:=HM.out;rw[EA yFh] at hmn;have eF:=AV hmn;clear hmn
 go_wp2
 go_ret;exact⟨F5 (by rw[eF.out]),Bc hb1 hb⟩):p:=h
theorem wh (l:List Stil.B8)(g:Value)(w:World)(f:Fe w g l)(hl:l.length<=1048576)(Y:Bz l<=1000000000)(C:∀x∈l,Dh x):
  Calls prog 22 #[g] w (AN w (AB (Hz l))):=by
 have R:=AV (λW h=>OE l g W (f.below h) hl Y C);obtain⟨G,N,qH⟩:=Kt C;have z:Hid (Hz l=Bo 0 ((Aq l).map Stil.forks)):=rfl;obtain⟨L,M⟩:=AA (Aq l)
 rw[<-M] at R G N qH z;have IH:Hid (∀x∈L,FC 50 x (Stil.forks x)):=λx k=>wX x (by have:=Uk k;omega)
 have X:=AV Vo;rw[z.out];obtain⟨p0,r0,rfl,hz⟩:=f;clear hz C G N z M;go_enter func22,ntmps22
 go_wp2_with (go_at_call 23;refine(R _ AW).mono ?_;rintro e y ⟨⟨a,c,I,rfl,hm,hrw⟩,hb1⟩;have J:Uo y (AE a I.length c) L:=yCa;have O:=AV J;have t:I.length=L.length:=(by rw[<-hm,CW]);rw[t] at O;rw[t];clear J hrw hm t)
 go_loopw [4,5] (λd i wr=>∃(j m:Nat),j<=L.length/\i=AB j/\d=AB m/\m=Bo 0 ((L.map Stil.forks).take j)/\AO y wr) (λ_ i _=>L.length - (intOf i).toNat)
 case atStart=>exact⟨0,0,AQ,rfl,rfl,rfl,Below.refl _ _⟩
 case round=>
  obtain⟨j,m,hj,rfl,rfl,hm,hb⟩:=hrel;have HM:=AV hm;clear hm;by_cases hlt:j<L.length
  ·obtain⟨pa,pc,P,_,K⟩:=(O.below hb).shape
   simp only[Value.slice.injEq,true_and] at P;obtain⟨rfl,rfl⟩:=P;obtain⟨b,o,rfl,ae,Q⟩:=K j hlt;obtain⟨F,S,g,x4,x5,s,f⟩:=Q.open;obtain⟨x0,x1,E,D,x2,x3,r,q⟩:=F.open;have u:Hid (∀V,AO wr V->Calls prog 50 #[.agg #[AB L[j].net.kind,AB L[j].net.one.op,E,D,S,g]] V (AN V (AB (Stil.forks L[j])))):=λV h=>IH L[j] (CN hlt) E D S g V (r.below h) (q.below h) (s.below h) (f.below h)
   have A:Hid (Bo 0 ((L.map Stil.forks).take (j+1))=max (Bo 0 ((L.map Stil.forks).take j)) (Stil.forks L[j])):=by
    show _=_
    rw[L9 yEe,EI]
   obtain⟨x,k⟩:=AA (L[j])
   rw[<-k] at u A x0 x1 r q s f;obtain⟨B,H⟩:=AA (Stil.forks x)
   rw[<-H] at u A;obtain⟨q0,s0,rfl,aa⟩:=r.shape;obtain⟨q1,s1,rfl,ac,_⟩:=q.shape;obtain⟨q2,s2,rfl,U⟩:=s.shape;obtain⟨q3,s3,rfl,ab,_⟩:=f.shape;have ag:(0:Int)<=(j:Int):=AQ
   have af:(j:Int)<(L.length:Int):=AQ
   clear aa ac U ab k H Q F K r q s f ae
   go_wp2_with (first | (go_at_call 50;refine(u _ AW).mono ?_;rintro e w2 ⟨rfl,Z⟩) | (go_at_call 47;refine(X _ _ _).mono ?_;rintro e w3 ⟨rfl,rfl⟩))
   refine⟨⟨j+1,max m B,AQ,by go_num,rfl,?_,Bc hb Z⟩,by simp[intOf];omega⟩;rw[A.out,<-HM.out]
  ·exact zo0
theorem fz (x:Stil.B8)(A:Aj x<=1000000)(q:FC 29 x (Stil.forks x)):FC 60 x (1+Stil.forks x):=by
 intro f b p d w r l k i;have g:Hid (∀W,AO w W->Calls prog 29 #[.agg #[AB x.net.kind,AB x.net.one.op,f,b,p,d]] W (AN W (AB (Stil.forks x)))):=λW h=>q f b p d W (r.below h) (l.below h) (k.below h) (i.below h)
 have z:=ZV x;obtain⟨j,m⟩:=AA (Stil.forks x)
 rw[<-m] at g z ⊢;obtain⟨C,D,rfl,t⟩:=r.shape;obtain⟨B,H,rfl,y,_⟩:=l.shape;obtain⟨K,F,rfl,s⟩:=k.shape;obtain⟨G,E,rfl,u,_⟩:=i.shape;clear q t y s u m;go_enter func60,ntmps60
 go_wp2_with (go_at_call 29;refine(g _ AW).mono ?_;rintro e I ⟨rfl,J⟩)
 go_ret;exact⟨F5 (by go_num),AW⟩
theorem Avm (a:Stil.B8):Aj a<=1000000->FC 29 a (Stil.forks a):=by
 induction a using Gl with
 | h n cs kids t=>
  intro Q av nv cv kv w q l r f;simp only at q l r f;rw[Ce] at Q;have j:∀x∈kids,Aj x<=1000000:=λx hx=>by have:Aj x<=I5 kids:=D9 Aj kids x hx;omega
  have y:kids.length<=999999:=by have:=Og kids;omega
  obtain⟨p0,r0,rfl,D⟩:=q.shape;obtain⟨p1,r1,rfl,K,_⟩:=l.shape;obtain⟨p2,r2,rfl,A⟩:=r.shape;clear D K A Q;rcases List.eq_nil_or_concat kids with rfl | ⟨init,z,hk⟩
  ·rw[Az6]
   obtain⟨p3,g,rfl,E,_⟩:=f.shape;clear E t j y;go_enter func29,ntmps29
   go_wp2
   go_ret;exact⟨rfl,AW⟩
  ·rw[List.concat_eq_append] at hk
   subst hk;have hE:∀args w,(callFunc 60 args).run prog w=.ok (.enter 60 args) w:=enters_of func60 AX rfl;have iq:=f;obtain⟨p3,g,rfl,ab,aa⟩:=f.shape;have X:=iq;have U:(init++[z]).take init.length=init:=AU
   have T:init.length<=999999:=by simp only[CM,ED] at y;omega
   have u:Hid (∀W,AO w W->Calls prog 27 #[AE p3 init.length g,AB (Stil.forks z), .func (.func 60) #[] #[]] W (AN W (AB (Bo (Stil.forks z) (init.map (λk=>1+Stil.forks k)))))):=by
    intro W h;refine MC init (λk=>1+Stil.forks k) 60 hE (λx hx=>?_) _ _ W ?_ T
    ·exact fz x (j x BS) (t x BS (j x BS))
    ·have:=(X.below h).take (n:=init.length) AU
     rwa [U] at this
   obtain⟨b,o,rfl,i,L⟩:=aa init.length AU;have hg:(init++[z])[init.length]'AU=z:=AU
   rw[hg] at L;obtain⟨S,Y,V,I,H,r,f⟩:=L.open;obtain⟨G,M,P,Z,N,J,q,l⟩:=S.open;have HZ:Hid (∀W,AO w W->Calls prog 29 #[.agg #[AB z.net.kind,AB z.net.one.op,P,Z,Y,V]] W (AN W (AB (Stil.forks z)))):=λW h=>t z AU (j z AU) P Z Y V W (q.below h) (l.below h) (r.below h) (f.below h)
   rw[Avn];obtain⟨F,ac⟩:=AA (Stil.forks z)
   rw[<-ac] at u HZ ⊢;obtain⟨R,hR⟩:=AA (Bo F (init.map (λk=>1+Stil.forks k)))
   rw[<-hR] at u ⊢;have C:(init++[z]).length=init.length+1:=AU
   obtain⟨m,B⟩:=AA init.length
   rw[C];rw[<-B] at u G M N J I H T ⊢;obtain⟨q0,s0,rfl,D⟩:=q.shape;obtain⟨q1,s1,rfl,K,_⟩:=l.shape;obtain⟨q2,s2,rfl,A⟩:=r.shape;obtain⟨q3,s3,rfl,E,_⟩:=f.shape;have ak:(0:Int)<=(m:Int):=AQ
   have ai:(m:Int)<=(m:Int)+1:=AQ
   have aj:(m:Int)<(m:Int)+1:=AQ
   have ah:IntKind.i64.wrap ((m:Int)+1 - 1)=(m:Int):=by rw[IntKind.wrap_i64];omega
   have ag:m+1<=g:=by have:=ab.1;rw[C,<-B] at this;exact this
   have an:(m:Int)<=(g:Int):=AQ
   have al:m<=g:=AQ
   clear D K A E X iq U aa L S hE ac hR hg t j y C B ab;go_enter func29,ntmps29
   go_wp2
   obtain⟨W,s⟩:=AA (w.alloc (.cells #[AB n.kind,AB n.one.op,AE p0 n.one.args.length r0,AE p1 n.kids.length r1,AE p2 cs.length r2,AE (some (AK b o)) (m+1) g] 62))
   rw[<-s];have d:AO w W:=by rw[s];exact Aa _ _
   have O:W.cell? (AL w 5)=some (AE (some (AK b o)) (m+1) g):=by rw[s];simp[go_sem]
   have k0:=cell_regrown ((d.cell (p:=(AK b (o+m*6))) i).trans G);have k1:=cell_regrown ((d.cell (p:=(AK b (o+m*6+1))) i).trans M);have k2:=cell_regrown ((d.cell (p:=(AK b (o+m*6+2))) i).trans N);have k3:=cell_regrown ((d.cell (p:=(AK b (o+m*6+3))) i).trans J);have k4:=cell_regrown ((d.cell (p:=(AK b (o+m*6+4))) i).trans I);have k5:=cell_regrown ((d.cell (p:=(AK b (o+m*6+5))) i).trans H);have k6:=cell_regrown O;clear s O G M N J I H;refine wp_region_quiet_below AX AX ?_;repeat (go_big_quiet_step ((first | exact Calls.regrown_of (HZ _ (Gq d _ _)) | exact Calls.regrown_of (u _ (Gq d _ _)))))
   refine wpQuiet_nil ?_;intro _ ae;obtain⟨⟨dq,osq⟩,af⟩:=ae;subst af
   go_wp2
   go_ret;exact⟨rfl,Gq d _ _⟩
theorem N3 (l:List Stil.B8)(b:Value)(w:World)(hr:Et w)(hg:Fh w)(j:Fe w b l)(hl:l.length<=1048576)(z:Bz l<=1000000000)(f:∀x∈l,Dh x):
  Calls prog 12 #[b] w (AN w (AB (Hz l))):=by
 have i:=AV (λW h=>N4 l b W (hr.below h) (hg.below h) (j.below h) hl z f);obtain⟨k,r,g⟩:=Kt f;have d:Hid (Hz l=Bo 0 ((Aq l).map Stil.forks)):=rfl;obtain⟨L,m⟩:=AA (Aq l)
 rw[<-m] at i k r g d;have u:∀args w,(callFunc 29 args).run prog w=.ok (.enter 29 args) w:=enters_of func29 AX rfl;have s:Hid (∀W v,Uo W v L->Calls prog 27 #[v,AB 0, .func (.func 29) #[] #[]] W (AN W (AB (Bo 0 (L.map Stil.forks))))):=λW v h=>MC L Stil.forks 29 u (λx A=>Avm x (by have:=Uk A;omega)) 0 v W h AQ
 rw[d.out];obtain⟨R,q⟩:=AA (Bo 0 (L.map Stil.forks))
 rw[<-q] at s ⊢;obtain⟨E,F,rfl,C⟩:=j;clear C hr hg f k r g d m u q;go_enter func12,ntmps12
 go_wp2_with (first | (go_at_call 20;refine(i _ AW).mono ?_;rintro e y ⟨⟨a,c,B,rfl,hm,hrw⟩,I⟩;have t:Uo y (AE a B.length c) L:=yCa;have D:=AV t;clear t hrw hm) | (go_at_call 27;refine(s _ _ D.out).mono ?_;rintro e G ⟨rfl,H⟩))
 go_ret;exact⟨rfl,AW⟩
