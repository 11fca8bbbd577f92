import Derived.Test.YtmnnkedjoecehaaGreatDoorCI4
set_option linter.defProp false
set_option maxHeartbeats 4000000
set_option maxRecDepth 100000
namespace Go.Proofs.YtmnnkedjoecehaaGreatDoor
open Tryz Stil Go.RowKit Go.Sort Go.BigFrame
variable {a:Option Addr}{base c n o:Nat}{v:Value}{w':World}
def Tv (w:World)(v:Value)(b:List Stil.CC):Prop:=Bj (λ_=>True) w v b
def Ls (w:World)(v:Value)(ns:List Stil.B8):Prop:=Dt (λ_=>True) w v ns
def Vj (w:World)(v:Value)(es:List Stil.Elem):Prop:=Dn (λ_=>True) w v es
def U0 (w:World)(v:Value)(l:List Stil.B9):Prop:=Fe (λ_=>True) w v l
def IF (w:World)(b o:Nat)(n:Stil.B8):Prop:=Tf (λ_=>True) w b o n
def IY (w:World)(b o:Nat)(n:Stil.B9):Prop:=X3 (λ_=>True) w b o n
def Tv.below {w:World}{b:List Stil.CC}(h:Tv w v b)(d:AO w w'):Tv w' v b:=Bj.keep h (Ac.of_below d)
def Ls.below {w:World}{b:List Stil.B8}(h:Ls w v b)(d:AO w w'):Ls w' v b:=Dt.keep h (Ac.of_below d)
def Vj.below {w:World}{b:List Stil.Elem}(h:Vj w v b)(d:AO w w'):Vj w' v b:=Dn.keep h (Ac.of_below d)
def U0.below {w:World}{b:List Stil.B9}(h:U0 w v b)(d:AO w w'):U0 w' v b:=Fe.keep h (Ac.of_below d)
def IF.below {w:World}(d:AO w w')(n:Stil.B8)(b o:Nat)(h:IF w b o n)(hl:b<w.heap.size):IF w' b o n:=Tf.keep (Ac.of_below d) n b o h trivial hl
def IY.below {w:World}(d:AO w w')(n:Stil.B9)(b o:Nat)(h:IY w b o n)(hl:b<w.heap.size):IY w' b o n:=X3.keep (Ac.of_below d) n b o h trivial hl
def Tv.at {w:World}{b:List Stil.CC}(h:Tv w v b):Dj w v b:=Bj.at h
def Ls.at {w:World}{b:List Stil.B8}(h:Ls w v b):Gg w v b:=Dt.at h
def Vj.at {w:World}{b:List Stil.Elem}(h:Vj w v b):Ir w v b:=Dn.at h
def Tv.shape {w:World}{b:List Stil.CC}(h:Tv w v b):∃a cap,v=AE a b.length cap/\b.length<=cap:=by
 obtain⟨a,cap,e,d,_⟩:=h;exact⟨a,cap,e,d.1⟩
def Vj.shape {w:World}{b:List Stil.Elem}(h:Vj w v b):∃a cap,v=AE a b.length cap/\b.length<=cap:=by
 obtain⟨a,cap,e,d,_⟩:=h;exact⟨a,cap,e,d.1⟩
def Ls.shape {w:World}{ns:List Stil.B8}(h:Ls w v ns):∃a cap,v=AE a ns.length cap/\EV a ns.length cap/\∀i (h:i<ns.length),∃b o,a=some (AK b o)/\b<w.heap.size/\IF w b (o+i*4) ns[i]:=by
 obtain⟨a,cap,j,g,d⟩:=h;exact⟨a,cap,j,g,λi hi=>by have⟨b,o,e,_,k,f⟩:=d i hi;exact⟨b,o,e,k,f⟩⟩
def U0.shape {w:World}{ns:List Stil.B9}(h:U0 w v ns):∃a cap,v=AE a ns.length cap/\EV a ns.length cap/\∀i (h:i<ns.length),∃b o,a=some (AK b o)/\b<w.heap.size/\IY w b (o+i*6) ns[i]:=by
 obtain⟨a,cap,j,g,d⟩:=h;exact⟨a,cap,j,g,λi hi=>by have⟨b,o,e,_,k,f⟩:=d i hi;exact⟨b,o,e,k,f⟩⟩
def IF.open {w:World}{b:Nat}{n:Stil.B8}(h:IF w b o n):w.cell? (AK b o)=some (AB n.kind)/\w.cell? (AK b (o+1))=some (AB n.one.op)/\
   ∃e d,w.cell? (AK b (o+2))=some e/\w.cell? (AK b (o+3))=some d/\Tv w e n.one.args/\Ls w d n.kids:=by
 have⟨l,g,⟨e,f,k⟩,⟨d,i,j⟩⟩:=(Sj _ _ _ _ _).1 h;exact⟨l,g,e,d,f,i,k,j⟩
def IY.open {w:World}{b:Nat}{n:Stil.B9}(h:IY w b o n):IF w b o n.net/\∃e d,w.cell? (AK b (o+4))=some e/\w.cell? (AK b (o+5))=some d/\Vj w e n.coils/\U0 w d n.kids:=by
 have⟨k,⟨e,f,j⟩,⟨d,g,i⟩⟩:=(Lx _ _ _ _ _).1 h;exact⟨k,e,d,f,g,j,i⟩
theorem L1 {w:World}{s:Nat}{e:TypeId}{xs:List Value}(h:w.ownsRow base e s (AE a n c) n xs):EV a n c:=by
 rcases h.2 with⟨b,i⟩ | ⟨g,j,cur,b,_,_,d,_⟩
 ·simp only[Value.slice.injEq] at b
  obtain⟨rfl,f,rfl⟩:=b;exact⟨AQ,λ_=>rfl⟩
 ·simp only[Value.slice.injEq] at b
  obtain⟨rfl,_,rfl⟩:=b;exact⟨d,λh=>by cases h⟩
theorem SV {w:World}{f:Value}{d:List Stil.CC}(h:w.ownsRow base 111 3 f d.length (Ar d)):Tv w f d:=by
 obtain⟨a,cap,rfl⟩:=Af h;have⟨m,p,e,l⟩:=(Kr.of_owns h).at;simp only[Value.slice.injEq,true_and] at e;obtain⟨rfl,rfl⟩:=e;refine⟨a,cap,rfl,L1 h,λi hi=>?_⟩;have⟨b,o,k,j,g⟩:=l i hi;exact⟨b,o,k,trivial,j,g⟩
theorem MOk.T {w:World}(m:Ap)(h:MOk w base m):Tv w m.av m.net.one.args/\Ls w m.kv m.net.kids:=by
 revert h
 refine Zq (λm=>MOk w base m->Tv w m.av m.net.one.args/\Ls w m.kv m.net.kids) ?_ m;intro k op E C B kids r h;rw[Jt] at h;rw[Ap.net_eq];refine⟨SV h.1,?_⟩;simp only at h ⊢;have s:=h.2.1;obtain⟨a,cap,rfl⟩:=Af h.2.1;refine⟨a,cap,AU,by rw[CW];exact L1 s,λi hi=>?_⟩;have d:i<kids.length:=by simpa using hi
 have⟨g,F,f,D,l,_,b⟩:=Bg h.2.1 AQ;simp only[Value.slice.injEq,true_and] at f;obtain⟨rfl,rfl⟩:=f;refine⟨g,0,rfl,trivial,l,?_⟩;have⟨z,q,x,j⟩:=Ph kids i d;have⟨u,t⟩:=r _ (CJ d) (h.2.2 _ (CJ d));rw[EH,Sj,CV];have e:=Ap.net_eq kids[i];have y:kids[i].net.kind=kids[i].kind:=by rw[e]
 have A:kids[i].net.one.op=kids[i].op:=by rw[e]
 rw[y,A];exact⟨b _ _ z,b _ _ q,⟨_,b _ _ x,u⟩,⟨_,b _ _ j,t⟩⟩
theorem kD {w:World}{es:List Eo}(h1:w.ownsRow base 46 2 v es.length (I8 es))(f:∀m∈es,EOk w base m):Vj w v (es.map Eo.elem):=by
 obtain⟨a,cap,rfl⟩:=Af h1;refine⟨a,cap,AU,by rw[CW];exact L1 h1,λi hi=>?_⟩;have e:i<es.length:=by simpa using hi
 have⟨g,r,b,q,j,_,d⟩:=Bg h1 AQ;simp only[Value.slice.injEq,true_and] at b;obtain⟨rfl,rfl⟩:=b;refine⟨g,0,rfl,trivial,j,?_⟩;have⟨l,k⟩:=OO es i e;rw[EH,CV];exact⟨d _ _ l,_,d _ _ k,SV (f _ (CJ e))⟩
theorem AOk.T {w:World}(m:Bz)(h:AOk w base m):Tv w m.net.av m.arm.net.one.args/\Ls w m.net.kv m.arm.net.kids/\Vj w m.cv m.arm.coils/\U0 w m.kv m.arm.kids:=by
 revert h
 refine KO (λm=>AOk w base m->Tv w m.net.av m.arm.net.one.args/\Ls w m.net.kv m.arm.net.kids/\Vj w m.cv m.arm.coils/\U0 w m.kv m.arm.kids) ?_ m;intro n O N L kids A h;rw[Ji] at h;rw[Bz.arm_eq];simp only at h ⊢;obtain⟨s,⟨q,y⟩,f,r⟩:=h;have⟨G,D⟩:=MOk.T n s;refine⟨G,D,kD q y,?_⟩;have B:=f;obtain⟨a,cap,rfl⟩:=Af f;refine⟨a,cap,AU,by rw[CW];exact L1 B,λi hi=>?_⟩;have d:i<kids.length:=by simpa using hi
 have⟨g,P,j,M,x,_,b⟩:=Bg f AQ;simp only[Value.slice.injEq,true_and] at j;obtain⟨rfl,rfl⟩:=j;refine⟨g,0,rfl,trivial,x,?_⟩;have⟨J,z,H,t,k,u⟩:=Wx kids i d;have⟨C,l,F,E⟩:=A _ (CJ d) (r _ (CJ d));rw[EH,Lx,Sj,CV];have e:=Bz.arm_eq kids[i];have I:kids[i].arm.net.kind=kids[i].net.kind:=by rw[e];simp only;rw[Ap.net_eq]
 have K:kids[i].arm.net.one.op=kids[i].net.op:=by rw[e];simp only;rw[Ap.net_eq]
 rw[I,K];exact⟨⟨b _ _ J,b _ _ z,⟨_,b _ _ H,C⟩,⟨_,b _ _ t,l⟩⟩,⟨_,b _ _ k,F⟩,⟨_,b _ _ u,E⟩⟩
theorem U0.take {w:World}{l:List Stil.B9}(h:U0 w (AE a l.length c) l)(f:n<=l.length):U0 w (AE a n c) (l.take n):=by
 obtain⟨s,t,e,g,m⟩:=h;simp only[Value.slice.injEq,true_and] at e;obtain⟨rfl,rfl⟩:=e;have d:(l.take n).length=n:=by rw[FP,Nat.min_eq_left f]
 refine⟨a,c,by rw[d],⟨by rw[d];exact CM f g.1,g.2⟩,λi hi=>?_⟩;rw[d] at hi;have⟨b,o,k,j,q,r⟩:=m i AQ;exact⟨b,o,k,j,q,by rw[List.getElem_take];exact r⟩
def FN (F:Nat)(x:Stil.B9)(f:Nat):Prop:=∀(h d g b:Value) (w:World),Tv w h x.net.one.args->Ls w d x.net.kids->Vj w g x.coils->U0 w b x.kids->Calls prog F #[.agg #[AB x.net.kind,AB x.net.one.op,h,d,g,b]] w (AN w (AB f))
def FT (F:Nat)(x:Stil.B8)(f:Nat):Prop:=∀(d b:Value) (w:World),Tv w d x.one.args->Ls w b x.kids->Calls prog F #[.agg #[AB x.kind,AB x.one.op,d,b]] w (AN w (AB f))
theorem gd (x:Stil.B9)(f F B m:Nat)(d g i b:Value)(w:World)(y:∀args w,(callFunc F args).run prog w=.ok (.enter F args) w)(p:FN F x f)
  (j:Tv w d x.net.one.args) (k:Ls w g x.net.kids) (q:Vj w i x.coils) (l:U0 w b x.kids) (J:w.cell? (AK B 0)=some (.func (.func F) #[] #[])) (u:B<w.heap.size):
  Calls prog 55 #[AB m, .agg #[AB x.net.kind,AB x.net.one.op,d,g,i,b],AH B] w (AN w (AB (max m f:Nat))):=by
 have r:=AV (λW h=>p d g i b W (j.below h) (k.below h) (q.below h) (l.below h));obtain⟨z,E,rfl,_⟩:=j.shape;obtain⟨G,t,rfl,_,_⟩:=k.shape;obtain⟨s,H,rfl,_⟩:=q.shape;obtain⟨C,I,rfl,_,_⟩:=l.shape;clear p;go_enter func55,ntmps55
 go_wp2_with (refine(r _ AW).mono ?_;rintro e A ⟨rfl,D⟩)
 all_goals go_ret
 all_goals refine⟨Fj ?_,AW⟩
 all_goals (congr 1;omega)
def zp0 {p:Prop}(h:p:=by
 obtain rfl:j=es.length:=by omega
 have hmn:=HM.out;rw[EC yFg] at hmn;have dZ:=AV hmn;clear hmn
 go_wp2
 go_ret;exact⟨Fj (by rw[dZ.out]),hb⟩):p:=h
theorem iz (es:List Stil.B9)(f:Stil.B9->Nat)(F:Nat)(K:∀args w,(callFunc F args).run prog w=.ok (.enter F args) w)(P:∀x∈es,FN F x (f x))
  (B g:Nat) (v:Value) (w:World) (L:U0 w v es) (hl:es.length<=999999) (H:w.cell? (AK B 0)=some (.func (.func F) #[] #[])) (J:B<w.heap.size):
  Calls prog 54 #[v,AB g, .func (.func 55) #[] #[AH B]] w (AN w (AB (Cc g (es.map f)))):=by
 obtain⟨a,cap,rfl,ab,Q⟩:=L.shape;have V:=AV Q;have IH:=AV P;have Y:=AV H;have X:=AV K;clear Q P H K ab L;go_enter func54,ntmps54
 go_wp2
 go_loopw [1,11] (λd i wr=>∃(j m:Nat),j<=es.length/\i=AB j/\d=AB m/\m=Cc g ((es.map f).take j)/\AO w wr) (λ_ i _=>es.length - (intOf i).toNat)
 case atStart=>exact⟨0,g,AQ,rfl,rfl,rfl,Below.refl _ _⟩
 case round=>
  obtain⟨j,m,hj,rfl,rfl,E,hb⟩:=hrel;have HM:=AV E;clear E;by_cases hlt:j<es.length
  ·obtain⟨b,o,rfl,l,A⟩:=V j hlt
   have⟨I,O,C,x4,x5,t,r⟩:=(IY.below hb _ _ _ A l).open;have⟨x0,S,D,M,x2,x3,q,z⟩:=I.open;have u:Hid (Cc g ((es.map f).take (j+1))=max (Cc g ((es.map f).take j)) (f es[j])):=by
    show _=_
    rw[Me yEd,EH]
   have s:Hid (∀W,AO wr W->Calls prog 55 #[AB m, .agg #[AB es[j].net.kind,AB es[j].net.one.op,D,M,O,C],AH B] W (AN W (AB (max m (f es[j]):Nat)))):=by
    intro W k;have N:=hb.trans (k.mono hb.size);exact gd es[j] (f es[j]) F B m D M O C W X (IH es[j] (CJ hlt)) (q.below k) (z.below k) (t.below k) (r.below k) ((N.cell (p:=(AK B 0)) J).trans Y.out) (CB J N.size)
   have⟨x,R⟩:=AA (es[j])
   rw[<-R] at s x0 S q z t r u;obtain⟨p0,r0,rfl,T⟩:=q.shape;obtain⟨p1,r1,rfl,Z,_⟩:=z.shape;obtain⟨p2,r2,rfl,dL⟩:=t.shape;obtain⟨p3,r3,rfl,lU,_⟩:=r.shape;have⟨y,G⟩:=AA (f x)
   rw[<-G] at s u;have ac:=CB l hb.size;clear T Z dL lU I R A l G
   go_wp2_with (go_at_call 55;refine(s _ AW).mono ?_;rintro e w2 ⟨rfl,aa⟩;have U:=(show AO w _ from hb.trans ((show AO wr _ from AW).mono hb.size)).trans (aa.mono (by have:=hb.size;simp;omega)))
   refine⟨⟨j+1,max m y,AQ,by go_num,rfl,?_,U⟩,by simp[intOf];omega⟩;rw[u.out,<-HM.out]
  ·exact zp0
theorem MF (es:List Stil.B9)(f:Stil.B9->Nat)(F:Nat)(d:∀args w,(callFunc F args).run prog w=.ok (.enter F args) w)(i:∀x∈es,FN F x (f x))
  (b:Nat) (v:Value) (w:World) (g:U0 w v es) (hl:es.length<=999999):
  Calls prog 27 #[v,AB b, .func (.func F) #[] #[]] w (AN w (AB (Cc b (es.map f)))):=by
 have k:=AV (λW B h m j=>iz es f F d i B b v W (g.below h) hl m j);obtain⟨q,t,rfl,l,_⟩:=g.shape;clear l i d;go_enter func27,ntmps27
 go_wp2_with (go_at_call 54;refine(k _ _ AW (by simp[go_sem]) AU).mono ?_;rintro e r ⟨rfl,s⟩)
 go_ret;exact⟨rfl,AW⟩
theorem gb (x:Stil.B8)(f F B m:Nat)(b d:Value)(w:World)(r:∀args w,(callFunc F args).run prog w=.ok (.enter F args) w)(j:FT F x f)
  (g:Tv w b x.one.args) (i:Ls w d x.kids) (y:w.cell? (AK B 0)=some (.func (.func F) #[] #[])) (q:B<w.heap.size):
  Calls prog 133 #[AB m, .agg #[AB x.kind,AB x.one.op,b,d],AH B] w (AN w (AB (max m f:Nat))):=by
 have k:=AV (λW h=>j b d W (g.below h) (i.below h));obtain⟨s,z,rfl,_⟩:=g.shape;obtain⟨l,p,rfl,_,_⟩:=i.shape;clear j;go_enter func133,ntmps133
 go_wp2_with (refine(k _ AW).mono ?_;rintro e t ⟨rfl,u⟩)
 all_goals go_ret
 all_goals refine⟨Fj ?_,AW⟩
 all_goals (congr 1;omega)
theorem ix (es:List Stil.B8)(f:Stil.B8->Nat)(F:Nat)(C:∀args w,(callFunc F args).run prog w=.ok (.enter F args) w)(J:∀x∈es,FT F x (f x))
  (B g:Nat) (v:Value) (w:World) (E:Ls w v es) (hl:es.length<=999999) (M:w.cell? (AK B 0)=some (.func (.func F) #[] #[])) (A:B<w.heap.size):
  Calls prog 132 #[v,AB g, .func (.func 133) #[] #[AH B]] w (AN w (AB (Cc g (es.map f)))):=by
 obtain⟨a,cap,rfl,R,K⟩:=E.shape;have T:=AV K;have U:=AV J;have X:=AV M;have V:=AV C;clear K J M C R E;go_enter func132,ntmps132
 go_wp2
 go_loopw [1,11] (λd i wr=>∃(j m:Nat),j<=es.length/\i=AB j/\d=AB m/\m=Cc g ((es.map f).take j)/\AO w wr) (λ_ i _=>es.length - (intOf i).toNat)
 case atStart=>exact⟨0,g,AQ,rfl,rfl,rfl,Below.refl _ _⟩
 case round=>
  obtain⟨j,m,Z,rfl,rfl,D,hb⟩:=hrel;have HM:=AV D;clear D;by_cases hlt:j<es.length
  ·obtain⟨b,o,rfl,k,y⟩:=T j hlt
   have⟨Y,N,z,G,x2,x3,l,r⟩:=(IF.below hb _ _ _ y k).open;have u:Hid (Cc g ((es.map f).take (j+1))=max (Cc g ((es.map f).take j)) (f es[j])):=by
    show _=_
    rw[Me yEd,EH]
   have s:Hid (∀W,AO wr W->Calls prog 133 #[AB m, .agg #[AB es[j].kind,AB es[j].one.op,z,G],AH B] W (AN W (AB (max m (f es[j]):Nat)))):=by
    intro W t;have H:=hb.trans (t.mono hb.size);exact gb es[j] (f es[j]) F B m z G W V (U es[j] (CJ hlt)) (l.below t) (r.below t) ((H.cell (p:=(AK B 0)) A).trans X.out) (CB A H.size)
   have⟨x,L⟩:=AA (es[j])
   rw[<-L] at s Y N l r u;obtain⟨p0,r0,rfl,O⟩:=l.shape;obtain⟨p1,r1,rfl,P,_⟩:=r.shape;have⟨q,I⟩:=AA (f x)
   rw[<-I] at s u;have aa:=CB k hb.size;clear O P L y k I
   go_wp2_with (go_at_call 133;refine(s _ AW).mono ?_;rintro e w2 ⟨rfl,Q⟩;have S:=(show AO w _ from hb.trans ((show AO wr _ from AW).mono hb.size)).trans (Q.mono (by have:=hb.size;simp;omega)))
   refine⟨⟨j+1,max m q,AQ,by go_num,rfl,?_,S⟩,by simp[intOf];omega⟩;rw[u.out,<-HM.out]
  ·exact zp0
theorem eZ (es:List Stil.B8)(f:Stil.B8->Nat)(F:Nat)(d:∀args w,(callFunc F args).run prog w=.ok (.enter F args) w)(i:∀x∈es,FT F x (f x))
  (b:Nat) (v:Value) (w:World) (g:Ls w v es) (hl:es.length<=999999):
  Calls prog 94 #[v,AB b, .func (.func F) #[] #[]] w (AN w (AB (Cc b (es.map f)))):=by
 have k:=AV (λW B h m j=>ix es f F d i B b v W (g.below h) hl m j);obtain⟨q,t,rfl,l,_⟩:=g.shape;clear l i d;go_enter func94,ntmps94
 go_wp2_with (go_at_call 132;refine(k _ _ AW (by simp[go_sem]) AU).mono ?_;rintro e r ⟨rfl,s⟩)
 go_ret;exact⟨rfl,AW⟩
end Go.Proofs.YtmnnkedjoecehaaGreatDoor
namespace Go.Proofs.YtmnnkedjoecehaaGreatDoor
open Tryz Stil Go.RowKit Go.Sort Go.BigFrame
theorem V6 (a b:Nat)(w:World):Calls prog 35 #[AB a,AB b] w λe w'=>e=.returned (AB (max a b:Nat))/\w'=w:=by
 go_enter func35,ntmps35
 go_wp2
 all_goals go_ret
 all_goals refine⟨Fj ?_,rfl⟩
 all_goals (congr 1;omega)
theorem xj (a:Stil.B9):Ak a<=1000000->FN 38 a (Stil.forks a):=by
 induction a using Fq with
 | h n cs kids U=>
  intro hs I L M C w q l r g;simp only at q l r g;rw[Cf] at hs;have P:∀x∈kids,Ak x<=1000000:=λx k=>by have:Ak x<=Iu kids:=Eb Ak kids x k;omega
  have an:kids.length<=999999:=by have:=Oj kids;omega
  have IH:=AV (λx k=>U x k (P x k));have yg:=AV (λx k=>CM (ZN x) (P x k));have jD:=AV (λW (h:AO w W)=>g.below h);rw[Zv];obtain⟨p0,r0,rfl,F⟩:=q.shape;obtain⟨p1,r1,rfl,K,_⟩:=l.shape;obtain⟨p2,r2,rfl,H⟩:=r.shape;obtain⟨p3,Y,rfl,E,_⟩:=g.shape;clear F K H E hs U P q l r g;have⟨s,O⟩:=AA (kids.map Stil.forks)
  have D:=AV O;rw[<-O];clear O;go_enter func38,ntmps38
  go_wp2
  have⟨W,z⟩:=AA (w.alloc (.cells #[AB n.kind,AB n.one.op,AE p0 n.one.args.length r0,AE p1 n.kids.length r1,AE p2 cs.length r2,AE p3 kids.length Y] 62))
  rw[<-z];have ae:AO w W:=by rw[z];exact Aa _ _
  have nN:w.heap.size<W.heap.size:=by rw[z];simp
  have y5:W.cell? (AL w 5)=some (AE p3 kids.length Y):=by rw[z];simp[go_sem]
  clear z;go_loopw [3,5] (λd i wr=>∃(j m:Nat),j<=kids.length/\i=AB j/\d=AB m/\m=Cc 0 ((Stil.bump s).take j)/\AO W wr) (λ_ i _=>kids.length - (intOf i).toNat)
  case atStart=>exact⟨0,0,AQ,rfl,rfl,rfl,Below.refl _ _⟩
  case round=>
   obtain⟨j,m,hj,rfl,rfl,R,y⟩:=hrel;have G:=AV R;clear R;by_cases u:j<kids.length
   ·have af:=Bh ae y
    have⟨pa,pc,X,_,T⟩:=(jD wr af).shape;simp only[Value.slice.injEq,true_and] at X;obtain⟨rfl,rfl⟩:=X;obtain⟨b,o,rfl,ag,Q⟩:=T j u;have⟨ab,M,C,x4,x5,r,g⟩:=Q.open;have⟨x0,x1,I,L,x2,x3,q,l⟩:=ab.open;have B:Hid (∀V,AO wr V->Calls prog 38 #[.agg #[AB kids[j].net.kind,AB kids[j].net.one.op,I,L,M,C]] V (AN V (AB (Stil.forks kids[j])))):=λV h=>IH kids[j] (CJ u) I L M C V (q.below h) (l.below h) (r.below h) (g.below h)
    have ac:=yg kids[j] (CJ u);have A:s.length=kids.length:=by rw[D.out,CW]
    have t:Hid (Cc 0 ((Stil.bump s).take (j+1))=max (Cc 0 ((Stil.bump s).take j)) (if j+1<kids.length then Stil.forks kids[j]+1 else Stil.forks kids[j])):=by
     show _=_
     rw[Me (by rw[KR,A];exact u),QA];have e1:s[j]'(by rw[A];exact u)=Stil.forks kids[j]:=by simp[D.out]
     rw[e1,A];rfl
    have⟨x,k⟩:=AA (kids[j])
    rw[<-k] at B t ac x0 x1 q l r g;have⟨f,S⟩:=AA (Stil.forks x)
    rw[<-S] at B t ac;obtain⟨q0,s0,rfl,F⟩:=q.shape;obtain⟨q1,s1,rfl,K,_⟩:=l.shape;obtain⟨q2,s2,rfl,H⟩:=r.shape;obtain⟨q3,s3,rfl,E,_⟩:=g.shape;have wF:=(y.cell (p:=(AL w 5)) nN).trans y5;have aj:(0:Int)<=(j:Int):=AQ
    have ao:(j:Int)<(kids.length:Int):=AQ
    have ak:IntKind.i64.wrap ((kids.length:Int) - 1)=(kids.length:Int) - 1:=by rw[IntKind.wrap_i64];omega
    have al:IntKind.i64.wrap ((f:Int)+1)=(f:Int)+1:=by rw[IntKind.wrap_i64];omega
    have aa:(f:Int)+1=((f+1:Nat):Int):=AQ
    have HG:=AV V6;have ai:Hid (∀(p:Nat) (V:World),Calls prog 35 #[AB p,AB ((f:Int)+1)] V λe w'=>e=.returned (AB (max p (f+1):Nat))/\w'=V):=λp V=>by rw[aa];exact V6 p (f+1) V
    clear F K H E k S Q ab T A q l r g aa ag;by_cases Z:j+1<kids.length
    ·rw[if_pos Z] at t
     have ah:(j:Int)<(kids.length:Int) - 1:=AQ
     go_wp2_with (first | (go_at_call 38;refine(B _ AW).mono ?_;rintro e w2 ⟨rfl,N⟩) | (go_at_call 35;refine(ai _ _).mono ?_;rintro e w3 ⟨rfl,rfl⟩))
     refine⟨⟨j+1,max m (f+1),AQ,by go_num,rfl,?_,Bh y N⟩,by simp[intOf];omega⟩;rw[t.out,<-G.out]
    ·rw[if_neg Z] at t
     have ah:¬((j:Int)<(kids.length:Int) - 1):=AQ
     go_wp2_with (first | (go_at_call 38;refine(B _ AW).mono ?_;rintro e w2 ⟨rfl,N⟩) | (go_at_call 35;refine(HG _ _ _).mono ?_;rintro e w3 ⟨rfl,rfl⟩))
     refine⟨⟨j+1,max m f,AQ,by go_num,rfl,?_,Bh y N⟩,by simp[intOf];omega⟩;rw[t.out,<-G.out]
   ·obtain rfl:j=kids.length:=by omega
    have J:=G.out;rw[EC (by rw[KR,D.out,CW];exact CG _)] at J;have dZ:=AV J;clear J
    go_wp2
    go_ret;exact⟨Fj (by rw[dZ.out]),Bh ae y⟩
def zo0 {p:Prop}(h:p:=by
 obtain rfl:j=L.length:=by omega
 have hmn:=HM.out;rw[EC yFg] at hmn;have dZ:=AV hmn;clear hmn
 go_wp2
 go_ret;exact⟨Fj (by rw[dZ.out]),Bh hb1 hb⟩):p:=h
theorem xo (l:List Stil.B9)(g:Value)(w:World)(f:E8 w g l)(hl:l.length<=1048576)(Y:Aw l<=1000000000)(C:∀x∈l,Dh x):
  Calls prog 17 #[g] w (AN w (AB (Ia l))):=by
 have K:=AV (λW h=>N5 l g W (f.below h) hl Y C);have⟨S,O,lQ⟩:=Kq C;have t:Hid (Ia l=Cc 0 ((Aq l).map Stil.forks)):=rfl;have⟨L,J⟩:=AA (Aq l)
 rw[<-J] at K S O lQ t;have IH:Hid (∀x∈L,FN 38 x (Stil.forks x)):=λx s=>xj x (by have:=Uw s;omega)
 have HG:=AV V6;rw[t.out];obtain⟨p0,r0,rfl,hz⟩:=f;clear hz C S O t J;go_enter func17,ntmps17
 go_wp2_with (go_at_call 34;refine(K _ AW).mono ?_;rintro e z ⟨⟨a,c,F,rfl,hm,hrw⟩,hb1⟩;have G:U0 z (AE a F.length c) L:=yBj;have N:=AV G;have y:F.length=L.length:=(by rw[<-hm,CW]);rw[y] at N;rw[y];clear G hrw hm y)
 go_loopw [4,5] (λd i wr=>∃(j m:Nat),j<=L.length/\i=AB j/\d=AB m/\m=Cc 0 ((L.map Stil.forks).take j)/\AO z wr) (λ_ i _=>L.length - (intOf i).toNat)
 case atStart=>exact⟨0,0,AQ,rfl,rfl,rfl,Below.refl _ _⟩
 case round=>
  obtain⟨j,m,hj,rfl,rfl,hm,hb⟩:=hrel;have HM:=AV hm;clear hm;by_cases hlt:j<L.length
  ·have⟨pa,pc,I,_,H⟩:=(N.below hb).shape
   simp only[Value.slice.injEq,true_and] at I;obtain⟨rfl,rfl⟩:=I;obtain⟨b,o,rfl,ab,D⟩:=H j hlt;have⟨P,R,g,x4,x5,r,f⟩:=D.open;have⟨x0,U,M,Q,x2,x3,q,k⟩:=P.open;have A:Hid (∀V,AO wr V->Calls prog 38 #[.agg #[AB L[j].net.kind,AB L[j].net.one.op,M,Q,R,g]] V (AN V (AB (Stil.forks L[j])))):=λV h=>IH L[j] (CJ hlt) M Q R g V (q.below h) (k.below h) (r.below h) (f.below h)
   have u:Hid (Cc 0 ((L.map Stil.forks).take (j+1))=max (Cc 0 ((L.map Stil.forks).take j)) (Stil.forks L[j])):=by
    show _=_
    rw[Me yEd,EH]
   have⟨x,s⟩:=AA (L[j])
   rw[<-s] at A u x0 U q k r f;have⟨B,E⟩:=AA (Stil.forks x)
   rw[<-E] at A u;obtain⟨q0,s0,rfl,Z⟩:=q.shape;obtain⟨q1,s1,rfl,ac,_⟩:=k.shape;obtain⟨q2,s2,rfl,aa⟩:=r.shape;obtain⟨q3,s3,rfl,X,_⟩:=f.shape;have af:(0:Int)<=(j:Int):=AQ
   have ag:(j:Int)<(L.length:Int):=AQ
   clear Z ac aa X s E D P H q k r f ab
   go_wp2_with (first | (go_at_call 38;refine(A _ AW).mono ?_;rintro e w2 ⟨rfl,ae⟩) | (go_at_call 35;refine(HG _ _ _).mono ?_;rintro e w3 ⟨rfl,rfl⟩))
   refine⟨⟨j+1,max m B,AQ,by go_num,rfl,?_,Bh hb ae⟩,by simp[intOf];omega⟩;rw[u.out,<-HM.out]
  ·exact zo0
theorem gi (x:Stil.B9)(K:Ak x<=1000000)(p:FN 30 x (Stil.forks x)):FN 60 x (1+Stil.forks x):=by
 intro f j l b w d i q k;have r:Hid (∀W,AO w W->Calls prog 30 #[.agg #[AB x.net.kind,AB x.net.one.op,f,j,l,b]] W (AN W (AB (Stil.forks x)))):=λW h=>p f j l b W (d.below h) (i.below h) (q.below h) (k.below h)
 have u:=ZN x;have⟨g,m⟩:=AA (Stil.forks x)
 rw[<-m] at r u ⊢;obtain⟨C,G,rfl,s⟩:=d.shape;obtain⟨H,B,rfl,t,_⟩:=i.shape;obtain⟨A,I,rfl,z⟩:=q.shape;obtain⟨E,J,rfl,y,_⟩:=k.shape;clear p s t z y m;go_enter func60,ntmps60
 go_wp2_with (go_at_call 30;refine(r _ AW).mono ?_;rintro e D ⟨rfl,F⟩)
 go_ret;exact⟨Fj (by go_num),AW⟩
theorem Avu (a:Stil.B9):Ak a<=1000000->FN 30 a (Stil.forks a):=by
 induction a using Fq with
 | h n cs kids s=>
  intro hs av nv cv kv w l j q f;simp only at l j q f;rw[Cf] at hs;have r:∀x∈kids,Ak x<=1000000:=λx hx=>by have:Ak x<=Iu kids:=Eb Ak kids x hx;omega
  have K:kids.length<=999999:=by have:=Oj kids;omega
  obtain⟨p0,r0,rfl,G⟩:=l.shape;obtain⟨p1,r1,rfl,L,_⟩:=j.shape;obtain⟨p2,r2,rfl,H⟩:=q.shape;clear G L H hs;rcases List.eq_nil_or_concat kids with rfl | ⟨init,z,Y⟩
  ·rw[fE]
   obtain⟨p3,g,rfl,E,_⟩:=f.shape;clear E s r K;go_enter func30,ntmps30
   go_wp2
   go_ret;exact⟨rfl,AW⟩
  ·rw[List.concat_eq_append] at Y
   subst Y;have hE:∀args w,(callFunc 60 args).run prog w=.ok (.enter 60 args) w:=enters_of func60 AX rfl;have Q:=f;obtain⟨p3,g,rfl,aa,X⟩:=f.shape;have U:=Q;have V:(init++[z]).take init.length=init:=AU
   have ae:init.length<=999999:=by simp only[CO,EF] at K;omega
   have t:Hid (∀W,AO w W->Calls prog 27 #[AE p3 init.length g,AB (Stil.forks z), .func (.func 60) #[] #[]] W (AN W (AB (Cc (Stil.forks z) (init.map (λk=>1+Stil.forks k)))))):=by
    intro W h;refine MF init (λk=>1+Stil.forks k) 60 hE (λx hx=>?_) _ _ W ?_ ae
    ·exact gi x (r x BQ) (s x BQ (r x BQ))
    ·have:=(U.below h).take (n:=init.length) AU
     rwa [V] at this
   obtain⟨b,o,rfl,i,A⟩:=X init.length AU;have R:(init++[z])[init.length]'AU=z:=AU
   rw[R] at A;have⟨ag,S,ab,J,I,q,f⟩:=A.open;have⟨N,B,T,Z,F,M,l,j⟩:=ag.open;have HZ:Hid (∀W,AO w W->Calls prog 30 #[.agg #[AB z.net.kind,AB z.net.one.op,T,Z,S,ab]] W (AN W (AB (Stil.forks z)))):=λW h=>s z AU (r z AU) T Z S ab W (l.below h) (j.below h) (q.below h) (f.below h)
   rw[Avw];have⟨y,af⟩:=AA (Stil.forks z)
   rw[<-af] at t HZ ⊢;have⟨ac,P⟩:=AA (Cc y (init.map (λk=>1+Stil.forks k)))
   rw[<-P] at t ⊢;have D:(init++[z]).length=init.length+1:=AU
   have⟨m,C⟩:=AA init.length
   rw[D];rw[<-C] at t N B F M J I ae ⊢;obtain⟨q0,s0,rfl,G⟩:=l.shape;obtain⟨q1,s1,rfl,L,_⟩:=j.shape;obtain⟨q2,s2,rfl,H⟩:=q.shape;obtain⟨q3,s3,rfl,E,_⟩:=f.shape;have ak:(0:Int)<=(m:Int):=AQ
   have ap:(m:Int)<=(m:Int)+1:=AQ
   have al:(m:Int)<(m:Int)+1:=AQ
   have ar:IntKind.i64.wrap ((m:Int)+1 - 1)=(m:Int):=by rw[IntKind.wrap_i64];omega
   have ao:m+1<=g:=by have:=aa.1;rw[D,<-C] at this;exact this
   have an:(m:Int)<=(g:Int):=AQ
   have aj:m<=g:=AQ
   clear G L H E U Q V X A ag hE af P R s r K D C aa;go_enter func30,ntmps30
   go_wp2
   have⟨W,u⟩:=AA (w.alloc (.cells #[AB n.kind,AB n.one.op,AE p0 n.one.args.length r0,AE p1 n.kids.length r1,AE p2 cs.length r2,AE (some (AK b o)) (m+1) g] 62))
   rw[<-u];have d:AO w W:=by rw[u];exact Aa _ _
   have O:W.cell? (AL w 5)=some (AE (some (AK b o)) (m+1) g):=by rw[u];simp[go_sem]
   have k0:=cell_regrown ((d.cell (p:=(AK b (o+m*6))) i).trans N);have k1:=cell_regrown ((d.cell (p:=(AK b (o+m*6+1))) i).trans B);have k2:=cell_regrown ((d.cell (p:=(AK b (o+m*6+2))) i).trans F);have k3:=cell_regrown ((d.cell (p:=(AK b (o+m*6+3))) i).trans M);have k4:=cell_regrown ((d.cell (p:=(AK b (o+m*6+4))) i).trans J);have k5:=cell_regrown ((d.cell (p:=(AK b (o+m*6+5))) i).trans I);have k6:=cell_regrown O;clear u O N B F M J I;refine wp_region_quiet_below AX AX ?_;repeat (go_big_quiet_step ((first | exact Calls.regrown_of (HZ _ (G5 d _ _)) | exact Calls.regrown_of (t _ (G5 d _ _)))))
   refine wpQuiet_nil ?_;intro _ ah;obtain⟨⟨dq,osq⟩,ai⟩:=ah;subst ai
   go_wp2
   go_ret;exact⟨rfl,G5 d _ _⟩
theorem XT (l:List Stil.B9)(b:Value)(w:World)(hr:Ep w)(hg:Ff w)(q:E8 w b l)(hl:l.length<=1048576)(y:Aw l<=1000000000)(f:∀x∈l,Dh x):
  Calls prog 13 #[b] w (AN w (AB (Ia l))):=by
 have t:=AV (λW h=>OI l b W (hr.below h) (hg.below h) (q.below h) hl y f);have⟨r,g,u⟩:=Kq f;have d:Hid (Ia l=Cc 0 ((Aq l).map Stil.forks)):=rfl;have⟨L,s⟩:=AA (Aq l)
 rw[<-s] at t r g u d;have k:∀args w,(callFunc 30 args).run prog w=.ok (.enter 30 args) w:=enters_of func30 AX rfl;have i:Hid (∀W v,U0 W v L->Calls prog 27 #[v,AB 0, .func (.func 30) #[] #[]] W (AN W (AB (Cc 0 (L.map Stil.forks))))):=λW v h=>MF L Stil.forks 30 k (λx C=>Avu x (by have:=Uw C;omega)) 0 v W h AQ
 rw[d.out];have⟨R,j⟩:=AA (Cc 0 (L.map Stil.forks))
 rw[<-j] at i ⊢;obtain⟨E,H,rfl,D⟩:=q;clear D hr hg f r g u d s k j;go_enter func13,ntmps13
 go_wp2_with (first | (go_at_call 28;refine(t _ AW).mono ?_;rintro e A ⟨⟨a,c,B,rfl,hm,hrw⟩,G⟩;have m:U0 A (AE a B.length c) L:=yBj;have z:=AV m;clear m hrw hm) | (go_at_call 27;refine(i _ _ z.out).mono ?_;rintro e I ⟨rfl,F⟩))
 go_ret;exact⟨rfl,AW⟩
