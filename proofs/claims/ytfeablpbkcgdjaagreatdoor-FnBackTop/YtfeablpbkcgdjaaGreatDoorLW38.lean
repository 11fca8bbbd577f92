import Derived.Test.YtfeablpbkcgdjaaGreatDoorLW32c
import Derived.Test.YtfeablpbkcgdjaaGreatDoorBT14
import Derived.Conc.LeavingOf
import Derived.Test.YtfeablpbkcgdjaaGreatDoorS45
set_option maxHeartbeats 40000000
set_option maxRecDepth 100000
namespace Go.Proofs.YtfeablpbkcgdjaaGreatDoor
open Tryz Stil Go.RowKit Go.Sort Go.BigFrame
section
open Go.Co
theorem P1 {l:List Stil.B5}(h:(Eh l).2≠0):(Eh l).1=[]:=by
 unfold Eh at h ⊢;split
 .rfl
 .split
  .rfl
  .rename_i b a
   rw[if_neg b,if_neg a] at h;exact absurd rfl h
theorem zLa {p:Prop}(h:p:=by
 refine bodyPost_ret (v:=.tuple #[.slice none 0 0, .int .i64 2]) (by simp[results,results5,go_sem]) rfl ⟨rfl,AX⟩):p:=h
theorem wK (l:List Stil.B5)(b:Value)(w:World)(hr:Ed w)(hg:En w)(j:Dc w b l)(hl:l.length<=1048576)(g:Bc l<=1000000000)(i:∀x∈l,Ba x)(a:(Eh l).2≠0):
  Calls prog 5 #[b] w λe w'=>e=.returned (.tuple #[.slice none 0 0, .int .i64 (Eh l).2])/\Below w.heap.size w w':=by
 have d:=Ab (λW h=>Xx l b W (hr.below h) (hg.below h) (j.below h) hl g i);have o:=Ab (λW h=>VS l b W (hr.below h) (hg.below h) (j.below h) hl g i);have m:=Ab (λW h=>TV l b W (hr.below h) (hg.below h) (j.below h) hl g i);have k:=(Vo l).1;have q:Eh l=if 0<(Am l).1 then([],1) else if 16<Hq l\/8<F9 l then([],2) else(E5 l,0):=rfl
 obtain⟨B,z,rfl,_⟩:=j;rw[q] at a ⊢;clear q i g hr hg;generalize (Am l).1=c at*;generalize Hq l=x at*;generalize F9 l=y at*;by_cases f:0<c
 .rw[if_pos f]
  rw[FO AU] at d;clear o m a f k;go_enter func5,ntmps5
  go_wp2_with (go_at_call 13;refine(d _ AX).mono ?_;rintro e s ⟨rfl,r⟩)
  refine bodyPost_ret (v:=.tuple #[.slice none 0 0, .int .i64 1]) (by simp[results,results5,go_sem]) rfl ⟨rfl,AX⟩
 rw[if_neg f] at a ⊢;rw[EN AU] at d;by_cases D:(16:Int)<x
 .rw[if_pos (.inl AU)]
  clear m a f k;go_enter func5,ntmps5
  go_wp2_with (first | (go_at_call 13;refine(d _ AX).mono ?_;rintro e s ⟨rfl,r⟩) | (go_at_call 14;refine(o _ AX).mono ?_;rintro e t ⟨rfl,u⟩))
  exact zLa
 by_cases A:(8:Int)<y
 .rw[if_pos (.inr AU)]
  clear a f k;go_enter func5,ntmps5
  go_wp2_with (first | (go_at_call 13;refine(d _ AX).mono ?_;rintro e s ⟨rfl,r⟩) | (go_at_call 14;refine(o _ AX).mono ?_;rintro e t ⟨rfl,u⟩) | (go_at_call 15;refine(m _ AX).mono ?_;rintro e w3 ⟨rfl,C⟩))
  exact zLa
 rw[if_neg AU] at a;exact absurd rfl a
theorem VR (l:List Stil.B5)(f:Value)(w:World)(hr:Ed w)(hg:En w)(t:Dc w f l)(hl:l.length<=1048576)(r:Bc l<=1000000000)(q:∀x∈l,Ba x):
  Yp prog 5 #[f] w λv w'=>∃ae:Value,v=.tuple #[ae, .int .i64 (Eh l).2]/\E2 w' ae (Eh l).1/\CQ w.heap.size w w':=by
 by_cases L:¬(Eh l).2=0
 .refine(Ss okP (Post:=λab w'=>ab=.tuple #[.slice none 0 0, .int .i64 (Eh l).2]/\CQ w.heap.size w w') fun g d=>?_).mono λab w' ⟨g,d,h1,I⟩=>⟨.slice none 0 0,h1,by rw[P1 L];exact E2.nil _,I.os,I.out,I.size,I.block⟩
  have e1:Ed {w with tape:=g,drawn:=d}=Ed w:=AY
  have e2:En {w with tape:=g,drawn:=d}=En w:=AY
  have e3:Dc {w with tape:=g,drawn:=d} f l=Dc w f l:=AY
  exact(wK l f {w with tape:=g,drawn:=d} (e1 ▸ hr) (e2 ▸ hg) (e3 ▸ t) hl r q L).mono λe w' h=>⟨_,h.1,rfl,h.2.os,h.2.output,h.2.size,h.2.block⟩
 obtain⟨K,hb,hk⟩:=PP (Decidable.not_not.1 L);rw[P0 K hb hk];clear L;intro fr cs Stop hn;have u:∃c0 c1 d,Tryz.f5.body=some (GU [c0,c1] d):=⟨_,_,_,rfl⟩
 obtain⟨c0,c1,d,u⟩:=u;have dF:=Go.Conc.resultsC_tmp2 (P:=prog) (fn:=Tryz.f5) rfl;rw[Go.Co.enter_at #[f] func5 u];simp only[ntmps5,CS,CC,CM,Nat.reduceAdd,Nat.reduceSub,DF,DG,DJ,DI,C3,CY];unfold Tryz.f5 at u;simp only[GU] at u;cases u;obtain⟨B,ny⟩:∃B:Act->World->Prop,B=(λj W=>(∃(u2 V Z O N u7 J C aa S E G U H D:Value),j=⟨#[f,undef,u2,V,Z,O,N,u7,J,C,aa,S,E,G,U,H,D,undef,undef],[]⟩)/\CQ w.heap.size w W):=⟨_,rfl⟩
 have pX:Hid (B=(λj W=>(∃(u2 V Z O N u7 J C aa S E G U H D:Value),j=⟨#[f,undef,u2,V,Z,O,N,u7,J,C,aa,S,E,G,U,H,D,undef,undef],[]⟩)/\CQ w.heap.size w W)):=ny;clear ny;refine NH okP [_,_] (R:=B) ?_ ?_
 .intro g k
  obtain⟨W,M⟩:∃W:World,W={w with tape:=g,drawn:=k}:=⟨_,rfl⟩
  rw[<-M];have i:Tp w W:=⟨g,k,M⟩
  have wL:Hid (∀c,Below W.heap.size W c->CQ w.heap.size w c):=by
   intro c h;subst M;exact⟨h.os,h.output,h.size,h.block⟩
  have HT:Hid (∀c,Below W.heap.size W c->Calls prog 13 #[f] c λe w'=>e=.returned (.bool true)/\Below c.heap.size c w'):=by
   intro c h;have h2:=Xx l f c ((hr.blw i.blw).below h) ((hg.blw i.blw).below h) ((t.blw i.blw).below h) hl r q;rw[EN K] at h2;exact h2
  have HB:Hid (∀c,Below W.heap.size W c->Calls prog 14 #[f] c λe w'=>e=.returned (.int .i64 (Hq l))/\Below c.heap.size c w'):=λc h=>VS l f c ((hr.blw i.blw).below h) ((hg.blw i.blw).below h) ((t.blw i.blw).below h) hl r q
  have HK:Hid (∀c,Below W.heap.size W c->Calls prog 15 #[f] c λe w'=>e=.returned (.int .i64 (F9 l))/\Below c.heap.size c w'):=λc h=>TV l f c ((hr.blw i.blw).below h) ((hg.blw i.blw).below h) ((t.blw i.blw).below h) hl r q
  have h1:¬(16:Int)<(Hq l:Int):=AU
  have h2:¬(8:Int)<(F9 l:Int):=AU
  clear hb hk K;generalize Hq l=x at*;generalize F9 l=y at*;clear M i hr hg t hl r q hn;refine Qj ?_
  go_wp2
  refine Qj ?_
  go_wp2_with (first | (go_at_call 13;refine(HT _ AX).mono ?_;rintro e w1 ⟨rfl,ap⟩) | (go_at_call 14;refine(HB _ AX).mono ?_;rintro e w2 ⟨rfl,ao⟩) | (go_at_call 15;refine(HK _ AX).mono ?_;rintro e w3 ⟨rfl,ar⟩))
  refine OW ?_;rw[pX.out];exact⟨⟨_,_,_,_,_,_,_,_,_,_,_,_,_,_,_,rfl⟩,wL _ AX⟩
 intro j W1 ac;rw[pX.out] at ac;clear pX B K hb hk;obtain⟨g,k,⟨u2,V,Z,O,N,u7,J,C,aa,S,E,G,U,H,D,rfl⟩,m⟩:=ac;replace m:CQ w.heap.size w W1:=⟨m.os,m.out,m.size,m.block⟩
 refine Ur okP λx1 h=>?_
 have t1:=(Tp.refl W1).al h;refine Px okP λx2 h=>?_
 have t2:=t1.al h;simp only[CS,CC,CM,Nat.reduceAdd,Cd,List.range,List.range.loop];refine Ov okP rfl A0 yFb (v:=f) (λ_=>by go_simp) (λ_=>by simp[go_sem]) λx3 h=>?_
 have t3:=t2.al h;have vT:∀c,Tp W1 c->Yp prog 16 #[f] c λv w'=>E2 w' v (E5 l)/\CQ w.heap.size w w':=by
  intro c s;have z:CQ w.heap.size w c:=m.trans s.blw;refine(sS l f c (hr.blw z) (hg.blw z) (t.blw z) hl r q).mono λab w' ⟨h1,h7⟩=>⟨h1,z.trans (h7.le z.size)⟩
 refine NI okP rfl A0 yFb rfl func16 rfl (vals:=#[f]) (by simp[Act.eval,Act.put]) (λc h=>vT c (t3.al h)) λo A hp=>?_
 obtain⟨hO,T⟩:=hp;clear vT t1 t2 t3 h;refine Ov okP rfl A0 yFb (v:=o) (λ_=>by simp[Act.put];go_simp) (λ_=>by simp[go_sem]) λx4 h=>?_
 have t4:=(Tp.refl A).al h;refine Ov okP rfl A0 yFb (v:=.int .i64 0) (λ_=>by simp[Act.put];go_simp) (λ_=>by simp[go_sem]) λx5 h=>?_
 have t5:=t4.al h;refine LP okP λX h=>?_
 have t6:=t5.al h;clear t4 t5 h;simp only[Act.put];refine OM okP (Q:=λe a w'=>e=.ret/\a.defers=[]/\a.tmps.getD 2 undef=o/\a.tmps.getD 3 undef=.int .i64 0/\Tp X w') (λe a w h=>.inr h.1) (fun g k=>?_) ?_ ?_
 .have s:Tp X {X with tape:=g,drawn:=k}:=⟨g,k,rfl⟩
  revert s
  generalize {X with tape:=g,drawn:=k}=Y;intro s
  go_wp2
 .rintro j w' ⟨g,d,h,_⟩
  cases h
 .rintro j w' an ⟨g,d,_,hd,ai,ag,s⟩
  refine Q9 okP (fr':=fr.finish (.tuple #[o, .int .i64 0])) (cs':=cs) (λad=>?_) λak h=>?_
  .have hv:=dF j.tmps
   rw[ai,ag] at hv;exact Go.Conc.stepG_leave (b:=Go.Conc.base 5) rfl hd func5 (hv ad).1 (hv ad).2
  .have aj:Tp A ak:=by
    obtain⟨af,d1,rfl⟩:=t6;obtain⟨ah,d2,rfl⟩:=s.al ⟨g,d,rfl⟩;exact(show Tp A _ from⟨ah,d2,rfl⟩).al h
   obtain⟨af,d1,rfl⟩:=aj;have e:E2 {A with tape:=af,drawn:=d1} o (E5 l)=E2 A o (E5 l):=AY
   exact hn _ _ ⟨o,rfl,e ▸ hO,T.os,T.out,T.size,T.block⟩
end
variable {F:FuncId}{W w':World}{fn:Func}
def fS (w':World)(R:List Stil.B5 × Int)(e:Ending):Prop:=∃(a:Option Addr) (c:Nat),e=.returned (.tuple #[.slice a R.1.length c, .int .i64 R.2])/\Dc w' (.slice a R.1.length c) R.1
theorem nh (w:World):Calls prog 22 #[.nilIface] w λe w'=>e=.returned (.int .i64 0)/\w'=w:=by
 have h:∀w:World,(Instr.typeAssert .nilIface 44 85 true).run prog w=.ok (.tuple #[.int .i64 0, .bool false]) w:=λw=>by kernel_rfl
 go_enter func22,ntmps22
 go_wp2
 go_ret;exact⟨rfl,rfl⟩
theorem nf (c:Int)(w:World):Calls prog 22 #[.iface 85 (.int .i64 c)] w λe w'=>e=.returned (.int .i64 c)/\w'=w:=by
 have h:∀w:World,(Instr.typeAssert (.iface 85 (.int .i64 c)) 44 85 true).run prog w=.ok (.tuple #[.int .i64 c, .bool true]) w:=λw=>by kernel_rfl
 go_enter func22,ntmps22
 go_wp2
 go_ret;exact⟨rfl,rfl⟩
theorem j8 (L:List Stil.Dj)(b o cap:Nat)(f:Option Addr)(p:L≠[]->f=some ⟨b,o,none⟩)(w:World)(xs:List Stil.B5)(u:Ed w)(z:Hl w)(C:En w)(B:LAt w b o L)(hl:L.length<=1000)(q:∀x∈L,x.fits)(D:L.length<=cap)(A:(Ew L).1=0)(cs:List (List Stil.Dj))(n:Stil.UpR cs xs)(h:cs.flatten=L)(y:∀x∈xs,Ba x)(j:Bc xs<=4000)(E:xs.length<=1000):
  Calls prog 7 #[.slice f L.length cap] w λe w'=>fS w' (FW xs) e/\Below w.heap.size w w':=by
 have t:=Ci (gA L b o cap f p w xs u z C B hl q D A cs n h y j E);obtain⟨R,s⟩:∃R,R=FW xs:=⟨_,rfl⟩
 rw[<-s] at t ⊢;clear p s u z C B q A n h y j;go_enter func7,ntmps7;go_upto_region 2 with(go_at_call 21;refine t.mono ?_;rintro e I ⟨⟨a,c,H,rfl,m,r⟩,k⟩;have l:=KO m;have g:=KO r;clear m r)
 rcases g.out with⟨rfl,d⟩ | ⟨rfl,d⟩
 .have i:Hid (R.2=0):=d
  clear d g
  go_wp2_with (go_at_call 22;refine(nh _).mono ?_;rintro e G ⟨rfl,rfl⟩)
  refine bodyPost_ret (v:=.tuple #[.slice a R.1.length c, .int .i64 0]) (by simp[results,results7,go_sem]) rfl ⟨⟨a,c,by rw[i.out],l.out⟩,k⟩
 .have i:Hid (0<R.2):=d
  clear d g
  go_wp2_with (go_at_call 22;refine(nf _ _).mono ?_;rintro e G ⟨rfl,rfl⟩)
  refine bodyPost_ret (v:=.tuple #[.slice a R.1.length c, .int .i64 R.2]) (by simp[results,results7,go_sem]) rfl ⟨⟨a,c,rfl,l.out⟩,k⟩
open Go.Co Go.Conc
theorem ZT (d:prog.funcs[F]?=some fn)(b:fn.results=#[.tmp 2])(j:prog.inits.idxOf? F=none){fr:Frame}(g:fr.mode=.returning)(hd:fr.defers=[])(h:fr.kind=.normal)(e:fr.fn=F)(c:fr.tmps.getD 2 undef=.bool true)(W:World):
  stepG prog true (G fr []) W=.ended (.done (.bool true)) W #[]:=by
 have a:=resultsC_tmp (P:=prog) b fr.tmps W;rw[c] at a;obtain⟨f,defers,kind,i⟩:=fr;simp_all[G,stepG,unwind,doReturn,seen,GStep.after]
theorem ZV {c:Code}(b:prog.funcs[F]?=some fn)(f:fn.body=some c)(g:fn.results=#[.tmp 2])(j:prog.inits.idxOf? F=none){args:Array Value}{Post:Value->World->Prop}
  (h:Go.Co.Comes prog (G (Frame.enter prog F args .normal) []) W (Q0 F W)) (l:∀w',CQ W.heap.size W w'->Post (.bool true) w'):
  ∃N last o w' e,runNT prog (N+1) (solo (G (Frame.enter prog F args .normal) []) W) #[]=(.ended o w',e)/\runN prog N (solo (G (Frame.enter prog F args .normal) []) W)=.next last/\step prog last=.ended o w'/\Conc.Good prog Post last o w' e:=by
 rw[Go.Co.enter_at args b f] at h ⊢;refine jH ⟨λi hi=>?_,λc n=>by cases n⟩ (h.mono λs w' _ hF d=>?_)
 .obtain rfl:i=.code c:=by simpa[G,Frame.at,Go.Conc.base] using hi
  trivial
 .obtain⟨t,rfl,k,hd,q,m,r,a⟩:=hF
  exact⟨rfl, .bool true,#[],ZT b g j k hd q m r _,AW,l _ ⟨a.os,a.out,a.size,a.block⟩⟩
theorem Hl.blw {w:World}(h:Hl w)(a:CQ w.heap.size w w'):Hl w':=by
 have e:Hl {w' with tape:=w.tape,drawn:=0}=Hl w':=AY
 exact e ▸ h.below (a.tape 0)
theorem dS (l:List Stil.B5):(Eh l).1=[]\/(Eh l).1=E5 l:=by
 unfold Eh;split
 .exact .inl rfl
 .split
  .exact .inl rfl
  .exact .inr rfl
theorem ZW {l:List Stil.B5}(a:∀x∈l,Ba x):(∀x∈(Eh l).1,x.fits)/\(Eh l).1.length<=800:=by
 rcases dS l with h | h<;>rw[h]
 .exact⟨(λx b=>by cases b),DK _⟩
 .exact⟨qk a,Va a⟩
def upX (l:List Stil.B5):List Stil.B5:=if(Eh l).2=0 then Af l else []
theorem xT {l:List Stil.B5}(c:∀x∈l,Ba x):(Ew (Eh l).1).1=0/\Stil.UpR (La (Eh l).1) (upX l)/\FW (upX l)=(upX l,0)/\(∀x∈upX l,Ba x)/\Bc (upX l)<=4000/\(upX l).length<=1000:=by
 unfold upX;by_cases h:(Eh l).2=0
 .obtain⟨a,b,d⟩:=PP h
  obtain⟨i,f⟩:=YX c a b d;obtain⟨n,m,o,_,g⟩:=Ve c a;obtain⟨_,k,j,_⟩:=Jk a;rw[if_pos h,P0 a b d];exact⟨by rw[UK c b d],i,f,g,AU,AU⟩
 .rw[if_neg h,P1 h]
  exact⟨rfl,rfl,rfl,(λx e=>by cases e),DK _,DK _⟩
theorem eS {d:Option Addr}{g:Nat}{L:List Stil.Dj}(h:Hu W (.slice d L.length g) L):∃b o,(L≠[]->d=some ⟨b,o,none⟩)/\LAt W b o L:=by
 obtain⟨a,cap,k,f⟩:=h;cases k;cases L with
 | nil=>exact⟨0,0,λh=>absurd rfl h,λh=>absurd rfl h,λi hi=>(by cases hi)⟩
 | cons x L=>
  obtain⟨b,o,c,l,_⟩:=f 0 AW;refine⟨b,o,λ_=>c,λ_=>l,λi hi=>?_⟩;obtain⟨m,n,e,_,j⟩:=f i hi;rw[c] at e;cases e;exact j
theorem WT {l:List Stil.B5}{w:World}{r:Value}{b:List Stil.Dj}{d:Int}(k:b=(Eh l).1)(j:d=(Eh l).2)(h:∃u:Value,r=.tuple #[u, .int .i64 (Eh l).2]/\E2 w' u (Eh l).1/\CQ w.heap.size w w'):
  ∃g c,r=.tuple #[.slice g b.length c, .int .i64 d]/\b.length<=c/\Hu w' (.slice g b.length c) b/\CQ w.heap.size w w':=by
 obtain⟨u,rfl,⟨a,c,rfl,f,i⟩,e⟩:=h;rw[j,k];exact⟨a,c,rfl,f,i,e⟩
theorem zg0 {p:Prop}(h:p:=by
 rintro a' w' todo ⟨τ,d,_,hd,ht,hb⟩
 exact Go.Co.Comes.stop ⟨_,rfl,rfl,hd,rfl,rfl,ht,hb.os,hb.out,hb.size,hb.block⟩):p:=h
open Classical in
theorem m8 (HD:∀u w,BytesAt w u->Calls prog 4 #[u] w (QZ w))(u:Value)(w:World)(X:Ed w)(Z:En w)(an:Hl w)(hu:BytesAt w u):
  Go.Co.Comes prog (Go.Conc.G (Frame.enter prog 3 #[u] .normal) []) w (Q0 3 w):=by
 have dF:=Go.Conc.resultsC_tmp (P:=prog) (fn:=Tryz.f3) rfl;have gy:Hid (∀τ d,BytesAt {w with tape:=τ,drawn:=d} u):=fun τ d=>by
  have e:BytesAt {w with tape:=τ,drawn:=d} u=BytesAt w u:=AY
  exact e ▸ hu
 obtain⟨ua,ul,uc,rfl,-,-,-⟩:=hu;by_cases bf:1048576<ul
 .refine xl okP (v:=.bool true) (Post:=λw'=>CQ w.heap.size w w') (fun τ d=>?_) ?_
  .obtain⟨W,y⟩:∃W:World,W={w with tape:=τ,drawn:=d}:=⟨_,rfl⟩
   rw[<-y];have wL:Hid (CQ w.heap.size w W):=by subst y;exact⟨rfl,rfl,B7 _,λ_ _=>rfl⟩
   clear y X Z;go_enter func3,ntmps3
   go_wp2
   go_ret;exact⟨rfl,wL.out⟩
  .intro fr w' W hl hf ⟨τ,d,V⟩
   refine Go.Co.Comes.stop ⟨fr,rfl,hl.1,hl.2.1,hl.2.2.1,hf,?_,V.os,V.out,V.size,V.block⟩;obtain⟨fn,aQ,hr⟩:=hl.2.2.2;rw[hf,func3] at aQ;cases aQ;have:=(dF fr.tmps W).1
   rw[hr] at this;injection this with h3
   exact h3.symm
 have ac:∃c0 c1 s r4 c5 c6 E c9 aT d,Tryz.f3.body=some (GU [c0,c1,s] (.seq r4 (GU [c5,c6,E,c9] (.seq aT d)))):=⟨_,_,_,_,_,_,_,_,_,_,rfl⟩
 obtain⟨c0,c1,s,r4,c5,c6,E,c9,aT,d,ac⟩:=ac;rw[Go.Co.enter_at #[.slice ua ul uc] func3 ac];simp only[ntmps3,CS,CC,CM,Nat.reduceAdd,Nat.reduceSub,DF,DG,DJ,DI,C3,CY];unfold Tryz.f3 at ac;simp only[GU] at ac;cases ac;obtain⟨RA,pX⟩:∃RA:Act->World->Prop,Hid (RA=(λa' W=>∃(ae af aj ag ad:Value) (l:List Stil.B5) (z:Option Addr) (s:Nat),a'=⟨#[.slice ua ul uc,undef, .bool false, .slice z l.length s,undef,undef,undef,undef,undef,undef,undef,undef,ae,af,aj,ag,ad,undef,undef,undef,undef,undef,undef,undef,undef,undef,undef,undef,undef,undef,undef,undef,undef,undef,undef,undef,undef,undef,undef,undef,undef,undef,undef,undef,undef,undef,undef,undef,undef,undef,undef,undef,undef,undef,undef,undef,undef,undef,undef,undef,undef,undef,undef,undef,undef,undef],[]⟩/\Dc W (.slice z l.length s) l/\((∀x∈l,Ba x)/\l.length<=1048576/\Bc l<=1000000000)/\CQ w.heap.size w W)):=⟨_,rfl⟩
 refine NH okP [_,_,_] (R:=RA) ?_ ?_
 .intro τ A
  obtain⟨W,y⟩:∃W:World,W={w with tape:=τ,drawn:=A}:=⟨_,rfl⟩
  rw[<-y];have wL:Hid (∀j,Below W.heap.size W j->CQ w.heap.size w j):=by
   intro j h;subst y;exact⟨h.os,h.output,h.size,h.block⟩
  have a5:=DU (HD _ _ (y ▸ gy.out τ A));clear y X Z an gy HD dF;refine Qj ?_
  go_wp2
  refine Qj ?_
  go_wp2
  refine Qj ?_
  go_wp2_with (go_at_call 4;refine a5.mono ?_;rintro e w1 ⟨l,a1,c1,rfl,zl,fU,av⟩)
  refine OW ?_;rw[pX.out];exact⟨_,_,_,_,_,l,a1,c1,rfl,zl,fU,wL _ av⟩
 intro a' W1 ah;rw[pX.out] at ah;clear pX RA gy HD;obtain⟨τ,A,ae,af,aj,ag,ad,l,z,s,rfl,M,⟨U,au,ap⟩,L⟩:=ah;have e1:Dc {W1 with tape:=τ,drawn:=A} (.slice z l.length s) l=Dc W1 (.slice z l.length s) l:=AY
 replace M:=e1 ▸ M;replace L:CQ w.heap.size w W1:=⟨L.os,L.out,L.size,L.block⟩
 clear e1;obtain⟨O,I⟩:∃O,O=(Eh l).2:=⟨_,rfl⟩
 obtain⟨m,lN⟩:∃m,m=(Eh l).1:=⟨_,rfl⟩
 obtain⟨pI,iG⟩:=ZW U;rw[<-lN] at pI iG;refine cR λ_ t=>?_
 simp only[CS,CC,CM,Nat.reduceAdd,Cd,List.range,List.range.loop];refine cP t (.slice z l.length s) λ_ t=>?_
 try walk_nrm
 refine cC t #[.slice z l.length s] func5 (Post:=λak w'=>(∃g c,ak=.tuple #[.slice g m.length c, .int .i64 O]/\m.length<=c/\Hu w' (.slice g m.length c) m)/\CQ W1.heap.size W1 w') (λj t=>(VR l _ j (X.blw (L.trans t.blw)) (Z.blw (L.trans t.blw)) (M.blw t.blw) au ap U).mono λak w' h=>let ⟨g,c,h1,h2,h3,h4⟩:=WT lN I h;⟨⟨g,c,h1,h2,h3⟩,t.lw h4⟩) λgt W2 V=>?_
 obtain⟨⟨D,C,rfl,a2,aC⟩,ay⟩:=V;clear t;have t:=Tp.refl W2;try walk_nrm
 refine cP t (.tuple #[.slice D m.length C, .int .i64 O]) λ_ t=>?_
 try walk_nrm
 refine cP t (.slice D m.length C) λ_ t=>?_
 try walk_nrm
 refine cP t (.int .i64 O) λ_ t=>?_
 try walk_nrm
 refine cP t (.slice D m.length C) λ_ t=>?_
 try walk_nrm
 refine cP t (.int .i64 O) λ_ t=>?_
 try walk_nrm
 refine cN t λab t=>?_
 have ax:CQ W1.heap.size W1 ab:=ay.trans t.blw;have uM:CQ w.heap.size w ab:=L.trans (ax.le L.size);have uO:=M.blw ax;have uN:=aC.blw t.blw;clear t ay ax aC M L;try simp only[Act.put]
 obtain⟨r,qR⟩:∃r,r=upX l:=⟨_,rfl⟩
 obtain⟨hz,hU,ai,Y,lq,zV⟩:=xT U;rw[<-lN] at hz hU;rw[<-qR] at hU ai Y lq zV;have vX:∀W,CQ w.heap.size w W->Dc W (.slice z l.length s) l->Calls prog 6 #[.slice z l.length s] W λe w'=>∃a n c,e=.returned (.tuple #[.slice a n c, .int .i64 O])/\Below W.heap.size W w':=λW _ hA=>(pT l _ W [] [] ⟨(λb hb=>by cases hb),λx hx=>by cases hx⟩ hA au ap U).mono λe w' ⟨a,c,xs,he,_,_,hb⟩=>⟨a,_,c,by rw[I];exact he,hb⟩
 have wM:∀W,CQ w.heap.size w W->Hu W (.slice D m.length C) m->Calls prog 7 #[.slice D m.length C] W λe w'=>∃a c,e=.returned (.tuple #[.slice a r.length c, .int .i64 0])/\Dc w' (.slice a r.length c) r/\Below W.heap.size W w':=λW hB hI=>by
  obtain⟨b,o,aX,aZ⟩:=eS hI;refine(j8 m b o C D aX W r (X.blw hB) (an.blw hB) (Z.blw hB) aZ AU pI a2 hz _ hU (oj hz).1 Y lq zV).mono λe w' ⟨hr,hb⟩=>?_
  rw[ai] at hr;obtain⟨a,c,he,T⟩:=hr;exact⟨a,c,he,T,hb⟩
 by_cases aa:O=0
 .subst aa
  have ao:r=Af l:=by rw[qR];exact if_pos I.symm
  obtain⟨aw,-,-⟩:=PP I.symm;have uQ:=yo U aw;rw[<-ao] at uQ;obtain⟨RB,nD⟩:∃RB:Act->World->Prop,Hid (RB=(λa' W=>∃(u6 u7 ae af aj ag ad eY eX jJ aI aJ aF aN aM aV aB aD aS aG aO aA aR az aE aW aK:Value) (H:Option Addr) (E:Nat),a'=⟨#[.slice ua ul uc,undef, .bool false, .slice z l.length s, .slice D m.length C, .int .i64 0,u6,u7, .slice H r.length E, .int .i64 0,undef,undef,ae,af,aj,ag,ad,eY,eX,jJ,aI,aJ,aF,aN,aM,aV,aB,aD,aS,aG,aO,aA,aR,az,aE,aW,aK,undef,undef,undef,undef,undef,undef,undef,undef,undef,undef,undef,undef,undef,undef,undef,undef,undef,undef,undef,undef,undef,undef,undef,undef,undef,undef,undef,undef,undef],[]⟩/\Dc W (.slice z l.length s) l/\Hu W (.slice D m.length C) m/\Dc W (.slice H r.length E) r/\CQ w.heap.size w W)):=⟨_,rfl⟩
  refine NH okP [_,_,_,_] (R:=RB) ?_ ?_
  .intro τ A
   obtain⟨W,y⟩:∃W:World,W={ab with tape:=τ,drawn:=A}:=⟨_,rfl⟩
   rw[<-y];have B:Tp ab W:=⟨τ,A,y⟩
   have J:CQ w.heap.size w W:=uM.trans B.blw;have S:Hid (∀j,Below W.heap.size W j->CQ w.heap.size w j):=λj h=>J.trans ((CQ.of h).le J.size)
   have HA:Hid (∀j,Below W.heap.size W j->Dc j (.slice z l.length s) l):=λj h=>(uO.blw B.blw).below h
   have HI:Hid (∀j,Below W.heap.size W j->Hu j (.slice D m.length C) m):=λj h=>(uN.blw B.blw).below h
   have HS:Hid (∀j,Below W.heap.size W j->Calls prog 6 #[.slice z l.length s] j λe w'=>∃a n c,e=.returned (.tuple #[.slice a n c, .int .i64 0])/\Below j.heap.size j w'):=λj h=>vX j (S _ h) (HA _ h)
   have HU:Hid (∀j,Below W.heap.size W j->Calls prog 7 #[.slice D m.length C] j λe w'=>∃a c,e=.returned (.tuple #[.slice a r.length c, .int .i64 0])/\Dc w' (.slice a r.length c) r/\Below j.heap.size j w'):=λj h=>wM j (S _ h) (HI _ h)
   clear y B J uO uN uM X Z an vX wM dF I lN qR ao uQ aw hz hU ai Y pI U;refine Qj ?_
   go_wp2_with (go_at_call 6;refine(HS _ AX).mono ?_;rintro e w1 ⟨a1,n1,c1,rfl,av⟩)
   refine Qj ?_
   go_wp2
   refine Qj ?_
   go_wp2_with (go_at_call 7;refine(HU _ AX).mono ?_;rintro e w2 ⟨H,E,rfl,aU,aY⟩)
   refine Qj ?_
   go_wp2
   refine OW ?_;rw[nD.out];exact⟨_,_,_,_,_,_,_,_,_,_,_,_,_,_,_,_,_,_,_,_,_,_,_,_,_,_,_,H,E,rfl,HA _ AX,HI _ AX,aU,S _ AX⟩
  intro a' K ah;rw[nD.out] at ah;clear nD RB vX wM uM uO uN;obtain⟨τ,A,u6,u7,ae,af,aj,ag,ad,eY,eX,jJ,aI,aJ,aF,aN,aM,aV,aB,aD,aS,aG,aO,aA,aR,az,aE,aW,aK,H,E,rfl,M,xH,vJ,N⟩:=ah;have e1:Dc {K with tape:=τ,drawn:=A} (.slice z l.length s) l=Dc K (.slice z l.length s) l:=AY
  have e2:Hu {K with tape:=τ,drawn:=A} (.slice D m.length C) m=Hu K (.slice D m.length C) m:=AY
  have e3:Dc {K with tape:=τ,drawn:=A} (.slice H r.length E) r=Dc K (.slice H r.length E) r:=AY
  replace M:=e1 ▸ M;replace xH:=e2 ▸ xH;replace vJ:=e3 ▸ vJ;replace N:CQ w.heap.size w K:=⟨N.os,N.out,N.size,N.block⟩
  clear e1 e2 e3;have aH:m=(Eh r).1:=by rw[uQ];exact lN
  have aP:(0:Int)=(Eh r).2:=by rw[uQ];exact I
  refine cR λ_ t=>?_
  simp only[CS,CC,CM,Nat.reduceAdd,Cd,List.range,List.range.loop];refine cP t (.slice H r.length E) λ_ t=>?_
  try walk_nrm
  refine cC t #[.slice H r.length E] func5 (Post:=λak w'=>(∃g c,ak=.tuple #[.slice g m.length c, .int .i64 0]/\m.length<=c/\Hu w' (.slice g m.length c) m)/\CQ K.heap.size K w') (λj t=>(VR r _ j (X.blw (N.trans t.blw)) (Z.blw (N.trans t.blw)) (vJ.blw t.blw) AU AU Y).mono λak w' h=>let ⟨g,c,h1,h2,h3,h4⟩:=WT aH aP h;⟨⟨g,c,h1,h2,h3⟩,t.lw h4⟩) λgt W5 V=>?_
  obtain⟨⟨T,hc,rfl,-,og⟩,fV⟩:=V;clear t;have t:=Tp.refl W5;try walk_nrm
  refine cP t (.tuple #[.slice T m.length hc, .int .i64 0]) λ_ t=>?_
  try walk_nrm
  refine cP t (.slice T m.length hc) λ_ t=>?_
  try walk_nrm
  refine cP t (.int .i64 0) λ_ t=>?_
  try walk_nrm
  refine cP t (.slice T m.length hc) λ_ t=>?_
  try walk_nrm
  refine cP t (.int .i64 0) λ_ t=>?_
  try walk_nrm
  refine cN t λar t=>?_
  have uK:CQ K.heap.size K ar:=fV.trans t.blw;have jw:CQ w.heap.size w ar:=N.trans (uK.le N.size);have lg:=M.blw uK;have kz:=vJ.blw uK;have ku:=xH.blw uK;have jy:=og.blw t.blw;clear t fV uK og M vJ xH N;try simp only[Act.put]
  refine OM okP (Q:=λe a w'=>e=.ret/\a.defers=[]/\a.tmps.getD 2 undef=.bool true/\CQ w.heap.size w w') (λe a w h=>.inr h.1) (fun τ A=>?_) ?_ ?_
  .obtain⟨W,y⟩:∃W:World,W={ar with tape:=τ,drawn:=A}:=⟨_,rfl⟩
   rw[<-y];have B:Tp ar W:=⟨τ,A,y⟩
   have J:CQ w.heap.size w W:=jw.trans B.blw;have aL:=lg.blw B.blw;have l9:=kz.blw B.blw;have l7:=ku.blw B.blw;have lu:=jy.blw B.blw;have S:Hid (∀j,Below W.heap.size W j->CQ w.heap.size w j):=λj h=>J.trans ((CQ.of h).le J.size)
   have HN:Hid (∀j,Below W.heap.size W j->Calls prog 9 #[.slice z l.length s] j λe w'=>∃a c,e=.returned (.slice a r.length c)/\Dc w' (.slice a r.length c) r/\Below j.heap.size j w'):=λj h=>(U9 l _ j (aL.below h) au ap U).mono λe w' ⟨⟨a,c,he,T⟩,hb⟩=>by
    rw[<-ao] at he T;exact⟨a,c,he,Qi.at T,hb⟩
   have HT:Hid (∀j a c,Below W.heap.size W j->Dc j (.slice a r.length c) r->Calls prog 8 #[.slice H r.length E, .slice a r.length c] j λe w'=>e=.returned (.bool true)/\Below j.heap.size j w'):=λj a c h hA=>by
    have:=rR r r _ _ j (l9.below h) hA Y Y AU AU
    rwa [EN rfl] at this
   have HL:Hid (∀j,Below W.heap.size W j->Calls prog 10 #[.slice T m.length hc, .slice D m.length C] j λe w'=>e=.returned (.bool true)/\Below j.heap.size j w'):=λj h=>by
    have:=sE m m _ _ j (lu.below h) (l7.below h) pI pI AU AU
    rwa [EN rfl] at this
   clear y B jw lg kz ku jy J dF X Z an aL l9 l7 lu I lN qR ao uQ aw hz hU ai Y pI U aH aP ap
   go_wp2_with (first | (go_at_call 9;refine(HN _ AX).mono ?_;rintro e w6 ⟨a6,c6,rfl,a7,bg⟩) | (go_at_call 8;refine(HT _ _ _ AX a7).mono ?_;rintro e w7 ⟨rfl,a9⟩) | (go_at_call 10;refine(HL _ AX).mono ?_;rintro e w8 ⟨rfl,bc⟩))
   exact S _ AX
  .rintro a' w' ⟨τ,d,h,_⟩
   cases h
  .exact zg0
 .have ba:(r.length:Int)=0:=by rw[qR,upX,if_neg (by rw[<-I];exact aa)];rfl
  have bb:decide ((0:Int)<O)=true:=by
   rw[decide_eq_true_iff,I];rw[I] at aa;unfold Eh at aa ⊢;split
   .decide
   .split
    .decide
    .rename_i h1 h2
     rw[if_neg h1,if_neg h2] at aa;exact absurd rfl aa
  simp only[GU];refine OM okP (Q:=λe a w'=>e=.ret/\a.defers=[]/\a.tmps.getD 2 undef=.bool true/\CQ w.heap.size w w') (λe a w h=>.inr h.1) (fun τ A=>?_) ?_ ?_
  .obtain⟨W,y⟩:∃W:World,W={ab with tape:=τ,drawn:=A}:=⟨_,rfl⟩
   rw[<-y];have B:Tp ab W:=⟨τ,A,y⟩
   have J:CQ w.heap.size w W:=uM.trans B.blw;have S:Hid (∀j,Below W.heap.size W j->CQ w.heap.size w j):=λj h=>J.trans ((CQ.of h).le J.size)
   have HS:Hid (∀j,Below W.heap.size W j->Calls prog 6 #[.slice z l.length s] j λe w'=>∃a n c,e=.returned (.tuple #[.slice a n c, .int .i64 O])/\Below j.heap.size j w'):=λj h=>vX j (S _ h) ((uO.blw B.blw).below h)
   have HU:Hid (∀j,Below W.heap.size W j->Calls prog 7 #[.slice D m.length C] j λe w'=>∃a c,e=.returned (.tuple #[.slice a r.length c, .int .i64 0])/\Dc w' (.slice a r.length c) r/\Below j.heap.size j w'):=λj h=>wM j (S _ h) ((uN.blw B.blw).below h)
   clear y B J uO uN uM X Z an vX wM dF I lN qR hz hU ai Y pI U aa zV
   go_wp2_with (first | (go_at_call 6;refine(HS _ AX).mono ?_;rintro e w1 ⟨a1,n1,c1,rfl,av⟩) | (go_at_call 7;refine(HU _ AX).mono ?_;rintro e w2 ⟨H,E,rfl,aU,aY⟩))
   exact S _ AX
  .rintro a' w' ⟨τ,d,h,_⟩
   cases h
  .exact zg0
