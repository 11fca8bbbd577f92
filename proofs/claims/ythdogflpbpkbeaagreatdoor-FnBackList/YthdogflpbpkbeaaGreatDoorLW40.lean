import Derived.Test.YthdogflpbpkbeaaGreatDoorTS7
import Derived.Test.YthdogflpbpkbeaaGreatDoorTD7
import Derived.Test.YthdogflpbpkbeaaGreatDoorTD8
import Derived.Test.YthdogflpbpkbeaaGreatDoorS45
import Derived.Conc.LeavingOf
set_option linter.defProp false
set_option maxHeartbeats 4000000
set_option maxRecDepth 100000
namespace Go.Proofs.YthdogflpbpkbeaaGreatDoor
open Tryz Stil Go.RowKit Go.Sort Go.BigFrame Go.Co
section
variable {F:FuncId}{W w':AU}{fn:Func}
theorem qc{l:Ek}(h:(Gm l).2≠0):(Gm l).1=[]:=by
 unfold Gm at h⊢;split
 .rfl
 split
 .rfl
 rename_i b a;rw[BQ b,BQ a]at h;exact absurd rfl h
def zTa{p:Prop}(h:p:=by refine BH (v:=.tuple #[AG,AB 2]) (by simp[results,results9,go_sem]) rfl ⟨rfl,BV⟩):p:=h
theorem iu(l:Ek)(f:AW)(w:AU)(hr:Eh w)(hg:Ew w)(j:Dj w f l)(hl:l.length<=1048576)(i:Aw l<=1000000000)(g:∀x∈l,Ba x)(a:(Gm l).2≠0):
  Calls prog 9 #[f] w (AN w (.tuple #[AG,AB (Gm l).2])):=by
 have b:=BZ (λW h=>Vs l f W (hr.below h) (hg.below h) (j.below h) hl i g);have m:=BZ (λW h=>cw l f W (hr.below h) (hg.below h) (j.below h) hl i g);have k:=BZ (λW h=>ZS l f W (hr.below h) (hg.below h) (j.below h) hl i g);have o:=(Qk l).1;have r:Gm l=if 0<(Am l).1 then([],1) else if 16<G7 l\/8<Fg l then([],2) else(Ei l,0):=rfl
 obtain⟨B,D,rfl,_⟩:=j;rw[r]at a⊢;clear r g i hr hg;generalize (Am l).1=c at*;generalize G7 l=x at*;generalize Fg l=y at*;by_cases d:0<c
 .rw[BR d];rw[FW BS]at b;clear m k a d o;go_enter func9,ntmps9;go_wp2_with(go_at_call 30;refine(b _ BV).mo ?_;rintro e s⟨rfl,q⟩);refine BH (v:=.tuple #[AG,AB 1]) (by simp[results,results9,go_sem]) rfl ⟨rfl,BV⟩
 rw[BQ d]at a⊢;rw[FG BS]at b;by_cases z:(16:Int)<x
 .rw[BR (.inl BS)];clear k a d o;go_enter func9,ntmps9;go_wp2_with(first|(go_at_call 30;refine(b _ BV).mo ?_;rintro e s⟨rfl,q⟩)|(go_at_call 31;refine(m _ BV).mo ?_;rintro e t⟨rfl,u⟩));exact zTa
 by_cases A:(8:Int)<y
 {rw[BR (.inr BS)];clear a d o;go_enter func9,ntmps9;go_wp2_with(first|(go_at_call 30;refine(b _ BV).mo ?_;rintro e s⟨rfl,q⟩)|(go_at_call 31;refine(m _ BV).mo ?_;rintro e t⟨rfl,u⟩)|(go_at_call 32;refine(k _ BV).mo ?_;rintro e w3⟨rfl,C⟩));exact zTa};rw[BQ BS]at a;exact absurd rfl a
theorem ix(l:Ek)(f:AW)(w:AU)(hr:Eh w)(hg:Ew w)(o:Dj w f l)(hl:l.length<=1048576)(r:Aw l<=1000000000)(m:∀x∈l,Ba x):
  Z9 prog 9 #[f] w λv w'=>∃ad:AW,v=.tuple #[ad,AB (Gm l).2]/\GQ w' ad (Gm l).1/\D3 w.heap.size w w':=by
 by_cases h0:¬(Gm l).2=0
 .refine(XJ okP (Post:=λab w'=>ab=.tuple #[AG,AB (Gm l).2]/\D3 w.z w w') fun g d=>?_).mo λab w'⟨g,d,J,N⟩=>⟨AG,J,by rw[qc h0];exact GQ.nil _,N.os,N.out,N.size,N.block⟩;have e1:Eh {w with tape:=g,drawn:=d}=Eh w:=BW;have e2:Ew {w with tape:=g,drawn:=d}=Ew w:=BW;have e3:Dj {w with tape:=g,drawn:=d} f l=Dj w f l:=BW;exact(iu l f {w with tape:=g,drawn:=d} (e1 ▸ hr) (e2 ▸ hg) (e3 ▸ o) hl r m h0).mo λe w' h=>⟨_,h.1,rfl,h.2.os,h.2.output,h.2.size,h.2.block⟩
 have⟨D,hb,hk⟩:=qX (Decidable.not_not.1 h0);rw[UO D hb hk];clear h0;intro fr cs Stop hn;have u:∃c0 c1 d,Tryz.f9.body=some (IZ [c0,c1] d):=⟨_,_,_,rfl⟩;obtain⟨c0,c1,d,u⟩:=u;have fC:=Go.Conc.resultsC_tmp2 (P:=prog) (fn:=Tryz.f9) rfl;rw[Go.Co.enter_at #[f] func9 u];simp only[ntmps9,D1,DT,DW,Nat.reduceAdd,Nat.reduceSub,EV,EW,EY,EX,ED,EA];unfold Tryz.f9 at u;simp only[IZ]at u;cases u;obtain⟨z,ag⟩:∃z:Act->World->Prop,z=(λk W=>(∃(V E K H O u7 I T U aa S C M L Z:AW),k=⟨#[f,AQ,V,E,K,H,O,u7,I,T,U,aa,S,C,M,L,Z,AQ,AQ],[]⟩)/\D3 w.z w W):=⟨_,rfl⟩;have uP:=BZ ag;clear ag;refine QZ okP [_,_] (R:=z) ?_ ?_
 .intro g j;obtain⟨W,hW⟩:∃W:AU,W={w with tape:=g,drawn:=j}:=⟨_,rfl⟩;rw[<-hW];have i:Tp w W:=⟨g,j,hW⟩;have qL:Hid (∀c,AO W c->D3 w.z w c):=by intro c h;subst hW;exact⟨h.os,h.output,h.size,h.block⟩
  have HT:Hid (∀c,AO W c->Calls prog 30 #[f] c (AN c (.bool true))):=by intro c h;have h2:=Vs l f c ((hr.blw i.blw).below h) ((hg.blw i.blw).below h) ((o.blw i.blw).below h) hl r m;rwa[FG D]at h2
  have HB:=BZ (λc(h:AO W c)=>cw l f c ((hr.blw i.blw).below h) ((hg.blw i.blw).below h) ((o.blw i.blw).below h) hl r m);have HK:=BZ (λc(h:AO W c)=>ZS l f c ((hr.blw i.blw).below h) ((hg.blw i.blw).below h) ((o.blw i.blw).below h) hl r m);have J:¬(16:Int)<(G7 l:Int):=BS;have h2:¬(8:Int)<(Fg l:Int):=BS;clear hb hk D;generalize G7 l=x at*;generalize Fg l=y at*;clear hW i hr hg o hl r m hn;refine Si ?_;go_wp2;refine Si ?_;go_wp2_with(first|(go_at_call 30;refine(HT _ BV).mo ?_;rintro e w1⟨rfl,ar⟩)|(go_at_call 31;refine(HB _ BV).mo ?_;rintro e w2⟨rfl,au⟩)|(go_at_call 32;refine(HK _ BV).mo ?_;rintro e w3⟨rfl,ap⟩));refine SR ?_;rw[uP.out];exact⟨⟨_,_,_,_,_,_,_,_,_,_,_,_,_,_,_,rfl⟩,qL _ BV⟩
 intro k W1 af;rw[uP.out]at af;clear uP z D hb hk;obtain⟨g,j,⟨V,E,K,H,O,u7,I,T,U,aa,S,C,M,L,Z,rfl⟩,s⟩:=af;replace s:D3 w.z w W1:=⟨s.os,s.out,s.size,s.block⟩;refine V4 okP λx1 h=>?_;have t1:=(Tp.refl W1).al h;refine Rh okP λx2 h=>?_;have t2:=t1.al h;simp only[D1,DT,DW,Nat.reduceAdd,EF,List.range,List.range.loop];refine Qj okP rfl Br yFg (v:=f) (λ_=>by go_simp) (λ_=>by simp[go_sem]) λx3 h=>?_;have t3:=t2.al h;have zN:∀c,Tp W1 c->Z9 prog 33 #[f] c λv w'=>GQ w' v (Ei l)/\D3 w.z w w':=by intro c t;have B:D3 w.z w c:=s.tr t.blw;refine(Av6 l f c (hr.blw B) (hg.blw B) (o.blw B) hl r m).mo λab w'⟨J,h7⟩=>⟨J,B.tr (h7.le B.size)⟩
 refine Qf okP rfl Br yFg rfl func33 rfl (vals:=#[f]) xCm (λc h=>zN c (t3.al h)) λq A hp=>?_;obtain⟨hO,G⟩:=hp;clear zN t1 t2 t3 h;refine Qj okP rfl Br yFg (v:=q) (λ_=>by simp[Act.put];go_simp) (λ_=>by simp[go_sem]) λx4 h=>?_;have t4:=(Tp.refl A).al h;refine Qj okP rfl Br yFg (v:=AB 0) (λ_=>by simp[Act.put];go_simp) (λ_=>by simp[go_sem]) λx5 h=>?_;have t5:=t4.al h;refine NJ okP λX h=>?_;have t6:=t5.al h;clear t4 t5 h;simp only[Act.put];refine SA okP (Q:=λe a w'=>e=.ret/\a.defers=[]/\a.tmps.getD 2 AQ=q/\a.tmps.getD 3 AQ=AB 0/\Tp X w') (λe a w h=>.inr h.1) (fun g j=>?_) ?_ ?_
 .have t:Tp X {X with tape:=g,drawn:=j}:=⟨g,j,rfl⟩
  revert t
  generalize {X with tape:=g,drawn:=j}=Y;intro t;go_wp2
 .rintro k w'⟨g,d,h,_⟩;cases h
 rintro k w' ao⟨g,d,_,hd,ah,ak,t⟩;refine Tz okP (fr':=fr.finish (.tuple #[q,AB 0])) (cs':=cs) (λac=>?_) λaj h=>?_
 .have hv:=fC k.tmps;rw[ah,ak]at hv;exact Go.Conc.stepG_leave (b:=Go.Conc.base 9) rfl hd func9 (hv ac).1 (hv ac).2
 .have an:Tp A aj:=by
   obtain⟨ae,d1,rfl⟩:=t6;obtain⟨ai,d2,rfl⟩:=t.al ⟨g,d,rfl⟩;exact(show Tp A _ from⟨ai,d2,rfl⟩).al h
  obtain⟨ae,d1,rfl⟩:=an;have e:GQ {A with tape:=ae,drawn:=d1} q (Ei l)=GQ A q (Ei l):=BW
  exact hn _ _ ⟨q,rfl,e ▸ hO,G.os,G.out,G.size,G.block⟩
def Hr.blw{w:AU}(h:Hr w)(a:D3 w.heap.size w w'):Hr w':=by have e:Hr {w' with tape:=w.tape,drawn:=0}=Hr w':=BW;exact e ▸ h.below (a.tape 0)
theorem rL{f:Δ}{j:Nat}{L:AP}(h:Eo W (AE f L.length j) L):∃b o,(L≠[]->f=some (AK b o))/\LAt W b o L:=by
 obtain⟨a,cap,k,e⟩:=h;cases k;cases L with
 |nil=>exact⟨0,0,λh=>absurd rfl h,λh=>absurd rfl h,λi hi=>(by cases hi)⟩
 |cons x L=>have⟨b,o,d,g,_⟩:=e 0 BU;refine⟨b,o,λ_=>d,λ_=>g,λi hi=>?_⟩;have⟨n,m,c,_,l⟩:=e i hi;rw[d]at c;cases c;exact l
def l8{l:Ek}{w:AU}{r:AW}{b:AP}{d:Int}(j:b=(Gm l).1)(i:d=(Gm l).2)(h:∃u:AW,r=.tuple #[u,AB (Gm l).2]/\GQ w' u (Gm l).1/\D3 w.heap.size w w'):
  ∃g c,r=.tuple #[AE g b.length c,AB d]/\b.length<=c/\Eo w' (AE g b.length c) b/\D3 w.heap.size w w':=by obtain⟨u,rfl,⟨a,c,rfl,e,f⟩,k⟩:=h;rw[i,j];exact⟨a,c,rfl,e,f,k⟩
def OZ(w:AU)(e:Ending)(w':AU):Prop:=∃(L:AP)(a:Δ)(c:Nat),e=.returned (AE a L.length c)/\Eo w' (AE a L.length c) L/\(∀x∈L,x.fits)/\L.length<=1048576/\L.length<=c/\AO w w'
def JK(L:AP)(R:Ek × Int):Prop:=0<(Az L).1/\R=([],1)\/(Az L).1=0/\∃a,R=FT a/\Stil.UpR (Ej L) a/\(∀x∈a,Ba x)/\Aw a<=4000/\a.length<=1000
theorem Bav{L:AP}(b:∀x∈L,x.fits):∃R,JK L R:=by
 by_cases h:0<(Az L).1
 .exact⟨_,.inl ⟨h,rfl⟩⟩
 have a:=(N7 L h).1;have⟨g,d,e,f,c,_⟩:=kO a b;exact⟨_,.inr ⟨a,g,rfl,d,e,f,c⟩⟩
theorem pT{L:AP}{R:Ek × Int}(h:JK L R)(a:Δ)(c:Nat)(w:AU)(j:Eh w)(i:Hr w)(r:Ew w)(f:Eo w (AE a L.length c) L)(g:∀x∈L,x.fits)(hl:L.length<=1048576)(q:L.length<=c):
  Calls prog 5 #[AE a L.length c] w λe w'=>K7 w' R e/\AO w w':=by
 rcases h with⟨d,rfl⟩|⟨d,t,rfl,k,m,s,l⟩
 .exact tg L _ w j i f hl g d
 have⟨b,o,n,p⟩:=rL f;exact vq L b o c a n w t j i r p (Wx d) g q d _ k (Y0 d).1 m s l
theorem nf{L:AP}{R:Ek × Int}(h:JK L R)(a:Δ)(c:Nat)(w:AU)(d:Eo w (AE a L.length c) L)(f:∀x∈L,x.fits)(hl:L.length<=1048576)(k:L.length<=c):
  Calls prog 6 #[AE a L.length c] w λe w'=>K7 w' R e/\AO w w':=by
 rcases h with⟨b,rfl⟩|⟨b,m,rfl,g,j,l,i⟩
 .exact tH L _ w d hl f b
 exact vD L _ w m d f (λ_ _ _ e=>by cases e;exact k) b g j l i
theorem Aw1{L:AP}{R:Ek × Int}(h:JK L R):0<R.2\/R.2=0/\(∀x∈R.1,Ba x)/\Aw R.1<=4000/\R.1.length<=1000/\Gm R.1=(Ei R.1,0)/\JK (Ei R.1) R:=by
 rcases h with⟨f,rfl⟩|⟨f,a,rfl,i,b,e,c⟩
 .exact .inl BX
 by_cases l:0<(Am a).1
 .unfold FT;rw[BR l];exact .inl BX
 have g:(Am a).1=0:=by have:=(Qk a).1;omega
 have⟨j,n,k,_,m,d⟩:=ZV f i b g;rw[d];exact .inr ⟨rfl,b,e,c,UO g j n,.inr ⟨by rw[k],a,d.symm,m,b,e,c⟩⟩
def Rk.fits{i:Stil.Ar}(h:Rk i):i.fits:=⟨⟨by have:=h.1.1;omega,by have:=h.1.2;omega⟩,h.2.wf.1,by have:=h.2.2.2;omega,h.2.wf.2.2⟩
def K2.lst{q:Nat}{e:Ending}{w b:AU}{g P n:Nat}(h:K2 q e b w' g P n)(k:AO w b)(hg:w.heap.size<=g)(r:n<=1048576):OZ w e w':=by obtain⟨l,a,c,m,f,j,t,d,s,o⟩:=h;exact⟨l,a,c,m,f.insts Av,λi hi=>(j i hi).1.fits,BS,d,k.tr (o.mo hg)⟩
theorem tG(v:AW)(w:AU)(m:BytesAt w v):Calls prog 4 #[v] w (OZ w):=by
 have R:=Af m;obtain⟨av,lv,cv,rfl,-⟩:=m;go_enter func4,ntmps4;go_upto_region 3 with(first|(go_at_call 14;refine(j8 _ _ R.out).mo ?_;rintro e w1⟨rfl,K,L⟩;have y:=Af L;have Q:=Af K;clear K L)|(go_at_call 15;refine(E8 w.z _ _ _ Q BS BS BS).mo ?_;rintro e A⟨x,rfl,U,al,G,N⟩;have j:=BZ G;have k:=Af (y.tr (Vd N y.size));clear G N));clear R y Q;have hg:=Je j.out;have ak:x=0\/x=1\/(x=2\/x=3\/x=4)\/x=5\/¬x=0/\¬x=1/\¬x=2/\¬x=3/\¬x=4/\¬x=5:=BS;clear U al;rcases ak with rfl|rfl|g|rfl|⟨n0,n1,n2,n3,n4,n5⟩
 .go_wp2_with (go_at_call 16;refine(Ayf w.z _ _ j BS).mo ?_;rintro e w3 d;have f:=Af (d.lst k (DN _) BS);obtain⟨s,t,r,rfl,-⟩:=d);go_ret;exact f.out
 .go_wp2_with (first|(go_at_call 18;refine(cG w.z _ _ j BS).mo ?_;rintro e w3⟨s,t,r,rfl,q,O,ad,-,J,n⟩;have X:=Af q;have ag:=Af O;have ae:=Af J;have C:=Af (k.tr n);clear q O J n)|(go_at_call 17;refine(Aua w.z _ _ s _ _ ae X ag ad BS).mo ?_;rintro e w4 B;have f:=Af (B.lst C (DN _) BS);obtain⟨l4,a4,c4,rfl,-⟩:=B));go_ret;exact f.out
 .have ab:Hid (Calls prog 20 #[AH w.z] A λe w'=>∃(l:Ek)(a:Δ)(c:Nat),e=.returned (AE a l.length c)/\Dj w' (AE a l.length c) l/\((∀x∈l,Ba x)/\l.length<=1048576/\Aw l<=1000000000)/\AO w w'):=by
   refine(xX w.z 1 A [] [] ⟨(50000,λ_=>none),(λ_ _ _ _ _ h=>by cases h),⟨j.out,rfl,DN _⟩,(λ_ h=>by cases h),(λ_ h=>by cases h)⟩ BS).mo ?_;rintro e w3⟨a1,n1,c1,rfl,hS,aa⟩;have⟨l,a,c,m,z,u,d,B⟩:=hS.arms BX Av;cases m;exact⟨l,_,_,rfl,z,⟨u,BS,BS⟩,k.tr (Vd aa k.size)⟩
  have af:=Af (λ(W:AU)(l:Ek)(S:AW)(hA:Dj W S l)(z:l.length<=1048576)(u:Aw l<=1000000000)(d:∀x∈l,Ba x)=>Aui l S W [] [] ⟨(λb i=>by cases i),λx g=>by cases g⟩ hA z u d);have Y:Hid (∀(W o:AU)(l:Ek)(a:Δ)(c:Nat)(D:Θ),(∀x∈l,Ba x)->o.ownsRow W.z 73 3 (.slice a (Gm l).1.length c) (Gm l).1.length D->Sv o (ob (.slice a (Gm l).1.length c)++[]) [(Cc (Gm l).1,D)]->AO w W->AO W o->OZ w (.returned (.slice a (Gm l).1.length c)) o):=λW o l a c D H P Z i T=>by
   have⟨_,_,m,V⟩:=Jw P;cases m;refine⟨_,a,c,rfl,(Z.ice Av xBc (λb i=>by cases i)).insts Av,?_,?_,V,i.tr (T.mo i.size)⟩
   .unfold Gm
    split
    .exact λx g=>by cases g
    .split
     .exact λx g=>by cases g
     .exact YE H
   .unfold Gm
    split
    .exact EH _
    .split
     .exact EH _
     .exact DU (Qc H) BS
  rcases g with rfl|rfl|rfl
  all_goals
   go_wp2_with(first|(go_at_call 20;refine ab.mo ?_;rintro e w3⟨l,t,r,rfl,ai,⟨ac,ah,q⟩,n⟩;have C:=Af n;have M:=Af ac;clear n)|(go_at_call 19;refine(af _ l _ ai ah q M.out).mo ?_;rintro e w4⟨a4,c4,an,rfl,E,I,aj⟩;have f:=Af (Y _ _ _ _ _ _ M E I C aj);clear E I))
   go_ret;exact f.out
 .go_wp2_with (go_at_call 21;refine(Aye w.z _ _ j BS).mo ?_;rintro e w3 d;have f:=Af (d.lst k (DN _) BS);obtain⟨s,t,r,rfl,-⟩:=d);go_ret;exact f.out
 go_wp2_with (go_at_call 18;refine(cG w.z _ _ j BS).mo ?_;rintro e w3 d;have f:=Af (d.lst k (DN _) BS);obtain⟨s,t,r,rfl,-⟩:=d);go_ret;exact f.out
open Go.Conc
def nE(e:prog.funcs[F]?=some fn)(b:fn.results=#[.tmp 2])(j:prog.inits.idxOf? F=none){fr:Frame}(f:fr.mode=.returning)(hd:fr.defers=[])(g:fr.kind=.normal)(d:fr.fn=F)(c:fr.tmps.getD 2 AQ=.bool true)(W:AU):
  stepG prog true (G fr []) W=.ended (.done (.bool true)) W #[]:=by have a:=resultsC_tmp (P:=prog) b fr.tmps W;rw[c]at a;obtain⟨i,defers,kind,h⟩:=fr;simp_all[G,stepG,unwind,doReturn,seen,GStep.after]
theorem l6{c:Code}(b:prog.funcs[F]?=some fn)(j:fn.body=some c)(m:fn.results=#[.tmp 2])(r:prog.inits.idxOf? F=none){args:δ}{Post:AW->World->Prop}
  (h:Go.Co.Comes prog (G (Frame.enter prog F args .normal) []) W (gR F W)) (l:∀w',D3 W.heap.size W w'->Post (.bool true) w'):
  ∃N last o w' e,runNT prog (N+1) (solo (G (Frame.enter prog F args .normal) []) W) #[]=(.ended o w',e)/\runN prog N (solo (G (Frame.enter prog F args .normal) []) W)=.next last/\step prog last=.ended o w'/\Conc.Good prog Post last o w' e:=by
 rw[Go.Co.enter_at args b j]at h⊢;refine tL ⟨λi hi=>?_,λc k=>by cases k⟩ (h.mo λs w' _ hF d=>?_)
 .obtain rfl:i=.code c:=by simpa[G,Frame.at,Go.Conc.base]using hi
  trivial
 obtain⟨t,rfl,g,hd,q,f,n,a⟩:=hF;exact⟨rfl,.bool true,#[],nE b m r g hd q f n _,BU,l _ ⟨a.os,a.out,a.size,a.block⟩⟩
end
def PR{L:AP}{R:Ek × Int}(h:JK L R):0<(Az L).1/\R=([],1)\/(Az L).1=0/\R=([],2)\/(Az L).1=0/\R.2=0/\(∀x∈R.1,Ba x)/\R.1.length<=1000:=by
 rcases h with h|⟨a,f,rfl,d,c,e,b⟩
 .exact .inl h
 unfold FT;split
 .exact .inr (.inl ⟨a,rfl⟩)
 exact .inr (.inr ⟨a,rfl,c,b⟩)
def jP{L:AP}{R:Ek × Int}(h:JK L R)(h0:0<R.2):R.1=[]:=by
 rcases PR h with⟨_,rfl⟩|⟨_,rfl⟩|⟨_,a,_⟩
 .rfl
 .rfl
 omega
def jN{L:AP}{R:Ek × Int}(h:JK L R)(h0:R.2=0):(Am R.1).1=0/\Ai R.1=R.1/\Az (Ei R.1)=(0,0)/\Hf (Ei R.1)=((G7 R.1:Int),(Fg R.1:Int))/\(G7 R.1:Int)<=(Hf L).1/\(Fg R.1:Int)<=(Hf L).2/\(Ei R.1).length<=L.length:=by
 rcases h with⟨a,rfl⟩|⟨a,b,rfl,d,f,q,o⟩
 .exact absurd h0 BX
 by_cases l:0<(Am b).1
 .unfold FT at h0;rw[BR l]at h0;exact absurd h0 BX
 have c:(Am b).1=0:=by have:=(Qk b).1;omega
 have⟨_,_,k,n,_,i⟩:=ZV a d f c;have⟨e,m,g,j⟩:=(UF a d).2 c;rw[i];exact⟨c,e,k,n,m,g,j⟩
def At3(x y:AW)(w:AU):Sem.run prog (Instr.field 38 (.agg #[x,y]) 0) w=.ok x w:=BW
def YQ(x y:AW)(w:AU):Sem.run prog (Instr.field 30 (.agg #[x,y]) 0) w=.ok x w:=BW
open Classical in
theorem iS(l:Ek)(a:Δ)(c:Nat)(w:AU)(hr:Eh w)(hg:Ew w)(f:Dj w (AE a l.length c) l)(hl:l.length<=1048576)(i:Aw l<=1000000000)(d:∀x∈l,Ba x)(h0:(Am l).1=0)(g:Ai l=l):
  Calls prog 12 #[AE a l.length c] w (AN w (.bool true)):=by
 have r:=Af (λW (h:AO w W)=>by
  have:=Vs l _ W (hr.below h) (hg.below h) (f.below h) hl i d
  rwa [FG h0] at this)
 have k:=Af (λW (h:AO w W)=>by
  have:=Xe l _ W [] [] ⟨(λb m=>by cases m),λx o=>by cases o⟩ (hr.below h) (hg.below h) (f.below h) hl i d
  rwa [g] at this)
 have p:=Af (λW v (h:AO w W) (s:Dj W v l)=>by
  have:=Avj l l _ v W (f.below h) s d d hl hl
  rwa [FG rfl] at this)
 clear hr hg f d h0 g;go_enter func12,ntmps12;go_wp2_with(first|(go_at_call 30;refine(r _ BV).mo ?_;rintro e B⟨rfl,z⟩)|(go_at_call 38;refine(k _ BV).mo ?_;rintro e t⟨y,A,rfl,j,C⟩;have q:=(j.arms Av).at;clear j)|(go_at_call 37;refine(p _ _ BV q).mo ?_;rintro e w3⟨rfl,u⟩));go_ret;exact⟨rfl,BV⟩
def zp0{p:Prop}(h:p:=by rintro a' w' todo⟨τ,d,_,hd,ht,hb⟩;exact Go.Co.Comes.stop ⟨_,rfl,rfl,hd,rfl,rfl,ht,hb.os,hb.out,hb.size,hb.block⟩):p:=h
open Classical in
theorem vh(HD:∀u w,BytesAt w u->Calls prog 4 #[u] w (OZ w))(u:AW)(w:AU)(K:Eh w)(S:Ew w)(ac:Hr w)(hu:BytesAt w u):
  Go.Co.Comes prog (Go.Conc.G (Frame.enter prog 3 #[u] .normal) []) w (gR 3 w):=by
 have fC:=Go.Conc.resultsC_tmp (P:=prog) (fn:=Tryz.f3) rfl;have aR:Hid (∀τ d,BytesAt {w with tape:=τ,drawn:=d} u):=fun τ d=>by have e:BytesAt {w with tape:=τ,drawn:=d} u=BytesAt w u:=BW;exact e ▸ hu
 obtain⟨ua,ul,uc,rfl,-,-,-⟩:=hu;by_cases bO:1048576<ul
 .refine jf okP (v:=.bool true) (Post:=λw'=>D3 w.z w w') (fun τ d=>?_) ?_;{obtain⟨W,m⟩:∃W:AU,W={w with tape:=τ,drawn:=d}:=⟨_,rfl⟩;(rw[<-m];have Z:Hid (D3 w.z w W):=by subst m;exact⟨rfl,rfl,DN _,λ_ _=>rfl⟩);clear m K S;go_enter func3,ntmps3;go_wp2;go_ret;exact⟨rfl,Z.out⟩};intro fr w' W hl hf ⟨τ,d,hp⟩;refine Go.Co.Comes.stop ⟨fr,rfl,hl.1,hl.2.1,hl.2.2.1,hf,?_,hp.os,hp.out,hp.size,hp.block⟩;have⟨fn,bf,hr⟩:=hl.2.2.2;rw[hf,func3]at bf;cases bf;have:=(fC fr.tmps W).1;rw[hr]at this;injection this with h3
  exact h3.symm
 have ab:∃c0 c1 C r c5 c6 c8 bu d,Tryz.f3.body=some (IZ [c0,c1,C,r,c5,c6] (IZ [c8] (.seq bu d))):=⟨_,_,_,_,_,_,_,_,_,rfl⟩;obtain⟨c0,c1,C,r,c5,c6,c8,bu,d,ab⟩:=ab;rw[Go.Co.enter_at #[AE ua ul uc] func3 ab];simp only[ntmps3,D1,DT,DW,Nat.reduceAdd,Nat.reduceSub,EV,EW,EY,EX,ED,EA];unfold Tryz.f3 at ab;simp only[IZ]at ab;cases ab;obtain⟨RA,uP⟩:∃RA:Act->World->Prop,Hid (RA=(λa' W=>∃(u6 aF ak ay ax aJ gU gQ kU aL aG aN aK aA aT aM aB aI aQ aS ar av aw an aO ap az aV oh aU og aD ny aC:AW)(L:AP)(l:Ek)(N:Int)(V A:Δ)(C r:Nat),a'=⟨#[AE ua ul uc,AQ,.bool false,AE V L.l C,AE A l.l r,AB N,u6,AB N,AQ,AQ,AQ,AQ,aF,ak,ay,ax,aJ,gU,gQ,kU,aL,aG,aN,aK,aA,aT,aM,aB,aI,aQ,aS,ar,av,aw,an,aO,ap,az,aV,oh,aU,og,aD,ny,aC,AQ,AQ,AQ,AQ,AQ,AQ,AQ,AQ,AQ,AQ,AQ,AQ,AQ,AQ,AQ,AQ,AQ,AQ,AQ,AQ,AQ,AQ,AQ,AQ,AQ,AQ,AQ,AQ,AQ,AQ,AQ,AQ,AQ,AQ,AQ,AQ,AQ,AQ,AQ,AQ,AQ,AQ,AQ,AQ,AQ,AQ,AQ,AQ,AQ,AQ,AQ,AQ,AQ],[]⟩/\JK L (l,N)/\Dj W (AE A l.l r) l/\Eo W (AE V L.l C) L/\L.l<=1048576/\D3 w.z w W)):=⟨_,rfl⟩;refine QZ okP [_,_,_,_,_,_] (R:=RA) ?_ ?_
 .intro τ y;obtain⟨W,m⟩:∃W:AU,W={w with tape:=τ,drawn:=y}:=⟨_,rfl⟩;rw[<-m];have Z:Hid (∀j,AO W j->D3 w.z w j):=by intro j h;subst m;exact⟨h.os,h.output,h.size,h.block⟩
  have a6:=Af (HD _ _ (m ▸ aR.out τ y));have a9:=Af (λj h=>K.blw (Z j h));have wL:=Af (λj h=>S.blw (Z j h));have aW:=Af (λj h=>ac.blw (Z j h));have bR:=YQ;clear m K S ac aR HD fC;refine Si ?_;go_wp2;refine Si ?_;go_wp2;refine Si ?_;go_wp2_with(go_at_call 4;refine a6.mo ?_;rintro e M⟨L,a1,c1,rfl,E,Y,fO,pU,T⟩);have⟨⟨l,N⟩,B⟩:=Bav Y;have bz:=Af (λj(h:AO M j)=>pT B a1 c1 j (a9 _ (T.tr (h.mo T.size))) (aW _ (T.tr (h.mo T.size))) (wL _ (T.tr (h.mo T.size))) (E.below h) Y fO pU);have iR:=Af (λj(h:AO M j)=>nf B a1 c1 j (E.below h) Y fO pU);have uM:=Af (λj(h:AO M j)=>Xa L _ j (E.below h) fO Y);have bF:=Af (λj(h:AO M j)=>E.below h);have bB:=Af B;have bC:=Af (λj(h:AO M j)=>Z _ (T.tr (h.mo T.size)));have H3:=Af (PR B);have aH:Hid (∀W v u,Dj W v l->Dj W u l->Calls prog 7 #[v,u] W (AN W (.bool true))):=λW v u h1 h2=>by have bm:(∀x∈l,Ba x)/\l.l<=1000:=(by rcases PR B with⟨_,e⟩|⟨_,e⟩|⟨_,_,h⟩;{cases e;exact⟨λx hx=>(by cases hx),EH _⟩};{cases e;exact⟨λx hx=>(by cases hx),EH _⟩};exact h);have:=At8 l l v u W h1 h2 bm.1 bm.1 BS BS;rwa [FG rfl]at this
  obtain⟨s1,aP⟩:∃s,s=(Az L).1:=⟨_,rfl⟩;obtain⟨s2,bn⟩:∃s,s=(Az L).2:=⟨_,rfl⟩;rw[<-aP,<-bn]at uM;rw[<-aP]at H3;clear E Y pU B a9 wL aW a6 T Z aP bn;refine Si ?_;go_wp2_with(go_at_call 5;refine(bz _ BV).mo ?_;rintro e w2⟨⟨A,r,rfl,a8⟩,bP⟩);refine Si ?_;go_wp2_with(go_at_call 6;refine(iR _ BV).mo ?_;rintro e w3⟨⟨a5,c5,rfl,bk⟩,bA⟩);have aE:=Af (And.intro (a8.below bA) bk);clear a8 bk;refine Si ?_;have h3:=H3.out;have h1:(s1=0\/0<s1)/\((N==1)=decide (0<s1)):=by rcases h3 with⟨h,e⟩|⟨h,e⟩|⟨h,e,_⟩;{cases e;exact⟨.inr h,by rw[FG h];rfl⟩};{cases e;subst h;exact⟨.inl rfl,BX⟩};have e:N=0:=e;subst e h;exact⟨.inl rfl,BX⟩
  obtain⟨-,h2⟩:=h1;clear h3 H3;go_wp2_with(first|(go_at_call 7;refine(aH _ _ _ aE.1 aE.2).mo ?_;rintro e w5⟨rfl,bG⟩;have bE:=Af (aE.1.below bG))|(go_at_call 8;refine(uM _ BV).mo ?_;rintro e w6⟨rfl,aX⟩;have bw:=Af (bE.below aX)));refine SR ?_;rw[uP.out];exact⟨_,_,_,_,_,_,_,_,_,_,_,_,_,_,_,_,_,_,_,_,_,_,_,_,_,_,_,_,_,_,_,_,_,_,L,l,N,a1,A,c1,r,rfl,bB.out,bw.out,bF _ BV,fO,bC _ BV⟩
 intro a' O ad;rw[uP.out]at ad;clear uP RA aR HD;obtain⟨τ,y,u6,aF,ak,ay,ax,aJ,gU,gQ,kU,aL,aG,aN,aK,aA,aT,aM,aB,aI,aQ,aS,ar,av,aw,an,aO,ap,az,aV,oh,aU,og,aD,ny,aC,L,l,N,V,A,C,r,rfl,B,D,H,fO,U⟩:=ad;have e1:Dj {O with tape:=τ,drawn:=y} (AE A l.l r) l=Dj O (AE A l.l r) l:=BW;have e2:Eo {O with tape:=τ,drawn:=y} (AE V L.l C) L=Eo O (AE V L.l C) L:=BW;replace D:=e1 ▸ D;replace H:=e2 ▸ H;replace U:D3 w.z w O:=⟨U.os,U.out,U.size,U.block⟩;clear e1 e2;rcases Aw1 B with h0|⟨h0,hf,hs,hl,ae,br⟩
 .have bL:(l.l:Int)=0:=by have:=congrArg List.l (jP B h0);simpa using this
  replace h0:0<N:=h0;simp only[IZ];refine SA okP (Q:=λe a w'=>e=.ret/\a.defers=[]/\a.tmps.getD 2 AQ=.bool true/\D3 w.z w w') (λe a w h=>.inr h.1) (fun τ y=>?_) ?_ ?_;{obtain⟨W,m⟩:∃W:AU,W={O with tape:=τ,drawn:=y}:=⟨_,rfl⟩;rw[<-m];have aa:D3 w.z w W:=U.tr (show Tp O W from⟨τ,y,m⟩).blw;clear m fC K S ac D H B;go_wp2};{rintro a' w'⟨τ,d,h,_⟩;cases h};exact zp0
 have HL:=Af (jN B h0);replace h0:N=0:=h0;subst h0;obtain⟨RB,rF⟩:∃RB:Act->World->Prop,Hid (RB=(λa' W=>∃bq a2:AW,a'=⟨#[AE ua ul uc,AQ,.bool false,AE V L.l C,AE A l.l r,AB 0,u6,AB 0,AQ,AQ,AQ,AQ,aF,ak,ay,ax,aJ,gU,gQ,kU,aL,aG,aN,aK,aA,aT,aM,aB,aI,aQ,aS,ar,av,aw,an,aO,ap,az,aV,oh,aU,og,aD,ny,aC,bq,a2,AQ,AQ,AQ,AQ,AQ,AQ,AQ,AQ,AQ,AQ,AQ,AQ,AQ,AQ,AQ,AQ,AQ,AQ,AQ,AQ,AQ,AQ,AQ,AQ,AQ,AQ,AQ,AQ,AQ,AQ,AQ,AQ,AQ,AQ,AQ,AQ,AQ,AQ,AQ,AQ,AQ,AQ,AQ,AQ,AQ,AQ,AQ,AQ,AQ,AQ,AQ],[]⟩/\Dj W (AE A l.l r) l/\Eo W (AE V L.l C) L/\D3 w.z w W)):=⟨_,rfl⟩;refine QZ okP [_] (R:=RB) ?_ ?_
 .intro τ y;obtain⟨W,m⟩:∃W:AU,W={O with tape:=τ,drawn:=y}:=⟨_,rfl⟩;rw[<-m];have I:Tp O W:=⟨τ,y,m⟩;have aa:=U.tr I.blw;have nR:=D.blw I.blw;have af:=H.blw I.blw;clear m fC K S ac D H B I U;refine Si ?_;go_wp2;refine SR ?_;rw[rF.out];exact⟨_,_,rfl,nR,af,aa⟩
 intro a' X ad;rw[rF.out]at ad;clear rF RB D H U;obtain⟨τ,y,bq,a2,rfl,D,H,J⟩:=ad;have e1:Dj {X with tape:=τ,drawn:=y} (AE A l.l r) l=Dj X (AE A l.l r) l:=BW;have e2:Eo {X with tape:=τ,drawn:=y} (AE V L.l C) L=Eo X (AE V L.l C) L:=BW;replace D:=e1 ▸ D;replace H:=e2 ▸ H;replace J:D3 w.z w X:=⟨J.os,J.out,J.size,J.block⟩;clear e1 e2;have⟨ai,au,ah,aj,bo,bp,ao⟩:=HL.out;simp only at hf hs hl ae br ai au ah aj bo bp ao;have⟨z,E⟩:=AA (Ei l);have bc:z=(Gm l).1:=by rwa[ae]
 have bh:(0:Int)=(Gm l).2:=by rw[ae]
 have Y:∀x∈z,x.fits:=E ▸ YE hf;have bQ:z.l<=800:=E ▸ Qc hf;rw[<-E]at ah aj ao;clear ae E br HL;refine cR λ_ t=>?_;simp only[D1,DT,DW,Nat.reduceAdd,EF,List.range,List.range.loop];refine cP t (AE A l.l r) λ_ t=>?_;try walk_nrm
 refine cC t #[AE A l.l r] func9 (Post:=λbb w'=>(∃g c,bb=.tuple #[AE g z.l c,AB 0]/\z.l<=c/\Eo w' (AE g z.l c) z)/\D3 X.z X w') (λj t=>(ix l _ j (K.blw (J.tr t.blw)) (S.blw (J.tr t.blw)) (D.blw t.blw) BS BS hf).mo λbb w' h=>let ⟨g,c,h1,h2,h3,h4⟩:=l8 bc bh h;⟨⟨g,c,h1,h2,h3⟩,t.lw h4⟩) λgt W5 hp=>?_;obtain⟨⟨ha,hc,rfl,bK,jd⟩,dK⟩:=hp;clear t;have t:=Tp.refl W5;try walk_nrm
 refine cP t (.tuple #[AE ha z.l hc,AB 0]) λ_ t=>?_;try walk_nrm
 refine cP t (AE ha z.l hc) λ_ t=>?_;try walk_nrm
 refine cP t (AB 0) λ_ t=>?_;try walk_nrm
 refine cP t (AE ha z.l hc) λ_ t=>?_;try walk_nrm
 refine cP t (AB 0) λ_ t=>?_;try walk_nrm
 refine cN t λag t=>?_;have iw:D3 X.z X ag:=dK.tr t.blw;have bs:D3 w.z w ag:=J.tr (iw.le J.size);have bg:=D.blw iw;have ba:=H.blw iw;have bj:=jd.blw t.blw;clear t dK iw jd D H J;try simp only[Act.put]
 refine SA okP (Q:=λe a w'=>e=.ret/\a.defers=[]/\a.tmps.getD 2 AQ=.bool true/\D3 w.z w w') (λe a w h=>.inr h.1) (fun τ y=>?_) ?_ ?_
 .obtain⟨W,m⟩:∃W:AU,W={ag with tape:=τ,drawn:=y}:=⟨_,rfl⟩;rw[<-m];have I:Tp ag W:=⟨τ,y,m⟩;have aa:D3 w.z w W:=bs.tr I.blw;have nR:=bg.blw I.blw;have af:=ba.blw I.blw;have uw:=bj.blw I.blw;have HB:=BZ (λj(h:AO W j)=>aa.tr ((D3.of h).le aa.size));have jR:=Af (λj(h:AO W j)=>ZP L _ j (af.below h) fO);have bi:=Af (λj(h:AO W j)=>(by have:=ZP z _ j (uw.below h) BS;rwa [aj]at this:Calls prog 10 #[AE ha z.l hc] j (AN j (.agg #[AB (G7 l:Int),AB (Fg l:Int)]))));have lY:=Af (λj(h:AO W j)=>(by have:=XO l _ j (K.blw (HB _ h)) (S.blw (HB _ h)) (nR.below h) BS BS hf;rwa [ai]at this:Calls prog 11 #[AE A l.l r] j (AN j (.agg #[AB 0,AB (Am l).2]))));have bD:=Af (λj(h:AO W j)=>iS l A r j (K.blw (HB _ h)) (S.blw (HB _ h)) (nR.below h) BS BS hf ai au);have uM:=Af (λj(h:AO W j)=>(by have:=QG z _ j (K.blw (HB _ h)) (ac.blw (HB _ h)) (uw.below h) BS Y;rwa [ah]at this:Calls prog 13 #[AE ha z.l hc] j (AN j (.agg #[AB 0,AB 0]))));obtain⟨p1,xg⟩:∃p,p=(Hf L).1:=⟨_,rfl⟩;obtain⟨p2,xe⟩:∃p,p=(Hf L).2:=⟨_,rfl⟩;obtain⟨q1,wu⟩:∃p:Int,p=(G7 l:Int):=⟨_,rfl⟩;obtain⟨q2,vz⟩:∃p:Int,p=(Fg l:Int):=⟨_,rfl⟩;obtain⟨t2,aY⟩:∃p,p=(Am l).2:=⟨_,rfl⟩;rw[<-xg,<-xe]at jR;rw[<-wu,<-vz]at bi;rw[<-aY]at lY;rw[<-xg,<-wu]at bo;rw[<-xe,<-vz]at bp;have bM:(z.l:Int)<=(L.l:Int):=BS;have bJ:=At3;have bI:=YQ;clear m I bs bg ba bj aa fC K S ac nR af uw B Y bc bh hf hs xg xe wu vz aY ai au ah aj ao;go_wp2_with(first|(go_at_call_of 10 (L.l:Nat);refine(jR _ BV).mo ?_;rintro e w6⟨rfl,aX⟩)|(go_at_call 10;refine(bi _ BV).mo ?_;rintro e w7⟨rfl,bH⟩;have bv:EU w7 w6.z (AB p1) (AB p2):=EU.bel qN2 bH)|(go_at_call 11;refine(lY _ BV).mo ?_;rintro e w8⟨rfl,a7⟩;have aZ:EU w8 w6.z (AB p1) (AB p2)/\EU w8 w7.z (AB q1) (AB q2):=⟨(bv.bel (Aa _ _)).bel a7,EU.bel qN2 a7⟩)|(go_at_call 12;refine(bD _ BV).mo ?_;rintro e w9⟨rfl,nM⟩;have xZ:=And.intro (aZ.1.bel nM) (aZ.2.bel nM))|(go_at_call 13;refine(uM _ BV).mo ?_;rintro e bN⟨rfl,yR⟩;obtain⟨-,k0,-,k1,-⟩:=xZ.1.bel yR;obtain⟨-,m0,-,m1,-⟩:=xZ.2.bel yR));exact HB _ BV
 .rintro a' w'⟨τ,d,h,_⟩;cases h
 exact zp0
