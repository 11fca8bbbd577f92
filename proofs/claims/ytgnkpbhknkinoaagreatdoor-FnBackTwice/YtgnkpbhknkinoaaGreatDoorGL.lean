import Derived.Test.YtgnkpbhknkinoaaGreatDoorGa
import Derived.Test.YtgnkpbhknkinoaaGreatDoorCA6
set_option linter.defProp false
set_option maxHeartbeats 4000000
set_option maxRecDepth 100000
namespace Go.Proofs.YtgnkpbhknkinoaaGreatDoor
open Tryz Stil Go.RowKit Go.Sort Go.BigFrame
def iN(i:Stil.Aw)(g:AW)(w:AU)(r:Ar w g i.O.args)(o:i.fits):
  Calls prog 88 #[.agg #[AB i.code,AB i.O.op,g]] w (AN w (.bool (Ju i))):=by
 obtain⟨c,op,a⟩:=i;simp only at r o⊢;have D:a.length<=1048576:=o.2.2.1;have k:=BX (λW(v:AO w W)=>WX op g a W (r.below v) o.2.2.2 BS);have f:=BX (λW(v:AO w W)=>dP op g a W (r.below v) o.2.2.2 BS);have b:Hid (Ju ⟨c,op,a⟩=if c<1\/11<c then false else if c<=3 then Dc op a else if c=10 then F7 op a else(op==0 && a.length==0)):=rfl;obtain⟨G,F,rfl,_⟩:=r;have⟨R,y⟩:=AA (Ju ⟨c,op,a⟩);obtain⟨q1,x⟩:∃q,q=Dc op a:=⟨_,rfl⟩;obtain⟨B,z⟩:∃q,q=F7 op a:=⟨_,rfl⟩;have⟨s,A⟩:=AA a.length;rw[<-y]at b⊢;rw[<-x]at b k;rw[<-z]at b f;rw[<-A]at b k f D⊢;clear y x z o A;by_cases t:c<1\/11<c
 .have d:Hid (R=false):=by show _=_;rw[b.out,BR t]
  clear b k f;go_enter func88,ntmps88;go_wp2;all_goals first|(exfalso;omega)|(go_ret;exact⟨Ad d.symm,BV⟩)
 have j:Hid (R=if c<=3 then q1 else if c=10 then B else(op==0 && s==0)):=by show _=_;rw[b.out,BQ t]
 have J:¬c<1:=BS;have I:¬11<c:=BS;clear b t;by_cases u:c<=3
 .have d:Hid (R=q1):=by show _=_;rw[j.out,BR u]
  clear j f;go_enter func88,ntmps88;go_wp2_with(go_at_call 116;refine(k _ BV).mo ?_;rintro e C⟨rfl,E⟩);go_ret;exact⟨Ad d.symm,BV⟩
 by_cases l:c=10
 .have d:Hid (R=B):=by show _=_;rw[j.out,BQ u,BR l]
  subst l;clear j k;go_enter func88,ntmps88;go_wp2_with(go_at_call 93;refine(f _ BV).mo ?_;rintro e C⟨rfl,E⟩);go_ret;exact⟨Ad d.symm,BV⟩
 have d:Hid (R=(op==0 && s==0)):=by show _=_;rw[j.out,BQ u,BQ l]
 have H:(c==10)=false:=xAq;clear j k f l;go_enter func88,ntmps88;go_wp2;all_goals go_ret
 all_goals(refine⟨Ad ?_,BV⟩)
 all_goals(rw[d.out,E6];go_light;simp[*])
def lF(c:Int)(w:AU):Calls prog 89 #[AB c] w (AN w (AB (Stil.needs c))):=by
 go_enter func89,ntmps89;go_wp2;all_goals go_ret
 all_goals(refine⟨Fg ?_,BP _ _⟩)
 all_goals go_light
 all_goals(simp only[E0,DV] at*;simp[Stil.needs, *])
def nd1:Stil.needs 1=0:=rfl
def lo1:Stil.low 1=1:=rfl
def nd2:Stil.needs 2=1:=rfl
def lo2:Stil.low 2=1:=rfl
def nd3:Stil.needs 3=1:=rfl
def lo3:Stil.low 3=1:=rfl
def nd4:Stil.needs 4=2:=rfl
def lo4:Stil.low 4=1:=rfl
def nd5:Stil.needs 5=2:=rfl
def lo5:Stil.low 5=2:=rfl
def nd6:Stil.needs 6=1:=rfl
def lo6:Stil.low 6=1:=rfl
def nd7:Stil.needs 7=1:=rfl
def lo7:Stil.low 7=1:=rfl
def nd8:Stil.needs 8=1:=rfl
def lo8:Stil.low 8=1:=rfl
def nd9:Stil.needs 9=1:=rfl
def lo9:Stil.low 9=1:=rfl
def Bac:Stil.needs 10=1:=rfl
def Bae:Stil.low 10=1:=rfl
def Bab:Stil.needs 11=1:=rfl
def Bad:Stil.low 11=1:=rfl
def lA(b f:Int)(d a:Bool)(i:Stil.Aw)(o:Value)(w:World)(A:Ar w o i.O.args)(y:i.fits):
  Calls prog 49 #[.agg #[.int .i64 b,.int .i64 f,.bool d,.bool a],.agg #[.int .i64 i.code,.int .i64 i.O.op,o]] w λe t=>e=.returned (.int .i64 (Stil.wrong ⟨b,f,d,a⟩ i))/\Below w.heap.size w t:=by
 have r:Hid (∀W,Below w.heap.size w W->Calls prog 88 #[.agg #[.int .i64 i.code,.int .i64 i.O.op,o]] W λe t=>e=.returned (.bool (Ju i))/\Below W.heap.size W t):=λW O=>iN i o W (A.below O) y;obtain⟨U,E,rfl,_⟩:=A;have G:i.O.args.length<=1048576:=y.2.2.1;obtain⟨R,s⟩:∃R,R=Stil.wrong ⟨b,f,d,a⟩ i:=⟨_,rfl⟩;have z:Hid (Stil.wrong ⟨b,f,d,a⟩ i=R):=s.symm;rw[<-s];have m:Hid (Ju i=true->1<=i.code/\i.code<=11):=U1;obtain⟨c,q⟩:∃c,c=i.code:=⟨_,rfl⟩;obtain⟨k,u⟩:∃k,k=Ju i:=⟨_,rfl⟩;obtain⟨op,x⟩:∃op,op=i.O.op:=⟨_,rfl⟩;obtain⟨B,l⟩:∃B,B=i.O.args.length:=⟨_,rfl⟩;have v:Hid (R=if k=false then 2 else if b<Stil.needs c then 3 else if c=1/\b=16 then 4 else if 7<=c/\1<b then 5 else if d=true/\b=Stil.low c/\(c=3\/c=6\/c=5) then 6 else if c=7/\f=8 then 7 else if(c=8\/c=9)/\f=0 then 7 else if c=11/\0<f then 7 else if(c=8\/c=9\/c=11)/\a=false then 8 else 0):=by show _=_;rw[<-z.out,u,q];rfl
 rw[<-q,<-u]at m r;rw[<-x,<-l]at r;rw[<-l]at G;rw[<-q,<-x,<-l];clear s z q u x l y;cases k
 .have M:Hid (R=2):=by show _=_;rw[v.out,if_pos rfl]
  clear v m;go_enter func49,ntmps49;go_wp2_with(go_at_call 88;refine(r _ BV).mono ?_;rintro e g⟨rfl,j⟩);all_goals go_ret
  all_goals exact⟨Fg M.symm,BV⟩
 obtain⟨N,D⟩:=m rfl;have I:c=1\/c=2\/c=3\/c=4\/c=5\/c=6\/c=7\/c=8\/c=9\/c=10\/c=11:=BS;clear m N D;rcases I with rfl|rfl|rfl|rfl|rfl|rfl|rfl|rfl|rfl|rfl|rfl;all_goals(rcases d.eq_false_or_eq_true with F|F<;>rcases a.eq_false_or_eq_true with J|J)
 all_goals (
  go_enter func49,ntmps49
  go_wp2_with(go_at_call 88;refine(r _ BV).mono ?_;rintro e g⟨rfl,j⟩;have X:w.heap.size<g.heap.size:=DL DC j.size;have K:g.cell? ⟨w.heap.size,0,none⟩=some (.int .i64 b):=(by rw[j.cell (p:=⟨w.heap.size,0,none⟩) DC];simp[go_sem]);have Q:g.cell? ⟨w.heap.size,1,none⟩=some (.int .i64 f):=(by rw[j.cell (p:=⟨w.heap.size,1,none⟩) DC];simp[go_sem]);have H:g.cell? ⟨w.heap.size,2,none⟩=some (.bool d):=(by rw[j.cell (p:=⟨w.heap.size,2,none⟩) DC];first|(simp[go_sem];done)|(simp[go_sem];assumption));have C:g.cell? ⟨w.heap.size,3,none⟩=some (.bool a):=(by rw[j.cell (p:=⟨w.heap.size,3,none⟩) DC];first|(simp[go_sem];done)|(simp[go_sem];assumption)))
  have E:=cell_regrown K;have Y:=cell_regrown Q;have Z:=cell_regrown H;have V:=cell_regrown C;refine wp_region_quiet_below BW BW ?_;repeat(go_big_quiet_step ((exact Calls.regrown_of (lF _ _))))
  refine wpQuiet_nil ?_;intro _ S;obtain⟨⟨T,osq⟩,L⟩:=S;subst L
  go_wp2
  all_goals go_ret
  all_goals refine⟨Fg ?_,BV⟩
  all_goals (rw[v.out];go_light;(try simp only[E0,DV,nd1,lo1,nd2,lo2,nd3,lo3,nd4,lo4,nd5,lo5,nd6,lo6,nd7,lo7,nd8,lo8,nd9,lo9,Bac,Bae,Bab,Bad] at*);simp[*];try omega))
def od(s:Stil.Pt)(c:Int)(w:AU)(g:s.good)(h1:1<=c)(k:c<=11):
  Calls prog 50 #[.agg #[AB s.bits,AB s.forks,.bool s.seen,.bool s.coil],AB c] w (AN w (.agg #[AB (Stil.next s c).bits,AB (Stil.next s c).forks,.bool (Stil.next s c).seen,.bool (Stil.next s c).coil])):=by
 obtain⟨b,f,o,t⟩:=s;obtain⟨i,d,j,a,_⟩:=g;simp only at i d j a⊢;have m:c=1\/c=2\/c=3\/c=4\/c=5\/c=6\/c=7\/c=8\/c=9\/c=10\/c=11:=BS;have v:IntKind.i64.wrap (b+1)=b+1:=xAe;have q:IntKind.i64.wrap (b - 1)=b - 1:=xAe;have u:IntKind.i64.wrap (f+1)=f+1:=xAe;have r:IntKind.i64.wrap (f - 1)=f - 1:=xAe;clear h1 k i d j a;rcases m with rfl|rfl|rfl|rfl|rfl|rfl|rfl|rfl|rfl|rfl|rfl;all_goals cases o
 all_goals (
  go_enter func50,ntmps50
  go_wp2
  refine BH (by simp[results,results50,go_sem];rfl) rfl ⟨?_,BV⟩
  simp[Stil.next,Stil.pt0])
def Z4(l:List Stil.Aw)(v:Value)(w:World)(ap:Gn w v l)(hl:l.length<=1048576)(ai:∀x∈l,x.fits):
  Calls prog 19 #[v] w λe z=>e=.returned (.agg #[.int .i64 (Be l).1,.int .i64 (Be l).2])/\Below w.heap.size w z:=by
 have HF:Hid (∀x∈l,x.fits):=ai;obtain⟨a,cap,rfl,hc⟩:=ap;have HC:Hid (∀i(h:i<l.length),∃b o,a=some ⟨b,o,none⟩/\b<w.heap.size/\Zu w b (o+i*3) l[i]):=hc;obtain⟨m,Q⟩:∃m,m=l.length:=⟨_,rfl⟩;have dN:Hid (m=l.length):=Q;have S:Hid (Be l=if 1000<m then(1,0) else Fz Stil.pt0 0 l):=by show _=_;rw[Q];rfl
 rw[<-Q]at hl⊢;obtain⟨R,hR⟩:∃R,R=Be l:=⟨_,rfl⟩;rw[<-hR]at S⊢;clear hc ai Q hR;by_cases h1:1000<m
 .have g:Hid (R=(1,0)):=by show _=_;rw[S.out,if_pos h1]
  go_enter func19,ntmps19;go_wp2;refine bodyPost_ret (v:=.agg #[.int .i64 1,.int .i64 0]) (by simp[results,results19,go_sem]) rfl ⟨by rw[g.out];rfl,BV⟩
 have g:Hid (R=Fz Stil.pt0 0 l):=by show _=_;rw[S.out,if_neg h1]
 clear S;go_enter func19,ntmps19;go_wp2;go_loopw [4] (λi wr=>∃(j:Nat)(s:Stil.Pt),j<=m/\i=.int .i64 j/\s.good/\R=Fz s j (l.drop j)/\GU wr (w.heap.size+1) s/\Below (w.heap.size+1) (w.alloc (.cells #[.int .i64 0,.int .i64 0] 44)) wr) (λi _=>m - (intOf i).toNat);case atStart=>refine⟨0,Stil.pt0,BS,rfl,JZ,by rw[g.out];rfl,?_,?_⟩;{refine⟨BU,?_,?_,?_,?_,?_,?_,?_,?_⟩;all_goals simp[go_sem,Stil.pt0]};simpa using(show Below (w.alloc (.cells #[.int .i64 0,.int .i64 0] 44)).heap.size _ _ from Aa _ _)
 case round=>
  clear g;obtain⟨j,s,hj,rfl,hg,aj,av,u⟩:=hrel;have T:Hid (R=Fz s j (l.drop j)):=aj;have HG:Hid (s.good):=hg;obtain⟨d,D,G,B,F,I,H,O,J⟩:=av;clear aj hg;have k:w.heap.size<wr.heap.size:=by have:=u.size;simp at this;omega
  have y:wr.cell? ⟨w.heap.size,0,none⟩=some (.int .i64 0):=B0 u;have X:wr.frozen? ⟨w.heap.size,0,none⟩=false:=B1 u;have A:wr.cell? ⟨w.heap.size,1,none⟩=some (.int .i64 0):=B0 u;have U:wr.frozen? ⟨w.heap.size,1,none⟩=false:=B1 u;have r:Below w.heap.size w wr:=(Aa _ _).trans (u.mono BS);by_cases aw:j<m
  .have ad:j<l.length:=(by have:=dN.out;omega);obtain⟨b,o,rfl,M,hn⟩:=HC j ad;obtain⟨E,x1,mD,x2,ae⟩:=hn.below r M;have V:Hid (∀W,Below wr.heap.size wr W->Calls prog 49 #[.agg #[.int .i64 s.bits,.int .i64 s.forks,.bool s.seen,.bool s.coil],.agg #[.int .i64 l[j].code,.int .i64 l[j].O.op,mD]] W λe z=>e=.returned (.int .i64 (Stil.wrong s l[j]))/\Below W.heap.size W z):=λW hW=>lA s.bits s.forks s.seen s.coil l[j] mD W (ae.below hW) (HF _ (DW ad));have C:Hid (R=if 0<Stil.wrong s l[j] then(Stil.wrong s l[j],j) else Fz (Stil.next s l[j].code) (j+1) (l.drop (j+1))):=(by show _=_;rw[T.out,VC l s j ad]);have af:=Oh s l[j];have t:Hid (Stil.wrong s l[j]=0->(Stil.next s l[j].code).good/\1<=l[j].code/\l[j].code<=11):=λh=>⟨Vp HG h,U1 (Ik h).1⟩;have K:Hid (Stil.wrong s l[j]=0->∀W,Calls prog 50 #[.agg #[.int .i64 s.bits,.int .i64 s.forks,.bool s.seen,.bool s.coil],.int .i64 l[j].code] W λe z=>e=.returned (.agg #[.int .i64 (Stil.next s l[j].code).bits,.int .i64 (Stil.next s l[j].code).forks,.bool (Stil.next s l[j].code).seen,.bool (Stil.next s l[j].code).coil])/\Below W.heap.size W z):=λh W=>od s l[j].code W HG (t h).2.1 (t h).2.2;obtain⟨q,hq⟩:∃q,q=Stil.wrong s l[j]:=⟨_,rfl⟩;obtain⟨x,hx⟩:∃x,x=l[j]:=⟨_,rfl⟩;rw[<-hq]at V C af t K;rw[<-hx]at V C t K E x1 ae;obtain⟨t0,u0,rfl,_⟩:=ae;clear hq hx hn T;have zk:=cell_regrown D;have zi:=cell_regrown G;have zh:=cell_regrown B;have zg:=cell_regrown F;have zf:=cell_regrown E;have y9:=cell_regrown x1;have y8:=cell_regrown x2;by_cases ab:0<q;{have g:Hid (R=(q,j)):=(by show _=_;rw[C.out,if_pos ab]);clear C t K;go_wp2;(refine wp_region_quiet_below BW BW ?_;repeat(go_big_quiet_step ((exact Calls.regrown_of (V _ Bt)))));refine wpQuiet_nil ?_;intro _ ac;obtain⟨⟨N,osq⟩,Z⟩:=ac;subst Z;clear zk zi zh zg zf y9 y8;have c:=below_regrown wr N osq;obtain⟨f,L⟩:∃f,f=grow (redrawn wr N) osq:=⟨_,rfl⟩;rw[<-L]at c⊢;clear L;have ar:w.heap.size<f.heap.size:=DL k c.size;have ah:w.heap.size+1<f.heap.size:=DL d c.size;have y:=(c.cell (p:=⟨w.heap.size,0,none⟩) k).trans y;have A:=(c.cell (p:=⟨w.heap.size,1,none⟩) k).trans A;have X:=(c.frozen (p:=⟨w.heap.size,0,none⟩) k).trans X;have U:=(c.frozen (p:=⟨w.heap.size,1,none⟩) k).trans U;have D:=(c.cell (p:=⟨w.heap.size+1,0,none⟩) d).trans D;have G:=(c.cell (p:=⟨w.heap.size+1,1,none⟩) d).trans G;have B:=(c.cell (p:=⟨w.heap.size+1,2,none⟩) d).trans B;have F:=(c.cell (p:=⟨w.heap.size+1,3,none⟩) d).trans F;have I:=(c.frozen (p:=⟨w.heap.size+1,0,none⟩) d).trans I;have H:=(c.frozen (p:=⟨w.heap.size+1,1,none⟩) d).trans H;have O:=(c.frozen (p:=⟨w.heap.size+1,2,none⟩) d).trans O;have J:=(c.frozen (p:=⟨w.heap.size+1,3,none⟩) d).trans J;have E:=(c.cell (p:=⟨b,o+j*3,none⟩) (DL M r.size)).trans E;have aI:b<f.heap.size:=DL M (DR r.size c.size);have ak:Below w.heap.size w f:=r.trans (c.mono r.size);go_wp2;refine bodyPost_ret (v:=.agg #[.int .i64 q,.int .i64 j]) (by simp[results,results19,go_sem,y,A]) rfl ⟨by rw[g.out],BV⟩};have aa:q=0:=(by omega);have g:Hid (R=Fz (Stil.next s x.code) (j+1) (l.drop (j+1))):=(by show _=_;rw[C.out,if_neg ab]);have ao:Hid (Stil.next s x.code).good:=(t aa).1;have iR:Hid (∀W,Calls prog 50 #[.agg #[.int .i64 s.bits,.int .i64 s.forks,.bool s.seen,.bool s.coil],.int .i64 x.code] W λe z=>e=.returned (.agg #[.int .i64 (Stil.next s x.code).bits,.int .i64 (Stil.next s x.code).forks,.bool (Stil.next s x.code).seen,.bool (Stil.next s x.code).coil])/\Below W.heap.size W z):=K aa;subst aa;clear C t K ab af;go_wp2;(refine wp_region_quiet_below BW BW ?_;repeat(go_big_quiet_step ((exact Calls.regrown_of (V _ Bt)))));refine wpQuiet_nil ?_;intro _ ac;obtain⟨⟨N,osq⟩,Z⟩:=ac;subst Z;clear zk zi zh zg zf y9 y8;have c:=below_regrown wr N osq;obtain⟨f,L⟩:∃f,f=grow (redrawn wr N) osq:=⟨_,rfl⟩;rw[<-L]at c⊢;clear L;have ar:w.heap.size<f.heap.size:=DL k c.size;have ah:w.heap.size+1<f.heap.size:=DL d c.size;have y:=(c.cell (p:=⟨w.heap.size,0,none⟩) k).trans y;have A:=(c.cell (p:=⟨w.heap.size,1,none⟩) k).trans A;have X:=(c.frozen (p:=⟨w.heap.size,0,none⟩) k).trans X;have U:=(c.frozen (p:=⟨w.heap.size,1,none⟩) k).trans U;have D:=(c.cell (p:=⟨w.heap.size+1,0,none⟩) d).trans D;have G:=(c.cell (p:=⟨w.heap.size+1,1,none⟩) d).trans G;have B:=(c.cell (p:=⟨w.heap.size+1,2,none⟩) d).trans B;have F:=(c.cell (p:=⟨w.heap.size+1,3,none⟩) d).trans F;have I:=(c.frozen (p:=⟨w.heap.size+1,0,none⟩) d).trans I;have H:=(c.frozen (p:=⟨w.heap.size+1,1,none⟩) d).trans H;have O:=(c.frozen (p:=⟨w.heap.size+1,2,none⟩) d).trans O;have J:=(c.frozen (p:=⟨w.heap.size+1,3,none⟩) d).trans J;have E:=(c.cell (p:=⟨b,o+j*3,none⟩) (DL M r.size)).trans E;have aI:b<f.heap.size:=DL M (DR r.size c.size);have ak:Below w.heap.size w f:=r.trans (c.mono r.size);go_wp2;go_region_with(go_at_call 50;refine(iR _).mono ?_;rintro e w3⟨rfl,al⟩;have au:GU w3 (w.heap.size+1) s:=GU.below ⟨ah,D,G,B,F,I,H,O,J⟩ Bt;obtain⟨lq,g0,g1,g2,g3,y0,y1,y2,y3⟩:=au);all_goals try go_wp2
   all_goals (
    have an:Below (w.heap.size+1) (w.alloc (.cells #[.int .i64 0,.int .i64 0] 44)) w3:=(u.trans (c.mono BS)).trans ((((Below.refl f.heap.size f).drew).trans al).mono BS)
    exact⟨⟨j+1,Stil.next s x.code,BS,by go_num,ao.out,g.out,GU.stored ⟨lq,g0,g1,g2,g3,y0,y1,y2,y3⟩ _,(((an.setCell (DK _) _).setCell (DK _) _).setCell (DK _) _).setCell (DK _) _⟩,by simp[intOf];omega⟩)
  have g:Hid (R=if 0<s.bits then(9,j) else(0,0)):=by show _=_;rw[T.out,VZ l s j yDd]
  obtain rfl:j=m:=BS;clear T;by_cases ag:0<s.bits;{have Y:Hid (R=(9,j)):=(by show _=_;rw[g.out,if_pos ag]);clear g;go_wp2;refine bodyPost_ret (v:=.agg #[.int .i64 9,.int .i64 j]) (by simp[results,results19,go_sem,y,A]) rfl ⟨by rw[Y.out],BV⟩};have Y:Hid (R=(0,0)):=by show _=_;rw[g.out,if_neg ag]
  clear g;go_wp2;refine bodyPost_ret (v:=.agg #[.int .i64 0,.int .i64 0]) (by simp[results,results19,go_sem,y,A]) rfl ⟨by rw[Y.out];rfl,BV⟩
end Go.Proofs.YtgnkpbhknkinoaaGreatDoor
namespace Go.Co
section
variable {P:Program}
@[simp]theorem Ahd(h):Calm P (Extern.Rtype.ofHandle h):=by unfold Extern.Rtype.ofHandle;exact B9
@[simp]theorem Ajf(t):Calm P (Extern.Rtype.handle t):=by unfold Extern.Rtype.handle;exact B9
@[simp]theorem Aje(what t):Calm P (Extern.Rtype.noPack what t):=by unfold Extern.Rtype.noPack;exact B9
@[simp]theorem Aes(what t):Calm P (Extern.Rtype.noPackHeld what t):=by unfold Extern.Rtype.noPackHeld;exact B9
@[simp]theorem Aef(what t):Calm P (Extern.Rtype.noPackNamed what t):=by unfold Extern.Rtype.noPackNamed;exact B9
@[simp]theorem Ac7(what t):Calm P (Extern.Rtype.noPackMethods what t):=by unfold Extern.Rtype.noPackMethods;exact B9
@[simp]theorem Ak3(t):Calm P (Extern.Rtype.spelt t):=by unfold Extern.Rtype.spelt;exact B9
@[simp]theorem Ak2(t):Calm P (Extern.Rtype.under t):=by unfold Extern.Rtype.under;exact B9
@[simp]theorem Aln(t):Calm P (Extern.Rtype.kind t):=by unfold Extern.Rtype.kind;exact B9
@[simp]theorem Ah1(t):Calm P (Extern.Rtype.hasName t):=by unfold Extern.Rtype.hasName;exact B9
@[simp]theorem Ak4(t):Calm P (Extern.Rtype.elem? t):=by unfold Extern.Rtype.elem?;exact B9
@[simp]theorem Aet(T V):Calm P (Extern.Rtype.implements T V):=by unfold Extern.Rtype.implements;exact B9
@[simp]theorem Zp(T V):Calm P (Extern.Rtype.directlyAssignable T V):=by unfold Extern.Rtype.directlyAssignable;exact B9
@[simp]theorem Aa0(t):Calm P (Extern.ReflectliteType.toType t):=by unfold Extern.ReflectliteType.toType;exact B9
def zfa{p:Prop}(h:p:=by repeat' first|exact Ae|exact Or.inl rfl|assumption|(simp;done)|refine Calm.bind ?_ (λ_=>?_)|dsimp only|refine Calm.map ?_|split|intro _):p:=h
@[simp]theorem Aak(x0):Calm P (Extern.ReflectliteType.ofRtype x0):=by
 unfold Extern.ReflectliteType.ofRtype;cases x0;case agg a=>
  (rcases a with⟨_|⟨c,_|⟨b,_⟩⟩⟩);all_goals
  exact zfa
 all_goals exact cmC
@[simp]theorem Aaz(x0):Calm P (Extern.ReflectliteType.typeOf x0):=by
 unfold Extern.ReflectliteType.typeOf;rcases x0 with⟨_|⟨a,_|⟨c,_|⟨b,l⟩⟩⟩⟩
 case cons.nil=>cases a<;>(repeat' first
   |exact Ae
   |exact Or.inl rfl
   |assumption
   |(simp;done)
   |refine Calm.bind ?_ (λ_=>?_)
   |dsimp only
   |refine Calm.map ?_
   |split
   | intro _)
 all_goals exact cmC
def zBa{p:Prop}(h:p:=by repeat' first|exact Ae|exact Or.inl rfl|assumption|(simp;done)|exact h1 _|refine Calm.bind ?_ (λ_=>?_)|dsimp only|refine Calm.map ?_|split|intro _):p:=h
theorem O7{f:AZ->Sem AW}(h1:∀t,Calm P (f t))(a:Array AW):Calm P (Extern.ReflectliteType.method f a):=by unfold Extern.ReflectliteType.method;rcases a with⟨_|⟨d,_|⟨c,_|⟨b,l⟩⟩⟩⟩;all_goals exact zBa
@[simp]theorem Acj(t):Calm P (Extern.ReflectliteType.elem t):=by unfold Extern.ReflectliteType.elem;exact cmG
@[simp]theorem Aci(t):Calm P (Extern.ReflectliteType.name t):=by unfold Extern.ReflectliteType.name;exact B9
@[simp]theorem Aaj(t):Calm P (Extern.ReflectliteType.pkgPath t):=by unfold Extern.ReflectliteType.pkgPath;exact B9
theorem Oa(what:String){f:AZ->TypeId->Sem Bool}(b:∀t u,Calm P (f t u))(a:Array AW):Calm P (Extern.ReflectliteType.relation what f a):=by
 unfold Extern.ReflectliteType.relation;rcases a with⟨_|⟨e,_|⟨c,_|⟨d,l⟩⟩⟩⟩
 case cons.cons.nil=>cases c<;>(repeat' first
   |exact Ae
   |exact Or.inl rfl
   |assumption
   |(simp;done)
   |exact b _ _
   |refine Calm.bind ?_ (λ_=>?_)
   |dsimp only
   |refine Calm.map ?_
   |split
   | intro _)
 all_goals exact cmC
@[simp]theorem Y7(u t):Calm P (Extern.ReflectliteType.implements_ u t):=by unfold Extern.ReflectliteType.implements_;exact B9
@[simp]theorem Xy(u t):Calm P (Extern.ReflectliteType.assignableTo u t):=by unfold Extern.ReflectliteType.assignableTo;exact B9
theorem Nv{f:AZ->Sem AW}(h1:∀t,Calm P (f t))(a:Array AW):Calm P (Extern.ReflectliteType.abiMethod f a):=by unfold Extern.ReflectliteType.abiMethod;rcases a with⟨_|⟨d,_|⟨c,_|⟨b,l⟩⟩⟩⟩;all_goals exact zBa
@[simp]theorem Ac8(t a flags):Calm P (Extern.ReflectliteValue.mk t a flags):=by unfold Extern.ReflectliteValue.mk;exact B9
@[simp]theorem Aai(x0):Calm P (Extern.ReflectliteValue.unpack x0):=by unfold Extern.ReflectliteValue.unpack;exact B9
@[simp]theorem Yk{α:Type}(method:String)(k:Nat):Calm P (Extern.ReflectliteValue.valueError method k:Sem α):=by unfold Extern.ReflectliteValue.valueError;exact B9
@[simp]theorem Za(x0):Calm P (Extern.ReflectliteValue.partsAny x0):=by
 unfold Extern.ReflectliteValue.partsAny;cases x0;case agg b=>
  rcases b with⟨_|⟨g,_|⟨e,_|⟨f,_|⟨i,l⟩⟩⟩⟩⟩;case cons.cons.cons.nil=>(cases f<;>first|exact Or.inl rfl|skip);(rename_i c a;cases c<;>first|exact Or.inl rfl|skip);rcases a with(_|a)|a;{exact Ae};all_goals (cases e<;>first|exact Or.inl rfl|skip);rename_i d;cases d<;>first|exact Or.inl rfl|(exact Calm.bind BU λ_=>Ae)
  all_goals
  exact zfa
 all_goals exact cmC
@[simp]theorem Aax(x):Calm P (Extern.ReflectliteValue.parts x):=by unfold Extern.ReflectliteValue.parts;exact B9
def zza{p:Prop}(h:p:=by repeat' first|exact Ae|exact Or.inl rfl|assumption|(simp;done)|exact h2 _ _ _ _|refine Calm.bind ?_ (λ_=>?_)|dsimp only|refine Calm.map ?_|split|intro _):p:=h
theorem Oj{zero:Sem AW}{f:AZ->Addr->Nat->Nat->Sem AW}(h0:Calm P zero)(h2:∀t a x y,Calm P (f t a x y))(b:Array AW):Calm P (Extern.ReflectliteValue.method zero f b):=by unfold Extern.ReflectliteValue.method;rcases b with⟨_|⟨e,_|⟨d,_|⟨c,l⟩⟩⟩⟩;all_goals exact zza
theorem Ns{zero:Sem AW}{f:AZ->Addr->Nat->Nat->Sem AW}(h0:Calm P zero)(h2:∀t a x y,Calm P (f t a x y))(b:Array AW):Calm P (Extern.ReflectliteValue.methodAny zero f b):=by unfold Extern.ReflectliteValue.methodAny;rcases b with⟨_|⟨e,_|⟨d,_|⟨c,l⟩⟩⟩⟩;all_goals exact zza
@[simp]theorem Aay(t a x k):Calm P (Extern.ReflectliteValue.isNil t a x k):=by unfold Extern.ReflectliteValue.isNil;exact cmG
@[simp]theorem Ach(t a x k):Calm P (Extern.ReflectliteValue.len t a x k):=by unfold Extern.ReflectliteValue.len;exact cmG
@[simp]theorem Ab2(t a x k):Calm P (Extern.ReflectliteValue.elem t a x k):=by unfold Extern.ReflectliteValue.elem;exact cmG
@[simp]theorem Acg(x0):Calm P (Extern.ReflectliteValue.set x0):=by unfold Extern.ReflectliteValue.set;rcases x0 with⟨_|⟨c,_|⟨b,_|⟨a,l⟩⟩⟩⟩;all_goals exact cmC
@[simp]theorem Y6(x0):Calm P (Extern.ReflectliteValue.errorText x0):=by
 unfold Extern.ReflectliteValue.errorText;rcases x0 with⟨_|⟨a,_|⟨c,_|⟨b,l⟩⟩⟩⟩;case cons.nil=>
  cases a
  case pointer o=>cases o<;>(repeat' first
   |exact Ae
   |exact Or.inl rfl
   |assumption
   |(simp;done)
   |refine Calm.bind ?_ (λ_=>?_)
   |dsimp only
   |refine Calm.map ?_
   |split
   | intro _)
  all_goals
  exact zfa
 all_goals exact cmC
@[simp]theorem Aeu(x0):Calm P (Extern.AbiNoEscape.same x0):=by unfold Extern.AbiNoEscape.same;rcases x0 with⟨_|⟨c,_|⟨b,_|⟨a,l⟩⟩⟩⟩;all_goals exact cmC
@[simp]theorem Xz(ps rs x0):Calm P (Extern.BytealgMakeNoZero.makeNoZero ps rs x0):=by
 unfold Extern.BytealgMakeNoZero.makeNoZero;rcases x0 with⟨_|⟨a,_|⟨c,_|⟨b,l⟩⟩⟩⟩;case cons.nil=>
  cases a
  case int k n=>cases k<;>(repeat' first
   |exact Ae
   |exact Or.inl rfl
   |assumption
   |(simp;done)
   |refine Calm.bind ?_ (λ_=>?_)
   |dsimp only
   |refine Calm.map ?_
   |split
   | intro _)
  all_goals
  exact zfa
 all_goals exact cmC
@[simp]theorem Aee(s):Calm P (Extern.RuntimeError.text s):=by unfold Extern.RuntimeError.text;exact B9
@[simp]theorem Zo(x0):Calm P (Extern.RuntimeError.boundsError x0):=by
 unfold Extern.RuntimeError.boundsError;rcases x0 with⟨_|⟨e,_|⟨s,_|⟨m,l⟩⟩⟩⟩;case cons.nil=>
  cases e;case agg i=>
   rcases i with⟨_|⟨d,_|⟨c,_|⟨j,_|⟨f,_|⟨r,l⟩⟩⟩⟩⟩⟩;case cons.cons.cons.cons.nil=>(cases d<;>first|exact Or.inl rfl|skip);(cases c<;>first|exact Or.inl rfl|skip);(cases j<;>first|exact Or.inl rfl|skip);(cases f<;>first|exact Or.inl rfl|skip);(rename_i n x q y b k code;have key:∀(o:Option String)(g:String->String),Calm P (match o with|some a=>Extern.RuntimeError.text (g a)|none=>stuck "boundsError: no such code"):=λo g=>by cases o<;>first|exact Or.inl rfl|exact Ae);exact key ((if(b && decide (x<0))=true then Extern.RuntimeError.boundsNegErrorFmts else Extern.RuntimeError.boundsErrorFmts)[code.toNat]?) (λa=> "runtime error: " ++(a.replace "%x" (toString (if b=true then x else IntKind.u64.wrap x))).replace "%y" (toString y))
   all_goals
   exact cmC
  all_goals
  exact zfa
 all_goals exact cmC
@[simp]theorem Aaw(v):Calm P (Extern.RuntimeError.described v):=by unfold Extern.RuntimeError.described;exact B9
@[simp]theorem Aav(i):Calm P (Extern.RuntimeError.pkgpathOf i):=by unfold Extern.RuntimeError.pkgpathOf;exact B9
@[simp]theorem Xf(args):Calm P (Extern.RuntimeError.typeAssertionError args):=by unfold Extern.RuntimeError.typeAssertionError;exact B9
@[simp]theorem Wj(x0):Calm P (Extern.RuntimeError.unhashableTypeError x0):=by
 unfold Extern.RuntimeError.unhashableTypeError;rcases x0 with⟨_|⟨b,_|⟨e,_|⟨c,l⟩⟩⟩⟩;case cons.nil=>
  cases b;case agg a=>
   (rcases a with⟨_|⟨f,_|⟨d,_⟩⟩⟩);all_goals
   exact cmC
  all_goals
  exact zfa
 all_goals exact cmC
@[simp]theorem Acf(x0):Calm P (Extern.RuntimeError.nothing x0):=by exact Ae
end
end Go.Co
namespace Go.Proofs.YtgnkpbhknkinoaaGreatDoor
open Tryz Go.Co
def MD:List (String × (Array AW->Sem AW)):=Extern.ReflectliteValue.rows++(Extern.ReflectliteType.rows++(Extern.AbiNoEscape.rows++Extern.RuntimeError.rows))
def tM(P:AY):∀p∈MD,∀args,Go.Co.Calm P (p.2 args):=by
 intro p a args;simp only[MD,Extern.ReflectliteValue.rows,Extern.ReflectliteType.rows,Extern.AbiNoEscape.rows,Extern.RuntimeError.rows,FU,EK,FG,FH]at a;rcases a with a|a|a|a
 .rcases a with rfl|rfl|rfl|rfl|rfl|rfl|rfl|rfl|rfl|rfl;all_goals dsimp only
  all_goals first|(simp;done)|(refine Oj ?_ (λ_ _ _ _=>?_) _<;>first|exact Ae|(simp;done))|(refine Ns ?_ (λ_ _ _ _=>?_) _<;>first|exact Ae|(simp;done))
 .rcases a with rfl|rfl|rfl|rfl|rfl|rfl|rfl|rfl|rfl|rfl|rfl|rfl;all_goals dsimp only
  all_goals first|(simp;done)|(refine O7 (λ_=>?_) _<;>first|(simp;done)|(refine Go.Co.Calm.bind BU λ_=>?_;first|(simp;done)|(refine Go.Co.Calm.bind BU λ_=>?_;exact Ae)))|(refine Oa _ (λ_ _=>?_) _<;>(simp;done))|(refine Nv (λ_=>?_) _<;>first|(simp;done)|(refine Go.Co.Calm.bind BU λ_=>?_;first|exact Ae|(simp;done)|(refine Go.Co.Calm.bind BU λ_=>?_;exact Ae)))|(refine Go.Co.Calm.bind BU λ_=>?_;exact Ae)
 .rcases a with rfl|rfl|rfl|rfl;all_goals dsimp only
  all_goals first|(simp;done)|exact Ae
 rcases a with rfl|rfl|rfl|rfl|rfl|rfl|rfl|rfl|rfl|rfl|rfl|rfl|rfl|rfl|rfl;all_goals dsimp only
 all_goals first|(simp;done)|exact Ae|(refine Go.Co.Calm.bind BU λ_=>?_;first|exact Ae|(refine Go.Co.Calm.bind BU λ_=>?_;exact Ae))
def SQ(fn:Func):Option (Array AW->Sem AW):=match MD.lookup fn.name with
 |some e=>some e
 |none=>if fn.name= "internal/bytealg.MakeNoZero" then some (Extern.BytealgMakeNoZero.makeNoZero fn.params fn.resultTypes) else none
def tP(P:AY)(fn:Func)(e:Array AW->Sem AW)(h:SQ fn=some e)(args:Array AW):Go.Co.Calm P (e args):=by
 unfold SQ at h;split at h
 .rename_i d b;cases h;have:(fn.name,e)∈MD:=by
   clear args
   revert b
   generalize MD=l;induction l with
   |nil=>intro h;cases h
   |cons p l c=>intro h;rw[List.lookup_cons]at h;split at h;{rename_i a;cases h;rw[E0]at a;rw[a];exact E1};exact DY _ (c h)
  exact tM P _ this args
 split at h
 .cases h;simp
 cases h
def Ayk:(prog.funcs.toList.all λa=>!(a.name== "runtime.NumGoroutine"))=true:=BW
def Ayj:((prog.funcs.toList.filter λa=>a.body.isNone).all λa=>(Extern.findNext a).isNone)=true:=BW
def Ayl:(prog.funcs.toList.filter λa=>a.body.isNone).map Extern.find=(prog.funcs.toList.filter λa=>a.body.isNone).map SQ:=BW
def okP:OkP prog:=by
 have b:∀(f:Nat)(a:Func),prog.funcs[f]?=some a->a∈prog.funcs.toList:=λf a h=>by rw[<-Array.getElem?_toList]at h;exact LK h
 refine⟨λf a h=>?_,λf a h c=>?_,λf a e h c d args=>?_⟩
 .have:=List.all_eq_true.1 Ayk a (b f a h);simpa using this
 .have:=List.all_eq_true.1 Ayj a (List.mem_filter.2 ⟨b f a h,c⟩);simpa using this
 have:=List.map_inj_left.1 Ayl a (List.mem_filter.2 ⟨b f a h,c⟩);rw[this]at d;exact tP _ a e d args
end Go.Proofs.YtgnkpbhknkinoaaGreatDoor
namespace Stil
end Stil
namespace Go.Proofs.YtgnkpbhknkinoaaGreatDoor
open Tryz Stil Go.RowKit Go.Sort Go.BigFrame
def zFa{p:Prop}(h:p:=by go_enter func92,ntmps92;go_wp2_with(go_at_call 116;refine(HK _ Bt).mo ?_;rw[hct];rintro e' w1⟨rfl,hb1⟩);go_ret;exact⟨Fg C6,Bt⟩):p:=h
def yo(n:Stil.DI):∀(z E:AW)(w:AU),Ar w z n.O.args->Fe w E n.K->Cj n->
  Calls prog 92 #[.agg #[AB n.kind,AB n.O.op,z,E]] w (AN w (AB (Am n))):=by
 induction n using Gs with
 |h k e kids ih=>
  intro z E w A B ae;simp only at A B;have⟨_,he,ag,T⟩:=(Hg _ _ _).1 ae;obtain⟨_,ai,ab⟩:=he;have HF:=BX T;have IH:=BX ih;have HK:=BX (λW K=>WX e.op z e.args W (A.below K) ab BS);clear ih T ae;obtain⟨a,cap,rfl,X⟩:=B;have HC:=BX X;obtain⟨aa,G,rfl,_⟩:=A;have r:=BX (Kr k e kids);clear X ab;have⟨d,S⟩:=AA e.args.length;have⟨c,R⟩:=AA kids.length;have rD:=BX R;rw[<-S]at ai r HK⊢;rw[<-R]at ag r⊢;clear S R;by_cases J:k=1;{subst J;by_cases M:0<c;{have HX:Hid (Am ⟨1,e,kids⟩=2):=(by show _=_;rw[r.out,BR rfl,BR M]);go_enter func92,ntmps92;go_wp2;go_ret;exact⟨Fg C6,Bt⟩};have an:decide (0<(c:Int))=false:=(by rw[HZ];omega);cases hct:Dc e.op e.args;{have HX:Hid (Am ⟨1,e,kids⟩=3):=(by show _=_;rw[r.out,BR rfl,BQ M,hct];rfl);exact zFa};have HX:Hid (Am ⟨1,e,kids⟩=0):=(by show _=_;rw[r.out,BR rfl,BQ M,hct];rfl);exact zFa};have ar:(k==1)=false:=by rwa[DV]
  have C:Hid (Am ⟨k,e,kids⟩=if V6 k e.op d c then 2 else Az (kids.map Am)):=by show _=_;rw[r.out,BQ J]
  clear r J;go_enter func92,ntmps92;go_upto_region 7 with fail;go_cut [0,53] (λs0 aj wc=>s0=.agg #[AB k,AB e.op,AE aa d G,AE a c cap]/\aj=.bool (V6 k e.op d c)/\wc=w.alloc (.cells #[AB k,AB e.op,AE aa d G,AE a c cap] 56));case first=>
   have m:Hid (V6 k e.op d c=(decide (k<2) || decide (4<k) || e.op !=0 || decide ((0:Int)<(d:Int)) || (c:Int)==0 || (k==4 && (c:Int) !=1))):=rfl;cases q:decide (k<2)
   .cases y:decide (4<k)
    .cases u:(e.op !=0)
     .have g:Hid (e.op=0):=(by simpa using u:e.op=0);cases t:decide ((0:Int)<(d:Int))
      .have l:Hid (d=0):=(by have:=of_decide_eq_false t;omega:d=0);cases D:((c:Int)==0)
       .cases F:(k==4);{(go_wp2_with fail;go_meet;exact⟨by first|rfl|simp[g.out,l.out],by rw[m.out,q,y,u,t,D,F];rfl,by first|rfl|simp[g.out,l.out]⟩)};have H:Hid (k=4):=(by simpa using F:k=4);cases Q:((c:Int) !=1)
        .have V:Hid (c=1):=(by have:=bne_eq_false_iff_eq.1 Q;omega:c=1)
         (go_wp2_with fail;go_meet;exact⟨by first|rfl|simp[g.out,l.out,H.out,V.out],by rw[m.out,q,y,u,t,D,F,Q];rfl,by first|rfl|simp[g.out,l.out,H.out,V.out]⟩)
        ·(go_wp2_with fail;go_meet;exact⟨by first|rfl|simp[g.out,l.out,H.out],by rw[m.out,q,y,u,t,D,F,Q];rfl,by first|rfl|simp[g.out,l.out,H.out]⟩)
       have HL:Hid (c=0):=(by have:=beq_iff_eq.1 D;omega:c=0)
       (go_wp2_with fail;go_meet;exact⟨by first|rfl|simp[g.out,l.out,HL.out],by rw[m.out,q,y,u,t,D];rfl,by first|rfl|simp[g.out,l.out,HL.out]⟩)
      have p4:0<d:=(by have:=of_decide_eq_true t;omega:0<d);have p5:(0:Int)<(d:Int):=(by omega:(0:Int)<(d:Int))
      (go_wp2_with fail;go_meet;exact⟨by first|rfl|simp[g.out],by rw[m.out,q,y,u,t];rfl,by first|rfl|simp[g.out]⟩)
     ·(go_wp2_with fail;go_meet;exact⟨Bn,by rw[m.out,q,y,u];rfl,Bn⟩)
    ·(go_wp2_with fail;go_meet;exact⟨Bn,by rw[m.out,q,y];rfl,Bn⟩)
   ·(go_wp2_with fail;go_meet;exact⟨Bn,by rw[m.out,q];rfl,Bn⟩)
  case rest=>
   obtain⟨rfl,rfl,rfl⟩:=hcut;cases ac:V6 k e.op d c
   .rw[ac]at C;have Y:Hid (Am ⟨k,e,kids⟩=Az (kids.map Am)):=C.out;clear C;go_wp2;go_loopw [3,4] (λi _ wr=>∃j:Nat,j<=c/\i=AB j/\Az (kids.map Am)=Az ((kids.drop j).map Am)/\Below (w.heap.size+1) (w.alloc (.cells #[AB k,AB e.op,AE aa d G,AE a c cap] 56)) wr) (λi _ _=>c - (intOf i).toNat);case atStart=>exact⟨0,BS,rfl,rfl,BP _ _⟩
    case round=>(obtain⟨j,hj,rfl,af,f⟩:=hrel;have N:=BX af;clear af;have hz:w.heap.size<wr.heap.size:=by have:=f.size;simp at this;omega);have c0:wr.cell? (AL w 0)=some (AB k):=B0 f;have f0:wr.frozen? (AL w 0)=false:=B1 f;have c1:wr.cell? (AL w 1)=some (AB e.op):=B0 f;have f1:wr.frozen? (AL w 1)=false:=B1 f;have c2:wr.cell? (AL w 2)=some (AE aa d G):=B0 f;have f2:wr.frozen? (AL w 2)=false:=B1 f;have c3:wr.cell? (AL w 3)=some (AE a c cap):=B0 f;have f3:wr.frozen? (AL w 3)=false:=B1 f;have ad:=(Aa _ _).trans (f.mono BS);by_cases al:j<c;{have L:j<kids.length:=(by have:=rD.out;omega);(obtain⟨b,o,rfl,ak,hn⟩:=HC j L;have⟨x0,x1,z,E,x2,x3,A,B⟩:=(P5.below ad _ _ _ hn ak).open;have I:=BX (λW K=>IH kids[j] (DW L) z E W (A.below K) (B.below K) (HF _ (DW L)));have O:Hid (Az ((kids.drop j).map Am)=if 0<Am kids[j] then Am kids[j] else Az ((kids.drop (j+1)).map Am)):=by show _=_;rw[GH L,DX];rfl);have⟨s,Z⟩:=AA (Am kids[j]);have⟨x,hx⟩:=AA (kids[j]);rw[<-Z]at I O;rw[<-hx]at I x0 x1;obtain⟨ao,yX,rfl,_⟩:=A;obtain⟨a',ap,rfl,_⟩:=B;clear Z hx hn;by_cases ah:0<s;{go_wp2_with (go_at_call 92;refine(I _ Bt).mono ?_;rintro e w2⟨rfl,U⟩);go_ret;exact⟨Fg (by rw[Y.out,N.out,O.out,BR ah]),Bt⟩};go_wp2_with (go_at_call 92;refine(I _ Bt).mono ?_;rintro e w2⟨rfl,U⟩);refine⟨⟨j+1,BS,by go_num,?_,f.trans (U.mono hz)⟩,EX⟩;rw[N.out,O.out,BQ BS]};go_wp2;go_ret;refine⟨Fg ?_,ad⟩;rw[Y.out,N.out,IJ (by have:=rD.out;omega)];rfl
   rw[ac]at C;go_wp2;go_ret;exact⟨Fg (by rw[C.out];rfl),Bt⟩
def zVa {p:Prop}(h:p:=by
 show _=_;rw[hR1,HW.out,HOW.out];simp only[hpos,and_false,EH];cases Dq coils
 .simp only[EZ,EH];split<;>simp
 simp):p:=h
def yv(n:Stil.DJ):∀(root:Bool)(t y z D:AW)(w:AU),Ar w t n.N.O.args->Fe w y n.N.K->G6 w z n.C->Dx w D n.K->Bh n->
  Calls prog 55 #[.agg #[AB n.N.kind,AB n.N.O.op,t,y,z,D],.bool root] w (AN w (AB (if root=true/\Ai n.N=true then 4 else Cb n))):=by
 induction n using Fv with
 |h n coils kids ih=>
  intro root t y z D w F E I X aF;simp only at F E I X;have⟨ab,aC,ai,al,bY⟩:=Ig aF;simp only at ab aC ai al bY;have af:=D8 ab
  have IH:Hid (∀x∈kids,∀(t y z D:AW) (w:AU),Ar w t x.N.O.args->Fe w y x.N.K->G6 w z x.C->Dx w D x.K->
   Calls prog 55 #[.agg #[AB x.N.kind,AB x.N.O.op,t,y,z,D], .bool false] w (AN w (AB (Cb x)))):=λx T t y z D w h1 h2 h3 h4=>(ih x T false t y z D w h1 h2 h3 h4 (bY x T)).mono λe w' ⟨he,hb⟩=>⟨by rw[he];simp,hb⟩
  have r:=BX (λW q=>Q0 n t y W (F.below q) (E.below q) (by have:=af.2.1.2.1;omega) (by have:=af.2.2.1;omega));have lX:=BX (λW q=>yo n t y W (F.below q) (E.below q) ab);have nZ:=BX ai;have aJ:Hid (∀i(h:i<coils.length),∃b o,True/\b<w.heap.size/\JU w b (o+i*2) coils[i]/\∃cap,z=AE (some (AK b o)) coils.length cap):=by intro i hi;obtain⟨a,cap,hv,hc⟩:=I;have⟨b,o,ha,hb,T⟩:=hc i hi;exact⟨b,o,trivial,hb,T,cap,by rw[hv,ha]⟩
  obtain⟨M,Q,rfl,_⟩:=F;obtain⟨V,K,rfl,_⟩:=E;obtain⟨G,L,rfl,aE⟩:=I;obtain⟨U,J,rfl,ap⟩:=X;have ji:=BX aE;have aL:=BX ap;have HW:Hid (Cb ⟨n,coils,kids⟩=if 0<Cm ⟨n,coils,kids⟩ then Cm ⟨n,coils,kids⟩ else Az (kids.map Cb)):=Xg _;have HOW:Hid (Cm ⟨n,coils,kids⟩=if Ai n=false/\0<Am n then Am n else if Dq coils then 3 else if coils.length=0/\kids.length=0 then 5 else 0):=rfl;have aP:Hid (∀x∈kids,0<=Cb x/\Cb x<=5):=λx _=>Qr x;have aM:=La n;simp only;have⟨k,az⟩:=AA (Ai n);have⟨B,ay⟩:=AA (Am n);rw[<-az]at r HOW⊢;rw[<-ay]at lX HOW aM;have⟨f,aj⟩:=AA coils.length;have⟨g,ag⟩:=AA kids.length;have uI:=BX aj;have rD:=BX ag;rw[<-aj]at aC HOW⊢;rw[<-ag]at al HOW⊢;clear ih aF ab ai bY aE ap af az ay aj ag aJ;have⟨R,l⟩:=AA ((if root=true/\k=true then 4 else Cb ⟨n,coils,kids⟩));rw[<-l];have aO:(root=true/\k=true)\/(root=true/\k=false/\0<B)\/(root=false/\k=false/\0<B)\/(root=false/\k=false/\¬0<B)\/(root=false/\k=true)\/(root=true/\k=false/\¬0<B):=by cases root<;>cases k<;>by_cases h:0<B<;>simp[h]
  rcases aO with⟨rfl,rfl⟩|⟨rfl,rfl,hpos⟩|⟨rfl,rfl,hpos⟩|⟨hr,C,hpos⟩|⟨hr,C⟩|⟨hr,C,hpos⟩;{have HX:Hid (R=4):=(by show _=_;rw[l];simp);clear l;go_enter func55,ntmps55;go_wp2_with(go_at_call 91;refine(r _ BV).mono ?_;rintro e Y⟨rfl,d⟩);go_ret;exact⟨Fg C6,BV⟩};{have hR1:R=Cb ⟨n,coils,kids⟩:=(by rw[l];simp);(clear l;have jX:=r;have HX:Hid (R=B):=by show _=_;rw[hR1,HW.out,HOW.out];simp[hpos]);clear hR1;go_enter func55,ntmps55;go_wp2_with(first|(go_at_call 91;refine(r _ BV).mono ?_;clear r;rintro e w0⟨rfl,u⟩;have⟨aA,ar⟩:=F8 u;have aD:w.heap.size<w0.heap.size:=DL BU u.size)|(go_at_call 91;refine(jX _ BV).mono ?_;rintro e Y⟨rfl,d⟩;have⟨N,O⟩:=F8 d)|(go_at_call 92;refine(lX _ BV).mono ?_;rintro e w2⟨rfl,H⟩));go_ret;exact⟨Fg C6,BV⟩};{have hR1:R=Cb ⟨n,coils,kids⟩:=(by rw[l];simp);(clear l;have HX:Hid (R=B):=by show _=_;rw[hR1,HW.out,HOW.out];simp[hpos]);clear hR1;go_enter func55,ntmps55;go_wp2_with(first|(go_at_call 91;refine(r _ BV).mono ?_;rintro e Y⟨rfl,d⟩;have⟨N,O⟩:=F8 d)|(go_at_call 92;refine(lX _ BV).mono ?_;rintro e w2⟨rfl,H⟩));go_ret;exact⟨Fg C6,BV⟩};all_goals first
   | (
     obtain rfl:root=false:=hr;obtain rfl:k=false:=C;have hR1:R=Cb ⟨n,coils,kids⟩:=by rw[l];simp
     clear l;have Z:Hid (R=if Dq coils then 3 else if f=0/\g=0 then 5 else Az (kids.map Cb)):=by
      exact zVa
     clear hR1;go_enter func55,ntmps55
     go_wp2_with(first|(go_at_call 91;refine(r _ BV).mono ?_;rintro e Y⟨rfl,d⟩;have⟨N,O⟩:=F8 d)|(go_at_call 92;refine(lX _ BV).mono ?_;rintro e w2⟨rfl,H⟩))
     have ae:Below (w.heap.size+1) (w.alloc (.cells #[AB n.kind,AB n.O.op,AE M n.O.args.length Q,AE V n.K.length K,AE G f L,AE U g J] 59)) w2:=by
      have h1:=d.size;simp only[BG]at d h1;exact d.trans (H.mono h1)
     clear d H N O)
   | (
     obtain rfl:root=false:=hr;obtain rfl:k=true:=C;have hR1:R=Cb ⟨n,coils,kids⟩:=by rw[l];simp
     clear l;have Z:Hid (R=if Dq coils then 3 else if f=0/\g=0 then 5 else Az (kids.map Cb)):=by
      show _=_
      rw[hR1,HW.out,HOW.out];simp only[Bool.true_eq_false,false_and,EH];cases Dq coils
      .simp only[EZ,EH]
       split<;>simp
      .simp
     clear hR1;go_enter func55,ntmps55
     go_wp2_with(go_at_call 91;refine(r _ BV).mono ?_;rintro e Y⟨rfl,d⟩;have⟨N,O⟩:=F8 d)
     have ae:Below (w.heap.size+1) (w.alloc (.cells #[AB n.kind,AB n.O.op,AE M n.O.args.length Q,AE V n.K.length K,AE G f L,AE U g J] 59)) Y:=xBo
     clear d N O)
   | (
     obtain rfl:root=true:=hr;obtain rfl:k=false:=C;have hR1:R=Cb ⟨n,coils,kids⟩:=by rw[l];simp
     clear l;have jX:=r;have Z:Hid (R=if Dq coils then 3 else if f=0/\g=0 then 5 else Az (kids.map Cb)):=by
      exact zVa
     clear hR1;go_enter func55,ntmps55
     go_wp2_with(first|(go_at_call 91;refine(r _ BV).mono ?_;clear r;rintro e w0⟨rfl,u⟩;have⟨aA,ar⟩:=F8 u;have aD:w.heap.size<w0.heap.size:=DL BU u.size)|(go_at_call 91;refine(jX _ BV).mono ?_;rintro e Y⟨rfl,d⟩;have⟨N,O⟩:=F8 d)|(go_at_call 92;refine(lX _ BV).mono ?_;rintro e w2⟨rfl,H⟩))
     have ae:Below (w.heap.size+1) (w.alloc (.cells #[AB n.kind,AB n.O.op,AE M n.O.args.length Q,AE V n.K.length K,AE G f L,AE U g J] 59)) w2:=by
      have h0:=u.size;have h1:=d.size;simp only[BG]at u h0;exact(u.trans (d.mono h0)).trans (H.mono (DR h0 h1))
     clear u aA ar d H N O aD)
  all_goals
   go_loopw [6] (λi wr=>∃m:Nat,m<=f/\i=AB m/\Dq coils=Dq (coils.drop m)/\Below (w.heap.size+1) (w.alloc (.cells #[AB n.kind,AB n.O.op,AE M n.O.args.length Q,AE V n.K.length K,AE G f L,AE U g J] 59)) wr) (λi _=>f - (intOf i).toNat);case atStart=>exact⟨0,BS,rfl,rfl,ae⟩
   case round=>
    clear ae;obtain⟨m,hm,rfl,aH,c⟩:=hrel;have iW:=BX aH;clear aH;have hz:w.heap.size<wr.heap.size:=xAi;have c0:wr.cell? (AL w 0)=some (AB n.kind):=B0 c;have f0:wr.frozen? (AL w 0)=false:=B1 c;have c1:wr.cell? (AL w 1)=some (AB n.O.op):=B0 c;have f1:wr.frozen? (AL w 1)=false:=B1 c;have c2:wr.cell? (AL w 2)=some (AE M n.O.args.length Q):=B0 c;have f2:wr.frozen? (AL w 2)=false:=B1 c;have c3:wr.cell? (AL w 3)=some (AE V n.K.length K):=B0 c;have f3:wr.frozen? (AL w 3)=false:=B1 c;have c4:wr.cell? (AL w 4)=some (AE G f L):=B0 c;have f4:wr.frozen? (AL w 4)=false:=B1 c;have c5:wr.cell? (AL w 5)=some (AE U g J):=B0 c;have f5:wr.frozen? (AL w 5)=false:=B1 c;have aa:=(Aa _ _).trans (c.mono BS);by_cases aI:m<f;{have S:m<coils.length:=(by have:=uI.out;omega);(obtain⟨b,o,rfl,ah,aw⟩:=ji m S;have⟨x0,yV,x1,jB⟩:=aw.below aa ah;have fD:=nZ _ (DW S);have A:=BX (λW q=>dP coils[m].op yV coils[m].args W (jB.below q) fD.2.2 (by have:=fD.2.1;omega));have HD:Hid (Dq coils=(!F7 coils[m].op coils[m].args || Dq (coils.drop (m+1)))):=by show _=_;rw[iW.out,Xc _ _ S]);have⟨ic,ao⟩:=AA (F7 coils[m].op coils[m].args);rw[<-ao]at A HD;have⟨au,hy⟩:=AA (coils[m]);rw[<-hy]at A x0;obtain⟨t1,t2,f1,_⟩:=jB;rw[<-hy]at f1;subst f1;clear ao hy aw fD iW;cases ic;{have HX:Hid (R=3):=(by show _=_;rw[Z.out,HD.out];rfl);go_wp2_with(go_at_call 93;refine(A _ BV).mono ?_;rintro e w3⟨rfl,an⟩);go_ret;exact⟨Fg C6,BV⟩};have HX:Hid (Dq coils=Dq (coils.drop (m+1))):=(by show _=_;rw[HD.out];rfl);go_wp2_with(go_at_call 93;refine(A _ BV).mono ?_;rintro e w3⟨rfl,an⟩);exact⟨⟨m+1,BS,by go_num,HX.out,c.trans (an.mono hz)⟩,EX⟩};have aB:Dq coils=false:=(by rw[iW.out,IJ (by have:=uI.out;omega)];rfl);have ac:Hid (R=if f=0/\g=0 then 5 else Az (kids.map Cb)):=(by show _=_;rw[Z.out,aB];rfl);clear aB iW Z;obtain⟨u,d⟩:True/\True:=⟨trivial,trivial⟩;by_cases ad:f=0/\g=0;{have HX:Hid (R=5):=(by show _=_;rw[ac.out,BR ad]);obtain⟨rfl,rfl⟩:=ad;clear ac;go_wp2;go_ret;exact⟨Fg C6,BV⟩};have HX:Hid (R=Az (kids.map Cb)):=(by show _=_;rw[ac.out,BQ ad]);(clear ac;have aN:((f:Int)==0)=false\/((g:Int)==0)=false:=by by_cases h:f=0;{right;rw[DV];omega};left;rw[DV];omega);clear ad;rcases aN with hq|hq<;>go_wp2
    all_goals (
     go_loopw [7] (λi wq=>∃j:Nat,j<=g/\i=AB j/\Az (kids.map Cb)=Az ((kids.drop j).map Cb)/\Below (w.heap.size+1) (w.alloc (.cells #[AB n.kind,AB n.O.op,AE M n.O.args.length Q,AE V n.K.length K,AE G f L,AE U g J] 59)) wq) (λi _=>g - (intOf i).toNat)
     case atStart=>exact⟨0,BS,rfl,rfl,c⟩
     case round=>
      clear c0 c1 c2 c3 c4 c5 f0 f1 f2 f3 f4 f5 hz c aa;obtain⟨j,hj,rfl,aG,c⟩:=hrel;have HP:=BX aG;clear aG;have hz:w.heap.size<wr.heap.size:=xAi
      have c0:wr.cell? (AL w 0)=some (AB n.kind):=B0 c;have f0:wr.frozen? (AL w 0)=false:=B1 c;have c1:wr.cell? (AL w 1)=some (AB n.O.op):=B0 c;have f1:wr.frozen? (AL w 1)=false:=B1 c;have c2:wr.cell? (AL w 2)=some (AE M n.O.args.length Q):=B0 c;have f2:wr.frozen? (AL w 2)=false:=B1 c;have c3:wr.cell? (AL w 3)=some (AE V n.K.length K):=B0 c;have f3:wr.frozen? (AL w 3)=false:=B1 c;have c4:wr.cell? (AL w 4)=some (AE G f L):=B0 c;have f4:wr.frozen? (AL w 4)=false:=B1 c;have c5:wr.cell? (AL w 5)=some (AE U g J):=B0 c;have f5:wr.frozen? (AL w 5)=false:=B1 c;have aa:=(Aa _ _).trans (c.mono BS);by_cases aI:j<g
      .have S:j<kids.length:=by have:=rD.out;omega
       obtain⟨b,o,rfl,ah,C⟩:=aL j S;have⟨ak,xB,xA,x4,x5,I,X⟩:=(Ri.below aa _ _ _ C ah).open;have⟨x0,x1,mD,wZ,x2,x3,F,E⟩:=ak.open;have A:=BX (λW q=>IH kids[j] (DW S) mD wZ xB xA W (F.below q) (E.below q) (I.below q) (X.below q));have HS:Hid (Az ((kids.drop j).map Cb)=if 0<Cb kids[j] then Cb kids[j] else Az ((kids.drop (j+1)).map Cb)):=by
        show _=_
        rw[GH S,DX];rfl
       have⟨s,hs⟩:=AA (Cb kids[j])
       have⟨x,T⟩:=AA (kids[j])
       rw[<-hs]at A HS;rw[<-T]at A x0 x1 F E I X;obtain⟨t0,u0,rfl,_⟩:=F;obtain⟨t1,u1,rfl,_⟩:=E;obtain⟨t2,u2,rfl,_⟩:=I;obtain⟨t3,u3,rfl,_⟩:=X;clear hs T C ak;by_cases hpos:0<s
       .go_wp2_with (go_at_call 55;refine(A _ BV).mono ?_;rintro e w4⟨rfl,ax⟩)
        go_ret;exact⟨Fg (by rw[HX.out,HP.out,HS.out,BR hpos]),BV⟩
       .go_wp2_with (go_at_call 55;refine(A _ BV).mono ?_;rintro e w4⟨rfl,ax⟩)
        refine⟨⟨j+1,BS,by go_num,?_,c.trans (ax.mono hz)⟩,EX⟩;rw[HP.out,HS.out,BQ BS]
      .go_wp2
       go_ret;refine⟨Fg ?_,aa⟩
       rw[HX.out,HP.out,IJ (by have:=rD.out;omega)];rfl)
def ud(n:Stil.DJ)(b c a d:AW)(w:AU)(l:Ar w b n.N.O.args)(g:Fe w c n.N.K)(m:G6 w a n.C)(j:Dx w d n.K)(k:Bh n):
  Calls prog 55 #[.agg #[AB n.N.kind,AB n.N.O.op,b,c,a,d],.bool true] w (AN w (AB (Fh n))):=
 (yv n true b c a d w l g m j k).mo λe f⟨h,i⟩=>⟨by rw[h];simp[Fh],i⟩
def Zz(l:List Stil.DJ)(H:AW)(w:AU)(m:Dx w H l)(hl:l.length<=1048576)(U:Au l<=1000000000)(J:∀x∈l,Bh x):
  Calls prog 22 #[H] w (AN w (.agg #[AB (Ap l).1,AB (Ap l).2])):=by
 have B:=BX (λW t=>YI l H W (m.below t) U J);have HF:=BX J;obtain⟨a,cap,rfl,O⟩:=m;have HC:=BX O;have⟨k,y⟩:=AA l.length;have⟨z,d⟩:=AA (Au l);have dN:=BX y;have u:Hid (Ap l=if 40<k\/400<z then(1,0) else Ej l 0):=by show _=_;rw[y,d];rfl
 rw[<-y]at hl B⊢;rw[<-d]at B U;have⟨R,T⟩:=AA (Ap l);rw[<-T]at u⊢;clear O J y d T;by_cases h1:40<k
 .have c:Hid (R=(1,0)):=by show _=_;rw[u.out,BR (.inl h1)]
  go_enter func22,ntmps22;go_wp2;refine BH (v:=.agg #[AB 1,AB 0]) (by simp[results,results22,go_sem]) rfl ⟨by rw[c.out];rfl,BV⟩
 by_cases h2:400<z
 .have c:Hid (R=(1,0)):=by show _=_;rw[u.out,BR (.inr h2)]
  go_enter func22,ntmps22;go_wp2_with(go_at_call 46;refine(B _ BV).mo ?_;rintro e q⟨rfl,f⟩;have F:q.c (AL w 0)=some (AB 0):=(B0 f);have G:q.c (AL w 1)=some (AB 0):=(B0 f);have k0:q.f (AL w 0)=false:=(B1 f);have k1:q.f (AL w 1)=false:=(B1 f));refine BH (v:=.agg #[AB 1,AB 0]) (by simp[results,results22,go_sem,F,G]) rfl ⟨by rw[c.out];rfl,BV⟩
 have c:Hid (R=Ej l 0):=by show _=_;rw[u.out,BQ BS]
 clear u;go_enter func22,ntmps22;go_wp2_with(go_at_call 46;refine(B _ BV).mo ?_;rintro e q⟨rfl,f⟩);have X:Below (w.heap.size+1) (w.alloc (.cells #[AB 0,AB 0] 62)) q:=xCb;clear f;go_loopw [3] (λi wr=>∃j:Nat,j<=k/\i=AB j/\R=Ej (l.drop j) j/\Below (w.heap.size+1) (w.alloc (.cells #[AB 0,AB 0] 62)) wr) (λi _=>k - (intOf i).toNat);case atStart=>exact⟨0,BS,rfl,by rw[c.out];rfl,X⟩
 case round=>
  clear X c;obtain⟨j,hj,rfl,Z,g⟩:=hrel;have C:=BX Z;clear Z;have d:w.heap.size<wr.heap.size:=by have:=g.size;simp at this;omega
  have Q:wr.c (AL w 0)=some (AB 0):=B0 g;have f0:wr.f (AL w 0)=false:=B1 g;have c1:wr.c (AL w 1)=some (AB 0):=B0 g;have f1:wr.f (AL w 1)=false:=B1 g;have ac:=(Aa _ _).tr (g.mo BS);by_cases ad:j<k;{have I:j<l.length:=(by have:=dN.out;omega);(obtain⟨b,o,rfl,ab,V⟩:=HC j I;have⟨M,xB,xA,x4,x5,D,m⟩:=(Ri.below ac _ _ _ V ab).open;have⟨x0,x1,mD,wZ,x2,x3,L,K⟩:=M.open;have A:=BX (λW t=>ud l[j] mD wZ xB xA W (L.below t) (K.below t) (D.below t) (m.below t) (HF _ (DW I)));have E:Hid (R=if 0<Fh l[j] then(Fh l[j],j) else Ej (l.drop (j+1)) (j+1)):=by show _=_;rw[C.out,Zk l j I]);have aa:=Tj l[j];have⟨s,S⟩:=AA (Fh l[j]);have⟨x,Y⟩:=AA (l[j]);rw[<-S]at A E aa;rw[<-Y]at A x0 x1 L K D m;obtain⟨t0,u0,rfl,_⟩:=L;obtain⟨t1,u1,rfl,_⟩:=K;obtain⟨t2,u2,rfl,_⟩:=D;obtain⟨t3,u3,rfl,_⟩:=m;clear S Y V M C;by_cases N:0<s;{have c:Hid (R=(s,j)):=(by show _=_;rw[E.out,BR N]);go_wp2_with(go_at_call 55;refine(A _ BV).mo ?_;rintro e w4⟨rfl,r⟩;have F:=(r.cell (p:=(AL w 0)) d).tr Q;have G:=(r.cell (p:=(AL w 1)) d).tr c1;have k0:=(r.frozen (p:=(AL w 0)) d).tr f0;have k1:=(r.frozen (p:=(AL w 1)) d).tr f1);refine BH (v:=.agg #[AB s,AB j]) (by simp[results,results22,go_sem,F,G]) rfl ⟨by rw[c.out],BV⟩};have c:Hid (R=Ej (l.drop (j+1)) (j+1)):=(by show _=_;rw[E.out,BQ N]);go_wp2_with(go_at_call 55;refine(A _ BV).mo ?_;rintro e w4⟨rfl,r⟩);exact⟨⟨j+1,BS,by go_num,c.out,g.tr (r.mo d)⟩,EX⟩};have c:Hid (R=(0,0)):=by show _=_;rw[C.out,IJ yDd];rfl
  go_wp2;refine BH (v:=.agg #[AB 0,AB 0]) (by simp[results,results22,go_sem,Q,c1]) rfl ⟨by rw[c.out];rfl,BV⟩
def Auy(b f:Int)(c:Int)(w:AU)(j:-1000<=b)(m:b<=1000)(g:-1000<=f)(o:f<=1000):
  Calls prog 150 #[.agg #[AB b,AB f],AB c] w (AN w (.agg #[AB (if c=1 then b+1 else if c=4\/c=5\/c=11 then b - 1 else b),AB (if c=7 then f+1 else if c=9 then f - 1 else f)])):=by
 have r:IntKind.i64.wrap (b+1)=b+1:=xAe;have p:IntKind.i64.wrap (b - 1)=b - 1:=xAe;have s:IntKind.i64.wrap (f+1)=f+1:=xAe;have q:IntKind.i64.wrap (f - 1)=f - 1:=xAe;obtain⟨x,a⟩:∃x:Int,x=if c=1 then b+1 else if c=4\/c=5\/c=11 then b - 1 else b:=⟨_,rfl⟩
 obtain⟨y,d⟩:∃y:Int,y=if c=7 then f+1 else if c=9 then f - 1 else f:=⟨_,rfl⟩
 have k:=BX a;have i:=BX d;rw[<-a,<-d];clear a d j m g o;go_enter func150,ntmps150;go_wp2;all_goals refine BH (by simp[results,results150,go_sem];rfl) rfl ⟨?_,BV⟩
 all_goals(rw[k.out,i.out];go_light;(try simp only[E0,DV] at*);simp[*])
