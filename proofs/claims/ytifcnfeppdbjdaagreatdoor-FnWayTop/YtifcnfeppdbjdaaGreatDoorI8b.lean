import Derived.Test.YtifcnfeppdbjdaaGreatDoorG4
namespace Go.Proofs.YtifcnfeppdbjdaaGreatDoor
open Tryz Go.RowKit Go.Sort Go.BigFrame
variable {v:Value}{w':World}
def JA (w:World)(b o:Nat)(i:Stil.Io):Prop:=w.cell? ⟨b,o,none⟩=some (AB i.code)/\w.cell? ⟨b,o+1,none⟩=some (AB i.one.op)/\∃a,w.cell? ⟨b,o+2,none⟩=some a/\Dk w a i.one.args
def Hw (w:World)(v:Value)(l:List Stil.Io):Prop:=∃a cap,v=AE a l.length cap/\∀i (h:i<l.length),∃b o,a=some ⟨b,o,none⟩/\b<w.heap.size/\JA w b (o+i*3) l[i]
theorem JA.below {w:World}{b o:Nat}{i:Stil.Io}(h:JA w b o i)(a:AO w w')(c:b<w.heap.size):JA w' b o i:=by
 obtain⟨e,g,f,d,j⟩:=h;exact⟨by rw[a.cell (p:=(AK b o)) c];exact e,by rw[a.cell (p:=(AK b (o+1))) c];exact g,f,by rw[a.cell (p:=(AK b (o+2))) c];exact d,j.below a⟩
theorem Hw.below {w:World}{l:List Stil.Io}(h:Hw w v l)(c:AO w w'):Hw w' v l:=by
 obtain⟨a,cap,f,g⟩:=h;refine⟨a,cap,f,λi hi=>?_⟩;obtain⟨b,o,e,d,j⟩:=g i hi;exact⟨b,o,e,CB d c.size,j.below c d⟩
def iO (lo:Nat)(w:World)(b o:Nat)(i:Stil.Io):Prop:=w.cell? ⟨b,o,none⟩=some (AB i.code)/\w.cell? ⟨b,o+1,none⟩=some (AB i.one.op)/\∃a,w.cell? ⟨b,o+2,none⟩=some a/\Ny lo w a i.one.args
def PR (lo:Nat)(w:World)(v:Value)(l:List Stil.Io):Prop:=∃a cap,v=AE a l.length cap/\∀i (h:i<l.length),∃b o,a=some ⟨b,o,none⟩/\lo<=b/\b<w.heap.size/\iO lo w b (o+i*3) l[i]
theorem PR.at {lo:Nat}{w:World}{l:List Stil.Io}(h:PR lo w v l):Hw w v l:=by
 obtain⟨a,cap,k,m⟩:=h;refine⟨a,cap,k,λi hi=>?_⟩;obtain⟨b,o,c,p,g,j,n,e,d,f⟩:=m i hi;exact⟨b,o,c,g,j,n,e,d,f.at⟩
def F3 (w:World)(b:Nat)(s:Stil.Pt):Prop:=b<w.heap.size/\w.cell? ⟨b,0,none⟩=some (AB s.bits)/\w.cell? ⟨b,1,none⟩=some (AB s.forks)/\w.cell? ⟨b,2,none⟩=some (.bool s.seen)/\w.cell? ⟨b,3,none⟩=some (.bool s.coil)/\
 w.frozen? ⟨b,0,none⟩=false/\w.frozen? ⟨b,1,none⟩=false/\w.frozen? ⟨b,2,none⟩=false/\w.frozen? ⟨b,3,none⟩=false
theorem F3.below {w:World}{b:Nat}{s:Stil.Pt}(h:F3 w b s)(a:AO w w'):F3 w' b s:=by
 obtain⟨c,f,j,e,l,i,g,d,k⟩:=h
 exact⟨CB c a.size,(a.cell (p:=(AK b 0)) c).trans f,(a.cell (p:=(AK b 1)) c).trans j,(a.cell (p:=(AK b 2)) c).trans e,(a.cell (p:=(AK b 3)) c).trans l,
  (a.frozen (p:=(AK b 0)) c).trans i,(a.frozen (p:=(AK b 1)) c).trans g,(a.frozen (p:=(AK b 2)) c).trans d,(a.frozen (p:=(AK b 3)) c).trans k⟩
theorem Q9 {W:World}{p q:Addr}:(W.setCell p v).frozen? q=W.frozen? q:=by simp[go_sem]
theorem F3.stored {w:World}{b:Nat}{s:Stil.Pt}(h:F3 w b s)(t:Stil.Pt):F3 ((((w.setCell (AK b 0) (AB t.bits)).setCell (AK b 1) (AB t.forks)).setCell (AK b 2) (.bool t.seen)).setCell (AK b 3) (.bool t.coil)) b t:=by
 obtain⟨e,c,d,a,f,j,i,g,k⟩:=h;refine⟨?_,?_,?_,?_,?_,?_,?_,?_,?_⟩
 ·exact CB e (CJ (I7 _ _ _) (CJ (I7 _ _ _) (CJ (I7 _ _ _) (I7 _ _ _))))
 ·exact(A7 AQ).trans ((A7 AQ).trans ((A7 AQ).trans (Fb c)))
 ·exact(A7 AQ).trans ((A7 AQ).trans (Fb ((A7 AQ).trans d)))
 ·exact(A7 AQ).trans (Fb ((A7 AQ).trans ((A7 AQ).trans a)))
 ·exact Fb ((A7 AQ).trans ((A7 AQ).trans ((A7 AQ).trans f)))
 all_goals exact Q9.trans (Q9.trans (Q9.trans (Q9.trans BD)))
theorem LP:(prog.info? 53).map (λi=>(i.zero,i.size,i.bytes))=some (some (.agg #[AB 0,AB 0,AG]),3,40):=AX
end Go.Proofs.YtifcnfeppdbjdaaGreatDoor
set_option maxHeartbeats 4000000
set_option maxRecDepth 100000
namespace Go.Proofs.YtifcnfeppdbjdaaGreatDoor
open Tryz Go.RowKit Go.Sort Go.BigFrame
def Ji (w:World):Prop:=1<w.heap.size/\∀k:Nat,k<12->w.cell? ⟨1,k,none⟩=some (.string ⟨(Stil.listWords.getD k []).toArray⟩)
theorem Ji.below {w w':World}(h:Ji w)(a:AO w w'):Ji w':=
 ⟨CB h.1 a.size,λk b=>by rw[a.cell (p:=(AK 1 k)) h.1];exact h.2 k b⟩
theorem rA (c:Int)(w:World)(h:c<0\/12<=c):
  Calls prog 147 #[AB c] w λe w'=>e=.returned (.string ⟨#[]⟩)/\w'=w:=by
 go_enter func147,ntmps147
 go_wp2
 all_goals first | (exfalso;omega) | (go_ret;exact⟨rfl,rfl⟩)
theorem Avd (k:Nat)(w:World)(a:Ji w)(h:k<12):
  Calls prog 147 #[AB k] w λe w'=>e=.returned (.string ⟨(Stil.listWords.getD k []).toArray⟩)/\w'=w:=by
 have c:=a.2 k h;obtain⟨s,b⟩:∃s:ByteArray,s=⟨(Stil.listWords.getD k []).toArray⟩:=⟨_,rfl⟩
 rw[<-b] at c ⊢;clear b a;go_enter func147,ntmps147
 go_wp2
 go_ret;exact⟨rfl,rfl⟩
theorem YN:(prog.info? 51).map (λi=>(i.zero,i.size,i.bytes))=some (some (.agg #[AB 0,AG]),2,32):=AX
theorem QD:(prog.info? 59).map (λi=>(i.zero,i.size,i.bytes))=some (some (.agg #[AB 0,AB 0,AG,AG]),4,64):=AX
theorem ZR:(prog.info? 62).map (λi=>(i.zero,i.size,i.bytes))=some (some (.agg #[AB 0,AB 0,AG,AG,AG,AG]),6,112):=AX
open Go.ChangeShapes Go.WideShapes Go.ChangeAt
theorem eI:prog.globalNamed "loop.example/stilway/impl.listWords" =some 1:=AX
theorem vr:(prog.globals[1]?).map (·.type)=some 188:=AX
theorem qG {W:World}{l:List (String × DataW Unit)}(h:laidMet prog l W)(o:("loop.example/stilway/impl.listWords",DataW.agg (Stil.listWords.map λx=>DataW.lit (Lit.string x)))∈l):Ji W:=by
 obtain⟨I,e,_,_⟩:=h;obtain⟨g,t,G,fuel,p,B,D,w,q⟩:=QX e o;obtain rfl:=DG (eI.symm.trans B);obtain rfl:=DG (vr.symm.trans D);have y:=λj=>World.var?_cell eI w j
 obtain⟨a,m,_,z,F,e,A⟩:=DataW.trod_array underlying188 q;have r:(Stil.listWords.map λx=>DataW.lit (H:=Unit) (Lit.string x))=a.map (·.1):=DataW.agg.inj (IF z).1;have c:∀k:Nat,k<12->W.cell? (AK 1 k)=some (.string ⟨(Stil.listWords.getD k []).toArray⟩):=by
  intro k f;have d:k<a.length:=AQ
  have n:=A k f;rw[RS,DX d,Nat.mul_one] at n;obtain⟨s,C,u,_⟩:=DataW.trod_string underlying9 n;have i:k<Stil.listWords.length:=f;have b:a[k].1=.lit (.string (Stil.listWords.getD k [])):=by
   have:=congrArg (λl=>l[k]?) r
   simp only[JK,DX d,JM] at this;rw[DX i] at this;rw[<-DG this,List.getD,DX i];rfl
  rw[u] at b;simp only[DataW.lit.injEq,Lit.string.injEq] at b;have E:s=⟨(Stil.listWords.getD k []).toArray⟩:=Zs (by rw[b]);rw[y,<-E];have:=congrArg (λl=>l[0]?) C
  simpa[GN,GO] using this
 exact⟨lt_of_cell (c 0 AQ),c⟩
set_option maxHeartbeats 4000000 in
set_option maxRecDepth 100000 in
theorem xj (l:List Stil.Io)(v u:Value)(w:World)(an:Hw w v l)(vF:Hw w u l)(hl:l.length<=1048576)(ag:∀x∈l,x.fits):
  Calls prog 8 #[v,u] w (AN w (.bool true)):=by
 obtain⟨a,cap,rfl,hc⟩:=an;obtain⟨a2,av,rfl,H⟩:=vF;have HC:Hid (∀i (h:i<l.length),∃b o,a=some (AK b o)/\b<w.heap.size/\JA w b (o+i*3) l[i]):=hc;have ak:Hid (∀i (h:i<l.length),∃b o,a2=some (AK b o)/\b<w.heap.size/\JA w b (o+i*3) l[i]):=H;have HF:Hid (∀x∈l,x.fits):=ag;clear hc H ag;obtain⟨n,M⟩:=AA l.length
 have HN:Hid (n=l.length):=M;rw[<-M] at hl ⊢;clear M;go_enter func8,ntmps8
 go_wp2
 go_loopw [5] (λi wr=>∃j:Nat,j<=n/\i=AB (j:Int)/\AO w wr) (λi _=>n - (intOf i).toNat)
 case atStart=>exact⟨0,DI _,rfl,Below.refl _ _⟩
 case round=>
  obtain⟨j,hj,rfl,t⟩:=hrel;by_cases aw:j<n
  ·have C:j<l.length:=by have:=HN.out;omega
   obtain⟨b,o,rfl,ar,af⟩:=HC j C;obtain⟨J,F,rfl,nY,Z⟩:=ak j C;obtain⟨e,k,uV,r,ae⟩:=af.below t ar;obtain⟨g,f,au,d,T⟩:=Z.below t nY;have aa:=(HF _ (CN C)).2.2.1;obtain⟨I,Q⟩:=AA (l[j])
   rw[<-Q] at e k g f ae T aa;obtain⟨K,tc,rfl,U⟩:=ae;obtain⟨N,sc,rfl,ac⟩:=T;have lu:Hid (∀i (h:i<I.one.args.length),∃b o,K=some (AK b o)/\b<wr.heap.size/\Jg wr b (o+i*3) I.one.args[i]):=U;have Y:Hid (∀i (h:i<I.one.args.length),∃b o,N=some (AK b o)/\b<wr.heap.size/\Jg wr b (o+i*3) I.one.args[i]):=ac;obtain⟨m,E⟩:=AA I.one.args.length
   have HM:Hid (m=I.one.args.length):=E;rw[<-E] at r d aa;clear Q U ac E af Z;have ai:IntKind.i64.wrap ((j:Int)+1)=(j:Int)+1:=by rw[IntKind.wrap_i64];omega
   have r0:=cell_regrown e;have r1:=cell_regrown k;have r2:=cell_regrown r;have s0:=cell_regrown g;have s1:=cell_regrown f;have O:=cell_regrown d;go_upto_region 6 with fail
   refine wp_region_quiet_below AX AX ?_;repeat (go_big_quiet_step ((fail)))
   refine wpQuiet_nil ?_;intro _ B;obtain⟨⟨P,osq⟩,G⟩:=B;subst G;obtain⟨V,A⟩:=AA (grow (redrawn wr P) osq)
   have s:AO wr V:=by rw[A];exact below_regrown _ _ _
   dsimp only;rw[<-A];have al:Hid (∀W,AO V W->W.cell? (AK b (o+j*3))=some (AB I.code)/\W.cell? (AK b (o+j*3+1))=some (AB I.one.op)/\W.cell? (AK b (o+j*3+2))=some (AE K m tc)/\W.cell? (AK J (F+j*3))=some (AB I.code)/\W.cell? (AK J (F+j*3+1))=some (AB I.one.op)/\W.cell? (AK J (F+j*3+2))=some (AE N m sc)):=λW h=>by
    have c:=Bc s h;exact⟨(c.cell (World.block_lt_of_cell? _ _ e)).trans e,(c.cell (World.block_lt_of_cell? _ _ k)).trans k,(c.cell (World.block_lt_of_cell? _ _ r)).trans r,(c.cell (World.block_lt_of_cell? _ _ g)).trans g,(c.cell (World.block_lt_of_cell? _ _ f)).trans f,(c.cell (World.block_lt_of_cell? _ _ d)).trans d⟩
   have ao:Hid (∀W,AO V W->∀i (h:i<I.one.args.length),∃b o,K=some (AK b o)/\b<W.heap.size/\Jg W b (o+i*3) I.one.args[i]):=λW h i hi=>by
    have c:=Bc s h;obtain⟨b,o,D,z,L⟩:=lu i hi;exact⟨b,o,D,CB z c.size,L.below c z⟩
   have xO:Hid (∀W,AO V W->∀i (h:i<I.one.args.length),∃b o,N=some (AK b o)/\b<W.heap.size/\Jg W b (o+i*3) I.one.args[i]):=λW h i hi=>by
    have c:=Bc s h;obtain⟨b,o,D,z,L⟩:=Y i hi;exact⟨b,o,D,CB z c.size,L.below c z⟩
   have ab:AO w V:=Bc t s;clear A e k r g f d r0 r1 r2 s0 s1 O lu Y s t
   go_wp2
   obtain⟨wo,aj⟩:∃wo:World,wo=wr:=⟨wr,rfl⟩
   subst aj;go_loopw [6] (λi wr=>∃q:Nat,q<=m/\i=AB (q:Int)/\AO V wr) (λi _=>m - (intOf i).toNat)
   case atStart=>exact⟨0,DI _,rfl,Below.refl _ _⟩
   case round=>
    obtain⟨q,hq,rfl,y⟩:=hrel;obtain⟨e,k,r,g,f,d⟩:=al wr y;by_cases ay:q<m
    ·have bg:q<I.one.args.length:=by have:=HM.out;omega
     obtain⟨c1,o3,rfl,ax,X,R,d2⟩:=ao wr y q bg;obtain⟨c2,o4,rfl,H,S,e1,e2⟩:=xO wr y q bg;obtain⟨ah,hD⟩:=AA (I.one.args[q])
     rw[<-hD] at X R d2 S e1 e2;clear hD;have az:IntKind.i64.wrap ((q:Int)+1)=(q:Int)+1:=by rw[IntKind.wrap_i64];omega
     have r0:=cell_regrown e;have r1:=cell_regrown k;have r2:=cell_regrown r;have s0:=cell_regrown g;have s1:=cell_regrown f;have O:=cell_regrown d;have t0:=cell_regrown X;have t1:=cell_regrown R;have t2:=cell_regrown d2;have u0:=cell_regrown S;have u1:=cell_regrown e1;have u2:=cell_regrown e2;go_upto_region 11 with fail
     refine wp_region_quiet_below AX AX ?_;repeat (go_big_quiet_step ((fail)))
     refine wpQuiet_nil ?_;intro _ B;obtain⟨⟨P,osq⟩,G⟩:=B;subst G
     go_wp2
     exact⟨⟨q+1,AQ,AU,Bc y (below_regrown _ _ _)⟩,by simp[intOf];omega⟩
    ·obtain rfl:q=m:=by omega
     go_wp2
     exact⟨⟨j+1,AQ,AU,ab.trans (y.mono ab.size)⟩,by simp[intOf];omega⟩
  ·obtain rfl:j=n:=by omega
   go_wp2
   go_ret;exact⟨rfl,t⟩
abbrev Pl:=Nat × Nat
def ad (p:Pl):Addr:=⟨p.1,p.2,none⟩
def JX (w:World)(a:List Pl):Prop:=∀p∈a,p.1<w.heap.size/\(∃n,w.cell? (ad p)=some (AB n))/\w.frozen? (ad p)=false
def KW (v:Value)(c:List Pl):Prop:=∃a n cap,v=AE a n cap/\c.length=3*n/\∀j (h:j<c.length),∃b o,a=some ⟨b,o,none⟩/\c[j]=(b,o+j)
def Pq (b:Nat):Nat->List (List Pl)->List Pl
 | _,[]=>[]
 | o,q::r=>(b,o)::(b,o+1)::(q++Pq b (o+3) r)
def R2 (w:World)(v:Value)(b o:Nat)(qs:List (List Pl)):Prop:=(∃a cap,v=AE a qs.length cap/\(0<qs.length->a=some ⟨b,o,none⟩))/\
 ∀i (h:i<qs.length),b<w.heap.size/\(b,o+i*3+2)∉Pq b o qs/\∃c,w.cell? ⟨b,o+i*3+2,none⟩=some c/\KW c qs[i]
def I0 (g n:Nat):List Pl:=(List.range (3*n)).map λj=>(g,j)
theorem VY (g n:Nat):(I0 g n).length=3*n:=by simp[I0]
theorem VX {g n:Nat}{p:Pl}(h:p∈I0 g n):p.1=g/\p.2<3*n:=by
 obtain⟨j,a,rfl⟩:=List.mem_map.1 h;exact⟨rfl,List.mem_range.1 a⟩
theorem rm (g n:Nat):(I0 g n).Nodup:=by
 unfold I0;refine List.pairwise_map.2 (List.Pairwise.imp ?_ List.nodup_range);intro a b h e;exact h (IF e).2
theorem uv {w:World}{base:Nat}{u:Value}{d:List Stil.CC}(h:w.ownsRow base 55 3 u d.length (Au d)):
  ∃f:List Pl,KW u f/\JX w f/\f.Nodup/\(∀p∈f,base<=p.1/\u.ownBlock=some p.1)/\f.length=3*d.length:=by
 by_cases hd:d.length=0
 ·have m:=List.length_eq_zero_iff.1 hd
  subst m;obtain⟨a,cap,rfl⟩:=Ah h;exact⟨[],⟨a,0,cap,rfl,rfl,λj l=>absurd l AU⟩,(λp c=>by cases c),M4,(λp c=>by cases c),rfl⟩
 ·obtain⟨g,cap,s,y,o,_,k⟩:=Cb h AQ
  subst s;refine⟨I0 g d.length,⟨_,_,_,rfl,VY _ _,λj l=>⟨g,0,rfl,by simp[I0]⟩⟩,λp c=>?_,rm _ _,λp c=>?_,VY _ _⟩
  ·obtain⟨i,t⟩:=VX c
   obtain⟨b,j⟩:=p;simp only at i t;subst i;refine⟨o,?_,h.frozenAt _⟩;have hi:j / 3<d.length:=AQ
   obtain⟨r,n,x⟩:=Nr d (j / 3) hi;have q:j=j / 3*3\/j=j / 3*3+1\/j=j / 3*3+2:=AQ
   rcases q with e | e | e
   ·exact⟨_,by rw[ad,e];exact k _ _ r⟩
   ·exact⟨_,by rw[ad,e];exact k _ _ n⟩
   ·exact⟨_,by rw[ad,e];exact k _ _ x⟩
  ·obtain⟨i,_⟩:=VX c
   rw[i];exact⟨y,rfl⟩
theorem Vt (b:Nat):∀(c:List (List Pl)) (o:Nat) (p:Pl),p∈Pq b o c->(∃i,i<c.length/\(p=(b,o+i*3)\/p=(b,o+i*3+1)))\/∃q∈c,p∈q
 | [],_,p,h=>by simp[Pq] at h
 | q::r,o,p,h=>by
  rw[Pq] at h;simp only[DF,E7] at h;rcases h with h | h | h | h
  ·exact .inl ⟨0,AU, .inl BR⟩
  ·exact .inl ⟨0,AU, .inr BR⟩
  ·exact .inr ⟨q,AU,h⟩
  ·rcases Vt b r (o+3) p h with⟨i,hi,a⟩ | ⟨f,d,a⟩
   ·refine .inl ⟨i+1,by simp;omega,?_⟩
    have e:o+3+i*3=o+(i+1)*3:=AQ
    rwa [e] at a
   ·exact .inr ⟨f,CQ _ d,a⟩
theorem zy0 {p:Prop}(h:p:=by
 subst hp
 refine⟨λe=>?_,λe=>?_,λe=>hq2 _ e rfl⟩
 ·have:=(IF e).2;omega
 ·have:=(IF e).2;omega):p:=h
theorem UC (b:Nat):∀(g:List (List Pl)) (o:Nat),(∀q∈g,q.Nodup/\∀p∈q,p.1≠b)->g.Pairwise (λq r=>∀p∈q,p∉r)->(Pq b o g).Nodup
 | [],_,_,_=>M4
 | q::r,o,j,l=>by
  have s:=UC b r (o+3) (λx d=>j x (CQ _ d)) (List.pairwise_cons.1 l).2;obtain⟨n,hq2⟩:=j q AU;have f:∀p∈Pq b (o+3) r,p≠(b,o)/\p≠(b,o+1)/\p∉q:=by
   intro p hp;rcases Vt b r (o+3) p hp with⟨i,_,hp | hp⟩ | ⟨x,d,hp⟩
   ·exact zy0
   ·exact zy0
   ·have k:=(j x (CQ _ d)).2 p hp
    exact⟨λe=>k (by rw[e]),λe=>k (by rw[e]),λe=>(List.pairwise_cons.1 l).1 x d p e hp⟩
  rw[Pq,List.nodup_cons,List.nodup_cons,A93];refine⟨?_,?_,n,s,λa m c t e=>(f c t).2.2 (e ▸ m)⟩
  ·simp only[DF,E7,not_or]
   exact⟨λe=>by have:=(IF e).2;omega,λe=>hq2 _ e rfl,λe=>(f _ e).1 rfl⟩
  ·simp only[E7,not_or]
   exact⟨λe=>hq2 _ e rfl,λe=>(f _ e).2.1 rfl⟩
theorem vZ {b o i:Nat}{qs:List (List Pl)}(h:∀q∈qs,∀p∈q,p.1≠b):(b,o+i*3+2)∉Pq b o qs:=by
 intro c;rcases Vt b qs o _ c with⟨j,_,a | a⟩ | ⟨q,d,a⟩
 ·have:=(IF a).2;omega
 ·have:=(IF a).2;omega
 ·exact h q d _ a rfl
theorem vW {w:World}{b cap:Nat}{l:List Stil.Io}{qs:List (List Pl)}(d:b<w.heap.size)(hl:qs.length=l.length)
  (h:∀i (h:i<l.length),w.cell? (AK b (i*3))=some (AB l[i].code)/\w.cell? (AK b (i*3+1))=some (AB l[i].one.op)/\∃u,w.cell? (AK b (i*3+2))=some u/\KW u (qs[i]'AQ)/\Dk w u l[i].one.args)
  (j:∀o,w.frozen? (AK b o)=false) (c:∀q∈qs,JX w q/\q.Nodup/\∀p∈q,p.1≠b) (hd:qs.Pairwise (λq r=>∀p∈q,p∉r)):
  R2 w (AE (some (AK b 0)) l.length cap) b 0 qs/\JX w (Pq b 0 qs)/\(Pq b 0 qs).Nodup/\Hw w (AE (some (AK b 0)) l.length cap) l:=by
 refine⟨⟨⟨_,cap,by rw[hl],λ_=>rfl⟩,λi hi=>?_⟩,λp a=>?_,UC b qs 0 (λq h=>⟨(c q h).2.1,(c q h).2.2⟩) hd,⟨_,cap,rfl,λi hi=>?_⟩⟩
 ·obtain⟨_,_,u,e,k,_⟩:=h i AQ
  exact⟨d,vZ (λq h=>(c q h).2.2),u,by rw[CV];exact e,k⟩
 ·rcases Vt b qs 0 p a with⟨i,hi,a | a⟩ | ⟨q,n,a⟩
  ·subst a
   obtain⟨f,_⟩:=h i AQ;exact⟨d,⟨_,by rw[ad];simp only[CV];exact f⟩,j _⟩
  ·subst a
   obtain⟨_,g,_⟩:=h i AQ;exact⟨d,⟨_,by rw[ad];simp only[CV];exact g⟩,j _⟩
  ·exact(c q n).1 p a
 ·obtain⟨f,g,u,e,_,m⟩:=h i hi
  exact⟨b,0,rfl,d,by rw[CV];exact f,by rw[CV];exact g,u,by rw[CV];exact e,m⟩
end Go.Proofs.YtifcnfeppdbjdaaGreatDoor
set_option maxHeartbeats 4000000
set_option maxRecDepth 100000
namespace Go.Proofs.YtifcnfeppdbjdaaGreatDoor
open Tryz Stil Go.RowKit Go.Sort Go.BigFrame
theorem fw (i:Stil.Io)(s:Value)(w:World)(hr:Et w)(D:Ji w)(y:Dk w s i.one.args)(u:i.fits):
  Calls prog 131 #[.agg #[AB i.code,AB i.one.op,s]] w (AN w (.bool (P5 i))):=by
 obtain⟨c,op,d⟩:=i;simp only at y u ⊢;have J:d.length<=1048576:=u.2.2.1;have o:Hid (∀W,AO w W->Calls prog 145 #[.agg #[AB op,s]] W (AN W (.bool (Du op d)))):=λW r=>UQ op s d W (hr.below r) (y.below r) u.2.2.2 AQ
 have m:Hid (∀W,AO w W->Calls prog 146 #[.agg #[AB op,s]] W (AN W (.bool (Gt op d)))):=λW r=>XJ op s d W (hr.below r) (y.below r) u.2.2.2 AQ
 have f:Hid (∀W,AO w W->∀k:Nat,k<12->Calls prog 147 #[AB k] W λe w'=>e=.returned (.string ⟨(Stil.listWords.getD k []).toArray⟩)/\w'=W):=λW r k K=>Avd k W (D.below r) K
 have b:Hid (P5 ⟨c,op,d⟩=if c<1\/11<c then false else if c<=3 then Du op d else if c=10 then Gt op d else(op==0 && d.length==0)):=rfl;obtain⟨G,H,rfl,_⟩:=y;obtain⟨R,E⟩:=AA (P5 ⟨c,op,d⟩)
 obtain⟨q1,B⟩:∃q,q=Du op d:=⟨_,rfl⟩
 obtain⟨L,A⟩:∃q,q=Gt op d:=⟨_,rfl⟩
 obtain⟨x,C⟩:=AA d.length
 rw[<-E] at b ⊢;rw[<-B] at b o;rw[<-A] at b m;rw[<-C] at b o m J ⊢;have j:Hid (∀W,Calls prog 122 #[.agg #[AB op,AE G x H]] W (AN W (.bool (op==0 && x==0)))):=λW=>NW _ _ _ _ _ AQ
 clear E B A u C hr D;by_cases F:c<0\/11<c
 ·have a:Hid (R=false):=by show _=_;rw[b.out,if_pos AQ]
  have M:(c==1)=false:=by rw[CS];omega
  have P:(c==2)=false:=by rw[CS];omega
  have N:(c==3)=false:=by rw[CS];omega
  have O:(c==10)=false:=by rw[CS];omega
  have I:Hid (c<0\/12<=c):=by show _\/_;omega
  clear b o m f F;go_enter func131,ntmps131
  go_wp2_with (go_at_call 147;refine(rA _ _ I.out).mono ?_;rintro e g ⟨rfl,rfl⟩)
  go_ret;exact⟨Ae a.symm,AW⟩
 ·have z:c=0\/c=1\/c=2\/c=3\/c=10\/c=4\/c=5\/c=6\/c=7\/c=8\/c=9\/c=11:=by omega
  clear F;rcases z with rfl | rfl | rfl | rfl | rfl | z
  ·have a:Hid (R=false):=by show _=_;rw[b.out,if_pos AQ]
   clear b o m j;go_enter func131,ntmps131
   go_wp2_with (go_at_call 147;refine(f _ AW 0 AQ).mono ?_;rintro e g ⟨rfl,rfl⟩;simp only[Stil.listWords,List.getD_cons_zero])
   go_ret;exact⟨Ae a.symm,AW⟩
  iterate 3
   ·have a:Hid (R=q1):=by show _=_;rw[b.out,if_neg AQ,if_pos AQ]
    clear b f m j;go_enter func131,ntmps131
    go_wp2_with (go_at_call 145;refine(o _ AW).mono ?_;rintro e g ⟨rfl,l⟩)
    go_ret;exact⟨Ae a.symm,AW⟩
  ·have a:Hid (R=L):=by show _=_;rw[b.out,if_neg AQ,if_neg AQ,if_pos rfl]
   clear b f o j;go_enter func131,ntmps131
   go_wp2_with (go_at_call 146;refine(m _ AW).mono ?_;rintro e g ⟨rfl,l⟩)
   go_ret;exact⟨Ae a.symm,AW⟩
  ·have a:Hid (R=(op==0 && x==0)):=by show _=_;rw[b.out,if_neg AQ,if_neg AQ,if_neg AQ]
   clear b o m;rcases z with rfl | rfl | rfl | rfl | rfl | rfl | rfl
   ·go_enter func131,ntmps131
    go_wp2_with (first | (go_at_call 147;refine(f _ AW 4 AQ).mono ?_;rintro e g ⟨rfl,rfl⟩;simp only[Stil.listWords,List.getD_cons_succ,List.getD_cons_zero]) | (go_at_call 122;refine(j _).mono ?_;rintro e t ⟨rfl,l⟩))
    go_ret;exact⟨Ae a.symm,AW⟩
   ·go_enter func131,ntmps131
    go_wp2_with (first | (go_at_call 147;refine(f _ AW 5 AQ).mono ?_;rintro e g ⟨rfl,rfl⟩;simp only[Stil.listWords,List.getD_cons_succ,List.getD_cons_zero]) | (go_at_call 122;refine(j _).mono ?_;rintro e t ⟨rfl,l⟩))
    go_ret;exact⟨Ae a.symm,AW⟩
   ·go_enter func131,ntmps131
    go_wp2_with (first | (go_at_call 147;refine(f _ AW 6 AQ).mono ?_;rintro e g ⟨rfl,rfl⟩;simp only[Stil.listWords,List.getD_cons_succ,List.getD_cons_zero]) | (go_at_call 122;refine(j _).mono ?_;rintro e t ⟨rfl,l⟩))
    go_ret;exact⟨Ae a.symm,AW⟩
   ·go_enter func131,ntmps131
    go_wp2_with (first | (go_at_call 147;refine(f _ AW 7 AQ).mono ?_;rintro e g ⟨rfl,rfl⟩;simp only[Stil.listWords,List.getD_cons_succ,List.getD_cons_zero]) | (go_at_call 122;refine(j _).mono ?_;rintro e t ⟨rfl,l⟩))
    go_ret;exact⟨Ae a.symm,AW⟩
   ·go_enter func131,ntmps131
    go_wp2_with (first | (go_at_call 147;refine(f _ AW 8 AQ).mono ?_;rintro e g ⟨rfl,rfl⟩;simp only[Stil.listWords,List.getD_cons_succ,List.getD_cons_zero]) | (go_at_call 122;refine(j _).mono ?_;rintro e t ⟨rfl,l⟩))
    go_ret;exact⟨Ae a.symm,AW⟩
   ·go_enter func131,ntmps131
    go_wp2_with (first | (go_at_call 147;refine(f _ AW 9 AQ).mono ?_;rintro e g ⟨rfl,rfl⟩;simp only[Stil.listWords,List.getD_cons_succ,List.getD_cons_zero]) | (go_at_call 122;refine(j _).mono ?_;rintro e t ⟨rfl,l⟩))
    go_ret;exact⟨Ae a.symm,AW⟩
   ·go_enter func131,ntmps131
    go_wp2_with (first | (go_at_call 147;refine(f _ AW 11 AQ).mono ?_;rintro e g ⟨rfl,rfl⟩;simp only[Stil.listWords,List.getD_cons_succ,List.getD_cons_zero]) | (go_at_call 122;refine(j _).mono ?_;rintro e t ⟨rfl,l⟩))
    go_ret;exact⟨Ae a.symm,AW⟩
theorem lP (b f:Int)(c g:Bool)(i:Stil.Io)(a:Value)(w:World)(hr:Et w)(l:Ji w)(k:Dk w a i.one.args)(j:i.fits):
  Calls prog 100 #[.agg #[AB b,AB f, .bool c, .bool g], .agg #[AB i.code,AB i.one.op,a]] w (AN w (.bool (Stil.rule 0 ⟨b,f,c,g⟩ i))):=by
 have m:Hid (∀W,AO w W->Calls prog 131 #[.agg #[AB i.code,AB i.one.op,a]] W (AN W (.bool (P5 i)))):=λW d=>fw i a W (hr.below d) (l.below d) (k.below d) j
 have o:Hid (Stil.rule 0 ⟨b,f,c,g⟩ i=!P5 i):=rfl;obtain⟨p,q,rfl,_⟩:=k;clear hr l j;go_enter func100,ntmps100
 go_wp2_with (go_at_call 131;refine(m _ AW).mono ?_;rintro e s ⟨rfl,r⟩)
 go_ret;exact⟨Ae o.symm,AW⟩
theorem vh (c:Int)(w:World):
  Calls prog 132 #[AB c] w λe w'=>e=.returned (AB (Stil.needs c))/\w'=w:=by
 obtain⟨R,a⟩:=AA (Stil.needs c)
 have b:Hid (R=Stil.needs c):=a;rw[<-a];clear a;go_enter func132,ntmps132
 go_wp2
 all_goals go_ret
 all_goals refine⟨F5 ?_,rfl⟩
 all_goals (rw[b.out];go_light;(try simp only[EC,CS] at*);simp[Stil.needs, *];try omega)
theorem lO (b f:Int)(a d:Bool)(i:Stil.Io)(p:Option Addr)(n cap:Nat)(w:World):
  Calls prog 101 #[.agg #[AB b,AB f, .bool a, .bool d], .agg #[AB i.code,AB i.one.op,AE p n cap]] w (AN w (.bool (Stil.rule 1 ⟨b,f,a,d⟩ i))):=by
 obtain⟨c,op,o⟩:=i;simp only;obtain⟨R,g⟩:=AA (Stil.rule 1 ⟨b,f,a,d⟩ ⟨c,op,o⟩)
 have l:Hid (R=decide (b<Stil.needs c)):=g;obtain⟨j,k⟩:=AA (Stil.needs c)
 have m:Hid (∀W,Calls prog 132 #[AB c] W λe w'=>e=.returned (AB j)/\w'=W):=by rw[k];exact λW=>vh c W
 rw[<-k] at l;rw[<-g];clear g k;cases a<;>cases d
 all_goals (
  go_enter func101,ntmps101
  go_upto_region 1 with fail
  go_region_with (go_at_call 132;refine(m _).mono ?_;rintro e q ⟨rfl,rfl⟩)
  all_goals (try go_wp2)
  all_goals go_ret
  all_goals refine⟨Ae ?_,AW⟩
  all_goals (rw[l.out]))
theorem lN (b f:Int)(a d:Bool)(i:Stil.Io)(p:Option Addr)(n cap:Nat)(w:World):
  Calls prog 102 #[.agg #[AB b,AB f, .bool a, .bool d], .agg #[AB i.code,AB i.one.op,AE p n cap]] w (AN w (.bool (Stil.rule 2 ⟨b,f,a,d⟩ i))):=by
 obtain⟨c,op,j⟩:=i;simp only;obtain⟨R,g⟩:=AA (Stil.rule 2 ⟨b,f,a,d⟩ ⟨c,op,j⟩)
 have k:Hid (R=Stil.rule 2 ⟨b,f,a,d⟩ ⟨c,op,j⟩):=g;rw[<-g];clear g;cases a<;>cases d
 all_goals (
  go_enter func102,ntmps102
  go_wp2
  all_goals go_ret
  all_goals refine⟨Ae ?_,AW⟩
  all_goals (rw[k.out];go_light;(try simp only[EC,CS] at*);rw[DY];simp[Stil.rule, *];try omega))
theorem lK (b f:Int)(a d:Bool)(i:Stil.Io)(p:Option Addr)(n cap:Nat)(w:World):
  Calls prog 103 #[.agg #[AB b,AB f, .bool a, .bool d], .agg #[AB i.code,AB i.one.op,AE p n cap]] w (AN w (.bool (Stil.rule 3 ⟨b,f,a,d⟩ i))):=by
 obtain⟨c,op,j⟩:=i;simp only;obtain⟨R,g⟩:=AA (Stil.rule 3 ⟨b,f,a,d⟩ ⟨c,op,j⟩)
 have k:Hid (R=Stil.rule 3 ⟨b,f,a,d⟩ ⟨c,op,j⟩):=g;rw[<-g];clear g;cases a<;>cases d
 all_goals (
  go_enter func103,ntmps103
  go_wp2
  all_goals go_ret
  all_goals refine⟨Ae ?_,AW⟩
  all_goals (rw[k.out];go_light;(try simp only[EC,CS] at*);rw[DY];simp[Stil.rule, *];try omega))
theorem lG (b f:Int)(a d:Bool)(i:Stil.Io)(p:Option Addr)(n cap:Nat)(w:World):
  Calls prog 104 #[.agg #[AB b,AB f, .bool a, .bool d], .agg #[AB i.code,AB i.one.op,AE p n cap]] w (AN w (.bool (Stil.rule 4 ⟨b,f,a,d⟩ i))):=by
 obtain⟨c,op,j⟩:=i;simp only;obtain⟨R,g⟩:=AA (Stil.rule 4 ⟨b,f,a,d⟩ ⟨c,op,j⟩)
 have k:Hid (R=Stil.rule 4 ⟨b,f,a,d⟩ ⟨c,op,j⟩):=g;rw[<-g];clear g;cases a<;>cases d
 all_goals (
  go_enter func104,ntmps104
  go_wp2
  all_goals go_ret
  all_goals refine⟨Ae ?_,AW⟩
  all_goals (rw[k.out];go_light;(try simp only[EC,CS] at*);rw[DY];simp[Stil.rule, *];try omega))
theorem lE (b f:Int)(a d:Bool)(i:Stil.Io)(p:Option Addr)(n cap:Nat)(w:World):
  Calls prog 105 #[.agg #[AB b,AB f, .bool a, .bool d], .agg #[AB i.code,AB i.one.op,AE p n cap]] w (AN w (.bool (Stil.rule 5 ⟨b,f,a,d⟩ i))):=by
 obtain⟨c,op,j⟩:=i;simp only;obtain⟨R,g⟩:=AA (Stil.rule 5 ⟨b,f,a,d⟩ ⟨c,op,j⟩)
 have k:Hid (R=Stil.rule 5 ⟨b,f,a,d⟩ ⟨c,op,j⟩):=g;rw[<-g];clear g;cases a<;>cases d
 all_goals (
  go_enter func105,ntmps105
  go_wp2
  all_goals go_ret
  all_goals refine⟨Ae ?_,AW⟩
  all_goals (rw[k.out];go_light;(try simp only[EC,CS] at*);rw[DY];simp[Stil.rule, *];try omega))
theorem lC (b f:Int)(a d:Bool)(i:Stil.Io)(p:Option Addr)(n cap:Nat)(w:World):
  Calls prog 106 #[.agg #[AB b,AB f, .bool a, .bool d], .agg #[AB i.code,AB i.one.op,AE p n cap]] w (AN w (.bool (Stil.rule 6 ⟨b,f,a,d⟩ i))):=by
 obtain⟨c,op,j⟩:=i;simp only;obtain⟨R,g⟩:=AA (Stil.rule 6 ⟨b,f,a,d⟩ ⟨c,op,j⟩)
 have k:Hid (R=Stil.rule 6 ⟨b,f,a,d⟩ ⟨c,op,j⟩):=g;rw[<-g];clear g;cases a<;>cases d
 all_goals (
  go_enter func106,ntmps106
  go_wp2
  all_goals go_ret
  all_goals refine⟨Ae ?_,AW⟩
  all_goals (rw[k.out];go_light;(try simp only[EC,CS] at*);rw[DY];simp[Stil.rule, *];try omega))
