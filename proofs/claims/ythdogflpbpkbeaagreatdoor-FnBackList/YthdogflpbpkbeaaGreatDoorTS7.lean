import Derived.Test.YthdogflpbpkbeaaGreatDoorCH3
import Derived.Test.YthdogflpbpkbeaaGreatDoorCI7
import Derived.Test.YthdogflpbpkbeaaGreatDoorBT14
import Derived.Test.YthdogflpbpkbeaaGreatDoorTS5
set_option linter.defProp false
set_option maxRecDepth 100000
set_option maxHeartbeats 4000000
namespace Go.Co
open Stil Go.Conc
section
variable {P:AY}{Stop:AX -> AU -> Prop}{w:AU}
def mD{g:AX}(h:OkG g->Comes P g w Stop):Comes P g w Stop:=λd sl t hF c=>h c d sl t hF c
end
end Go.Co
namespace Go.Proofs.YthdogflpbpkbeaaGreatDoor
open Tryz Stil Go.RowKit Go.Sort Go.BigFrame Go.Conc Go.Co
variable {B:Nat}{w':AU}
structure D3(B:Nat)(w w':AU):Prop where
 os:w'.os=w.os
 out:w'.output=w.output
 size:w.heap.size<=w'.heap.size
 block:∀k,k<B->w'.heap[k]?=w.heap[k]?
def D3.trans{a b c:AU}(h:D3 B a b)(k:D3 B b c):D3 B a c:=⟨k.os.tr h.os,k.out.tr h.out,DU h.size k.size,λi hi=>(k.block i hi).tr (h.block i hi)⟩
abbrev D3.tr:=@D3.trans
def D3.of{w:AU}(h:Below B w w'):D3 B w w':=⟨h.os,h.output,h.size,h.block⟩
def D3.le{c:Nat}{w:AU}(h:D3 B w w')(d:c<=B):D3 c w w':=⟨h.os,h.out,h.size,λk e=>h.block k (DO e d)⟩
def D3.tape{w:AU}(h:D3 B w w')(d:Nat):Below B w {w' with tape:=w.tape,drawn:=d}:=⟨h.os,rfl,h.out,h.size,h.block⟩
def Tp(w w':AU):Prop:=∃c d,w'={w with tape:=c,drawn:=d}
def Tp.refl(w:AU):Tp w w:=⟨w.tape,w.drawn,rfl⟩
theorem Tp.al{w l f:AU}(h:Tp w l)(k:Al (λx=>x=l) f):Tp w f:=by obtain⟨q,d,rfl⟩:=h;obtain⟨p,n,h⟩:=k;refine⟨f.tape,f.drawn,?_⟩;have g:=congrArg World.heap h;have j:=congrArg World.os h;have m:=congrArg World.output h;obtain⟨a,b,c,d,e⟩:=f;simp only at g j m;subst g j m;rfl
theorem PO(n:Stil.DK):Ap n=0->IL n:=by refine Gp (λn=>Ap n=0->IL n) ?_ n;intro k e kids g h;rw[eI];have f:=(Za _ _ _).1 (Stil.full_of _ h);refine⟨?_,f.1,λx d=>g x d (N8 h x d)⟩;rcases F8 h with⟨c,_⟩|⟨c,_⟩|⟨c,_⟩<;>omega
theorem rN{n:Stil.DK}(h:Gu n)(g:Ci n)(j:Stil.CM n<=400):MV n:=by
 refine⟨(Ea g).2.1.2.1,?_,λx c=>⟨?_,?_⟩⟩
 .rcases h with h|h;{rw[U7 h];exact EH _};by_cases d:Aj n=true;{rw[U7 d];exact EH _};have e:Stil.CM n=Ad n:=BQ d;rw[e,Dn n]at j;have:=Gg n.K;omega
 .unfold Bv at c;split at c;{cases c};rename_i d;have f:=h.resolve_left d;split at c;{exact PO x (N8 f.2.2 x c)};rw[BB.1 c];exact PO n f.2.2
 have:=NW n x c;omega
def rP(a:Stil.DL):Et a->Ba a->Ah a<=400->I0 a:=by
 refine Fz (λa=>Et a->Ba a->Ah a<=400->I0 a) ?_ a;intro n cs kids r g j m;have⟨_,f⟩:=(Ee _ _ _).1 g;have⟨_,_,_,_,e⟩:=(Ep _ _ _).1 j;rw[Dy]at m;have z:=Po kids;have d:∀x∈kids,Ah x<=400:=λx c=>by have:Ah x<=Ja kids:=Fa Ah kids x c;omega
 rw[eJ];refine⟨BS,BS,λx c=>?_,λx c=>r x c (f x c) (e x c) (d x c)⟩;have t:=d x c;have s:=f x c;have l:=e x c;obtain⟨q,y,u⟩:=x;rw[Dy]at t;exact rN (n:=q) ((Ee _ _ _).1 s).1 ((Ep _ _ _).1 l).1 BS
def GQ(w:AU)(v:AW)(L:AP):Prop:=∃a c,v=AE a L.length c/\L.length<=c/\Eo w v L
theorem GQ.nil(w:AU):GQ w AG []:=⟨none,0,rfl,DN _,none,0,rfl,λi hi=>by cases hi⟩
theorem jk{w:AU}{base s n:Nat}{e:AZ}{a:Δ}{c:Nat}{xs:Θ}(h:w.ownsRow base e s (AE a n c) n xs):n<=c:=by
 rcases h.2 with⟨d,j⟩|⟨g,l,cur,d,_,_,f,_⟩
 .simp only[BN]at d;omega
 simp only[BN]at d;omega
theorem mY{w w0:AU}{v:AW}{L:List MI}(h:w.ownsRow B 73 3 v L.length (Pn L))(hd:∀x∈L,Aq w0 x.e.av x.e.ds)(C:D3 w0.heap.size w0 w):GQ w v (L.map MI.inst):=by
 obtain⟨a,c,rfl⟩:=VX h;have u:=jk h;refine⟨a,c,by rw[Db],xBc,a,c,by rw[Db],λi hi=>?_⟩;rw[Db]at hi;have⟨g,_,f,_,t,_,d⟩:=Jg h BS;simp only[BN]at f;obtain⟨rfl,_,_⟩:=f;have q:∀(l:List MI)(i:Nat)(h:i<l.length),(Pn l)[i*3]?=some (AB l[i].code)/\(Pn l)[i*3+1]?=some (AB l[i].e.op)/\(Pn l)[i*3+2]?=some l[i].e.av:=by
  intro l;induction l with
  |nil=>intro i h;cases h
  |cons m r y=>
   intro i h;have e:Pn (m::r)=AB m.code::AB m.e.op::m.e.av::Pn r:=rfl;cases i with
   |zero=>exact⟨rfl,rfl,rfl⟩|succ i=>have⟨z,s,A⟩:=y i C4;have n:(i+1)*3=i*3+1+1+1:=BS;rw[e,n];exact⟨by simpa using z,by simpa using s,by simpa using A⟩
 have⟨D,j,E⟩:=q L i hi;refine⟨g,0,rfl,t,?_⟩;rw[Fo,EF];refine⟨d _ _ D,d _ _ j,_,d _ _ E,?_⟩;have e:Aq {w with tape:=w0.tape,drawn:=0} L[i].e.av L[i].e.ds=Aq w L[i].e.av L[i].e.ds:=BW;exact e ▸ (hd _ (DY hi)).below (C.tape 0)
theorem VB{w₀:AU}{f:P9->Nat->List MI}:∀(cs:Γ)(d:List P9),cs.length=d.length->(∀m∈d,∀c,MIs w₀ (f m c) (Ed m.A))->MIs w₀ (Wh f cs d).flatten ((d.map P9.A).map Ed).flatten
 |[],[],_,_=>MIs.nil
 |[],_::_,h,_=>by cases h
 |_::_,[],h,_=>by cases h
 |c::cs,m::d,h,g=>by
  have j:=VB cs d C4 λx hx=>g x Cd
  have e:Wh f (c::cs) (m::d)=f m c::Wh f cs d:=rfl;rw[e,ER,DZ,DZ,ER];exact(g m BU c).append j
theorem Av6(l:Ek)(t:AW)(w:AU)(hr:Eh w)(hg:Ew w)(ai:Dj w t l)(hl:l.length<=1048576)(an:Aw l<=1000000000)(H:∀x∈l,Ba x):
  Z9 prog 33 #[t] w λv w'=>GQ w' v (Ei l)/\D3 w.heap.size w w':=by
 intro E cs Stop hn;have F:∃c0 c1 blk tl id ops,Tryz.f33.body=some (.seq c0 (.seq c1 (.seq (.seq (.region id ops false) blk) (.seq tl .ret)))):=⟨_,_,_,_,_,_,rfl⟩;obtain⟨c0,c1,blk,tl,id,ops,F⟩:=F;refine mD λag=>?_;have aj:∀c∈E::cs,ET c:=ag.2;clear ag;rw[Go.Co.enter_at #[t] func33 F];simp only[ntmps33,D1,DT,DW,Nat.reduceAdd,Nat.reduceSub,EV,EW,EY,EX,ED,EA];have ac:∀(v:AW)(w':AU)(q:Tape)(d:Nat),(∃j:List P9,j.map P9.A=Ai l/\SlR w'.z 6 (Xq {w' with tape:=q,drawn:=d}) v j/\(∀m∈j,VOk w'.z {w' with tape:=q,drawn:=d} m)/\D3 w.z w {w' with tape:=q,drawn:=d})->
   ∃j:List P9,j.map P9.A=Ai l/\SlR w'.z 6 (Xq w') v j/\(∀m∈j,VOk w'.z w' m)/\D3 w.z w w':=by
  rintro v w' q d⟨j,s,A,D,z⟩;have e:Xq {w' with tape:=q,drawn:=d}=Xq w':=BW
  have T:VOk w'.z {w' with tape:=q,drawn:=d}=VOk w'.z w':=BW
  exact⟨j,s,e ▸ A,T ▸ D,z.os,z.out,z.size,z.block⟩
 have vZ:∀ab,Tp w ab->Z9 prog 38 #[t] ab λv w'=>∃j:List P9,j.map P9.A=Ai l/\SlR w'.z 6 (Xq w') v j/\(∀m∈j,VOk w'.z w' m)/\D3 w.z w w':=by rintro _⟨ax,d0,rfl⟩;refine(XJ okP (Post:=λv w'=>∃j:List P9,j.map P9.A=Ai l/\SlR w'.z 6 (Xq w') v j/\(∀m∈j,VOk w'.z w' m)/\D3 w.z w w') fun q d=>?_).mo λv w'⟨q,d,h⟩=>ac v w' q d h;have e1:Eh {w with tape:=q,drawn:=d}=Eh w:=BW;have T:Ew {w with tape:=q,drawn:=d}=Ew w:=BW;have e3:Dj {w with tape:=q,drawn:=d} t l=Dj w t l:=BW;refine(Xe l t {w with tape:=q,drawn:=d} [] [] ⟨(λb y=>by cases y),λx Q=>by cases Q⟩ (e1 ▸ hr) (T ▸ hg) (e3 ▸ ai) hl an H).mo λe w' h=>?_;obtain⟨a,c,rfl,hS,y⟩:=h;have⟨j,s,A,D⟩:=hS.V Av;exact⟨_,rfl,j,s,A,D,y.os,y.output,y.size,y.block⟩
 have bU:=λ(Low:Nat)(w₀:AU)(j:List P9)(f:P9->Nat->List MI)(aa:Δ)(cap:Nat)(Stop:AX->World->Prop)s A D z h5 h6 wo h7 vV aw=>qE (Low:=Low) (Stop:=Stop) w₀ j f aa cap s A D z h5 h6 (λ_=>False) wo h7 t vV F aw;have W:=F;unfold Tryz.f33 at W;dsimp only at W;cases W;refine V4 okP λw1 h=>?_;have t1:=(Tp.refl w).al h;refine Rh okP λw2 h=>?_;have t2:=t1.al h;simp only[D1,DT,DW,EF,List.range,List.range.loop];refine Qj okP rfl Br DI (v:=AG) (λ_=>by go_simp) (λ_=>by simp[go_sem]) λw3 h=>?_;have t3:=t2.al h;refine NJ okP λw4 h=>?_;have t4:=t3.al h;refine V4 okP λw5 h=>?_;have t5:=t4.al h;refine Rh okP λw6 h=>?_;have t6:=t5.al h;simp only[D1,DT,DW,EF,List.range,List.range.loop];refine Qj okP rfl Br DI (v:=AG) (λ_=>by go_simp) (λ_=>by simp[go_sem]) λw7 h=>?_;have t7:=t6.al h;refine NJ okP λw8 h=>?_;have t8:=t7.al h;refine V4 okP λw9 h=>?_;have t9:=t8.al h;refine V4 okP λaz h=>?_;have Y:=t9.al h;refine Rh okP λaC h=>?_;have ad:=Y.al h;simp only[D1,DT,DW,Nat.reduceAdd,EF,List.range,List.range.loop];refine Qj okP rfl Br DI (v:=t) (λ_=>by go_simp) (λ_=>by simp[go_sem]) λay h=>?_;have ae:=ad.al h;clear t1 t2 t3 t4 t5 t6 t7 t8 t9 Y ad h;refine Qf okP rfl Br DI rfl func38 rfl (vals:=#[t]) xCm (λw' h=>vZ w' (ae.al h)) λv n hp=>?_;clear vZ ac ae;obtain⟨j,N,⟨aa,cap,rfl,-,ap⟩,yU,C⟩:=hp;have Z:=Kt H;have M:∀m∈j,I0 m.A/\IL m.N.N/\Ad m.N.N<=1000000:=λm r=>by
  have L:m.A∈Ai l:=by rw[<-N];exact IF r
  by_cases h0:(Am l).1=0;{have⟨hR,_,_⟩:=Oz H h0;have J:=hR _ L;have kX:m.A.N=m.N.N:=(by rw[P9.Ae]);have s:=J.N;rw[kX]at s;refine⟨rP _ J.fineA (Z.1 _ L) J.size,PO _ s.2.2,?_⟩;have hs:=J.size;have e:m.A=⟨m.A.N,m.A.C,m.A.K⟩:=(by generalize m.A=x;cases x;rfl);rw[e,Dy,kX]at hs;have:=Stil.size_le m.N.N;omega};rw[show Ai l=[] by unfold Ai;rw[BQ h0]]at L;cases L
 obtain⟨f,R⟩:∃f:P9->Nat->List MI,∀m∈j,∀c,MIs n (f m c) (Ed m.A)/\∀w O,Held n.z n O w->okS prog n.z c ((f m c).map MI.val) O w (born prog (dcall 119 #[.chan (some c),.agg #[AB m.N.kind,AB m.N.op,m.N.av,m.N.kv,m.cv,m.kv]])):=by
  classical
  refine⟨λm c=>if h:∃vs,MIs n vs (Ed m.A)/\∀w O,Held n.z n O w->okS prog n.z c (vs.map MI.val) O w (born prog (dcall 119 #[.chan (some c),.agg #[AB m.N.kind,AB m.N.op,m.N.av,m.N.kv,m.cv,m.kv]])) then h.choose else [],λm r c=>?_⟩;have h:=qT (c:=c) n m (M m r).1 (M m r).2.1 (M m r).2.2 (yU m r);simp only[h,dite_true];exact h.choose_spec
 have af:Ei l=((j.map P9.A).map Ed).flatten:=by unfold Ei;rw[N]
 have oK:=λ(cs:Γ)(h:cs.length=j.length)=>VB (w₀:=n) (f:=f) cs j h λm r c=>(R m r c).1;have aB:j.length<=40:=by have:=Z.2.2;rw[<-N,Db]at this;exact this
 refine Comes.then (S:=λV w'=>(∃(u:Act)(v:AW),V=G {(base 33).at u [.code .ret] with mode:=.returning} (E::cs)/\u.defers=[]/\ResultsC prog Tryz.f33 u.tmps v/\GQ w' v (Ei l)/\D3 w.z w w')/\OkG V) ?_ ?_
 .refine vd (Low:=n.z) (O:=λ_=>False) (λ_ h=>h.elim) (DN _) (λg w h=>h.2) ?_;refine bU n.z n j f aa cap _ ap yU (λm r c w O hF=>(R m r c).2 w O hF) BS (λcs' U=>?_) (λm r c x Q=>(R m r c).1.2 x Q) n ⟨λ_ _=>rfl,DN _,λ_ h=>h.elim,rfl,rfl⟩ (E::cs) ?_;{have s:=congrArg List.length (oK cs' U).1;rw[Db,<-af]at s;rw[s];have:=Qc H;omega};intro u w' v cs' hd I U ah hF;have hI:=oK cs' U;have ao:D3 n.z n w':=⟨hF.os,hF.out,hF.low,hF.still⟩;have ak:GQ w' v (Ei l):=by rw[af,<-hI.1];exact mY ah hI.2 ao
  have au:D3 w.z w w':=⟨hF.os.tr C.os,hF.out.tr C.out,DU C.size hF.low,λk hk=>(hF.still k (DO hk C.size)).tr (C.block k hk)⟩;have ar:OkG (G {(base 33).at u [.code .ret] with mode:=.returning} (E::cs)):=by refine⟨λi hi=>?_,aj⟩;have:i=.code .ret:=BB.1 hi;rw[this];trivial
  exact⟨⟨u,v,rfl,hd,I,ak,au⟩,ar⟩
 rintro V w' _⟨⟨u,v,rfl,hd,I,hO,K⟩,_⟩;refine Tz okP (fr':=E.finish v) (cs':=cs) (λX=>?_) λaA h=>?_
 .exact stepG_leave (b:=base 33) rfl hd func33 (I X).1 (I X).2
 obtain⟨q,d,rfl⟩:=(Tp.refl w').al h;have e:GQ {w' with tape:=q,drawn:=d} v (Ei l)=GQ w' v (Ei l):=BW;exact hn v _ ⟨e ▸ hO,K.os,K.out,K.size,K.block⟩
end Go.Proofs.YthdogflpbpkbeaaGreatDoor
namespace Go.Co
open Go.Conc
variable {P:AY}{a:Act}
def Si{R:Act->World->Prop}{c:Code}{l:List Code}{w:AU}(h:c.wp P (Exit.then (WpL P R l) λ_ _ _=>False) a w):WpL P R (c::l) a w:=h
def SR{R:Act->World->Prop}{w:AU}(h:R a w):WpL P R [] a w:=h
theorem jf{Stop:AX->World->Prop}{w:AU}(u:OkP P){f:FuncId}{args:δ}{v:AW}{Post:AU->Prop}(h:∀j d,Calls P f args {w with tape:=j,drawn:=d} λe w'=>e=.returned v/\Post w')
  (s:∀(c:Frame)(w' W:AU),c.leaving P W (.returned v)->c.fn=f->Al Post w'->Comes P (G c []) w' Stop):Comes P (G (Frame.enter P f args .normal) []) w Stop:=by
 refine V6 u (λq w'=>∃c,q=G c []/\c.leaving P w' (.returned v)/\c.fn=f/\Post w') rfl (λg w⟨c,h,_⟩=>by rw[h];rfl) (fun j d=>?_) ?_
 .obtain⟨e,w',r,⟨rfl,m⟩,⟨n,t⟩,l,p⟩:=h j d [];exact⟨n,G r [],w',t,r,rfl,p,l,m⟩
 rintro q w'⟨j,d,c,rfl,p,l,m⟩;exact s c w' _ p l ⟨j,d,m⟩
end Go.Co
namespace Go.Proofs.YthdogflpbpkbeaaGreatDoor
open Tryz Go.RowKit Go.Sort Go.BigFrame
section
open Go.Co
def gR(F:FuncId)(w:AU)(g':AX)(w':AU):Prop:=∃c:Frame,g'=Go.Conc.G c []/\c.mode=.returning/\c.defers=[]/\c.kind=.normal/\c.fn=F/\c.tmps.getD 2 AQ=.bool true/\D3 w.heap.size w w'
section
variable {w w':AU}{v:AW}
def Dj.blw{l:Ek}(h:Dj w v l)(c:D3 w.heap.size w w'):Dj w' v l:=by have e:Dj {w' with tape:=w.tape,drawn:=0} v l=Dj w' v l:=BW;exact e ▸ h.below (c.tape 0)
def Eo.blw{l:AP}(h:Eo w v l)(c:D3 w.heap.size w w'):Eo w' v l:=by have e:Eo {w' with tape:=w.tape,drawn:=0} v l=Eo w' v l:=BW;exact e ▸ h.below (c.tape 0)
def Eh.blw(h:Eh w)(c:D3 w.heap.size w w'):Eh w':=by have e:Eh {w' with tape:=w.tape,drawn:=0}=Eh w':=BW;exact e ▸ h.below (c.tape 0)
def Ew.blw(h:Ew w)(c:D3 w.heap.size w w'):Ew w':=by have e:Ew {w' with tape:=w.tape,drawn:=0}=Ew w':=BW;exact e ▸ h.below (c.tape 0)
def Tp.blw{B:Nat}(h:Tp w w'):D3 B w w':=by obtain⟨c,d,rfl⟩:=h;exact⟨rfl,rfl,DN _,λ_ _=>rfl⟩
end
section
open Go.Conc
variable {Stop:AX -> AU -> Prop}{a:Act}{w W0:AU}{b:Frame}{k:List Item}{cs:List Frame}{ops:Array Oper}{i:Nat}{rest:Γ}{o:Oper}
theorem cP(t:Tp W0 w)(v:AW)(h:∀w',Tp W0 w'->Go.Co.Comes prog (G (b.at (a.put o.dst v) (.inRegion ops rest::k)) cs) w' Stop)(ho:ops[i]?=some o:=by rfl)(hw:Region.wanted o (yielded ops a.tmps)=true:=by rfl)(hk:b.kind≠.early:=by simp[Go.Conc.base])
  (hr:∀w₁:AU,(execOp a.eval o).run prog w₁=.ok (.value v) w₁:=by(intro _;first|(simp[Act.put];go_simp;done)|(simp[Act.put];go_simp;simp[*];done)|(simp[Act.put, *];go_simp;done)))
  (he:∀w₁:AU,(execOp a.eval o).events prog w₁ #[]=#[]:=by(intro _;first|(simp[go_sem];done)|rfl)):Go.Co.Comes prog (G (b.at a (.inRegion ops (i::rest)::k)) cs) w Stop:=Qj okP ho hw hk hr he λw' q=>h w' (t.al q)
def cN(t:Tp W0 w)(h:∀w',Tp W0 w'->Go.Co.Comes prog (G (b.at a k) cs) w' Stop):Go.Co.Comes prog (G (b.at a (.inRegion ops []::k)) cs) w Stop:=NJ okP λw' q=>h w' (t.al q)
def cR{e:Nat}{d:Code}(h:∀w',Tp w w'->Go.Co.Comes prog (G (b.at a (.inRegion ops (List.range ops.size)::.code d::k)) cs) w' Stop):Go.Co.Comes prog (G (b.at a (.code (.seq (.region e ops false) d)::k)) cs) w Stop:=V4 okP λ_ q=>Rh okP λw' c=>h w' (((Tp.refl w).al q).al c)
theorem cC(t:Tp W0 w){f:FuncId}{F:Func}{c:Code}{args:Array Operand}{ats:Array AZ}(vals:δ){Post:AW->World->Prop}(hf:prog.funcs[f]?=some F)(hcall:∀w',Tp W0 w'->Z9 prog f vals w' Post)
  (h:∀v w',Post v w'->Go.Co.Comes prog (G (b.at (a.put o.dst v) (.inRegion ops rest::k)) cs) w' Stop) (ho:ops[i]?=some o:=by rfl) (hw:Region.wanted o (yielded ops a.tmps)=true:=by rfl) (hk:b.kind≠.early:=by simp[Go.Conc.base])
  (hop:o.op=.call {callee:=.value (.func f),args,argTypes:=ats}:=by rfl) (hb:F.body=some c:=by rfl) (hargs:args.map a.eval=vals:=by simp[Act.eval,Act.put]):Go.Co.Comes prog (G (b.at a (.inRegion ops (i::rest)::k)) cs) w Stop:=Qf okP ho hw hk hop hf hb hargs (λw' q=>hcall w' (t.al q)) h
def Tp.lw{W w':AU}(t:Tp W0 W)(c:D3 W.heap.size W w'):D3 W0.heap.size W0 w':=by obtain⟨e,d,rfl⟩:=t;exact⟨c.os,c.out,c.size,c.block⟩
end
end
section
open Stil
def K7(w':AU)(R:Ek × Int)(e:Ending):Prop:=∃(a:Δ)(c:Nat),e=.returned (.tuple #[AE a R.1.length c,AB R.2])/\Dj w' (AE a R.1.length c) R.1
def zS(w:AU):Calls prog 23 #[.nilIface] w λe w'=>e=.returned (AB 0)/\w'=w:=by
 have h:∀w:AU,(Instr.typeAssert .nilIface 49 102 true).run prog w=.ok (.tuple #[AB 0,.bool false]) w:=λw=>by kernel_rfl
 go_enter func23,ntmps23;go_wp2;go_ret;exact⟨rfl,rfl⟩
def XU(c:Int)(w:AU):Calls prog 23 #[.iface 102 (AB c)] w λe w'=>e=.returned (AB c)/\w'=w:=by
 have h:∀w:AU,(Instr.typeAssert (.iface 102 (AB c)) 49 102 true).run prog w=.ok (.tuple #[AB c,.bool true]) w:=λw=>by kernel_rfl
 go_enter func23,ntmps23;go_wp2;go_ret;exact⟨rfl,rfl⟩
def vq(L:AP)(b o cap:Nat)(g:Δ)(j:L≠[]->g=some (AK b o))(w:AU)(xs:Ek)(E:Eh w)(D:Hr w)(q:Ew w)(u:LAt w b o L)(hl:L.length<=1000)(n:∀x∈L,x.fits)(H:L.length<=cap)(s:(Az L).1=0)(cs:List (AP))(A:Stil.UpR cs xs)(p:cs.flatten=L)(F:∀x∈xs,Ba x)(z:Aw xs<=4000)(I:xs.length<=1000):
  Calls prog 5 #[AE g L.length cap] w λe w'=>K7 w' (FT xs) e/\AO w w':=by
 have r:=Af (sA L b o cap g j w xs E D q u hl n H s cs A p F z I);have⟨R,l⟩:=AA (FT xs);rw[<-l]at r⊢;clear j l E D q u n s A p F z;go_enter func5,ntmps5;go_upto_region 2 with(go_at_call 22;refine r.mo ?_;rintro e J⟨⟨a,c,K,rfl,h,m⟩,y⟩;have t:=MJ h;have f:=MJ m;clear h m);rcases f.out with⟨rfl,d⟩|⟨rfl,d⟩
 .have C:=BZ d;clear d f;go_wp2_with(go_at_call 23;refine(zS _).mo ?_;rintro e G⟨rfl,rfl⟩);refine BH (v:=.tuple #[AE a R.1.l c,AB 0]) xBz rfl ⟨⟨a,c,by rw[C.out],t.out⟩,y⟩
 have C:=BZ d;clear d f;go_wp2_with(go_at_call 23;refine(XU _ _).mo ?_;rintro e G⟨rfl,rfl⟩);refine BH (v:=.tuple #[AE a R.1.l c,AB R.2]) xBz rfl ⟨⟨a,c,rfl,t.out⟩,y⟩
def tg(L:AP)(v:AW)(w:AU)(g:Eh w)(f:Hr w)(c:Eo w v L)(hl:L.length<=1048576)(d:∀x∈L,x.fits)(h:0<(Az L).1):
  Calls prog 5 #[v] w λe w'=>K7 w' ([],1) e/\AO w w':=by have j:=BZ (sB L v w g f c hl d h);obtain⟨a,cap,rfl,-⟩:=c;clear g f d h;go_enter func5,ntmps5;go_wp2_with(first|(go_at_call 22;refine j.mo ?_;rintro e m⟨rfl,l⟩)|(go_at_call 23;refine(XU _ _).mo ?_;rintro e n⟨rfl,rfl⟩));refine BH (v:=.tuple #[AG,AB 1]) xBz rfl ⟨⟨none,0,rfl,none,0,rfl,λi hi=>by cases hi⟩,?_⟩;assumption
end
open Stil
def Wm(c r:AW)(w:AU):Sem.run prog (Instr.field 30 (.agg #[c,r]) 0) w=.ok c w:=BW
def vx(c r:AW)(w:AU):Sem.run prog (Instr.field 38 (.agg #[c,r]) 0) w=.ok c w:=BW
def Sv.lists{w:AU}{bs:Γ}{ts:Ao}{R:List (AP)}{v:AW}(h:Sv w bs ts)(h1:([sl (R.map LH)],[v])∈ts):∃a cap,v=AE a R.length cap/\∀i(hi:i<R.length),∃b o e,a=some (AK b o)/\b<w.heap.size/\w.cell? (AK b (o+i))=some e/\Eo w e R[i]:=by
 have⟨a,n,h1,_,l⟩:=(I9.1 (h.2 _ h1)).read (A:=λb o c=>∃e,w.c (AK b o)=some e/\Eo w e c) (k:=1) (λ_=>rfl) λd _ b o c h m=>by rw[LH,sl,Z4]at h;obtain⟨q,rfl,v,r,rfl,f,j⟩:=h;exact⟨v,m 0 _ rfl,ZI f⟩
 refine⟨a,n,h1,λi hi=>?_⟩;have⟨b,o,f,_,j,e,g,p⟩:=l i hi;rw[Nat.mul_one]at g;exact⟨b,o,e,f,j,g,p⟩
def EM.new{w:AU}{a:Δ}{cap:Nat}{L:AP}{t:AZ}:EM w (w.alloc (.cells #[AE a L.length cap,AB 0] t)) a cap L L:=by refine⟨Aa _ _,BU,xAa,?_,xAa,List.suffix_refl _⟩;rw[Nat.sub_self];simp[go_sem]
def tH(l:AP)(v:AW)(w:AU)(f:Eo w v l)(hl:l.length<=1048576)(g:∀x∈l,x.fits)(p:0<(Az l).1):
  Calls prog 6 #[v] w λe w'=>K7 w' ([],1) e/\AO w w':=by have j:=Af (λW(h:AO w W)=>Xa l v W (f.below h) hl g);obtain⟨a,cap,rfl,-⟩:=f;have⟨c,d⟩:=AA ((Az l).1);have⟨k,m⟩:=AA ((Az l).2);rw[<-d,<-m]at j;rw[<-d]at p;clear d m g;have s:=Wm;go_enter func6,ntmps6;go_wp2_with(go_at_call 8;refine(j _ BV).mo ?_;rintro e r⟨rfl,q⟩);refine BH (v:=.tuple #[AG,AB 1]) xCa rfl ?_;exact⟨⟨none,0,rfl,none,0,rfl,λi hi=>by cases hi⟩,BV⟩
def vD(l:AP)(v:AW)(w:AU)(xs:Ek)(K:Eo w v l)(u:∀x∈l,x.fits)(ah:∀a n c,v=.slice a n c->n<=c)(s:(Az l).1=0)(hx:Stil.UpR (Ej l) xs)(mO:∀x∈xs,Ba x)(ap:Aw xs<=4000)(aF:xs.length<=1000):
  Calls prog 6 #[v] w λe w'=>K7 w' (FT xs) e/\AO w w':=by
 have hl:=Wx s;have y:=Af (λW(h:AO w W)=>Xa l v W (K.below h) BS u);have T:=Af (λW bs ts(hS:Sv W bs ts)(h:AO w W)=>ux l v W bs ts hS (K.below h) u ah s);have lY:=Af (λ(W:AU)(kv:AW)(h:Dj W kv xs)=>QA xs kv W h BS BS mO);have Z:Hid (∀c∈Ej l,c.length<=1000/\∀i∈c,i.fits):=by intro c z;have h1:=(Y0 s).1 ▸ List.sublist_flatten_of_mem z;exact⟨DU h1.length_le hl,λi hi=>u i (h1.subset hi)⟩
 have⟨R,hR⟩:=AA (Ej l);rw[<-hR]at T Z hx;have HX:=Af hx;have D:=Af hx.len.symm;obtain⟨a,cap,rfl,-⟩:=K;rw[s]at y;have⟨k,A⟩:=AA ((Az l).2);rw[<-A]at y;have aB:R.length<=1000:=by have:=D.out;omega
 clear A u hx hR ah s mO ap;have ax:=Wm;have aE:=vx;go_enter func6,ntmps6;go_wp2_with(first|(go_at_call 8;refine(y _ BV).mo ?_;rintro e H⟨rfl,ai⟩;have ac:Sv (H.alloc (.cells #[] 66)) [H.z] []:=Sv.box (bs:=[]) (ts:=[]) ⟨(λb m=>by cases m),λx hx=>by cases hx⟩ _)|(go_at_call 24;refine(T _ _ _ ac BV).mo ?_;rintro e w4⟨a4,c4,rfl,af,al⟩));have aD:=ai.size;have ad:=World.ownsRow_lit (base:=w.z) (e:=66) (size:=6) H #[] 0 ai.size CH rfl;have ab:=Af (ownsRow_below ad al);have aj:=Af af.nil;have ag:AO w w4:=BV;clear ac af ad;go_loopw [4,6] (λsv N wr=>∃(j:Nat)(L:Ek)(d:Δ)(g:Nat)(V:Θ),j<=R.length/\N=AB (j:Int)/\sv=AE d L.length g/\Hid (L=xs.take j)/\L.length<=1000/\wr.ownsRow w.z 66 6 (AE d L.length g) L.length V/\Sv wr (ob (AE d L.length g)++[]) ((I8 L,V)::([sl (R.map LH)],[AE a4 R.length c4])::[])/\AO w wr) (λ_ N _=>R.length - (intOf N).toNat);case atStart=>exact⟨0,[],some (AL H 0),0,[],EH _,rfl,rfl,rfl,EH _,by simpa using ab.out,aj.out,ag⟩
 case round=>
  clear aj ab y T ax ag al;obtain⟨j,L,d,g,V,hj,rfl,rfl,J,fO,hown,hS,m⟩:=hrel;by_cases X:j<R.length;{have vP:j<xs.length:=(by have:=D.out;omega);have⟨a',c',e',z⟩:=hS.lists (Ax Av);cases e';obtain⟨b,o,rv,rfl,aA,ao,F⟩:=z j X;have⟨i0,ae⟩:=HX.at j X vP;have r:=Z R[j] (DY X);obtain⟨C,E,rfl,-⟩:=id F;have U:=Af (λt:AZ=>(fi 1000 true wr C E R[j] (fj wr C E R[j] F r.1 r.2 1000) F r.1 r.2 R[j] [i0] xs[j] (wr.alloc (.cells #[.slice C R[j].length E,AB 0] t)) _ _ (hS.box _) Av ae EM.new).mo (λe w'(hh:JW xs[j] _ _ e w'/\EM wr w' C E R[j] [i0]/\_)=>And.intro hh.1 (hh.2.1.bel)));have I:Hid (xs.take (j+1)=L++[xs[j]]):=(by show _=_;rw[J.out];exact EK vP);have⟨x,hx⟩:=AA (xs[j]);rw[<-hx]at U I;have⟨n,hn⟩:=AA (R[j].length);rw[<-hn]at U ao;have aC:(0:Int)<=(j:Int):=BS;have az:(j:Int)<(R.length:Int):=BS;have au:(L++[x]).length<=1000:=(by rw[<-I.out,FP];omega);have aG:=m.size;clear hx hn z ae r F;go_wp2_with(first|(go_at_call 25;refine(U _).mo ?_;rintro e O⟨⟨a1,p1,a2,p2,a3,p3,a5,p4,rfl,av⟩,q⟩;have ar:=av.sub (cs:=ob (AE d L.length g)++[]) (λ_ h=>.tail _ h) (λ_ h=>h);have vO:=ownsRow_below hown q;have ay:=q.size)|(at_builtin;go_loud (refine Bj rfl rfl (Sv.pushM (f:=J9) (x:=x) (c:=A6 x a1 p1 a2 p2 a3 p3 a5 p4) _ kd6 ar (Ax Av) Av Un vO BS BS) rfl rfl ?_;rintro v7 w7⟨a7,c7,rfl,bH,an,bW,-⟩)));have Y:AO w O:=Bf m q;have vU:AO w w7:=Y.grown bW Y.size (λk A=>(hown.lt k A).1);exact⟨⟨j+1,L++[x],a7,c7,_,BS,by go_num,BU,I.symm,au,bH,an.sub (λ_ h=>h) B8,vU⟩,xAb⟩};obtain rfl:j=R.length:=by omega
  have hL:=J.out;rw[D.out,JO]at hL;subst hL;have S:=(hS.ice Av C6 (λb m=>by cases m)).arms Av;have Q:=Af (λW(h:AO wr W)=>lY W _ (S.at.below h));have HA:=Af S.at;obtain⟨tc,M⟩:∃t,t=(Am L).1:=⟨_,rfl⟩;obtain⟨tr,ak⟩:∃t,t=(Am L).2:=⟨_,rfl⟩;have G:Hid (FT L=if 0<tc then([],2) else(L,0)):=by rw[M];rfl
  rw[<-M,<-ak]at Q;clear M ak lY HX hS hown J S D;by_cases aa:0<tc;{rw[BR aa]at G;go_wp2_with(go_at_call 26;refine(Q _ BV).mo ?_;rintro e O⟨rfl,q⟩);refine BH (v:=.tuple #[AG,AB 2]) xCa rfl ?_;rw[G.out];exact⟨⟨none,0,rfl,none,0,rfl,λi hi=>by cases hi⟩,BV⟩};rw[BQ aa]at G;go_wp2_with(go_at_call 26;refine(Q _ BV).mo ?_;rintro e O⟨rfl,q⟩;have aw:=HA.below q);refine BH (v:=.tuple #[AE d L.length g,AB 0]) xCa rfl ?_;rw[G.out];exact⟨⟨d,g,rfl,aw⟩,BV⟩
