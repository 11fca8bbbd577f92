import Derived.Test.YtgnkpbhknkinoaaGreatDoorCH3
import Derived.Test.YtgnkpbhknkinoaaGreatDoorCI7
import Derived.Conc.LeavingOf
import Derived.Test.YtgnkpbhknkinoaaGreatDoorGb
set_option linter.defProp false
set_option maxRecDepth 100000
set_option maxHeartbeats 4000000
namespace Go.Co
open Stil Go.Conc
section
variable {P:AY}{Stop:AX -> AU -> Prop}{w:AU}
def jt{g:AX}(h:OkG g->Comes P g w Stop):Comes P g w Stop:=λd sl t hF c=>h c d sl t hF c
end
end Go.Co
namespace Go.Proofs.YtgnkpbhknkinoaaGreatDoor
open Tryz Stil Go.RowKit Go.Sort Go.BigFrame Go.Conc Go.Co
variable {B:Nat}{w':AU}
structure D1(B:Nat)(w w':AU):Prop where
 os:w'.os=w.os
 out:w'.output=w.output
 size:w.heap.size<=w'.heap.size
 block:∀k,k<B->w'.heap[k]?=w.heap[k]?
def D1.trans{a b c:AU}(h:D1 B a b)(k:D1 B b c):D1 B a c:=⟨k.os.tr h.os,k.out.tr h.out,DR h.size k.size,λi hi=>(k.block i hi).tr (h.block i hi)⟩
abbrev D1.tr:=@D1.trans
def D1.of{w:AU}(h:Below B w w'):D1 B w w':=⟨h.os,h.output,h.size,h.block⟩
def D1.le{c:Nat}{w:AU}(h:D1 B w w')(d:c<=B):D1 c w w':=⟨h.os,h.out,h.size,λk e=>h.block k (DL e d)⟩
def D1.tape{w:AU}(h:D1 B w w')(d:Nat):Below B w {w' with tape:=w.tape,drawn:=d}:=⟨h.os,rfl,h.out,h.size,h.block⟩
def Tp(w w':AU):Prop:=∃c d,w'={w with tape:=c,drawn:=d}
def Tp.refl(w:AU):Tp w w:=⟨w.tape,w.drawn,rfl⟩
theorem Tp.al{w j f:AU}(h:Tp w j)(k:Al (λx=>x=j) f):Tp w f:=by obtain⟨q,d,rfl⟩:=h;obtain⟨n,p,h⟩:=k;refine⟨f.tape,f.drawn,?_⟩;have g:=congrArg World.heap h;have m:=congrArg World.os h;have l:=congrArg World.output h;obtain⟨a,b,c,d,e⟩:=f;simp only at g m l;subst g m l;rfl
theorem S7(n:Stil.DI):Am n=0->IG n:=by refine Gs (λn=>Am n=0->IG n) ?_ n;intro k e kids f h;rw[eJ];have g:=(Y3 _ _ _).1 (Stil.full_of _ h);refine⟨?_,g.1,λx d=>f x d (Ny h x d)⟩;rcases Fq h with⟨c,_⟩|⟨c,_⟩|⟨c,_⟩<;>omega
theorem oy{n:Stil.DI}(h:Gp n)(g:Cj n)(j:Stil.CJ n<=400):MQ n:=by
 refine⟨(D8 g).2.1.2.1,?_,λx c=>⟨?_,?_⟩⟩
 .rcases h with h|h;{rw[U3 h];exact EI _};by_cases d:Ai n=true;{rw[U3 d];exact EI _};have e:Stil.CJ n=Ac n:=BQ d;rw[e,Dk n]at j;have:=F5 n.K;omega
 .unfold Bq at c;split at c;{cases c};rename_i d;have f:=h.resolve_left d;split at c;{exact S7 x (Ny f.2.2 x c)};rw[BB.1 c];exact S7 n f.2.2
 have:=NQ n x c;omega
def o0(a:Stil.DJ):Em a->Bh a->Ah a<=400->Im a:=by
 refine Fv (λa=>Em a->Bh a->Ah a<=400->Im a) ?_ a;intro n cs kids s q l r;have⟨_,e⟩:=(Ec _ _ _).1 q;have⟨_,_,_,_,f⟩:=(Fa _ _ _).1 l;rw[Dw]at r;have u:=Pi kids;have d:∀x∈kids,Ah x<=400:=λx c=>by have:Ah x<=I4 kids:=Ey Ah kids x c;omega
 rw[eK];refine⟨BS,BS,λx c=>?_,λx c=>s x c (e x c) (f x c) (d x c)⟩;have g:=d x c;have t:=e x c;have m:=f x c;obtain⟨j,z,y⟩:=x;rw[Dw]at g;exact oy (n:=j) ((Ec _ _ _).1 t).1 ((Fa _ _ _).1 m).1 BS
def GM(w:AU)(v:AW)(L:List Stil.Aw):Prop:=∃a c,v=AE a L.length c/\L.length<=c/\Gn w v L
theorem GM.nil(w:AU):GM w AG []:=⟨none,0,rfl,DK _,none,0,rfl,λi hi=>by cases hi⟩
theorem gQ{w:AU}{base s n:Nat}{e:AZ}{a:Option Ab}{c:Nat}{xs:List AW}(h:w.ownsRow base e s (AE a n c) n xs):n<=c:=by
 rcases h.2 with⟨d,f⟩|⟨g,l,cur,d,_,_,j,_⟩
 .simp only[BN]at d;omega
 simp only[BN]at d;omega
theorem kT{w w0:AU}{v:AW}{L:List MI}(h:w.ownsRow B 77 3 v L.length (Ph L))(hd:∀x∈L,Ar w0 x.e.av x.e.ds)(E:D1 w0.heap.size w0 w):GM w v (L.map MI.inst):=by
 obtain⟨a,c,rfl⟩:=VE h;have A:=gQ h;refine⟨a,c,by rw[DZ],xAz,a,c,by rw[DZ],λi hi=>?_⟩;rw[DZ]at hi;have⟨g,_,f,_,j,_,d⟩:=J9 h BS;simp only[BN]at f;obtain⟨rfl,_,_⟩:=f;have n:∀(l:List MI)(i:Nat)(h:i<l.length),(Ph l)[i*3]?=some (AB l[i].code)/\(Ph l)[i*3+1]?=some (AB l[i].e.op)/\(Ph l)[i*3+2]?=some l[i].e.av:=by
  intro l;induction l with
  |nil=>intro i h;cases h
  |cons m r D=>
   intro i h;have e:Ph (m::r)=AB m.code::AB m.e.op::m.e.av::Ph r:=rfl;cases i with
   |zero=>exact⟨rfl,rfl,rfl⟩|succ i=>have⟨q,z,t⟩:=D i C5;have y:(i+1)*3=i*3+1+1+1:=BS;rw[e,y];exact⟨by simpa using q,by simpa using z,by simpa using t⟩
 have⟨s,u,C⟩:=n L i hi;refine⟨g,0,rfl,j,?_⟩;rw[FW,ED];refine⟨d _ _ s,d _ _ u,_,d _ _ C,?_⟩;have e:Ar {w with tape:=w0.tape,drawn:=0} L[i].e.av L[i].e.ds=Ar w L[i].e.av L[i].e.ds:=BW;exact e ▸ (hd _ (DW hi)).below (E.tape 0)
theorem UH{w₀:AU}{f:P6->Nat->List MI}:∀(cs:List Nat)(d:List P6),cs.length=d.length->(∀m∈d,∀c,MIs w₀ (f m c) (Eb m.A))->MIs w₀ (V8 f cs d).flatten ((d.map P6.A).map Eb).flatten
 |[],[],_,_=>MIs.nil
 |[],_::_,h,_=>by cases h
 |_::_,[],h,_=>by cases h
 |c::cs,m::d,h,g=>by
  have j:=UH cs d C5 λx hx=>g x CZ
  have e:V8 f (c::cs) (m::d)=f m c::V8 f cs d:=rfl;rw[e,EN,DX,DX,EN];exact(g m BU c).append j
theorem Avh(l:List Stil.DJ)(t:AW)(w:AU)(hr:Ee w)(hg:Es w)(ap:Dx w t l)(hl:l.length<=1048576)(au:Au l<=1000000000)(L:∀x∈l,Bh x):
  Zv prog 26 #[t] w λv w'=>GM w' v (Ep l)/\D1 w.heap.size w w':=by
 intro A cs Stop hn;have C:∃c0 c1 blk tl id ops,Tryz.f26.body=some (.seq c0 (.seq c1 (.seq (.seq (.region id ops false) blk) (.seq tl .ret)))):=⟨_,_,_,_,_,_,rfl⟩;obtain⟨c0,c1,blk,tl,id,ops,C⟩:=C;refine jt λaj=>?_;have ar:∀c∈A::cs,EQ c:=aj.2;clear aj;rw[Go.Co.enter_at #[t] func26 C];simp only[ntmps26,Db,DO,DU,Nat.reduceAdd,Nat.reduceSub,ES,ET,EV,EU,EB,D4];have ag:∀(v:AW)(w':AU)(q:Tape)(d:Nat),(∃j:List P6,j.map P6.A=Aj l/\SlR w'.z 6 (Xk {w' with tape:=q,drawn:=d}) v j/\(∀m∈j,VOk w'.z {w' with tape:=q,drawn:=d} m)/\D1 w.z w {w' with tape:=q,drawn:=d})->
   ∃j:List P6,j.map P6.A=Aj l/\SlR w'.z 6 (Xk w') v j/\(∀m∈j,VOk w'.z w' m)/\D1 w.z w w':=by
  rintro v w' q d⟨j,s,D,H,y⟩;have e:Xk {w' with tape:=q,drawn:=d}=Xk w':=BW
  have R:VOk w'.z {w' with tape:=q,drawn:=d}=VOk w'.z w':=BW
  exact⟨j,s,e ▸ D,R ▸ H,y.os,y.out,y.size,y.block⟩
 have vO:∀ah,Tp w ah->Zv prog 58 #[t] ah λv w'=>∃j:List P6,j.map P6.A=Aj l/\SlR w'.z 6 (Xk w') v j/\(∀m∈j,VOk w'.z w' m)/\D1 w.z w w':=by rintro _⟨aD,d0,rfl⟩;refine(Wt okP (Post:=λv w'=>∃j:List P6,j.map P6.A=Aj l/\SlR w'.z 6 (Xk w') v j/\(∀m∈j,VOk w'.z w' m)/\D1 w.z w w') fun q d=>?_).mo λv w'⟨q,d,h⟩=>ag v w' q d h;have e1:Ee {w with tape:=q,drawn:=d}=Ee w:=BW;have R:Es {w with tape:=q,drawn:=d}=Es w:=BW;have e3:Dx {w with tape:=q,drawn:=d} t l=Dx w t l:=BW;refine(P3 l t {w with tape:=q,drawn:=d} [] [] ⟨(λb z=>by cases z),λx X=>by cases X⟩ (e1 ▸ hr) (R ▸ hg) (e3 ▸ ap) hl au L).mo λe w' h=>?_;obtain⟨a,c,rfl,hS,z⟩:=h;have⟨j,s,D,H⟩:=hS.V Av;exact⟨_,rfl,j,s,D,H,z.os,z.output,z.size,z.block⟩
 have bJ:=λ(Low:Nat)(w₀:AU)(j:List P6)(f:P6->Nat->List MI)(aa:Option Ab)(cap:Nat)(Stop:AX->World->Prop)s D H y h5 h6 wo h7 vJ an=>nW (Low:=Low) (Stop:=Stop) w₀ j f aa cap s D H y h5 h6 (λ_=>False) wo h7 t vJ C an;have W:=C;unfold Tryz.f26 at W;dsimp only at W;cases W;refine Vw okP λw1 h=>?_;have t1:=(Tp.refl w).al h;refine Q8 okP λw2 h=>?_;have t2:=t1.al h;simp only[Db,DO,DU,ED,List.range,List.range.loop];refine Qg okP rfl Bn DF (v:=AG) (λ_=>by go_simp) (λ_=>by simp[go_sem]) λw3 h=>?_;have t3:=t2.al h;refine NY okP λw4 h=>?_;have t4:=t3.al h;refine Vw okP λw5 h=>?_;have t5:=t4.al h;refine Q8 okP λw6 h=>?_;have t6:=t5.al h;simp only[Db,DO,DU,ED,List.range,List.range.loop];refine Qg okP rfl Bn DF (v:=AG) (λ_=>by go_simp) (λ_=>by simp[go_sem]) λw7 h=>?_;have t7:=t6.al h;refine NY okP λw8 h=>?_;have t8:=t7.al h;refine Vw okP λw9 h=>?_;have Y:=t8.al h;refine Vw okP λaC h=>?_;have ai:=Y.al h;refine Q8 okP λaA h=>?_;have ad:=ai.al h;simp only[Db,DO,DU,Nat.reduceAdd,ED,List.range,List.range.loop];refine Qg okP rfl Bn DF (v:=t) (λ_=>by go_simp) (λ_=>by simp[go_sem]) λaE h=>?_;have ac:=ad.al h;clear t1 t2 t3 t4 t5 t6 t7 t8 Y ai ad h;refine QF okP rfl Bn DF rfl func58 rfl (vals:=#[t]) xCj (λw' h=>vO w' (ac.al h)) λv n hp=>?_;clear vO ag ac;obtain⟨j,U,⟨aa,cap,rfl,-,az⟩,yH,E⟩:=hp;have ae:=Ko L;have Q:∀m∈j,Im m.A/\IG m.N.N/\Ac m.N.N<=1000000:=λm r=>by
  have M:m.A∈Aj l:=by rw[<-U];exact IC r
  by_cases h0:(Ap l).1=0;{have⟨hR,_,_⟩:=Ou L h0;have I:=hR _ M;have kS:m.A.N=m.N.N:=(by rw[P6.Ae]);have s:=I.N;rw[kS]at s;refine⟨o0 _ I.fineA (ae.1 _ M) I.size,S7 _ s.2.2,?_⟩;have hs:=I.size;have e:m.A=⟨m.A.N,m.A.C,m.A.K⟩:=(by generalize m.A=x;cases x;rfl);rw[e,Dw,kS]at hs;have:=Stil.size_le m.N.N;omega};rw[show Aj l=[] by unfold Aj;rw[BQ h0]]at M;cases M
 obtain⟨f,N⟩:∃f:P6->Nat->List MI,∀m∈j,∀c,MIs n (f m c) (Eb m.A)/\∀w O,Held n.z n O w->okS prog n.z c ((f m c).map MI.val) O w (born prog (dcall 103 #[.chan (some c),.agg #[AB m.N.kind,AB m.N.op,m.N.av,m.N.kv,m.cv,m.kv]])):=by
  classical
  refine⟨λm c=>if h:∃vs,MIs n vs (Eb m.A)/\∀w O,Held n.z n O w->okS prog n.z c (vs.map MI.val) O w (born prog (dcall 103 #[.chan (some c),.agg #[AB m.N.kind,AB m.N.op,m.N.av,m.N.kv,m.cv,m.kv]])) then h.choose else [],λm r c=>?_⟩;have h:=oC (c:=c) n m (Q m r).1 (Q m r).2.1 (Q m r).2.2 (yH m r);simp only[h,dite_true];exact h.choose_spec
 have af:Ep l=((j.map P6.A).map Eb).flatten:=by unfold Ep;rw[U]
 have Z:=λ(cs:List Nat)(h:cs.length=j.length)=>UH (w₀:=n) (f:=f) cs j h λm r c=>(N m r c).1;have aF:j.length<=40:=by have:=ae.2.2;rw[<-U,DZ]at this;exact this
 refine Comes.then (S:=λV w'=>(∃(u:Act)(v:AW),V=G {(base 26).at u [.code .ret] with mode:=.returning} (A::cs)/\u.defers=[]/\ResultsC prog Tryz.f26 u.tmps v/\GM w' v (Ep l)/\D1 w.z w w')/\OkG V) ?_ ?_
 .refine uM (Low:=n.z) (O:=λ_=>False) (λ_ h=>h.elim) (DK _) (λg w h=>h.2) ?_;refine bJ n.z n j f aa cap _ az yH (λm r c w O hF=>(N m r c).2 w O hF) BS (λcs' T=>?_) (λm r c x X=>(N m r c).1.2 x X) n ⟨λ_ _=>rfl,DK _,λ_ h=>h.elim,rfl,rfl⟩ (A::cs) ?_;{have s:=congrArg List.length (Z cs' T).1;rw[DZ,<-af]at s;rw[s];have:=P9 L;omega};intro u w' v cs' hd K T ak hF;have hI:=Z cs' T;have ax:D1 n.z n w':=⟨hF.os,hF.out,hF.low,hF.still⟩;have ay:GM w' v (Ep l):=by rw[af,<-hI.1];exact kT ak hI.2 ax
  have aw:D1 w.z w w':=⟨hF.os.tr E.os,hF.out.tr E.out,DR E.size hF.low,λk hk=>(hF.still k (DL hk E.size)).tr (E.block k hk)⟩;have ao:OkG (G {(base 26).at u [.code .ret] with mode:=.returning} (A::cs)):=by refine⟨λi hi=>?_,ar⟩;have:i=.code .ret:=BB.1 hi;rw[this];trivial
  exact⟨⟨u,v,rfl,hd,K,ay,aw⟩,ao⟩
 rintro V w' _⟨⟨u,v,rfl,hd,K,hO,J⟩,_⟩;refine Tq okP (fr':=A.finish v) (cs':=cs) (λab=>?_) λaB h=>?_
 .exact stepG_leave (b:=base 26) rfl hd func26 (K ab).1 (K ab).2
 obtain⟨q,d,rfl⟩:=(Tp.refl w').al h;have e:GM {w' with tape:=q,drawn:=d} v (Ep l)=GM w' v (Ep l):=BW;exact hn v _ ⟨e ▸ hO,J.os,J.out,J.size,J.block⟩
end Go.Proofs.YtgnkpbhknkinoaaGreatDoor
namespace Go.Co
open Go.Conc
variable {P:AY}{a:Act}
def Rx{R:Act->World->Prop}{c:Code}{l:List Code}{w:AU}(h:c.wp P (Exit.then (WpL P R l) λ_ _ _=>False) a w):WpL P R (c::l) a w:=h
def SG{R:Act->World->Prop}{w:AU}(h:R a w):WpL P R [] a w:=h
theorem gC{Stop:AX->World->Prop}{w:AU}(s:OkP P){f:FuncId}{args:Array AW}{v:AW}{Post:AU->Prop}(h:∀j d,Calls P f args {w with tape:=j,drawn:=d} λe w'=>e=.returned v/\Post w')
  (u:∀(c:Frame)(w' W:AU),c.leaving P W (.returned v)->c.fn=f->Al Post w'->Comes P (G c []) w' Stop):Comes P (G (Frame.enter P f args .normal) []) w Stop:=by
 refine Vx s (λr w'=>∃c,r=G c []/\c.leaving P w' (.returned v)/\c.fn=f/\Post w') rfl (λg w⟨c,h,_⟩=>by rw[h];rfl) (fun j d=>?_) ?_
 .obtain⟨e,w',q,⟨rfl,m⟩,⟨n,t⟩,p,l⟩:=h j d [];exact⟨n,G q [],w',t,q,rfl,l,p,m⟩
 rintro r w'⟨j,d,c,rfl,l,p,m⟩;exact u c w' _ l p ⟨j,d,m⟩
end Go.Co
namespace Go.Proofs.YtgnkpbhknkinoaaGreatDoor
open Tryz Go.RowKit Go.Sort Go.BigFrame Go.Co
def UY(F:FuncId)(w:AU)(g':AX)(w':AU):Prop:=∃c:Frame,g'=Go.Conc.G c []/\c.mode=.returning/\c.defers=[]/\c.kind=.normal/\c.fn=F/\c.tmps.getD 2 AQ=.bool true/\D1 w.heap.size w w'
section
variable {w w':AU}{v:AW}
def Dx.blw{l:List Stil.DJ}(h:Dx w v l)(c:D1 w.heap.size w w'):Dx w' v l:=by have e:Dx {w' with tape:=w.tape,drawn:=0} v l=Dx w' v l:=BW;exact e ▸ h.below (c.tape 0)
def Gn.blw{l:List Stil.Aw}(h:Gn w v l)(c:D1 w.heap.size w w'):Gn w' v l:=by have e:Gn {w' with tape:=w.tape,drawn:=0} v l=Gn w' v l:=BW;exact e ▸ h.below (c.tape 0)
def Ee.blw(h:Ee w)(c:D1 w.heap.size w w'):Ee w':=by have e:Ee {w' with tape:=w.tape,drawn:=0}=Ee w':=BW;exact e ▸ h.below (c.tape 0)
def Es.blw(h:Es w)(c:D1 w.heap.size w w'):Es w':=by have e:Es {w' with tape:=w.tape,drawn:=0}=Es w':=BW;exact e ▸ h.below (c.tape 0)
def Tp.blw{B:Nat}(h:Tp w w'):D1 B w w':=by obtain⟨c,d,rfl⟩:=h;exact⟨rfl,rfl,DK _,λ_ _=>rfl⟩
end
section
open Go.Conc
variable {Stop:AX -> AU -> Prop}{a:Act}{w W0:AU}{b:Frame}{k:List Item}{cs:List Frame}{ops:Array Oper}{i:Nat}{rest:List Nat}{o:Oper}
theorem cP(t:Tp W0 w)(v:AW)(h:∀w',Tp W0 w'->Go.Co.Comes prog (G (b.at (a.put o.dst v) (.inRegion ops rest::k)) cs) w' Stop)(ho:ops[i]?=some o:=by rfl)(hw:Region.wanted o (yielded ops a.tmps)=true:=by rfl)(hk:b.kind≠.early:=by simp[Go.Conc.base])
  (hr:∀w₁:AU,(execOp a.eval o).run prog w₁=.ok (.value v) w₁:=by(intro _;first|(simp[Act.put];go_simp;done)|(simp[Act.put];go_simp;simp[*];done)|(simp[Act.put, *];go_simp;done)))
  (he:∀w₁:AU,(execOp a.eval o).events prog w₁ #[]=#[]:=by(intro _;first|(simp[go_sem];done)|rfl)):Go.Co.Comes prog (G (b.at a (.inRegion ops (i::rest)::k)) cs) w Stop:=Qg okP ho hw hk hr he λw' q=>h w' (t.al q)
def cN(t:Tp W0 w)(h:∀w',Tp W0 w'->Go.Co.Comes prog (G (b.at a k) cs) w' Stop):Go.Co.Comes prog (G (b.at a (.inRegion ops []::k)) cs) w Stop:=NY okP λw' q=>h w' (t.al q)
def cR{c:Nat}{d:Code}(h:∀w',Tp w w'->Go.Co.Comes prog (G (b.at a (.inRegion ops (List.range ops.size)::.code d::k)) cs) w' Stop):Go.Co.Comes prog (G (b.at a (.code (.seq (.region c ops false) d)::k)) cs) w Stop:=Vw okP λ_ q=>Q8 okP λw' e=>h w' (((Tp.refl w).al q).al e)
theorem cC(t:Tp W0 w){f:FuncId}{F:Func}{c:Code}{args:Array Operand}{ats:Array AZ}(vals:Array AW){Post:AW->World->Prop}(hf:prog.funcs[f]?=some F)(hcall:∀w',Tp W0 w'->Zv prog f vals w' Post)
  (h:∀v w',Post v w'->Go.Co.Comes prog (G (b.at (a.put o.dst v) (.inRegion ops rest::k)) cs) w' Stop) (ho:ops[i]?=some o:=by rfl) (hw:Region.wanted o (yielded ops a.tmps)=true:=by rfl) (hk:b.kind≠.early:=by simp[Go.Conc.base])
  (hop:o.op=.call {callee:=.value (.func f),args,argTypes:=ats}:=by rfl) (hb:F.body=some c:=by rfl) (hargs:args.map a.eval=vals:=by simp[Act.eval,Act.put]):Go.Co.Comes prog (G (b.at a (.inRegion ops (i::rest)::k)) cs) w Stop:=QF okP ho hw hk hop hf hb hargs (λw' q=>hcall w' (t.al q)) h
def Tp.lw{W w':AU}(t:Tp W0 W)(c:D1 W.heap.size W w'):D1 W0.heap.size W0 w':=by obtain⟨e,d,rfl⟩:=t;exact⟨c.os,c.out,c.size,c.block⟩
end
section
open Go.Conc
variable {F:FuncId}{fn:Func}
def jZ(j:prog.funcs[F]?=some fn)(c:fn.results=#[.tmp 2])(g:prog.inits.idxOf? F=none){fr:Frame}(f:fr.mode=.returning)(hd:fr.defers=[])(h:fr.kind=.normal)(m:fr.fn=F)(d:fr.tmps.getD 2 AQ=.bool true)(W:AU):
  stepG prog true (G fr []) W=.ended (.done (.bool true)) W #[]:=by have e:=resultsC_tmp (P:=prog) c fr.tmps W;rw[d]at e;obtain⟨n,defers,kind,l⟩:=fr;simp_all[G,stepG,unwind,doReturn,seen,GStep.after]
theorem jk{c:Code}(g:prog.funcs[F]?=some fn)(s:fn.body=some c)(j:fn.results=#[.tmp 2])(t:prog.inits.idxOf? F=none){args:Array AW}{W:AU}{Post:AW->World->Prop}
  (h:Go.Co.Comes prog (G (Frame.enter prog F args .normal) []) W (UY F W)) (n:∀w',D1 W.heap.size W w'->Post (.bool true) w'):
  ∃N last o w' f,runNT prog (N+1) (solo (G (Frame.enter prog F args .normal) []) W) #[]=(.ended o w',f)/\runN prog N (solo (G (Frame.enter prog F args .normal) []) W)=.next last/\step prog last=.ended o w'/\Conc.Good prog Post last o w' f:=by
 rw[Go.Co.enter_at args g s]at h⊢;refine sb ⟨λi hi=>?_,λc q=>by cases q⟩ (h.mo λy w' _ hF d=>?_)
 .obtain rfl:i=.code c:=by simpa[G,Frame.at,Go.Conc.base]using hi
  trivial
 obtain⟨x,rfl,l,hd,m,u,r,e⟩:=hF;exact⟨rfl,.bool true,#[],jZ g j t l hd m u r _,BU,n _ ⟨e.os,e.out,e.size,e.block⟩⟩
end
open Stil
def oS{l:List Stil.DJ}(h:(Gh l).2≠0):(Gh l).1=[]:=by
 unfold Gh at h⊢;split
 .rfl
 split
 .rfl
 rename_i c d;rw[BQ c,BQ d]at h;exact absurd rfl h
def zSa{p:Prop}(h:p:=by refine BH (v:=.tuple #[AG,AB 2]) (by simp[results,results7,go_sem]) rfl ⟨rfl,BV⟩):p:=h
def Azy(l:List Stil.DJ)(j:AW)(w:AU)(hr:Ee w)(hg:Es w)(r:Dx w j l)(hl:l.length<=1048576)(m:Au l<=1000000000)(q:∀x∈l,Bh x)(d:(Gh l).2≠0):
  Calls prog 7 #[j] w (AN w (.tuple #[AG,AB (Gh l).2])):=by
 have g:=BX (λW h=>Y2 l j W (hr.below h) (hg.below h) (r.below h) hl m q);have s:=BX (λW h=>cF l j W (hr.below h) (hg.below h) (r.below h) hl m q);have u:=BX (λW h=>YA l j W (hr.below h) (hg.below h) (r.below h) hl m q);have t:=(Tu l).1;have z:Gh l=if 0<(Ap l).1 then([],1) else if 16<Hm l\/8<F9 l then([],2) else(Ep l,0):=rfl
 obtain⟨J,G,rfl,_⟩:=r;rw[z]at d⊢;clear z q m hr hg;generalize (Ap l).1=c at*;generalize Hm l=x at*;generalize F9 l=y at*;by_cases f:0<c
 .rw[BR f];rw[FM BS]at g;clear s u d f t;go_enter func7,ntmps7;go_wp2_with(go_at_call 23;refine(g _ BV).mo ?_;rintro e A⟨rfl,C⟩);refine BH (v:=.tuple #[AG,AB 1]) (by simp[results,results7,go_sem]) rfl ⟨rfl,BV⟩
 rw[BQ f]at d⊢;rw[FX BS]at g;by_cases K:(16:Int)<x
 .rw[BR (.inl BS)];clear u d f t;go_enter func7,ntmps7;go_wp2_with(first|(go_at_call 23;refine(g _ BV).mo ?_;rintro e A⟨rfl,C⟩)|(go_at_call 24;refine(s _ BV).mo ?_;rintro e D⟨rfl,E⟩));exact zSa
 by_cases H:(8:Int)<y
 {rw[BR (.inr BS)];clear d f t;go_enter func7,ntmps7;go_wp2_with(first|(go_at_call 23;refine(g _ BV).mo ?_;rintro e A⟨rfl,C⟩)|(go_at_call 24;refine(s _ BV).mo ?_;rintro e D⟨rfl,E⟩)|(go_at_call 25;refine(u _ BV).mo ?_;rintro e w3⟨rfl,I⟩));exact zSa};rw[BQ BS]at d;exact absurd rfl d
def Az2(l:List Stil.DJ)(f:AW)(w:AU)(hr:Ee w)(hg:Es w)(r:Dx w f l)(hl:l.length<=1048576)(t:Au l<=1000000000)(A:∀x∈l,Bh x):
  Zv prog 7 #[f] w λv w'=>∃af:AW,v=.tuple #[af,AB (Gh l).2]/\GM w' af (Gh l).1/\D1 w.heap.size w w':=by
 by_cases O:¬(Gh l).2=0
 .refine(Wt okP (Post:=λaa w'=>aa=.tuple #[AG,AB (Gh l).2]/\D1 w.z w w') fun g d=>?_).mo λaa w'⟨g,d,U,h3⟩=>⟨AG,U,by rw[oS O];exact GM.nil _,h3.os,h3.out,h3.size,h3.block⟩;have e1:Ee {w with tape:=g,drawn:=d}=Ee w:=BW;have e2:Es {w with tape:=g,drawn:=d}=Es w:=BW;have e3:Dx {w with tape:=g,drawn:=d} f l=Dx w f l:=BW;exact(Azy l f {w with tape:=g,drawn:=d} (e1 ▸ hr) (e2 ▸ hg) (e3 ▸ r) hl t A O).mo λe w' h=>⟨_,h.1,rfl,h.2.os,h.2.output,h.2.size,h.2.block⟩
 have⟨M,hb,hk⟩:=oR (Decidable.not_not.1 O);rw[T9 M hb hk];clear O;intro fr cs Stop hn;have s:∃c0 c1 d,Tryz.f7.body=some (IV [c0,c1] d):=⟨_,_,_,rfl⟩;obtain⟨c0,c1,d,s⟩:=s;have eX:=Go.Conc.resultsC_tmp2 (P:=prog) (fn:=Tryz.f7) rfl;rw[Go.Co.enter_at #[f] func7 s];simp only[ntmps7,Db,DO,DU,Nat.reduceAdd,Nat.reduceSub,ES,ET,EV,EU,EB,D4];unfold Tryz.f7 at s;simp only[IV]at s;cases s;obtain⟨E,ae⟩:∃E:Act->World->Prop,E=(λm W=>(∃(u2 u3 L u5 u6 u7 N Z I K T S H V J:AW),m=⟨#[f,AQ,u2,u3,L,u5,u6,u7,N,Z,I,K,T,S,H,V,J,AQ,AQ],[]⟩)/\D1 w.z w W):=⟨_,rfl⟩;have uF:=BX ae;clear ae;refine QE okP [_,_] (R:=E) ?_ ?_
 .intro g q;obtain⟨W,hW⟩:∃W:AU,W={w with tape:=g,drawn:=q}:=⟨_,rfl⟩;rw[<-hW];have j:Tp w W:=⟨g,q,hW⟩;have qE:Hid (∀c,AO W c->D1 w.z w c):=by intro c h;subst hW;exact⟨h.os,h.output,h.size,h.block⟩
  have HT:Hid (∀c,AO W c->Calls prog 23 #[f] c (AN c (.bool true))):=by intro c h;have h2:=Y2 l f c ((hr.blw j.blw).below h) ((hg.blw j.blw).below h) ((r.blw j.blw).below h) hl t A;rwa[FX M]at h2
  have HB:=BX (λc(h:AO W c)=>cF l f c ((hr.blw j.blw).below h) ((hg.blw j.blw).below h) ((r.blw j.blw).below h) hl t A);have HK:=BX (λc(h:AO W c)=>YA l f c ((hr.blw j.blw).below h) ((hg.blw j.blw).below h) ((r.blw j.blw).below h) hl t A);have U:¬(16:Int)<(Hm l:Int):=BS;have h2:¬(8:Int)<(F9 l:Int):=BS;clear hb hk M;generalize Hm l=x at*;generalize F9 l=y at*;clear hW j hr hg r hl t A hn;refine Rx ?_;go_wp2;refine Rx ?_;go_wp2_with(first|(go_at_call 23;refine(HT _ BV).mo ?_;rintro e w1⟨rfl,ao⟩)|(go_at_call 24;refine(HB _ BV).mo ?_;rintro e w2⟨rfl,ap⟩)|(go_at_call 25;refine(HK _ BV).mo ?_;rintro e w3⟨rfl,an⟩));refine SG ?_;rw[uF.out];exact⟨⟨_,_,_,_,_,_,_,_,_,_,_,_,_,_,_,rfl⟩,qE _ BV⟩
 intro m W1 ad;rw[uF.out]at ad;clear uF E M hb hk;obtain⟨g,q,⟨u2,u3,L,u5,u6,u7,N,Z,I,K,T,S,H,V,J,rfl⟩,z⟩:=ad;replace z:D1 w.z w W1:=⟨z.os,z.out,z.size,z.block⟩;refine Vw okP λx1 h=>?_;have t1:=(Tp.refl W1).al h;refine Q8 okP λx2 h=>?_;have t2:=t1.al h;simp only[Db,DO,DU,Nat.reduceAdd,ED,List.range,List.range.loop];refine Qg okP rfl Bn yFf (v:=f) (λ_=>by go_simp) (λ_=>by simp[go_sem]) λx3 h=>?_;have t3:=t2.al h;have zA:∀c,Tp W1 c->Zv prog 26 #[f] c λv w'=>GM w' v (Ep l)/\D1 w.z w w':=by intro c C;have G:D1 w.z w c:=z.tr C.blw;refine(Avh l f c (hr.blw G) (hg.blw G) (r.blw G) hl t A).mo λaa w'⟨U,h7⟩=>⟨U,G.tr (h7.le G.size)⟩
 refine QF okP rfl Bn yFf rfl func26 rfl (vals:=#[f]) xCj (λc h=>zA c (t3.al h)) λu D hp=>?_;obtain⟨hO,gp⟩:=hp;clear zA t1 t2 t3 h;refine Qg okP rfl Bn yFf (v:=u) (λ_=>by simp[Act.put];go_simp) (λ_=>by simp[go_sem]) λx4 h=>?_;have t4:=(Tp.refl D).al h;refine Qg okP rfl Bn yFf (v:=AB 0) (λ_=>by simp[Act.put];go_simp) (λ_=>by simp[go_sem]) λx5 h=>?_;have t5:=t4.al h;refine NY okP λX h=>?_;have t6:=t5.al h;clear t4 t5 h;simp only[Act.put];refine R7 okP (Q:=λe a w'=>e=.ret/\a.defers=[]/\a.tmps.getD 2 AQ=u/\a.tmps.getD 3 AQ=AB 0/\Tp X w') (λe a w h=>.inr h.1) (fun g q=>?_) ?_ ?_
 .have C:Tp X {X with tape:=g,drawn:=q}:=⟨g,q,rfl⟩
  revert C
  generalize {X with tape:=g,drawn:=q}=Y;intro C;go_wp2
 .rintro m w'⟨g,d,h,_⟩;cases h
 rintro m w' ar⟨g,d,_,hd,ai,ag,C⟩;refine Tq okP (fr':=fr.finish (.tuple #[u,AB 0])) (cs':=cs) (λab=>?_) λaj h=>?_
 .have hv:=eX m.tmps;rw[ai,ag]at hv;exact Go.Conc.stepG_leave (b:=Go.Conc.base 7) rfl hd func7 (hv ab).1 (hv ab).2
 .have ak:Tp D aj:=by
   obtain⟨ac,d1,rfl⟩:=t6;obtain⟨ah,d2,rfl⟩:=C.al ⟨g,d,rfl⟩;exact(show Tp D _ from⟨ah,d2,rfl⟩).al h
  obtain⟨ac,d1,rfl⟩:=ak;have e:GM {D with tape:=ac,drawn:=d1} u (Ep l)=GM D u (Ep l):=BW
  exact hn _ _ ⟨u,rfl,e ▸ hO,gp.os,gp.out,gp.size,gp.block⟩
