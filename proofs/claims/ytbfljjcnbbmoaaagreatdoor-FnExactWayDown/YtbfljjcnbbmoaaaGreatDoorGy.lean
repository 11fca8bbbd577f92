import Derived.Test.YtbfljjcnbbmoaaaGreatDoorM56
import Derived.Test.YtbfljjcnbbmoaaaGreatDoorGb
import Derived.Test.YtbfljjcnbbmoaaaGreatDoorGq
import Derived.Shelf.Abstract
set_option maxHeartbeats 4000000
set_option maxRecDepth 100000
namespace Go.Proofs.YtbfljjcnbbmoaaaGreatDoor
open Stil
open Go.RowKit Go.Sort Go.BigFrame
variable {a:Option Addr}{base c n o:Nat}{v:Value}{w':World}
def Rh (w:World)(v:Value)(ds:List Stil.Dev):Prop:=Vs (λ_=>True) w v ds
def Kt (w:World)(v:Value)(ns:List Stil.Net):Prop:=Aae (λ_=>True) w v ns
def Su (w:World)(v:Value)(es:List Stil.Elem):Prop:=Rf (λ_=>True) w v es
def Ri (w:World)(v:Value)(l:List Stil.Arm):Prop:=Agm (λ_=>True) w v l
def A0a (w:World)(b o:Nat)(n:Stil.Net):Prop:=Vb (λ_=>True) w b o n
def A13 (w:World)(b o:Nat)(n:Stil.Arm):Prop:=Ab2 (λ_=>True) w b o n
theorem Rh.below {w:World}{ds:List Stil.Dev}(h:Rh w v ds)(hb:Below w.heap.size w w'):Rh w' v ds:=Vs.keep h (Kw.of_below hb)
theorem Kt.below {w:World}{ds:List Stil.Net}(h:Kt w v ds)(hb:Below w.heap.size w w'):Kt w' v ds:=Aae.keep h (Kw.of_below hb)
theorem Su.below {w:World}{ds:List Stil.Elem}(h:Su w v ds)(hb:Below w.heap.size w w'):Su w' v ds:=Rf.keep h (Kw.of_below hb)
theorem Ri.below {w:World}{ds:List Stil.Arm}(h:Ri w v ds)(hb:Below w.heap.size w w'):Ri w' v ds:=Agm.keep h (Kw.of_below hb)
theorem A0a.below {w:World}(hb:Below w.heap.size w w')(n:Stil.Net)(b o:Nat)(h:A0a w b o n)(hl:b<w.heap.size):A0a w' b o n:=Vb.keep (Kw.of_below hb) n b o h trivial hl
theorem A13.below {w:World}(hb:Below w.heap.size w w')(n:Stil.Arm)(b o:Nat)(h:A13 w b o n)(hl:b<w.heap.size):A13 w' b o n:=Ab2.keep (Kw.of_below hb) n b o h trivial hl
theorem Rh.at {w:World}{ds:List Stil.Dev}(h:Rh w v ds):Bi w v ds:=Vs.at h
theorem Kt.at {w:World}{ds:List Stil.Net}(h:Kt w v ds):Dx w v ds:=Aae.at h
theorem Su.at {w:World}{ds:List Stil.Elem}(h:Su w v ds):En w v ds:=Rf.at h
theorem Rh.shape {w:World}{ds:List Stil.Dev}(h:Rh w v ds):∃a cap,v=.slice a ds.length cap/\ds.length<=cap:=by
 obtain⟨a,cap,h1,h2,_⟩:=h;exact⟨a,cap,h1,h2.1⟩
theorem Su.shape {w:World}{ds:List Stil.Elem}(h:Su w v ds):∃a cap,v=.slice a ds.length cap/\ds.length<=cap:=by
 obtain⟨a,cap,h1,h2,_⟩:=h;exact⟨a,cap,h1,h2.1⟩
theorem Kt.shape {w:World}{ns:List Stil.Net}(h:Kt w v ns):∃a cap,v=.slice a ns.length cap/\Aa6 a ns.length cap/\∀i (h:i<ns.length),∃b o,a=some ⟨b,o,none⟩/\b<w.heap.size/\A0a w b (o+i*4) ns[i]:=by
 obtain⟨a,cap,h1,h2,h3⟩:=h;exact⟨a,cap,h1,h2,λi hi=>by obtain⟨b,o,e,_,hl,hn⟩:=h3 i hi;exact⟨b,o,e,hl,hn⟩⟩
theorem Ri.shape {w:World}{ns:List Stil.Arm}(h:Ri w v ns):∃a cap,v=.slice a ns.length cap/\Aa6 a ns.length cap/\∀i (h:i<ns.length),∃b o,a=some ⟨b,o,none⟩/\b<w.heap.size/\A13 w b (o+i*6) ns[i]:=by
 obtain⟨a,cap,h1,h2,h3⟩:=h;exact⟨a,cap,h1,h2,λi hi=>by obtain⟨b,o,e,_,hl,hn⟩:=h3 i hi;exact⟨b,o,e,hl,hn⟩⟩
theorem A0a.open {w:World}{b:Nat}{n:Stil.Net}(h:A0a w b o n):w.cell? ⟨b,o,none⟩=some (.int .i64 n.kind)/\w.cell? ⟨b,o+1,none⟩=some (.int .i64 n.one.op)/\
   ∃av kv,w.cell? ⟨b,o+2,none⟩=some av/\w.cell? ⟨b,o+3,none⟩=some kv/\Rh w av n.one.args/\Kt w kv n.kids:=by
 obtain⟨h1,h2,⟨av,h3,h4⟩,⟨kv,h5,h6⟩⟩:=(Aaf _ _ _ _ _).1 h;exact⟨h1,h2,av,kv,h3,h5,h4,h6⟩
theorem A13.open {w:World}{b:Nat}{n:Stil.Arm}(h:A13 w b o n):A0a w b o n.net/\∃cv kv,w.cell? ⟨b,o+4,none⟩=some cv/\w.cell? ⟨b,o+5,none⟩=some kv/\Su w cv n.coils/\Ri w kv n.kids:=by
 obtain⟨h1,⟨cv,h3,h4⟩,⟨kv,h5,h6⟩⟩:=(Aks _ _ _ _ _).1 h;exact⟨h1,cv,kv,h3,h5,h4,h6⟩
theorem Ab9 {w:World}{s:Nat}{e:TypeId}{xs:List Value}(h:w.ownsRow base e s (.slice a n c) n xs):Aa6 a n c:=by
 rcases h.2 with⟨h0,h1⟩ | ⟨g,c',cur,h0,_,_,hnc,_⟩
 ·simp only[Value.slice.injEq] at h0
  obtain⟨rfl,hn,rfl⟩:=h0;exact⟨omz,λ_=>rfl⟩
 ·simp only[Value.slice.injEq] at h0
  obtain⟨rfl,_,rfl⟩:=h0;exact⟨hnc,λh=>by cases h⟩
theorem Azv {w:World}{av:Value}{ds:List Stil.Dev}(h:w.ownsRow base 86 3 av ds.length (Cb ds)):Rh w av ds:=by
 obtain⟨a,cap,rfl⟩:=Af h;obtain⟨a',cap',e,hx⟩:=(Hl.of_owns h).at;simp only[Value.slice.injEq,true_and] at e;obtain⟨rfl,rfl⟩:=e;refine⟨a,cap,rfl,Ab9 h,λi hi=>?_⟩;obtain⟨b,o,h1,h2,h3⟩:=hx i hi;exact⟨b,o,h1,trivial,h2,h3⟩
theorem MOk.T {w:World}(m:Ah)(h:MOk w base m):Rh w m.av m.net.one.args/\Kt w m.kv m.net.kids:=by
 revert h
 refine Ja (λm=>MOk w base m->Rh w m.av m.net.one.args/\Kt w m.kv m.net.kids) ?_ m;intro k op ds av kv kids ih h;rw[H5] at h;rw[Ah.net_eq];refine⟨Azv h.1,?_⟩;simp only at h ⊢;have hcap:=h.2.1;obtain⟨a,cap,rfl⟩:=Af h.2.1;refine⟨a,cap,spz,by rw[A4o];exact Ab9 hcap,λi hi=>?_⟩;have hi':i<kids.length:=by simpa using hi
 obtain⟨g,cap',hv,hbase,hlt,_,hcell⟩:=Az h.2.1 omz;simp only[Value.slice.injEq,true_and] at hv;obtain⟨rfl,rfl⟩:=hv;refine⟨g,0,rfl,trivial,hlt,?_⟩;obtain⟨a1,a2,a3,a4⟩:=Jj kids i hi';obtain⟨f1,f2⟩:=ih _ (A4f hi') (h.2.2 _ (A4f hi'));rw[List.getElem_map,Aaf,A4h];have e:=Ah.net_eq kids[i];have e1:kids[i].net.kind=kids[i].kind:=by rw[e]
 have e2:kids[i].net.one.op=kids[i].op:=by rw[e]
 rw[e1,e2];exact⟨hcell _ _ a1,hcell _ _ a2,⟨_,hcell _ _ a3,f1⟩,⟨_,hcell _ _ a4,f2⟩⟩
theorem A1a {w:World}{es:List Df}(h1:w.ownsRow base 49 2 v es.length (Gh es))(h2:∀m∈es,EOk w base m):Su w v (es.map Df.elem):=by
 obtain⟨a,cap,rfl⟩:=Af h1;refine⟨a,cap,spz,by rw[A4o];exact Ab9 h1,λi hi=>?_⟩;have hi':i<es.length:=by simpa using hi
 obtain⟨g,cap',hv,hbase,hlt,_,hcell⟩:=Az h1 omz;simp only[Value.slice.injEq,true_and] at hv;obtain⟨rfl,rfl⟩:=hv;refine⟨g,0,rfl,trivial,hlt,?_⟩;obtain⟨a1,a2⟩:=Qd es i hi';rw[List.getElem_map,A4h];exact⟨hcell _ _ a1,_,hcell _ _ a2,Azv (h2 _ (A4f hi'))⟩
theorem AOk.T {w:World}(m:Aw)(h:AOk w base m):Rh w m.net.av m.arm.net.one.args/\Kt w m.net.kv m.arm.net.kids/\Su w m.cv m.arm.coils/\Ri w m.kv m.arm.kids:=by
 revert h
 refine J9 (λm=>AOk w base m->Rh w m.net.av m.arm.net.one.args/\Kt w m.net.kv m.arm.net.kids/\Su w m.cv m.arm.coils/\Ri w m.kv m.arm.kids) ?_ m;intro n cv cs kv kids ih h;rw[Hf] at h;rw[Aw.arm_eq];simp only at h ⊢;obtain⟨h1,⟨h2,h3⟩,h4,h5⟩:=h;obtain⟨f1,f2⟩:=MOk.T n h1;refine⟨f1,f2,A1a h2 h3,?_⟩;have hcap:=h4;obtain⟨a,cap,rfl⟩:=Af h4;refine⟨a,cap,spz,by rw[A4o];exact Ab9 hcap,λi hi=>?_⟩;have hi':i<kids.length:=by simpa using hi
 obtain⟨g,cap',hv,hbase,hlt,_,hcell⟩:=Az h4 omz;simp only[Value.slice.injEq,true_and] at hv;obtain⟨rfl,rfl⟩:=hv;refine⟨g,0,rfl,trivial,hlt,?_⟩;obtain⟨a1,a2,a3,a4,a5,a6⟩:=Na kids i hi';obtain⟨g1,g2,g3,g4⟩:=ih _ (A4f hi') (h5 _ (A4f hi'));rw[List.getElem_map,Aks,Aaf,A4h];have e:=Aw.arm_eq kids[i];have e1:kids[i].arm.net.kind=kids[i].net.kind:=by rw[e];simp only;rw[Ah.net_eq]
 have e2:kids[i].arm.net.one.op=kids[i].net.op:=by rw[e];simp only;rw[Ah.net_eq]
 rw[e1,e2];exact⟨⟨hcell _ _ a1,hcell _ _ a2,⟨_,hcell _ _ a3,g1⟩,⟨_,hcell _ _ a4,g2⟩⟩,⟨_,hcell _ _ a5,g3⟩,⟨_,hcell _ _ a6,g4⟩⟩
theorem Ri.take {w:World}{l:List Stil.Arm}(h:Ri w (.slice a l.length c) l)(hn:n<=l.length):Ri w (.slice a n c) (l.take n):=by
 obtain⟨a',c2,e,hc,hx⟩:=h;simp only[Value.slice.injEq,true_and] at e;obtain⟨rfl,rfl⟩:=e;have hl:(l.take n).length=n:=by rw[List.length_take,Nat.min_eq_left hn]
 refine⟨a,c,by rw[hl],⟨by rw[hl];exact A4k hn hc.1,hc.2⟩,λi hi=>?_⟩;rw[hl] at hi;obtain⟨b,o,h1,h2,h3,h4⟩:=hx i omz;exact⟨b,o,h1,h2,h3,by rw[List.getElem_take];exact h4⟩
def Aa5 (F:Nat)(x:Stil.Arm)(f:Nat):Prop:=∀(av nv cv kv:Value) (w:World),Rh w av x.net.one.args->Kt w nv x.net.kids->Su w cv x.coils->Ri w kv x.kids->Calls Tryz.prog F #[.agg #[.int .i64 x.net.kind, .int .i64 x.net.one.op,av,nv,cv,kv]] w λe w'=>e=.returned (.int .i64 f)/\Below w.heap.size w w'
def Ab1 (F:Nat)(x:Stil.Net)(f:Nat):Prop:=∀(av nv:Value) (w:World),Rh w av x.one.args->Kt w nv x.kids->Calls Tryz.prog F #[.agg #[.int .i64 x.kind, .int .i64 x.one.op,av,nv]] w λe w'=>e=.returned (.int .i64 f)/\Below w.heap.size w w'
theorem Ayk (x:Stil.Arm)(f F B m:Nat)(av nv cv kv:Value)(w:World)(hE:∀args w,(callFunc F args).run Tryz.prog w=.ok (.enter F args) w)(ih:Aa5 F x f)
  (hav:Rh w av x.net.one.args) (hnv:Kt w nv x.net.kids) (hcv:Su w cv x.coils) (hkv:Ri w kv x.kids) (hbx:w.cell? ⟨B,0,none⟩=some (.func (.func F) #[] #[])) (hB:B<w.heap.size):
  Calls Tryz.prog 85 #[.int .i64 m, .agg #[.int .i64 x.net.kind, .int .i64 x.net.one.op,av,nv,cv,kv], .pointer (some ⟨B,0,none⟩)] w λe w'=>e=.returned (.int .i64 (max m f:Nat))/\Below w.heap.size w w':=by
 have IH:=hid (λW h=>ih av nv cv kv W (hav.below h) (hnv.below h) (hcv.below h) (hkv.below h));obtain⟨p0,r0,rfl,_⟩:=hav.shape;obtain⟨p1,r1,rfl,_,_⟩:=hnv.shape;obtain⟨p2,r2,rfl,_⟩:=hcv.shape;obtain⟨p3,r3,rfl,_,_⟩:=hkv.shape;clear ih;go_enter Tryz.func85,Tryz.ntmps85
 go_wp2_with (refine(IH _ blA).mono ?_;rintro e w1 ⟨rfl,hb1⟩)
 all_goals go_ret
 all_goals refine⟨C9 ?_,blA⟩
 all_goals (congr 1;omega)
theorem zt0 {p:Prop}(h:p:=by
 obtain rfl:j=es.length:=by omega
 have hmn:=HM.out;rw[A43 (by rw[A4o];exact A4d _)] at hmn;have dF:=hid hmn;clear hmn
 go_wp2
 go_ret;exact⟨C9 (by rw[dF.out]),hb⟩):p:=h
theorem Ayn (es:List Stil.Arm)(f:Stil.Arm->Nat)(F:Nat)(hE:∀args w,(callFunc F args).run Tryz.prog w=.ok (.enter F args) w)(ih:∀x∈es,Aa5 F x (f x))
  (B b0:Nat) (v:Value) (w:World) (hat:Ri w v es) (hl:es.length<=999999) (hbx:w.cell? ⟨B,0,none⟩=some (.func (.func F) #[] #[])) (hB:B<w.heap.size):
  Calls Tryz.prog 84 #[v, .int .i64 b0, .func (.func 85) #[] #[.pointer (some ⟨B,0,none⟩)]] w λe w'=>e=.returned (.int .i64 (Dn b0 (es.map f)))/\Below w.heap.size w w':=by
 obtain⟨a,cap,rfl,hcap,hc⟩:=hat.shape;have HA:=hid hc;have IH:=hid ih;have cZ:=hid hbx;have HE:=hid hE;clear hc ih hbx hE hcap hat;go_enter Tryz.func84,Tryz.ntmps84
 go_wp2
 go_loopw [1,11] (λd i wr=>∃(j m:Nat),j<=es.length/\i=.int .i64 j/\d=.int .i64 m/\m=Dn b0 ((es.map f).take j)/\Below w.heap.size w wr) (λ_ i _=>es.length - (intOf i).toNat)
 case atStart=>exact⟨0,b0,omz,rfl,rfl,rfl,Below.refl _ _⟩
 case round=>
  obtain⟨j,m,hj,rfl,rfl,hm,hb⟩:=hrel;have HM:=hid hm;clear hm;by_cases hlt:j<es.length
  ·obtain⟨b,o,rfl,hbl,hn⟩:=HA j hlt
   obtain⟨hna,cv,kv,x4,x5,hcv,hkv⟩:=(A13.below hb _ _ _ hn hbl).open;obtain⟨x0,x1,av,nv,x2,x3,hav,hnv⟩:=hna.open;have aT:Hid (Dn b0 ((es.map f).take (j+1))=max (Dn b0 ((es.map f).take j)) (f es[j])):=by
    show _=_
    rw[Jt (by rw[A4o];exact hlt),List.getElem_map]
   have HI:Hid (∀W,Below wr.heap.size wr W->Calls Tryz.prog 85 #[.int .i64 m, .agg #[.int .i64 es[j].net.kind, .int .i64 es[j].net.one.op,av,nv,cv,kv], .pointer (some ⟨B,0,none⟩)] W λe w'=>e=.returned (.int .i64 (max m (f es[j]):Nat))/\Below W.heap.size W w'):=by
    intro W hW;have hbW:=hb.trans (hW.mono hb.size);exact Ayk es[j] (f es[j]) F B m av nv cv kv W HE (IH es[j] (A4f hlt)) (hav.below hW) (hnv.below hW) (hcv.below hW) (hkv.below hW) ((hbW.cell (p:=⟨B,0,none⟩) hB).trans cZ.out) (A37 hB hbW.size)
   obtain⟨x,hx⟩:∃x,x=es[j]:=⟨_,rfl⟩
   rw[<-hx] at HI x0 x1 hav hnv hcv hkv aT;obtain⟨p0,r0,rfl,kX⟩:=hav.shape;obtain⟨p1,r1,rfl,kU,_⟩:=hnv.shape;obtain⟨p2,r2,rfl,bP⟩:=hcv.shape;obtain⟨p3,r3,rfl,iG,_⟩:=hkv.shape;obtain⟨fx,hfx⟩:∃fx,fx=f x:=⟨_,rfl⟩
   rw[<-hfx] at HI aT;have hb0:=A37 hbl hb.size;clear kX kU bP iG hna hx hn hbl hfx
   go_wp2_with (go_at_call 85;refine(HI _ blA).mono ?_;rintro e w2 ⟨rfl,hb2⟩;have hb3:=(show Below w.heap.size w _ from hb.trans ((show Below wr.heap.size wr _ from blA).mono hb.size)).trans (hb2.mono (by have:=hb.size;simp;omega)))
   refine⟨⟨j+1,max m fx,omz,by go_num,rfl,?_,hb3⟩,by simp[intOf];omega⟩;rw[aT.out,<-HM.out]
  ·exact zt0
theorem Ag6 (es:List Stil.Arm)(f:Stil.Arm->Nat)(F:Nat)(hE:∀args w,(callFunc F args).run Tryz.prog w=.ok (.enter F args) w)(ih:∀x∈es,Aa5 F x (f x))
  (b0:Nat) (v:Value) (w:World) (hat:Ri w v es) (hl:es.length<=999999):
  Calls Tryz.prog 56 #[v, .int .i64 b0, .func (.func F) #[] #[]] w λe w'=>e=.returned (.int .i64 (Dn b0 (es.map f)))/\Below w.heap.size w w':=by
 have HF:=hid (λW B h h1 h2=>Ayn es f F hE ih B b0 v W (hat.below h) hl h1 h2);obtain⟨p0,r0,rfl,bP,_⟩:=hat.shape;clear bP ih hE;go_enter Tryz.func56,Tryz.ntmps56
 go_wp2_with (go_at_call 84;refine(HF _ _ blA (by simp[go_sem]) spz).mono ?_;rintro e w1 ⟨rfl,hb1⟩)
 go_ret;exact⟨rfl,blA⟩
theorem Ayj (x:Stil.Net)(f F B m:Nat)(av nv:Value)(w:World)(hE:∀args w,(callFunc F args).run Tryz.prog w=.ok (.enter F args) w)(ih:Ab1 F x f)
  (hav:Rh w av x.one.args) (hnv:Kt w nv x.kids) (hbx:w.cell? ⟨B,0,none⟩=some (.func (.func F) #[] #[])) (hB:B<w.heap.size):
  Calls Tryz.prog 131 #[.int .i64 m, .agg #[.int .i64 x.kind, .int .i64 x.one.op,av,nv], .pointer (some ⟨B,0,none⟩)] w λe w'=>e=.returned (.int .i64 (max m f:Nat))/\Below w.heap.size w w':=by
 have IH:=hid (λW h=>ih av nv W (hav.below h) (hnv.below h));obtain⟨p0,r0,rfl,_⟩:=hav.shape;obtain⟨p1,r1,rfl,_,_⟩:=hnv.shape;clear ih;go_enter Tryz.func131,Tryz.ntmps131
 go_wp2_with (refine(IH _ blA).mono ?_;rintro e w1 ⟨rfl,hb1⟩)
 all_goals go_ret
 all_goals refine⟨C9 ?_,blA⟩
 all_goals (congr 1;omega)
theorem Aym (es:List Stil.Net)(f:Stil.Net->Nat)(F:Nat)(hE:∀args w,(callFunc F args).run Tryz.prog w=.ok (.enter F args) w)(ih:∀x∈es,Ab1 F x (f x))
  (B b0:Nat) (v:Value) (w:World) (hat:Kt w v es) (hl:es.length<=999999) (hbx:w.cell? ⟨B,0,none⟩=some (.func (.func F) #[] #[])) (hB:B<w.heap.size):
  Calls Tryz.prog 130 #[v, .int .i64 b0, .func (.func 131) #[] #[.pointer (some ⟨B,0,none⟩)]] w λe w'=>e=.returned (.int .i64 (Dn b0 (es.map f)))/\Below w.heap.size w w':=by
 obtain⟨a,cap,rfl,hcap,hc⟩:=hat.shape;have HA:=hid hc;have IH:=hid ih;have cZ:=hid hbx;have HE:=hid hE;clear hc ih hbx hE hcap hat;go_enter Tryz.func130,Tryz.ntmps130
 go_wp2
 go_loopw [1,11] (λd i wr=>∃(j m:Nat),j<=es.length/\i=.int .i64 j/\d=.int .i64 m/\m=Dn b0 ((es.map f).take j)/\Below w.heap.size w wr) (λ_ i _=>es.length - (intOf i).toNat)
 case atStart=>exact⟨0,b0,omz,rfl,rfl,rfl,Below.refl _ _⟩
 case round=>
  obtain⟨j,m,hj,rfl,rfl,hm,hb⟩:=hrel;have HM:=hid hm;clear hm;by_cases hlt:j<es.length
  ·obtain⟨b,o,rfl,hbl,hn⟩:=HA j hlt
   obtain⟨x0,x1,av,nv,x2,x3,hav,hnv⟩:=(A0a.below hb _ _ _ hn hbl).open;have aT:Hid (Dn b0 ((es.map f).take (j+1))=max (Dn b0 ((es.map f).take j)) (f es[j])):=by
    show _=_
    rw[Jt (by rw[A4o];exact hlt),List.getElem_map]
   have HI:Hid (∀W,Below wr.heap.size wr W->Calls Tryz.prog 131 #[.int .i64 m, .agg #[.int .i64 es[j].kind, .int .i64 es[j].one.op,av,nv], .pointer (some ⟨B,0,none⟩)] W λe w'=>e=.returned (.int .i64 (max m (f es[j]):Nat))/\Below W.heap.size W w'):=by
    intro W hW;have hbW:=hb.trans (hW.mono hb.size);exact Ayj es[j] (f es[j]) F B m av nv W HE (IH es[j] (A4f hlt)) (hav.below hW) (hnv.below hW) ((hbW.cell (p:=⟨B,0,none⟩) hB).trans cZ.out) (A37 hB hbW.size)
   obtain⟨x,hx⟩:∃x,x=es[j]:=⟨_,rfl⟩
   rw[<-hx] at HI x0 x1 hav hnv aT;obtain⟨p0,r0,rfl,kX⟩:=hav.shape;obtain⟨p1,r1,rfl,kU,_⟩:=hnv.shape;obtain⟨fx,hfx⟩:∃fx,fx=f x:=⟨_,rfl⟩
   rw[<-hfx] at HI aT;have hb0:=A37 hbl hb.size;clear kX kU hx hn hbl hfx
   go_wp2_with (go_at_call 131;refine(HI _ blA).mono ?_;rintro e w2 ⟨rfl,hb2⟩;have hb3:=(show Below w.heap.size w _ from hb.trans ((show Below wr.heap.size wr _ from blA).mono hb.size)).trans (hb2.mono (by have:=hb.size;simp;omega)))
   refine⟨⟨j+1,max m fx,omz,by go_num,rfl,?_,hb3⟩,by simp[intOf];omega⟩;rw[aT.out,<-HM.out]
  ·exact zt0
theorem Avr (es:List Stil.Net)(f:Stil.Net->Nat)(F:Nat)(hE:∀args w,(callFunc F args).run Tryz.prog w=.ok (.enter F args) w)(ih:∀x∈es,Ab1 F x (f x))
  (b0:Nat) (v:Value) (w:World) (hat:Kt w v es) (hl:es.length<=999999):
  Calls Tryz.prog 115 #[v, .int .i64 b0, .func (.func F) #[] #[]] w λe w'=>e=.returned (.int .i64 (Dn b0 (es.map f)))/\Below w.heap.size w w':=by
 have HF:=hid (λW B h h1 h2=>Aym es f F hE ih B b0 v W (hat.below h) hl h1 h2);obtain⟨p0,r0,rfl,bP,_⟩:=hat.shape;clear bP ih hE;go_enter Tryz.func115,Tryz.ntmps115
 go_wp2_with (go_at_call 130;refine(HF _ _ blA (by simp[go_sem]) spz).mono ?_;rintro e w1 ⟨rfl,hb1⟩)
 go_ret;exact⟨rfl,blA⟩
end Go.Proofs.YtbfljjcnbbmoaaaGreatDoor
