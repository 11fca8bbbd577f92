import Derived.Test.YtobbpffcggchmaaGreatDoorS21
import Derived.Test.YtobbpffcggchmaaGreatDoorKd
import Derived.Test.YtobbpffcggchmaaGreatDoorLWS
import Derived.Test.YtobbpffcggchmaaGreatDoorX12
namespace Go.Proofs.YtobbpffcggchmaaGreatDoor
open Tryz
open Stil
open Go.RowKit Go.Sort Go.BigFrame
def Aft (w:World)(base:Nat)(R:Stil.Net × Bool)(e:Ending):Prop:=∃(k op:Int) (a:List Stil.Dev) (d:Option Addr) (c:Nat) (g:Option Addr) (f:Nat) (b:List Ah),e=.returned (.tuple #[.agg #[.int .i64 k, .int .i64 op, .slice d a.length c, .slice g b.length f], .bool R.2])/\
 I7 w base ⟨k,op,a, .slice d a.length c, .slice g b.length f,b⟩/\(Ah.mk k op a (.slice d a.length c) (.slice g b.length f) b).net=R.1
theorem Ll (w:World)(base:Nat):I7 w base ⟨0,0,[], .slice none 0 0, .slice none 0 0,[]⟩:=(Gq.nil w base).net 0 0 [] (World.ownsRow_nil _ _ _ _) (λx _=>Le x)
theorem Lm:(Ah.mk 0 0 [] (.slice none 0 0) (.slice none 0 0) []).net=Je:=by rw[Ah.net_eq];rfl
set_option maxHeartbeats 4000000 in
set_option maxRecDepth 100000 in
theorem Awx (l:List Stil.F7)(v:Value)(w:World)(aL:Ja w v l)(hl:l.length<=1048576)(ar:∀x∈l,x.fits):
  Calls prog 6 #[v] w λe u=>Aft u w.heap.size (Bg l) e/\Below w.heap.size w u:=by
 obtain⟨a,cap,rfl,hc⟩:=aL;have HC:Hid (∀i (h:i<l.length),∃b o,a=some ⟨b,o,none⟩/\b<w.heap.size/\Aie w b (o+i*3) l[i]):=hc;have HF:Hid (∀x∈l,x.fits):=ar;clear hc ar;by_cases aw:1000<l.length
 ·have J:Hid (Bg l=(Je,false)):=by show _=_;unfold Bg;rw[if_pos aw]
  go_enter func6,ntmps6
  go_wp2
  refine bodyPost_ret (v:=.tuple #[.agg #[.int .i64 0, .int .i64 0, .slice none 0 0, .slice none 0 0], .bool false]) (by simp[results,results6,go_sem]) rfl ⟨?_,blA⟩;exact⟨0,0,[],none,0,none,0,[],by rw[J.out];rfl,Ll _ _,by rw[J.out];exact Lm⟩
 have J:Hid (Bg l=Xd (En [] l)):=by show _=_;unfold Bg;rw[if_neg aw]
 have aO:l.length<=1000:=omz
 go_enter func6,ntmps6
 go_wp2
 go_loopw [4,5] (λsv iv wr=>∃(j:Nat) (d:List Ah) (F:Option Addr) (G:Nat),j<=l.length/\iv=.int .i64 (j:Int)/\sv=.slice F d.length G/\Gq wr (w.heap.size+1) (.slice F d.length G) d/\En [] l=En (d.map Ah.net).reverse (l.drop j)/\Uh (2*j) (d.map Ah.net).reverse/\B4 wr w.heap.size (.int .i64 0) (.int .i64 0) (.slice none 0 0) (.slice none 0 0)/\Below w.heap.size w wr) (λ_ iv _=>l.length - (intOf iv).toNat)
 case atStart=>
  refine⟨0,[],some ⟨w.heap.size+1,0,none⟩,0,Ban _,rfl,spz,?_,rfl,⟨(λn hn=>by cases hn),by simp[Stil.sizes]⟩,Akh.al _,blA⟩;refine⟨?_,(λm hm=>by cases hm),Baw _ _⟩;have:=World.ownsRow_lit (w.alloc (.cells #[.int .i64 0, .int .i64 0, .slice none 0 0, .slice none 0 0] 30)) (base:=w.heap.size+1) (e:=30) (size:=4) #[] 0 spz yAe rfl
  simpa[Fp] using this
 case round=>
  obtain⟨j,d,F,G,hj,rfl,rfl,aE,ay,ah,an,hB⟩:=hrel;have aU:Hid (Gq wr (w.heap.size+1) (.slice F d.length G) d):=aE;have Z:Hid (En [] l=En (d.map Ah.net).reverse (l.drop j)):=ay;have P:Hid (Uh (2*j) (d.map Ah.net).reverse):=ah;have aN:d.length<=2000:=by
   have h1:=ah.2;have V:=Fz (d.map Ah.net).reverse;rw[List.length_reverse,A9j] at V;omega
  have cO:Hid (∀W,Below (w.heap.size+1) wr W->B4 W w.heap.size (.int .i64 0) (.int .i64 0) (.slice none 0 0) (.slice none 0 0)):=λW h=>an.below h (Baa _)
  have eu:w.heap.size<wr.heap.size:=an.1;obtain⟨_,⟨t,q,r,s⟩,D,C,B,A⟩:=an;clear aE ay ah;by_cases ac:j<l.length
  ·obtain⟨b,o,rfl,ax,aB⟩:=HC j ac
   obtain⟨x0,x1,U,x2,ak⟩:=aB.below hB ax;have ae:=HF _ (A9a ac);have ao:=Aat l (d.map Ah.net).reverse j ac;rw[List.length_reverse,A9j] at ao;have H:Hid (∀W,Below wr.heap.size wr W->Calls prog 22 #[.agg #[.int .i64 l[j].code, .int .i64 l[j].one.op,U]] W λe u=>e=.returned (.bool (Hu l[j]))/\Below W.heap.size W u):=λW h=>A09 l[j] U W (ak.below h) ae
   have R:Hid (Hu l[j]=true->l[j].code<7->Stil.needs l[j].code<=d.length->∀W,Below wr.heap.size wr W->Calls prog 24 #[.slice F d.length G, .agg #[.int .i64 l[j].code, .int .i64 l[j].one.op,U]] W λe u=>Akb W u (w.heap.size+1) (Ib l[j].code l[j].one (d.map Ah.net).reverse) e):=λh1 V h3 W h=>A8v l[j] U d F G (w.heap.size+1) W (aU.below h) (ak.below h) ae ⟨(Aiv h1).1,omz⟩ h3 (by
    have h4:=P.2;have h5:Stil.sizes (d.map Ah.net).reverse=Stil.sizes (d.map Ah.net):=by unfold Stil.sizes;rw[List.map_reverse,List.sum_reverse]
    omega) (A9f omz h.size)
   have yN:Hid (Uh (2*(j+1)) (Ib l[j].code l[j].one (d.map Ah.net).reverse)):=by
    show Uh (2*j+2) _
    exact Ao9 ae.2 P omz
   have L:Hid (En (d.map Ah.net).reverse (l.drop j)=if Hu l[j]=false\/7<=l[j].code\/(d.length:Int)<Stil.needs l[j].code then none else En (Ib l[j].code l[j].one (d.map Ah.net).reverse) (l.drop (j+1))):=ao;obtain⟨I,hI⟩:∃I,I=l[j]:=⟨_,rfl⟩
   rw[<-hI] at x0 x1 H R yN L;have aG:Hid (∀W,Below wr.heap.size wr W->W.cell? ⟨b,o+j*3,none⟩=some (.int .i64 I.code)/\W.cell? ⟨b,o+j*3+1,none⟩=some (.int .i64 I.one.op)/\W.cell? ⟨b,o+j*3+2,none⟩=some U):=λW h=>by
    have ai:b<wr.heap.size:=A82 ax hB.size;exact⟨(h.cell ai).trans x0,(h.cell ai).trans x1,(h.cell ai).trans x2⟩
   have K:Hid (∀W,Below wr.heap.size wr W->B4 W w.heap.size (.int .i64 0) (.int .i64 0) (.slice none 0 0) (.slice none 0 0)):=λW h=>cO W (h.mono omz)
   obtain⟨ta,ua,rfl,_⟩:=ak;have rE:IntKind.i64.wrap ((j:Int)+1)=(j:Int)+1:=by rw[IntKind.wrap_i64];omega
   have E:Hid (Hu I=false\/7<=I.code\/(d.length:Int)<Stil.needs I.code->Bg l=(Je,false)):=λh=>by rw[J.out,Z.out,L.out,if_pos h];rfl
   obtain⟨ok,M⟩:∃k,k=Hu I:=⟨_,rfl⟩
   rw[<-M] at H R E L;clear hI M ao aB ae;cases ok
   ·go_wp2_with (go_at_call 22;refine(H _ blA).mono ?_;rintro e f ⟨rfl,ab⟩;have z:Below wr.heap.size wr f:=blA;clear t q r s D C B A;obtain⟨_,⟨t,q,r,s⟩,D,C,B,A⟩:=K f z)
    refine bodyPost_ret (v:=.tuple #[.agg #[.int .i64 0, .int .i64 0, .slice none 0 0, .slice none 0 0], .bool false]) (by simp[results,results6,go_sem,t,q,r,s]) rfl ⟨?_,blA⟩;exact⟨0,0,[],none,0,none,0,[],by rw[E.out spz];rfl,Ll _ _,by rw[E.out spz];exact Lm⟩
   ·by_cases h7:7<=I.code
    ·go_wp2_with (go_at_call 22;refine(H _ blA).mono ?_;rintro e f ⟨rfl,ab⟩;have z:Below wr.heap.size wr f:=blA;clear t q r s D C B A;obtain⟨_,⟨t,q,r,s⟩,D,C,B,A⟩:=K f z)
     refine bodyPost_ret (v:=.tuple #[.agg #[.int .i64 0, .int .i64 0, .slice none 0 0, .slice none 0 0], .bool false]) (by simp[results,results6,go_sem,t,q,r,s]) rfl ⟨?_,blA⟩;exact⟨0,0,[],none,0,none,0,[],by rw[E.out (.inr (.inl h7))];rfl,Ll _ _,by rw[E.out (.inr (.inl h7))];exact Lm⟩
    ·have aP:¬(I.code≥7):=h7
     have sK:Hid (∀W,Below wr.heap.size wr W->Calls prog 23 #[.int .i64 I.code] W λe u=>e=.returned (.int .i64 (Stil.needs I.code))/\Below W.heap.size W u):=λW _=>A4v I.code W
     obtain⟨nd,au⟩:∃n,n=Stil.needs I.code:=⟨_,rfl⟩
     rw[<-au] at sK R E L;clear au;by_cases aj:(d.length:Int)<nd
     ·go_wp2_with (first | (go_at_call 22;refine(H _ blA).mono ?_;rintro e f ⟨rfl,ab⟩;have z:Below wr.heap.size wr f:=blA) | (go_at_call 23;refine(sK _ blA).mono ?_;rintro e O ⟨rfl,aH⟩;have Y:Below wr.heap.size wr O:=blA;clear t q r s D C B A;obtain⟨_,⟨t,q,r,s⟩,D,C,B,A⟩:=K O Y))
      refine bodyPost_ret (v:=.tuple #[.agg #[.int .i64 0, .int .i64 0, .slice none 0 0, .slice none 0 0], .bool false]) (by simp[results,results6,go_sem,t,q,r,s]) rfl ⟨?_,blA⟩;exact⟨0,0,[],none,0,none,0,[],by rw[E.out (.inr (.inr aj))];rfl,Ll _ _,by rw[E.out (.inr (.inr aj))];exact Lm⟩
     ·have aK:Hid (∀W,Below wr.heap.size wr W->Calls prog 24 #[.slice F d.length G, .agg #[.int .i64 I.code, .int .i64 I.one.op, .slice ta l[j].one.args.length ua]] W λe u=>Akb W u (w.heap.size+1) (Ib I.code I.one (d.map Ah.net).reverse) e):=R rfl omz omz
      have yB:Hid (En [] l=En (Ib I.code I.one (d.map Ah.net).reverse) (l.drop (j+1))):=by
       show _=_
       rw[Z.out,L.out,if_neg];rintro(h | h | h)
       ·cases h
       ·exact h7 h
       ·exact aj h
      clear R E L Z
      go_wp2_with (first | (go_at_call 22;refine(H _ blA).mono ?_;rintro e f ⟨rfl,ab⟩;have z:Below wr.heap.size wr f:=blA) | (go_at_call 23;refine(sK _ blA).mono ?_;rintro e O ⟨rfl,aH⟩;have Y:Below wr.heap.size wr O:=blA;clear x0 x1 x2;obtain⟨x0,x1,x2⟩:=aG O Y) | (go_at_call 24;refine(aK _ Y).mono ?_;rintro e w7 ⟨a7,c7,pI,rfl,wG,vY,aA⟩;have uj:Hid (Gq w7 (w.heap.size+1) (.slice a7 pI.length c7) pI):=wG;have yD:Hid ((pI.map Ah.net).reverse=Ib I.code I.one (d.map Ah.net).reverse):=vY;have yV:Hid (Below (w.heap.size+1) wr w7):=((Y.mono omz).trans aA);clear wG vY aA))
      refine⟨⟨j+1,pI,a7,c7,ac,spz,rfl,uj.out,by rw[yD.out];exact yB.out,by rw[yD.out];exact yN.out,cO w7 yV.out,hB.trans (yV.mono omz)⟩,by simp[intOf];omega⟩
  ·obtain rfl:j=l.length:=by omega
   have kP:Hid (Bg l=Xd (some (d.map Ah.net).reverse)):=by show _=_;rw[J.out,Z.out,Ack l _ _ (A88 _)]
   clear Z J HC;by_cases h1:d.length=1
   ·obtain⟨m,rfl⟩:=List.length_eq_one_iff.1 h1
    have aa:=aU.one 0 spz;simp only[Bab] at aa;obtain⟨g,c,hv,_,af,_,X⟩:=Cf aU.1 spz;obtain⟨a1,a2,a3,a4⟩:=Gx [m] 0 spz;have N:=X _ _ a1;have Q:=X _ _ a2;have T:=X _ _ a3;have y3:=X _ _ a4;simp only[Bab,Bbd,A9c] at N Q T y3;have M:=(Ee _ _ _).1 aa.1;obtain⟨d1,d2,hd⟩:=Ac M.1;obtain⟨d3,d4,aD⟩:=Ac M.2.1;simp only[Value.slice.injEq] at hv;obtain⟨rfl,_,rfl⟩:=hv;have ap:=MOk.from m aa.1;have aI:Aj m.net<=2000:=by
     have h4:=P.2;simp only[A9l,A97,List.reverse_cons,List.reverse_nil,A9u,Dv,Ol] at h4;omega
    have iY:Hid (∀W,Below wr.heap.size wr W->Calls prog 25 #[.agg #[.int .i64 m.kind, .int .i64 m.op,m.av,m.kv]] W λe u=>e=.returned (.int .i64 (Aj m.net))/\Below W.heap.size W u):=λW h=>by
     have h5:=Awt m.net m.av m.kv W (ap.1.at.below h) (ap.2.at.below h) omz;rw[show m.net.kind=m.kind by rw[Ah.net_eq],show m.net.one.op=m.op by rw[Ah.net_eq]] at h5;exact h5
    have y:Hid (Bg l=if 400<Aj m.net then(Je,false) else(m.net,true)):=kP.out;have bG:Hid (I7 wr (w.heap.size+1) m):=aa;have K:Hid (∀W,Below wr.heap.size wr W->B4 W w.heap.size (.int .i64 0) (.int .i64 0) (.slice none 0 0) (.slice none 0 0)):=λW h=>cO W (h.mono omz)
    obtain⟨S,hS⟩:∃S,S=Aj m.net:=⟨_,rfl⟩
    rw[<-hS] at iY y aI;obtain⟨ag,hN⟩:∃ag,ag=m.net:=⟨_,rfl⟩
    have kL:Hid (ag=m.net):=hN;rw[<-hN] at y;have bW:Hid (∀W,Below wr.heap.size wr W->W.cell? ⟨g,0,none⟩=some (.int .i64 m.kind)/\W.cell? ⟨g,1,none⟩=some (.int .i64 m.op)/\W.cell? ⟨g,2,none⟩=some m.av/\W.cell? ⟨g,3,none⟩=some m.kv):=λW h=>⟨(h.cell af).trans N,(h.cell af).trans Q,(h.cell af).trans T,(h.cell af).trans y3⟩
    clear hS hN aa M ap aU P kP X a1 a2 a3 a4 cO;obtain⟨mk,aJ,aF,yZ,yY,aC⟩:=m;simp only at hd aD N Q T y3 iY bW;subst hd;subst aD;by_cases az:400<S
    ·have aM:(400:Int)<(S:Int):=by omega
     rw[if_pos az] at y
     go_wp2_with (go_at_call 25;refine(iY _ blA).mono ?_;rintro e f ⟨rfl,ab⟩;have z:Below wr.heap.size wr f:=blA;clear t q r s D C B A;obtain⟨_,⟨t,q,r,s⟩,D,C,B,A⟩:=K f z)
     refine bodyPost_ret (v:=.tuple #[.agg #[.int .i64 0, .int .i64 0, .slice none 0 0, .slice none 0 0], .bool false]) (by simp[results,results6,go_sem,t,q,r,s]) rfl ⟨?_,blA⟩;exact⟨0,0,[],none,0,none,0,[],by rw[y.out];rfl,Ll _ _,by rw[y.out];exact Lm⟩
    ·have aM:¬((400:Int)<(S:Int)):=by omega
     rw[if_neg az] at y
     go_wp2_with (go_at_call 25;refine(iY _ blA).mono ?_;rintro e f ⟨rfl,ab⟩;have z:Below wr.heap.size wr f:=blA;clear t q r s D C B A N Q T y3;obtain⟨_,⟨t,q,r,s⟩,D,C,B,A⟩:=K f z;obtain⟨N,Q,T,y3⟩:=bW f z)
     refine bodyPost_ret (v:=.tuple #[.agg #[.int .i64 mk, .int .i64 aJ, .slice d1 aF.length d2, .slice d3 aC.length d4], .bool true]) (by simp[results,results6,go_sem,t,q,r,s]) rfl ⟨?_,blA⟩;refine⟨mk,aJ,aF,d1,d2,d3,d4,aC,by rw[y.out],?_,by rw[y.out];exact kL.symm⟩;have h9:=bG.below z;exact I7.le ⟨h9.1.set4 (Baa _),h9.2⟩ (Bap _)
   ·have y:Hid (Bg l=(Je,false)):=by
     show _=_
     rw[kP.out];have V:((d.map Ah.net).reverse).length≠1:=by rw[List.length_reverse,A9j];exact h1
     generalize (d.map Ah.net).reverse=st at V
     match st with
     | []=>rfl
     | [x]=>exact absurd rfl V
     | _::_::_=>rfl
    have e1:((d.length:Int)==1)=false:=by rw[A95];omega
    have e2:¬((d.length:Int)=1):=omz
    clear kP P
    go_wp2
    refine bodyPost_ret (v:=.tuple #[.agg #[.int .i64 0, .int .i64 0, .slice none 0 0, .slice none 0 0], .bool false]) (by simp[results,results6,go_sem,t,q,r,s]) rfl ⟨?_,blA⟩;exact⟨0,0,[],none,0,none,0,[],by rw[y.out];rfl,Ll _ _,by rw[y.out];exact Lm⟩
end Go.Proofs.YtobbpffcggchmaaGreatDoor
set_option maxHeartbeats 4000000
set_option maxRecDepth 100000
namespace Go.Proofs.YtobbpffcggchmaaGreatDoor
open Tryz
open Stil
open Go.RowKit Go.Sort Go.BigFrame
def A0s (a:Value):Prop:=(∃c:Int,a=.iface 60 (.int .i64 c))\/∃k c:Int,a=.iface 87 (.agg #[.int .i64 k, .iface 60 (.int .i64 c)])
def Ar2 (w:World)(base:Nat)(R:Stil.Net × Bool)(e:Ending):Prop:=∃(k op:Int) (a:List Stil.Dev) (d:Option Addr) (c:Nat) (h:Option Addr) (g:Nat) (b:List Ah) (f:Value),e=.returned (.tuple #[.agg #[.int .i64 k, .int .i64 op, .slice d a.length c, .slice h b.length g],f])/\
 I7 w base ⟨k,op,a, .slice d a.length c, .slice h b.length g,b⟩/\(Ah.mk k op a (.slice d a.length c) (.slice h b.length g) b).net=R.1/\(R.2=true/\f=.nilIface\/R.2=false/\A0s f)
theorem Aoz (c:Int)(w:World):
  Calls prog 47 #[.int .i64 c] w λe d=>e=.returned (.bool (decide (1<=c/\c<=6)))/\d=w:=by
 obtain⟨R,a⟩:∃R,R=decide (1<=c/\c<=6):=⟨_,rfl⟩
 have b:Hid (R=decide (1<=c/\c<=6)):=a;rw[<-a];clear a;by_cases f:1<=c
 ·by_cases g:c<=6
  ·go_enter func47,ntmps47
   go_wp2
   go_ret;exact⟨by rw[b.out,Bba omz];rfl,rfl⟩
  ·go_enter func47,ntmps47
   go_wp2
   go_ret;exact⟨by rw[b.out,Ba1 omz];rfl,rfl⟩
 ·go_enter func47,ntmps47
  go_wp2
  go_ret;exact⟨by rw[b.out,Ba1 omz];rfl,rfl⟩
theorem Ao2 (l:List Stil.F7)(v:Value)(w:World)(aG:Ei w)(aA:Jb w)(aO:Ja w v l)(hl:l.length<=1048576)(ap:∀x∈l,x.fits):
  Calls prog 20 #[v] w λe f=>Ar2 f w.heap.size (Bg l) e/\Below w.heap.size w f:=by
 obtain⟨a,cap,rfl,hc⟩:=aO;have HC:Hid (∀i (h:i<l.length),∃b o,a=some ⟨b,o,none⟩/\b<w.heap.size/\Aie w b (o+i*3) l[i]):=hc;have HF:Hid (∀x∈l,x.fits):=ap;have ax:Hid (Ei w):=aG;have aw:Hid (Jb w):=aA;clear hc ap aG aA;by_cases ay:1000<l.length
 ·have S:Hid (Bg l=(Je,false)):=by show _=_;unfold Bg;rw[if_pos ay]
  go_enter func20,ntmps20
  go_wp2
  refine bodyPost_ret (v:=.tuple #[.agg #[.int .i64 0, .int .i64 0, .slice none 0 0, .slice none 0 0], .iface 60 (.int .i64 2)]) (by simp[results,results20,go_sem]) rfl ⟨?_,blA⟩;exact⟨0,0,[],none,0,none,0,[],_,rfl,Ll _ _,by rw[S.out];exact Lm, .inr ⟨by rw[S.out], .inl ⟨_,rfl⟩⟩⟩
 have S:Hid (Bg l=Xd (En [] l)):=by show _=_;unfold Bg;rw[if_neg ay]
 have aR:l.length<=1000:=omz
 go_enter func20,ntmps20
 go_wp2
 go_loopw [4,14] (λsv iv wr=>∃(j:Nat) (N:List Nat) (c:List Ah) (A:Option Addr),j<=l.length/\iv=.int .i64 (j:Int)/\sv=.pointer A/\Fe wr (w.heap.size+1) N c (.pointer A)/\En [] l=En (c.map Ah.net) (l.drop j)/\Uh (2*j) (c.map Ah.net)/\B4 wr w.heap.size (.int .i64 0) (.int .i64 0) (.slice none 0 0) (.slice none 0 0)/\Below w.heap.size w wr) (λ_ iv _=>l.length - (intOf iv).toNat)
 case atStart=>
  exact⟨0,[],[],none,Ban _,rfl,rfl,⟨rfl,(λm hm=>by cases hm),List.Pairwise.nil,(λb hb=>by cases hb)⟩,rfl,⟨(λn hn=>by cases hn),by simp[Stil.sizes]⟩,Akh,blA⟩
 case round=>
  obtain⟨j,N,c,A,hj,rfl,rfl,aI,az,ar,ai,U⟩:=hrel;have J:Hid (Fe wr (w.heap.size+1) N c (.pointer A)):=aI;have nG:Hid (En [] l=En (c.map Ah.net) (l.drop j)):=az;have R:Hid (Uh (2*j) (c.map Ah.net)):=ar;have cO:Hid (∀W,Below (w.heap.size+1) wr W->B4 W w.heap.size (.int .i64 0) (.int .i64 0) (.slice none 0 0) (.slice none 0 0)):=λW h=>ai.below h (Baa _)
  have eu:w.heap.size<wr.heap.size:=ai.1;obtain⟨_,⟨u,q,s,t⟩,H,G,F,E⟩:=ai;have T:Hid (∀W,Below wr.heap.size wr W->B4 W w.heap.size (.int .i64 0) (.int .i64 0) (.slice none 0 0) (.slice none 0 0)):=λW h=>cO W (h.mono omz)
  clear aI az ar;by_cases aa:j<l.length
  ·obtain⟨b,o,rfl,aN,aE⟩:=HC j aa
   obtain⟨x0,x1,kQ,x2,ah⟩:=aE.below U aN;have ab:=HF _ (A9a aa);have al:=Aat l (c.map Ah.net) j aa;rw[A9j] at al;have Q:Hid (∀W,Below wr.heap.size wr W->Calls prog 46 #[.agg #[.int .i64 l[j].code, .int .i64 l[j].one.op,kQ]] W λe f=>e=.returned (.bool (Hu l[j]))/\Below W.heap.size W f):=λW h=>A2x l[j] kQ W (ax.below (U.trans (h.mono U.size))) (aw.below (U.trans (h.mono U.size))) (ah.below h) ab
   have mY:Hid (Hu l[j]=true->l[j].code<7->Stil.needs l[j].code<=(c.length:Int)->∀W,Below wr.heap.size wr W->Calls prog 50 #[.pointer A, .agg #[.int .i64 l[j].code, .int .i64 l[j].one.op,kQ]] W λe f=>Jm W f (w.heap.size+1) (Ib l[j].code l[j].one (c.map Ah.net)) e):=λh1 h2 h3 W h=>Aow l[j] kQ N c (.pointer A) (w.heap.size+1) (2*j) W (J.below h) (ah.below h) ab (Aiv h1).1 h2 h3 (Awo R.out) omz (A9f omz h.size)
   have yN:Hid (Uh (2*(j+1)) (Ib l[j].code l[j].one (c.map Ah.net))):=by
    show Uh (2*j+2) _
    exact Ao9 ab.2 R omz
   have V:Hid (En (c.map Ah.net) (l.drop j)=if Hu l[j]=false\/7<=l[j].code\/(c.length:Int)<Stil.needs l[j].code then none else En (Ib l[j].code l[j].one (c.map Ah.net)) (l.drop (j+1))):=al;have bM:Hid (Hu l[j]=true->1<=l[j].code):=λh=>(Aiv h).1
   obtain⟨I,hI⟩:∃I,I=l[j]:=⟨_,rfl⟩
   rw[<-hI] at x0 x1 Q mY yN V bM;have Z:Hid (∀W,Calls prog 47 #[.int .i64 I.code] W λe f=>e=.returned (.bool (decide (1<=I.code/\I.code<=6)))/\f=W):=λW=>Aoz I.code W
   have sK:Hid (∀W,Calls prog 49 #[.int .i64 I.code] W λe f=>e=.returned (.int .i64 (Stil.needs I.code))/\f=W):=λW=>Aot I.code W
   obtain⟨M,au,aS⟩:∃n:Nat,Stil.needs I.code=(n:Int)/\n<=2:=by
    unfold Stil.needs;split
    ·exact⟨0,rfl,omz⟩
    ·split
     ·exact⟨2,rfl,omz⟩
     ·exact⟨1,rfl,omz⟩
   rw[au] at sK mY V;have yL:Hid (∀W,Below wr.heap.size wr W->Calls prog 48 #[.pointer A, .int .i64 (M:Int)] W λe f=>e=.returned (.bool (decide (M<=c.length)))/\f=W):=λW h=>A5n M N c (.pointer A) W (J.below h).link omz
   obtain⟨ta,ua,rfl,_⟩:=ah;have rE:IntKind.i64.wrap ((j:Int)+1)=(j:Int)+1:=by rw[IntKind.wrap_i64];omega
   have L:Hid (Hu I=false\/7<=I.code\/(c.length:Int)<(M:Int)->Bg l=(Je,false)):=λh=>by rw[S.out,nG.out,V.out,if_pos h];rfl
   obtain⟨ok,X⟩:∃k,k=Hu I:=⟨_,rfl⟩
   rw[<-X] at Q mY L V bM;clear hI X al aE ab au;cases ok
   ·go_wp2_with (go_at_call 46;refine(Q _ blA).mono ?_;rintro e d ⟨rfl,z⟩;have y:Below wr.heap.size wr d:=blA;have k0:d.cell? ⟨wr.heap.size,0,none⟩=some (.int .i64 I.code):=(clA z);have k1:d.cell? ⟨wr.heap.size,1,none⟩=some (.int .i64 I.one.op):=(clA z);have k2:d.cell? ⟨wr.heap.size,2,none⟩=some (.slice ta l[j].one.args.length ua):=(clA z);clear u q s t H G F E;obtain⟨_,⟨u,q,s,t⟩,H,G,F,E⟩:=T d y)
    refine bodyPost_ret (v:=.tuple #[.agg #[.int .i64 0, .int .i64 0, .slice none 0 0, .slice none 0 0], .iface 87 (.agg #[.int .i64 (j:Int), .iface 60 (.int .i64 1)])]) (by simp[results,results20,go_sem,u,q,s,t]) rfl ⟨?_,blA⟩;exact⟨0,0,[],none,0,none,0,[],_,rfl,Ll _ _,by rw[L.out spz];exact Lm, .inr ⟨by rw[L.out spz],by first | exact .inl ⟨_,rfl⟩ | exact .inr ⟨_,_,rfl⟩⟩⟩
   ·have aU:=bM rfl
    by_cases h7:7<=I.code
    ·rw[Ba1 omz] at Z
     go_wp2_with (first | (go_at_call 46;refine(Q _ blA).mono ?_;rintro e d ⟨rfl,z⟩;have y:Below wr.heap.size wr d:=blA;have k0:d.cell? ⟨wr.heap.size,0,none⟩=some (.int .i64 I.code):=(clA z);have k1:d.cell? ⟨wr.heap.size,1,none⟩=some (.int .i64 I.one.op):=(clA z);have k2:d.cell? ⟨wr.heap.size,2,none⟩=some (.slice ta l[j].one.args.length ua):=(clA z);clear u q s t H G F E;obtain⟨_,⟨u,q,s,t⟩,H,G,F,E⟩:=T d y) | (go_at_call 47;refine(Z _).mono ?_;rintro e B ⟨rfl,rfl⟩))
     refine bodyPost_ret (v:=.tuple #[.agg #[.int .i64 0, .int .i64 0, .slice none 0 0, .slice none 0 0], .iface 87 (.agg #[.int .i64 (j:Int), .iface 60 (.int .i64 1)])]) (by simp[results,results20,go_sem,u,q,s,t]) rfl ⟨?_,blA⟩;exact⟨0,0,[],none,0,none,0,[],_,rfl,Ll _ _,by rw[L.out (.inr (.inl h7))];exact Lm, .inr ⟨by rw[L.out (.inr (.inl h7))],by first | exact .inl ⟨_,rfl⟩ | exact .inr ⟨_,_,rfl⟩⟩⟩
    ·rw[Bba omz] at Z
     by_cases ag:(c.length:Int)<(M:Int)
     ·have ve:Hid (∀W,Below wr.heap.size wr W->Calls prog 48 #[.pointer A, .int .i64 (M:Int)] W λe f=>e=.returned (.bool false)/\f=W):=by
       rw[Ba1 omz] at yL;exact yL
      go_wp2_with (first | (go_at_call 46;refine(Q _ blA).mono ?_;rintro e d ⟨rfl,z⟩;have y:Below wr.heap.size wr d:=blA;have k0:d.cell? ⟨wr.heap.size,0,none⟩=some (.int .i64 I.code):=(clA z);have k1:d.cell? ⟨wr.heap.size,1,none⟩=some (.int .i64 I.one.op):=(clA z);have k2:d.cell? ⟨wr.heap.size,2,none⟩=some (.slice ta l[j].one.args.length ua):=(clA z);clear u q s t H G F E;obtain⟨_,⟨u,q,s,t⟩,H,G,F,E⟩:=T d y) | (go_at_call 47;refine(Z _).mono ?_;rintro e B ⟨rfl,rfl⟩) | (go_at_call 49;refine(sK _).mono ?_;rintro e B ⟨rfl,rfl⟩) | (go_at_call 48;refine(ve _ y).mono ?_;rintro e B ⟨rfl,rfl⟩))
      refine bodyPost_ret (v:=.tuple #[.agg #[.int .i64 0, .int .i64 0, .slice none 0 0, .slice none 0 0], .iface 87 (.agg #[.int .i64 (j:Int), .iface 60 (.int .i64 1)])]) (by simp[results,results20,go_sem,u,q,s,t]) rfl ⟨?_,blA⟩;exact⟨0,0,[],none,0,none,0,[],_,rfl,Ll _ _,by rw[L.out (.inr (.inr ag))];exact Lm, .inr ⟨by rw[L.out (.inr (.inr ag))],by first | exact .inl ⟨_,rfl⟩ | exact .inr ⟨_,_,rfl⟩⟩⟩
     ·have ve:Hid (∀W,Below wr.heap.size wr W->Calls prog 48 #[.pointer A, .int .i64 (M:Int)] W λe f=>e=.returned (.bool true)/\f=W):=by
       rw[Bba omz] at yL;exact yL
      have aM:Hid (∀W,Below wr.heap.size wr W->Calls prog 50 #[.pointer A, .agg #[.int .i64 I.code, .int .i64 I.one.op, .slice ta l[j].one.args.length ua]] W λe f=>Jm W f (w.heap.size+1) (Ib I.code I.one (c.map Ah.net)) e):=mY rfl omz omz;have yB:Hid (En [] l=En (Ib I.code I.one (c.map Ah.net)) (l.drop (j+1))):=by
       show _=_
       rw[nG.out,V.out,if_neg];rintro(h | h | h)
       ·cases h
       ·exact h7 h
       ·exact ag h
      clear mY L V nG yL
      go_wp2_with (first | (go_at_call 46;refine(Q _ blA).mono ?_;rintro e d ⟨rfl,z⟩;have y:Below wr.heap.size wr d:=blA;have k0:d.cell? ⟨wr.heap.size,0,none⟩=some (.int .i64 I.code):=(clA z);have k1:d.cell? ⟨wr.heap.size,1,none⟩=some (.int .i64 I.one.op):=(clA z);have k2:d.cell? ⟨wr.heap.size,2,none⟩=some (.slice ta l[j].one.args.length ua):=(clA z);clear u q s t H G F E;obtain⟨_,⟨u,q,s,t⟩,H,G,F,E⟩:=T d y) | (go_at_call 47;refine(Z _).mono ?_;rintro e B ⟨rfl,rfl⟩) | (go_at_call 49;refine(sK _).mono ?_;rintro e B ⟨rfl,rfl⟩) | (go_at_call 48;refine(ve _ y).mono ?_;rintro e B ⟨rfl,rfl⟩) | (go_at_call 50;refine(aM _ y).mono ?_;rintro e w7 ⟨b7,ao,pI,rfl,wG,vY,aB⟩;have uj:Hid (Fe w7 (w.heap.size+1) (b7::ao) pI (.pointer (some ⟨b7,0,none⟩))):=wG;have yD:Hid (pI.map Ah.net=Ib I.code I.one (c.map Ah.net)):=vY;have yV:Hid (Below (w.heap.size+1) wr w7):=((y.mono omz).trans aB);clear wG vY aB))
      refine⟨⟨j+1,b7::ao,pI,_,aa,spz,rfl,uj.out,by rw[yD.out];exact yB.out,by rw[yD.out];exact yN.out,cO w7 yV.out,U.trans (yV.mono omz)⟩,by simp[intOf];omega⟩
  ·obtain rfl:j=l.length:=by omega
   have kP:Hid (Bg l=Xd (some (c.map Ah.net))):=by show _=_;rw[S.out,nG.out,Ack l _ _ (A88 _)]
   clear nG S HC ax aw HF;have P:Hid (∀W,Below wr.heap.size wr W->Calls prog 48 #[.pointer A, .int .i64 1] W λe f=>e=.returned (.bool (decide (1<=c.length)))/\f=W):=λW h=>A5n 1 N c (.pointer A) W (J.below h).link omz
   have Y:Hid (∀W,Below wr.heap.size wr W->Calls prog 48 #[.pointer A, .int .i64 2] W λe f=>e=.returned (.bool (decide (2<=c.length)))/\f=W):=λW h=>A5n 2 N c (.pointer A) W (J.below h).link omz
   have O:=Below.refl wr.heap.size wr;by_cases h1:c.length=1
   ·obtain⟨m,rfl⟩:=List.length_eq_one_iff.1 h1
    rw[Bba spz] at P;rw[Ba1 spz] at Y;obtain⟨g,aT,rfl,aP,ac,⟨y0,y1,y2,y3⟩,_⟩:=J.link.cons;obtain rfl:A=some ⟨g,0,none⟩:=by injection aP
    have ae:I7 wr (w.heap.size+1) m:=⟨J.oks m spz,by have:=J.apart;rw[Dt] at this;exact this⟩
    have X:=(Ee _ _ _).1 ae.1;obtain⟨d1,d2,hd⟩:=Ac X.1;obtain⟨d3,d4,aH⟩:=Ac X.2.1;have an:=MOk.from m ae.1;have aD:=R.1 m.net spz;have aL:Aj m.net<=2000:=by
     have h4:=R.2;simp only[A9l,A97,Dv,Ol] at h4;omega
    have dM:Hid (∀W,Below wr.heap.size wr W->Calls prog 51 #[.agg #[.int .i64 m.kind, .int .i64 m.op,m.av,m.kv], .int .i64 400] W λe f=>∃r:Nat,e=.returned (.int .i64 r)/\(400<r↔400<Aj m.net)/\r<=2000/\Below W.heap.size W f):=λW h=>by
     have h5:=Aex m.net m.av m.kv 400 W (an.1.at.below h) (an.2.at.below h) aD.1 omz omz omz;rw[show m.net.kind=m.kind by rw[Ah.net_eq],show m.net.one.op=m.op by rw[Ah.net_eq]] at h5;refine h5.mono ?_;rintro e f ⟨r,he,h6,h7,h8,h9⟩;refine⟨r,he,⟨λh=>by omega,λh=>?_⟩,omz,h9⟩;have:=h7 omz
     omega
    have C:Hid (Bg l=if 400<Aj m.net then(Je,false) else(m.net,true)):=kP.out;have bG:Hid (I7 wr (w.heap.size+1) m):=ae;obtain⟨ak,hS⟩:∃ak,ak=Aj m.net:=⟨_,rfl⟩
    rw[<-hS] at dM C aL;obtain⟨af,hN⟩:∃af,af=m.net:=⟨_,rfl⟩
    have kL:Hid (af=m.net):=hN;rw[<-hN] at C;have bW:Hid (∀W,Below wr.heap.size wr W->W.cell? ⟨g,0,none⟩=some (.int .i64 m.kind)/\W.cell? ⟨g,1,none⟩=some (.int .i64 m.op)/\W.cell? ⟨g,2,none⟩=some m.av/\W.cell? ⟨g,3,none⟩=some m.kv):=λW h=>⟨(h.cell ac).trans y0,(h.cell ac).trans y1,(h.cell ac).trans y2,(h.cell ac).trans y3⟩
    clear hS hN ae X an J R kP cO aD;obtain⟨mk,aJ,aF,yZ,yY,aC⟩:=m;simp only at hd aH y0 y1 y2 y3 dM bW;subst hd;subst aH;by_cases aj:400<ak
    ·rw[if_pos aj] at C
     go_wp2_with (first | (have hx:=K;clear hx K;go_at_call 48;refine(Y _ O).mono ?_;rintro e B ⟨rfl,D⟩;obtain rfl:=D.symm) | (go_at_call 48;refine(P _ O).mono ?_;rintro e B ⟨rfl,D⟩;obtain rfl:=D.symm;have K:True:=trivial) | (go_at_call 51;refine(dM _ blA).mono ?_;rintro e d ⟨r,rfl,tX,aQ,z⟩;have aK:400<(r:Int):=(by have:=tX.2 aj;omega);clear tX;have y:Below wr.heap.size wr d:=blA;clear u q s t H G F E;obtain⟨_,⟨u,q,s,t⟩,H,G,F,E⟩:=T d y))
     refine bodyPost_ret (v:=.tuple #[.agg #[.int .i64 0, .int .i64 0, .slice none 0 0, .slice none 0 0], .iface 60 (.int .i64 2)]) (by simp[results,results20,go_sem,u,q,s,t]) rfl ⟨?_,blA⟩;exact⟨0,0,[],none,0,none,0,[],_,rfl,Ll _ _,by rw[C.out];exact Lm, .inr ⟨by rw[C.out],by first | exact .inl ⟨_,rfl⟩ | exact .inr ⟨_,_,rfl⟩⟩⟩
    ·rw[if_neg aj] at C
     go_wp2_with (first | (have hx:=K;clear hx K;go_at_call 48;refine(Y _ O).mono ?_;rintro e B ⟨rfl,D⟩;obtain rfl:=D.symm) | (go_at_call 48;refine(P _ O).mono ?_;rintro e B ⟨rfl,D⟩;obtain rfl:=D.symm;have K:True:=trivial) | (go_at_call 51;refine(dM _ blA).mono ?_;rintro e d ⟨r,rfl,tX,aQ,z⟩;have aK:¬400<(r:Int):=(by have:=tX.1;omega);clear tX;have y:Below wr.heap.size wr d:=blA;clear u q s t H G F E y0 y1 y2 y3;obtain⟨_,⟨u,q,s,t⟩,H,G,F,E⟩:=T d y;obtain⟨y0,y1,y2,y3⟩:=bW d y))
     refine bodyPost_ret (v:=.tuple #[.agg #[.int .i64 mk, .int .i64 aJ, .slice d1 aF.length d2, .slice d3 aC.length d4], .nilIface]) (by simp[results,results20,go_sem,u,q,s,t]) rfl ⟨?_,blA⟩;refine⟨mk,aJ,aF,d1,d2,d3,d4,aC,_,rfl,?_,by rw[C.out];exact kL.symm, .inl ⟨by rw[C.out],rfl⟩⟩;have h9:=bG.below y;exact I7.le ⟨h9.1.set4 (Baa _),h9.2⟩ (Bap _)
   ·have C:Hid (Bg l=(Je,false)):=by
     show _=_
     rw[kP.out];have h2:(c.map Ah.net).length≠1:=by rw[A9j];exact h1
     generalize c.map Ah.net=st at h2
     match st with
     | []=>rfl
     | [x]=>exact absurd rfl h2
     | _::_::_=>rfl
    clear kP R cO;by_cases h0:c.length=0
    ·rw[Ba1 omz] at P
     go_wp2_with (go_at_call 48;refine(P _ O).mono ?_;rintro e B ⟨rfl,D⟩;obtain rfl:=D.symm)
     refine bodyPost_ret (v:=.tuple #[.agg #[.int .i64 0, .int .i64 0, .slice none 0 0, .slice none 0 0], .iface 87 (.agg #[.int .i64 (l.length:Int), .iface 60 (.int .i64 1)])]) (by simp[results,results20,go_sem,u,q,s,t]) rfl ⟨?_,blA⟩;exact⟨0,0,[],none,0,none,0,[],_,rfl,Ll _ _,by rw[C.out];exact Lm, .inr ⟨by rw[C.out],by first | exact .inl ⟨_,rfl⟩ | exact .inr ⟨_,_,rfl⟩⟩⟩
    ·rw[Bba omz] at P
     rw[Bba omz] at Y
     go_wp2_with (first | (have hx:=K;clear hx K;go_at_call 48;refine(Y _ O).mono ?_;rintro e B ⟨rfl,D⟩;obtain rfl:=D.symm) | (go_at_call 48;refine(P _ O).mono ?_;rintro e B ⟨rfl,D⟩;obtain rfl:=D.symm;have K:True:=trivial))
     refine bodyPost_ret (v:=.tuple #[.agg #[.int .i64 0, .int .i64 0, .slice none 0 0, .slice none 0 0], .iface 87 (.agg #[.int .i64 (l.length:Int), .iface 60 (.int .i64 1)])]) (by simp[results,results20,go_sem,u,q,s,t]) rfl ⟨?_,blA⟩;exact⟨0,0,[],none,0,none,0,[],_,rfl,Ll _ _,by rw[C.out];exact Lm, .inr ⟨by rw[C.out],by first | exact .inl ⟨_,rfl⟩ | exact .inr ⟨_,_,rfl⟩⟩⟩
theorem Azg (l:List Stil.F7)(v:Value)(w:World)(hE:Em w)(af:Ei w)(ac:Jb w)(ae:Ja w v l)(hl:l.length<=1048576)(T:∀x∈l,x.fits):
  Calls prog 5 #[v] w λe z=>Aft z w.heap.size (Bg l) e/\Below w.heap.size w z:=by
 have uJ:Hid (∀W,Below w.heap.size w W->Calls prog 20 #[v] W λe z=>Ar2 z W.heap.size (Bg l) e/\Below W.heap.size W z):=λW h=>Ao2 l v W (af.below h) (ac.below h) (ae.below h) hl T
 have Z:Hid (∀V,Below w.heap.size w V->Em V):=λV h=>hE.below h
 obtain⟨a,cap,rfl,_⟩:=ae;obtain⟨R,hR⟩:∃R,R=Bg l:=⟨_,rfl⟩
 rw[<-hR] at uJ ⊢;clear hR hE af ac T;go_enter func5,ntmps5;go_upto_region 2 with(go_at_call 20;refine(uJ _ blA).mono ?_;rintro e d ⟨⟨k,op,g,j,m,q,o,f,O,rfl,M,ag,U⟩,I⟩;simp only[World.size_alloc] at M;have P:Hid (I7 d (w.heap.size+1) (Ah.mk k op g (.slice j g.length m) (.slice q f.length o) f)):=M;have aQ:Hid ((Ah.mk k op g (.slice j g.length m) (.slice q f.length o) f).net=R.1):=ag;have C:Hid (R.2=true/\O=.nilIface\/R.2=false/\A0s O):=U;clear M ag U)
 have L:Below w.heap.size w d:=blA;have an:w.heap.size<d.heap.size:=by have:=I.size;simp at this;omega
 have S:B4 d w.heap.size (.int .i64 0) (.int .i64 0) (.slice none 0 0) (.slice none 0 0):=Akh.below I spz;go_upto_region 3 with fail
 obtain⟨W,r⟩:∃W,W=(d.alloc (.cells #[.int .i64 k, .int .i64 op, .slice j g.length m, .slice q f.length o] 30)).alloc (.cells #[.int .i64 0] 60):=⟨_,rfl⟩
 rw[<-r];have ap:W.heap.size=d.heap.size+2:=by rw[r];simp
 have D:Below d.heap.size d W:=by rw[r];exact Be (Aa _ _) _
 have aj:Below w.heap.size w W:=Dj L D;have aa:B4 W d.heap.size (.int .i64 k) (.int .i64 op) (.slice j g.length m) (.slice q f.length o):=by rw[r];exact Akh.al _
 have pM:B4 W w.heap.size (.int .i64 0) (.int .i64 0) (.slice none 0 0) (.slice none 0 0):=S.below D an;have Y:W.cell? ⟨d.heap.size+1,0,none⟩=some (.int .i64 0):=by rw[r];simp[go_sem]
 have X:W.frozen? ⟨d.heap.size+1,0,none⟩=false:=by rw[r];simp[go_sem]
 clear r;have HV:Hid (∀(i:World) (u:Value),Below W.heap.size W i->B4 (i.setCell ⟨d.heap.size+1,0,none⟩ u) d.heap.size (.int .i64 k) (.int .i64 op) (.slice j g.length m) (.slice q f.length o)/\B4 (i.setCell ⟨d.heap.size+1,0,none⟩ u) w.heap.size (.int .i64 0) (.int .i64 0) (.slice none 0 0) (.slice none 0 0)/\Below d.heap.size d (i.setCell ⟨d.heap.size+1,0,none⟩ u)):=λi u h=>
  ⟨(aa.below h omz).setO omz u,(pM.below h omz).setO omz u,Ep spz (Dj D h) u⟩
 have G:Hid (∀(V:World) (b:Bool),Below d.heap.size d V->b=R.2->Aft ((((V.setCell ⟨w.heap.size,0,none⟩ (.int .i64 k)).setCell ⟨w.heap.size,1,none⟩ (.int .i64 op)).setCell ⟨w.heap.size,2,none⟩ (.slice j g.length m)).setCell ⟨w.heap.size,3,none⟩ (.slice q f.length o)) w.heap.size R (.returned (.tuple #[.agg #[.int .i64 k, .int .i64 op, .slice j g.length m, .slice q f.length o], .bool b]))/\Below w.heap.size w ((((V.setCell ⟨w.heap.size,0,none⟩ (.int .i64 k)).setCell ⟨w.heap.size,1,none⟩ (.int .i64 op)).setCell ⟨w.heap.size,2,none⟩ (.slice j g.length m)).setCell ⟨w.heap.size,3,none⟩ (.slice q f.length o))):=λV b h e=>by
  subst e;have hB:Below w.heap.size w V:=Dj L h;refine⟨⟨k,op,g,j,m,q,o,f,rfl,I7.le ⟨(P.below h).1.set4 (Baa _),P.2⟩ (Bap _),aQ.out⟩,?_⟩;exact Ep spz (Ep spz (Ep spz (Ep spz hB _) _) _) _
 have ab:Hid (Below w.heap.size w W):=aj;obtain⟨_,⟨o0,o1,o2,o3⟩,_⟩:=aa;obtain⟨_,⟨t0,t1,t2,t3⟩,f0,f1,f2,f3⟩:=pM;clear S L I;rcases C with⟨E,rfl⟩ | ⟨E,⟨c,rfl⟩ | ⟨kk,c,rfl⟩⟩
 ·go_region_with (go_at_call 21;refine(as_nil _ _).mono ?_;rintro e Q ⟨rfl,rfl⟩)
  all_goals
   try go_wp2
  all_goals
   refine bodyPost_ret (v:=.tuple #[.agg #[.int .i64 k, .int .i64 op, .slice j g.length m, .slice q f.length o], .bool true]) (by simp[results,results5,go_sem,t0,t1,t2,t3]) rfl ?_;exact G W.drew true D.drew E.symm
 ·go_region_with (go_at_call 21;refine(A3l c ⟨d.heap.size+1,0,none⟩ (.int .i64 0) W.drew (Z W.drew (by exact ab.drew)) Y X).mono ?_;rintro e Q ⟨rfl,i,A,rfl⟩;have B:Below W.heap.size W i:=(((Below.refl W.heap.size W).drew).trans A);obtain⟨V,y⟩:∃V,V=i.setCell ⟨d.heap.size+1,0,none⟩ (.int .i64 c):=⟨_,rfl⟩;have s:=HV i (.int .i64 c) B;rw[<-y] at s ⊢;obtain⟨⟨_,⟨q0,q1,q2,q3⟩,_⟩,⟨_,⟨N,F,J,H⟩,ah,ak,ao,ai⟩,t⟩:=s;have K:Hid (Below d.heap.size d V):=t;clear t A B y)
  all_goals
   try go_wp2
  all_goals
   refine bodyPost_ret (v:=.tuple #[.agg #[.int .i64 k, .int .i64 op, .slice j g.length m, .slice q f.length o], .bool false]) (by simp[results,results5,go_sem,N,F,J,H]) rfl ?_;exact G _ false K E.symm
 ·go_region_with (go_at_call 21;refine(A3m kk c ⟨d.heap.size+1,0,none⟩ (.int .i64 0) W.drew (Z W.drew (by exact ab.drew)) Y X).mono ?_;rintro e Q ⟨rfl,i,A,rfl⟩;have B:Below W.heap.size W i:=(((Below.refl W.heap.size W).drew).trans A);obtain⟨V,y⟩:∃V,V=i.setCell ⟨d.heap.size+1,0,none⟩ (.int .i64 c):=⟨_,rfl⟩;have s:=HV i (.int .i64 c) B;rw[<-y] at s ⊢;obtain⟨⟨_,⟨q0,q1,q2,q3⟩,_⟩,⟨_,⟨N,F,J,H⟩,ah,ak,ao,ai⟩,t⟩:=s;have K:Hid (Below d.heap.size d V):=t;clear t A B y)
  all_goals
   try go_wp2
  all_goals
   refine bodyPost_ret (v:=.tuple #[.agg #[.int .i64 k, .int .i64 op, .slice j g.length m, .slice q f.length o], .bool false]) (by simp[results,results5,go_sem,N,F,J,H]) rfl ?_;exact G _ false K E.symm
end Go.Proofs.YtobbpffcggchmaaGreatDoor
