import Derived.Test.YtmnnkedjoecehaaGreatDoorG4
set_option linter.defProp false
set_option maxHeartbeats 4000000
set_option maxRecDepth 100000
namespace Stil
structure Gf where
 code:Int
 one:Elem
def Gf.fits (i:Gf):Prop:=i64 i.code/\i.one.fits
def listWords:List (List UInt8):=[[],[108,100],[97,110,100],[111,114],[97,110,98],[111,114,98],[105,110,118],[109,112,115],[109,114,100],[109,112,112],[99,111,105,108],[101,110,100]]
def nD (e:Elem):Bool:=e.op==0 && e.args.length==0
def Qc (i:Gf):Bool:=if i.code<1\/11<i.code then false else if i.code<=3 then Dw i.one.op i.one.args else if i.code=10 then Gj i.one.op i.one.args else nD i.one
structure Pt where
 bits:Int
 forks:Int
 seen:Bool
 coil:Bool
def pt0:Pt:=⟨0,0,false,false⟩
def needs (c:Int):Int:=if c=1 then 0 else if c=4\/c=5 then 2 else 1
def low (c:Int):Int:=if c=5 then 2 else 1
def wrong (s:Pt)(i:Gf):Int:=
 if Qc i=false then 2
 else if s.bits<needs i.code then 3
 else if i.code=1/\s.bits=16 then 4
 else if 7<=i.code/\1<s.bits then 5
 else if s.seen=true/\s.bits=low i.code/\(i.code=3\/i.code=6\/i.code=5) then 6
 else if i.code=7/\s.forks=8 then 7
 else if(i.code=8\/i.code=9)/\s.forks=0 then 7
 else if i.code=11/\0<s.forks then 7
 else if(i.code=8\/i.code=9\/i.code=11)/\s.coil=false then 8
 else 0
def next (s:Pt)(c:Int):Pt:=
 if c=11 then pt0
 else⟨if c=1 then s.bits+1 else if c=4\/c=5 then s.bits - 1 else s.bits,if c=7 then s.forks+1 else if c=9 then s.forks - 1 else s.forks,s.seen || c==10 || c==7,c==10⟩
def Iy:Pt->Nat->List Gf->Int × Nat
 | s,k,[]=>if 0<s.bits then(9,k) else(0,0)
 | s,k,i::r=>if 0<wrong s i then(wrong s i,k) else Iy (next s i.code) (k+1) r
def Et (l:List Gf):Int × Nat:=if 1000<l.length then(1,0) else Iy pt0 0 l
def qu (l:List Gf)(s:Pt)(j:Nat)(h:j<l.length):Iy s j (l.drop j)=if 0<wrong s l[j] then(wrong s l[j],j) else Iy (next s l[j].code) (j+1) (l.drop (j+1)):=by
 rw[F3 h];rfl
def sJ (l:List Gf)(s:Pt)(j:Nat)(h:l.length<=j):Iy s j (l.drop j)=if 0<s.bits then(9,j) else(0,0):=by
 rw[F4 h];rfl
def Pt.good (s:Pt):Prop:=0<=s.bits/\s.bits<=16/\0<=s.forks/\s.forks<=8/\(s.bits=0->s=pt0)
def S8:pt0.good:=⟨AY,AY,AY,AY,λ_=>rfl⟩
theorem QV {i:Gf}(h:Qc i=true):1<=i.code/\i.code<=11:=by
 unfold Qc at h;split at h
 ·cases h
 ·omega
theorem WY {s:Pt}{i:Gf}(h:wrong s i=0):Qc i=true/\needs i.code<=s.bits/\¬(i.code=1/\s.bits=16)/\¬(7<=i.code/\1<s.bits)/\¬(s.seen=true/\s.bits=low i.code/\(i.code=3\/i.code=6\/i.code=5))/\
  ¬(i.code=7/\s.forks=8)/\¬((i.code=8\/i.code=9)/\s.forks=0)/\¬(i.code=11/\0<s.forks)/\¬((i.code=8\/i.code=9\/i.code=11)/\s.coil=false):=by
 unfold wrong at h;split at h
 ·omega
 rename_i j;split at h
 ·omega
 rename_i k;split at h
 ·omega
 rename_i c;split at h
 ·omega
 rename_i a;split at h
 ·omega
 rename_i g;split at h
 ·omega
 rename_i d;split at h
 ·omega
 rename_i e;split at h
 ·omega
 rename_i f;split at h
 ·omega
 rename_i b;exact⟨by simpa using j,AQ,c,a,g,d,e,f,b⟩
theorem fC {s:Pt}{i:Gf}(g:s.good)(h:wrong s i=0):(next s i.code).good:=by
 obtain⟨n,f,p,t,_,q,r,_,_⟩:=WY h;obtain⟨a,b,c,d,e⟩:=g;have u:=QV n;unfold next
 by_cases k:i.code=11
 ·rw[if_pos k];exact S8
 ·rw[if_neg k]
  unfold needs at f;refine⟨?_,?_,?_,?_,?_⟩
  ·show 0<=(if i.code=1 then s.bits+1 else if i.code=4\/i.code=5 then s.bits - 1 else s.bits)
   split
   ·omega
   ·split<;>omega
  ·show(if i.code=1 then s.bits+1 else if i.code=4\/i.code=5 then s.bits - 1 else s.bits)<=16
   split
   ·omega
   ·split<;>omega
  ·show 0<=(if i.code=7 then s.forks+1 else if i.code=9 then s.forks - 1 else s.forks)
   split
   ·omega
   ·split<;>omega
  ·show(if i.code=7 then s.forks+1 else if i.code=9 then s.forks - 1 else s.forks)<=8
   split
   ·omega
   ·split<;>omega
  ·intro o
   exfalso;have j:(if i.code=1 then s.bits+1 else if i.code=4\/i.code=5 then s.bits - 1 else s.bits)=0:=o;by_cases l:i.code=1
   ·rw[if_pos l] at j;clear f;omega
   ·rw[if_neg l] at j f
    by_cases m:i.code=4\/i.code=5
    ·rw[if_pos m] at j f;omega
    ·rw[if_neg m] at j f;omega
def rule (k:Nat)(s:Pt)(i:Gf):Bool:=
 match k with
 | 0=>!Qc i
 | 1=>decide (s.bits<needs i.code)
 | 2=>decide (i.code=1) && decide (s.bits=16)
 | 3=>if i.code=7\/i.code=8\/i.code=9\/i.code=10\/i.code=11 then decide (1<s.bits) else false
 | 4=>if i.code=3\/i.code=6 then s.seen && decide (s.bits=1) else if i.code=5 then s.seen && decide (s.bits=2) else false
 | 5=>if i.code=7 then decide (s.forks=8) else if i.code=8\/i.code=9 then decide (s.forks=0) else if i.code=11 then decide (s.forks≠0) else false
 | _=>if i.code=8\/i.code=9\/i.code=11 then !s.coil else false
theorem VB {s:Pt}(i:Gf)(_g0:0<=s.bits)(g:0<=s.forks):
  wrong s i=if rule 0 s i then 2 else if rule 1 s i then 3 else if rule 2 s i then 4 else if rule 3 s i then 5 else if rule 4 s i then 6 else if rule 5 s i then 7 else if rule 6 s i then 8 else 0:=by
 cases a:Qc i with
 | true=>
  have c:=QV a;have b:i.code=1\/i.code=2\/i.code=3\/i.code=4\/i.code=5\/i.code=6\/i.code=7\/i.code=8\/i.code=9\/i.code=10\/i.code=11:=AQ
  rcases b with h | h | h | h | h | h | h | h | h | h | h
  all_goals simp[wrong,rule,needs,low,a,h]
  all_goals grind
 | false=>simp[wrong,rule,a]
def behind (s:Pt)(c:Int):Pt:=⟨if c=1 then s.bits+1 else if c=4\/c=5\/c=11 then s.bits - 1 else s.bits,if c=7 then s.forks+1 else if c=9 then s.forks - 1 else s.forks,decide (c≠11) && (s.seen || c==10 || c==7),c==10⟩
theorem behind_next {s:Pt}{i:Gf}(g:s.good)(h:wrong s i=0):behind s i.code=next s i.code:=by
 obtain⟨l,m,_,o,_,_,_,q,_⟩:=WY h;obtain⟨a,b,c,d,e⟩:=g;have n:=QV l;unfold next behind
 by_cases f:i.code=11
 ·rw[if_pos f]
  have j:s.bits=1:=by
   have:needs i.code=1:=by rw[f];rfl
   omega
  have k:s.forks=0:=AQ
  simp[f,j,k,pt0]
 ·rw[if_neg f]
  simp[f]
def e8 {s:Pt}(g:s.good):(s=pt0)↔s.bits<=0:=by
 constructor
 ·rintro rfl;decide
 ·intro h;exact g.2.2.2.2 (by have:=g.1;omega)
theorem tc {s:Pt}{i:Gf}(g:s.good)(k:Nat)(d:k<7)(a:∀q,q<k->rule q s i=false)(b:rule k s i=true):wrong s i=(k+2:Nat):=by
 rw[VB i g.1 g.2.2.1];have c:k=0\/k=1\/k=2\/k=3\/k=4\/k=5\/k=6:=AQ
 rcases c with rfl | rfl | rfl | rfl | rfl | rfl | rfl
 ·simp[b]
 ·simp[a 0 AQ,b]
 ·simp[a 0 AQ,a 1 AQ,b]
 ·simp[a 0 AQ,a 1 AQ,a 2 AQ,b]
 ·simp[a 0 AQ,a 1 AQ,a 2 AQ,a 3 AQ,b]
 ·simp[a 0 AQ,a 1 AQ,a 2 AQ,a 3 AQ,a 4 AQ,b]
 ·simp[a 0 AQ,a 1 AQ,a 2 AQ,a 3 AQ,a 4 AQ,a 5 AQ,b]
def wV {s:Pt}{i:Gf}(g:s.good)(a:∀q,q<7->rule q s i=false):wrong s i=0:=by
 rw[VB i g.1 g.2.2.1];simp[a 0 AQ,a 1 AQ,a 2 AQ,a 3 AQ,a 4 AQ,a 5 AQ,a 6 AQ]
theorem qq (l:List Gf):∀(s:Pt) (k:Nat),¬0<(Iy s k l).1->(Iy s k l).1=0/\(Iy s k l).2=0:=by
 induction l with
 | nil=>
  intro s k h;unfold Iy at h ⊢;by_cases a:0<s.bits
  ·rw[if_pos a] at h;exact absurd (show(0:Int)<9 by decide) h
  ·rw[if_neg a];exact⟨rfl,rfl⟩
 | cons i r b=>
  intro s k h;unfold Iy at h ⊢;by_cases a:0<wrong s i
  ·rw[if_pos a] at h;exact absurd a h
  ·rw[if_neg a] at h ⊢;exact b _ _ h
theorem Vk (l:List Gf)(h:¬0<(Et l).1):(Et l).1=0/\(Et l).2=0:=by
 unfold Et at h ⊢;by_cases a:1000<l.length
 ·rw[if_pos a] at h;exact absurd (show(0:Int)<1 by decide) h
 ·rw[if_neg a] at h ⊢;exact qq l _ _ h
def Eh:List Gf->List Gf->List (List Gf)
 | _,[]=>[]
 | cs,i::r=>if i.code=11 then(cs++[i])::Eh [] r else Eh (cs++[i]) r
def pT (cs l:List Gf)(j:Nat)(h:j<l.length):Eh cs (l.drop j)=if l[j].code=11 then(cs++[l[j]])::Eh [] (l.drop (j+1)) else Eh (cs++[l[j]]) (l.drop (j+1)):=by
 rw[F3 h];rfl
def L6 (l:List Gf):List (List Gf):=if 0<(Et l).1 then [] else Eh [] l
theorem qz {l:List Gf}(h:(Et l).1=0):l.length<=1000:=by
 unfold Et at h;by_cases a:1000<l.length
 ·rw[if_pos a] at h;exact absurd h AY
 ·omega
theorem Xg (l:List Gf):∀(b r:List Gf),r∈Eh b l->0<r.length/\(∀x∈r,x∈b\/x∈l)/\r.length<=b.length+l.length:=by
 induction l with
 | nil=>intro b r h;simp[Eh] at h
 | cons i t f=>
  intro b r h;rw[Eh] at h;by_cases g:i.code=11
  ·rw[if_pos g] at h
   rcases List.mem_cons.1 h with rfl | h
   ·refine⟨AU,λx a=>?_,AU⟩
    rcases List.mem_append.1 a with a | a
    ·exact .inl a
    ·exact .inr (by simp[List.mem_singleton.1 a])
   ·obtain⟨e,d,c⟩:=f [] r h
    refine⟨e,λx a=>?_,by simp at c ⊢;omega⟩;rcases d x a with h | h
    ·cases h
    ·exact .inr (CN _ h)
  ·rw[if_neg g] at h
   obtain⟨e,d,c⟩:=f (b++[i]) r h;refine⟨e,λx a=>?_,by simp at c ⊢;omega⟩;rcases d x a with h | h
   ·rcases List.mem_append.1 h with h | h
    ·exact .inl h
    ·exact .inr (by simp[List.mem_singleton.1 h])
   ·exact .inr (CN _ h)
theorem rI (l:List Gf):∀a:List Gf,(Eh a l).length<=l.length:=by
 induction l with
 | nil=>intro a;simp[Eh]
 | cons i t b=>
  intro a;rw[Eh];split
  ·have:=b [];simp;omega
  ·have:=b (a++[i]);simp;omega
end Stil
namespace Go.Proofs.YtmnnkedjoecehaaGreatDoor
open Tryz Go.RowKit Go.Sort Go.BigFrame
variable {v:Value}{w':World}
def KA (w:World)(b o:Nat)(i:Stil.Gf):Prop:=w.cell? ⟨b,o,none⟩=some (AB i.code)/\w.cell? ⟨b,o+1,none⟩=some (AB i.one.op)/\∃a,w.cell? ⟨b,o+2,none⟩=some a/\Dj w a i.one.args
def H8 (w:World)(v:Value)(l:List Stil.Gf):Prop:=∃a cap,v=AE a l.length cap/\∀i (h:i<l.length),∃b o,a=some ⟨b,o,none⟩/\b<w.heap.size/\KA w b (o+i*3) l[i]
def KA.below {w:World}{b o:Nat}{i:Stil.Gf}(h:KA w b o i)(a:AO w w')(c:b<w.heap.size):KA w' b o i:=by
 obtain⟨j,e,f,d,g⟩:=h;exact⟨by rw[a.cell (p:=(AK b o)) c];exact j,by rw[a.cell (p:=(AK b (o+1))) c];exact e,f,by rw[a.cell (p:=(AK b (o+2))) c];exact d,g.below a⟩
def H8.below {w:World}{l:List Stil.Gf}(h:H8 w v l)(c:AO w w'):H8 w' v l:=by
 obtain⟨a,cap,f,j⟩:=h;refine⟨a,cap,f,λi hi=>?_⟩;obtain⟨b,o,g,d,e⟩:=j i hi;exact⟨b,o,g,CB d c.size,e.below c d⟩
def eN (lo:Nat)(w:World)(b o:Nat)(i:Stil.Gf):Prop:=w.cell? ⟨b,o,none⟩=some (AB i.code)/\w.cell? ⟨b,o+1,none⟩=some (AB i.one.op)/\∃a,w.cell? ⟨b,o+2,none⟩=some a/\Kr lo w a i.one.args
def Zc (lo:Nat)(w:World)(v:Value)(l:List Stil.Gf):Prop:=∃a cap,v=AE a l.length cap/\∀i (h:i<l.length),∃b o,a=some ⟨b,o,none⟩/\lo<=b/\b<w.heap.size/\eN lo w b (o+i*3) l[i]
def Zc.at {lo:Nat}{w:World}{l:List Stil.Gf}(h:Zc lo w v l):H8 w v l:=by
 obtain⟨a,cap,c,j⟩:=h;refine⟨a,cap,c,λi hi=>?_⟩;obtain⟨b,o,m,p,d,g,e,f,k,n⟩:=j i hi;exact⟨b,o,m,d,g,e,f,k,n.at⟩
def GM (w:World)(b:Nat)(s:Stil.Pt):Prop:=b<w.heap.size/\w.cell? ⟨b,0,none⟩=some (AB s.bits)/\w.cell? ⟨b,1,none⟩=some (AB s.forks)/\w.cell? ⟨b,2,none⟩=some (.bool s.seen)/\w.cell? ⟨b,3,none⟩=some (.bool s.coil)/\
 w.frozen? ⟨b,0,none⟩=false/\w.frozen? ⟨b,1,none⟩=false/\w.frozen? ⟨b,2,none⟩=false/\w.frozen? ⟨b,3,none⟩=false
def GM.below {w:World}{b:Nat}{s:Stil.Pt}(h:GM w b s)(a:AO w w'):GM w' b s:=by
 obtain⟨c,l,f,d,k,g,i,j,e⟩:=h
 exact⟨CB c a.size,(a.cell (p:=(AK b 0)) c).trans l,(a.cell (p:=(AK b 1)) c).trans f,(a.cell (p:=(AK b 2)) c).trans d,(a.cell (p:=(AK b 3)) c).trans k,
  (a.frozen (p:=(AK b 0)) c).trans g,(a.frozen (p:=(AK b 1)) c).trans i,(a.frozen (p:=(AK b 2)) c).trans j,(a.frozen (p:=(AK b 3)) c).trans e⟩
theorem Rn {W:World}{p q:Addr}:(W.setCell p v).frozen? q=W.frozen? q:=by simp[go_sem]
theorem GM.stored {w:World}{b:Nat}{s:Stil.Pt}(h:GM w b s)(t:Stil.Pt):GM ((((w.setCell (AK b 0) (AB t.bits)).setCell (AK b 1) (AB t.forks)).setCell (AK b 2) (.bool t.seen)).setCell (AK b 3) (.bool t.coil)) b t:=by
 obtain⟨f,e,c,a,d,i,j,k,g⟩:=h;refine⟨?_,?_,?_,?_,?_,?_,?_,?_,?_⟩
 ·exact CB f (CM (Iz _ _ _) (CM (Iz _ _ _) (CM (Iz _ _ _) (Iz _ _ _))))
 ·exact(A8 AQ).trans ((A8 AQ).trans ((A8 AQ).trans (Fb e)))
 ·exact(A8 AQ).trans ((A8 AQ).trans (Fb ((A8 AQ).trans c)))
 ·exact(A8 AQ).trans (Fb ((A8 AQ).trans ((A8 AQ).trans a)))
 ·exact Fb ((A8 AQ).trans ((A8 AQ).trans ((A8 AQ).trans d)))
 all_goals exact Rn.trans (Rn.trans (Rn.trans (Rn.trans BB)))
def LN:(prog.info? 48).map (λi=>(i.zero,i.size,i.bytes))=some (some (.agg #[AB 0,AB 0,AG]),3,40):=AX
theorem Avg (b f:Int)(c:Int)(w:World)(l:-1000<=b)(m:b<=1000)(g:-1000<=f)(k:f<=1000):
  Calls prog 116 #[.agg #[AB b,AB f],AB c] w (AN w (.agg #[AB (if c=1 then b+1 else if c=4\/c=5\/c=11 then b - 1 else b),AB (if c=7 then f+1 else if c=9 then f - 1 else f)])):=by
 have q:IntKind.i64.wrap (b+1)=b+1:=by rw[IntKind.wrap_i64];omega
 have o:IntKind.i64.wrap (b - 1)=b - 1:=by rw[IntKind.wrap_i64];omega
 have r:IntKind.i64.wrap (f+1)=f+1:=by rw[IntKind.wrap_i64];omega
 have p:IntKind.i64.wrap (f - 1)=f - 1:=by rw[IntKind.wrap_i64];omega
 obtain⟨x,a⟩:∃x:Int,x=if c=1 then b+1 else if c=4\/c=5\/c=11 then b - 1 else b:=⟨_,rfl⟩
 obtain⟨y,d⟩:∃y:Int,y=if c=7 then f+1 else if c=9 then f - 1 else f:=⟨_,rfl⟩
 have j:Hid (x=if c=1 then b+1 else if c=4\/c=5\/c=11 then b - 1 else b):=a;have i:Hid (y=if c=7 then f+1 else if c=9 then f - 1 else f):=d;rw[<-a,<-d];clear a d l m g k;go_enter func116,ntmps116
 go_wp2
 all_goals refine bodyPost_ret (by simp[results,results116,go_sem];rfl) rfl ⟨?_,AW⟩
 all_goals (rw[j.out,i.out];go_light;(try simp only[ED,CS] at*);simp[*])
end Go.Proofs.YtmnnkedjoecehaaGreatDoor
namespace Go.Proofs.YtmnnkedjoecehaaGreatDoor
open Tryz Go.RowKit Go.Sort Go.BigFrame
def Ii (w:World):Prop:=1<w.heap.size/\∀k:Nat,k<12->w.cell? ⟨1,k,none⟩=some (.string ⟨(Stil.listWords.getD k []).toArray⟩)
def Ii.below {w w':World}(h:Ii w)(a:AO w w'):Ii w':=
 ⟨CB h.1 a.size,λk b=>by rw[a.cell (p:=(AK 1 k)) h.1];exact h.2 k b⟩
theorem qb (c:Int)(w:World)(h:c<0\/12<=c):
  Calls prog 150 #[AB c] w λe w'=>e=.returned (.string ⟨#[]⟩)/\w'=w:=by
 go_enter func150,ntmps150
 go_wp2
 all_goals first | (exfalso;omega) | (go_ret;exact⟨rfl,rfl⟩)
theorem Avl (k:Nat)(w:World)(b:Ii w)(h:k<12):
  Calls prog 150 #[AB k] w λe w'=>e=.returned (.string ⟨(Stil.listWords.getD k []).toArray⟩)/\w'=w:=by
 have c:=b.2 k h;obtain⟨s,a⟩:∃s:ByteArray,s=⟨(Stil.listWords.getD k []).toArray⟩:=⟨_,rfl⟩
 rw[<-a] at c ⊢;clear a b;go_enter func150,ntmps150
 go_wp2
 go_ret;exact⟨rfl,rfl⟩
def YK:(prog.info? 46).map (λi=>(i.zero,i.size,i.bytes))=some (some (.agg #[AB 0,AG]),2,32):=AX
def P4:(prog.info? 59).map (λi=>(i.zero,i.size,i.bytes))=some (some (.agg #[AB 0,AB 0,AG,AG]),4,64):=AX
def eD:(prog.info? 62).map (λi=>(i.zero,i.size,i.bytes))=some (some (.agg #[AB 0,AB 0,AG,AG,AG,AG]),6,112):=AX
def Azq:(prog.info? 48).map (λi=>(i.zero,i.size,i.bytes))=some (some (.agg #[AB 0,AB 0,AG]),3,40):=AX
open Go.ChangeShapes Go.WideShapes Go.ChangeAt
def R2:prog.globalNamed "loop.example/stilway/impl.listWords" =some 1:=AX
def uh:(prog.globals[1]?).map (·.type)=some 189:=AX
theorem qB {W:World}{l:List (String × DataW Unit)}(h:laidMet prog l W)(y:("loop.example/stilway/impl.listWords",DataW.agg (Stil.listWords.map λx=>DataW.lit (Lit.string x)))∈l):Ii W:=by
 obtain⟨I,n,_,_⟩:=h;obtain⟨g,t,F,fuel,p,q,o,w,z⟩:=QZ n y;obtain rfl:=DG (R2.symm.trans q);obtain rfl:=DG (uh.symm.trans o);have D:=λj=>World.var?_cell R2 w j
 obtain⟨a,m,_,A,G,n,r⟩:=DataW.trod_array underlying189 z;have E:(Stil.listWords.map λx=>DataW.lit (H:=Unit) (Lit.string x))=a.map (·.1):=DataW.agg.inj (IW A).1;have i:∀k:Nat,k<12->W.cell? (AK 1 k)=some (.string ⟨(Stil.listWords.getD k []).toArray⟩):=by
  intro k c;have e:k<a.length:=AQ
  have f:=r k c;rw[SB,DW e,Nat.mul_one] at f;obtain⟨s,C,B,_⟩:=DataW.trod_string underlying9 f;have d:k<Stil.listWords.length:=c;have b:a[k].1=.lit (.string (Stil.listWords.getD k [])):=by
   have:=congrArg (λl=>l[k]?) E
   simp only[JS,DW e,IX] at this;rw[DW d] at this;rw[<-DG this,List.getD,DW d];rfl
  rw[B] at b;simp only[DataW.lit.injEq,Lit.string.injEq] at b;have u:s=⟨(Stil.listWords.getD k []).toArray⟩:=eG (by rw[b]);rw[D,<-u];have:=congrArg (λl=>l[0]?) C
  simpa[G0,G1] using this
 exact⟨lt_of_cell (i 0 AQ),i⟩
abbrev Pl:=Nat × Nat
def ad (p:Pl):Addr:=⟨p.1,p.2,none⟩
def Vh (w:World)(a:List Pl):Prop:=∀p∈a,p.1<w.heap.size/\(∃n,w.cell? (ad p)=some (AB n))/\w.frozen? (ad p)=false
def JI (v:Value)(c:List Pl):Prop:=∃a n cap,v=AE a n cap/\c.length=3*n/\∀j (h:j<c.length),∃b o,a=some ⟨b,o,none⟩/\c[j]=(b,o+j)
def Jz (b:Nat):Nat->List (List Pl)->List Pl
 | _,[]=>[]
 | o,q::r=>(b,o)::(b,o+1)::(q++Jz b (o+3) r)
def Jx (w:World)(v:Value)(b o:Nat)(qs:List (List Pl)):Prop:=(∃a cap,v=AE a qs.length cap/\(0<qs.length->a=some ⟨b,o,none⟩))/\
 ∀i (h:i<qs.length),b<w.heap.size/\(b,o+i*3+2)∉Jz b o qs/\∃c,w.cell? ⟨b,o+i*3+2,none⟩=some c/\JI c qs[i]
abbrev Rw:=Nat × Nat × List (List Pl)
def FI (r:Rw):List Pl:=Jz r.1 r.2.1 r.2.2
def N9 (rs:List Rw):List Pl:=rs.flatMap FI
def Ss (w:World)(v:Value)(B O:Nat)(rs:List Rw):Prop:=(∃a cap,v=AE a rs.length cap/\(0<rs.length->a=some ⟨B,O,none⟩))/\
 ∀i (h:i<rs.length),B<w.heap.size/\(B,O+i)∉N9 rs/\(∀j,j<rs[i].2.2.length->(rs[i].1,rs[i].2.1+j*3+2)∉N9 rs)/\∃b,w.cell? ⟨B,O+i,none⟩=some b/\Jx w b rs[i].1 rs[i].2.1 rs[i].2.2
def iv (w:World)(v:Value)(l:List (List Stil.Gf)):Prop:=∃a cap,v=AE a l.length cap/\∀i (h:i<l.length),∃b o,a=some ⟨b,o,none⟩/\b<w.heap.size/\∃c,w.cell? ⟨b,o+i,none⟩=some c/\H8 w c l[i]
def JA (g n:Nat):List Pl:=(List.range (3*n)).map λj=>(g,j)
def WH (g n:Nat):(JA g n).length=3*n:=by simp[JA]
def WG {g n:Nat}{p:Pl}(h:p∈JA g n):p.1=g/\p.2<3*n:=by
 obtain⟨j,a,rfl⟩:=List.mem_map.1 h;exact⟨rfl,List.mem_range.1 a⟩
def rW (g n:Nat):(JA g n).Nodup:=by
 unfold JA;refine List.pairwise_map.2 (List.Pairwise.imp ?_ List.nodup_range);intro a b h e;exact h (IW e).2
theorem VK {w:World}{base:Nat}{u:Value}{c:List Stil.CC}(h:w.ownsRow base 111 3 u c.length (Ar c)):
  ∃f:List Pl,JI u f/\Vh w f/\f.Nodup/\(∀p∈f,base<=p.1/\u.ownBlock=some p.1)/\f.length=3*c.length:=by
 by_cases hd:c.length=0
 ·have m:=List.length_eq_zero_iff.1 hd
  subst m;obtain⟨a,cap,rfl⟩:=Af h;exact⟨[],⟨a,0,cap,rfl,rfl,λj l=>absurd l AU⟩,(λp d=>by cases d),M9,(λp d=>by cases d),rfl⟩
 ·obtain⟨g,cap,s,o,q,_,k⟩:=Bg h AQ
  subst s;refine⟨JA g c.length,⟨_,_,_,rfl,WH _ _,λj l=>⟨g,0,rfl,by simp[JA]⟩⟩,λp d=>?_,rW _ _,λp d=>?_,WH _ _⟩
  ·obtain⟨i,n⟩:=WG d
   obtain⟨b,j⟩:=p;simp only at i n;subst i;refine⟨q,?_,h.frozenAt _⟩;have hi:j / 3<c.length:=AQ
   obtain⟨y,r,x⟩:=Nw c (j / 3) hi;have t:j=j / 3*3\/j=j / 3*3+1\/j=j / 3*3+2:=AQ
   rcases t with e | e | e
   ·exact⟨_,by rw[ad,e];exact k _ _ y⟩
   ·exact⟨_,by rw[ad,e];exact k _ _ r⟩
   ·exact⟨_,by rw[ad,e];exact k _ _ x⟩
  ·obtain⟨i,_⟩:=WG d
   rw[i];exact⟨o,rfl⟩
theorem Ue (b:Nat):∀(c:List (List Pl)) (o:Nat) (p:Pl),p∈Jz b o c->(∃i,i<c.length/\(p=(b,o+i*3)\/p=(b,o+i*3+1)))\/∃q∈c,p∈q
 | [],_,p,h=>by simp[Jz] at h
 | q::r,o,p,h=>by
  rw[Jz] at h;simp only[C7,EN] at h;rcases h with h | h | h | h
  ·exact .inl ⟨0,AU, .inl BV⟩
  ·exact .inl ⟨0,AU, .inr BV⟩
  ·exact .inr ⟨q,AU,h⟩
  ·rcases Ue b r (o+3) p h with⟨i,hi,a⟩ | ⟨f,d,a⟩
   ·refine .inl ⟨i+1,by simp;omega,?_⟩
    have e:o+3+i*3=o+(i+1)*3:=AQ
    rwa [e] at a
   ·exact .inr ⟨f,CN _ d,a⟩
def zz0 {p:Prop}(h:p:=by
 subst hp
 refine⟨λe=>?_,λe=>?_,λe=>hq2 _ e rfl⟩
 ·have:=(IW e).2;omega
 ·have:=(IW e).2;omega):p:=h
theorem UK (b:Nat):∀(f:List (List Pl)) (o:Nat),(∀q∈f,q.Nodup/\∀p∈q,p.1≠b)->f.Pairwise (λq r=>∀p∈q,p∉r)->(Jz b o f).Nodup
 | [],_,_,_=>M9
 | q::r,o,g,l=>by
  have n:=UK b r (o+3) (λx d=>g x (CN _ d)) (List.pairwise_cons.1 l).2;obtain⟨t,hq2⟩:=g q AU;have j:∀p∈Jz b (o+3) r,p≠(b,o)/\p≠(b,o+1)/\p∉q:=by
   intro p hp;rcases Ue b r (o+3) p hp with⟨i,_,hp | hp⟩ | ⟨x,d,hp⟩
   ·exact zz0
   ·exact zz0
   ·have k:=(g x (CN _ d)).2 p hp
    exact⟨λe=>k (by rw[e]),λe=>k (by rw[e]),λe=>(List.pairwise_cons.1 l).1 x d p e hp⟩
  rw[Jz,List.nodup_cons,List.nodup_cons,A93];refine⟨?_,?_,t,n,λa m c s e=>(j c s).2.2 (e ▸ m)⟩
  ·simp only[C7,EN,not_or]
   exact⟨λe=>by have:=(IW e).2;omega,λe=>hq2 _ e rfl,λe=>(j _ e).1 rfl⟩
  ·simp only[EN,not_or]
   exact⟨λe=>hq2 _ e rfl,λe=>(j _ e).2.1 rfl⟩
theorem vR {b o i:Nat}{qs:List (List Pl)}(h:∀q∈qs,∀p∈q,p.1≠b):(b,o+i*3+2)∉Jz b o qs:=by
 intro c;rcases Ue b qs o _ c with⟨j,_,a | a⟩ | ⟨q,d,a⟩
 ·have:=(IW a).2;omega
 ·have:=(IW a).2;omega
 ·exact h q d _ a rfl
theorem VW {w:World}{b cap:Nat}{l:List Stil.Gf}{qs:List (List Pl)}(c:b<w.heap.size)(hl:qs.length=l.length)
  (h:∀i (h:i<l.length),w.cell? (AK b (i*3))=some (AB l[i].code)/\w.cell? (AK b (i*3+1))=some (AB l[i].one.op)/\∃u,w.cell? (AK b (i*3+2))=some u/\JI u (qs[i]'AQ)/\Dj w u l[i].one.args)
  (j:∀o,w.frozen? (AK b o)=false) (d:∀q∈qs,Vh w q/\q.Nodup/\∀p∈q,p.1≠b) (hd:qs.Pairwise (λq r=>∀p∈q,p∉r)):
  Jx w (AE (some (AK b 0)) l.length cap) b 0 qs/\Vh w (Jz b 0 qs)/\(Jz b 0 qs).Nodup/\H8 w (AE (some (AK b 0)) l.length cap) l:=by
 refine⟨⟨⟨_,cap,by rw[hl],λ_=>rfl⟩,λi hi=>?_⟩,λp a=>?_,UK b qs 0 (λq h=>⟨(d q h).2.1,(d q h).2.2⟩) hd,⟨_,cap,rfl,λi hi=>?_⟩⟩
 ·obtain⟨_,_,u,g,n,_⟩:=h i AQ
  exact⟨c,vR (λq h=>(d q h).2.2),u,by rw[CV];exact g,n⟩
 ·rcases Ue b qs 0 p a with⟨i,hi,a | a⟩ | ⟨q,m,a⟩
  ·subst a
   obtain⟨f,_⟩:=h i AQ;exact⟨c,⟨_,by rw[ad];simp only[CV];exact f⟩,j _⟩
  ·subst a
   obtain⟨_,e,_⟩:=h i AQ;exact⟨c,⟨_,by rw[ad];simp only[CV];exact e⟩,j _⟩
  ·exact(d q m).1 p a
 ·obtain⟨f,e,u,g,_,k⟩:=h i hi
  exact⟨b,0,rfl,c,by rw[CV];exact f,by rw[CV];exact e,u,by rw[CV];exact g,k⟩
theorem TV (b:Nat):∀(a:List (List Pl)) (o:Nat),(Jz b o a).length=(a.map λq=>2+q.length).sum
 | [],_=>rfl
 | q::r,o=>by
  have c:=TV b r (o+3);simp only[Jz,CH,CO,CQ,DO,c];omega
