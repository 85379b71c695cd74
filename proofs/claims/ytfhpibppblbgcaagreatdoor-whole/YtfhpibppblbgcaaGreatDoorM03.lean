import Derived.Test.YtfhpibppblbgcaaGreatDoorM00
import Derived.Test.YtfhpibppblbgcaaGreatDoorM01
import Derived.Lib.Split
import Derived.Lib.ItoaNum
import Derived.WalkSpells
import Derived.WalkLawsBesides
set_option linter.all false
set_option maxRecDepth 100000
set_option maxHeartbeats 40000000
namespace Go.Proofs.YtfhpibppblbgcaaGreatDoor
open Go.Proofs.Tryz
variable{B n k a b:Nat}{w:World}{v:Value}{xs:List Int}
namespace Fl
structure ar where
 kind:Int
 ag:Int
 a:Int
 b:Int
 c:Int
 aU:List Int
def aO(k:Int):Int:=
 if k=0\/k=1 then 1 else if k=3\/k=4\/k=6 then 2 else if k=2\/k=5 then 3 else if k=7 then -1 else -2
def fW(c:UInt8):Bool:=97<=c && c<=122
def dV(c:UInt8):Bool:=48<=c && c<=57
def dk(l:List UInt8):Bool:=l.all fW && (decide (0<l.length) && decide (l.length<=6))
def val(l:List UInt8):Nat:=l.foldl (λv c=>10*v+(c.toNat - 48)) 0
def eR(l:List UInt8)(most:Nat):Bool:=decide (0<l.length) && (decide (l.length<=most) && (l.headD 0 !=48||decide (l.length=1)))
def bZ(l:List UInt8)(most:Nat):Nat×Bool:=if l.all dV then(val (l.take most),eR l most) else(0,false)
def bp(i:Nat)(w:List UInt8):List (List UInt8)->Int
 |[]=> -1
 |x::r=>if x==w then(i:Int) else bp (i+1) w r
def ai(l:List (List UInt8))(w:List UInt8):Int:=bp 0 w l
def atom(l:List UInt8):Bool:=dk l||(bZ l 9).2
def cH:List (List UInt8):=[[43],[45],[42],[60],[61,61]]
def cT:List UInt8:=[108,101,118,101,108]
def bM:List UInt8:=[98,101,108,111,119]
def cN:List UInt8:=[99,101,108,108]
def bu:List UInt8:=[99,104,97,110,110,101,108]
def cC:List UInt8:=[98,101,103,105,110]
def dL:List UInt8:=[101,108,115,101]
def gy:List UInt8:=[101,110,100]
def iP:List UInt8:=[105,102]
def eZ:List UInt8:=[119,104,105,108,101]
def eD:List UInt8:=[111,117,116]
def eM:List UInt8:=[115,101,116]
def aq:List (List UInt8)->Bool
 |[a]=>a==cC||a==dL||a==gy
 |[a,b]=>(a==cT && dk b)||((a==iP||a==eZ) && atom b)
 |[a,b,c]=>((a==bM||a==cN||a==bu) && dk b && dk c)||((a==eD||a==eM) && dk b && atom c)
 |[a,b,c,d,e]=>a==eM && dk b && atom c && decide (0<=ai cH d) && atom e
 |_=>false
def iO(w:List UInt8)(l:List (List UInt8)):∀(i k:Nat),(∀j,j<k->(l.getD j []==w)=false)->k<l.length->(l.getD k []==w)=true->bp i w l=((i+k:Nat):Int):=by
 induction l with
 |nil=>intro i k _ h;simp at h
 |cons x r ih=>
  intro i k hn hk hw
  match k with
  |0=>simp only[List.getD_cons_zero]at hw;simp[bp,hw]
  |k+1=>
   have h0:=hn 0 (by omega);simp only[List.getD_cons_zero]at h0;simp only[bp,h0];rw[if_neg (by simp),ih (i+1) k (λj hj=>by simpa using hn (j+1) (by omega)) (by simpa using hk) (by simpa using hw)];omega
def iy(w:List UInt8)(l:List (List UInt8)):∀(i:Nat),(∀j,j<l.length->(l.getD j []==w)=false)->bp i w l= -1:=by
 induction l with
 |nil=>intro i _;rfl
 |cons x r ih=>
  intro i hn;have h0:=hn 0 (by simp);simp only[List.getD_cons_zero]at h0;simp only[bp,h0];rw[if_neg (by simp),ih (i+1) (λj hj=>by simpa using hn (j+1) (by simpa using hj))]
def kL(w:List UInt8)(l:List (List UInt8))(k:Nat)(h:∀j,j<k->(l.getD j []==w)=false)(hk:k<l.length)(hw:(l.getD k []==w)=true):ai l w=(k:Int):=by
 have:=iO w l 0 k h hk hw;simpa [ai] using this
def iz(w:List UInt8)(l:List (List UInt8))(h:∀j,j<l.length->(l.getD j []==w)=false):ai l w= -1:=iy w l 0 h
def lW(l:List UInt8)(c:UInt8):val (l++[c])=10*val l+(c.toNat - 48):=by
 simp[val,List.foldl_append]
def lV(l:List UInt8):∀v,l.all dV=true->l.foldl (λv c=>10*v+(c.toNat - 48)) v<(v+1)*10 ^ l.length:=by
 induction l with
 |nil=>intro v _;simp
 |cons c l ih=>
  intro v h;rw[List.all_cons,Bool.and_eq_true]at h;have h2:c.toNat - 48<10:=by
   have:=h.1;simp[dV,UInt8.le_iff_toNat_le]at this;omega
  have h1:=ih (10*v+(c.toNat - 48)) h.2;rw[List.foldl_cons,List.length_cons,Nat.pow_succ];refine Qj h1 ?_;rw[Nat.mul_comm (10 ^ l.length) 10,<-Nat.mul_assoc];exact Nat.mul_le_mul_right _ (by omega)
def nY(l:List UInt8)(h:l.all dV=true):val l<10 ^ l.length:=by
 have:=lV l 0 h;simpa [val] using this
def nX(l:List UInt8)(m:Nat)(h:l.all dV=true)(hm:l.length<=m)(a0:m<=10):val l<10000000000:=by
 have h1:=nY l h;have h2:10 ^ l.length<=10 ^ 10:=Nat.pow_le_pow_right (by omega) (by omega);omega
end Fl
open Go.RowKit
def Zv(B:Nat)(w:World)(v:Value)(xs:List Int):Prop:=
 ∃ao cap,v=.slice ao xs.length cap/\xs.length<=cap/\xs.length<=maxLen/\
  (xs≠[]->∃b off,ao=some (Aq b off)/\b<B/\∀i,i<xs.length->w.cell? (Aq b (off+i))=some (Iq (xs.getD i 0)))
def Zv.below{w':World}(h:Zv B w v xs)(hb:Below B w w'):Zv B w' v xs:=by
 obtain⟨ao,cap,hv,hc,hl,hx⟩:=h;refine⟨ao,cap,hv,hc,hl,λc0=>?_⟩;obtain⟨b,off,ha,b0,a0⟩:=hx c0;exact⟨b,off,ha,b0,λi hi=>(hb.cell (p:=(Aq b (off+i))) b0).trans (a0 i hi)⟩
def Zv.mono{B':Nat}(h:Zv B w v xs)(hB:B<=B'):Zv B' w v xs:=by
 obtain⟨ao,cap,hv,hc,hl,hx⟩:=h;refine⟨ao,cap,hv,hc,hl,λb0=>?_⟩;obtain⟨b,off,ha,c0,a0⟩:=hx b0;exact⟨b,off,ha,by omega,a0⟩
def Zv.nil(B:Nat)(w:World):Zv B w Zq []:=⟨none,0,rfl,by simp,by simp[maxLen],λh=>absurd rfl h⟩
def Zv.size{B:Nat}{w:World}{v:Value}{xs:List Int}(h:Zv B w v xs):Zv w.heap.size w v xs:=by
 obtain⟨ao,cap,hv,hc,hl,hx⟩:=h;refine⟨ao,cap,hv,hc,hl,λb0=>?_⟩;obtain⟨b,off,ha,c0,a0⟩:=hx b0;have:0<xs.length:=List.length_pos_iff.2 b0;exact⟨b,off,ha,Qe w _ (a0 0 this),a0⟩
def Zv.dE{base:Nat}{e:TypeId}(h:w.ownsRow base e 1 v n (xs.map (Value.int .i64))):Zv w.heap.size w v xs:=by
 have hl:xs.length=n:=by have:=h.1;simpa using this
 rcases h.2 with⟨rfl,h0⟩|⟨g,cap,cur,rfl,hb,hg,a0,b0,c0,ht⟩
 ·have:xs=[]:=Qi (by omega)
  subst this;exact Zv.nil _ _
 refine⟨_,cap,by rw[hl],by omega,by omega,λd0=>⟨g,0,rfl,(Array.getElem?_eq_some_iff.1 hg).1,λi hi=>?_⟩⟩;have h1:=h.cells (g:=g) rfl i (Iq (xs.getD i 0)) (by simp[Qa,hi])
 have h2:((Aq g 0):Addr).add i=(Aq g (0+i)):=by unfold Addr.add;split<;>simp_all
 rw[h2]at h1;exact h1
def Zv.fresh(xs:List Int)(e:TypeId)(hl:xs.length<=maxLen)(B:Nat)(hB:w.heap.size<B):Zv B (w.alloc (.cells (xs.map (Value.int .i64)).toArray e)) (.slice (some (Aq w.heap.size 0)) xs.length xs.length) xs:=by
 refine⟨_,_,rfl,Nat.le_refl _,hl,λ_=>⟨_,_,rfl,hB,λi hi=>?_⟩⟩;rw[World.cell?_alloc_new];simp[Qa,hi]
def Zv.om(w:World)(o:Obj)(xs:List Int)(arr:Array Value)(e:TypeId)(n:Nat)(a0:arr=(xs.map (Value.int .i64)).toArray)(hn:n=xs.length)(hl:xs.length<=maxLen):
  Zv ((w.alloc o).alloc (.cells arr e)).heap.size ((w.alloc o).alloc (.cells arr e)) (.slice (some (Aq (w.heap.size+1) 0)) n n) xs:=by
 subst a0 hn;have:=Zv.fresh (w:=w.alloc o) xs e hl ((w.alloc o).alloc (.cells (xs.map (Value.int .i64)).toArray e)).heap.size (by simp)
 rwa [World.size_alloc w o]at this
def prem(n:Fl.ar):List Int:=
 if n.kind=2 then [n.b,n.c] else if n.kind=3\/n.kind=4 then [n.b] else if n.kind=5 then [n.a,n.b,n.c] else if n.kind=6 then [n.a,n.b] else if n.kind=7 then n.aU else []
def nodeV(n:Fl.ar)(lv:Value):Value:=.agg #[Iq n.kind,Iq n.ag,Iq n.a,Iq n.b,Iq n.c,lv]
end Go.Proofs.YtfhpibppblbgcaaGreatDoor
namespace Go.Proofs.YtfhpibppblbgcaaGreatDoor
open Go.Proofs.Tryz
variable{B n k a b:Nat}{w:World}{v:Value}{xs:List Int}
namespace Fl
def cS:Nat->Nat->List UInt8
 |0,v=>[UInt8.ofNat v]
 |f+1,v=>if v<128 then [UInt8.ofNat v] else UInt8.ofNat (v % 128+128)::cS f (v / 128)
def aP(v:Nat):List UInt8:=cS 9 v
def jE(f:Nat):∀v,(cS f v).length<=f+1:=by
 induction f with
 |zero=>intro v;simp[cS]
 |succ f ih=>
  intro v;simp only[cS];split
  ·simp
  have:=ih (v / 128);simp only[List.length_cons];omega
def dK(at_ len k v unit:Nat):List UInt8->Int×Int×Int
 |[]=>(0,-1,(len:Int))
 |c::r=>
  if(c.toNat=0/\0<k)\/2147483648<=v+c.toNat % 128*unit\/(k=4/\128<=c.toNat) then(0,-1,(at_:Int))
  else if c.toNat<128 then(((v+c.toNat % 128*unit:Nat):Int),((at_+k+1:Nat):Int),0)
  else dK at_ len (k+1) (v+c.toNat % 128*unit) (unit*128) r
def num(s:List UInt8)(at_:Nat):Int×Int×Int:=dK at_ s.length 0 0 1 (s.drop at_)
def mU(at_ len:Nat)(l:List UInt8):∀k v unit,at_+k+l.length=len->
  ((dK at_ len k v unit l).2.1= -1/\(dK at_ len k v unit l).1=0/\0<=(dK at_ len k v unit l).2.2/\(dK at_ len k v unit l).2.2<=len)\/
  ((at_+k:Int)<(dK at_ len k v unit l).2.1/\(dK at_ len k v unit l).2.1<=len/\0<=(dK at_ len k v unit l).1/\(dK at_ len k v unit l).1<2147483648/\(dK at_ len k v unit l).2.2=0):=by
 induction l with
 |nil=>intro k v unit h;left;simp[dK]
 |cons c r ih=>
  intro k v unit h;simp only[List.length_cons]at h
  by_cases h1:(c.toNat=0/\0<k)\/2147483648<=v+c.toNat % 128*unit\/(k=4/\128<=c.toNat)
  ·left;simp only[dK,if_pos h1];refine⟨by trivial,by trivial,by omega,by omega⟩
  by_cases h2:c.toNat<128
  ·right;simp only[dK,if_neg h1,if_pos h2];refine⟨by omega,by omega,by omega,by omega,by trivial⟩
  simp only[dK,if_neg h1,if_neg h2];rcases ih (k+1) (v+c.toNat % 128*unit) (unit*128) (by omega) with h3|h3
  ·left;exact h3
  right;obtain⟨a,b,c,d⟩:=h3;exact⟨by omega,b,c,d⟩
def dJ(s:List UInt8)(at_:Nat)(h:at_<=s.length):
  ((num s at_).2.1= -1/\(num s at_).1=0/\0<=(num s at_).2.2/\(num s at_).2.2<=s.length)\/((at_:Int)<(num s at_).2.1/\(num s at_).2.1<=s.length/\0<=(num s at_).1/\(num s at_).1<2147483648/\(num s at_).2.2=0):=by
 have:=mU at_ s.length (s.drop at_) 0 0 1 (by simp;omega);simpa [num] using this
def dj(s:List UInt8):Nat->Nat->List Int->List Int×Int×Int
 |0,at_,acc=>(acc,(at_:Int),0)
 |n+1,at_,acc=>if(num s at_).2.1<0 then([],-1,(num s at_).2.2) else dj s n (num s at_).2.1.toNat (acc++[(num s at_).1])
def cZ(s:List UInt8)(at_ n:Nat):List Int×Int×Int:=dj s n at_ []
def lU(s:List UInt8)(n:Nat):∀at_ acc,at_<=s.length->(∀x∈acc,0<=x/\x<2147483648)->
  ((dj s n at_ acc).2.1= -1/\(dj s n at_ acc).1=[]/\0<=(dj s n at_ acc).2.2/\(dj s n at_ acc).2.2<=s.length)\/
  ((at_:Int)<=(dj s n at_ acc).2.1/\(dj s n at_ acc).2.1<=s.length/\(dj s n at_ acc).1.length=acc.length+n/\(∀x∈(dj s n at_ acc).1,0<=x/\x<2147483648)):=by
 induction n with
 |zero=>intro at_ acc h ha;right;simp only[dj];exact⟨by omega,by omega,by simp,ha⟩
 |succ n ih=>
  intro at_ acc h ha;rcases dJ s at_ h with h1|h1
  ·left;have h2:(num s at_).2.1<0:=by omega
   simp only[dj,if_pos h2];exact⟨by trivial,by trivial,h1.2.2.1,h1.2.2.2⟩
  obtain⟨a1,a2,a3,a4,a5⟩:=h1;have h2:¬(num s at_).2.1<0:=(by omega);simp only[dj,if_neg h2];rcases ih (num s at_).2.1.toNat (acc++[(num s at_).1]) (by omega) (by intro x hx;simp only[List.mem_append,List.mem_singleton]at hx;rcases hx with hx|hx;exact ha x hx;subst hx;exact⟨a3,a4⟩) with h3|h3
  ·left;exact h3
  right;obtain⟨b1,b2,b3,b4⟩:=h3
  exact⟨by omega,b2,by rw[b3];simp;omega,b4⟩
def fj(s:List UInt8)(at_ n:Nat)(h:at_<=s.length):
  ((cZ s at_ n).2.1= -1/\(cZ s at_ n).1=[]/\0<=(cZ s at_ n).2.2/\(cZ s at_ n).2.2<=s.length)\/
  ((at_:Int)<=(cZ s at_ n).2.1/\(cZ s at_ n).2.1<=s.length/\(cZ s at_ n).1.length=n/\(∀x∈(cZ s at_ n).1,0<=x/\x<2147483648)):=by
 have:=lU s n at_ [] h (by simp);simpa [cZ] using this
def dI(x y:ar):Bool:=x.kind==y.kind && (x.ag==y.ag && (x.a==y.a && (x.b==y.b && (x.c==y.c && x.aU==y.aU))))
def dr(x y:ar):dI x y=true ↔ x=y:=by
 obtain⟨a,b,c,d,e,f⟩:=x;obtain⟨a',b',c',d',e',f'⟩:=y;simp[dI]
def cq(x:Int):Bool:=decide (0<=x) && decide (x<2147483648)
def jd(f i x:Int):Bool:=cq x && (decide (i<f)||decide (x=0))
def bG(n:ar):Bool:=
 decide (aO n.kind≠ -2) && (cq n.ag && (decide (n.aU.length<=16) && (jd (aO n.kind) 0 n.a && (jd (aO n.kind) 1 n.b && (jd (aO n.kind) 2 n.c && (n.aU.all cq && (decide (aO n.kind= -1)||decide (n.aU=[]))))))))
def fH(k:Int): -2<=aO k/\aO k<=3:=by unfold aO;repeat' split<;>omega
def aW(l:List Int):List UInt8:=l.flatMap λx=>aP x.toNat
def ct(n:ar):List Int:=if aO n.kind<0 then n.aU else [n.a,n.b,n.c].take (aO n.kind).toNat
def aD(n:ar):List UInt8:=
 UInt8.ofNat n.kind.toNat::(aP n.ag.toNat++((if aO n.kind<0 then aP n.aU.length else [])++aW (ct n)))
def dx(v:Nat):(aP v).length<=10:=jE 9 v
def dY(l:List Int):(aW l).length<=10*l.length:=by
 induction l with
 |nil=>simp[aW]
 |cons x l ih=>have:=dx x.toNat;simp only[aW,List.flatMap_cons,List.length_append,List.length_cons]at ih⊢;omega
def iN(l:List Int)(x:Int):aW (l++[x])=aW l++aP x.toNat:=by simp[aW]
def iw(l:List Int)(j:Nat)(h:j<l.length):l.take (j+1)=l.take j++[l.getD j 0]:=by
 rw[List.take_succ_eq_append_getElem h,Qa,Qb h];rfl
end Fl
open Go.RowKit
namespace Fl
def jc:ar:=⟨0,0,0,0,0,[]⟩
def nth(l:List ar)(k:Nat):ar:=l.getD k jc
def eh(l:List ar)(k:Nat):Bool:= !bG (nth l k)||((prem (nth l k)).any (λp=>decide ((k:Int)<=p))||(List.range k).any (λi=>dI (nth l i) (nth l k)))
def used(l:List ar)(k:Nat):Bool:=(List.range l.length).any (λj=>decide (k<j) && (prem (nth l j)).any (·==(k:Int)))
def bh(l:List ar):Int:=
 match (List.range l.length).find? (eh l) with
 |some k=>(k:Int)
 |none=>match (List.range (l.length - 1)).find? (λk=> !used l k) with
  |some k=>(k:Int)
  |none=> -1
def fh(p:Nat->Bool)(n k:Nat)(h:∀j,j<k->p j=false)(hk:k<n)(hp:p k=true):(List.range n).find? p=some k:=by
 rw[List.find?_range_eq_some];exact⟨hp,by simpa using hk,λj hj=>by simp[h j hj]⟩
def dO(p:Nat->Bool)(n:Nat)(h:∀j,j<n->p j=false):(List.range n).find? p=none:=by
 rw[List.find?_eq_none];intro x hx;rw[h x (by simpa using hx)];simp
end Fl
def Yv(B:Nat)(w:World)(v:Value)(ns:List Fl.ar):Prop:=
 ∃ao cap,v=.slice ao ns.length cap/\ns.length<=cap/\ns.length<=maxLen/\
  (ns≠[]->∃b off,ao=some (Aq b off)/\b<B/\∀i,i<ns.length->∃lv,Zv B w lv (Fl.nth ns i).aU/\
   w.cell? (Aq b (off+i*6))=some (Iq (Fl.nth ns i).kind)/\w.cell? (Aq b (off+i*6+1))=some (Iq (Fl.nth ns i).ag)/\w.cell? (Aq b (off+i*6+2))=some (Iq (Fl.nth ns i).a)/\
   w.cell? (Aq b (off+i*6+3))=some (Iq (Fl.nth ns i).b)/\w.cell? (Aq b (off+i*6+4))=some (Iq (Fl.nth ns i).c)/\w.cell? (Aq b (off+i*6+5))=some lv)
def Yv.below{B:Nat}{w w':World}{v:Value}{ns:List Fl.ar}(h:Yv B w v ns)(hb:Below B w w'):Yv B w' v ns:=by
 obtain⟨ao,cap,hv,hc,hl,hx⟩:=h;refine⟨ao,cap,hv,hc,hl,λc0=>?_⟩;obtain⟨b,off,ha,b0,a0⟩:=hx c0;refine⟨b,off,ha,b0,λi hi=>?_⟩;obtain⟨lv,h0,h1,h2,h3,h4,h5,h6⟩:=a0 i hi;have q:∀o,w'.cell? (Aq b o)=w.cell? (Aq b o):=λo=>hb.cell (p:=(Aq b o)) b0;exact⟨lv,h0.below hb,(q _).trans h1,(q _).trans h2,(q _).trans h3,(q _).trans h4,(q _).trans h5,(q _).trans h6⟩
def Yv.mono{B B':Nat}{w:World}{v:Value}{ns:List Fl.ar}(h:Yv B w v ns)(hB:B<=B'):Yv B' w v ns:=by
 obtain⟨ao,cap,hv,hc,hl,hx⟩:=h;refine⟨ao,cap,hv,hc,hl,λb0=>?_⟩;obtain⟨b,off,ha,c0,a0⟩:=hx b0;refine⟨b,off,ha,by omega,λi hi=>?_⟩;obtain⟨lv,h0,h1⟩:=a0 i hi;exact⟨lv,h0.mono hB,h1⟩
def Yv.at{B:Nat}{w:World}{b off n cap:Nat}{ns:List Fl.ar}(h:Yv B w (.slice (some (Aq b off)) n cap) ns){i:Nat}(hi:i<ns.length):b<B/\∃lv,Zv B w lv (Fl.nth ns i).aU/\
   w.cell? (Aq b (off+i*6))=some (Iq (Fl.nth ns i).kind)/\w.cell? (Aq b (off+i*6+1))=some (Iq (Fl.nth ns i).ag)/\w.cell? (Aq b (off+i*6+2))=some (Iq (Fl.nth ns i).a)/\
   w.cell? (Aq b (off+i*6+3))=some (Iq (Fl.nth ns i).b)/\w.cell? (Aq b (off+i*6+4))=some (Iq (Fl.nth ns i).c)/\w.cell? (Aq b (off+i*6+5))=some lv:=by
 obtain⟨ao,cap',hv,_,_,hx⟩:=h;obtain⟨b',off',ha,b0,a0⟩:=hx (by intro hh;rw[hh]at hi;simp at hi);simp only[Value.slice.injEq]at hv;have:=hv.1.trans ha;simp only[Option.some.injEq,Addr.mk.injEq]at this;obtain⟨rfl,rfl,_⟩:=this;exact⟨b0,a0 i hi⟩
def Yv.nil(B:Nat)(w:World):Yv B w Zq []:=⟨none,0,rfl,by simp,by simp[maxLen],λh=>absurd rfl h⟩
namespace Fl
def cg(p k:Nat)(n:ar)(e:Int):ar×Int×Int:=if(prem n).any (λx=>decide ((k:Int)<=x)) then(jc,-1,(p:Int)) else(n,e,0)
def one(s:List UInt8)(p k:Nat):ar×Int×Int:=
 if p=s.length then(jc,-1,(p:Int)) else
 let kind:Int:=(s.getD p 0).toNat
 if aO kind= -2 then(jc,-1,(p:Int)) else
 let v:=num s (p+1)
 if v.2.1<0 then(jc,-1,v.2.2) else
 if aO kind= -1 then
  let m:=num s v.2.1.toNat
  if m.2.1<0 then(jc,-1,m.2.2) else
  if 16<m.1 then(jc,-1,v.2.1) else
  let l:=cZ s m.2.1.toNat m.1.toNat
  if l.2.1<0 then(jc,-1,l.2.2) else cg p k ⟨kind,v.1,0,0,0,l.1⟩ l.2.1
 else
  let l:=cZ s v.2.1.toNat (aO kind).toNat
  if l.2.1<0 then(jc,-1,l.2.2) else cg p k ⟨kind,v.1,l.1.getD 0 0,l.1.getD 1 0,l.1.getD 2 0,[]⟩ l.2.1
end Fl
namespace Fl
def aH(ns:List ar):List UInt8:=ns.flatMap aD
def bO(ls:List Int)(ns:List ar):List UInt8:=[70,80,49]++(aP ls.length++(aW ls++aP ns.length))
def bx(ls:List Int)(ns:List ar):List UInt8×Bool×Int:=
 if 4<ls.length\/ns.length=0\/200<ns.length then([],false,-1)
 else if ls.all cq=false then([],false,-1)
 else if 0<=bh ns then([],false,bh ns)
 else(bO ls ns++aH ns,true,-1)
def fC(l:List ar)(x:ar):aH (l++[x])=aH l++aD x:=by simp[aH]
def fg(l:List ar)(j:Nat)(h:j<l.length):l.take (j+1)=l.take j++[nth l j]:=by
 rw[List.take_succ_eq_append_getElem h,nth,Qa,Qb h];rfl
def fV{ns:List ar}(h:bh ns<0)(k:Nat)(hk:k<ns.length):bG (nth ns k)=true:=by
 unfold bh at h
 cases hf:(List.range ns.length).find? (eh ns) with
 |some j=>rw[hf]at h;simp only at h;omega
 |none=>
  rw[List.find?_eq_none]at hf;have:=hf k (by simpa using hk);simp[eh]at this;exact this.1
def iM{n:ar}(h:bG n=true):(aD n).length<=200:=by
 simp only[bG,Bool.and_eq_true,decide_eq_true_eq]at h;have h1:=dx n.ag.toNat;have h2:=dx n.aU.length;have h3:=dY (ct n);have h4:(ct n).length<=16:=by
  unfold ct;split
  ·exact h.2.2.1
  simp;omega
 unfold aD;simp only[List.length_cons,List.length_append];split<;>simp<;>omega
def gl(l:List ar)(h:∀x∈l,bG x=true):(aH l).length<=200*l.length:=by
 induction l with
 |nil=>simp[aH]
 |cons x r ih=>
  have h1:=iM (h x (by simp));have h2:=ih (λy hy=>h y (by simp[hy]));simp only[aH,List.flatMap_cons,List.length_append,List.length_cons]at h2⊢;omega
def mT{l:List ar}{x:ar}(h:x∈l):∃j,j<l.length/\x=nth l j:=by
 obtain⟨i,hi,rfl⟩:=List.getElem_of_mem h;exact⟨i,hi,by rw[nth,Qa,Qb hi];rfl⟩
end Fl
namespace Fl
def cK(s:List UInt8):Nat->Nat->Nat->List Int->List ar->List ar×List Int×Int×Int
 |0,_,p,st,acc=>(acc,st,(p:Int),-1)
 |m+1,k,p,st,acc=>
  if(one s p k).2.1<0 then(acc,st,(p:Int),(one s p k).2.2)
  else cK s m (k+1) (one s p k).2.1.toNat (st++[(p:Int)]) (acc++[(one s p k).1])
def dq(s:List UInt8)(i:Nat):Bool:=decide (i<s.length) && (s.getD i 0==([70,80,49]:List UInt8).getD i 0)
def dg(s:List UInt8):Nat:=if dq s 0=false then 0 else if dq s 1=false then 1 else if dq s 2=false then 2 else 3
def decode(s:List UInt8):(List Int×List ar)×Bool×Int:=
 if dg s<3 then(([],[]),false,(dg s:Int)) else
 let n:=num s 3
 if n.2.1<0 then(([],[]),false,n.2.2) else
 if 4<n.1 then(([],[]),false,3) else
 let l:=cZ s n.2.1.toNat n.1.toNat
 if l.2.1<0 then(([],[]),false,l.2.2) else
 let m:=num s l.2.1.toNat
 if m.2.1<0 then(([],[]),false,m.2.2) else
 if m.1<1\/200<m.1 then(([],[]),false,l.2.1) else
 let r:=cK s m.1.toNat 0 m.2.1.toNat [] []
 if 0<=r.2.2.2 then(([],[]),false,r.2.2.2) else
 if r.2.2.1<s.length then(([],[]),false,r.2.2.1) else
 if 0<=bh r.1 then(([],[]),false,r.2.1.getD (bh r.1).toNat 0) else((l.1,r.1),true,0)
def iF(s:List UInt8)(p k:Nat)(n:ar)(e:Int)(hp:(p:Int)<e)(he:e<=s.length):
  ((cg p k n e).2.1= -1/\0<=(cg p k n e).2.2/\(cg p k n e).2.2<=s.length)\/((p:Int)<(cg p k n e).2.1/\(cg p k n e).2.1<=s.length):=by
 unfold cg;split
 ·left;exact⟨rfl,by simp only;omega,by simp only;omega⟩
 right;exact⟨by simp only;omega,by simp only;omega⟩
def jD(s:List UInt8)(p k:Nat)(h:p<=s.length):
  ((one s p k).2.1= -1/\0<=(one s p k).2.2/\(one s p k).2.2<=s.length)\/((p:Int)<(one s p k).2.1/\(one s p k).2.1<=s.length):=by
 unfold one
 by_cases h0:p=s.length
 ·rw[if_pos h0];left;exact⟨rfl,by simp only;omega,by simp only;omega⟩
 rw[if_neg h0];simp only
 by_cases h1:aO ((s.getD p 0).toNat:Int)= -2
 ·rw[if_pos h1];left;exact⟨rfl,by simp only;omega,by simp only;omega⟩
 rw[if_neg h1];have hn:=dJ s (p+1) (by omega)
 by_cases h2:(num s (p+1)).2.1<0
 ·rw[if_pos h2];left;exact⟨rfl,by simp only;omega,by simp only;omega⟩
 rw[if_neg h2]
 by_cases h3:aO ((s.getD p 0).toNat:Int)= -1
 ·rw[if_pos h3]
  have hm:=dJ s (num s (p+1)).2.1.toNat (by omega)
  by_cases h4:(num s (num s (p+1)).2.1.toNat).2.1<0
  ·rw[if_pos h4];left;exact⟨rfl,by simp only;omega,by simp only;omega⟩
  rw[if_neg h4]
  by_cases h5:16<(num s (num s (p+1)).2.1.toNat).1
  ·rw[if_pos h5];left;exact⟨rfl,by simp only;omega,by simp only;omega⟩
  rw[if_neg h5];have hl:=fj s (num s (num s (p+1)).2.1.toNat).2.1.toNat (num s (num s (p+1)).2.1.toNat).1.toNat (by omega)
  split
  ·left;exact⟨rfl,by simp only;omega,by simp only;omega⟩
  exact iF s p k _ _ (by omega) (by omega)
 rw[if_neg h3];have hl:=fj s (num s (p+1)).2.1.toNat (aO ((s.getD p 0).toNat:Int)).toNat (by omega)
 split
 ·left;exact⟨rfl,by simp only;omega,by simp only;omega⟩
 exact iF s p k _ _ (by omega) (by omega)
end Fl
namespace Fl
def eK(most:Nat):Nat->List UInt8->Option Nat
 |n,[]=>some n
 |n,c::r=>if dV c=false then none else if(most - (c.toNat - 48)) / 10<n then none else eK most (10*n+(c.toNat - 48)) r
def eI(most:Nat)(l:List UInt8):Option Nat:=if l=[] then none else if l.headD 0=48/\l.length≠1 then none else eK most 0 l
def eC(c:UInt8):dV c=true ↔ 48<=c.toNat/\c.toNat<=57:=by
 unfold dV;rw[Bool.and_eq_true,decide_eq_true_eq,decide_eq_true_eq,UInt8.le_iff_toNat_le,UInt8.le_iff_toNat_le];rfl
def eB(n:Nat)(l:List UInt8):Nat:=l.foldl (λv c=>10*v+(c.toNat - 48)) n
def mS(l:List UInt8):∀n,n<=eB n l:=by
 induction l with
 |nil=>intro n;exact Nat.le_refl _
 |cons c r ih=>intro n;have:=ih (10*n+(c.toNat - 48));simp only[eB,List.foldl_cons]at this⊢;omega
def lT(most:Nat)(hm:9<=most)(l:List UInt8):∀n,n<=most->eK most n l=if l.all dV=true/\eB n l<=most then some (eB n l) else none:=by
 induction l with
 |nil=>intro n hn;simp[eK,eB,hn]
 |cons c r ih=>
  intro n hn
  cases hd:dV c with
  |false=>simp[eK,hd]
  |true=>
   have hc:=(eC c).1 hd;have hv:eB n (c::r)=eB (10*n+(c.toNat - 48)) r:=rfl;simp only[eK,hd,List.all_cons,Bool.true_and];rw[if_neg (by simp),hv]
   by_cases hb:(most - (c.toNat - 48)) / 10<n
   ·rw[if_pos hb]
    have:=mS r (10*n+(c.toNat - 48));rw[if_neg (by rintro⟨_,h⟩;omega)]
   rw[if_neg hb,ih _ (by omega)]
def lS(l:List UInt8):val l=eB 0 l:=rfl
def gJ(l:List UInt8):∀n,l.all dV=true->eB n l<(n+1)*10 ^ l.length:=by
 induction l with
 |nil=>intro n _;simp[eB]
 |cons c r ih=>
  intro n h;simp only[List.all_cons,Bool.and_eq_true]at h;have hc:=(eC c).1 h.1;have:=ih (10*n+(c.toNat - 48)) h.2;have e:eB n (c::r)=eB (10*n+(c.toNat - 48)) r:=rfl;rw[e,List.length_cons,Nat.pow_succ];refine Qj this ?_;rw[Nat.mul_comm (10 ^ r.length) 10,<-Nat.mul_assoc];exact Nat.mul_le_mul_right _ (by omega)
def jC(l:List UInt8):∀n,n*10 ^ l.length<=eB n l:=by
 induction l with
 |nil=>intro n;simp[eB]
 |cons c r ih=>
  intro n;have:=ih (10*n+(c.toNat - 48));have e:eB n (c::r)=eB (10*n+(c.toNat - 48)) r:=rfl;rw[e,List.length_cons,Nat.pow_succ];refine Nat.le_trans ?_ this;rw[Nat.mul_comm (10 ^ r.length) 10,<-Nat.mul_assoc];exact Nat.mul_le_mul_right _ (by omega)
end Fl
end Go.Proofs.YtfhpibppblbgcaaGreatDoor
namespace Go.Proofs.YtfhpibppblbgcaaGreatDoor
open Go.Proofs.Tryz
variable{B n k a b:Nat}{w:World}{v:Value}{xs:List Int}
namespace Fl
def cY(c:UInt8)(st:List (List UInt8)×List UInt8)(x:UInt8):List (List UInt8)×List UInt8:=if x==c then(st.1++[st.2],[]) else(st.1,st.2++[x])
def fB(c:UInt8)(l:List UInt8):List (List UInt8)×List UInt8:=l.foldl (cY c) ([],[])
def cut(c:UInt8)(l:List UInt8):List (List UInt8):=(fB c l).1++[(fB c l).2]
def iu(c:UInt8)(l:List UInt8)(x:UInt8):fB c (l++[x])=cY c (fB c l) x:=by simp[fB,List.foldl_append]
def kK(c:UInt8)(l:List UInt8):∀st:List (List UInt8)×List UInt8,(l.foldl (cY c) st).1.length<=st.1.length+l.length/\(l.foldl (cY c) st).2.length<=st.2.length+l.length:=by
 induction l with
 |nil=>intro st;simp
 |cons x r ih=>
  intro st;simp only[List.foldl_cons,List.length_cons];have h:=ih (cY c st x)
  by_cases hx:(x==c)=true
  ·have h1:(cY c st x).1.length=st.1.length+1:=by simp[cY,hx]
   have h2:(cY c st x).2.length=0:=(by simp[cY,hx]);omega
  have h1:(cY c st x).1.length=st.1.length:=(by simp[cY,hx]);have h2:(cY c st x).2.length=st.2.length+1:=(by simp[cY,hx]);omega
def lR(c:UInt8)(l:List UInt8):(fB c l).1.length<=l.length/\(fB c l).2.length<=l.length:=by
 have:=kK c l ([],[]);simpa [fB] using this
end Fl
namespace Fl
def dD(p:List UInt8):List (List UInt8)->List (List UInt8)
 |[]=>[p]
 |h::t=>(p++h)::t
def aE(c:UInt8):List UInt8->List (List UInt8)
 |[]=>[[]]
 |x::r=>if x==c then []::aE c r else dD [x] (aE c r)
def dR(c:UInt8)(l:List UInt8):aE c l≠[]:=by
 cases l with
 |nil=>simp[aE]
 |cons x r=>
  simp only[aE];split
  ·simp
  cases h:aE c r with
  |nil=>simp[dD]
  |cons a b=>simp[dD]
def iL(p q:List UInt8)(l:List (List UInt8))(h:l≠[]):dD p (dD q l)=dD (p++q) l:=by
 cases l with
 |nil=>exact absurd rfl h
 |cons a b=>simp[dD]
def lQ(c:UInt8)(l:List UInt8):∀d cur,(l.foldl (cY c) (d,cur)).1++[(l.foldl (cY c) (d,cur)).2]=d++dD cur (aE c l):=by
 induction l with
 |nil=>intro d cur;simp[aE,dD]
 |cons x r ih=>
  intro d cur;simp only[List.foldl_cons]
  by_cases hx:(x==c)=true
  ·have e:cY c (d,cur) x=(d++[cur],[]):=by simp[cY,hx]
   rw[e,ih,aE,if_pos hx]
   cases h:aE c r with
   |nil=>exact absurd h (dR c r)
   |cons a b=>simp[dD]
  have e:cY c (d,cur) x=(d,cur++[x]):=(by simp[cY,hx]);rw[e,ih,aE,if_neg hx,iL _ _ _ (dR c r)]
def lP(c:UInt8)(l:List UInt8):cut c l=aE c l:=by
 have:=lQ c l [] [];simp only[cut,fB];rw[this,List.nil_append]
 cases h:aE c l with
 |nil=>exact absurd h (dR c l)
 |cons a b=>simp[dD]
def mR(c b:UInt8)(l:List UInt8):([c]:List UInt8).isPrefixOf (b::l)=(b==c):=by
 simp only[List.isPrefixOf,Bool.and_true];rw[Bool.eq_iff_iff,beq_iff_eq,beq_iff_eq];exact eq_comm
def ff(c:UInt8)(l:List UInt8):(Lib.index l [c]= -1->aE c l=[l])/\(∀i:Nat,Lib.index l [c]=i->aE c l=l.take i::aE c (l.drop (i+1))/\i<l.length):=by
 induction l with
 |nil=>exact⟨λ_=>rfl,λi h=>by simp[Lib.index]at h⟩
 |cons b r ih=>
  have a0:=Lib.index_ge r [c];simp only[Lib.index,mR,aE]
  by_cases hb:(b==c)=true
  ·rw[if_pos hb,if_pos hb]
   refine⟨λh=>by omega,λi h=>?_⟩
   have:i=0:=by omega
   subst this;exact⟨by simp,by simp⟩
  rw[if_neg hb,if_neg hb]
  by_cases h1:Lib.index r [c]= -1
  ·have e:(Lib.index r [c]== -1)=true:=by rw[h1];rfl
   rw[if_pos e];refine⟨λ_=>?_,λi h=>by omega⟩;rw[ih.1 h1];rfl
  have e:¬(Lib.index r [c]== -1)=true:=(by simpa using h1);rw[if_neg e];refine⟨λh=>by omega,λi h=>?_⟩;obtain⟨k,hk⟩:∃k:Nat,Lib.index r [c]=(k:Int):=⟨(Lib.index r [c]).toNat,by omega⟩;have hi:i=k+1:=(by omega);subst hi;obtain⟨h2,h3⟩:=ih.2 k hk;rw[h2];exact⟨by simp[dD],by simp;omega⟩
def jZ(c:UInt8):∀(fuel:Nat) (l:List UInt8),l.length<fuel->Lib.splitK [c] 0 (Lib.countFrom [c] fuel l) l=aE c l:=by
 intro fuel
 induction fuel with
 |zero=>intro l h;omega
 |succ fuel ih=>
  intro l h;have a0:=Lib.index_ge l [c];simp only[Lib.countFrom]
  by_cases h1:Lib.index l [c]= -1
  ·have e:(Lib.index l [c]== -1)=true:=by rw[h1];rfl
   rw[if_pos e,(ff c l).1 h1];rfl
  have e:¬(Lib.index l [c]== -1)=true:=(by simpa using h1);rw[if_neg e,Nat.add_comm 1,Lib.splitK,if_neg e];obtain⟨k,hk⟩:∃k:Nat,Lib.index l [c]=(k:Int):=⟨(Lib.index l [c]).toNat,by omega⟩;obtain⟨h2,h3⟩:=(ff c l).2 k hk;rw[h2,hk,Int.toNat_natCast];simp only[List.length_singleton,Nat.add_zero];rw[ih _ (by simp;omega)]
def jB(c:UInt8)(l:List UInt8):Lib.split l [c]=aE c l:=jZ c (l.length+1) l (by omega)
def gW(c:UInt8)(l:List UInt8)(h:(Lib.cut l [c]).2.2=true):aE c l=(Lib.cut l [c]).1::aE c (Lib.cut l [c]).2.1/\(Lib.cut l [c]).2.1.length<l.length:=by
 unfold Lib.cut at*;have a0:=Lib.index_ge l [c]
 by_cases h0:0<=Lib.index l [c]
 ·rw[if_pos h0]
  obtain⟨k,hk⟩:∃k:Nat,Lib.index l [c]=(k:Int):=⟨(Lib.index l [c]).toNat,by omega⟩;obtain⟨h2,h3⟩:=(ff c l).2 k hk;rw[hk,Int.toNat_natCast];exact⟨h2,by simp;omega⟩
 rw[if_neg h0]at h;cases h
def jA(c:UInt8)(l:List UInt8)(h:(Lib.cut l [c]).2.2=false):aE c l=[l]/\(Lib.cut l [c]).1=l:=by
 unfold Lib.cut at*;have a0:=Lib.index_ge l [c]
 by_cases h0:0<=Lib.index l [c]
 ·rw[if_pos h0]at h;cases h
 rw[if_neg h0];exact⟨(ff c l).1 (by omega),rfl⟩
end Fl
namespace Fl
structure dM where
 var:Bool
 v:Nat
structure dd where
 op:Int
 a:dM
 b:dM
structure aa where
 kind:Nat
 x:Nat
 aq:Nat
 e:dd
 aX:List aa
 aJ:List aa
structure aB where
 kind:Nat
 aq:Nat
 e:dd
 first:List aa
 cI:Bool
 fm:List aa
abbrev cM:=Nat->Nat->Bool
def eQ(aM aG:List Nat):cM:=λi j=>i==j||(aM.zip aG).any λp=>p.1==i && p.2==j
def eH(k:Nat)(t:cM):cM:=λi j=>t i j||(t i k && t k j)
def fw:Nat->cM->cM
 |0,t=>t
 |k+1,t=>eH k (fw k t)
def dp(p:Nat->Bool)(n:Nat):Int:=match (List.range n).find? p with
 |some k=>(k:Int)
 |none=> -1
def cQ(n:Nat)(t:cM)(a b k:Nat):Bool:=t a k && t b k && (List.range n).all λj=> !(t a j)||!(t b j)||t k j
def join(n:Nat)(t:cM)(a b:Nat):Int:=dp (cQ n t a b) n
def fU(n:Nat)(t:cM)(a b:Nat):Int:=dp (cQ n (λi j=>t j i) a b) n
def bW(n:Nat)(t:cM)(i j:Nat):Bool:= !(i !=j && t i j && t j i) && (decide (0<=join n t i j) && decide (0<=fU n t i j))
def bt(n:Nat)(t:cM):Bool:=decide (0<n) && (List.range n).all λi=>(List.range n).all λj=>bW n t i j
def dC(n:Nat)(t:cM):Nat:=(dp (λk=>(List.range n).all λj=>t k j) n).toNat
structure RS where
 au:List (List UInt8)
 cells:List (List UInt8)
 aj:List (List UInt8)
 am:List (List UInt8)
 aM:List Nat
 aG:List Nat
 aZ:List Nat
 aY:List Nat
 ae:Bool
 ap:Nat
 bC:List aa
 fr:List aB
def RS.zero:RS:=⟨[],[],[],[],[],[],[],[],false,0,[],[]⟩
def RS.tab(r:RS):cM:=fw r.au.length (eQ r.aM r.aG)
def RS.atom(r:RS)(s:List UInt8):Option dM:=
 if(bZ s 9).2 then some ⟨false,(bZ s 9).1⟩
 else if 0<=ai r.cells s then some ⟨true,(ai r.cells s).toNat⟩
 else if 0<=ai r.am s then some ⟨true,r.cells.length+(ai r.am s).toNat⟩ else none
def ju:dM:=⟨false,0⟩
def RS.value(r:RS):List (List UInt8)->Option dd
 |[a]=>(r.atom a).map λx=>⟨-1,x,ju⟩
 |[a,o,b]=>(r.atom a).bind λx=>(r.atom b).map λy=>⟨ai cH o,x,y⟩
 |_=>none
def RS.put(r:RS)(s:aa):RS:=
 match r.fr with
 |[]=>{r with bC:=r.bC++[s],ap:=r.ap+1}
 |f::fs=>{r with fr:=(if f.cI then{f with fm:=f.fm++[s]} else{f with first:=f.first++[s]})::fs,ap:=r.ap+1}
def RS.opens(r:RS)(kind aq:Nat)(e:dd):RS:={r with fr:=⟨kind,aq,e,[],false,[]⟩::r.fr,ap:=r.ap+1}
def aB.done(f:aB):aa:=⟨f.kind,0,f.aq,f.e,f.first,f.fm⟩
def RS.bE(r:RS):RS:=
 match r.fr with
 |[]=>r
 |f::[]=>{r with bC:=r.bC++[f.done],fr:=[]}
 |f::g::fs=>{r with fr:=(if g.cI then{g with fm:=g.fm++[f.done]} else{g with first:=g.first++[f.done]})::fs}
def RS.cd(r:RS):RS:=
 match r.fr with
 |[]=>r
 |f::fs=>{r with fr:={f with cI:=true}::fs}
def RS.bm(r:RS)(n:List UInt8):Option (Nat×RS):=
 if 0<=ai r.cells n then some ((ai r.cells n).toNat,r)
 else if 0<=ai r.am n then some (r.cells.length+(ai r.am n).toNat,r)
 else if r.am.length=4 then none else some (r.cells.length+r.am.length,{r with am:=r.am++[n]})
def cB(w:List UInt8):Bool:=w==cT||w==bM||w==cN||w==bu||w==cC
def RS.head(r:RS):List (List UInt8)->Nat×RS
 |[_]=>if bt r.au.length r.tab then(0,{r with ae:=true}) else(6,r)
 |[_,n]=>if 0<=ai r.au n then(4,r) else if r.au.length=6 then(5,r) else(0,{r with au:=r.au++[n]})
 |[k,n,l]=>
  if k==bM then
   if ai r.au n<0\/ai r.au l<0 then(4,r) else(0,{r with aM:=r.aM++[(ai r.au n).toNat],aG:=r.aG++[(ai r.au l).toNat]})
  else if ai r.au l<0\/0<=ai r.cells n\/0<=ai r.aj n then(4,r)
  else if k==cN then
   if r.cells.length=6 then(5,r) else(0,{r with cells:=r.cells++[n],aZ:=r.aZ++[(ai r.au l).toNat]})
  else if r.aj.length=3 then(5,r) else(0,{r with aj:=r.aj++[n],aY:=r.aY++[(ai r.au l).toNat]})
 |_=>(2,r)
def RS.bQ(r:RS)(at_:Nat):List (List UInt8)->Nat×RS
 |[k]=>
  match r.fr with
  |[]=>(3,r)
  |f::_=>if k==dL then(if f.kind=5/\f.cI=false then(0,r.cd) else(3,r)) else(0,r.bE)
 |[k,a]=>
  match r.value [a] with
  |none=>(4,r)
  |some e=>if 16<=r.ap\/3<=r.fr.length then(5,r) else(0,r.opens (if k==iP then 5 else 6) at_ e)
 |k::n::v=>
  match r.value v with
  |none=>(4,r)
  |some e=>
   if k==eD then
    if ai r.aj n<0 then(4,r) else if 16<=r.ap then(5,r) else(0,r.put ⟨4,(ai r.aj n).toNat,at_,e,[],[]⟩)
   else if 0<=ai r.aj n then(4,r)
   else match r.bm n with
    |none=>(5,r)
    |some (x,r')=>if 16<=r.ap then(5,r) else(0,r'.put ⟨3,x,at_,e,[],[]⟩)
 |_=>(2,r)
def RS.row(r:RS)(w:List (List UInt8))(at_:Nat):Nat×RS:=
 if cB (w.getD 0 [])=r.ae then(3,r) else if cB (w.getD 0 []) then r.head w else r.bQ at_ w
structure aS where
 n:Nat
 leq:cM
 cells:List Nat
 aj:List Nat
 am:Nat
 aX:List aa
def RS.prog(r:RS):aS:=⟨r.au.length,r.tab,r.aZ,r.aY,r.am.length,r.bC⟩
def rows:RS->Nat->List (List UInt8)->Nat×Nat×RS
 |r,i,[]=>(3,i+1,r)
 |r,i,[l]=>if l=[]/\0<i then(if r.ae=true/\r.fr=[] then(0,0,r) else(3,i+1,r)) else(2,i+1,r)
 |r,i,l::m::ls=>if aq (aE 32 l)=false then(2,i+1,r) else if(r.row (aE 32 l) (i+1)).1≠0 then((r.row (aE 32 l) (i+1)).1,i+1,r) else rows (r.row (aE 32 l) (i+1)).2 (i+1) (m::ls)
def ak(s:List UInt8):Nat×Nat×aS:=
 if 1200<s.length then(1,0,RS.zero.prog) else let q:=rows RS.zero 0 (aE 10 s);(q.1,q.2.1,q.2.2.prog)
end Fl
namespace Fl
def lO(t:cM):∀(k i j:Nat),t i j=true->fw k t i j=true
 |0,_,_,h=>h
 |k+1,i,j,h=>by
  have:=lO t k i j h;simp only[fw,eH,this,Bool.true_or]
def it(t:cM):∀(n k i j:Nat),k<n->fw n t i k=true->fw n t k j=true->fw n t i j=true
 |0,k,_,_,hk,_,_=>absurd hk (by omega)
 |m+1,k,i,j,hk,h1,h2=>by
  have ih:=it t m;simp only[fw,eH,Bool.or_eq_true,Bool.and_eq_true]at h1 h2⊢
  by_cases a0:k=m
  ·subst a0
   have a1:fw k t i k=true:=by rcases h1 with h|h;exact h;exact h.1
   have a2:fw k t k j=true:=by rcases h2 with h|h;exact h;exact h.2
   exact .inr ⟨a1,a2⟩
  have hk':k<m:=(by omega);rcases h1 with h1|⟨h1,h1'⟩
  ·rcases h2 with h2|⟨h2,h2'⟩
   ·exact .inl (ih k i j hk' h1 h2)
   exact .inr ⟨ih k i m hk' h1 h2,h2'⟩
  rcases h2 with h2|⟨h2,h2'⟩
  ·exact .inr ⟨h1,ih k m j hk' h1' h2⟩
  exact .inr ⟨h1,h2'⟩
def Trans(n:Nat)(r:cM):Prop:=∀a b c,a<n->b<n->c<n->r a b=true->r b c=true->r a c=true
def jY(n:Nat)(t r:cM)(hr:Trans n r)(h:∀i j,i<n->j<n->t i j=true->r i j=true):∀(k i j:Nat),k<=n->i<n->j<n->fw k t i j=true->r i j=true
 |0,i,j,_,hi,hj,h0=>h i j hi hj h0
 |k+1,i,j,hk,hi,hj,h0=>by
  have ih:=jY n t r hr h k;simp only[fw,eH,Bool.or_eq_true,Bool.and_eq_true]at h0;rcases h0 with h0|⟨h1,h2⟩
  ·exact ih i j (by omega) hi hj h0
  exact hr i k j hi (by omega) hj (ih i k (by omega) hi (by omega) h1) (ih k j (by omega) (by omega) hj h2)
def kJ(n:Nat)(t r:cM)(hr:Trans n r)(h:∀i j,i<n->j<n->t i j=true->r i j=true)(h2:∀i j,i<n->j<n->r i j=true->fw n t i j=true):∀i j,i<n->j<n->r i j=fw n t i j:=by
 intro i j hi hj
 cases hx:fw n t i j with
 |true=>exact jY n t r hr h n i j (Nat.le_refl _) hi hj hx
 |false=>
  cases hy:r i j with
  |true=>rw[h2 i j hi hj hy]at hx;cases hx
  |false=>rfl
def mQ(aM aG:List Nat)(n i:Nat):fw n (eQ aM aG) i i=true:=lO _ _ _ _ (by simp[eQ])
def gw{p:Nat->Bool}(hk:k<n)(h:p k=true)(hb:∀j,j<k->p j=false):dp p n=(k:Int):=by
 unfold dp;have:(List.range n).find? p=some k:=by
  rw[List.find?_range_eq_some];refine⟨h,by simpa using hk,λj hj=>by simp[hb j hj]⟩
 rw[this]
def gI{p:Nat->Bool}(h:∀j,j<n->p j=false):dp p n= -1:=by
 unfold dp;have:(List.range n).find? p=none:=by
  rw[List.find?_eq_none];intro x hx;rw[List.mem_range]at hx;simp[h x hx]
 rw[this]
def fe(p:Nat->Bool)(n:Nat):(∃k,k<n/\p k=true/\(∀j,j<k->p j=false)/\dp p n=(k:Int))\/((∀j,j<n->p j=false)/\dp p n= -1):=by
 unfold dp
 cases h:(List.range n).find? p with
 |none=>
  right
  rw[List.find?_eq_none]at h;exact⟨λj hj=>by simpa using h j (by simpa using hj),rfl⟩
 |some k=>
  left
  rw[List.find?_range_eq_some]at h;exact⟨k,by simpa using h.2.1,h.1,λj hj=>by simpa using h.2.2 j hj,rfl⟩
def gk{p q:Nat->Bool}(h:∀k,k<n->p k=q k):dp p n=dp q n:=by
 rcases fe q n with⟨k,hk,h1,h2,e⟩|⟨h1,e⟩
 ·rw[e];exact gw hk (by rw[h k hk];exact h1) (λj hj=>by rw[h j (by omega)];exact h2 j hj)
 rw[e];exact gI (λj hj=>by rw[h j hj];exact h1 j hj)
def fG{p:Nat->Bool}:(List.range n).all p=true ↔ ∀j,j<n->p j=true:=by simp[List.all_eq_true]
def dB(n:Nat)(t:cM)(a b k:Nat):cQ n t a b k=true ↔ t a k=true/\t b k=true/\∀j,j<n->t a j=true->t b j=true->t k j=true:=by
 simp only[cQ,Bool.and_eq_true,fG,Bool.or_eq_true,Bool.not_eq_true',and_assoc];refine⟨λ⟨h1,h2,h3⟩=>⟨h1,h2,λj hj ha hb=>?_⟩,λ⟨h1,h2,h3⟩=>⟨h1,h2,λj hj=>?_⟩⟩
 ·rcases h3 j hj with(h|h)|h
  ·rw[ha]at h;cases h
  ·rw[hb]at h;cases h
  exact h
 cases ha:t a j with
 |false=>simp
 |true=>
  cases hb:t b j with
  |false=>simp
  |true=>right;exact h3 j hj ha hb
def gj{t r:cM}(h:∀i j,i<n->j<n->t i j=r i j)(ha:a<n)(hb:b<n)(hk:k<n):cQ n t a b k=cQ n r a b k:=by
 rw[Bool.eq_iff_iff,dB,dB,h a k ha hk,h b k hb hk];refine and_congr_right λ_=>and_congr_right λ_=>forall_congr' λj=>?_;refine⟨λg hj=>?_,λg hj=>?_⟩
 ·have:=g hj;rw[h a j ha hj,h b j hb hj,h k j hk hj]at this;exact this
 have:=g hj;rw[h a j ha hj,h b j hb hj,h k j hk hj];exact this
def ir{t r:cM}(h:∀i j,i<n->j<n->t i j=r i j)(ha:a<n)(hb:b<n):join n t a b=join n r a b:=gk λ_ hk=>gj h ha hb hk
def ky{t r:cM}(h:∀i j,i<n->j<n->t i j=r i j)(ha:a<n)(hb:b<n):fU n t a b=fU n r a b:=
 gk λ_ hk=>gj (t:=λi j=>t j i) (r:=λi j=>r j i) (λi j hi hj=>h j i hj hi) ha hb hk
def gi{t r:cM}(h:∀i j,i<n->j<n->t i j=r i j)(ha:a<n)(hb:b<n):bW n t a b=bW n r a b:=by
 unfold bW;rw[ir h ha hb,ky h ha hb,h a b ha hb,h b a hb ha]
def eg(n:Nat)(t:cM):bt n t=true ↔ 0<n/\∀i j,i<n->j<n->bW n t i j=true:=by
 simp only[bt,Bool.and_eq_true,decide_eq_true_eq,fG];exact and_congr_right λ_=>⟨λh i j hi hj=>h i hi j hj,λh i hi j hj=>h i j hi hj⟩
def fA{t r:cM}(h:∀i j,i<n->j<n->t i j=r i j):bt n t=bt n r:=by
 rw[Bool.eq_iff_iff,eg,eg];refine and_congr_right λ_=>⟨λg i j hi hj=>?_,λg i j hi hj=>?_⟩
 ·rw[<-gi h hi hj];exact g i j hi hj
 rw[gi h hi hj];exact g i j hi hj
structure lN(n:Nat)(t:cM):Prop where
 pos:0<n
 refl:∀i,i<n->t i i=true
 trans:Trans n t
 oe:∀i j,i<n->j<n->t i j=true->t j i=true->i=j
 ki:∀i j,i<n->j<n->∃k,k<n/\join n t i j=(k:Int)/\t i k=true/\t j k=true/\∀m,m<n->t i m=true->t j m=true->t k m=true
 meets:∀i j,i<n->j<n->∃k,k<n/\t k i=true/\t k j=true/\∀m,m<n->t m i=true->t m j=true->t m k=true
def lN.of{t:cM}(h:bt n t=true)(hr:∀i,i<n->t i i=true)(ht:Trans n t):lN n t:=by
 obtain⟨h0,hp⟩:=(eg n t).1 h
 have hq:∀i j,i<n->j<n->¬(i≠j/\t i j=true/\t j i=true)/\0<=join n t i j/\0<=fU n t i j:=λi j hi hj=>by
  have:=hp i j hi hj;simp only[bW,Bool.and_eq_true,decide_eq_true_eq,Bool.not_eq_true',Bool.and_eq_false_iff,bne_eq_false_iff_eq]at this;refine⟨λ⟨a,b,c⟩=>?_,this.2⟩;rcases this.1 with(h|h)|h
  ·exact a h
  ·rw[b]at h;cases h
  rw[c]at h;cases h
 refine⟨h0,hr,ht,λi j hi hj a b=>?_,λi j hi hj=>?_,λi j hi hj=>?_⟩
 ·by_cases e:i=j
  ·exact e
  exact absurd ⟨e,a,b⟩ (hq i j hi hj).1
 ·rcases fe (cQ n t i j) n with⟨k,hk,h1,_,e⟩|⟨_,e⟩
  ·obtain⟨a,b,c⟩:=(dB n t i j k).1 h1
   exact⟨k,hk,e,a,b,c⟩
  have:=(hq i j hi hj).2.1;unfold join at this;rw[e]at this;omega
 rcases fe (cQ n (λi j=>t j i) i j) n with⟨k,hk,h1,_,e⟩|⟨_,e⟩
 ·obtain⟨a,b,c⟩:=(dB n (λi j=>t j i) i j k).1 h1
  exact⟨k,hk,a,b,c⟩
 have:=(hq i j hi hj).2.2;unfold fU at this;rw[e]at this;omega
def kI{t:cM}(h:lN n t)(hk:k<n)(hb:∀j,j<n->t k j=true):dC n t=k:=by
 have:dp (λk=>(List.range n).all λj=>t k j) n=(k:Int):=by
  refine gw hk (fG.2 hb) λj hj=>?_
  cases hx:(List.range n).all λy=>t j y with
  |false=>rfl
  |true=>exact absurd (h.oe j k (by omega) hk (fG.1 hx k hk) (hb j (by omega))) (by omega)
 unfold dC;rw[this];rfl
def di(t:cM):Nat->Nat
 |0=>0
 |m+1=>if t m (di t m) then m else di t m
def fy{n:Nat}(t:cM)(hn:0<n):∀m,m<=n->di t m<n
 |0,_=>hn
 |m+1,hm=>by
  simp only[di];split
  ·omega
  exact fy t hn m (by omega)
def gv{n:Nat}{t:cM}(h:lN n t):∀m,m<=n->∀j,j<m->t j (di t m)=true->t (di t m) j=true
 |0,_,j,hj,_=>absurd hj (by omega)
 |m+1,hm,j,hj,hd=>by
  have ih:=gv h m (by omega);have hl:=fy t h.pos m (by omega);simp only[di]at hd⊢
  by_cases hm':t m (di t m)=true
  ·rw[if_pos hm']at hd⊢
   by_cases a0:j=m
   ·subst a0;exact h.refl j (by omega)
   have h1:t j (di t m)=true:=h.trans j m _ (by omega) (by omega) hl hd hm';exact h.trans m _ j (by omega) hl (by omega) hm' (ih j (by omega) h1)
  rw[if_neg hm']at hd⊢
  by_cases a0:j=m
  ·subst a0;exact absurd hd hm'
  exact ih j (by omega) hd
def gh{t:cM}(h:lN n t):di t n=dC n t:=by
 have hl:=fy t h.pos n (Nat.le_refl _);refine(kI h hl λj hj=>?_).symm;obtain⟨k,hk,h1,h2,_⟩:=h.meets (di t n) j hl hj;have h3:=gv h n (Nat.le_refl _) k hk h1;exact h.trans _ k j hl hk hj h3 h2
def iq{t:cM}(h:lN n t):dC n t<n/\∀j,j<n->t (dC n t) j=true:=by
 have hl:=fy t h.pos n (Nat.le_refl _);rw[<-gh h];refine⟨hl,λj hj=>?_⟩;obtain⟨k,hk,h1,h2,_⟩:=h.meets (di t n) j hl hj;have h3:=gv h n (Nat.le_refl _) k hk h1;exact h.trans _ k j hl hk hj h3 h2
def RS.fT{r:RS}(h:bt r.au.length r.tab=true):lN r.au.length r.tab:=
 lN.of h (λi _=>mQ _ _ _ _) (λa b c _ hb _ h1 h2=>it _ _ b a c hb h1 h2)
end Fl
namespace Fl
def iE(l:List UInt8):eI 999999999 l=if(bZ l 9).2=true then some (bZ l 9).1 else none:=by
 unfold eI
 by_cases h0:l=[]
 ·subst h0;simp[bZ,eR]
 rw[if_neg h0];have b0:0<l.length:=List.length_pos_iff.2 h0
 by_cases h1:l.headD 0=48/\l.length≠1
 ·rw[if_pos h1]
  have:(bZ l 9).2=false:=by
   unfold bZ
   split
   ·simp only[eR]
    have e1:(l.headD 0 !=48)=false:=(by rw[h1.1];rfl);have e2:decide (l.length=1)=false:=(by simp[h1.2]);rw[e1,e2];simp
   rfl
  rw[this];simp
 rw[if_neg h1,lT _ (by omega) _ _ (by omega)]
 cases cI:l.all dV with
 |false=>simp[bZ,cI]
 |true=>
  have c0:(l.headD 0 !=48||decide (l.length=1))=true:=by
   by_cases h2:l.headD 0=48
   ·have:l.length=1:=by
     rcases Nat.lt_or_ge 1 l.length with h|h
     ·exact absurd ⟨h2,by omega⟩ h1
     omega
    simp[this]
   rw[show (l.headD 0 !=48)=true from bne_iff_ne.2 h2];rfl
  simp only[bZ,cI,if_true,eR,c0,Bool.and_true]
  by_cases a0:l.length<=9
  ·rw[List.take_of_length_le a0]
   simp only[b0,a0,decide_true,Bool.and_true,true_and,lS,if_true];have hv:eB 0 l<=999999999:=by
    have h3:=gJ l 0 cI;have h4:10 ^ l.length<=10 ^ 9:=Nat.pow_le_pow_right (by omega) a0;omega
   rw[if_pos hv]
  have d0:999999999<eB 0 l:=by
   match l,a0,cI,h1,h0 with
   |c::r,a0,cI,h1,_=>
    simp only[List.all_cons,Bool.and_eq_true]at cI;have hc:=(eC c).1 cI.1;have bj:9<=r.length:=(by simp only[List.length_cons]at a0;omega);have e0:1<=c.toNat - 48:=by
     rcases Nat.lt_or_ge 48 c.toNat with h|h
     ·omega
     exfalso;apply h1
     refine⟨?_,by simp only[List.length_cons];omega⟩
     have:c.toNat=48:=by omega
     show c=48;exact UInt8.toNat_inj.1 this
    have e:eB 0 (c::r)=eB (10*0+(c.toNat - 48)) r:=rfl;rw[e];have h5:=jC r (10*0+(c.toNat - 48));have h6:10 ^ 9<=10 ^ r.length:=Nat.pow_le_pow_right (by omega) bj;have h7:1*10 ^ 9<=(10*0+(c.toNat - 48))*10 ^ r.length:=Nat.mul_le_mul (by omega) h6;omega
  rw[if_neg (by omega)];simp[a0]
def kH(l:List UInt8):(eI 999999999 l).isSome=(bZ l 9).2:=by
 rw[iE];cases (bZ l 9).2<;>simp
def gu(c:UInt8)(w:List UInt8):Bool:=if c=110 then dk w else if c=97 then atom w else if c=111 then decide (0<=ai cH w) else false
def bY:List UInt8->List (List UInt8)->Bool
 |[],[]=>true
 |c::cs,w::ws=>gu c w && bY cs ws
 |_,_=>false
def gx:List (List UInt8×List UInt8×Bool):=[(cT,[110],true),(bM,[110,110],true),(cN,[110,110],true),(bu,[110,110],true),(cC,[],true),(eM,[110,97],false),(eM,[110,97,111,97],false),(eD,[110,97],false),(iP,[97],false),(dL,[],false),(eZ,[97],false),(gy,[],false)]
def dH(k:Nat):List UInt8×List UInt8×Bool:=gx.getD k ([],[],false)
def bT(ws:List (List UInt8))(k:Nat):Bool:=ws.getD 0 []==(dH k).1 && bY (dH k).2.1 (ws.drop 1)
def bX:∀(cs:List UInt8) (ws:List (List UInt8)),bY cs ws=true->ws.length=cs.length
 |[],[],_=>rfl
 |c::cs,w::ws,h=>by simp only[bY,Bool.and_eq_true]at h;simp[bX cs ws h.2]
 |[],_::_,h=>by simp[bY]at h
 |_::_,[],h=>by simp[bY]at h
def ip:∀(cs:List UInt8) (ws:List (List UInt8)),ws.length=cs.length->(bY cs ws=true ↔ ∀i,i<cs.length->gu (cs.getD i 0) (ws.getD i [])=true)
 |[],[],_=>by simp[bY]
 |c::cs,w::ws,h=>by
  simp only[bY,Bool.and_eq_true,ip cs ws (by simpa using h),List.length_cons];refine⟨λ⟨h1,h2⟩ i hi=>?_,λg=>⟨by simpa using g 0 (by omega),λi hi=>by simpa using g (i+1) (by omega)⟩⟩
  match i with
  |0=>simpa using h1
  |i+1=>simpa using h2 i (by omega)
 |[],_::_,h=>by simp at h
 |_::_,[],h=>by simp at h
def gV(ws:List (List UInt8))(a0:ws≠[]):aq ws=true ↔ ∃k,k<12/\bT ws k=true:=by
 have e12:(∃k,k<12/\bT ws k=true) ↔ bT ws 0=true\/bT ws 1=true\/bT ws 2=true\/bT ws 3=true\/bT ws 4=true\/bT ws 5=true\/bT ws 6=true\/bT ws 7=true\/bT ws 8=true\/bT ws 9=true\/bT ws 10=true\/bT ws 11=true:=by
  constructor
  ·rintro⟨k,hk,h⟩
   rcases(show k=0\/k=1\/k=2\/k=3\/k=4\/k=5\/k=6\/k=7\/k=8\/k=9\/k=10\/k=11 by omega) with rfl|rfl|rfl|rfl|rfl|rfl|rfl|rfl|rfl|rfl|rfl|rfl<;>simp[h]
  rintro(h|h|h|h|h|h|h|h|h|h|h|h)
  ·exact⟨0,by omega,h⟩
  ·exact⟨1,by omega,h⟩
  ·exact⟨2,by omega,h⟩
  ·exact⟨3,by omega,h⟩
  ·exact⟨4,by omega,h⟩
  ·exact⟨5,by omega,h⟩
  ·exact⟨6,by omega,h⟩
  ·exact⟨7,by omega,h⟩
  ·exact⟨8,by omega,h⟩
  ·exact⟨9,by omega,h⟩
  ·exact⟨10,by omega,h⟩
  exact⟨11,by omega,h⟩
 rw[e12]
 match ws,a0 with
 |[a],_=>simp[aq,bT,dH,gx,bY];grind
 |[a,b],_=>simp[aq,bT,dH,gx,bY,gu];grind
 |[a,b,c],_=>simp[aq,bT,dH,gx,bY,gu];grind
 |[a,b,c,d],_=>simp[aq,bT,dH,gx,bY,gu]
 |[a,b,c,d,e],_=>simp[aq,bT,dH,gx,bY,gu];grind
 |a::b::c::d::e::f::r,_=>simp[aq,bT,dH,gx,bY,gu]
end Fl
namespace Fl
structure MS where
 bN:List Nat
 jt:List (Nat×Nat)
 fuel:Nat
def u32:Nat:=4294967296
def lM(vs:List Nat)(a:dM):Nat:=if a.var then vs.getD a.v 0 else a.v % u32
def oI(o:Int)(x y:Nat):Nat:=
 if o=0 then(x+y) % u32 else if o=1 then(x+u32 - y) % u32 else if o=2 then(x*y) % u32 else if o=3 then(if x<y then 1 else 0) else if o=4 then(if x=y then 1 else 0) else x
def nM(vs:List Nat)(e:dd):Nat:=if e.op= -1 then lM vs e.a else oI e.op (lM vs e.a) (lM vs e.b)
def run:Nat->List aa->MS->Bool×MS
 |0,_,m=>(false,m)
 |_+1,[],m=>(true,m)
 |n+1,s::rest,m=>
  if m.fuel=0 then(false,m) else
  let v:=nM m.bN s.e
  if s.kind=3 then run n rest ⟨m.bN.set s.x v,m.jt,m.fuel - 1⟩
  else if s.kind=4 then run n rest ⟨m.bN,m.jt++[(s.x,v)],m.fuel - 1⟩
  else if s.kind=5 then
   if(run n (if v=0 then s.aJ else s.aX) ⟨m.bN,m.jt,m.fuel - 1⟩).1=true then run n rest (run n (if v=0 then s.aJ else s.aX) ⟨m.bN,m.jt,m.fuel - 1⟩).2
   else run n (if v=0 then s.aJ else s.aX) ⟨m.bN,m.jt,m.fuel - 1⟩
  else if v=0 then run n rest ⟨m.bN,m.jt,m.fuel - 1⟩
  else if(run n s.aX ⟨m.bN,m.jt,m.fuel - 1⟩).1=true then run n (s::rest) (run n s.aX ⟨m.bN,m.jt,m.fuel - 1⟩).2
  else run n s.aX ⟨m.bN,m.jt,m.fuel - 1⟩
def aS.run(p:aS)(cells:List Nat)(fuel:Nat):Bool×MS:=Fl.run (fuel+1) p.aX ⟨cells++List.replicate p.am 0,[],fuel⟩
def dU(nv:Nat)(a:dM):Prop:=if a.var=true then a.v<nv else a.v<=999999999
def cX(nv:Nat)(e:dd):Prop:= -1<=e.op/\e.op<=4/\dU nv e.a/\dU nv e.b
def eG(nv nc:Nat)(s:aa):Prop:=(s.kind=3/\s.x<nv)\/(s.kind=4/\s.x<nc)\/s.kind=5\/(s.kind=6/\s.aJ=[])
def aT(nv nc:Nat):Nat->List aa->Prop
 |0,l=>l=[]
 |d+1,l=>∀s∈l,eG nv nc s/\cX nv s.e/\aT nv nc d s.aX/\aT nv nc d s.aJ
def dU.mono{nv nv':Nat}(h:nv<=nv'){a:dM}(ha:dU nv a):dU nv' a:=by
 unfold dU at ha⊢
 split<;>simp_all<;>omega
def cX.mono{nv nv':Nat}(h:nv<=nv'){e:dd}(he:cX nv e):cX nv' e:=⟨he.1,he.2.1,he.2.2.1.mono h,he.2.2.2.mono h⟩
def aT.mono{nv nv' nc:Nat}(h:nv<=nv'):∀{d:Nat} {l:List aa},aT nv nc d l->aT nv' nc d l
 |0,_,hl=>hl
 |d+1,l,hl=>λs hs=>by
  obtain⟨h1,h2,h3,h4⟩:=hl s hs;refine⟨?_,h2.mono h,aT.mono h h3,aT.mono h h4⟩;rcases h1 with h1|h1
  ·exact .inl ⟨h1.1,by omega⟩
  exact .inr h1
end Fl
open Go.RowKit
def zz8{k:IntKind}{a b:Int}(h:a=b):Ending.returned (.int k a)=.returned (.int k b):=by rw[h]
def Zc{a b:Bool}(h:a=b):Ending.returned (.bool a)=.returned (.bool b):=by rw[h]
def zsv(s:ByteArray)(k:Nat)(h:k<s.size):s.data.toList.take (k+1)=s.data.toList.take k++[s[k]]:=by
 rw[List.take_succ_eq_append_getElem (by simpa using h)];rfl
def zp7(s:ByteArray)(k:Nat)(h:¬k<s.size):s.data.toList.take k=s.data.toList:=by
 rw[List.take_of_length_le];simp;exact Nat.le_of_not_lt h
def mem_at(s:ByteArray)(k:Nat)(h:k<s.size):s[k]∈s.data.toList:=by
 have:s[k]=s.data.toList[k]'(by simpa using h):=rfl;rw[this];exact List.getElem_mem _
def ziv{k:IntKind}{a b:Int}{p q:Bool}(h:a=b)(h':p=q):Ending.returned (.tuple #[.int k a,.bool p])=.returned (.tuple #[.int k b,.bool q]):=by rw[h,h']
def yt6(c:UInt8):Fl.fW c=true ↔ (97:Int)<=(c.toNat:Int)/\(c.toNat:Int)<=122:=by
 simp[Fl.fW,UInt8.le_iff_toNat_le];omega
def zf6(c:UInt8):Fl.dV c=true ↔ (48:Int)<=(c.toNat:Int)/\(c.toNat:Int)<=57:=by
 simp[Fl.dV,UInt8.le_iff_toNat_le];omega
def zkv(p:UInt8->Bool)(s:ByteArray)(k:Nat)(h:k<s.size)(ha:(s.data.toList.take k).all p=true)(hp:p s[k]=true):(s.data.toList.take (k+1)).all p=true:=by
 rw[zsv s k h,List.all_append,ha];simpa using hp
def yt7(p:UInt8->Bool)(s:ByteArray)(k:Nat)(h:k<s.size)(hp:¬p s[k]=true):s.data.toList.all p=false:=by
 rw[Bool.eq_false_iff];intro aK;exact hp (List.all_eq_true.1 aK _ (mem_at s k h))
def zt3(s:ByteArray)(m k:Nat)(h:k<s.size)(hp:(s[k].toNat:Int)<48\/57<(s[k].toNat:Int)):Fl.bZ s.data.toList m=(0,false):=by
 unfold Fl.bZ;rw[yt7 Fl.dV s k h (by rw[zf6];omega)];rfl
def ysw(s:ByteArray)(m v:Nat)(h:s.data.toList.all Fl.dV=true)(hv:Fl.val (s.data.toList.take m)=v):Fl.bZ s.data.toList m=(v,Fl.eR s.data.toList m):=by
 unfold Fl.bZ;rw[if_pos h,hv]
def yn4(l:List UInt8)(h:0<l.length):l.headD 0=l[0]:=by
 match l,h with
 |a::l,_=>rfl
def zav(s:ByteArray)(h:0<s.size):s.data.toList.headD 0=s[0]:=by
 rw[yn4 _ (by simpa using h)];rfl
def yj6(s:ByteArray)(m:Nat)(h:0<s.size)(h2:s.size<=m)(h3:(s[0].toNat:Int)=48):Fl.eR s.data.toList m=((s.size:Int)==1):=by
 have e:s.data.toList.length=s.size:=by simp
 have e2:s[0]=48:=by rw[<-UInt8.toNat_inj];show s[0].toNat=48;omega
 unfold Fl.eR;rw[zav s h,e,e2,decide_eq_true h,decide_eq_true h2];rw[Bool.eq_iff_iff];simp;omega
def ysv(s:ByteArray)(m:Nat)(h:0<s.size)(h2:s.size<=m)(h3:¬(s[0].toNat:Int)=48):Fl.eR s.data.toList m=true:=by
 have e:s.data.toList.length=s.size:=by simp
 have e2:s[0]≠48:=by intro hh;apply h3;rw[hh];rfl
 unfold Fl.eR;rw[zav s h,e,decide_eq_true h,decide_eq_true h2];simp[e2]
def yr0(s:ByteArray)(m:Nat)(h2:¬s.size<=m):Fl.eR s.data.toList m=false:=by
 have e:s.data.toList.length=s.size:=by simp
 unfold Fl.eR;rw[e,decide_eq_false h2];simp
def yr1(s:ByteArray)(m:Nat)(h2:¬0<s.size):Fl.eR s.data.toList m=false:=by
 have e:s.data.toList.length=s.size:=by simp
 unfold Fl.eR;rw[e,decide_eq_false h2];simp
def yr2(s:ByteArray)(m:Nat)(w:World)(hs:s.size<=maxLen)(hm:m<=10):Cq 26 #[.string s,Iq m] w λe w'=>e=.returned (.tuple #[Iq (Fl.bZ s.data.toList m).1,.bool (Fl.bZ s.data.toList m).2])/\w'=w:=by
 unfold maxLen at hs
 go_enter func26,ntmps26
 go_wp2
 go_loop [6,7] (λv i=>∃k:Nat,k<=s.size/\i=Iq k/\(s.data.toList.take k).all Fl.dV=true/\v=Iq (Fl.val ((s.data.toList.take k).take m))) (λ_ i=>s.size - (intOf i).toNat)
 case atStart=>exact⟨0,Nat.zero_le _,rfl,rfl,by simp[Fl.val]⟩
 case round=>
  obtain⟨k,hk,rfl,aK,rfl⟩:=hrel;have HA:=Zz aK;have hv:Fl.val ((s.data.toList.take k).take m)<10000000000:=Fl.nX _ m (by rw[List.all_eq_true]at aK⊢;intro x hx;exact aK x (List.mem_of_mem_take hx)) (by simp;omega) hm;clear aK;generalize hg:Fl.val ((s.data.toList.take k).take m)=v at*;have HG:=Zz hg;clear hg
  by_cases a0:k<s.size
  ·by_cases b0:k<m
   ·go_wp2
    ·go_ret2;exact⟨by rw[zt3 s m k a0 (by omega)];rfl,rfl⟩
    ·go_round
     case rel=>
      refine⟨k+1,by omega,by go_num,zkv _ s k a0 HA (by rw[zf6];omega),?_⟩;have h1:=HG.out;rw[List.take_of_length_le (by simp;omega)]at h1;rw[List.take_of_length_le (by simp;omega),zsv s k a0,Fl.lW,h1]
      congr 1;omega
     case measure=>simp[intOf];omega
    go_ret2;exact⟨by rw[zt3 s m k a0 (by omega)];rfl,rfl⟩
   go_wp2
   ·go_ret2;exact⟨by rw[zt3 s m k a0 (by omega)];rfl,rfl⟩
   ·go_round
    case rel=>
     refine⟨k+1,by omega,by go_num,zkv _ s k a0 HA (by rw[zf6];omega),?_⟩;have h1:=HG.out;rw[List.take_take,Nat.min_eq_left (by omega)]at h1⊢;rw[h1]
    case measure=>simp[intOf];omega
   go_ret2;exact⟨by rw[zt3 s m k a0 (by omega)];rfl,rfl⟩
  have HN:Hid (Fl.bZ s.data.toList m=(v,Fl.eR s.data.toList m)):=ysw s m v (by rw[<-zp7 s k a0];exact HA) (by have:=HG.out;rwa [zp7 s k a0]at this);go_wp2
  ·go_ret2;exact⟨by rw[HN.out];exact ziv rfl (yj6 s m (by assumption) (by assumption) (by assumption)).symm,rfl⟩
  ·go_ret2;exact⟨by rw[HN.out];exact ziv rfl (ysv s m (by assumption) (by assumption) (by assumption)).symm,rfl⟩
  ·go_ret2;exact⟨by rw[HN.out];exact ziv rfl (yr0 s m (by assumption)).symm,rfl⟩
  go_ret2;exact⟨by rw[HN.out];exact ziv rfl (yr1 s m (by assumption)).symm,rfl⟩
end Go.Proofs.YtfhpibppblbgcaaGreatDoor
