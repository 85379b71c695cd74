import Derived.Test.YtgmbnnpnefniiaaGreatDoorM00
import Derived.Test.YtgmbnnpnefniiaaGreatDoorM01
import Derived.Lib.Split
import Derived.Lib.ItoaNum
import Derived.WalkSpells
import Derived.WalkLawsBesides
import Derived.Laws.RangeAny
import Derived.RegionTactic
import Derived.Lib.Strings
set_option linter.all false
set_option maxRecDepth 100000
set_option maxHeartbeats 40000000
namespace Go.Proofs.YtgmbnnpnefniiaaGreatDoor
open Go.Proofs.Tryz List World Value
variable{B B' base n k a b:Nat}{w w' W:World}{v:Value}{xs:Is}{e:TypeId}{ws:List L}
namespace Fl
structure ar where
 kind:Int
 ak:Int
 a:Int
 b:Int
 c:Int
 ae:Is
def aP(k:Int):Int:=
 if k=0\/k=1 then 1 else if k=3\/k=4\/k=6 then 2 else if k=2\/k=5 then 3 else if k=7 then -1 else -2
def fD(c:UInt8):Bool:=97<=c && c<=122
def dg(c:UInt8):Bool:=48<=c && c<=57
def cd(l:L):Bool:=l.all fD && (decide (0<l.length) && decide (l.length<=6))
def val(l:L):Nat:=l.foldl (λv c=>10*v+(c.toNat - 48)) 0
def eO(l:L)(most:Nat):Bool:=decide (0<l.length) && (decide (l.length<=most) && (l.headD 0 !=48||decide (l.length=1)))
def bm(l:L)(most:Nat):Nat×Bool:=if l.all dg then(val (l.take most),eO l most) else(0,false)
def bx(i:Nat)(w:L):List L->Int
 |[]=> -1
 |x::r=>if x==w then(i:Int) else bx (i+1) w r
def aj(l:List L)(w:L):Int:=bx 0 w l
def atom(l:L):Bool:=cd l||(bm l 9).2
def cW:List L:=[[43],[45],[42],[60],[61,61]]
def ct:L:=[108,101,118,101,108]
def bY:L:=[98,101,108,111,119]
def cV:L:=[99,101,108,108]
def bz:L:=[99,104,97,110,110,101,108]
def cJ:L:=[98,101,103,105,110]
def dO:L:=[101,108,115,101]
def gv:L:=[101,110,100]
def ig:L:=[105,102]
def ei:L:=[119,104,105,108,101]
def eH:L:=[111,117,116]
def eP:L:=[115,101,116]
def aq:List L->Bool
 |[a]=>a==cJ||a==dO||a==gv
 |[a,b]=>(a==ct && cd b)||((a==ig||a==ei) && atom b)
 |[a,b,c]=>((a==bY||a==cV||a==bz) && cd b && cd c)||((a==eH||a==eP) && cd b && atom c)
 |[a,b,c,d,e]=>a==eP && cd b && atom c && decide (0<=aj cW d) && atom e
 |_=>false
def ie(w:L)(l:List L):∀(i k:Nat),(∀j,j<k->(l.getD j []==w)=false)->k<l.length->(l.getD k []==w)=true->bx i w l=((i+k:Nat):Int):=by
 induction l with
 |nil=>intro i k _ h;simp at h
 |cons x r ih=>
  intro i k hn hk hw
  match k with
  |0=>simp only[getD_cons_zero]at hw;simp[bx,hw]
  |k+1=>
   have h0:=hn 0 (by omega);simp only[getD_cons_zero]at h0;simp only[bx,h0];rw[U (by simp),ih (i+1) k (λj hj=>by simpa using hn (j+1) (by omega)) (by simpa using hk) (by simpa using hw)];omega
def gE(w:L)(l:List L):∀(i:Nat),(∀j,j<l.length->(l.getD j []==w)=false)->bx i w l= -1:=by
 induction l with
 |nil=>intro i _;rfl
 |cons x r ih=>
  intro i hn;have h0:=hn 0 (by simp);simp only[getD_cons_zero]at h0;simp only[bx,h0];rw[U (by simp),ih (i+1) (λj hj=>by simpa using hn (j+1) (by simpa using hj))]
def kt(w:L)(l:List L)(k:Nat)(h:∀j,j<k->(l.getD j []==w)=false)(hk:k<l.length)(hw:(l.getD k []==w)=true):aj l w=(k:Int):=by
 have:=ie w l 0 k h hk hw;simpa [aj] using this
def gD(w:L)(l:List L)(h:∀j,j<l.length->(l.getD j []==w)=false):aj l w= -1:=gE w l 0 h
def kN(l:L)(c:UInt8):val (l++[c])=10*val l+(c.toNat - 48):=by
 simp[val,foldl_append]
def kM(l:L):∀v,l.all dg=true->l.foldl (λv c=>10*v+(c.toNat - 48)) v<(v+1)*10 ^ l.length:=by
 induction l with
 |nil=>intro v _;simp
 |cons c l ih=>
  intro v h;rw[all_cons,Qk]at h;have h2:c.toNat - 48<10:=by
   have:=h.1;simp[dg,UInt8.le_iff_toNat_le]at this;omega
  have h1:=ih (10*v+(c.toNat - 48)) h.2;rw[foldl_cons,length_cons,Nat.pow_succ];refine Qj h1 ?_;rw[Nat.mul_comm (10 ^ l.length) 10,<-Nat.mul_assoc];exact Nat.mul_le_mul_right _ (by omega)
def mM(l:L)(h:l.all dg=true):val l<10 ^ l.length:=by
 have:=kM l 0 h;simpa [val] using this
def mL(l:L)(m:Nat)(h:l.all dg=true)(hm:l.length<=m)(a0:m<=10):val l<10000000000:=by
 have h1:=mM l h;have h2:10 ^ l.length<=10 ^ 10:=Nat.pow_le_pow_right (by omega) (by omega);omega
end Fl
section
open Go.RowKit
def Zw(B:Nat)(w:World)(v:Value)(xs:Is):Prop:=
 ∃ao cap,v=A ao xs.length cap/\xs.length<=cap/\xs.length<=maxLen/\
  (xs≠[]->∃b off,ao=some (O b off)/\b<B/\∀i,i<xs.length->w.cell? (O b (off+i))=some (I (xs.getD i 0)))
def Zw.below(h:Zw B w v xs)(hb:Below B w w'):Zw B w' v xs:=by
 obtain⟨ao,cap,hv,hc,hl,hx⟩:=h;refine⟨ao,cap,hv,hc,hl,λc0=>?_⟩;obtain⟨b,off,ha,b0,a0⟩:=hx c0;exact⟨b,off,ha,b0,λi hi=>cT hb b0 (a0 i hi)⟩
def Zw.mono(h:Zw B w v xs)(hB:B<=B'):Zw B' w v xs:=by
 obtain⟨ao,cap,hv,hc,hl,hx⟩:=h;refine⟨ao,cap,hv,hc,hl,λb0=>?_⟩;obtain⟨b,off,ha,c0,a0⟩:=hx b0;exact⟨b,off,ha,by omega,a0⟩
def Zw.nil(B:Nat)(w:World):Zw B w K []:=⟨none,0,rfl,by simp,by simp[maxLen],λh=>absurd rfl h⟩
def Zw.size{B:Nat}{w:World}{v:Value}{xs:Is}(h:Zw B w v xs):Zw w.heap.size w v xs:=by
 obtain⟨ao,cap,hv,hc,hl,hx⟩:=h;refine⟨ao,cap,hv,hc,hl,λb0=>?_⟩;obtain⟨b,off,ha,c0,a0⟩:=hx b0;have:0<xs.length:=length_pos_iff.2 b0;exact⟨b,off,ha,Qe w _ (a0 0 this),a0⟩
def Zw.dp(h:w.ownsRow base e 1 v n (xs.map (int .i64))):Zw w.heap.size w v xs:=by
 have hl:xs.length=n:=by have:=h.1;simpa using this
 rcases h.2 with⟨rfl,h0⟩|⟨g,cap,cur,rfl,hb,hg,a0,b0,c0,ht⟩
 ·have:xs=[]:=Qi (by omega)
  subst this;exact Zw.nil _ _
 refine⟨_,cap,by rw[hl],by omega,by omega,λd0=>⟨g,0,rfl,(Array.getElem?_eq_some_iff.1 hg).1,λi hi=>?_⟩⟩;have h1:=h.cells (g:=g) rfl i (I (xs.getD i 0)) (by simp[Qa,hi])
 have h2:((O g 0):Addr).add i=(O g (0+i)):=by unfold Addr.add;split<;>simp_all
 rw[h2]at h1;exact h1
def Zw.fresh(xs:Is)(e:TypeId)(hl:xs.length<=maxLen)(B:Nat)(hB:w.heap.size<B):Zw B (w.alloc (.cells (xs.map (int .i64)).toArray e)) (Sq w.heap.size 0 xs.length xs.length) xs:=by
 refine⟨_,_,rfl,lE,hl,λ_=>⟨_,_,rfl,hB,λi hi=>?_⟩⟩;rw[cell?_alloc_new];simp[Qa,hi]
def Zw.gC(w:World)(o:Obj)(xs:Is)(arr:Array Value)(e:TypeId)(n:Nat)(a0:arr=(xs.map (int .i64)).toArray)(hn:n=xs.length)(hl:xs.length<=maxLen):
  Zw ((w.alloc o).alloc (.cells arr e)).heap.size ((w.alloc o).alloc (.cells arr e)) (Sq (w.heap.size+1) 0 n n) xs:=by
 subst a0 hn;have:=Zw.fresh (w:=w.alloc o) xs e hl ((w.alloc o).alloc (.cells (xs.map (int .i64)).toArray e)).heap.size (by simp)
 rwa [size_alloc w o]at this
def prem(n:Fl.ar):Is:=
 if n.kind=2 then [n.b,n.c] else if n.kind=3\/n.kind=4 then [n.b] else if n.kind=5 then [n.a,n.b,n.c] else if n.kind=6 then [n.a,n.b] else if n.kind=7 then n.ae else []
def Vt(n:Fl.ar)(lv:Value):Value:=.agg #[I n.kind,I n.ak,I n.a,I n.b,I n.c,lv]
end
namespace Fl
def dd:Nat->Nat->L
 |0,v=>[UInt8.ofNat v]
 |f+1,v=>if v<128 then [UInt8.ofNat v] else UInt8.ofNat (v % 128+128)::dd f (v / 128)
def aG(v:Nat):L:=dd 9 v
def gB(f:Nat):∀v,(dd f v).length<=f+1:=by
 induction f with
 |zero=>intro v;simp[dd]
 |succ f ih=>
  intro v;simp only[dd];split
  ·simp
  have:=ih (v / 128);simp only[length_cons];omega
def dN(at_ len k v unit:Nat):L->Int×Int×Int
 |[]=>(0,-1,(len:Int))
 |c::r=>
  if(c.toNat=0/\0<k)\/2147483648<=v+c.toNat % 128*unit\/(k=4/\128<=c.toNat) then(0,-1,(at_:Int))
  else if c.toNat<128 then(((v+c.toNat % 128*unit:Nat):Int),((at_+k+1:Nat):Int),0)
  else dN at_ len (k+1) (v+c.toNat % 128*unit) (unit*128) r
def num(s:L)(at_:Nat):Int×Int×Int:=dN at_ s.length 0 0 1 (s.drop at_)
def lD(at_ len:Nat)(l:L):∀k v unit,at_+k+l.length=len->
  ((dN at_ len k v unit l).2.1= -1/\(dN at_ len k v unit l).1=0/\0<=(dN at_ len k v unit l).2.2/\(dN at_ len k v unit l).2.2<=len)\/
  ((at_+k:Int)<(dN at_ len k v unit l).2.1/\(dN at_ len k v unit l).2.1<=len/\0<=(dN at_ len k v unit l).1/\(dN at_ len k v unit l).1<2147483648/\(dN at_ len k v unit l).2.2=0):=by
 induction l with
 |nil=>intro k v unit h;left;simp[dN]
 |cons c r ih=>
  intro k v unit h;simp only[length_cons]at h
  by_cases h1:(c.toNat=0/\0<k)\/2147483648<=v+c.toNat % 128*unit\/(k=4/\128<=c.toNat)
  ·left;simp only[dN,G h1];refine⟨by trivial,by trivial,by omega,by omega⟩
  by_cases h2:c.toNat<128
  ·right;simp only[dN,U h1,G h2];refine⟨by omega,by omega,by omega,by omega,by trivial⟩
  simp only[dN,U h1,U h2];rcases ih (k+1) (v+c.toNat % 128*unit) (unit*128) (by omega) with h3|h3
  ·left;exact h3
  right;obtain⟨a,b,c,d⟩:=h3;exact⟨by omega,b,c,d⟩
def cA(s:L)(at_:Nat)(h:at_<=s.length):
  ((num s at_).2.1= -1/\(num s at_).1=0/\0<=(num s at_).2.2/\(num s at_).2.2<=s.length)\/((at_:Int)<(num s at_).2.1/\(num s at_).2.1<=s.length/\0<=(num s at_).1/\(num s at_).1<2147483648/\(num s at_).2.2=0):=by
 have:=lD at_ s.length (s.drop at_) 0 0 1 (by simp;omega);simpa [num] using this
def dv(s:L):Nat->Nat->Is->Is×Int×Int
 |0,at_,acc=>(acc,(at_:Int),0)
 |n+1,at_,acc=>if(num s at_).2.1<0 then([],-1,(num s at_).2.2) else dv s n (num s at_).2.1.toNat (acc++[(num s at_).1])
def bW(s:L)(at_ n:Nat):Is×Int×Int:=dv s n at_ []
def kL(s:L)(n:Nat):∀at_ acc,at_<=s.length->(∀x∈acc,0<=x/\x<2147483648)->
  ((dv s n at_ acc).2.1= -1/\(dv s n at_ acc).1=[]/\0<=(dv s n at_ acc).2.2/\(dv s n at_ acc).2.2<=s.length)\/
  ((at_:Int)<=(dv s n at_ acc).2.1/\(dv s n at_ acc).2.1<=s.length/\(dv s n at_ acc).1.length=acc.length+n/\(∀x∈(dv s n at_ acc).1,0<=x/\x<2147483648)):=by
 induction n with
 |zero=>intro at_ acc h ha;right;simp only[dv];exact⟨by omega,by omega,by simp,ha⟩
 |succ n ih=>
  intro at_ acc h ha;rcases cA s at_ h with h1|h1
  ·left;have h2:(num s at_).2.1<0:=by omega
   simp only[dv,G h2];exact⟨by trivial,by trivial,h1.2.2.1,h1.2.2.2⟩
  obtain⟨a1,a2,a3,a4,a5⟩:=h1;have h2:¬(num s at_).2.1<0:=(by omega);simp only[dv,U h2];rcases ih (num s at_).2.1.toNat (acc++[(num s at_).1]) (by omega) (by intro x hx;simp only[mem_append,mem_singleton]at hx;rcases hx with hx|hx;exact ha x hx;subst hx;exact⟨a3,a4⟩) with h3|h3
  ·left;exact h3
  right;obtain⟨b1,b2,b3,b4⟩:=h3
  exact⟨by omega,b2,by rw[b3];simp;omega,b4⟩
def ey(s:L)(at_ n:Nat)(h:at_<=s.length):
  ((bW s at_ n).2.1= -1/\(bW s at_ n).1=[]/\0<=(bW s at_ n).2.2/\(bW s at_ n).2.2<=s.length)\/
  ((at_:Int)<=(bW s at_ n).2.1/\(bW s at_ n).2.1<=s.length/\(bW s at_ n).1.length=n/\(∀x∈(bW s at_ n).1,0<=x/\x<2147483648)):=by
 have:=kL s n at_ [] h (by simp);simpa [bW] using this
def bS(x y:ar):Bool:=x.kind==y.kind && (x.ak==y.ak && (x.a==y.a && (x.b==y.b && (x.c==y.c && x.ae==y.ae))))
def dG(x y:ar):bS x y=true ↔ x=y:=by
 obtain⟨a,b,c,d,e,f⟩:=x;obtain⟨a',b',c',d',e',f'⟩:=y;simp[bS]
def cf(x:Int):Bool:=decide (0<=x) && decide (x<2147483648)
def dM(f i x:Int):Bool:=cf x && (decide (i<f)||decide (x=0))
def bT(n:ar):Bool:=
 decide (aP n.kind≠ -2) && (cf n.ak && (decide (n.ae.length<=16) && (dM (aP n.kind) 0 n.a && (dM (aP n.kind) 1 n.b && (dM (aP n.kind) 2 n.c && (n.ae.all cf && (decide (aP n.kind= -1)||decide (n.ae=[]))))))))
def eY(k:Int): -2<=aP k/\aP k<=3:=by unfold aP;repeat' split<;>omega
def aR(l:Is):L:=l.flatMap λx=>aG x.toNat
def dL(n:ar):Is:=if aP n.kind<0 then n.ae else [n.a,n.b,n.c].take (aP n.kind).toNat
def aC(n:ar):L:=
 UInt8.ofNat n.kind.toNat::(aG n.ak.toNat++((if aP n.kind<0 then aG n.ae.length else [])++aR (dL n)))
def bH(v:Nat):(aG v).length<=10:=gB 9 v
def dx(l:Is):(aR l).length<=10*l.length:=by
 induction l with
 |nil=>simp[aR]
 |cons x l ih=>have:=bH x.toNat;simp only[aR,flatMap_cons,length_append,length_cons]at ih⊢;omega
def da(l:Is)(x:Int):aR (l++[x])=aR l++aG x.toNat:=by simp[aR]
def dT(l:Is)(j:Nat)(h:j<l.length):l.take (j+1)=l.take j++[l.getD j 0]:=by
 rw[take_succ_eq_append_getElem h,Qa,Qb h];rfl
end Fl
section
open Go.RowKit
namespace Fl
def fE:ar:=⟨0,0,0,0,0,[]⟩
def nth(l:List ar)(k:Nat):ar:=l.getD k fE
def dP(l:List ar)(k:Nat):Bool:= !bT (nth l k)||((prem (nth l k)).any (λp=>decide ((k:Int)<=p))||(range k).any (λi=>bS (nth l i) (nth l k)))
def used(l:List ar)(k:Nat):Bool:=(range l.length).any (λj=>decide (k<j) && (prem (nth l j)).any (·==(k:Int)))
def aJ(l:List ar):Int:=
 match (range l.length).find? (dP l) with
 |some k=>(k:Int)
 |none=>match (range (l.length - 1)).find? (λk=> !used l k) with
  |some k=>(k:Int)
  |none=> -1
def cI(p:Nat->Bool)(n k:Nat)(h:∀j,j<k->p j=false)(hk:k<n)(hp:p k=true):(range n).find? p=some k:=by
 rw[find?_range_eq_some];exact⟨hp,by simpa using hk,λj hj=>by simp[h j hj]⟩
def dh(p:Nat->Bool)(n:Nat)(h:∀j,j<n->p j=false):(range n).find? p=none:=by
 rw[find?_eq_none];intro x hx;rw[h x (by simpa using hx)];simp
end Fl
def Zl(B:Nat)(w:World)(v:Value)(ns:List Fl.ar):Prop:=
 ∃ao cap,v=A ao ns.length cap/\ns.length<=cap/\ns.length<=maxLen/\
  (ns≠[]->∃b off,ao=some (O b off)/\b<B/\∀i,i<ns.length->∃lv,Zw B w lv (Fl.nth ns i).ae/\
   w.cell? (O b (off+i*6))=some (I (Fl.nth ns i).kind)/\w.cell? (O b (off+i*6+1))=some (I (Fl.nth ns i).ak)/\w.cell? (O b (off+i*6+2))=some (I (Fl.nth ns i).a)/\
   w.cell? (O b (off+i*6+3))=some (I (Fl.nth ns i).b)/\w.cell? (O b (off+i*6+4))=some (I (Fl.nth ns i).c)/\w.cell? (O b (off+i*6+5))=some lv)
def Zl.below{B:Nat}{w w':World}{v:Value}{ns:List Fl.ar}(h:Zl B w v ns)(hb:Below B w w'):Zl B w' v ns:=by
 obtain⟨ao,cap,hv,hc,hl,hx⟩:=h;refine⟨ao,cap,hv,hc,hl,λc0=>?_⟩;obtain⟨b,off,ha,b0,a0⟩:=hx c0;refine⟨b,off,ha,b0,λi hi=>?_⟩;obtain⟨lv,h0,h1,h2,h3,h4,h5,h6⟩:=a0 i hi;have q:∀o,w'.cell? (O b o)=w.cell? (O b o):=λo=>hb.cell (p:=(O b o)) b0;exact⟨lv,h0.below hb,(q _).trans h1,(q _).trans h2,(q _).trans h3,(q _).trans h4,(q _).trans h5,(q _).trans h6⟩
def Zl.mono{B B':Nat}{w:World}{v:Value}{ns:List Fl.ar}(h:Zl B w v ns)(hB:B<=B'):Zl B' w v ns:=by
 obtain⟨ao,cap,hv,hc,hl,hx⟩:=h;refine⟨ao,cap,hv,hc,hl,λb0=>?_⟩;obtain⟨b,off,ha,c0,a0⟩:=hx b0;refine⟨b,off,ha,by omega,λi hi=>?_⟩;obtain⟨lv,h0,h1⟩:=a0 i hi;exact⟨lv,h0.mono hB,h1⟩
def Zl.at{B:Nat}{w:World}{b off n cap:Nat}{ns:List Fl.ar}(h:Zl B w (Sq b off n cap) ns){i:Nat}(hi:i<ns.length):b<B/\∃lv,Zw B w lv (Fl.nth ns i).ae/\
   w.cell? (O b (off+i*6))=some (I (Fl.nth ns i).kind)/\w.cell? (O b (off+i*6+1))=some (I (Fl.nth ns i).ak)/\w.cell? (O b (off+i*6+2))=some (I (Fl.nth ns i).a)/\
   w.cell? (O b (off+i*6+3))=some (I (Fl.nth ns i).b)/\w.cell? (O b (off+i*6+4))=some (I (Fl.nth ns i).c)/\w.cell? (O b (off+i*6+5))=some lv:=by
 obtain⟨ao,cap',hv,_,_,hx⟩:=h;obtain⟨b',off',ha,b0,a0⟩:=hx (by intro hh;rw[hh]at hi;simp at hi);simp only[slice.injEq]at hv;have:=hv.1.trans ha;simp only[Ql,Addr.mk.injEq]at this;obtain⟨rfl,rfl,_⟩:=this;exact⟨b0,a0 i hi⟩
def Zl.nil(B:Nat)(w:World):Zl B w K []:=⟨none,0,rfl,by simp,by simp[maxLen],λh=>absurd rfl h⟩
namespace Fl
def bt(p k:Nat)(n:ar)(e:Int):ar×Int×Int:=if(prem n).any (λx=>decide ((k:Int)<=x)) then(fE,-1,(p:Int)) else(n,e,0)
def one(s:L)(p k:Nat):ar×Int×Int:=
 if p=s.length then(fE,-1,(p:Int)) else
 let kind:Int:=(s.getD p 0).toNat
 if aP kind= -2 then(fE,-1,(p:Int)) else
 let v:=num s (p+1)
 if v.2.1<0 then(fE,-1,v.2.2) else
 if aP kind= -1 then
  let m:=num s v.2.1.toNat
  if m.2.1<0 then(fE,-1,m.2.2) else
  if 16<m.1 then(fE,-1,v.2.1) else
  let l:=bW s m.2.1.toNat m.1.toNat
  if l.2.1<0 then(fE,-1,l.2.2) else bt p k ⟨kind,v.1,0,0,0,l.1⟩ l.2.1
 else
  let l:=bW s v.2.1.toNat (aP kind).toNat
  if l.2.1<0 then(fE,-1,l.2.2) else bt p k ⟨kind,v.1,l.1.getD 0 0,l.1.getD 1 0,l.1.getD 2 0,[]⟩ l.2.1
end Fl
namespace Fl
def bj(ns:List ar):L:=ns.flatMap aC
def dF(ls:Is)(ns:List ar):L:=[70,80,49]++(aG ls.length++(aR ls++aG ns.length))
def aH(ls:Is)(ns:List ar):L×Bool×Int:=
 if 4<ls.length\/ns.length=0\/200<ns.length then([],false,-1)
 else if ls.all cf=false then([],false,-1)
 else if 0<=aJ ns then([],false,aJ ns)
 else(dF ls ns++bj ns,true,-1)
def iZ(l:List ar)(x:ar):bj (l++[x])=bj l++aC x:=by simp[bj]
def fp(l:List ar)(j:Nat)(h:j<l.length):l.take (j+1)=l.take j++[nth l j]:=by
 rw[take_succ_eq_append_getElem h,nth,Qa,Qb h];rfl
def ff{ns:List ar}(h:aJ ns<0)(k:Nat)(hk:k<ns.length):bT (nth ns k)=true:=by
 unfold aJ at h
 cases hf:(range ns.length).find? (dP ns) with
 |some j=>rw[hf]at h;simp only at h;omega
 |none=>
  rw[find?_eq_none]at hf;have:=hf k (by simpa using hk);simp[dP]at this;exact this.1
def fC{n:ar}(h:bT n=true):(aC n).length<=200:=by
 simp only[bT,Qk,Qn]at h;have h1:=bH n.ak.toNat;have h2:=bH n.ae.length;have h3:=dx (dL n);have h4:(dL n).length<=16:=by
  unfold dL;split
  ·exact h.2.2.1
  simp;omega
 unfold aC;simp only[length_cons,length_append];split<;>simp<;>omega
def gm(l:List ar)(h:∀x∈l,bT x=true):(bj l).length<=200*l.length:=by
 induction l with
 |nil=>simp[bj]
 |cons x r ih=>
  have h1:=fC (h x (by simp));have h2:=ih (λy hy=>h y (by simp[hy]));simp only[bj,flatMap_cons,length_append,length_cons]at h2⊢;omega
def jL{l:List ar}{x:ar}(h:x∈l):∃j,j<l.length/\x=nth l j:=by
 obtain⟨i,hi,rfl⟩:=getElem_of_mem h;exact⟨i,hi,by rw[nth,Qa,Qb hi];rfl⟩
end Fl
namespace Fl
def bV(s:L):Nat->Nat->Nat->Is->List ar->List ar×Is×Int×Int
 |0,_,p,st,acc=>(acc,st,(p:Int),-1)
 |m+1,k,p,st,acc=>
  if(one s p k).2.1<0 then(acc,st,(p:Int),(one s p k).2.2)
  else bV s m (k+1) (one s p k).2.1.toNat (st++[(p:Int)]) (acc++[(one s p k).1])
def bN(s:L)(i:Nat):Bool:=decide (i<s.length) && (s.getD i 0==([70,80,49]:L).getD i 0)
def dy(s:L):Nat:=if bN s 0=false then 0 else if bN s 1=false then 1 else if bN s 2=false then 2 else 3
def decode(s:L):(Is×List ar)×Bool×Int:=
 if dy s<3 then(([],[]),false,(dy s:Int)) else
 let n:=num s 3
 if n.2.1<0 then(([],[]),false,n.2.2) else
 if 4<n.1 then(([],[]),false,3) else
 let l:=bW s n.2.1.toNat n.1.toNat
 if l.2.1<0 then(([],[]),false,l.2.2) else
 let m:=num s l.2.1.toNat
 if m.2.1<0 then(([],[]),false,m.2.2) else
 if m.1<1\/200<m.1 then(([],[]),false,l.2.1) else
 let r:=bV s m.1.toNat 0 m.2.1.toNat [] []
 if 0<=r.2.2.2 then(([],[]),false,r.2.2.2) else
 if r.2.2.1<s.length then(([],[]),false,r.2.2.1) else
 if 0<=aJ r.1 then(([],[]),false,r.2.1.getD (aJ r.1).toNat 0) else((l.1,r.1),true,0)
def iW(s:L)(p k:Nat)(n:ar)(e:Int)(hp:(p:Int)<e)(he:e<=s.length):
  ((bt p k n e).2.1= -1/\0<=(bt p k n e).2.2/\(bt p k n e).2.2<=s.length)\/((p:Int)<(bt p k n e).2.1/\(bt p k n e).2.1<=s.length):=by
 unfold bt;split
 ·left;exact⟨rfl,by simp only;omega,by simp only;omega⟩
 right;exact⟨by simp only;omega,by simp only;omega⟩
def iM(s:L)(p k:Nat)(h:p<=s.length):
  ((one s p k).2.1= -1/\0<=(one s p k).2.2/\(one s p k).2.2<=s.length)\/((p:Int)<(one s p k).2.1/\(one s p k).2.1<=s.length):=by
 unfold one
 by_cases h0:p=s.length
 ·rw[G h0];left;exact⟨rfl,by simp only;omega,by simp only;omega⟩
 rw[U h0];simp only
 by_cases h1:aP ((s.getD p 0).toNat:Int)= -2
 ·rw[G h1];left;exact⟨rfl,by simp only;omega,by simp only;omega⟩
 rw[U h1];have hn:=cA s (p+1) (by omega)
 by_cases h2:(num s (p+1)).2.1<0
 ·rw[G h2];left;exact⟨rfl,by simp only;omega,by simp only;omega⟩
 rw[U h2]
 by_cases h3:aP ((s.getD p 0).toNat:Int)= -1
 ·rw[G h3]
  have hm:=cA s (num s (p+1)).2.1.toNat (by omega)
  by_cases h4:(num s (num s (p+1)).2.1.toNat).2.1<0
  ·rw[G h4];left;exact⟨rfl,by simp only;omega,by simp only;omega⟩
  rw[U h4]
  by_cases h5:16<(num s (num s (p+1)).2.1.toNat).1
  ·rw[G h5];left;exact⟨rfl,by simp only;omega,by simp only;omega⟩
  rw[U h5];have hl:=ey s (num s (num s (p+1)).2.1.toNat).2.1.toNat (num s (num s (p+1)).2.1.toNat).1.toNat (by omega)
  split
  ·left;exact⟨rfl,by simp only;omega,by simp only;omega⟩
  exact iW s p k _ _ (by omega) (by omega)
 rw[U h3];have hl:=ey s (num s (p+1)).2.1.toNat (aP ((s.getD p 0).toNat:Int)).toNat (by omega)
 split
 ·left;exact⟨rfl,by simp only;omega,by simp only;omega⟩
 exact iW s p k _ _ (by omega) (by omega)
def ks(l:List ar):aJ l<(l.length:Int):=by
 unfold aJ
 cases hf:(range l.length).find? (dP l) with
 |some k=>have:=mem_of_find?_eq_some hf;simp at this;simp only;omega
 |none=>
  simp only
  cases hg:(range (l.length - 1)).find? (λk=> !used l k) with
  |some k=>have:=mem_of_find?_eq_some hg;simp at this;simp only;omega
  |none=>simp only;omega
end Fl
namespace Fl
def eN(most:Nat):Nat->L->Option Nat
 |n,[]=>some n
 |n,c::r=>if dg c=false then none else if(most - (c.toNat - 48)) / 10<n then none else eN most (10*n+(c.toNat - 48)) r
def fo(most:Nat)(l:L):Option Nat:=if l=[] then none else if l.headD 0=48/\l.length≠1 then none else eN most 0 l
def eG(c:UInt8):dg c=true ↔ 48<=c.toNat/\c.toNat<=57:=by
 unfold dg;rw[Qk,Qn,Qn,UInt8.le_iff_toNat_le,UInt8.le_iff_toNat_le];rfl
def eE(n:Nat)(l:L):Nat:=l.foldl (λv c=>10*v+(c.toNat - 48)) n
def my(l:L):∀n,n<=eE n l:=by
 induction l with
 |nil=>intro n;exact Nat.le_refl _
 |cons c r ih=>intro n;have:=ih (10*n+(c.toNat - 48));simp only[eE,foldl_cons]at this⊢;omega
def kK(most:Nat)(hm:9<=most)(l:L):∀n,n<=most->eN most n l=if l.all dg=true/\eE n l<=most then some (eE n l) else none:=by
 induction l with
 |nil=>intro n hn;simp[eN,eE,hn]
 |cons c r ih=>
  intro n hn
  cases hd:dg c with
  |false=>simp[eN,hd]
  |true=>
   have hc:=(eG c).1 hd;have hv:eE n (c::r)=eE (10*n+(c.toNat - 48)) r:=rfl;simp only[eN,hd,all_cons,Bool.true_and];rw[U (by simp),hv]
   by_cases hb:(most - (c.toNat - 48)) / 10<n
   ·rw[G hb]
    have:=my r (10*n+(c.toNat - 48));rw[U (by rintro⟨_,h⟩;omega)]
   rw[U hb,ih _ (by omega)]
def kJ(l:L):val l=eE 0 l:=rfl
def gM(l:L):∀n,l.all dg=true->eE n l<(n+1)*10 ^ l.length:=by
 induction l with
 |nil=>intro n _;simp[eE]
 |cons c r ih=>
  intro n h;simp only[all_cons,Qk]at h;have hc:=(eG c).1 h.1;have:=ih (10*n+(c.toNat - 48)) h.2;have e:eE n (c::r)=eE (10*n+(c.toNat - 48)) r:=rfl;rw[e,length_cons,Nat.pow_succ];refine Qj this ?_;rw[Nat.mul_comm (10 ^ r.length) 10,<-Nat.mul_assoc];exact Nat.mul_le_mul_right _ (by omega)
def jX(l:L):∀n,n*10 ^ l.length<=eE n l:=by
 induction l with
 |nil=>intro n;simp[eE]
 |cons c r ih=>
  intro n;have:=ih (10*n+(c.toNat - 48));have e:eE n (c::r)=eE (10*n+(c.toNat - 48)) r:=rfl;rw[e,length_cons,Nat.pow_succ];refine Nat.le_trans ?_ this;rw[Nat.mul_comm (10 ^ r.length) 10,<-Nat.mul_assoc];exact Nat.mul_le_mul_right _ (by omega)
end Fl
end
namespace Fl
def bD(c:UInt8)(st:List L×L)(x:UInt8):List L×L:=if x==c then(st.1++[st.2],[]) else(st.1,st.2++[x])
def fB(c:UInt8)(l:L):List L×L:=l.foldl (bD c) ([],[])
def cut(c:UInt8)(l:L):List L:=(fB c l).1++[(fB c l).2]
def hZ(c:UInt8)(l:L)(x:UInt8):fB c (l++[x])=bD c (fB c l) x:=by simp[fB,foldl_append]
def kr(c:UInt8)(l:L):∀st:List L×L,(l.foldl (bD c) st).1.length<=st.1.length+l.length/\(l.foldl (bD c) st).2.length<=st.2.length+l.length:=by
 induction l with
 |nil=>intro st;simp
 |cons x r ih=>
  intro st;simp only[foldl_cons,length_cons];have h:=ih (bD c st x)
  by_cases hx:(x==c)=true
  ·have h1:(bD c st x).1.length=st.1.length+1:=by simp[bD,hx]
   have h2:(bD c st x).2.length=0:=(by simp[bD,hx]);omega
  have h1:(bD c st x).1.length=st.1.length:=(by simp[bD,hx]);have h2:(bD c st x).2.length=st.2.length+1:=(by simp[bD,hx]);omega
def kI(c:UInt8)(l:L):(fB c l).1.length<=l.length/\(fB c l).2.length<=l.length:=by
 have:=kr c l ([],[]);simpa [fB] using this
end Fl
namespace Fl
def dE(p:L):List L->List L
 |[]=>[p]
 |h::t=>(p++h)::t
def aK(c:UInt8):L->List L
 |[]=>[[]]
 |x::r=>if x==c then []::aK c r else dE [x] (aK c r)
def dU(c:UInt8)(l:L):aK c l≠[]:=by
 cases l with
 |nil=>simp[aK]
 |cons x r=>
  simp only[aK];split
  ·simp
  cases h:aK c r with
  |nil=>simp[dE]
  |cons a b=>simp[dE]
def iY(p q:L)(l:List L)(h:l≠[]):dE p (dE q l)=dE (p++q) l:=by
 cases l with
 |nil=>exact absurd rfl h
 |cons a b=>simp[dE]
def kH(c:UInt8)(l:L):∀d cur,(l.foldl (bD c) (d,cur)).1++[(l.foldl (bD c) (d,cur)).2]=d++dE cur (aK c l):=by
 induction l with
 |nil=>intro d cur;simp[aK,dE]
 |cons x r ih=>
  intro d cur;simp only[foldl_cons]
  by_cases hx:(x==c)=true
  ·have e:bD c (d,cur) x=(d++[cur],[]):=by simp[bD,hx]
   rw[e,ih,aK,G hx]
   cases h:aK c r with
   |nil=>exact absurd h (dU c r)
   |cons a b=>simp[dE]
  have e:bD c (d,cur) x=(d,cur++[x]):=(by simp[bD,hx]);rw[e,ih,aK,U hx,iY _ _ _ (dU c r)]
def kG(c:UInt8)(l:L):cut c l=aK c l:=by
 have:=kH c l [] [];simp only[cut,fB];rw[this,nil_append]
 cases h:aK c l with
 |nil=>exact absurd h (dU c l)
 |cons a b=>simp[dE]
def mz(c b:UInt8)(l:L):([c]:L).isPrefixOf (b::l)=(b==c):=by
 simp only[isPrefixOf,Bool.and_true];rw[Bool.eq_iff_iff,beq_iff_eq,beq_iff_eq];exact eq_comm
def fm(c:UInt8)(l:L):(Lib.index l [c]= -1->aK c l=[l])/\(∀i:Nat,Lib.index l [c]=i->aK c l=l.take i::aK c (l.drop (i+1))/\i<l.length):=by
 induction l with
 |nil=>exact⟨λ_=>rfl,λi h=>by simp[Lib.index]at h⟩
 |cons b r ih=>
  have a0:=Lib.index_ge r [c];simp only[Lib.index,mz,aK]
  by_cases hb:(b==c)=true
  ·rw[G hb,G hb]
   refine⟨λh=>by omega,λi h=>?_⟩
   have:i=0:=by omega
   subst this;exact⟨by simp,by simp⟩
  rw[U hb,U hb]
  by_cases h1:Lib.index r [c]= -1
  ·have e:(Lib.index r [c]== -1)=true:=by rw[h1];rfl
   rw[G e];refine⟨λ_=>?_,λi h=>by omega⟩;rw[ih.1 h1];rfl
  have e:¬(Lib.index r [c]== -1)=true:=(by simpa using h1);rw[U e];refine⟨λh=>by omega,λi h=>?_⟩;obtain⟨k,hk⟩:∃k:Nat,Lib.index r [c]=(k:Int):=⟨(Lib.index r [c]).toNat,by omega⟩;have hi:i=k+1:=(by omega);subst hi;obtain⟨h2,h3⟩:=ih.2 k hk;rw[h2];exact⟨by simp[dE],by simp;omega⟩
def jv(c:UInt8):∀(fuel:Nat) (l:L),l.length<fuel->Lib.splitK [c] 0 (Lib.countFrom [c] fuel l) l=aK c l:=by
 intro fuel
 induction fuel with
 |zero=>intro l h;omega
 |succ fuel ih=>
  intro l h;have a0:=Lib.index_ge l [c];simp only[Lib.countFrom]
  by_cases h1:Lib.index l [c]= -1
  ·have e:(Lib.index l [c]== -1)=true:=by rw[h1];rfl
   rw[G e,(fm c l).1 h1];rfl
  have e:¬(Lib.index l [c]== -1)=true:=(by simpa using h1);rw[U e,Nat.add_comm 1,Lib.splitK,U e];obtain⟨k,hk⟩:∃k:Nat,Lib.index l [c]=(k:Int):=⟨(Lib.index l [c]).toNat,by omega⟩;obtain⟨h2,h3⟩:=(fm c l).2 k hk;rw[h2,hk,Qm];simp only[length_singleton,Nat.add_zero];rw[ih _ (by simp;omega)]
def jW(c:UInt8)(l:L):Lib.split l [c]=aK c l:=jv c (l.length+1) l (by omega)
def gU(c:UInt8)(l:L)(h:(Lib.cut l [c]).2.2=true):aK c l=(Lib.cut l [c]).1::aK c (Lib.cut l [c]).2.1/\(Lib.cut l [c]).2.1.length<l.length:=by
 unfold Lib.cut at*;have a0:=Lib.index_ge l [c]
 by_cases h0:0<=Lib.index l [c]
 ·rw[G h0]
  obtain⟨k,hk⟩:∃k:Nat,Lib.index l [c]=(k:Int):=⟨(Lib.index l [c]).toNat,by omega⟩;obtain⟨h2,h3⟩:=(fm c l).2 k hk;rw[hk,Qm];exact⟨h2,by simp;omega⟩
 rw[U h0]at h;cases h
def jV(c:UInt8)(l:L)(h:(Lib.cut l [c]).2.2=false):aK c l=[l]/\(Lib.cut l [c]).1=l:=by
 unfold Lib.cut at*;have a0:=Lib.index_ge l [c]
 by_cases h0:0<=Lib.index l [c]
 ·rw[G h0]at h;cases h
 rw[U h0];exact⟨(fm c l).1 (by omega),rfl⟩
end Fl
namespace Fl
structure dK where
 var:Bool
 v:Nat
structure dZ where
 op:Int
 a:dK
 b:dK
structure aa where
 kind:Nat
 x:Nat
 aq:Nat
 e:dZ
 aZ:List aa
 aU:List aa
structure Frame where
 kind:Nat
 aq:Nat
 e:dZ
 first:List aa
 cU:Bool
 fu:List aa
abbrev cY:=Nat->Nat->Bool
def eL(aE aI:List Nat):cY:=λi j=>i==j||(aE.zip aI).any λp=>p.1==i && p.2==j
def eK(k:Nat)(t:cY):cY:=λi j=>t i j||(t i k && t k j)
def fw:Nat->cY->cY
 |0,t=>t
 |k+1,t=>eK k (fw k t)
def cG(p:Nat->Bool)(n:Nat):Int:=match (range n).find? p with
 |some k=>(k:Int)
 |none=> -1
def cO(n:Nat)(t:cY)(a b k:Nat):Bool:=t a k && t b k && (range n).all λj=> !(t a j)||!(t b j)||t k j
def join(n:Nat)(t:cY)(a b:Nat):Int:=cG (cO n t a b) n
def fW(n:Nat)(t:cY)(a b:Nat):Int:=cG (cO n (λi j=>t j i) a b) n
def bR(n:Nat)(t:cY)(i j:Nat):Bool:= !(i !=j && t i j && t j i) && (decide (0<=join n t i j) && decide (0<=fW n t i j))
def bp(n:Nat)(t:cY):Bool:=decide (0<n) && (range n).all λi=>(range n).all λj=>bR n t i j
def gu(n:Nat)(t:cY):Nat:=(cG (λk=>(range n).all λj=>t k j) n).toNat
structure RS where
 au:List L
 cells:List L
 ai:List L
 ap:List L
 aE:List Nat
 aI:List Nat
 aW:List Nat
 aV:List Nat
 ag:Bool
 am:Nat
 bK:List aa
 fr:List Frame
def RS.zero:RS:=⟨[],[],[],[],[],[],[],[],false,0,[],[]⟩
def RS.tab(r:RS):cY:=fw r.au.length (eL r.aE r.aI)
def RS.atom(r:RS)(s:L):Option dK:=
 if(bm s 9).2 then some ⟨false,(bm s 9).1⟩
 else if 0<=aj r.cells s then some ⟨true,(aj r.cells s).toNat⟩
 else if 0<=aj r.ap s then some ⟨true,r.cells.length+(aj r.ap s).toNat⟩ else none
def ju:dK:=⟨false,0⟩
def RS.value(r:RS):List L->Option dZ
 |[a]=>(r.atom a).map λx=>⟨-1,x,ju⟩
 |[a,o,b]=>(r.atom a).bind λx=>(r.atom b).map λy=>⟨aj cW o,x,y⟩
 |_=>none
def RS.put(r:RS)(s:aa):RS:=
 match r.fr with
 |[]=>{r with bK:=r.bK++[s],am:=r.am+1}
 |f::fs=>{r with fr:=(if f.cU then{f with fu:=f.fu++[s]} else{f with first:=f.first++[s]})::fs,am:=r.am+1}
def RS.opens(r:RS)(kind aq:Nat)(e:dZ):RS:={r with fr:=⟨kind,aq,e,[],false,[]⟩::r.fr,am:=r.am+1}
def Frame.done(f:Frame):aa:=⟨f.kind,0,f.aq,f.e,f.first,f.fu⟩
def RS.bG(r:RS):RS:=
 match r.fr with
 |[]=>r
 |f::[]=>{r with bK:=r.bK++[f.done],fr:=[]}
 |f::g::fs=>{r with fr:=(if g.cU then{g with fu:=g.fu++[f.done]} else{g with first:=g.first++[f.done]})::fs}
def RS.bF(r:RS):RS:=
 match r.fr with
 |[]=>r
 |f::fs=>{r with fr:={f with cU:=true}::fs}
def RS.bu(r:RS)(n:L):Option (Nat×RS):=
 if 0<=aj r.cells n then some ((aj r.cells n).toNat,r)
 else if 0<=aj r.ap n then some (r.cells.length+(aj r.ap n).toNat,r)
 else if r.ap.length=4 then none else some (r.cells.length+r.ap.length,{r with ap:=r.ap++[n]})
def cH(w:L):Bool:=w==ct||w==bY||w==cV||w==bz||w==cJ
def RS.head(r:RS):List L->Nat×RS
 |[_]=>if bp r.au.length r.tab then(0,{r with ag:=true}) else(6,r)
 |[_,n]=>if 0<=aj r.au n then(4,r) else if r.au.length=6 then(5,r) else(0,{r with au:=r.au++[n]})
 |[k,n,l]=>
  if k==bY then
   if aj r.au n<0\/aj r.au l<0 then(4,r) else(0,{r with aE:=r.aE++[(aj r.au n).toNat],aI:=r.aI++[(aj r.au l).toNat]})
  else if aj r.au l<0\/0<=aj r.cells n\/0<=aj r.ai n then(4,r)
  else if k==cV then
   if r.cells.length=6 then(5,r) else(0,{r with cells:=r.cells++[n],aW:=r.aW++[(aj r.au l).toNat]})
  else if r.ai.length=3 then(5,r) else(0,{r with ai:=r.ai++[n],aV:=r.aV++[(aj r.au l).toNat]})
 |_=>(2,r)
def RS.bh(r:RS)(at_:Nat):List L->Nat×RS
 |[k]=>
  match r.fr with
  |[]=>(3,r)
  |f::_=>if k==dO then(if f.kind=5/\f.cU=false then(0,r.bF) else(3,r)) else(0,r.bG)
 |[k,a]=>
  match r.value [a] with
  |none=>(4,r)
  |some e=>if 16<=r.am\/3<=r.fr.length then(5,r) else(0,r.opens (if k==ig then 5 else 6) at_ e)
 |k::n::v=>
  match r.value v with
  |none=>(4,r)
  |some e=>
   if k==eH then
    if aj r.ai n<0 then(4,r) else if 16<=r.am then(5,r) else(0,r.put ⟨4,(aj r.ai n).toNat,at_,e,[],[]⟩)
   else if 0<=aj r.ai n then(4,r)
   else match r.bu n with
    |none=>(5,r)
    |some (x,r')=>if 16<=r.am then(5,r) else(0,r'.put ⟨3,x,at_,e,[],[]⟩)
 |_=>(2,r)
def RS.row(r:RS)(w:List L)(at_:Nat):Nat×RS:=
 if cH (w.getD 0 [])=r.ag then(3,r) else if cH (w.getD 0 []) then r.head w else r.bh at_ w
structure aY where
 n:Nat
 leq:cY
 cells:List Nat
 ai:List Nat
 ap:Nat
 aZ:List aa
def RS.prog(r:RS):aY:=⟨r.au.length,r.tab,r.aW,r.aV,r.ap.length,r.bK⟩
def rows:RS->Nat->List L->Nat×Nat×RS
 |r,i,[]=>(3,i+1,r)
 |r,i,[l]=>if l=[]/\0<i then(if r.ag=true/\r.fr=[] then(0,0,r) else(3,i+1,r)) else(2,i+1,r)
 |r,i,l::m::ls=>if aq (aK 32 l)=false then(2,i+1,r) else if(r.row (aK 32 l) (i+1)).1≠0 then((r.row (aK 32 l) (i+1)).1,i+1,r) else rows (r.row (aK 32 l) (i+1)).2 (i+1) (m::ls)
def ab(s:L):Nat×Nat×aY:=
 if 1200<s.length then(1,0,RS.zero.prog) else let q:=rows RS.zero 0 (aK 10 s);(q.1,q.2.1,q.2.2.prog)
end Fl
namespace Fl
def kF(t:cY):∀(k i j:Nat),t i j=true->fw k t i j=true
 |0,_,_,h=>h
 |k+1,i,j,h=>by
  have:=kF t k i j h;simp only[fw,eK,this,Bool.true_or]
def hH(t:cY):∀(n k i j:Nat),k<n->fw n t i k=true->fw n t k j=true->fw n t i j=true
 |0,k,_,_,hk,_,_=>absurd hk (by omega)
 |m+1,k,i,j,hk,h1,h2=>by
  have ih:=hH t m;simp only[fw,eK,Bool.or_eq_true,Qk]at h1 h2⊢
  by_cases a0:k=m
  ·subst a0
   have a1:fw k t i k=true:=by rcases h1 with h|h;exact h;exact h.1
   have a2:fw k t k j=true:=by rcases h2 with h|h;exact h;exact h.2
   exact .inr ⟨a1,a2⟩
  have hk':k<m:=(by omega);rcases h1 with h1|⟨h1,h1'⟩
  ·rcases h2 with h2|⟨h2,h2'⟩
   ·exact .inl (ih k i j hk' h1 h2)
   exact .inr ⟨ih k i m hk' h1 h2,h2'⟩
  rcases h2 with h2|⟨h2,h2'⟩
  ·exact .inr ⟨h1,ih k m j hk' h1' h2⟩
  exact .inr ⟨h1,h2'⟩
def Trans(n:Nat)(r:cY):Prop:=∀a b c,a<n->b<n->c<n->r a b=true->r b c=true->r a c=true
def jt(n:Nat)(t r:cY)(hr:Trans n r)(h:∀i j,i<n->j<n->t i j=true->r i j=true):∀(k i j:Nat),k<=n->i<n->j<n->fw k t i j=true->r i j=true
 |0,i,j,_,hi,hj,h0=>h i j hi hj h0
 |k+1,i,j,hk,hi,hj,h0=>by
  have ih:=jt n t r hr h k;simp only[fw,eK,Bool.or_eq_true,Qk]at h0;rcases h0 with h0|⟨h1,h2⟩
  ·exact ih i j (by omega) hi hj h0
  exact hr i k j hi (by omega) hj (ih i k (by omega) hi (by omega) h1) (ih k j (by omega) (by omega) hj h2)
def kq(n:Nat)(t r:cY)(hr:Trans n r)(h:∀i j,i<n->j<n->t i j=true->r i j=true)(h2:∀i j,i<n->j<n->r i j=true->fw n t i j=true):∀i j,i<n->j<n->r i j=fw n t i j:=by
 intro i j hi hj
 cases hx:fw n t i j with
 |true=>exact jt n t r hr h n i j lE hi hj hx
 |false=>
  cases hy:r i j with
  |true=>rw[h2 i j hi hj hy]at hx;cases hx
  |false=>rfl
def mw(aE aI:List Nat)(n i:Nat):fw n (eL aE aI) i i=true:=kF _ _ _ _ (by simp[eL])
def gt{p:Nat->Bool}(hk:k<n)(h:p k=true)(hb:∀j,j<k->p j=false):cG p n=(k:Int):=by
 unfold cG;have:(range n).find? p=some k:=by
  rw[find?_range_eq_some];refine⟨h,by simpa using hk,λj hj=>by simp[hb j hj]⟩
 rw[this]
def gL{p:Nat->Bool}(h:∀j,j<n->p j=false):cG p n= -1:=by
 unfold cG;have:(range n).find? p=none:=by
  rw[find?_eq_none];intro x hx;rw[mem_range]at hx;simp[h x hx]
 rw[this]
def fj(p:Nat->Bool)(n:Nat):(∃k,k<n/\p k=true/\(∀j,j<k->p j=false)/\cG p n=(k:Int))\/((∀j,j<n->p j=false)/\cG p n= -1):=by
 unfold cG
 cases h:(range n).find? p with
 |none=>
  right
  rw[find?_eq_none]at h;exact⟨λj hj=>by simpa using h j (by simpa using hj),rfl⟩
 |some k=>
  left
  rw[find?_range_eq_some]at h;exact⟨k,by simpa using h.2.1,h.1,λj hj=>by simpa using h.2.2 j hj,rfl⟩
def gl{p q:Nat->Bool}(h:∀k,k<n->p k=q k):cG p n=cG q n:=by
 rcases fj q n with⟨k,hk,h1,h2,e⟩|⟨h1,e⟩
 ·rw[e];exact gt hk (by rw[h k hk];exact h1) (λj hj=>by rw[h j (by omega)];exact h2 j hj)
 rw[e];exact gL (λj hj=>by rw[h j hj];exact h1 j hj)
def fH{p:Nat->Bool}:(range n).all p=true ↔ ∀j,j<n->p j=true:=by simp[all_eq_true]
def dD(n:Nat)(t:cY)(a b k:Nat):cO n t a b k=true ↔ t a k=true/\t b k=true/\∀j,j<n->t a j=true->t b j=true->t k j=true:=by
 simp only[cO,Qk,fH,Bool.or_eq_true,Bool.not_eq_true',and_assoc];refine⟨λ⟨h1,h2,h3⟩=>⟨h1,h2,λj hj ha hb=>?_⟩,λ⟨h1,h2,h3⟩=>⟨h1,h2,λj hj=>?_⟩⟩
 ·rcases h3 j hj with(h|h)|h
  ·rw[ha]at h;cases h
  ·rw[hb]at h;cases h
  exact h
 cases ha:t a j with
 |false=>simp
 |true=>
  cases hb:t b j with
  |false=>simp
  |true=>right;exact h3 j hj ha hb
def gk{t r:cY}(h:∀i j,i<n->j<n->t i j=r i j)(ha:a<n)(hb:b<n)(hk:k<n):cO n t a b k=cO n r a b k:=by
 rw[Bool.eq_iff_iff,dD,dD,h a k ha hk,h b k hb hk];refine and_congr_right λ_=>and_congr_right λ_=>forall_congr' λj=>?_;refine⟨λg hj=>?_,λg hj=>?_⟩
 ·have:=g hj;rw[h a j ha hj,h b j hb hj,h k j hk hj]at this;exact this
 have:=g hj;rw[h a j ha hj,h b j hb hj,h k j hk hj];exact this
def ix{t r:cY}(h:∀i j,i<n->j<n->t i j=r i j)(ha:a<n)(hb:b<n):join n t a b=join n r a b:=gl λ_ hk=>gk h ha hb hk
def jU{t r:cY}(h:∀i j,i<n->j<n->t i j=r i j)(ha:a<n)(hb:b<n):fW n t a b=fW n r a b:=
 gl λ_ hk=>gk (λi j hi hj=>h j i hj hi) ha hb hk
def gj{t r:cY}(h:∀i j,i<n->j<n->t i j=r i j)(ha:a<n)(hb:b<n):bR n t a b=bR n r a b:=by
 unfold bR;rw[ix h ha hb,jU h ha hb,h a b ha hb,h b a hb ha]
def ew(n:Nat)(t:cY):bp n t=true ↔ 0<n/\∀i j,i<n->j<n->bR n t i j=true:=by
 simp only[bp,Qk,Qn,fH];exact and_congr_right λ_=>⟨λh i j hi hj=>h i hi j hj,λh i hi j hj=>h i j hi hj⟩
def fA{t r:cY}(h:∀i j,i<n->j<n->t i j=r i j):bp n t=bp n r:=by
 rw[Bool.eq_iff_iff,ew,ew];refine and_congr_right λ_=>⟨λg i j hi hj=>?_,λg i j hi hj=>?_⟩
 ·rw[<-gj h hi hj];exact g i j hi hj
 rw[gj h hi hj];exact g i j hi hj
structure kD(n:Nat)(t:cY):Prop where
 pos:0<n
 refl:∀i,i<n->t i i=true
 trans:Trans n t
 kC:∀i j,i<n->j<n->t i j=true->t j i=true->i=j
 jK:∀i j,i<n->j<n->∃k,k<n/\join n t i j=(k:Int)/\t i k=true/\t j k=true/\∀m,m<n->t i m=true->t j m=true->t k m=true
 meets:∀i j,i<n->j<n->∃k,k<n/\t k i=true/\t k j=true/\∀m,m<n->t m i=true->t m j=true->t m k=true
def kD.of{t:cY}(h:bp n t=true)(hr:∀i,i<n->t i i=true)(ht:Trans n t):kD n t:=by
 obtain⟨h0,hp⟩:=(ew n t).1 h
 have hq:∀i j,i<n->j<n->¬(i≠j/\t i j=true/\t j i=true)/\0<=join n t i j/\0<=fW n t i j:=λi j hi hj=>by
  have:=hp i j hi hj;simp only[bR,Qk,Qn,Bool.not_eq_true',Bool.and_eq_false_iff,bne_eq_false_iff_eq]at this;refine⟨λ⟨a,b,c⟩=>?_,this.2⟩;rcases this.1 with(h|h)|h
  ·exact a h
  ·rw[b]at h;cases h
  rw[c]at h;cases h
 refine⟨h0,hr,ht,λi j hi hj a b=>?_,λi j hi hj=>?_,λi j hi hj=>?_⟩
 ·by_cases e:i=j
  ·exact e
  exact absurd ⟨e,a,b⟩ (hq i j hi hj).1
 ·rcases fj (cO n t i j) n with⟨k,hk,h1,_,e⟩|⟨_,e⟩
  ·obtain⟨a,b,c⟩:=(dD n t i j k).1 h1
   exact⟨k,hk,e,a,b,c⟩
  have:=(hq i j hi hj).2.1;unfold join at this;rw[e]at this;omega
 rcases fj (cO n (λi j=>t j i) i j) n with⟨k,hk,h1,_,e⟩|⟨_,e⟩
 ·obtain⟨a,b,c⟩:=(dD n (λi j=>t j i) i j k).1 h1
  exact⟨k,hk,a,b,c⟩
 have:=(hq i j hi hj).2.2;unfold fW at this;rw[e]at this;omega
def ko{t:cY}(h:kD n t)(hk:k<n)(hb:∀j,j<n->t k j=true):gu n t=k:=by
 have:cG (λk=>(range n).all λj=>t k j) n=(k:Int):=by
  refine gt hk (fH.2 hb) λj hj=>?_
  cases hx:(range n).all λy=>t j y with
  |false=>rfl
  |true=>exact absurd (h.kC j k (by omega) hk (fH.1 hx k hk) (hb j (by omega))) (by omega)
 unfold gu;rw[this];rfl
def dk(t:cY):Nat->Nat
 |0=>0
 |m+1=>if t m (dk t m) then m else dk t m
def eD{n:Nat}(t:cY)(hn:0<n):∀m,m<=n->dk t m<n
 |0,_=>hn
 |m+1,hm=>by
  simp only[dk];split
  ·omega
  exact eD t hn m (by omega)
def gr{n:Nat}{t:cY}(h:kD n t):∀m,m<=n->∀j,j<m->t j (dk t m)=true->t (dk t m) j=true
 |0,_,j,hj,_=>absurd hj (by omega)
 |m+1,hm,j,hj,hd=>by
  have ih:=gr h m (by omega);have hl:=eD t h.pos m (by omega);simp only[dk]at hd⊢
  by_cases hm':t m (dk t m)=true
  ·rw[G hm']at hd⊢
   by_cases a0:j=m
   ·subst a0;exact h.refl j (by omega)
   have h1:=h.trans j m _ (by omega) (by omega) hl hd hm';exact h.trans m _ j (by omega) hl (by omega) hm' (ih j (by omega) h1)
  rw[U hm']at hd⊢
  by_cases a0:j=m
  ·subst a0;exact absurd hd hm'
  exact ih j (by omega) hd
def gi{t:cY}(h:kD n t):dk t n=gu n t:=by
 have hl:=eD t h.pos n lE;refine(ko h hl λj hj=>?_).symm;obtain⟨k,hk,h1,h2,_⟩:=h.meets (dk t n) j hl hj;have h3:=gr h n lE k hk h1;exact h.trans _ k j hl hk hj h3 h2
def iy{t:cY}(h:kD n t):gu n t<n/\∀j,j<n->t (gu n t) j=true:=by
 have hl:=eD t h.pos n lE;rw[<-gi h];refine⟨hl,λj hj=>?_⟩;obtain⟨k,hk,h1,h2,_⟩:=h.meets (dk t n) j hl hj;have h3:=gr h n lE k hk h1;exact h.trans _ k j hl hk hj h3 h2
def RS.fh{r:RS}(h:bp r.au.length r.tab=true):kD r.au.length r.tab:=
 kD.of h (λi _=>mw _ _ _ _) (λa b c _ hb _ h1 h2=>hH _ _ b a c hb h1 h2)
end Fl
namespace Fl
def iV(l:L):fo 999999999 l=if(bm l 9).2=true then some (bm l 9).1 else none:=by
 unfold fo
 by_cases h0:l=[]
 ·subst h0;simp[bm,eO]
 rw[U h0];have b0:=length_pos_iff.2 h0
 by_cases h1:l.headD 0=48/\l.length≠1
 ·rw[G h1]
  have:(bm l 9).2=false:=by
   unfold bm
   split
   ·simp only[eO]
    have e1:(l.headD 0 !=48)=false:=(by rw[h1.1];rfl);have e2:decide (l.length=1)=false:=(by simp[h1.2]);rw[e1,e2];simp
   rfl
  rw[this];simp
 rw[U h1,kK _ (by omega) _ _ (by omega)]
 cases cU:l.all dg with
 |false=>simp[bm,cU]
 |true=>
  have c0:(l.headD 0 !=48||decide (l.length=1))=true:=by
   by_cases h2:l.headD 0=48
   ·have:l.length=1:=by
     rcases Nat.lt_or_ge 1 l.length with h|h
     ·exact absurd ⟨h2,by omega⟩ h1
     omega
    simp[this]
   rw[show (l.headD 0 !=48)=true from bne_iff_ne.2 h2];rfl
  simp only[bm,cU,if_true,eO,c0,Bool.and_true]
  by_cases a0:l.length<=9
  ·rw[take_of_length_le a0]
   simp only[b0,a0,decide_true,Bool.and_true,true_and,kJ,if_true];have hv:eE 0 l<=999999999:=by
    have h3:=gM l 0 cU;have h4:10 ^ l.length<=10 ^ 9:=Nat.pow_le_pow_right (by omega) a0;omega
   rw[G hv]
  have d0:999999999<eE 0 l:=by
   match l,a0,cU,h1,h0 with
   |c::r,a0,cU,h1,_=>
    simp only[all_cons,Qk]at cU;have hc:=(eG c).1 cU.1;have aL:9<=r.length:=(by simp only[length_cons]at a0;omega);have e0:1<=c.toNat - 48:=by
     rcases Nat.lt_or_ge 48 c.toNat with h|h
     ·omega
     exfalso;apply h1
     refine⟨?_,by simp only[length_cons];omega⟩
     have:c.toNat=48:=by omega
     show c=48;exact UInt8.toNat_inj.1 this
    have e:eE 0 (c::r)=eE (10*0+(c.toNat - 48)) r:=rfl;rw[e];have h5:=jX r (10*0+(c.toNat - 48));have h6:10 ^ 9<=10 ^ r.length:=Nat.pow_le_pow_right (by omega) aL;have h7:1*10 ^ 9<=(10*0+(c.toNat - 48))*10 ^ r.length:=Nat.mul_le_mul (by omega) h6;omega
  rw[U (by omega)];simp[a0]
def km(l:L):(fo 999999999 l).isSome=(bm l 9).2:=by
 rw[iV];cases (bm l 9).2<;>simp
def gh(c:UInt8)(w:L):Bool:=if c=110 then cd w else if c=97 then atom w else if c=111 then decide (0<=aj cW w) else false
def bf:L->List L->Bool
 |[],[]=>true
 |c::cs,w::ws=>gh c w && bf cs ws
 |_,_=>false
def gx:List (L×L×Bool):=[(ct,[110],true),(bY,[110,110],true),(cV,[110,110],true),(bz,[110,110],true),(cJ,[],true),(eP,[110,97],false),(eP,[110,97,111,97],false),(eH,[110,97],false),(ig,[97],false),(dO,[],false),(ei,[97],false),(gv,[],false)]
def dJ(k:Nat):L×L×Bool:=gx.getD k ([],[],false)
def bX(ws:List L)(k:Nat):Bool:=ws.getD 0 []==(dJ k).1 && bf (dJ k).2.1 (ws.drop 1)
def br:∀(cs:L) (ws:List L),bf cs ws=true->ws.length=cs.length
 |[],[],_=>rfl
 |c::cs,w::ws,h=>by simp only[bf,Qk]at h;simp[br cs ws h.2]
 |[],_::_,h=>by simp[bf]at h
 |_::_,[],h=>by simp[bf]at h
def iz:∀(cs:L) (ws:List L),ws.length=cs.length->(bf cs ws=true ↔ ∀i,i<cs.length->gh (cs.getD i 0) (ws.getD i [])=true)
 |[],[],_=>by simp[bf]
 |c::cs,w::ws,h=>by
  simp only[bf,Qk,iz cs ws (by simpa using h),length_cons];refine⟨λ⟨h1,h2⟩ i hi=>?_,λg=>⟨by simpa using g 0 (by omega),λi hi=>by simpa using g (i+1) (by omega)⟩⟩
  match i with
  |0=>simpa using h1
  |i+1=>simpa using h2 i (by omega)
 |[],_::_,h=>by simp at h
 |_::_,[],h=>by simp at h
def gT(ws:List L)(a0:ws≠[]):aq ws=true ↔ ∃k,k<12/\bX ws k=true:=by
 have e12:(∃k,k<12/\bX ws k=true) ↔ bX ws 0=true\/bX ws 1=true\/bX ws 2=true\/bX ws 3=true\/bX ws 4=true\/bX ws 5=true\/bX ws 6=true\/bX ws 7=true\/bX ws 8=true\/bX ws 9=true\/bX ws 10=true\/bX ws 11=true:=by
  constructor
  ·rintro⟨k,hk,h⟩
   rcases(show k=0\/k=1\/k=2\/k=3\/k=4\/k=5\/k=6\/k=7\/k=8\/k=9\/k=10\/k=11 by omega) with rfl|rfl|rfl|rfl|rfl|rfl|rfl|rfl|rfl|rfl|rfl|rfl<;>simp[h]
  rintro(h|h|h|h|h|h|h|h|h|h|h|h)
  ·exact⟨0,by omega,h⟩
  ·exact⟨1,by omega,h⟩
  ·exact⟨2,by omega,h⟩
  ·exact⟨3,by omega,h⟩
  ·exact⟨4,by omega,h⟩
  ·exact⟨5,by omega,h⟩
  ·exact⟨6,by omega,h⟩
  ·exact⟨7,by omega,h⟩
  ·exact⟨8,by omega,h⟩
  ·exact⟨9,by omega,h⟩
  ·exact⟨10,by omega,h⟩
  exact⟨11,by omega,h⟩
 rw[e12]
 match ws,a0 with
 |[a],_=>simp[aq,bX,dJ,gx,bf];grind
 |[a,b],_=>simp[aq,bX,dJ,gx,bf,gh];grind
 |[a,b,c],_=>simp[aq,bX,dJ,gx,bf,gh];grind
 |[a,b,c,d],_=>simp[aq,bX,dJ,gx,bf,gh]
 |[a,b,c,d,e],_=>simp[aq,bX,dJ,gx,bf,gh];grind
 |a::b::c::d::e::f::r,_=>simp[aq,bX,dJ,gx,bf,gh]
end Fl
namespace Fl
structure MS where
 vars:List Nat
 iL:List (Nat×Nat)
 fuel:Nat
def u32:Nat:=4294967296
def kB(vs:List Nat)(a:dK):Nat:=if a.var then vs.getD a.v 0 else a.v % u32
def od(o:Int)(x y:Nat):Nat:=
 if o=0 then(x+y) % u32 else if o=1 then(x+u32 - y) % u32 else if o=2 then(x*y) % u32 else if o=3 then(if x<y then 1 else 0) else if o=4 then(if x=y then 1 else 0) else x
def nu(vs:List Nat)(e:dZ):Nat:=if e.op= -1 then kB vs e.a else od e.op (kB vs e.a) (kB vs e.b)
def run:Nat->List aa->MS->Bool×MS
 |0,_,m=>(false,m)
 |_+1,[],m=>(true,m)
 |n+1,s::rest,m=>
  if m.fuel=0 then(false,m) else
  let v:=nu m.vars s.e
  if s.kind=3 then run n rest ⟨m.vars.set s.x v,m.iL,m.fuel - 1⟩
  else if s.kind=4 then run n rest ⟨m.vars,m.iL++[(s.x,v)],m.fuel - 1⟩
  else if s.kind=5 then
   if(run n (if v=0 then s.aU else s.aZ) ⟨m.vars,m.iL,m.fuel - 1⟩).1=true then run n rest (run n (if v=0 then s.aU else s.aZ) ⟨m.vars,m.iL,m.fuel - 1⟩).2
   else run n (if v=0 then s.aU else s.aZ) ⟨m.vars,m.iL,m.fuel - 1⟩
  else if v=0 then run n rest ⟨m.vars,m.iL,m.fuel - 1⟩
  else if(run n s.aZ ⟨m.vars,m.iL,m.fuel - 1⟩).1=true then run n (s::rest) (run n s.aZ ⟨m.vars,m.iL,m.fuel - 1⟩).2
  else run n s.aZ ⟨m.vars,m.iL,m.fuel - 1⟩
def aY.run(p:aY)(cells:List Nat)(fuel:Nat):Bool×MS:=Fl.run (fuel+1) p.aZ ⟨cells++replicate p.ap 0,[],fuel⟩
def eJ(nv:Nat)(a:dK):Prop:=if a.var=true then a.v<nv else a.v<=999999999
def cg(nv:Nat)(e:dZ):Prop:= -1<=e.op/\e.op<=4/\eJ nv e.a/\eJ nv e.b
def eh(nv nc:Nat)(s:aa):Prop:=(s.kind=3/\s.x<nv)\/(s.kind=4/\s.x<nc)\/s.kind=5\/(s.kind=6/\s.aU=[])
def aM(nv nc:Nat):Nat->List aa->Prop
 |0,l=>l=[]
 |d+1,l=>∀s∈l,eh nv nc s/\cg nv s.e/\aM nv nc d s.aZ/\aM nv nc d s.aU
def eJ.mono{nv nv':Nat}(h:nv<=nv'){a:dK}(ha:eJ nv a):eJ nv' a:=by
 unfold eJ at ha⊢
 split<;>simp_all<;>omega
def cg.mono{nv nv':Nat}(h:nv<=nv'){e:dZ}(he:cg nv e):cg nv' e:=⟨he.1,he.2.1,he.2.2.1.mono h,he.2.2.2.mono h⟩
def aM.mono{nv nv' nc:Nat}(h:nv<=nv'):∀{d:Nat} {l:List aa},aM nv nc d l->aM nv' nc d l
 |0,_,hl=>hl
 |d+1,l,hl=>λs hs=>by
  obtain⟨h1,h2,h3,h4⟩:=hl s hs;refine⟨?_,h2.mono h,aM.mono h h3,aM.mono h h4⟩;rcases h1 with h1|h1
  ·exact .inl ⟨h1.1,by omega⟩
  exact .inr h1
end Fl
open Go.RowKit
def Vm{k:IntKind}{a b:Int}(h:a=b):Ending.returned (.int k a)=.returned (.int k b):=by rw[h]
def Zr{a b:Bool}(h:a=b):Ending.returned (.bool a)=.returned (.bool b):=by rw[h]
def zs9(k:Int)(w:World):E 48 #[I k] w (Rq (I (Fl.aP k)) w):=by
 go_enter func48,ntmps48
 go_wp2
 all_goals go_ret
 all_goals exact⟨Vm (by simp_all[Fl.aP]),rfl⟩
def zq2(s:ByteArray)(k:Nat)(h:k<s.size):s.data.toList.take (k+1)=s.data.toList.take k++[s[k]]:=by
 rw[take_succ_eq_append_getElem (by simpa using h)];rfl
def zo9(s:ByteArray)(k:Nat)(h:¬k<s.size):s.data.toList.take k=s.data.toList:=by
 rw[take_of_length_le];simp;exact Nat.le_of_not_lt h
def mem_at(s:ByteArray)(k:Nat)(h:k<s.size):s[k]∈s.data.toList:=by
 have:s[k]=s.data.toList[k]'(by simpa using h):=rfl;rw[this];exact getElem_mem _
def zgw{k:IntKind}{a b:Int}{p q:Bool}(h:a=b)(h':p=q):Ending.returned (.tuple #[.int k a,.bool p])=.returned (.tuple #[.int k b,.bool q]):=by rw[h,h']
def yp8(c:UInt8):Fl.fD c=true ↔ (97:Int)<=(c.toNat:Int)/\(c.toNat:Int)<=122:=by
 simp[Fl.fD,UInt8.le_iff_toNat_le];omega
def zd6(c:UInt8):Fl.dg c=true ↔ (48:Int)<=(c.toNat:Int)/\(c.toNat:Int)<=57:=by
 simp[Fl.dg,UInt8.le_iff_toNat_le];omega
def zi9(p:UInt8->Bool)(s:ByteArray)(k:Nat)(h:k<s.size)(ha:(s.data.toList.take k).all p=true)(hp:p s[k]=true):(s.data.toList.take (k+1)).all p=true:=by
 rw[zq2 s k h,all_append,ha];simpa using hp
def yp9(p:UInt8->Bool)(s:ByteArray)(k:Nat)(h:k<s.size)(hp:¬p s[k]=true):s.data.toList.all p=false:=by
 rw[Bool.eq_false_iff];intro aT;exact hp (all_eq_true.1 aT _ (mem_at s k h))
def zsz(s:ByteArray)(m k:Nat)(h:k<s.size)(hp:(s[k].toNat:Int)<48\/57<(s[k].toNat:Int)):Fl.bm s.data.toList m=(0,false):=by
 unfold Fl.bm;rw[yp9 Fl.dg s k h (by rw[zd6];omega)];rfl
def yn2(s:ByteArray)(m v:Nat)(h:s.data.toList.all Fl.dg=true)(hv:Fl.val (s.data.toList.take m)=v):Fl.bm s.data.toList m=(v,Fl.eO s.data.toList m):=by
 unfold Fl.bm;rw[G h,hv]
def yi7(l:L)(h:0<l.length):l.headD 0=l[0]:=by
 match l,h with
 |a::l,_=>rfl
def yxv(s:ByteArray)(h:0<s.size):s.data.toList.headD 0=s[0]:=by
 rw[yi7 _ (by simpa using h)];rfl
def yd0(s:ByteArray)(m:Nat)(h:0<s.size)(h2:s.size<=m)(h3:(s[0].toNat:Int)=48):Fl.eO s.data.toList m=((s.size:Int)==1):=by
 have e:s.data.toList.length=s.size:=by simp
 have e2:s[0]=48:=by rw[<-UInt8.toNat_inj];show s[0].toNat=48;omega
 unfold Fl.eO;rw[yxv s h,e,e2,decide_eq_true h,decide_eq_true h2];rw[Bool.eq_iff_iff];simp;omega
def yn3(s:ByteArray)(m:Nat)(h:0<s.size)(h2:s.size<=m)(h3:¬(s[0].toNat:Int)=48):Fl.eO s.data.toList m=true:=by
 have e:s.data.toList.length=s.size:=by simp
 have e2:s[0]≠48:=by intro hh;apply h3;rw[hh];rfl
 unfold Fl.eO;rw[yxv s h,e,decide_eq_true h,decide_eq_true h2];simp[e2]
def yn4(s:ByteArray)(m:Nat)(h2:¬s.size<=m):Fl.eO s.data.toList m=false:=by
 have e:s.data.toList.length=s.size:=by simp
 unfold Fl.eO;rw[e,decide_eq_false h2];simp
def yn5(s:ByteArray)(m:Nat)(h2:¬0<s.size):Fl.eO s.data.toList m=false:=by
 have e:s.data.toList.length=s.size:=by simp
 unfold Fl.eO;rw[e,decide_eq_false h2];simp
def yn6(s:ByteArray)(m:Nat)(w:World)(hs:s.size<=maxLen)(hm:m<=10):E 51 #[.string s,I m] w (Rq (.tuple #[I (Fl.bm s.data.toList m).1,.bool (Fl.bm s.data.toList m).2]) w):=by
 unfold maxLen at hs
 go_enter func51,ntmps51
 go_wp2
 go_loop [6,7] (λv i=>∃k:Nat,k<=s.size/\i=I k/\(s.data.toList.take k).all Fl.dg=true/\v=I (Fl.val ((s.data.toList.take k).take m))) (λ_ i=>s.size - (intOf i).toNat)
 case atStart=>exact⟨0,Nat.zero_le _,rfl,rfl,by simp[Fl.val]⟩
 case round=>
  obtain⟨k,hk,rfl,aT,rfl⟩:=hrel;have HA:=Z aT;have hv:Fl.val ((s.data.toList.take k).take m)<10000000000:=Fl.mL _ m (by rw[all_eq_true]at aT⊢;intro x hx;exact aT x (mem_of_mem_take hx)) (by simp;omega) hm;clear aT;generalize hg:Fl.val ((s.data.toList.take k).take m)=v at*;have HG:=Z hg;clear hg
  by_cases a0:k<s.size
  ·by_cases b0:k<m
   ·go_wp2
    ·go_ret2;exact⟨by rw[zsz s m k a0 (by omega)];rfl,rfl⟩
    ·go_round
     case rel=>
      refine⟨k+1,by omega,by go_num,zi9 _ s k a0 HA (by rw[zd6];omega),?_⟩;have h1:=HG.out;rw[take_of_length_le (by simp;omega)]at h1;rw[take_of_length_le (by simp;omega),zq2 s k a0,Fl.kN,h1]
      congr 1;omega
     case measure=>simp[intOf];omega
    go_ret2;exact⟨by rw[zsz s m k a0 (by omega)];rfl,rfl⟩
   go_wp2
   ·go_ret2;exact⟨by rw[zsz s m k a0 (by omega)];rfl,rfl⟩
   ·go_round
    case rel=>
     refine⟨k+1,by omega,by go_num,zi9 _ s k a0 HA (by rw[zd6];omega),?_⟩;have h1:=HG.out;rw[take_take,Nat.min_eq_left (by omega)]at h1⊢;rw[h1]
    case measure=>simp[intOf];omega
   go_ret2;exact⟨by rw[zsz s m k a0 (by omega)];rfl,rfl⟩
  have HN:=Z (yn2 s m v (by rw[<-zo9 s k a0];exact HA) (by have:=HG.out;rwa [zo9 s k a0]at this));go_wp2
  ·go_ret2;exact⟨by rw[HN.out];exact zgw rfl (yd0 s m (by assumption) (by assumption) (by assumption)).symm,rfl⟩
  ·go_ret2;exact⟨by rw[HN.out];exact zgw rfl (yn3 s m (by assumption) (by assumption) (by assumption)).symm,rfl⟩
  ·go_ret2;exact⟨by rw[HN.out];exact zgw rfl (yn4 s m (by assumption)).symm,rfl⟩
  go_ret2;exact⟨by rw[HN.out];exact zgw rfl (yn5 s m (by assumption)).symm,rfl⟩
def yn7(m v pos:Nat)(l:L)(h:pos<l.length):Fl.eN m v (l.drop pos)=if Fl.dg (l.getD pos 0)=false then none else if(m - ((l.getD pos 0).toNat - 48)) / 10<v then none else Fl.eN m (10*v+((l.getD pos 0).toNat - 48)) (l.drop (pos+1)):=by
 rw[drop_eq_getElem_cons h,Fl.eN];simp[Qa,h]
def Vb(w:World)(s:ByteArray)(pos:Nat):D w (w.iter s pos):=bA
def ysv(l:L)(m:Nat)(w:World)(hl:l.length<=100000)(o0:9<=m)(hm:m<=4000000000):
  E 180 #[Tq l,I m] w (Rw (.tuple #[I ((Fl.fo m l).getD 0),.bool (Fl.fo m l).isSome]) w):=by
 by_cases h0:l=[]
 ·subst h0
  go_enter func180,ntmps180
  go_wp2
  go_ret2
  exact⟨rfl,Below.refl _ _⟩
 have l0:0<l.length:=length_pos_iff.2 h0;have cD:(⟨l.toArray⟩:ByteArray).size=l.length:=rfl;have hh:l.headD 0=(⟨l.toArray⟩:ByteArray)[0]:=by
  cases l with
  |nil=>simp at l0
  |cons a r=>rfl
 have b0:l.isEmpty=false:=by simpa using h0
 by_cases a0:l.headD 0=48/\l.length≠1
 ·have HF:Y (Fl.fo m l=none):=by
   show _=_;unfold Fl.fo;rw[U h0,G a0]
  have b1:((((⟨l.toArray⟩:ByteArray)[0]).toNat:Int)==48)=true:=(by rw[<-hh,a0.1];rfl);have b2:(l==[48])=false:=by
   rw[Qh];rintro rfl;exact a0.2 rfl
  clear hh a0 h0
  go_enter func180,ntmps180
  go_wp2
  go_ret2
  exact⟨by rw[HF.out];rfl,Below.refl _ _⟩
 have HF:Y (Fl.fo m l=Fl.eN m 0 l):=by
  show _=_;unfold Fl.fo;rw[U h0,U a0]
 have hA:((((⟨l.toArray⟩:ByteArray)[0]).toNat:Int)==48)=false\/((((⟨l.toArray⟩:ByteArray)[0]).toNat:Int)==48)=true/\(l==[48])=true:=by
  by_cases h1:l.headD 0=48
  ·right
   refine⟨by rw[<-hh,h1];rfl,?_⟩;have h2:l.length=1:=Classical.byContradiction λh=>a0 ⟨h1,h⟩
   match l,h2,h1 with
   |[a],_,h1=>simp at h1;subst h1;rfl
  left
  rw[Qh];intro h2;apply h1;rw[hh];exact UInt8.toNat_inj.1 (by show _=48;omega)
 have f0:Y (∀pos (h:pos<l.length),((⟨l.toArray⟩:ByteArray)[pos]'h)=l.getD pos 0):=by
  intro pos h;show l.toArray[pos]=_;simp[Qa,h]
 have p0:(9:Int)<=(m:Int):=by omega
 have q0:(m:Int)<=4000000000:=by omega
 clear hh a0 h0 cD;rcases hA with b1|⟨b1,b2⟩
 all_goals
  go_enter func180,ntmps180
  go_wp2_with fail
  go_loopw [6] (λn wr=>∃(pos v:Nat),wr=w.iter ⟨l.toArray⟩ pos/\n=I v/\pos<=l.length/\v<=m/\Fl.eN m 0 l=Fl.eN m v (l.drop pos)) (λ_ wr=>l.length - wr.iterPos w.heap.size)
  case atStart=>exact⟨0,0,rfl,rfl,by omega,by omega,rfl⟩
  case round=>
   obtain⟨pos,v,rfl,rfl,r0,s0,hr⟩:=hrel;have HR:=Z hr;clear hr
   by_cases hp:pos<l.length
   ·obtain⟨c,hc⟩:=J (l.getD pos 0)
    have cZ:=yn7 m v pos l hp;rw[<-hc]at cZ;have d0:=Z cZ;have c0:(⟨l.toArray⟩:ByteArray)[pos]'hp=c:=(by rw[f0 pos hp,hc]);clear cZ hc
    by_cases ha:c.toNat<128
    ·have i0:∀ty,(Instr.next (F w.heap.size) true ty).run prog (w.iter ⟨l.toArray⟩ pos)=.ok (.tuple #[.bool true,I pos,.int .i32 (c.toNat:Int)]) (w.iter ⟨l.toArray⟩ (pos+1)):=λty=>by
      have:=run_next_ascii (P:=prog) w ⟨l.toArray⟩ pos ty hp (by rw[c0];exact ha);rw[c0]at this;exact this
     have j0:Fl.dg c=true ↔ 48<=c.toNat/\c.toNat<=57:=Fl.eG c;have k0:=Z j0;clear c0 j0;generalize hcn:c.toNat=cn at*
     by_cases hd:48<=cn/\cn<=57
     ·have t0:(48:Int)<=(cn:Int):=by omega
      have u0:(cn:Int)<=57:=(by omega);have e0:Fl.dg c=true:=k0.2 hd;have v0:(v:Int)<=4000000000:=(by omega)
      by_cases hq:(m - (cn - 48)) / 10<v
      ·have m0:((m:Int) - ((cn:Int) - 48)) / 10<(v:Int):=by omega
       have HE:Y (Fl.fo m l=none):=by
        show _=_;rw[HF.out,HR.out,d0.out,U (by rw[e0];decide),G hq]
       clear hcn hd hq e0;go_wp2
       go_ret2
       exact⟨by rw[HE.out];rfl,Vb _ _ _⟩
      have m0:(v:Int)<=((m:Int) - ((cn:Int) - 48)) / 10:=(by omega);have HE:Y (Fl.eN m 0 l=Fl.eN m (10*v+(cn - 48)) (l.drop (pos+1))):=by
       show _=_;rw[HR.out,d0.out,U (by rw[e0];decide),U hq]
      have n0:10*v+(cn - 48)<=m:=(by omega);clear hcn hd hq e0;go_wp2
      go_roundw
      case rel=>exact⟨pos+1,10*v+(cn - 48),rfl,by go_num,by omega,n0,HE⟩
      case measure=>simp;omega
     have HE:Y (Fl.fo m l=none):=by
      show _=_;rw[HF.out,HR.out,d0.out,G]
      cases hh:Fl.dg c with
      |false=>rfl
      |true=>exact absurd (k0.1 hh) hd
     clear hcn;have g0:(cn:Int) - 48<0\/9<(cn:Int) - 48:=(by omega);have x0:(cn:Int)<128:=(by omega);rcases g0 with g0|g0
     all_goals
      go_wp2
      go_ret2
      exact⟨by rw[HE.out];rfl,Vb _ _ _⟩
    obtain⟨h1,h2⟩:=decode_high (⟨l.toArray⟩:ByteArray) pos hp (by rw[c0];omega);have h3:=decode_le (⟨l.toArray⟩:ByteArray) pos;have i0:∀ty,(Instr.next (F w.heap.size) true ty).run prog (w.iter ⟨l.toArray⟩ pos)=_:=λty=>run_next_any w ⟨l.toArray⟩ pos ty hp;have HE:Y (Fl.fo m l=none):=by
     show _=_;rw[HF.out,HR.out,d0.out,G]
     cases hh:Fl.dg c with
     |false=>rfl
     |true=>have:=(Fl.eG c).1 hh;omega
    generalize (Utf8.decode (⟨l.toArray⟩:ByteArray) pos).1=r at*;generalize (Utf8.decode (⟨l.toArray⟩:ByteArray) pos).2=rw at*;have y0:(128:Int)<=(r:Int):=(by omega);have z0:(r:Int)<=2147483647:=(by omega);clear h1 h3 c0;go_wp2
    go_ret2
    exact⟨by rw[HE.out];rfl,Vb _ _ _⟩
   have HE:Y (Fl.fo m l=some v):=by
    show _=_;rw[HF.out,HR.out,drop_of_length_le (by omega)];rfl
   have i0:∀ty,(Instr.next (F w.heap.size) true ty).run prog (w.iter ⟨l.toArray⟩ pos)=_:=λty=>run_next_end w ⟨l.toArray⟩ pos ty hp;go_wp2
   go_ret2
   exact⟨by rw[HE.out];rfl,Vb _ _ _⟩
def zby(c:UInt8):Fl.fD c=true ↔ 97<=c.toNat/\c.toNat<=122:=by
 unfold Fl.fD;rw[Qk,Qn,Qn,UInt8.le_iff_toNat_le,UInt8.le_iff_toNat_le];rfl
def zbx(p:UInt8->Bool)(l:L)(i:Nat)(h:i<l.length)(hp:p (l.getD i 0)=false):l.all p=false:=by
 rw[Bool.eq_false_iff];intro ha;rw[all_eq_true]at ha;have:=ha (l.getD i 0) (by rw[Qa,Qb h];simp)
 rw[hp]at this;cases this
def yd1(p:UInt8->Bool)(l:L)(h:∀i,i<l.length->p (l.getD i 0)=true):l.all p=true:=by
 rw[all_eq_true];intro x hx;obtain⟨i,hi,rfl⟩:=getElem_of_mem hx;have:=h i hi
 rwa [Qa,Qb hi]at this
def yn8(l:L)(w:World)(hl:l.length<=100000):
  E 167 #[Tq l] w (Rw (.bool (Fl.cd l)) w):=by
 have cD:(⟨l.toArray⟩:ByteArray).size=l.length:=rfl;have b0:Y (∀pos (h:pos<l.length),((⟨l.toArray⟩:ByteArray)[pos]'h)=l.getD pos 0):=by
  intro pos h;show l.toArray[pos]=_;simp[Qa,h]
 clear cD
 go_enter func167,ntmps167
 go_wp2_with fail
 go_loopw [] (λwr=>∃(pos:Nat),wr=w.iter ⟨l.toArray⟩ pos/\pos<=l.length/\∀i,i<pos->Fl.fD (l.getD i 0)=true) (λwr=>l.length - wr.iterPos w.heap.size)
 case atStart=>exact⟨0,rfl,by omega,λi hi=>by omega⟩
 case round=>
  obtain⟨pos,rfl,j0,hr⟩:=hrel;have HR:=Z hr;clear hr
  by_cases hp:pos<l.length
  ·obtain⟨c,hc⟩:=J (l.getD pos 0)
   have a0:(⟨l.toArray⟩:ByteArray)[pos]'hp=c:=(by rw[b0 pos hp,hc]);have HC:=Z hc;clear hc
   by_cases ha:c.toNat<128
   ·have e0:∀ty,(Instr.next (F w.heap.size) true ty).run prog (w.iter ⟨l.toArray⟩ pos)=.ok (.tuple #[.bool true,I pos,.int .i32 (c.toNat:Int)]) (w.iter ⟨l.toArray⟩ (pos+1)):=λty=>by
     have:=run_next_ascii (P:=prog) w ⟨l.toArray⟩ pos ty hp (by rw[a0];exact ha);rw[a0]at this;exact this
    have f0:Y (Fl.fD c=true ↔ 97<=c.toNat/\c.toNat<=122):=zby c;clear a0;generalize hcn:c.toNat=cn at*
    by_cases hd:97<=cn/\cn<=122
    ·have k0:(97:Int)<=(cn:Int):=by omega
     have l0:(cn:Int)<=122:=(by omega);have g0:=Z (f0.2 hd);clear hcn hd;go_wp2
     go_roundw
     case rel=>
      refine⟨pos+1,rfl,by omega,λi hi=>?_⟩
      by_cases h0:i=pos
      ·subst h0;rw[<-HC.out];exact g0
      exact HR i (by omega)
     case measure=>simp;omega
    have HE:Y (Fl.cd l=false):=by
     show _=_;unfold Fl.cd;rw[zbx _ l pos hp (by rw[<-HC.out];rw[Bool.eq_false_iff];intro h;exact hd (f0.1 h))];rfl
    clear hcn;have c0:(cn:Int)<97\/97<=(cn:Int)/\122<(cn:Int):=(by omega);rcases c0 with c0|⟨c0,m0⟩
    all_goals
     go_wp2;go_ret;exact⟨by rw[HE.out];rfl,Vb _ _ _⟩
   obtain⟨h1,h2⟩:=decode_high (⟨l.toArray⟩:ByteArray) pos hp (by rw[a0];omega);have h3:=decode_le (⟨l.toArray⟩:ByteArray) pos;have e0:∀ty,(Instr.next (F w.heap.size) true ty).run prog (w.iter ⟨l.toArray⟩ pos)=_:=λty=>run_next_any w ⟨l.toArray⟩ pos ty hp;have HE:Y (Fl.cd l=false):=by
    show _=_;unfold Fl.cd;rw[zbx _ l pos hp (by rw[<-HC.out];rw[Bool.eq_false_iff];intro h;have:=(zby c).1 h;omega)];rfl
   generalize (Utf8.decode (⟨l.toArray⟩:ByteArray) pos).1=r at*;generalize (Utf8.decode (⟨l.toArray⟩:ByteArray) pos).2=rw at*;have d0:(128:Int)<=(r:Int):=(by omega);have n0:(r:Int)<=2147483647:=(by omega);clear h1 h3 a0;go_wp2;go_ret;exact⟨by rw[HE.out];rfl,Vb _ _ _⟩
  have HA:=Z (yd1 _ l (λi hi=>HR i (by omega)));have e0:∀ty,(Instr.next (F w.heap.size) true ty).run prog (w.iter ⟨l.toArray⟩ pos)=_:=λty=>run_next_end w ⟨l.toArray⟩ pos ty hp
  by_cases h1:1<=l.length
  ·by_cases h6:l.length<=6
   ·have d0:(1:Int)<=(l.length:Int):=by omega
    have i0:(l.length:Int)<=6:=(by omega);have HE:Y (Fl.cd l=true):=(by show _=_;unfold Fl.cd;rw[HA.out];simp;omega);go_wp2;go_ret;exact⟨by rw[HE.out];rfl,Vb _ _ _⟩
   have d0:(1:Int)<=(l.length:Int):=(by omega);have i0:¬(l.length:Int)<=6:=(by omega);have HE:Y (Fl.cd l=false):=(by show _=_;unfold Fl.cd;rw[HA.out];simp;omega);go_wp2;go_ret;exact⟨by rw[HE.out];rfl,Vb _ _ _⟩
  have d0:¬(1:Int)<=(l.length:Int):=(by omega);have HE:Y (Fl.cd l=false):=(by show _=_;unfold Fl.cd;rw[HA.out];simp;omega);go_wp2;go_ret;exact⟨by rw[HE.out];rfl,Vb _ _ _⟩
def zj9(l:L)(w:World)(hl:l.length<=100000):
  E 168 #[Tq l] w (Rw (.tuple #[I ((Fl.fo 999999999 l).getD 0),.bool (Fl.fo 999999999 l).isSome]) w):=by
 have HN:=Z (ysv l 999999999 w hl (by decide) (by decide));generalize (((Fl.fo 999999999 l).getD 0:Nat):Int)=v at*;generalize (Fl.fo 999999999 l).isSome=b at*
 go_enter func168,ntmps168
 go_wp2_with fail
 refine HN.mono ?_;rintro e w1 ⟨rfl,hb⟩;go_wp2
 go_ret2
 exact⟨rfl,hb⟩
def yn9(l:L):(l=[43]/\Fl.aj Fl.cW l=0)\/(l=[45]/\Fl.aj Fl.cW l=1)\/(l=[42]/\Fl.aj Fl.cW l=2)\/(l=[60]/\Fl.aj Fl.cW l=3)\/(l=[61,61]/\Fl.aj Fl.cW l=4)\/((l==[43])=false/\(l==[45])=false/\(l==[42])=false/\(l==[60])=false/\(l==[61,61])=false/\Fl.aj Fl.cW l= -1):=by
 by_cases h1:l=[43]
 ·subst h1;left;exact⟨rfl,rfl⟩
 by_cases h2:l=[45]
 ·subst h2;right;left;exact⟨rfl,rfl⟩
 by_cases h3:l=[42]
 ·subst h3;right;right;left;exact⟨rfl,rfl⟩
 by_cases h4:l=[60]
 ·subst h4;right;right;right;left;exact⟨rfl,rfl⟩
 by_cases h5:l=[61,61]
 ·subst h5;right;right;right;right;left;exact⟨rfl,rfl⟩
 right;right;right;right;right
 refine⟨by simpa using h1,by simpa using h2,by simpa using h3,by simpa using h4,by simpa using h5,Fl.gD l Fl.cW λj hj=>?_⟩;have hj:j<5:=hj;rcases(show j=0\/j=1\/j=2\/j=3\/j=4 by omega) with rfl|rfl|rfl|rfl|rfl<;>simp[Fl.cW]<;>(intro h;exact absurd h.symm (by assumption))
def znw(l:L)(w:World)(hl:l.length<=100000):
  E 169 #[Tq l] w (Rq (.tuple #[I ((Fl.aj Fl.cW l).toNat:Int),.bool (decide (0<=Fl.aj Fl.cW l))]) w):=by
 rcases yn9 l with⟨rfl,h⟩|⟨rfl,h⟩|⟨rfl,h⟩|⟨rfl,h⟩|⟨rfl,h⟩|⟨h1,h2,h3,h4,h5,h⟩
 all_goals
  rw[h];clear h
  go_enter func169,ntmps169
  go_wp2
  go_ret2
  exact⟨rfl,rfl⟩
def zgv(w:World)(v:Value)(ss:List ByteArray):Prop:=
 ∃ao cap,v=A ao ss.length cap/\ss.length<=maxLen/\(∀s∈ss,s.size<=maxLen)/\
  (ss≠[]->∃b off,ao=some (O b off)/\∀i,i<ss.length->w.cell? (O b (off+i))=some (.string (ss.getD i ByteArray.empty)))
def bl(ss:List ByteArray):List L:=ss.map ByteArray.toList
def ypz(ss:List ByteArray)(k:Nat)(h:k<ss.length):(bl ss).getD k []=(ss.getD k ByteArray.empty).toList:=by
 simp[bl,Qa,h]
def zbw(ss:List ByteArray):(bl ss).length=ss.length:=by simp[bl]
def yw0(s:ByteArray)(m:Nat)(w:World)(hs:s.size<=maxLen)(hm:m<=10):E 51 #[.string s,I m] w (Rq (.tuple #[I (Fl.bm s.toList m).1,.bool (Fl.bm s.toList m).2]) w):=by
 rw[ByteArray.toList_eq];exact yn6 s m w hs hm
def zm9(v:Value)(ss:List ByteArray)(s:ByteArray)(w:World)(hv:zgv w v ss):E 30 #[v,.string s] w (Rq (I (Fl.aj (bl ss) s.toList)) w):=by
 obtain⟨ao,cap,rfl,hl,_,hc⟩:=hv;unfold maxLen at hl
 go_enter func30,ntmps30
 go_wp2
 go_loop [5] (λi=>∃k:Nat,k<=ss.length/\i=I k/\∀j,j<k->((bl ss).getD j []==s.toList)=false) (λi=>ss.length - (intOf i).toNat)
 case atStart=>exact⟨0,Nat.zero_le _,rfl,λj hj=>by omega⟩
 case round=>
  obtain⟨k,hk,rfl,dt⟩:=hrel;have HN:=Z dt;clear dt
  by_cases b0:k<ss.length
  ·obtain⟨b,off,rfl,a0⟩:=hc (by intro h;rw[h]at b0;simp at b0)
   have c0:=a0 k b0;obtain⟨x,hx⟩:=J (ss.getD k ByteArray.empty);rw[<-hx]at c0;have HX:=Z hx;clear hx a0 hc;go_wp2
   ·have hE:(x.toList==s.toList)=true:=by assumption
    go_ret;exact⟨Vm (Fl.kt _ _ k HN (by rw[zbw];exact b0) (by rw[ypz _ _ b0,<-HX.out];exact hE)).symm,rfl⟩
   have hE:(x.toList==s.toList)=false:=(by assumption)
   go_round
   case rel=>exact⟨k+1,by omega,by go_num,λj hj=>by
    by_cases d0:j<k
    ·exact HN j d0
    have:j=k:=by omega
    rw[this,ypz _ _ b0,<-HX.out];exact hE⟩
   case measure=>simp[intOf];omega
  go_wp2;go_ret;exact⟨Vm (Fl.gD _ _ (λj hj=>HN j (by rw[zbw]at hj;omega))).symm,rfl⟩
def Tryz.infoStr:(Tryz.prog.info? 9).map (λi=>(i.zero,i.size,i.bytes))=some (some (.string ⟨#[]⟩),1,16):=by kernel_rfl
def strV(l:L):Value:=Tq l
def yd2{xs:Vs}(h:w.ownsRow base e 1 v n xs)(hn:0<n):∃g cap,v=Sq g 0 n cap/\base<=g/\g<w.heap.size:=by
 rcases h.2 with⟨rfl,h0⟩|⟨g,cap,cur,rfl,hb,hg,_⟩
 ·omega
 exact⟨g,cap,rfl,hb,(Array.getElem?_eq_some_iff.1 hg).1⟩
def ext_one(s:ByteArray)(k:Nat)(h:k<s.size)(cu:L):string (⟨cu.toArray⟩++s.extract k (k+1))=strV (cu++[s[k]]):=by
 have e:s.extract k (k+1)=⟨[s[k]].toArray⟩:=by
  have h1:(s.extract k (k+1)).data.toList=[s[k]]:=by
   rw[Lib.extract_data,drop_eq_getElem_cons (by simpa using h)];simp;rfl
  have h2:=Lib.mk_data (s.extract k (k+1));rw[h1]at h2;exact h2.symm
 rw[e];unfold strV;rw[ByteArray.mk_append_mk]
def yd3(dn:List L)(cu cu':L):((dn++[cu]).map strV).set dn.length (strV cu')=(dn++[cu']).map strV:=by
 simp[set_append]
def Xo{x:Value}:∀j u,[x][j]?=some u->(w.alloc (.cells #[x] e)).cell? (((O w.heap.size 0):Addr).add j)=some u:=by
 intro j u hj
 match j,hj with
 |0,hj=>simp at hj;subst hj;simp[Addr.add]
def yd4(s:ByteArray)(c:UInt8)(w:World)(hs:s.size<=100000):
  E 11 #[.string s,.int .u8 c.toNat] w λe w'=>∃v,e=.returned v/\w'.ownsRow w.heap.size 9 1 v (Fl.cut c s.data.toList).length ((Fl.cut c s.data.toList).map strV)/\D w w':=by
 obtain⟨i0,hi,j0,k0,l0⟩:=info_parts Tryz.infoStr
 go_enter func11,ntmps11
 go_wp2
 go_loopw [5,6] (λv i wr=>∃(k:Nat) (dn:List L) (cu:L),k<=s.size/\i=I k/\Fl.fB c (s.data.toList.take k)=(dn,cu)/\wr.ownsRow w.heap.size 9 1 v (dn.length+1) ((dn++[cu]).map strV)/\D w wr) (λ_ i _=>s.size - (intOf i).toNat)
 case atStart=>
  refine⟨0,[],[],by omega,rfl,rfl,⟨rfl,.inr ⟨w.heap.size,1,#[.string ⟨#[]⟩],rfl,lE,heap_alloc_new w _,by simp,by simp[maxLen],rfl,rfl⟩⟩,bA⟩
 case round=>
  obtain⟨k,dn,cu,hk,rfl,f0,a0,b0⟩:=hrel;have HC:=Z f0;have g0:=Fl.kI c (s.data.toList.take k);rw[f0]at g0;simp only[length_take]at g0;have q0:dn.length<=k:=(by omega);have r0:cu.length<=k:=(by omega);have m0:=b0.size;obtain⟨g,cap,rfl,n0,s0⟩:=yd2 a0 (by omega);clear f0 g0
  by_cases e0:k<s.size
  ·by_cases hx:s[k]=c
   ·have b1:((s[k].toNat:Int)==(c.toNat:Int))=true:=by rw[hx];simp
    have HX:=Z hx;clear hx
    go_wp2_with (at_builtin;refine wpList_append_own _ rfl _ _ 48 rfl w.heap.size 9 i0 (.string ⟨#[]⟩) 1 16 underlying48 hi j0 k0 l0 rfl (by decide) _ _ _ rfl (a0.alloc _) (O _ 0) 1 1 [.string ⟨#[]⟩] rfl rfl Xo ?c2 ?c3 ?c4 ?c5 ?_)
    case c2=>first|rfl|(intro u hu;simp at hu;subst hu;rfl)
    case c3=>unfold maxLen;omega
    case c4=>omega
    case c5=>first|omega|(simp;omega)
    intro v' w1 hown' c0 _;have R1:w1.ownsRow w.heap.size 9 1 v' ((dn++[cu]).length+1) ((dn++[cu]++[[]]).map strV):=by
     have e1:(dn++[cu]++[[]]).map strV=dn.map strV++[strV cu,.string ⟨#[]⟩]:=(by simp[strV]);rw[e1,length_append,length_singleton];exact hown'
    have R2:=(b0.alloc m0 _).grown c0 (by simp;omega) (λg hg=>(a0.lt g hg).1);have o0:=Z R1;clear hown' c0 a0 R1;go_wp2
    go_roundw
    case rel=>exact⟨k+1,dn++[cu],[],by omega,by go_num,by rw[zq2 s k e0,Fl.hZ,HC.out];simp[Fl.bD,HX.out],o0,R2⟩
    case measure=>simp[intOf];omega
   have b1:((s[k].toNat:Int)==(c.toNat:Int))=false:=(by rw[Qh];intro hh;exact hx (UInt8.toNat_inj.1 (by omega)));have HX:=Z hx;clear hx;have h0:wr.cell? (O g dn.length)=some (Tq cu):=by
    rw[a0.cellAt dn.length (by omega)];simp[strV]
   have t0:wr.frozen? (O g dn.length)=false:=a0.frozenAt _;have cZ:=a0.stored dn.length (.string (⟨cu.toArray⟩++s.extract k (k+1)));have p0:=Z cZ.1;have HB:Y (D w (wr.setCell (O g dn.length) (.string (⟨cu.toArray⟩++s.extract k (k+1))))):=b0.setCell n0 _;clear cZ a0 b0;have u0:(k:Int)<(s.size:Int):=(by omega);have v0:((⟨cu.toArray⟩:ByteArray).size:Int)<=100000:=(by show ((cu.toArray.size:Nat):Int)<=100000;simp;omega)
   go_wp2_with fail
   go_region
   all_goals
    go_wp2
    go_roundw
    case rel=>exact⟨k+1,dn,cu++[s[k]],by omega,by go_num,by rw[zq2 s k e0,Fl.hZ,HC.out];simp[Fl.bD,HX.out],by rw[<-yd3 dn cu,<-ext_one s k e0];exact p0.out,HB.drew⟩
    case measure=>simp[intOf];omega
  have d0:Fl.cut c s.data.toList=dn++[cu]:=by
   unfold Fl.cut;rw[<-zo9 s k e0,HC.out]
  have HF:=Z d0;clear d0;go_wp2;go_ret;exact⟨_,rfl,by rw[HF.out,length_append,length_singleton];exact a0,b0⟩
def Zi(B:Nat)(w:World)(v:Value)(ws:List L):Prop:=
 ∃ao cap,v=A ao ws.length cap/\ws.length<=cap/\cap<=maxLen/\ws.length<=100000/\(∀x∈ws,x.length<=100000)/\
  (ws≠[]->∃b off,ao=some (O b off)/\b<B/\∀i,i<ws.length->w.cell? (O b (off+i))=some (strV (ws.getD i [])))
def Zi.below(h:Zi B w v ws)(hb:Below B w w'):Zi B w' v ws:=by
 obtain⟨ao,cap,h1,h2,h3,h4,h5,h6⟩:=h;refine⟨ao,cap,h1,h2,h3,h4,h5,λa0=>?_⟩;obtain⟨b,off,e,hb',hc⟩:=h6 a0;exact⟨b,off,e,hb',λi hi=>cT hb hb' (hc i hi)⟩
def Zi.mono(h:Zi B w v ws)(hB:B<=B'):Zi B' w v ws:=by
 obtain⟨ao,cap,h1,h2,h3,h4,h5,h6⟩:=h;refine⟨ao,cap,h1,h2,h3,h4,h5,λa0=>?_⟩;obtain⟨b,off,e,hb',hc⟩:=h6 a0;exact⟨b,off,e,by omega,hc⟩
def Zi.drop{B:Nat}{w:World}{b off n cap:Nat}{ws:List L}(h:Zi B w (Sq b off n cap) ws)(k:Nat)(hk:k<=n):Zi B w (Sq b (off+k) (n - k) (cap - k)) (ws.drop k):=by
 obtain⟨ao,cap',h1,h2,h3,h4,h5,h6⟩:=h;simp only[slice.injEq]at h1;obtain⟨rfl,rfl,rfl⟩:=h1;refine⟨_,_,by rw[length_drop],by rw[length_drop];omega,by omega,by rw[length_drop];omega,λx hx=>h5 x (mem_of_mem_drop hx),λa0=>?_⟩
 have hn:ws≠[]:=by rintro rfl;simp at a0
 obtain⟨b',off',e,hb',hc⟩:=h6 hn;simp only[Ql,Addr.mk.injEq,and_true]at e;obtain⟨rfl,rfl⟩:=e;refine⟨_,_,rfl,hb',λi hi=>?_⟩;rw[length_drop]at hi;rw[Nat.add_assoc,hc (k+i) (by omega)];simp[Qa]
def Zi.dp(h:w.ownsRow base e 1 v n (ws.map strV))(hl:ws.length<=100000)(h5:∀x∈ws,x.length<=100000):Zi w.heap.size w v ws:=by
 have hl:ws.length=n:=by have:=h.1;simpa using this
 rcases h.2 with⟨rfl,h0⟩|⟨g,cap,cur,rfl,hb,hg,b0,a0,c0,ht⟩
 ·have:ws=[]:=Qi (by omega)
  subst this;exact⟨none,0,rfl,by simp,by simp[maxLen],by simp,by simp,λh=>absurd rfl h⟩
 refine⟨_,cap,by rw[hl],by omega,a0,by omega,h5,λd0=>⟨g,0,rfl,(Array.getElem?_eq_some_iff.1 hg).1,λi hi=>?_⟩⟩;have h1:=h.cells (g:=g) rfl i (strV (ws.getD i [])) (by simp[Qa,hi])
 have h2:((O g 0):Addr).add i=(O g (0+i)):=by unfold Addr.add;split<;>simp_all
 rw[h2]at h1;exact h1
def Jl(W:World)(k:Nat)(s:ByteArray)(pos:Nat):World:={W with heap:=W.heap.setIfInBounds k (.stringIter s pos)}
def next_at(W:World)(k:Nat)(s:ByteArray)(pos:Nat)(ty:TypeId)(hk:W.heap[k]?=some (.stringIter s pos))(h:pos<s.size)(ha:(s[pos]'h).toNat<128):
  (Instr.next (F k) true ty).run prog W=.ok (.tuple #[.bool true,I pos,.int .i32 (s[pos]'h).toNat]) (Jl W k s (pos+1)):=by
 simp only[Instr.next,getObj,setObj,Sem.run_bind,Sem.run,hk,Result.andThen,h,if_true,decode_ascii s pos h ha];simp[goInt,Sem.run,hk,Jl]
def yr0(W:World)(k:Nat)(s:ByteArray)(pos:Nat)(ty:TypeId)(hk:W.heap[k]?=some (.stringIter s pos))(h:¬pos<s.size):
  (Instr.next (F k) true ty).run prog W=.ok (.tuple #[.bool false]) W:=by
 simp[Instr.next,getObj,Sem.run,hk,h]
def ynz{s:ByteArray}{pos:Nat}(hk:k<W.heap.size):(Jl W k s pos).heap[k]?=some (.stringIter s pos):=by
 simp[Jl,hk]
def yw1(W:World)(k:Nat)(s:ByteArray)(pos:Nat):(Jl W k s pos).heap.size=W.heap.size:=by simp[Jl]
def yy3(W:World)(k:Nat)(s:ByteArray)(pos j:Nat)(hj:j≠k):(Jl W k s pos).heap[j]?=W.heap[j]?:=by
 simp only[Jl];rw[Array.getElem?_setIfInBounds_ne (by omega)]
def yy4(h:Below B w W)(hk:B<=k)(s:ByteArray)(pos:Nat):Below B w (Jl W k s pos):=
 ⟨h.os,h.tape,h.output,by rw[yw1];exact h.size,λj hj=>by rw[yy3 _ _ _ _ _ (by omega)];exact h.block j hj⟩
def yd5(B:Nat)(sh:L)(v:Value)(ws:List L)(w:World)(hv:Zi B w v ws)(hB:B<=w.heap.size)(y0:∀c∈sh,c=110\/c=97\/c=111)(T0:sh.length<=4):
  E 141 #[Tq sh,v] w (Rw (.bool (Fl.bf sh ws)) w):=by
 obtain⟨ao,cap,rfl,hl,I0,hn,i0,hc⟩:=hv
 by_cases aL:ws.length=sh.length
 ·have b0:((ws.length:Int) !=(sh.length:Int))=false:=by rw[aL];simp
  have j0:Y (∀pos (h:pos<sh.length),((⟨sh.toArray⟩:ByteArray)[pos]'h)=sh.getD pos 0):=by
   intro pos h;show sh.toArray[pos]=_;simp[Qa,h]
  have z0:=Z (Fl.iz sh ws aL);have J0:=Z y0;have HL:=Z aL;have K0:=Z i0;have HC:=Z hc;clear aL y0 i0 hc
  go_enter func141,ntmps141
  go_wp2_with fail
  go_loopw [] (λwr=>∃(pos:Nat),wr.heap[w.heap.size]?=some (.stringIter ⟨sh.toArray⟩ pos)/\D w wr/\pos<=sh.length/\∀i,i<pos->Fl.gh (sh.getD i 0) (ws.getD i [])=true) (λwr=>sh.length - wr.iterPos w.heap.size)
  case atStart=>exact⟨0,iter_heap _ _ _,Vb _ _ _,by omega,λi hi=>by omega⟩
  case round=>
   obtain⟨pos,d0,a0,U0,hr⟩:=hrel;have HR:=Z hr;have L0:=(Array.getElem?_eq_some_iff.1 d0).1;have e0:wr.iterPos w.heap.size=pos:=(by unfold iterPos;rw[d0]);have k0:=Z e0;clear hr e0
   by_cases hp:pos<sh.length
   ·obtain⟨c,g0⟩:=J (sh.getD pos 0)
    have l0:(⟨sh.toArray⟩:ByteArray)[pos]'hp=c:=(by rw[j0 pos hp,g0]);have m0:=J0 c (by rw[g0,Qa,Qb hp];simp)
    have ha:c.toNat<128:=by rcases m0 with rfl|rfl|rfl<;>decide
    have A0:∀ty,(Instr.next (F w.heap.size) true ty).run prog wr=.ok (.tuple #[.bool true,I pos,.int .i32 (c.toNat:Int)]) (Jl wr w.heap.size ⟨sh.toArray⟩ (pos+1)):=λty=>by
     have:=next_at wr w.heap.size ⟨sh.toArray⟩ pos ty d0 hp (by rw[l0];exact ha);rw[l0]at this;exact this
    obtain⟨W1,h0⟩:=J (Jl wr w.heap.size ⟨sh.toArray⟩ (pos+1));rw[<-h0]at A0;have n0:D w W1:=(by rw[h0];exact yy4 a0 lE _ _);have B0:Y (W1.heap[w.heap.size]?=some (.stringIter ⟨sh.toArray⟩ (pos+1))):=(by show _=_;rw[h0];exact ynz L0);obtain⟨b,off,rfl,V0,c0⟩:=HC (by intro h;have:=HL.out;rw[h]at this;simp at this;omega);obtain⟨x,hx⟩:=J (ws.getD pos []);have hpw:pos<ws.length:=(by have:=HL.out;omega);have o0:=K0 x (by rw[hx,Qa,Qb hpw];simp)
    have p0:∀W,D w W->W.cell? (O b (off+pos))=some (Tq x):=λW hW=>by
     rw[hW.cell (by show b<_;omega),c0 pos hpw,hx];rfl
    have q0:=Z p0;have M0:=Z n0;have HX:=Z hx;have C0:=Z g0;have N0:=p0 W1 n0;have O0:=(Array.getElem?_eq_some_iff.1 B0).1;have W0:(pos:Int)<(ws.length:Int):=(by omega);clear c0 l0 h0 hx g0 p0 n0 d0 a0;obtain⟨nb,hnb⟩:=J (Fl.cd x);obtain⟨kb,r0⟩:=J ((Fl.fo 999999999 x).isSome);obtain⟨kv,D0⟩:=J (((Fl.fo 999999999 x).getD 0:Nat));obtain⟨ob,s0⟩:=J (decide (0<=Fl.aj Fl.cW x));obtain⟨ov,E0⟩:=J (((Fl.aj Fl.cW x).toNat:Int))
    have HN:Y (∀W,E 167 #[Tq x] W (Rw (.bool nb) W)):=λW=>by rw[hnb];exact yn8 x W o0
    have HK:Y (∀W,E 168 #[Tq x] W (Rw (.tuple #[I kv,.bool kb]) W)):=λW=>by rw[D0,r0];exact zj9 x W o0
    have HO:Y (∀W,E 169 #[Tq x] W (Rq (.tuple #[I ov,.bool ob]) W)):=λW=>by rw[E0,s0];exact znw x W o0
    have f0:Y (Fl.gh c x=if c=110 then nb else if c=97 then(nb||kb) else ob):=by
     show _=_;rw[hnb,r0,s0,Fl.km];rcases m0 with rfl|rfl|rfl<;>simp[Fl.gh,Fl.atom]
    have P0:Y (Fl.gh c x=false->Fl.bf sh ws=false):=λh=>by
     rw[Bool.eq_false_iff];intro hh;have:=z0.1 hh pos hp
     rw[<-C0.out,<-HX.out,h]at this;cases this
    have t0:Y (Fl.gh c x=true->∀i,i<pos+1->Fl.gh (sh.getD i 0) (ws.getD i [])=true):=λh i hi=>by
     by_cases Q0:i=pos
     ·subst Q0;rw[<-C0.out,<-HX.out];exact h
     exact HR i (by omega)
    clear hnb r0 D0 s0 E0 ha
    go_wp2_with fail
    refine(HN _).mono ?_;rintro e W2 ⟨rfl,u0⟩;have F0:=Z (M0.trans (u0.mono (by omega)));have G0:=Z ((u0.block _ O0).trans B0.out);have R0:=q0 W2 F0.out;have S0:=(Array.getElem?_eq_some_iff.1 G0).1;clear u0 N0
    go_wp2_with fail
    refine(HK _).mono ?_;rintro e W3 ⟨rfl,v0⟩;have x0:=Z (F0.trans (v0.mono (by omega)));have H0:=Z ((v0.block _ S0).trans G0.out);have X0:=q0 W3 x0.out;clear v0 R0
    go_wp2_with fail
    refine(HO _).mono ?_;rintro e W4 ⟨rfl,rfl⟩;clear HN HK HO q0;rcases m0 with rfl|rfl|rfl<;>cases nb<;>cases kb<;>cases ob
    all_goals
     go_wp2
     first
     |(go_ret;exact⟨by rw[P0 (by rw[f0.out];rfl)];rfl,x0⟩)
     |(go_roundw;(case rel=>exact⟨pos+1,H0,x0,by omega,t0 (by rw[f0.out];rfl)⟩);(case measure=>rw[k0.out];simp[iterPos,H0.out];omega))
   have HA:=Z (z0.2 (λi hi=>HR i (by omega)));have A0:∀ty,(Instr.next (F w.heap.size) true ty).run prog wr=.ok (.tuple #[.bool false]) wr:=λty=>yr0 wr w.heap.size ⟨sh.toArray⟩ pos ty d0 hp;have HB:=Z a0;clear d0 a0;go_wp2;go_ret;exact⟨by rw[HA.out];rfl,HB⟩
 have b0:((ws.length:Int) !=(sh.length:Int))=true:=by rw[bne_iff_ne];omega
 have HE:Y (Fl.bf sh ws=false):=by
  show _=_;rw[Bool.eq_false_iff];intro h;exact aL (Fl.br sh ws h)
 clear hc i0
 go_enter func141,ntmps141
 go_wp2;go_ret;exact⟨by rw[HE.out];rfl,Below.refl _ _⟩
end Go.Proofs.YtgmbnnpnefniiaaGreatDoor
