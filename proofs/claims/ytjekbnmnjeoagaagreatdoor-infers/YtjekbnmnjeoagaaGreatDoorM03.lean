import Derived.Test.YtjekbnmnjeoagaaGreatDoorM00
import Derived.Test.YtjekbnmnjeoagaaGreatDoorM01
import Derived.Lib.Split
import Derived.Lib.ItoaNum
import Derived.WalkSpells
import Derived.WalkLawsBesides
set_option linter.all false
set_option maxRecDepth 100000
set_option maxHeartbeats 40000000
namespace Go.Proofs.YtjekbnmnjeoagaaGreatDoor
open Go.Proofs.Tryz
variable{B n k a b:Nat}{w:World}{v:Value}{xs:List Int}
namespace Fl
structure Node where
 kind:Int
 level:Int
 a:Int
 b:Int
 c:Int
 list:List Int
def fields(k:Int):Int:=
 if k=0\/k=1 then 1 else if k=3\/k=4\/k=6 then 2 else if k=2\/k=5 then 3 else if k=7 then -1 else -2
def isLow(c:UInt8):Bool:=97<=c && c<=122
def isDig(c:UInt8):Bool:=48<=c && c<=57
def named(l:List UInt8):Bool:=l.all isLow && (decide (0<l.length) && decide (l.length<=6))
def val(l:List UInt8):Nat:=l.foldl (λv c=>10*v+(c.toNat - 48)) 0
def numOk(l:List UInt8)(most:Nat):Bool:=decide (0<l.length) && (decide (l.length<=most) && (l.headD 0 !=48||decide (l.length=1)))
def number(l:List UInt8)(most:Nat):Nat×Bool:=if l.all isDig then(val (l.take most),numOk l most) else(0,false)
def placeFrom(i:Nat)(w:List UInt8):List (List UInt8)->Int
 |[]=> -1
 |x::r=>if x==w then(i:Int) else placeFrom (i+1) w r
def place(l:List (List UInt8))(w:List UInt8):Int:=placeFrom 0 w l
def atom(l:List UInt8):Bool:=named l||(number l 9).2
def signs:List (List UInt8):=[[43],[45],[42],[60],[61,61]]
def wLevel:List UInt8:=[108,101,118,101,108]
def wBelow:List UInt8:=[98,101,108,111,119]
def wCell:List UInt8:=[99,101,108,108]
def wChannel:List UInt8:=[99,104,97,110,110,101,108]
def wBegin:List UInt8:=[98,101,103,105,110]
def wElse:List UInt8:=[101,108,115,101]
def wEnd:List UInt8:=[101,110,100]
def wIf:List UInt8:=[105,102]
def wWhile:List UInt8:=[119,104,105,108,101]
def wOut:List UInt8:=[111,117,116]
def wSet:List UInt8:=[115,101,116]
def line:List (List UInt8)->Bool
 |[a]=>a==wBegin||a==wElse||a==wEnd
 |[a,b]=>(a==wLevel && named b)||((a==wIf||a==wWhile) && atom b)
 |[a,b,c]=>((a==wBelow||a==wCell||a==wChannel) && named b && named c)||((a==wOut||a==wSet) && named b && atom c)
 |[a,b,c,d,e]=>a==wSet && named b && atom c && decide (0<=place signs d) && atom e
 |_=>false
def placeFrom_hit(w:List UInt8)(l:List (List UInt8)):∀(i k:Nat),(∀j,j<k->(l.getD j []==w)=false)->k<l.length->(l.getD k []==w)=true->placeFrom i w l=((i+k:Nat):Int):=by
 induction l with
 |nil=>intro i k _ h;simp at h
 |cons x r ih=>
  intro i k hn hk hw
  match k with
  |0=>simp only[List.getD_cons_zero]at hw;simp[placeFrom,hw]
  |k+1=>
   have h0:=hn 0 (by omega);simp only[List.getD_cons_zero]at h0;simp only[placeFrom,h0];rw[if_neg (by simp),ih (i+1) k (λj hj=>by simpa using hn (j+1) (by omega)) (by simpa using hk) (by simpa using hw)];omega
def placeFrom_miss(w:List UInt8)(l:List (List UInt8)):∀(i:Nat),(∀j,j<l.length->(l.getD j []==w)=false)->placeFrom i w l= -1:=by
 induction l with
 |nil=>intro i _;rfl
 |cons x r ih=>
  intro i hn;have h0:=hn 0 (by simp);simp only[List.getD_cons_zero]at h0;simp only[placeFrom,h0];rw[if_neg (by simp),ih (i+1) (λj hj=>by simpa using hn (j+1) (by simpa using hj))]
def place_hit(w:List UInt8)(l:List (List UInt8))(k:Nat)(h:∀j,j<k->(l.getD j []==w)=false)(hk:k<l.length)(hw:(l.getD k []==w)=true):place l w=(k:Int):=by
 have:=placeFrom_hit w l 0 k h hk hw;simpa [place] using this
def place_miss(w:List UInt8)(l:List (List UInt8))(h:∀j,j<l.length->(l.getD j []==w)=false):place l w= -1:=placeFrom_miss w l 0 h
def val_snoc(l:List UInt8)(c:UInt8):val (l++[c])=10*val l+(c.toNat - 48):=by
 simp[val,List.foldl_append]
def val_from(l:List UInt8):∀v,l.all isDig=true->l.foldl (λv c=>10*v+(c.toNat - 48)) v<(v+1)*10 ^ l.length:=by
 induction l with
 |nil=>intro v _;simp
 |cons c l ih=>
  intro v h;rw[List.all_cons,Bool.and_eq_true]at h;have h2:c.toNat - 48<10:=by
   have:=h.1;simp[isDig,UInt8.le_iff_toNat_le]at this;omega
  have h1:=ih (10*v+(c.toNat - 48)) h.2;rw[List.foldl_cons,List.length_cons,Nat.pow_succ];refine Qj h1 ?_;rw[Nat.mul_comm (10 ^ l.length) 10,<-Nat.mul_assoc];exact Nat.mul_le_mul_right _ (by omega)
def val_lt(l:List UInt8)(h:l.all isDig=true):val l<10 ^ l.length:=by
 have:=val_from l 0 h;simpa [val] using this
def val_le(l:List UInt8)(m:Nat)(h:l.all isDig=true)(hm:l.length<=m)(a0:m<=10):val l<10000000000:=by
 have h1:=val_lt l h;have h2:10 ^ l.length<=10 ^ 10:=Nat.pow_le_pow_right (by omega) (by omega);omega
end Fl
open Go.RowKit
def Zw(B:Nat)(w:World)(v:Value)(xs:List Int):Prop:=
 ∃ao cap,v=.slice ao xs.length cap/\xs.length<=cap/\xs.length<=maxLen/\
  (xs≠[]->∃b off,ao=some (Aq b off)/\b<B/\∀i,i<xs.length->w.cell? (Aq b (off+i))=some (Iq (xs.getD i 0)))
def Zw.below{w':World}(h:Zw B w v xs)(hb:Below B w w'):Zw B w' v xs:=by
 obtain⟨ao,cap,hv,hc,hl,hx⟩:=h;refine⟨ao,cap,hv,hc,hl,λc0=>?_⟩;obtain⟨b,off,ha,b0,a0⟩:=hx c0;exact⟨b,off,ha,b0,λi hi=>(hb.cell (p:=(Aq b (off+i))) b0).trans (a0 i hi)⟩
def Zw.mono{B':Nat}(h:Zw B w v xs)(hB:B<=B'):Zw B' w v xs:=by
 obtain⟨ao,cap,hv,hc,hl,hx⟩:=h;refine⟨ao,cap,hv,hc,hl,λb0=>?_⟩;obtain⟨b,off,ha,c0,a0⟩:=hx b0;exact⟨b,off,ha,by omega,a0⟩
def Zw.nil(B:Nat)(w:World):Zw B w Zq []:=⟨none,0,rfl,by simp,by simp[maxLen],λh=>absurd rfl h⟩
def Zw.size{B:Nat}{w:World}{v:Value}{xs:List Int}(h:Zw B w v xs):Zw w.heap.size w v xs:=by
 obtain⟨ao,cap,hv,hc,hl,hx⟩:=h;refine⟨ao,cap,hv,hc,hl,λb0=>?_⟩;obtain⟨b,off,ha,c0,a0⟩:=hx b0;have:0<xs.length:=List.length_pos_iff.2 b0;exact⟨b,off,ha,Qe w _ (a0 0 this),a0⟩
def Zw.of_own{base:Nat}{e:TypeId}(h:w.ownsRow base e 1 v n (xs.map (Value.int .i64))):Zw w.heap.size w v xs:=by
 have hl:xs.length=n:=by have:=h.1;simpa using this
 rcases h.2 with⟨rfl,h0⟩|⟨g,cap,cur,rfl,hb,hg,a0,b0,c0,ht⟩
 ·have:xs=[]:=Qi (by omega)
  subst this;exact Zw.nil _ _
 refine⟨_,cap,by rw[hl],by omega,by omega,λd0=>⟨g,0,rfl,(Array.getElem?_eq_some_iff.1 hg).1,λi hi=>?_⟩⟩;have h1:=h.cells (g:=g) rfl i (Iq (xs.getD i 0)) (by simp[Qa,hi])
 have h2:((Aq g 0):Addr).add i=(Aq g (0+i)):=by unfold Addr.add;split<;>simp_all
 rw[h2]at h1;exact h1
def Zw.fresh(xs:List Int)(e:TypeId)(hl:xs.length<=maxLen)(B:Nat)(hB:w.heap.size<B):Zw B (w.alloc (.cells (xs.map (Value.int .i64)).toArray e)) (.slice (some (Aq w.heap.size 0)) xs.length xs.length) xs:=by
 refine⟨_,_,rfl,Nat.le_refl _,hl,λ_=>⟨_,_,rfl,hB,λi hi=>?_⟩⟩;rw[World.cell?_alloc_new];simp[Qa,hi]
def Zw.fresh2(w:World)(o:Obj)(xs:List Int)(arr:Array Value)(e:TypeId)(n:Nat)(a0:arr=(xs.map (Value.int .i64)).toArray)(hn:n=xs.length)(hl:xs.length<=maxLen):
  Zw ((w.alloc o).alloc (.cells arr e)).heap.size ((w.alloc o).alloc (.cells arr e)) (.slice (some (Aq (w.heap.size+1) 0)) n n) xs:=by
 subst a0 hn;have:=Zw.fresh (w:=w.alloc o) xs e hl ((w.alloc o).alloc (.cells (xs.map (Value.int .i64)).toArray e)).heap.size (by simp)
 rwa [World.size_alloc w o]at this
def prem(n:Fl.Node):List Int:=
 if n.kind=2 then [n.b,n.c] else if n.kind=3\/n.kind=4 then [n.b] else if n.kind=5 then [n.a,n.b,n.c] else if n.kind=6 then [n.a,n.b] else if n.kind=7 then n.list else []
def Ju(n:Fl.Node)(lv:Value):Value:=.agg #[Iq n.kind,Iq n.level,Iq n.a,Iq n.b,Iq n.c,lv]
end Go.Proofs.YtjekbnmnjeoagaaGreatDoor
namespace Go.Proofs.YtjekbnmnjeoagaaGreatDoor
open Go.Proofs.Tryz
variable{B n k a b:Nat}{w:World}{v:Value}{xs:List Int}
namespace Fl
def codedF:Nat->Nat->List UInt8
 |0,v=>[UInt8.ofNat v]
 |f+1,v=>if v<128 then [UInt8.ofNat v] else UInt8.ofNat (v % 128+128)::codedF f (v / 128)
def coded(v:Nat):List UInt8:=codedF 9 v
def codedF_len(f:Nat):∀v,(codedF f v).length<=f+1:=by
 induction f with
 |zero=>intro v;simp[codedF]
 |succ f ih=>
  intro v;simp only[codedF];split
  ·simp
  have:=ih (v / 128);simp only[List.length_cons];omega
def numG(at_ len k v unit:Nat):List UInt8->Int×Int×Int
 |[]=>(0,-1,(len:Int))
 |c::r=>
  if(c.toNat=0/\0<k)\/2147483648<=v+c.toNat % 128*unit\/(k=4/\128<=c.toNat) then(0,-1,(at_:Int))
  else if c.toNat<128 then(((v+c.toNat % 128*unit:Nat):Int),((at_+k+1:Nat):Int),0)
  else numG at_ len (k+1) (v+c.toNat % 128*unit) (unit*128) r
def num(s:List UInt8)(at_:Nat):Int×Int×Int:=numG at_ s.length 0 0 1 (s.drop at_)
def numG_ok(at_ len:Nat)(l:List UInt8):∀k v unit,at_+k+l.length=len->
  ((numG at_ len k v unit l).2.1= -1/\(numG at_ len k v unit l).1=0/\0<=(numG at_ len k v unit l).2.2/\(numG at_ len k v unit l).2.2<=len)\/
  ((at_+k:Int)<(numG at_ len k v unit l).2.1/\(numG at_ len k v unit l).2.1<=len/\0<=(numG at_ len k v unit l).1/\(numG at_ len k v unit l).1<2147483648/\(numG at_ len k v unit l).2.2=0):=by
 induction l with
 |nil=>intro k v unit h;left;simp[numG]
 |cons c r ih=>
  intro k v unit h;simp only[List.length_cons]at h
  by_cases h1:(c.toNat=0/\0<k)\/2147483648<=v+c.toNat % 128*unit\/(k=4/\128<=c.toNat)
  ·left;simp only[numG,if_pos h1];refine⟨by trivial,by trivial,by omega,by omega⟩
  by_cases h2:c.toNat<128
  ·right;simp only[numG,if_neg h1,if_pos h2];refine⟨by omega,by omega,by omega,by omega,by trivial⟩
  simp only[numG,if_neg h1,if_neg h2];rcases ih (k+1) (v+c.toNat % 128*unit) (unit*128) (by omega) with h3|h3
  ·left;exact h3
  right;obtain⟨a,b,c,d⟩:=h3;exact⟨by omega,b,c,d⟩
def num_ok(s:List UInt8)(at_:Nat)(h:at_<=s.length):
  ((num s at_).2.1= -1/\(num s at_).1=0/\0<=(num s at_).2.2/\(num s at_).2.2<=s.length)\/((at_:Int)<(num s at_).2.1/\(num s at_).2.1<=s.length/\0<=(num s at_).1/\(num s at_).1<2147483648/\(num s at_).2.2=0):=by
 have:=numG_ok at_ s.length (s.drop at_) 0 0 1 (by simp;omega);simpa [num] using this
def numsA(s:List UInt8):Nat->Nat->List Int->List Int×Int×Int
 |0,at_,acc=>(acc,(at_:Int),0)
 |n+1,at_,acc=>if(num s at_).2.1<0 then([],-1,(num s at_).2.2) else numsA s n (num s at_).2.1.toNat (acc++[(num s at_).1])
def nums(s:List UInt8)(at_ n:Nat):List Int×Int×Int:=numsA s n at_ []
def numsA_ok(s:List UInt8)(n:Nat):∀at_ acc,at_<=s.length->(∀x∈acc,0<=x/\x<2147483648)->
  ((numsA s n at_ acc).2.1= -1/\(numsA s n at_ acc).1=[]/\0<=(numsA s n at_ acc).2.2/\(numsA s n at_ acc).2.2<=s.length)\/
  ((at_:Int)<=(numsA s n at_ acc).2.1/\(numsA s n at_ acc).2.1<=s.length/\(numsA s n at_ acc).1.length=acc.length+n/\(∀x∈(numsA s n at_ acc).1,0<=x/\x<2147483648)):=by
 induction n with
 |zero=>intro at_ acc h ha;right;simp only[numsA];exact⟨by omega,by omega,by simp,ha⟩
 |succ n ih=>
  intro at_ acc h ha;rcases num_ok s at_ h with h1|h1
  ·left;have h2:(num s at_).2.1<0:=by omega
   simp only[numsA,if_pos h2];exact⟨by trivial,by trivial,h1.2.2.1,h1.2.2.2⟩
  obtain⟨a1,a2,a3,a4,a5⟩:=h1;have h2:¬(num s at_).2.1<0:=(by omega);simp only[numsA,if_neg h2];rcases ih (num s at_).2.1.toNat (acc++[(num s at_).1]) (by omega) (by intro x hx;simp only[List.mem_append,List.mem_singleton]at hx;rcases hx with hx|hx;exact ha x hx;subst hx;exact⟨a3,a4⟩) with h3|h3
  ·left;exact h3
  right;obtain⟨b1,b2,b3,b4⟩:=h3
  exact⟨by omega,b2,by rw[b3];simp;omega,b4⟩
def nums_ok(s:List UInt8)(at_ n:Nat)(h:at_<=s.length):
  ((nums s at_ n).2.1= -1/\(nums s at_ n).1=[]/\0<=(nums s at_ n).2.2/\(nums s at_ n).2.2<=s.length)\/
  ((at_:Int)<=(nums s at_ n).2.1/\(nums s at_ n).2.1<=s.length/\(nums s at_ n).1.length=n/\(∀x∈(nums s at_ n).1,0<=x/\x<2147483648)):=by
 have:=numsA_ok s n at_ [] h (by simp);simpa [nums] using this
def eqNode(x y:Node):Bool:=x.kind==y.kind && (x.level==y.level && (x.a==y.a && (x.b==y.b && (x.c==y.c && x.list==y.list))))
def eqNode_iff(x y:Node):eqNode x y=true ↔ x=y:=by
 obtain⟨a,b,c,d,e,f⟩:=x;obtain⟨a',b',c',d',e',f'⟩:=y;simp[eqNode]
def inR(x:Int):Bool:=decide (0<=x) && decide (x<2147483648)
def okV(f i x:Int):Bool:=inR x && (decide (i<f)||decide (x=0))
def sound(n:Node):Bool:=
 decide (fields n.kind≠ -2) && (inR n.level && (decide (n.list.length<=16) && (okV (fields n.kind) 0 n.a && (okV (fields n.kind) 1 n.b && (okV (fields n.kind) 2 n.c && (n.list.all inR && (decide (fields n.kind= -1)||decide (n.list=[]))))))))
def fields_lt(k:Int): -2<=fields k/\fields k<=3:=by unfold fields;repeat' split<;>omega
def codedAll(l:List Int):List UInt8:=l.flatMap λx=>coded x.toNat
def nodeNums(n:Node):List Int:=if fields n.kind<0 then n.list else [n.a,n.b,n.c].take (fields n.kind).toNat
def nodeBytes(n:Node):List UInt8:=
 UInt8.ofNat n.kind.toNat::(coded n.level.toNat++((if fields n.kind<0 then coded n.list.length else [])++codedAll (nodeNums n)))
def coded_len(v:Nat):(coded v).length<=10:=codedF_len 9 v
def codedAll_len(l:List Int):(codedAll l).length<=10*l.length:=by
 induction l with
 |nil=>simp[codedAll]
 |cons x l ih=>have:=coded_len x.toNat;simp only[codedAll,List.flatMap_cons,List.length_append,List.length_cons]at ih⊢;omega
def codedAll_snoc(l:List Int)(x:Int):codedAll (l++[x])=codedAll l++coded x.toNat:=by simp[codedAll]
def take_snocI(l:List Int)(j:Nat)(h:j<l.length):l.take (j+1)=l.take j++[l.getD j 0]:=by
 rw[List.take_succ_eq_append_getElem h,Qa,Qb h];rfl
end Fl
open Go.RowKit
namespace Fl
def nd0:Node:=⟨0,0,0,0,0,[]⟩
def nth(l:List Node)(k:Nat):Node:=l.getD k nd0
def bad(l:List Node)(k:Nat):Bool:= !sound (nth l k)||((prem (nth l k)).any (λp=>decide ((k:Int)<=p))||(List.range k).any (λi=>eqNode (nth l i) (nth l k)))
def used(l:List Node)(k:Nat):Bool:=(List.range l.length).any (λj=>decide (k<j) && (prem (nth l j)).any (·==(k:Int)))
def shaped(l:List Node):Int:=
 match (List.range l.length).find? (bad l) with
 |some k=>(k:Int)
 |none=>match (List.range (l.length - 1)).find? (λk=> !used l k) with
  |some k=>(k:Int)
  |none=> -1
def find_first(p:Nat->Bool)(n k:Nat)(h:∀j,j<k->p j=false)(hk:k<n)(hp:p k=true):(List.range n).find? p=some k:=by
 rw[List.find?_range_eq_some];exact⟨hp,by simpa using hk,λj hj=>by simp[h j hj]⟩
def find_none(p:Nat->Bool)(n:Nat)(h:∀j,j<n->p j=false):(List.range n).find? p=none:=by
 rw[List.find?_eq_none];intro x hx;rw[h x (by simpa using hx)];simp
end Fl
def Yu(B:Nat)(w:World)(v:Value)(ns:List Fl.Node):Prop:=
 ∃ao cap,v=.slice ao ns.length cap/\ns.length<=cap/\ns.length<=maxLen/\
  (ns≠[]->∃b off,ao=some (Aq b off)/\b<B/\∀i,i<ns.length->∃lv,Zw B w lv (Fl.nth ns i).list/\
   w.cell? (Aq b (off+i*6))=some (Iq (Fl.nth ns i).kind)/\w.cell? (Aq b (off+i*6+1))=some (Iq (Fl.nth ns i).level)/\w.cell? (Aq b (off+i*6+2))=some (Iq (Fl.nth ns i).a)/\
   w.cell? (Aq b (off+i*6+3))=some (Iq (Fl.nth ns i).b)/\w.cell? (Aq b (off+i*6+4))=some (Iq (Fl.nth ns i).c)/\w.cell? (Aq b (off+i*6+5))=some lv)
def Yu.below{B:Nat}{w w':World}{v:Value}{ns:List Fl.Node}(h:Yu B w v ns)(hb:Below B w w'):Yu B w' v ns:=by
 obtain⟨ao,cap,hv,hc,hl,hx⟩:=h;refine⟨ao,cap,hv,hc,hl,λc0=>?_⟩;obtain⟨b,off,ha,b0,a0⟩:=hx c0;refine⟨b,off,ha,b0,λi hi=>?_⟩;obtain⟨lv,h0,h1,h2,h3,h4,h5,h6⟩:=a0 i hi;have q:∀o,w'.cell? (Aq b o)=w.cell? (Aq b o):=λo=>hb.cell (p:=(Aq b o)) b0;exact⟨lv,h0.below hb,(q _).trans h1,(q _).trans h2,(q _).trans h3,(q _).trans h4,(q _).trans h5,(q _).trans h6⟩
def Yu.mono{B B':Nat}{w:World}{v:Value}{ns:List Fl.Node}(h:Yu B w v ns)(hB:B<=B'):Yu B' w v ns:=by
 obtain⟨ao,cap,hv,hc,hl,hx⟩:=h;refine⟨ao,cap,hv,hc,hl,λb0=>?_⟩;obtain⟨b,off,ha,c0,a0⟩:=hx b0;refine⟨b,off,ha,by omega,λi hi=>?_⟩;obtain⟨lv,h0,h1⟩:=a0 i hi;exact⟨lv,h0.mono hB,h1⟩
def Yu.at{B:Nat}{w:World}{b off n cap:Nat}{ns:List Fl.Node}(h:Yu B w (.slice (some (Aq b off)) n cap) ns){i:Nat}(hi:i<ns.length):b<B/\∃lv,Zw B w lv (Fl.nth ns i).list/\
   w.cell? (Aq b (off+i*6))=some (Iq (Fl.nth ns i).kind)/\w.cell? (Aq b (off+i*6+1))=some (Iq (Fl.nth ns i).level)/\w.cell? (Aq b (off+i*6+2))=some (Iq (Fl.nth ns i).a)/\
   w.cell? (Aq b (off+i*6+3))=some (Iq (Fl.nth ns i).b)/\w.cell? (Aq b (off+i*6+4))=some (Iq (Fl.nth ns i).c)/\w.cell? (Aq b (off+i*6+5))=some lv:=by
 obtain⟨ao,cap',hv,_,_,hx⟩:=h;obtain⟨b',off',ha,b0,a0⟩:=hx (by intro hh;rw[hh]at hi;simp at hi);simp only[Value.slice.injEq]at hv;have:=hv.1.trans ha;simp only[Option.some.injEq,Addr.mk.injEq]at this;obtain⟨rfl,rfl,_⟩:=this;exact⟨b0,a0 i hi⟩
def Yu.nil(B:Nat)(w:World):Yu B w Zq []:=⟨none,0,rfl,by simp,by simp[maxLen],λh=>absurd rfl h⟩
namespace Fl
def oneFin(p k:Nat)(n:Node)(e:Int):Node×Int×Int:=if(prem n).any (λx=>decide ((k:Int)<=x)) then(nd0,-1,(p:Int)) else(n,e,0)
def one(s:List UInt8)(p k:Nat):Node×Int×Int:=
 if p=s.length then(nd0,-1,(p:Int)) else
 let kind:Int:=(s.getD p 0).toNat
 if fields kind= -2 then(nd0,-1,(p:Int)) else
 let v:=num s (p+1)
 if v.2.1<0 then(nd0,-1,v.2.2) else
 if fields kind= -1 then
  let m:=num s v.2.1.toNat
  if m.2.1<0 then(nd0,-1,m.2.2) else
  if 16<m.1 then(nd0,-1,v.2.1) else
  let l:=nums s m.2.1.toNat m.1.toNat
  if l.2.1<0 then(nd0,-1,l.2.2) else oneFin p k ⟨kind,v.1,0,0,0,l.1⟩ l.2.1
 else
  let l:=nums s v.2.1.toNat (fields kind).toNat
  if l.2.1<0 then(nd0,-1,l.2.2) else oneFin p k ⟨kind,v.1,l.1.getD 0 0,l.1.getD 1 0,l.1.getD 2 0,[]⟩ l.2.1
end Fl
namespace Fl
def allBytes(ns:List Node):List UInt8:=ns.flatMap nodeBytes
def headBytes(ls:List Int)(ns:List Node):List UInt8:=[70,80,49]++(coded ls.length++(codedAll ls++coded ns.length))
def encode(ls:List Int)(ns:List Node):List UInt8×Bool×Int:=
 if 4<ls.length\/ns.length=0\/200<ns.length then([],false,-1)
 else if ls.all inR=false then([],false,-1)
 else if 0<=shaped ns then([],false,shaped ns)
 else(headBytes ls ns++allBytes ns,true,-1)
def allBytes_snoc(l:List Node)(x:Node):allBytes (l++[x])=allBytes l++nodeBytes x:=by simp[allBytes]
def take_snocN(l:List Node)(j:Nat)(h:j<l.length):l.take (j+1)=l.take j++[nth l j]:=by
 rw[List.take_succ_eq_append_getElem h,nth,Qa,Qb h];rfl
def sound_of_shaped{ns:List Node}(h:shaped ns<0)(k:Nat)(hk:k<ns.length):sound (nth ns k)=true:=by
 unfold shaped at h
 cases hf:(List.range ns.length).find? (bad ns) with
 |some j=>rw[hf]at h;simp only at h;omega
 |none=>
  rw[List.find?_eq_none]at hf;have:=hf k (by simpa using hk);simp[bad]at this;exact this.1
def nodeBytes_len{n:Node}(h:sound n=true):(nodeBytes n).length<=200:=by
 simp only[sound,Bool.and_eq_true,decide_eq_true_eq]at h;have h1:=coded_len n.level.toNat;have h2:=coded_len n.list.length;have h3:=codedAll_len (nodeNums n);have h4:(nodeNums n).length<=16:=by
  unfold nodeNums;split
  ·exact h.2.2.1
  simp;omega
 unfold nodeBytes;simp only[List.length_cons,List.length_append];split<;>simp<;>omega
def allBytes_len(l:List Node)(h:∀x∈l,sound x=true):(allBytes l).length<=200*l.length:=by
 induction l with
 |nil=>simp[allBytes]
 |cons x r ih=>
  have h1:=nodeBytes_len (h x (by simp));have h2:=ih (λy hy=>h y (by simp[hy]));simp only[allBytes,List.flatMap_cons,List.length_append,List.length_cons]at h2⊢;omega
def mem_nth{l:List Node}{x:Node}(h:x∈l):∃j,j<l.length/\x=nth l j:=by
 obtain⟨i,hi,rfl⟩:=List.getElem_of_mem h;exact⟨i,hi,by rw[nth,Qa,Qb hi];rfl⟩
end Fl
namespace Fl
def nodesA(s:List UInt8):Nat->Nat->Nat->List Int->List Node->List Node×List Int×Int×Int
 |0,_,p,st,acc=>(acc,st,(p:Int),-1)
 |m+1,k,p,st,acc=>
  if(one s p k).2.1<0 then(acc,st,(p:Int),(one s p k).2.2)
  else nodesA s m (k+1) (one s p k).2.1.toNat (st++[(p:Int)]) (acc++[(one s p k).1])
def headOk(s:List UInt8)(i:Nat):Bool:=decide (i<s.length) && (s.getD i 0==([70,80,49]:List UInt8).getD i 0)
def headAt(s:List UInt8):Nat:=if headOk s 0=false then 0 else if headOk s 1=false then 1 else if headOk s 2=false then 2 else 3
def decode(s:List UInt8):(List Int×List Node)×Bool×Int:=
 if headAt s<3 then(([],[]),false,(headAt s:Int)) else
 let n:=num s 3
 if n.2.1<0 then(([],[]),false,n.2.2) else
 if 4<n.1 then(([],[]),false,3) else
 let l:=nums s n.2.1.toNat n.1.toNat
 if l.2.1<0 then(([],[]),false,l.2.2) else
 let m:=num s l.2.1.toNat
 if m.2.1<0 then(([],[]),false,m.2.2) else
 if m.1<1\/200<m.1 then(([],[]),false,l.2.1) else
 let r:=nodesA s m.1.toNat 0 m.2.1.toNat [] []
 if 0<=r.2.2.2 then(([],[]),false,r.2.2.2) else
 if r.2.2.1<s.length then(([],[]),false,r.2.2.1) else
 if 0<=shaped r.1 then(([],[]),false,r.2.1.getD (shaped r.1).toNat 0) else((l.1,r.1),true,0)
def oneFin_ok(s:List UInt8)(p k:Nat)(n:Node)(e:Int)(hp:(p:Int)<e)(he:e<=s.length):
  ((oneFin p k n e).2.1= -1/\0<=(oneFin p k n e).2.2/\(oneFin p k n e).2.2<=s.length)\/((p:Int)<(oneFin p k n e).2.1/\(oneFin p k n e).2.1<=s.length):=by
 unfold oneFin;split
 ·left;exact⟨rfl,by simp only;omega,by simp only;omega⟩
 right;exact⟨by simp only;omega,by simp only;omega⟩
def one_ok(s:List UInt8)(p k:Nat)(h:p<=s.length):
  ((one s p k).2.1= -1/\0<=(one s p k).2.2/\(one s p k).2.2<=s.length)\/((p:Int)<(one s p k).2.1/\(one s p k).2.1<=s.length):=by
 unfold one
 by_cases h0:p=s.length
 ·rw[if_pos h0];left;exact⟨rfl,by simp only;omega,by simp only;omega⟩
 rw[if_neg h0];simp only
 by_cases h1:fields ((s.getD p 0).toNat:Int)= -2
 ·rw[if_pos h1];left;exact⟨rfl,by simp only;omega,by simp only;omega⟩
 rw[if_neg h1];have hn:=num_ok s (p+1) (by omega)
 by_cases h2:(num s (p+1)).2.1<0
 ·rw[if_pos h2];left;exact⟨rfl,by simp only;omega,by simp only;omega⟩
 rw[if_neg h2]
 by_cases h3:fields ((s.getD p 0).toNat:Int)= -1
 ·rw[if_pos h3]
  have hm:=num_ok s (num s (p+1)).2.1.toNat (by omega)
  by_cases h4:(num s (num s (p+1)).2.1.toNat).2.1<0
  ·rw[if_pos h4];left;exact⟨rfl,by simp only;omega,by simp only;omega⟩
  rw[if_neg h4]
  by_cases h5:16<(num s (num s (p+1)).2.1.toNat).1
  ·rw[if_pos h5];left;exact⟨rfl,by simp only;omega,by simp only;omega⟩
  rw[if_neg h5];have hl:=nums_ok s (num s (num s (p+1)).2.1.toNat).2.1.toNat (num s (num s (p+1)).2.1.toNat).1.toNat (by omega)
  split
  ·left;exact⟨rfl,by simp only;omega,by simp only;omega⟩
  exact oneFin_ok s p k _ _ (by omega) (by omega)
 rw[if_neg h3];have hl:=nums_ok s (num s (p+1)).2.1.toNat (fields ((s.getD p 0).toNat:Int)).toNat (by omega)
 split
 ·left;exact⟨rfl,by simp only;omega,by simp only;omega⟩
 exact oneFin_ok s p k _ _ (by omega) (by omega)
end Fl
namespace Fl
def lnumF(most:Nat):Nat->List UInt8->Option Nat
 |n,[]=>some n
 |n,c::r=>if isDig c=false then none else if(most - (c.toNat - 48)) / 10<n then none else lnumF most (10*n+(c.toNat - 48)) r
def lnum(most:Nat)(l:List UInt8):Option Nat:=if l=[] then none else if l.headD 0=48/\l.length≠1 then none else lnumF most 0 l
def isDig_nat(c:UInt8):isDig c=true ↔ 48<=c.toNat/\c.toNat<=57:=by
 unfold isDig;rw[Bool.and_eq_true,decide_eq_true_eq,decide_eq_true_eq,UInt8.le_iff_toNat_le,UInt8.le_iff_toNat_le];rfl
def valF(n:Nat)(l:List UInt8):Nat:=l.foldl (λv c=>10*v+(c.toNat - 48)) n
def valF_ge(l:List UInt8):∀n,n<=valF n l:=by
 induction l with
 |nil=>intro n;exact Nat.le_refl _
 |cons c r ih=>intro n;have:=ih (10*n+(c.toNat - 48));simp only[valF,List.foldl_cons]at this⊢;omega
def lnumF_eq(most:Nat)(hm:9<=most)(l:List UInt8):∀n,n<=most->lnumF most n l=if l.all isDig=true/\valF n l<=most then some (valF n l) else none:=by
 induction l with
 |nil=>intro n hn;simp[lnumF,valF,hn]
 |cons c r ih=>
  intro n hn
  cases hd:isDig c with
  |false=>simp[lnumF,hd]
  |true=>
   have hc:=(isDig_nat c).1 hd;have hv:valF n (c::r)=valF (10*n+(c.toNat - 48)) r:=rfl;simp only[lnumF,hd,List.all_cons,Bool.true_and];rw[if_neg (by simp),hv]
   by_cases hb:(most - (c.toNat - 48)) / 10<n
   ·rw[if_pos hb]
    have:=valF_ge r (10*n+(c.toNat - 48));rw[if_neg (by rintro⟨_,h⟩;omega)]
   rw[if_neg hb,ih _ (by omega)]
def val_eq(l:List UInt8):val l=valF 0 l:=rfl
def valF_digits(l:List UInt8):∀n,l.all isDig=true->valF n l<(n+1)*10 ^ l.length:=by
 induction l with
 |nil=>intro n _;simp[valF]
 |cons c r ih=>
  intro n h;simp only[List.all_cons,Bool.and_eq_true]at h;have hc:=(isDig_nat c).1 h.1;have:=ih (10*n+(c.toNat - 48)) h.2;have e:valF n (c::r)=valF (10*n+(c.toNat - 48)) r:=rfl;rw[e,List.length_cons,Nat.pow_succ];refine Qj this ?_;rw[Nat.mul_comm (10 ^ r.length) 10,<-Nat.mul_assoc];exact Nat.mul_le_mul_right _ (by omega)
def valF_lower(l:List UInt8):∀n,n*10 ^ l.length<=valF n l:=by
 induction l with
 |nil=>intro n;simp[valF]
 |cons c r ih=>
  intro n;have:=ih (10*n+(c.toNat - 48));have e:valF n (c::r)=valF (10*n+(c.toNat - 48)) r:=rfl;rw[e,List.length_cons,Nat.pow_succ];refine Nat.le_trans ?_ this;rw[Nat.mul_comm (10 ^ r.length) 10,<-Nat.mul_assoc];exact Nat.mul_le_mul_right _ (by omega)
end Fl
end Go.Proofs.YtjekbnmnjeoagaaGreatDoor
namespace Go.Proofs.YtjekbnmnjeoagaaGreatDoor
open Go.Proofs.Tryz
variable{B n k a b:Nat}{w:World}{v:Value}{xs:List Int}
namespace Fl
def cutStep(c:UInt8)(st:List (List UInt8)×List UInt8)(x:UInt8):List (List UInt8)×List UInt8:=if x==c then(st.1++[st.2],[]) else(st.1,st.2++[x])
def cutTo(c:UInt8)(l:List UInt8):List (List UInt8)×List UInt8:=l.foldl (cutStep c) ([],[])
def cut(c:UInt8)(l:List UInt8):List (List UInt8):=(cutTo c l).1++[(cutTo c l).2]
def cutTo_snoc(c:UInt8)(l:List UInt8)(x:UInt8):cutTo c (l++[x])=cutStep c (cutTo c l) x:=by simp[cutTo,List.foldl_append]
def cutTo_len(c:UInt8)(l:List UInt8):∀st:List (List UInt8)×List UInt8,(l.foldl (cutStep c) st).1.length<=st.1.length+l.length/\(l.foldl (cutStep c) st).2.length<=st.2.length+l.length:=by
 induction l with
 |nil=>intro st;simp
 |cons x r ih=>
  intro st;simp only[List.foldl_cons,List.length_cons];have h:=ih (cutStep c st x)
  by_cases hx:(x==c)=true
  ·have h1:(cutStep c st x).1.length=st.1.length+1:=by simp[cutStep,hx]
   have h2:(cutStep c st x).2.length=0:=(by simp[cutStep,hx]);omega
  have h1:(cutStep c st x).1.length=st.1.length:=(by simp[cutStep,hx]);have h2:(cutStep c st x).2.length=st.2.length+1:=(by simp[cutStep,hx]);omega
def cutTo_le(c:UInt8)(l:List UInt8):(cutTo c l).1.length<=l.length/\(cutTo c l).2.length<=l.length:=by
 have:=cutTo_len c l ([],[]);simpa [cutTo] using this
end Fl
namespace Fl
def onHead(p:List UInt8):List (List UInt8)->List (List UInt8)
 |[]=>[p]
 |h::t=>(p++h)::t
def cutR(c:UInt8):List UInt8->List (List UInt8)
 |[]=>[[]]
 |x::r=>if x==c then []::cutR c r else onHead [x] (cutR c r)
def cutR_ne(c:UInt8)(l:List UInt8):cutR c l≠[]:=by
 cases l with
 |nil=>simp[cutR]
 |cons x r=>
  simp only[cutR];split
  ·simp
  cases h:cutR c r with
  |nil=>simp[onHead]
  |cons a b=>simp[onHead]
def onHead_onHead(p q:List UInt8)(l:List (List UInt8))(h:l≠[]):onHead p (onHead q l)=onHead (p++q) l:=by
 cases l with
 |nil=>exact absurd rfl h
 |cons a b=>simp[onHead]
def cut_fold(c:UInt8)(l:List UInt8):∀d cur,(l.foldl (cutStep c) (d,cur)).1++[(l.foldl (cutStep c) (d,cur)).2]=d++onHead cur (cutR c l):=by
 induction l with
 |nil=>intro d cur;simp[cutR,onHead]
 |cons x r ih=>
  intro d cur;simp only[List.foldl_cons]
  by_cases hx:(x==c)=true
  ·have e:cutStep c (d,cur) x=(d++[cur],[]):=by simp[cutStep,hx]
   rw[e,ih,cutR,if_pos hx]
   cases h:cutR c r with
   |nil=>exact absurd h (cutR_ne c r)
   |cons a b=>simp[onHead]
  have e:cutStep c (d,cur) x=(d,cur++[x]):=(by simp[cutStep,hx]);rw[e,ih,cutR,if_neg hx,onHead_onHead _ _ _ (cutR_ne c r)]
def cut_cutR(c:UInt8)(l:List UInt8):cut c l=cutR c l:=by
 have:=cut_fold c l [] [];simp only[cut,cutTo];rw[this,List.nil_append]
 cases h:cutR c l with
 |nil=>exact absurd h (cutR_ne c l)
 |cons a b=>simp[onHead]
def pre_one(c b:UInt8)(l:List UInt8):([c]:List UInt8).isPrefixOf (b::l)=(b==c):=by
 simp only[List.isPrefixOf,Bool.and_true];rw[Bool.eq_iff_iff,beq_iff_eq,beq_iff_eq];exact eq_comm
def cutR_index(c:UInt8)(l:List UInt8):(Lib.index l [c]= -1->cutR c l=[l])/\(∀i:Nat,Lib.index l [c]=i->cutR c l=l.take i::cutR c (l.drop (i+1))/\i<l.length):=by
 induction l with
 |nil=>exact⟨λ_=>rfl,λi h=>by simp[Lib.index]at h⟩
 |cons b r ih=>
  have a0:=Lib.index_ge r [c];simp only[Lib.index,pre_one,cutR]
  by_cases hb:(b==c)=true
  ·rw[if_pos hb,if_pos hb]
   refine⟨λh=>by omega,λi h=>?_⟩
   have:i=0:=by omega
   subst this;exact⟨by simp,by simp⟩
  rw[if_neg hb,if_neg hb]
  by_cases h1:Lib.index r [c]= -1
  ·have e:(Lib.index r [c]== -1)=true:=by rw[h1];rfl
   rw[if_pos e];refine⟨λ_=>?_,λi h=>by omega⟩;rw[ih.1 h1];rfl
  have e:¬(Lib.index r [c]== -1)=true:=(by simpa using h1);rw[if_neg e];refine⟨λh=>by omega,λi h=>?_⟩;obtain⟨k,hk⟩:∃k:Nat,Lib.index r [c]=(k:Int):=⟨(Lib.index r [c]).toNat,by omega⟩;have hi:i=k+1:=(by omega);subst hi;obtain⟨h2,h3⟩:=ih.2 k hk;rw[h2];exact⟨by simp[onHead],by simp;omega⟩
def splitK_cutR(c:UInt8):∀(fuel:Nat) (l:List UInt8),l.length<fuel->Lib.splitK [c] 0 (Lib.countFrom [c] fuel l) l=cutR c l:=by
 intro fuel
 induction fuel with
 |zero=>intro l h;omega
 |succ fuel ih=>
  intro l h;have a0:=Lib.index_ge l [c];simp only[Lib.countFrom]
  by_cases h1:Lib.index l [c]= -1
  ·have e:(Lib.index l [c]== -1)=true:=by rw[h1];rfl
   rw[if_pos e,(cutR_index c l).1 h1];rfl
  have e:¬(Lib.index l [c]== -1)=true:=(by simpa using h1);rw[if_neg e,Nat.add_comm 1,Lib.splitK,if_neg e];obtain⟨k,hk⟩:∃k:Nat,Lib.index l [c]=(k:Int):=⟨(Lib.index l [c]).toNat,by omega⟩;obtain⟨h2,h3⟩:=(cutR_index c l).2 k hk;rw[h2,hk,Int.toNat_natCast];simp only[List.length_singleton,Nat.add_zero];rw[ih _ (by simp;omega)]
def split_cutR(c:UInt8)(l:List UInt8):Lib.split l [c]=cutR c l:=splitK_cutR c (l.length+1) l (by omega)
def cut_found(c:UInt8)(l:List UInt8)(h:(Lib.cut l [c]).2.2=true):cutR c l=(Lib.cut l [c]).1::cutR c (Lib.cut l [c]).2.1/\(Lib.cut l [c]).2.1.length<l.length:=by
 unfold Lib.cut at*;have a0:=Lib.index_ge l [c]
 by_cases h0:0<=Lib.index l [c]
 ·rw[if_pos h0]
  obtain⟨k,hk⟩:∃k:Nat,Lib.index l [c]=(k:Int):=⟨(Lib.index l [c]).toNat,by omega⟩;obtain⟨h2,h3⟩:=(cutR_index c l).2 k hk;rw[hk,Int.toNat_natCast];exact⟨h2,by simp;omega⟩
 rw[if_neg h0]at h;cases h
def cut_missed(c:UInt8)(l:List UInt8)(h:(Lib.cut l [c]).2.2=false):cutR c l=[l]/\(Lib.cut l [c]).1=l:=by
 unfold Lib.cut at*;have a0:=Lib.index_ge l [c]
 by_cases h0:0<=Lib.index l [c]
 ·rw[if_pos h0]at h;cases h
 rw[if_neg h0];exact⟨(cutR_index c l).1 (by omega),rfl⟩
end Fl
namespace Fl
structure Atom where
 var:Bool
 v:Nat
structure Expr where
 op:Int
 a:Atom
 b:Atom
structure Stmt where
 kind:Nat
 x:Nat
 line:Nat
 e:Expr
 body:List Stmt
 other:List Stmt
structure Frame where
 kind:Nat
 line:Nat
 e:Expr
 first:List Stmt
 had:Bool
 els:List Stmt
abbrev Tab:=Nat->Nat->Bool
def tab0(low high:List Nat):Tab:=λi j=>i==j||(low.zip high).any λp=>p.1==i && p.2==j
def fwStep(k:Nat)(t:Tab):Tab:=λi j=>t i j||(t i k && t k j)
def fw:Nat->Tab->Tab
 |0,t=>t
 |k+1,t=>fwStep k (fw k t)
def firstK(p:Nat->Bool)(n:Nat):Int:=match (List.range n).find? p with
 |some k=>(k:Int)
 |none=> -1
def isJoin(n:Nat)(t:Tab)(a b k:Nat):Bool:=t a k && t b k && (List.range n).all λj=> !(t a j)||!(t b j)||t k j
def join(n:Nat)(t:Tab)(a b:Nat):Int:=firstK (isJoin n t a b) n
def meet(n:Nat)(t:Tab)(a b:Nat):Int:=firstK (isJoin n (λi j=>t j i) a b) n
def pairOk(n:Nat)(t:Tab)(i j:Nat):Bool:= !(i !=j && t i j && t j i) && (decide (0<=join n t i j) && decide (0<=meet n t i j))
def lattice(n:Nat)(t:Tab):Bool:=decide (0<n) && (List.range n).all λi=>(List.range n).all λj=>pairOk n t i j
def bottom(n:Nat)(t:Tab):Nat:=(firstK (λk=>(List.range n).all λj=>t k j) n).toNat
structure RS where
 levels:List (List UInt8)
 cells:List (List UInt8)
 chans:List (List UInt8)
 locals:List (List UInt8)
 low:List Nat
 high:List Nat
 cellLv:List Nat
 chanLv:List Nat
 begun:Bool
 stmts:Nat
 top:List Stmt
 fr:List Frame
def RS.zero:RS:=⟨[],[],[],[],[],[],[],[],false,0,[],[]⟩
def RS.tab(r:RS):Tab:=fw r.levels.length (tab0 r.low r.high)
def RS.atom(r:RS)(s:List UInt8):Option Atom:=
 if(number s 9).2 then some ⟨false,(number s 9).1⟩
 else if 0<=place r.cells s then some ⟨true,(place r.cells s).toNat⟩
 else if 0<=place r.locals s then some ⟨true,r.cells.length+(place r.locals s).toNat⟩ else none
def no0:Atom:=⟨false,0⟩
def RS.value(r:RS):List (List UInt8)->Option Expr
 |[a]=>(r.atom a).map λx=>⟨-1,x,no0⟩
 |[a,o,b]=>(r.atom a).bind λx=>(r.atom b).map λy=>⟨place signs o,x,y⟩
 |_=>none
def RS.put(r:RS)(s:Stmt):RS:=
 match r.fr with
 |[]=>{r with top:=r.top++[s],stmts:=r.stmts+1}
 |f::fs=>{r with fr:=(if f.had then{f with els:=f.els++[s]} else{f with first:=f.first++[s]})::fs,stmts:=r.stmts+1}
def RS.opens(r:RS)(kind line:Nat)(e:Expr):RS:={r with fr:=⟨kind,line,e,[],false,[]⟩::r.fr,stmts:=r.stmts+1}
def Frame.done(f:Frame):Stmt:=⟨f.kind,0,f.line,f.e,f.first,f.els⟩
def RS.ends(r:RS):RS:=
 match r.fr with
 |[]=>r
 |f::[]=>{r with top:=r.top++[f.done],fr:=[]}
 |f::g::fs=>{r with fr:=(if g.had then{g with els:=g.els++[f.done]} else{g with first:=g.first++[f.done]})::fs}
def RS.elses(r:RS):RS:=
 match r.fr with
 |[]=>r
 |f::fs=>{r with fr:={f with had:=true}::fs}
def RS.target(r:RS)(n:List UInt8):Option (Nat×RS):=
 if 0<=place r.cells n then some ((place r.cells n).toNat,r)
 else if 0<=place r.locals n then some (r.cells.length+(place r.locals n).toNat,r)
 else if r.locals.length=4 then none else some (r.cells.length+r.locals.length,{r with locals:=r.locals++[n]})
def isHead(w:List UInt8):Bool:=w==wLevel||w==wBelow||w==wCell||w==wChannel||w==wBegin
def RS.head(r:RS):List (List UInt8)->Nat×RS
 |[_]=>if lattice r.levels.length r.tab then(0,{r with begun:=true}) else(6,r)
 |[_,n]=>if 0<=place r.levels n then(4,r) else if r.levels.length=6 then(5,r) else(0,{r with levels:=r.levels++[n]})
 |[k,n,l]=>
  if k==wBelow then
   if place r.levels n<0\/place r.levels l<0 then(4,r) else(0,{r with low:=r.low++[(place r.levels n).toNat],high:=r.high++[(place r.levels l).toNat]})
  else if place r.levels l<0\/0<=place r.cells n\/0<=place r.chans n then(4,r)
  else if k==wCell then
   if r.cells.length=6 then(5,r) else(0,{r with cells:=r.cells++[n],cellLv:=r.cellLv++[(place r.levels l).toNat]})
  else if r.chans.length=3 then(5,r) else(0,{r with chans:=r.chans++[n],chanLv:=r.chanLv++[(place r.levels l).toNat]})
 |_=>(2,r)
def RS.stmt(r:RS)(at_:Nat):List (List UInt8)->Nat×RS
 |[k]=>
  match r.fr with
  |[]=>(3,r)
  |f::_=>if k==wElse then(if f.kind=5/\f.had=false then(0,r.elses) else(3,r)) else(0,r.ends)
 |[k,a]=>
  match r.value [a] with
  |none=>(4,r)
  |some e=>if 16<=r.stmts\/3<=r.fr.length then(5,r) else(0,r.opens (if k==wIf then 5 else 6) at_ e)
 |k::n::v=>
  match r.value v with
  |none=>(4,r)
  |some e=>
   if k==wOut then
    if place r.chans n<0 then(4,r) else if 16<=r.stmts then(5,r) else(0,r.put ⟨4,(place r.chans n).toNat,at_,e,[],[]⟩)
   else if 0<=place r.chans n then(4,r)
   else match r.target n with
    |none=>(5,r)
    |some (x,r')=>if 16<=r.stmts then(5,r) else(0,r'.put ⟨3,x,at_,e,[],[]⟩)
 |_=>(2,r)
def RS.row(r:RS)(w:List (List UInt8))(at_:Nat):Nat×RS:=
 if isHead (w.getD 0 [])=r.begun then(3,r) else if isHead (w.getD 0 []) then r.head w else r.stmt at_ w
structure Prog where
 n:Nat
 leq:Tab
 cells:List Nat
 chans:List Nat
 locals:Nat
 body:List Stmt
def RS.prog(r:RS):Prog:=⟨r.levels.length,r.tab,r.cellLv,r.chanLv,r.locals.length,r.top⟩
def rows:RS->Nat->List (List UInt8)->Nat×Nat×RS
 |r,i,[]=>(3,i+1,r)
 |r,i,[l]=>if l=[]/\0<i then(if r.begun=true/\r.fr=[] then(0,0,r) else(3,i+1,r)) else(2,i+1,r)
 |r,i,l::m::ls=>if line (cutR 32 l)=false then(2,i+1,r) else if(r.row (cutR 32 l) (i+1)).1≠0 then((r.row (cutR 32 l) (i+1)).1,i+1,r) else rows (r.row (cutR 32 l) (i+1)).2 (i+1) (m::ls)
def readProg(s:List UInt8):Nat×Nat×Prog:=
 if 1200<s.length then(1,0,RS.zero.prog) else let q:=rows RS.zero 0 (cutR 10 s);(q.1,q.2.1,q.2.2.prog)
end Fl
namespace Fl
def fw_le(t:Tab):∀(k i j:Nat),t i j=true->fw k t i j=true
 |0,_,_,h=>h
 |k+1,i,j,h=>by
  have:=fw_le t k i j h;simp only[fw,fwStep,this,Bool.true_or]
def fw_trans(t:Tab):∀(n k i j:Nat),k<n->fw n t i k=true->fw n t k j=true->fw n t i j=true
 |0,k,_,_,hk,_,_=>absurd hk (by omega)
 |m+1,k,i,j,hk,h1,h2=>by
  have ih:=fw_trans t m;simp only[fw,fwStep,Bool.or_eq_true,Bool.and_eq_true]at h1 h2⊢
  by_cases a0:k=m
  ·subst a0
   have a1:fw k t i k=true:=by rcases h1 with h|h;exact h;exact h.1
   have a2:fw k t k j=true:=by rcases h2 with h|h;exact h;exact h.2
   exact .inr ⟨a1,a2⟩
  have hk':k<m:=(by omega);rcases h1 with h1|⟨h1,h1'⟩
  ·rcases h2 with h2|⟨h2,h2'⟩
   ·exact .inl (ih k i j hk' h1 h2)
   exact .inr ⟨ih k i m hk' h1 h2,h2'⟩
  rcases h2 with h2|⟨h2,h2'⟩
  ·exact .inr ⟨h1,ih k m j hk' h1' h2⟩
  exact .inr ⟨h1,h2'⟩
def Trans(n:Nat)(r:Tab):Prop:=∀a b c,a<n->b<n->c<n->r a b=true->r b c=true->r a c=true
def fw_least(n:Nat)(t r:Tab)(hr:Trans n r)(h:∀i j,i<n->j<n->t i j=true->r i j=true):∀(k i j:Nat),k<=n->i<n->j<n->fw k t i j=true->r i j=true
 |0,i,j,_,hi,hj,h0=>h i j hi hj h0
 |k+1,i,j,hk,hi,hj,h0=>by
  have ih:=fw_least n t r hr h k;simp only[fw,fwStep,Bool.or_eq_true,Bool.and_eq_true]at h0;rcases h0 with h0|⟨h1,h2⟩
  ·exact ih i j (by omega) hi hj h0
  exact hr i k j hi (by omega) hj (ih i k (by omega) hi (by omega) h1) (ih k j (by omega) (by omega) hj h2)
def fw_unique(n:Nat)(t r:Tab)(hr:Trans n r)(h:∀i j,i<n->j<n->t i j=true->r i j=true)(h2:∀i j,i<n->j<n->r i j=true->fw n t i j=true):∀i j,i<n->j<n->r i j=fw n t i j:=by
 intro i j hi hj
 cases hx:fw n t i j with
 |true=>exact fw_least n t r hr h n i j (Nat.le_refl _) hi hj hx
 |false=>
  cases hy:r i j with
  |true=>rw[h2 i j hi hj hy]at hx;cases hx
  |false=>rfl
def fw_refl(low high:List Nat)(n i:Nat):fw n (tab0 low high) i i=true:=fw_le _ _ _ _ (by simp[tab0])
def firstK_hit{p:Nat->Bool}(hk:k<n)(h:p k=true)(hb:∀j,j<k->p j=false):firstK p n=(k:Int):=by
 unfold firstK;have:(List.range n).find? p=some k:=by
  rw[List.find?_range_eq_some];refine⟨h,by simpa using hk,λj hj=>by simp[hb j hj]⟩
 rw[this]
def firstK_miss{p:Nat->Bool}(h:∀j,j<n->p j=false):firstK p n= -1:=by
 unfold firstK;have:(List.range n).find? p=none:=by
  rw[List.find?_eq_none];intro x hx;rw[List.mem_range]at hx;simp[h x hx]
 rw[this]
def firstK_cases(p:Nat->Bool)(n:Nat):(∃k,k<n/\p k=true/\(∀j,j<k->p j=false)/\firstK p n=(k:Int))\/((∀j,j<n->p j=false)/\firstK p n= -1):=by
 unfold firstK
 cases h:(List.range n).find? p with
 |none=>
  right
  rw[List.find?_eq_none]at h;exact⟨λj hj=>by simpa using h j (by simpa using hj),rfl⟩
 |some k=>
  left
  rw[List.find?_range_eq_some]at h;exact⟨k,by simpa using h.2.1,h.1,λj hj=>by simpa using h.2.2 j hj,rfl⟩
def firstK_congr{p q:Nat->Bool}(h:∀k,k<n->p k=q k):firstK p n=firstK q n:=by
 rcases firstK_cases q n with⟨k,hk,h1,h2,e⟩|⟨h1,e⟩
 ·rw[e];exact firstK_hit hk (by rw[h k hk];exact h1) (λj hj=>by rw[h j (by omega)];exact h2 j hj)
 rw[e];exact firstK_miss (λj hj=>by rw[h j hj];exact h1 j hj)
def all_range{p:Nat->Bool}:(List.range n).all p=true ↔ ∀j,j<n->p j=true:=by simp[List.all_eq_true]
def isJoin_iff(n:Nat)(t:Tab)(a b k:Nat):isJoin n t a b k=true ↔ t a k=true/\t b k=true/\∀j,j<n->t a j=true->t b j=true->t k j=true:=by
 simp only[isJoin,Bool.and_eq_true,all_range,Bool.or_eq_true,Bool.not_eq_true',and_assoc];refine⟨λ⟨h1,h2,h3⟩=>⟨h1,h2,λj hj ha hb=>?_⟩,λ⟨h1,h2,h3⟩=>⟨h1,h2,λj hj=>?_⟩⟩
 ·rcases h3 j hj with(h|h)|h
  ·rw[ha]at h;cases h
  ·rw[hb]at h;cases h
  exact h
 cases ha:t a j with
 |false=>simp
 |true=>
  cases hb:t b j with
  |false=>simp
  |true=>right;exact h3 j hj ha hb
def isJoin_congr{t r:Tab}(h:∀i j,i<n->j<n->t i j=r i j)(ha:a<n)(hb:b<n)(hk:k<n):isJoin n t a b k=isJoin n r a b k:=by
 rw[Bool.eq_iff_iff,isJoin_iff,isJoin_iff,h a k ha hk,h b k hb hk];refine and_congr_right λ_=>and_congr_right λ_=>forall_congr' λj=>?_;refine⟨λg hj=>?_,λg hj=>?_⟩
 ·have:=g hj;rw[h a j ha hj,h b j hb hj,h k j hk hj]at this;exact this
 have:=g hj;rw[h a j ha hj,h b j hb hj,h k j hk hj];exact this
def join_congr{t r:Tab}(h:∀i j,i<n->j<n->t i j=r i j)(ha:a<n)(hb:b<n):join n t a b=join n r a b:=firstK_congr λ_ hk=>isJoin_congr h ha hb hk
def meet_congr{t r:Tab}(h:∀i j,i<n->j<n->t i j=r i j)(ha:a<n)(hb:b<n):meet n t a b=meet n r a b:=
 firstK_congr λ_ hk=>isJoin_congr (t:=λi j=>t j i) (r:=λi j=>r j i) (λi j hi hj=>h j i hj hi) ha hb hk
def pairOk_congr{t r:Tab}(h:∀i j,i<n->j<n->t i j=r i j)(ha:a<n)(hb:b<n):pairOk n t a b=pairOk n r a b:=by
 unfold pairOk;rw[join_congr h ha hb,meet_congr h ha hb,h a b ha hb,h b a hb ha]
def lattice_iff(n:Nat)(t:Tab):lattice n t=true ↔ 0<n/\∀i j,i<n->j<n->pairOk n t i j=true:=by
 simp only[lattice,Bool.and_eq_true,decide_eq_true_eq,all_range];exact and_congr_right λ_=>⟨λh i j hi hj=>h i hi j hj,λh i hi j hj=>h i j hi hj⟩
def lattice_congr{t r:Tab}(h:∀i j,i<n->j<n->t i j=r i j):lattice n t=lattice n r:=by
 rw[Bool.eq_iff_iff,lattice_iff,lattice_iff];refine and_congr_right λ_=>⟨λg i j hi hj=>?_,λg i j hi hj=>?_⟩
 ·rw[<-pairOk_congr h hi hj];exact g i j hi hj
 rw[pairOk_congr h hi hj];exact g i j hi hj
structure Lat(n:Nat)(t:Tab):Prop where
 pos:0<n
 refl:∀i,i<n->t i i=true
 trans:Trans n t
 anti:∀i j,i<n->j<n->t i j=true->t j i=true->i=j
 joins:∀i j,i<n->j<n->∃k,k<n/\join n t i j=(k:Int)/\t i k=true/\t j k=true/\∀m,m<n->t i m=true->t j m=true->t k m=true
 meets:∀i j,i<n->j<n->∃k,k<n/\t k i=true/\t k j=true/\∀m,m<n->t m i=true->t m j=true->t m k=true
def Lat.of{t:Tab}(h:lattice n t=true)(hr:∀i,i<n->t i i=true)(ht:Trans n t):Lat n t:=by
 obtain⟨h0,hp⟩:=(lattice_iff n t).1 h
 have hq:∀i j,i<n->j<n->¬(i≠j/\t i j=true/\t j i=true)/\0<=join n t i j/\0<=meet n t i j:=λi j hi hj=>by
  have:=hp i j hi hj;simp only[pairOk,Bool.and_eq_true,decide_eq_true_eq,Bool.not_eq_true',Bool.and_eq_false_iff,bne_eq_false_iff_eq]at this;refine⟨λ⟨a,b,c⟩=>?_,this.2⟩;rcases this.1 with(h|h)|h
  ·exact a h
  ·rw[b]at h;cases h
  rw[c]at h;cases h
 refine⟨h0,hr,ht,λi j hi hj a b=>?_,λi j hi hj=>?_,λi j hi hj=>?_⟩
 ·by_cases e:i=j
  ·exact e
  exact absurd ⟨e,a,b⟩ (hq i j hi hj).1
 ·rcases firstK_cases (isJoin n t i j) n with⟨k,hk,h1,_,e⟩|⟨_,e⟩
  ·obtain⟨a,b,c⟩:=(isJoin_iff n t i j k).1 h1
   exact⟨k,hk,e,a,b,c⟩
  have:=(hq i j hi hj).2.1;unfold join at this;rw[e]at this;omega
 rcases firstK_cases (isJoin n (λi j=>t j i) i j) n with⟨k,hk,h1,_,e⟩|⟨_,e⟩
 ·obtain⟨a,b,c⟩:=(isJoin_iff n (λi j=>t j i) i j k).1 h1
  exact⟨k,hk,a,b,c⟩
 have:=(hq i j hi hj).2.2;unfold meet at this;rw[e]at this;omega
def bottom_of{t:Tab}(h:Lat n t)(hk:k<n)(hb:∀j,j<n->t k j=true):bottom n t=k:=by
 have:firstK (λk=>(List.range n).all λj=>t k j) n=(k:Int):=by
  refine firstK_hit hk (all_range.2 hb) λj hj=>?_
  cases hx:(List.range n).all λy=>t j y with
  |false=>rfl
  |true=>exact absurd (h.anti j k (by omega) hk (all_range.1 hx k hk) (hb j (by omega))) (by omega)
 unfold bottom;rw[this];rfl
def lowTo(t:Tab):Nat->Nat
 |0=>0
 |m+1=>if t m (lowTo t m) then m else lowTo t m
def lowTo_lt{n:Nat}(t:Tab)(hn:0<n):∀m,m<=n->lowTo t m<n
 |0,_=>hn
 |m+1,hm=>by
  simp only[lowTo];split
  ·omega
  exact lowTo_lt t hn m (by omega)
def lowTo_down{n:Nat}{t:Tab}(h:Lat n t):∀m,m<=n->∀j,j<m->t j (lowTo t m)=true->t (lowTo t m) j=true
 |0,_,j,hj,_=>absurd hj (by omega)
 |m+1,hm,j,hj,hd=>by
  have ih:=lowTo_down h m (by omega);have hl:=lowTo_lt t h.pos m (by omega);simp only[lowTo]at hd⊢
  by_cases hm':t m (lowTo t m)=true
  ·rw[if_pos hm']at hd⊢
   by_cases a0:j=m
   ·subst a0;exact h.refl j (by omega)
   have h1:t j (lowTo t m)=true:=h.trans j m _ (by omega) (by omega) hl hd hm';exact h.trans m _ j (by omega) hl (by omega) hm' (ih j (by omega) h1)
  rw[if_neg hm']at hd⊢
  by_cases a0:j=m
  ·subst a0;exact absurd hd hm'
  exact ih j (by omega) hd
def lowTo_bottom{t:Tab}(h:Lat n t):lowTo t n=bottom n t:=by
 have hl:=lowTo_lt t h.pos n (Nat.le_refl _);refine(bottom_of h hl λj hj=>?_).symm;obtain⟨k,hk,h1,h2,_⟩:=h.meets (lowTo t n) j hl hj;have h3:=lowTo_down h n (Nat.le_refl _) k hk h1;exact h.trans _ k j hl hk hj h3 h2
def bottom_low{t:Tab}(h:Lat n t):bottom n t<n/\∀j,j<n->t (bottom n t) j=true:=by
 have hl:=lowTo_lt t h.pos n (Nat.le_refl _);rw[<-lowTo_bottom h];refine⟨hl,λj hj=>?_⟩;obtain⟨k,hk,h1,h2,_⟩:=h.meets (lowTo t n) j hl hj;have h3:=lowTo_down h n (Nat.le_refl _) k hk h1;exact h.trans _ k j hl hk hj h3 h2
def RS.lat{r:RS}(h:lattice r.levels.length r.tab=true):Lat r.levels.length r.tab:=
 Lat.of h (λi _=>fw_refl _ _ _ _) (λa b c _ hb _ h1 h2=>fw_trans _ _ b a c hb h1 h2)
end Fl
namespace Fl
def lnum_nine(l:List UInt8):lnum 999999999 l=if(number l 9).2=true then some (number l 9).1 else none:=by
 unfold lnum
 by_cases h0:l=[]
 ·subst h0;simp[number,numOk]
 rw[if_neg h0];have b0:0<l.length:=List.length_pos_iff.2 h0
 by_cases h1:l.headD 0=48/\l.length≠1
 ·rw[if_pos h1]
  have:(number l 9).2=false:=by
   unfold number
   split
   ·simp only[numOk]
    have e1:(l.headD 0 !=48)=false:=(by rw[h1.1];rfl);have e2:decide (l.length=1)=false:=(by simp[h1.2]);rw[e1,e2];simp
   rfl
  rw[this];simp
 rw[if_neg h1,lnumF_eq _ (by omega) _ _ (by omega)]
 cases had:l.all isDig with
 |false=>simp[number,had]
 |true=>
  have c0:(l.headD 0 !=48||decide (l.length=1))=true:=by
   by_cases h2:l.headD 0=48
   ·have:l.length=1:=by
     rcases Nat.lt_or_ge 1 l.length with h|h
     ·exact absurd ⟨h2,by omega⟩ h1
     omega
    simp[this]
   rw[show (l.headD 0 !=48)=true from bne_iff_ne.2 h2];rfl
  simp only[number,had,if_true,numOk,c0,Bool.and_true]
  by_cases a0:l.length<=9
  ·rw[List.take_of_length_le a0]
   simp only[b0,a0,decide_true,Bool.and_true,true_and,val_eq,if_true];have hv:valF 0 l<=999999999:=by
    have h3:=valF_digits l 0 had;have h4:10 ^ l.length<=10 ^ 9:=Nat.pow_le_pow_right (by omega) a0;omega
   rw[if_pos hv]
  have d0:999999999<valF 0 l:=by
   match l,a0,had,h1,h0 with
   |c::r,a0,had,h1,_=>
    simp only[List.all_cons,Bool.and_eq_true]at had;have hc:=(isDig_nat c).1 had.1;have hlen:9<=r.length:=(by simp only[List.length_cons]at a0;omega);have e0:1<=c.toNat - 48:=by
     rcases Nat.lt_or_ge 48 c.toNat with h|h
     ·omega
     exfalso;apply h1
     refine⟨?_,by simp only[List.length_cons];omega⟩
     have:c.toNat=48:=by omega
     show c=48;exact UInt8.toNat_inj.1 this
    have e:valF 0 (c::r)=valF (10*0+(c.toNat - 48)) r:=rfl;rw[e];have h5:=valF_lower r (10*0+(c.toNat - 48));have h6:10 ^ 9<=10 ^ r.length:=Nat.pow_le_pow_right (by omega) hlen;have h7:1*10 ^ 9<=(10*0+(c.toNat - 48))*10 ^ r.length:=Nat.mul_le_mul (by omega) h6;omega
  rw[if_neg (by omega)];simp[a0]
def lnum_some(l:List UInt8):(lnum 999999999 l).isSome=(number l 9).2:=by
 rw[lnum_nine];cases (number l 9).2<;>simp
def fit1(c:UInt8)(w:List UInt8):Bool:=if c=110 then named w else if c=97 then atom w else if c=111 then decide (0<=place signs w) else false
def fitAll:List UInt8->List (List UInt8)->Bool
 |[],[]=>true
 |c::cs,w::ws=>fit1 c w && fitAll cs ws
 |_,_=>false
def ruleL:List (List UInt8×List UInt8×Bool):=[(wLevel,[110],true),(wBelow,[110,110],true),(wCell,[110,110],true),(wChannel,[110,110],true),(wBegin,[],true),(wSet,[110,97],false),(wSet,[110,97,111,97],false),(wOut,[110,97],false),(wIf,[97],false),(wElse,[],false),(wWhile,[97],false),(wEnd,[],false)]
def rule(k:Nat):List UInt8×List UInt8×Bool:=ruleL.getD k ([],[],false)
def isRule(ws:List (List UInt8))(k:Nat):Bool:=ws.getD 0 []==(rule k).1 && fitAll (rule k).2.1 (ws.drop 1)
def fitAll_len:∀(cs:List UInt8) (ws:List (List UInt8)),fitAll cs ws=true->ws.length=cs.length
 |[],[],_=>rfl
 |c::cs,w::ws,h=>by simp only[fitAll,Bool.and_eq_true]at h;simp[fitAll_len cs ws h.2]
 |[],_::_,h=>by simp[fitAll]at h
 |_::_,[],h=>by simp[fitAll]at h
def fitAll_iff:∀(cs:List UInt8) (ws:List (List UInt8)),ws.length=cs.length->(fitAll cs ws=true ↔ ∀i,i<cs.length->fit1 (cs.getD i 0) (ws.getD i [])=true)
 |[],[],_=>by simp[fitAll]
 |c::cs,w::ws,h=>by
  simp only[fitAll,Bool.and_eq_true,fitAll_iff cs ws (by simpa using h),List.length_cons];refine⟨λ⟨h1,h2⟩ i hi=>?_,λg=>⟨by simpa using g 0 (by omega),λi hi=>by simpa using g (i+1) (by omega)⟩⟩
  match i with
  |0=>simpa using h1
  |i+1=>simpa using h2 i (by omega)
 |[],_::_,h=>by simp at h
 |_::_,[],h=>by simp at h
def line_rule(ws:List (List UInt8))(a0:ws≠[]):line ws=true ↔ ∃k,k<12/\isRule ws k=true:=by
 have e12:(∃k,k<12/\isRule ws k=true) ↔ isRule ws 0=true\/isRule ws 1=true\/isRule ws 2=true\/isRule ws 3=true\/isRule ws 4=true\/isRule ws 5=true\/isRule ws 6=true\/isRule ws 7=true\/isRule ws 8=true\/isRule ws 9=true\/isRule ws 10=true\/isRule ws 11=true:=by
  constructor
  ·rintro⟨k,hk,h⟩
   rcases(show k=0\/k=1\/k=2\/k=3\/k=4\/k=5\/k=6\/k=7\/k=8\/k=9\/k=10\/k=11 by omega) with rfl|rfl|rfl|rfl|rfl|rfl|rfl|rfl|rfl|rfl|rfl|rfl<;>simp[h]
  rintro(h|h|h|h|h|h|h|h|h|h|h|h)
  ·exact⟨0,by omega,h⟩
  ·exact⟨1,by omega,h⟩
  ·exact⟨2,by omega,h⟩
  ·exact⟨3,by omega,h⟩
  ·exact⟨4,by omega,h⟩
  ·exact⟨5,by omega,h⟩
  ·exact⟨6,by omega,h⟩
  ·exact⟨7,by omega,h⟩
  ·exact⟨8,by omega,h⟩
  ·exact⟨9,by omega,h⟩
  ·exact⟨10,by omega,h⟩
  exact⟨11,by omega,h⟩
 rw[e12]
 match ws,a0 with
 |[a],_=>simp[line,isRule,rule,ruleL,fitAll];grind
 |[a,b],_=>simp[line,isRule,rule,ruleL,fitAll,fit1];grind
 |[a,b,c],_=>simp[line,isRule,rule,ruleL,fitAll,fit1];grind
 |[a,b,c,d],_=>simp[line,isRule,rule,ruleL,fitAll,fit1]
 |[a,b,c,d,e],_=>simp[line,isRule,rule,ruleL,fitAll,fit1];grind
 |a::b::c::d::e::f::r,_=>simp[line,isRule,rule,ruleL,fitAll,fit1]
end Fl
namespace Fl
structure MS where
 vars:List Nat
 sent:List (Nat×Nat)
 fuel:Nat
def u32:Nat:=4294967296
def atomV(vs:List Nat)(a:Atom):Nat:=if a.var then vs.getD a.v 0 else a.v % u32
def opV(o:Int)(x y:Nat):Nat:=
 if o=0 then(x+y) % u32 else if o=1 then(x+u32 - y) % u32 else if o=2 then(x*y) % u32 else if o=3 then(if x<y then 1 else 0) else if o=4 then(if x=y then 1 else 0) else x
def exprV(vs:List Nat)(e:Expr):Nat:=if e.op= -1 then atomV vs e.a else opV e.op (atomV vs e.a) (atomV vs e.b)
def run:Nat->List Stmt->MS->Bool×MS
 |0,_,m=>(false,m)
 |_+1,[],m=>(true,m)
 |n+1,s::rest,m=>
  if m.fuel=0 then(false,m) else
  let v:=exprV m.vars s.e
  if s.kind=3 then run n rest ⟨m.vars.set s.x v,m.sent,m.fuel - 1⟩
  else if s.kind=4 then run n rest ⟨m.vars,m.sent++[(s.x,v)],m.fuel - 1⟩
  else if s.kind=5 then
   if(run n (if v=0 then s.other else s.body) ⟨m.vars,m.sent,m.fuel - 1⟩).1=true then run n rest (run n (if v=0 then s.other else s.body) ⟨m.vars,m.sent,m.fuel - 1⟩).2
   else run n (if v=0 then s.other else s.body) ⟨m.vars,m.sent,m.fuel - 1⟩
  else if v=0 then run n rest ⟨m.vars,m.sent,m.fuel - 1⟩
  else if(run n s.body ⟨m.vars,m.sent,m.fuel - 1⟩).1=true then run n (s::rest) (run n s.body ⟨m.vars,m.sent,m.fuel - 1⟩).2
  else run n s.body ⟨m.vars,m.sent,m.fuel - 1⟩
def Prog.run(p:Prog)(cells:List Nat)(fuel:Nat):Bool×MS:=Fl.run (fuel+1) p.body ⟨cells++List.replicate p.locals 0,[],fuel⟩
def AtomOk(nv:Nat)(a:Atom):Prop:=if a.var=true then a.v<nv else a.v<=999999999
def ExprOk(nv:Nat)(e:Expr):Prop:= -1<=e.op/\e.op<=4/\AtomOk nv e.a/\AtomOk nv e.b
def KindOk(nv nc:Nat)(s:Stmt):Prop:=(s.kind=3/\s.x<nv)\/(s.kind=4/\s.x<nc)\/s.kind=5\/(s.kind=6/\s.other=[])
def StmtsOk(nv nc:Nat):Nat->List Stmt->Prop
 |0,l=>l=[]
 |d+1,l=>∀s∈l,KindOk nv nc s/\ExprOk nv s.e/\StmtsOk nv nc d s.body/\StmtsOk nv nc d s.other
def AtomOk.mono{nv nv':Nat}(h:nv<=nv'){a:Atom}(ha:AtomOk nv a):AtomOk nv' a:=by
 unfold AtomOk at ha⊢
 split<;>simp_all<;>omega
def ExprOk.mono{nv nv':Nat}(h:nv<=nv'){e:Expr}(he:ExprOk nv e):ExprOk nv' e:=⟨he.1,he.2.1,he.2.2.1.mono h,he.2.2.2.mono h⟩
def StmtsOk.mono{nv nv' nc:Nat}(h:nv<=nv'):∀{d:Nat} {l:List Stmt},StmtsOk nv nc d l->StmtsOk nv' nc d l
 |0,_,hl=>hl
 |d+1,l,hl=>λs hs=>by
  obtain⟨h1,h2,h3,h4⟩:=hl s hs;refine⟨?_,h2.mono h,StmtsOk.mono h h3,StmtsOk.mono h h4⟩;rcases h1 with h1|h1
  ·exact .inl ⟨h1.1,by omega⟩
  exact .inr h1
end Fl
open Go.RowKit
def Vc{k:IntKind}{a b:Int}(h:a=b):Ending.returned (.int k a)=.returned (.int k b):=by rw[h]
def Zm{a b:Bool}(h:a=b):Ending.returned (.bool a)=.returned (.bool b):=by rw[h]
def zry(k:Int)(w:World):Cq 66 #[Iq k] w λe w'=>e=.returned (Iq (Fl.fields k))/\w'=w:=by
 go_enter func66,ntmps66
 go_wp2
 all_goals go_ret
 all_goals exact⟨Vc (by simp_all[Fl.fields]),rfl⟩
def zt9(s:ByteArray)(k:Nat)(h:k<s.size):s.data.toList.take (k+1)=s.data.toList.take k++[s[k]]:=by
 rw[List.take_succ_eq_append_getElem (by simpa using h)];rfl
def zrx(s:ByteArray)(k:Nat)(h:¬k<s.size):s.data.toList.take k=s.data.toList:=by
 rw[List.take_of_length_le];simp;exact Nat.le_of_not_lt h
def mem_at(s:ByteArray)(k:Nat)(h:k<s.size):s[k]∈s.data.toList:=by
 have:s[k]=s.data.toList[k]'(by simpa using h):=rfl;rw[this];exact List.getElem_mem _
def zk9{k:IntKind}{a b:Int}{p q:Bool}(h:a=b)(h':p=q):Ending.returned (.tuple #[.int k a,.bool p])=.returned (.tuple #[.int k b,.bool q]):=by rw[h,h']
end Go.Proofs.YtjekbnmnjeoagaaGreatDoor
