import Derived.Test.YtfhpibppblbgcaaGreatDoorM15
import Derived.Test.YtfhpibppblbgcaaGreatDoorShelf
import Derived.WalkSmall
import Derived.Lib.SplitLaws
import Derived.Recover
import Derived.Defers
import Derived.Stop.Asserts
set_option linter.all false
set_option maxRecDepth 100000
set_option maxHeartbeats 40000000
namespace Go.Proofs.YtfhpibppblbgcaaGreatDoor
open Go.Proofs.Tryz
variable{w w' V:World}{lo base R Pb lm vm cm:Nat}{S:Nat->Prop}{v:Value}{l:List UInt8}
def zo6(c:UInt8)(s:List UInt8):(Fl.aE c s).length<=s.length+1/\∀x∈Fl.aE c s,x.length<=s.length:=by
 induction s with
 |nil=>simp[Fl.aE]
 |cons a r ih=>
  unfold Fl.aE
  split
  ·refine⟨by simp;omega,λx hx=>?_⟩
   rcases List.mem_cons.1 hx with rfl|hx
   ·simp
   have:=ih.2 x hx;simp;omega
  cases hc:Fl.aE c r with
  |nil=>exact absurd hc (Fl.dR c r)
  |cons y t=>
   rw[hc]at ih;simp only[Fl.dD,List.length_cons]at ih⊢;refine⟨by omega,λx hx=>?_⟩;rcases List.mem_cons.1 hx with rfl|hx
   ·have:=ih.2 y (by simp);simp;omega
   have:=ih.2 x (by simp[hx]);omega
open Go.RowKit
def Xs(w:World):Prop:=∃m,w.cell? ⟨1,0,none⟩=some (Iq m)
def Xs.below{B:Nat}(h:Xs w)(hB:w.heap.size<=B)(hb:Below B w w'):Xs w':=by
 obtain⟨m,h⟩:=h;have hl:=Qe w _ h;exact⟨m,(hb.cell (p:=⟨1,0,none⟩) (by omega)).trans h⟩
def yi5(l:List UInt8)(w:World)(hl:l.length<=100000)(h:Xs w):Cq 115 #[.string ⟨l.toArray⟩,.string ⟨#[10]⟩] w λe w'=>e=.returned (.tuple #[.string ⟨(Lib.cut l [10]).1.toArray⟩,.string ⟨(Lib.cut l [10]).2.1.toArray⟩,.bool (Lib.cut l [10]).2.2])/\Bq w w':=by
 obtain⟨m,h⟩:=h;refine(Tryz.strings_Cut ⟨l.toArray⟩ ⟨#[10]⟩ m w (by show l.toArray.size<_;simp;omega) h).mono ?_;rintro e w' ⟨rfl,n,rfl⟩;exact⟨rfl,below_drewN (Below.refl _ _) n⟩
def yi6(l:List ByteArray):l.map Value.string=(l.map (·.data.toList)).map strV:=by
 rw[List.map_map];refine List.map_congr_left (λb _=>?_);show Value.string b=Value.string ⟨b.data.toList.toArray⟩;simp
def yqz(l:List UInt8)(w:World)(hl:l.length<=40000)(h:Xs w):Cq 116 #[.string ⟨l.toArray⟩,.string ⟨#[32]⟩] w λe w'=>e=.returned (.slice (some (Aq w.heap.size 0)) (Fl.aE 32 l).length (Fl.aE 32 l).length)/\Zf w'.heap.size w' (.slice (some (Aq w.heap.size 0)) (Fl.aE 32 l).length (Fl.aE 32 l).length) (Fl.aE 32 l)/\Bq w w':=by
 obtain⟨m,h⟩:=h;refine(Tryz.strings_Split ⟨l.toArray⟩ ⟨#[32]⟩ m w (by show l.toArray.size<_;simp;omega) h (by decide)).mono ?_;have hd:(Lib.splitB ⟨#[32]⟩ 0 (Lib.countB ⟨l.toArray⟩ ⟨#[32]⟩) ⟨l.toArray⟩).map (·.data.toList)=Fl.aE 32 l:=by
  rw[Lib.splitB_data,<-Fl.jB];rfl
 have hn:Lib.countB ⟨l.toArray⟩ ⟨#[32]⟩+1=(Fl.aE 32 l).length:=by
  rw[<-hd,List.length_map,Lib.splitB_all ⟨#[32]⟩ (by decide) 0 _ _ rfl]
 obtain⟨b0,a0⟩:=zo6 32 l;rintro e w' ⟨rfl,rfl⟩;rw[yi6,hd,hn];refine⟨rfl,⟨_,_,rfl,Nat.le_refl _,by unfold maxLen;omega,by omega,λx hx=>by have:=a0 x hx;omega,λ_=>⟨_,0,rfl,by simp,λi hi=>?_⟩⟩,bA⟩;rw[Nat.zero_add,World.cell?_alloc_new];simp[Qa,hi]
def zj8(St:Nat->List UInt8->World->Prop)(Rp:Int->Int->World->Prop)(e:Ending)(w':World):Prop:=
 (∃i:Nat,e=.returned (Iq i)/\0<i/\St i [] w')\/∃n p,e=.panicked (Ze n p)/\Rp n p w'
def ymv(f:FuncId)(cap:Array Value)(l:List UInt8)(w:World)(St:Nat->List UInt8->World->Prop)(Rp:Int->Int->World->Prop)
  (A0:∀args W,(callFunc f args).run prog W=.ok (.enter f args) W)
  (hb:∀i s W W',St i s W->Bq W W'->St i s W')
  (hm:∀i s W,St i s W->Xs W)
  (hs:∀i s W,St i s W->s.length+i<=40000)
  (hr:∀i s W,St i s W->(i=0\/s≠[])->(Lib.cut s [10]).2.2=false->Rp 2 ((i:Int)+1) W)
  (hd:∀i s W0 W b n,St i s W0->Bq W0 W->W0.heap.size<=b->b<W.heap.size->(i=0\/s≠[])->(Lib.cut s [10]).2.2=true->n=(Fl.aE 32 (Lib.cut s [10]).1).length->Zf W.heap.size W (.slice (some (Aq b 0)) n n) (Fl.aE 32 (Lib.cut s [10]).1)->
   Cq f (#[Iq ((i:Int)+1),.slice (some (Aq b 0)) n n]++cap) W λe W'=>(e=.returned (.tuple #[])/\St (i+1) (Lib.cut s [10]).2.1 W')\/∃n p,e=.panicked (Ze n p)/\Rp n p W')
  (h0:St 0 l w):
  Cq 58 #[.string ⟨l.toArray⟩,.func (.func f) #[] cap] w (zj8 St Rp):=by
 have HB:=Zz hb;have HM:=Zz hm;have HS:=Zz hs;have r0:=Zz hr;have HD:=Zz hd;have H0:=Zz h0;clear hb hm hs hr hd h0
 go_enter func58,ntmps58
 go_wp2
 go_loopw [0,5] (λs i wr=>∃(k:Nat) (t:List UInt8),s=.string ⟨t.toArray⟩/\i=Iq k/\St k t wr) (λs i _=>match s with| .string b=>b.size|_=>0)
 case atStart=>exact⟨0,l,rfl,rfl,H0⟩
 case round=>
  obtain⟨k,t,rfl,rfl,cG⟩:=hrel;have g0:=Zz cG;have cF:=HS k t wr cG;clear cG
  by_cases d0:k=0\/t≠[]
  ·have b0:((k:Int)==0)=true\/((k:Int)==0)=false/\t.isEmpty=false:=by
    rcases d0 with h|h
    ·left;simp[h]
    by_cases hk:k=0
    ·left;simp[hk]
    right;exact⟨by simp;omega,by simpa using h⟩
   have n0:=Zz d0;clear d0;have hcut:=yi5 t wr (by omega) (HM _ _ _ g0);obtain⟨a,r,en,i0⟩:∃a r en,Lib.cut t [10]=(a,r,en):=⟨_,_,_,rfl⟩;rw[i0]at hcut;have j0:=Zz hcut;have c0:=Zz i0;clear hcut i0;rcases b0 with b0|⟨b0,b1⟩
   all_goals
    go_wp2_with fail
    refine j0.mono ?_;rintro e w1 ⟨rfl,o0⟩;have a0:Hid (St k t w1):=HB _ _ _ _ g0 o0;clear o0
    cases en with
    |false=>
     go_wp2_with fail
     refine(zr3 2 ((k:Int)+1) w1).mono ?_;rintro e w2 ⟨rfl,e0⟩;exact⟨rfl,.inr ⟨_,_,rfl,r0 k t w2 (HB _ _ _ _ a0 e0) n0 (by rw[c0.out])⟩⟩
    |true=>
     have f0:=Fl.gW 10 t (by rw[c0.out]);rw[c0.out]at f0;have s0:r.length<t.length:=f0.2;have t0:a.length<=40000:=by
      have:=(zo6 10 t).2 a (by rw[f0.1];exact List.mem_cons_self);omega
     clear f0;obtain⟨nw,k0⟩:=nmE ((Fl.aE 32 a).length);have u0:Hid (Cq 116 #[.string ⟨a.toArray⟩,.string ⟨#[32]⟩] w1 λe w'=>e=.returned (.slice (some (Aq w1.heap.size 0)) nw nw)/\Zf w'.heap.size w' (.slice (some (Aq w1.heap.size 0)) nw nw) (Fl.aE 32 a)/\Bq w1 w'):=by
      show Calls _ _ _ _ _;rw[k0];exact yqz a w1 t0 (HM _ _ _ a0)
     have v0:=Zz k0;clear k0
     go_wp2_with fail
     refine u0.mono ?_;rintro e w2 ⟨rfl,l0,e0⟩;have x0:Hid (St k t w2):=HB _ _ _ _ a0 e0;have p0:w1.heap.size<w2.heap.size:=by
      obtain⟨ao,c,h1,h2,h3,h4,h5,h6⟩:=id l0;obtain⟨b,off,e,hb,hc⟩:=h6 (Fl.dR 32 a);rw[e]at h1;simp only[Value.slice.injEq,Option.some.injEq,Addr.mk.injEq]at h1;rw[h1.1.1];exact hb
     have m0:=HD k t w1 w2 w1.heap.size nw a0 e0 (Nat.le_refl _) p0 n0 (by rw[c0.out]) (by rw[c0.out];exact v0) (by rw[c0.out];exact l0);rw[c0.out]at m0;have y0:=Zz m0;clear l0 e0 m0 p0
     go_wp2_with fail
     refine y0.mono ?_;rintro e w3 (⟨rfl,q0⟩|⟨n,p,rfl,hp⟩)
     ·have z0:=Zz q0
      clear q0;go_wp2
      go_roundw
      case rel=>exact⟨k+1,r,rfl,by go_num,z0⟩
      case measure=>exact s0
     exact⟨rfl,.inr ⟨_,_,rfl,hp⟩⟩
  have hk:k≠0:=λh=>d0 (.inl h);have ht:t=[]:=Classical.byContradiction λh=>d0 (.inr h);subst ht;have b0:((k:Int)==0)=false:=(by simp;omega);have HK:Hid (0<k):=(by show 0<k;omega);clear d0 hk;go_wp2;go_ret;exact .inl ⟨k,rfl,HK,g0⟩
end Go.Proofs.YtfhpibppblbgcaaGreatDoor
namespace Go.Proofs.YtfhpibppblbgcaaGreatDoor
open Go.Proofs.Tryz
variable{w w' V:World}{lo base R Pb lm vm cm:Nat}{S:Nat->Prop}{v:Value}{l:List UInt8}
def yi7(r:Fl.RS)(i:Nat)(l m:List UInt8)(ls:List (List UInt8)):Fl.rows r i (l::m::ls)=if(Xi r (Fl.aE 32 l) (i+1)).1≠0 then((Xi r (Fl.aE 32 l) (i+1)).1,i+1,r) else Fl.rows (Xi r (Fl.aE 32 l) (i+1)).2 (i+1) (m::ls):=by
 rw[Fl.rows];unfold Xi
 by_cases h:Fl.aq (Fl.aE 32 l)=true
 ·rw[if_neg (by rw[h];decide),if_pos h]
 rw[if_pos (by simpa using h),if_neg h];rfl
def yqy(r:Fl.RS)(i:Nat)(s:List UInt8)(h:(Lib.cut s [10]).2.2=true):Fl.rows r i (Fl.aE 10 s)=if(Xi r (Fl.aE 32 (Lib.cut s [10]).1) (i+1)).1≠0 then((Xi r (Fl.aE 32 (Lib.cut s [10]).1) (i+1)).1,i+1,r) else Fl.rows (Xi r (Fl.aE 32 (Lib.cut s [10]).1) (i+1)).2 (i+1) (Fl.aE 10 (Lib.cut s [10]).2.1):=by
 rw[(Fl.gW 10 s h).1]
 cases hc:Fl.aE 10 (Lib.cut s [10]).2.1 with
 |nil=>exact absurd hc (Fl.dR _ _)
 |cons m ls=>exact yi7 r i _ m ls
def yu0(r:Fl.RS)(i:Nat)(s:List UInt8)(h:(Lib.cut s [10]).2.2=false)(hs:i=0\/s≠[]):Fl.rows r i (Fl.aE 10 s)=(2,i+1,r):=by
 rw[(Fl.jA 10 s h).1,Fl.rows]
 exact if_neg (λhh=>by
   rcases hs with hs|hs
   ·omega
   exact hs hh.1)
def yi8(r:Fl.RS)(i:Nat)(h:0<i):Fl.rows r i (Fl.aE 10 [])=if r.ae=true/\r.fr=[] then(0,0,r) else(3,i+1,r):=by
 show Fl.rows r i [[]]=_;rw[Fl.rows];exact if_pos ⟨rfl,h⟩
open Go.RowKit
def mem0:Xt:=⟨λ_=>5,.pointer none,Zq,Zq,Zq,Zq,[],λ_ _=>false⟩
def rsOk0:RsOk Fl.RS.zero:=
 {cn:=⟨by decide,trivial⟩,lv:=by decide,ce:=by decide,ch:=by decide,lo:=by decide,st:=by decide,fr:=by decide,cl:=rfl,hl:=rfl,cD:=rfl,below:=λp hp=>(by cases hp),bD:=λx hx=>(by cases hx),bF:=λx hx=>(by cases hx),dy:=λf hf=>(by cases hf),head:=λ_=>⟨rfl,rfl,rfl,rfl⟩,fT:=λh=>(by cases h)}
def Zn.zero{lo R Pb lm vm cm:Nat}{W:World}(cV:lo<=R/\lo<=Pb/\lo<=lm/\lo<=vm/\lo<=cm)(hz:R<W.heap.size/\Pb<W.heap.size/\lm<W.heap.size/\vm<W.heap.size/\cm<W.heap.size)
  (nd:R≠Pb/\R≠lm/\R≠vm/\R≠cm/\Pb≠lm/\Pb≠vm/\Pb≠cm/\lm≠vm/\lm≠cm/\vm≠cm) (aq:Int) (hR:Zb W R 45 (Vq Pb lm vm cm aq Fl.RS.zero mem0)) (hP:Zb W Pb 5 (rw_ [.pointer none,Zq,Zq,Iq 0,Zq]))
  (nl:Yu W lm []) (nv:Yu W vm []) (nc:Yu W cm []):Zn lo W.heap.size R Pb lm vm cm W W Fl.RS.zero aq mem0:=
 {ok:=rsOk0,bel:=Below.refl _ _,fx:=λ_ _ _ _ _ _ _=>rfl,cV:=cV,bL:=⟨hz.1,hz.2.1,hz.2.2.1,hz.2.2.2.1,hz.2.2.2.2,Nat.le_refl _⟩,nd:=nd,cR:=hR,cP:=hP,nl:=nl,nv:=nv,nc:=nc,tab:=λi j hi hj=>(by show false=_;simp[Fl.RS.zero]),re:={wh:=λb h=>absurd rfl h,oc:=zo5 _ _,tc:=λb h=>(by cases h),oh:=zo5 _ _,th:=λb h=>(by cases h),pb:=Yn.none _ _ _,tb:=λb h=>(by cases h),fa:=trivial,oo:=zo5 _ _,to:=λb h=>(by cases h),la:=λh=>(by cases h)}}
def TxSt(lo base R Pb lm vm cm:Nat)(W0:World)(l:List UInt8)(i:Nat)(s:List UInt8)(W:World):Prop:=
 s.length+i<=40000/\∃r aq m,Zn lo base R Pb lm vm cm W0 W r aq m/\Fl.rows Fl.RS.zero 0 (Fl.aE 10 l)=Fl.rows r i (Fl.aE 10 s)
def zl9(lo base R Pb lm vm cm:Nat)(W0:World)(l:List UInt8)(n p:Int)(W:World):Prop:=
 zv9 lo base R Pb lm vm cm W0 W/\n=((Fl.rows Fl.RS.zero 0 (Fl.aE 10 l)).1:Int)/\p=((Fl.rows Fl.RS.zero 0 (Fl.aE 10 l)).2.1:Int)/\(Fl.rows Fl.RS.zero 0 (Fl.aE 10 l)).1≠0
def yqx{W0 W:World}{aq:Int}{m:Xt}(h:Zn lo base R Pb lm vm cm W0 W Fl.RS.zero aq m)(l:List UInt8)(hl:l.length<=1200)(B1 B2 T:Nat)(hg:1<lo)(hm:Xs W0)
  (b0:∀args W,(callFunc 59 args).run prog W=.ok (.enter 59 args) W)
  (d1:B1<base/\B1≠R/\B1≠Pb/\B1≠lm/\B1≠vm/\B1≠cm) (d2:B2<base/\B2≠R/\B2≠Pb/\B2≠lm/\B2≠vm/\B2≠cm) (d3:T<base/\T≠R/\T≠Pb/\T≠lm/\T≠vm/\T≠cm)
  (c0:W0.cell? (Aq B1 0)=some (Pq R)) (d0:W0.cell? (Aq B2 0)=some (.slice (some (Aq T 0)) 12 12)) (hT:W0.heap[T]?=some (.cells Vi 217 (0,0))):
  Cq 58 #[.string ⟨l.toArray⟩,.func (.func 59) #[] #[Pq B1,Pq B2]] W (zj8 (TxSt lo base R Pb lm vm cm W0 l) (zl9 lo base R Pb lm vm cm W0 l)):=by
 refine ymv 59 _ l W (TxSt lo base R Pb lm vm cm W0 l) (zl9 lo base R Pb lm vm cm W0 l) b0 ?_ ?_ ?_ ?_ ?_ ⟨by omega,Fl.RS.zero,aq,m,h,rfl⟩
 ·rintro i s W1 W2 ⟨h1,r,ln,m,h2,h3⟩ hb
  exact⟨h1,r,ln,m,h2.below hb,h3⟩
 ·rintro i s W1 ⟨h1,r,ln,m,h2,h3⟩
  obtain⟨x,hx⟩:=hm;exact⟨x,(h2.bel.cell (p:=⟨1,0,none⟩) hg).trans hx⟩
 ·rintro i s W1 ⟨h1,-⟩;exact h1
 ·rintro i s W1 ⟨h1,r,ln,m,h2,h3⟩ hs hc
  unfold zl9;rw[h3,yu0 r i s hc hs];exact⟨⟨h2.bel,h2.fx⟩,rfl,by simp,Nat.succ_ne_zero _⟩
 rintro i s W1 W2 b n ⟨h1,r,ln,m,h2,h3⟩ hb i0 j0 hs hc hn e0;have hP:=h2.below hb;have bL:=h2.bL;have e1:Cl W2 B1 0 (Pq R):=(Qc (a:=(Aq B1 0)) (hP.fx B1 d1.1 d1.2.1 d1.2.2.1 d1.2.2.2.1 d1.2.2.2.2.1 d1.2.2.2.2.2)).trans c0;have e2:Cl W2 B2 0 (.slice (some (Aq T 0)) 12 12):=(Qc (a:=(Aq B2 0)) (hP.fx B2 d2.1 d2.2.1 d2.2.2.1 d2.2.2.2.1 d2.2.2.2.2.1 d2.2.2.2.2.2)).trans d0;have e3:W2.heap[T]?=some (.cells Vi 217 (0,0)):=(hP.fx T d3.1 d3.2.1 d3.2.2.1 d3.2.2.2.1 d3.2.2.2.2.1 d3.2.2.2.2.2).trans hT
 have f0:m.aC b=5:=Classical.byContradiction λg0=>by have:=(h2.re.wh b g0).2;omega
 have h0:=ymw hP B1 B2 T b n (i+1) _ e1 e2 e3 ⟨d1.2.1,d2.2.1,d3.2.1⟩ e0 (Fl.dR 32 _) ⟨by omega,f0⟩;have a0:=yqy r i s hc;have bj:=(Fl.gW 10 s hc).2;refine Calls.mono h0 ?_;rintro e W3 (⟨g1,rfl,m',g2⟩|⟨g1,rfl,g2⟩)
 ·refine .inl ⟨rfl,by omega,_,_,m',g2,?_⟩
  rw[h3,a0,if_neg (by simpa using g1)]
 refine .inr ⟨_,_,rfl,?_⟩;unfold zl9;rw[h3,a0,if_pos g1];exact⟨g2,rfl,rfl,g1⟩
def yl0(R:Nat)(l:List UInt8)(hl:1200<l.length)(c0:l.length<=100000)(w:World):
  Cq 32 #[Pq R,.string ⟨l.toArray⟩] w λe w'=>e=.panicked (Ze 1 0)/\Bq w w':=by
 have b1:(1200:Int)<(l.length:Int):=by omega
 have a0:Hid (∀W,Cq 56 #[Iq 1,Iq 0] W λe w'=>e=.panicked (Ze 1 0)/\Bq W w'):=zr3 1 0;have hA:∀o,Bq w (w.alloc o):=λo=>bA;have HA:=Zz hA;clear hA
 go_enter func32,ntmps32
 go_wp2_with fail
 refine(a0 _).mono ?_;rintro e w1 ⟨rfl,b0⟩;exact⟨rfl,rfl,(HA _).trans (b0.mono (by simp))⟩
def txW(w:World)(R:Nat):World:=((w.alloc (.cells #[Pq R] 87)).alloc (.cells Vi 217)).alloc (.cells #[.slice (some (Aq (w.heap.size+1) 0)) 12 12] 147)
def yx5(w:World)(R:Nat):(txW w R).heap.size=w.heap.size+3:=by simp[txW]
def zc1(w:World)(R:Nat):Bq w (txW w R):=(((Below.refl _ w).alloc (Nat.le_refl _) _).alloc (by simp) _).alloc (by simp;omega) _
def yqw(w:World)(R:Nat):(txW w R).heap[w.heap.size]?=some (.cells #[Pq R] 87)/\(txW w R).heap[w.heap.size+1]?=some (.cells Vi 217)/\(txW w R).heap[w.heap.size+1+1]?=some (.cells #[.slice (some (Aq (w.heap.size+1) 0)) 12 12] 147):=by
 have a:∀(u:World) (o:Obj) (k:Nat),k<u.heap.size->(u.alloc o).heap[k]?=u.heap[k]?:=λu o k hk=>Below.heap_alloc _ _ _ hk
 have l:∀(u:World) (o:Obj) (k:Nat),u.heap.size=k->(u.alloc o).heap[k]?=some o:=λu o k hk=>by subst hk;exact heap_alloc_last u o
 unfold txW;refine⟨?_,?_,?_⟩
 ·rw[a _ _ _ (by simp;omega),a _ _ _ (by simp),l _ _ _ rfl]
 ·rw[a _ _ _ (by simp),l _ _ _ (by simp)]
 rw[l _ _ _ (by simp)]
def yx6(lo base R Pb lm vm cm:Nat)(W0:World)(q:Nat×Nat×Fl.RS)(e:Ending)(w':World):Prop:=
 (q.1=0/\e=.returned (.tuple #[])/\q.2.2.ae=true/\q.2.2.fr=[]/\∃aq m,Zn lo base R Pb lm vm cm W0 w' q.2.2 aq m)\/(q.1≠0/\e=.panicked (Ze q.1 q.2.1)/\zv9 lo base R Pb lm vm cm W0 w')
def yi9(cV:lo<=R/\lo<=Pb/\lo<=lm/\lo<=vm/\lo<=cm)(hz:R<w.heap.size/\Pb<w.heap.size/\lm<w.heap.size/\vm<w.heap.size/\cm<w.heap.size)
  (nd:R≠Pb/\R≠lm/\R≠vm/\R≠cm/\Pb≠lm/\Pb≠vm/\Pb≠cm/\lm≠vm/\lm≠cm/\vm≠cm) (hR:Zb w R 45 (Vq Pb lm vm cm 0 Fl.RS.zero mem0)) (hP:Zb w Pb 5 (rw_ [.pointer none,Zq,Zq,Iq 0,Zq]))
  (nl:Yu w lm []) (nv:Yu w vm []) (nc:Yu w cm []) (hg:1<lo) (hm:Xs w) (l:List UInt8) (hl:l.length<=1200):
  Cq 32 #[Pq R,.string ⟨l.toArray⟩] w (yx6 lo (w.heap.size+3) R Pb lm vm cm (txW w R) (Fl.rows Fl.RS.zero 0 (Fl.aE 10 l))):=by
 have b1:(l.length:Int)<=1200:=by omega
 have A0:∀(fn:Fn) (first cap:Array Value) (w:World),(Instr.makeFunc fn first cap).run prog w=.ok (.func fn first cap) w:=λ_ _ _ _=>rfl;obtain⟨k1,k2,k3⟩:=yqw w R;have cF:=yx5 w R;have n0:=zc1 w R;have hb:∀b,b<w.heap.size->(txW w R).heap[b]?=w.heap[b]?:=λb h=>n0.block b h;have h0:Zn lo (txW w R).heap.size R Pb lm vm cm (txW w R) (txW w R) Fl.RS.zero 0 mem0:=Zn.zero cV (by omega) nd 0 (hR.block (hb _ hz.1)) (hP.block (hb _ hz.2.1)) (nl.block (hb _ hz.2.2.1)) (nv.block (hb _ hz.2.2.2.1)) (nc.block (hb _ hz.2.2.2.2));rw[cF]at h0
 have d1:w.heap.size<w.heap.size+3/\w.heap.size≠R/\w.heap.size≠Pb/\w.heap.size≠lm/\w.heap.size≠vm/\w.heap.size≠cm:=by omega
 have o0:Cl (txW w R) w.heap.size 0 (Pq R):=cell_of_row _ _ 0 _ _ (0,0) k1;have HE:Hid (Cq 58 #[.string ⟨l.toArray⟩,.func (.func 59) #[] #[Pq w.heap.size,.pointer (some (Aq (w.heap.size+1+1) 0))]] (txW w R) (zj8 (TxSt lo (w.heap.size+3) R Pb lm vm cm (txW w R) l) (zl9 lo (w.heap.size+3) R Pb lm vm cm (txW w R) l))):=by
  refine yqx h0 l hl w.heap.size (w.heap.size+1+1) (w.heap.size+1) hg ?_ ?_ d1 (by omega) (by omega) o0 (cell_of_row _ _ 0 _ _ (0,0) k3) k2
  ·obtain⟨x,hx⟩:=hm
   exact⟨x,(n0.cell (p:=⟨1,0,none⟩) (by show 1<w.heap.size;omega)).trans hx⟩
  intro args W;kernel_rfl
 have p0:=Zz o0;obtain⟨q,hq⟩:=nmE (Fl.rows Fl.RS.zero 0 (Fl.aE 10 l));rw[<-hq];have HQ:=Zz hq;have HD:=Zz d1;obtain⟨W,hW⟩:=nmE (txW w R);rw[<-hW]at HE p0⊢;have HW:=Zz hW;clear cV hz nd hR hP nl nv nc hg hm k1 k2 k3 cF n0 hb h0 o0 hq d1 hW
 go_enter func32,ntmps32
 go_wp2_with fail
 refine(zb8 _).mono ?_;rintro e w1 ⟨rfl,s0⟩;rw[s0];clear s0 w1
 go_wp2_with fail
 have k0:=HE.out;rw[HW.out]at k0;unfold txW at k0;refine Calls.mono k0 ?_;clear k0 HE;rintro e W1 (⟨i,rfl,hi,cG⟩|⟨n,p,rfl,d0⟩)
 ·change TxSt lo (w.heap.size+3) R Pb lm vm cm (txW w R) l i [] W1 at cG
  rw[<-HW.out]at cG;obtain⟨h1,r,ln,m,hP,hr⟩:=cG;have i1:(i:Int)+1<=50000:=(by simp at h1;omega);have g0:Hid (Zn lo (w.heap.size+3) R Pb lm vm cm W (W1.setCell (Aq R 1) (Iq ((i:Int)+1))) r ((i:Int)+1) m):=hP.kX _;have qb:∀k,k≠R->(W1.setCell (Aq R 1) (Iq ((i:Int)+1))).heap[k]?=W1.heap[k]?:=λk hk=>Zx _ _ _ _ _ hk;have c0:Cl W1 w.heap.size 0 (Pq R):=(Qc (a:=(Aq w.heap.size 0)) (hP.fx _ HD.1 HD.2.1 HD.2.2.1 HD.2.2.2.1 HD.2.2.2.2.1 HD.2.2.2.2.2)).trans p0.out;have e0:(W1.setCell (Aq R 1) (Iq ((i:Int)+1))).cell? (Aq w.heap.size 0)=some (Pq R):=(Qc (a:=(Aq w.heap.size 0)) (qb _ HD.2.1)).trans c0;have c1:Cl W1 R 1 (Iq ln):=hP.cR.c 1 (by omega);have zR:=hP.cR.z;have e2:(W1.setCell (Aq R 1) (Iq ((i:Int)+1))).cell? (Aq R 2)=some (.bool r.ae):=g0.cR.c 2 (by omega);have e43:(W1.setCell (Aq R 1) (Iq ((i:Int)+1))).cell? (Aq R 43)=some m.ov:=g0.cR.c 43 (by omega);obtain⟨ao,cp,t0⟩:∃ao cp,m.ov=.slice ao r.fr.length cp:=by
   rcases hP.re.oo.2 with⟨h2,h3⟩|⟨g,cap,cur,h2,-⟩
   ·exact⟨none,0,by rw[h2,h3]⟩
   exact⟨_,_,h2⟩
  rw[t0]at e43;have i0:Hid (q=if r.ae=true/\r.fr=[] then(0,0,r) else(3,i+1,r)):=(by show _=_;rw[HQ.out,hr,yi8 r i hi]);have HZ:Hid (lo<=W1.heap.size):=(by show lo<=_;have:=hP.cV;have:=hP.bL;omega);obtain⟨W2,l0⟩:=nmE (W1.setCell (Aq R 1) (Iq ((i:Int)+1)));have y0:=Zz l0;have j0:W2.heap.size=W1.heap.size:=(by rw[l0];exact Zy _ _ _);have B0:Hid (lo<=W2.drew.heap.size):=(by show lo<=W2.heap.size;rw[j0];exact HZ);rw[<-l0]at g0 e0 e2 e43;have f0:Cl W2.drew w.heap.size 0 (Pq R):=e0;have f2:Cl W2.drew R 2 (.bool r.ae):=e2;have f43:Cl W2.drew R 43 (.slice ao r.fr.length cp):=e43;have q0:Hid (Cq 61 #[Pq R,.bool false,Iq 3] W2.drew λe w'=>e=.panicked (Ze 3 ((i:Int)+1))/\Below W2.drew.heap.size W2.drew w'):=Yd R 3 _ W2.drew (g0.drew.cR.c 1 (by omega));have m0:Hid (Cq 61 #[Pq R,.bool true,Iq 3] W2.drew λe w'=>e=.returned (.tuple #[])/\w'=W2.drew):=Xc R 3 W2.drew;clear hP hr hi h1 e0 e2 e43 qb t0 HQ HD p0 l0 j0 HZ
  go_wp2_with fail
  rw[<-y0.out]
  cases a0:r.ae with
  |false=>
   rw[a0]at f2;have HR:Hid (q=(3,i+1,r)):=(by show _=_;rw[i0.out,if_neg (by rw[a0];simp)]);clear a0 c0 c1 zR b1 m0 i0;refine Xg 13 5 _ 5 _ (by kernel_rfl) (by kernel_rfl) rfl rfl (λops hY u0=>?_);simp only[List.take_succ_cons,List.take_zero,List.drop_succ_cons,List.drop_zero]
   iterate 13 still_step
   refine wpStill_nil ?_
   go_wp2_with fail
   refine q0.mono ?_;rintro e w3 ⟨rfl,r0⟩;refine⟨rfl,.inr ⟨?_,?_,?_⟩⟩
   ·rw[HR.out];exact Nat.succ_ne_zero _
   ·rw[HR.out];rfl
   exact g0.drew.gone r0
  |true=>
   rw[a0]at f2
   by_cases b0:r.fr=[]
   ·have HR:Hid (q=(0,0,r)):=by show _=_;rw[i0.out,if_pos ⟨a0,b0⟩]
    have HG:Hid (r.ae=true/\r.fr=[]):=⟨a0,b0⟩;rw[b0]at f43;simp only[List.length_nil]at f43;clear a0 c0 c1 zR b1 q0 i0 b0;refine Xg 13 5 _ 5 _ (by kernel_rfl) (by kernel_rfl) rfl rfl (λops hY u0=>?_);simp only[List.take_succ_cons,List.take_zero,List.drop_succ_cons,List.drop_zero]
    iterate 13 still_step
    refine wpStill_nil ?_
    go_wp2_with fail
    refine m0.mono ?_;rintro e w3 ⟨rfl,v0⟩;have HE:Hid (yx6 lo (w.heap.size+3) R Pb lm vm cm W q (.returned (.tuple #[])) w3):=by
     show yx6 _ _ _ _ _ _ _ _ _ _ _;rw[HR.out,v0];exact .inl ⟨rfl,rfl,HG.1,HG.2,_,_,g0.drew⟩
    clear v0 f0 f2 f43 m0;go_wp2
    go_end0
    exact HE
   have HR:Hid (q=(3,i+1,r)):=(by show _=_;rw[i0.out,if_neg (λh=>b0 h.2)]);have z0:((r.fr.length:Int)==0)=false:=by
    have:r.fr.length≠0:=λh=>b0 (Qi h);simp;exact b0
   obtain⟨nf,x0⟩:=nmE (r.fr.length);rw[<-x0]at z0 f43;clear a0 c0 c1 zR b1 m0 i0 b0 x0;refine Xg 13 5 _ 5 _ (by kernel_rfl) (by kernel_rfl) rfl rfl (λops hY u0=>?_);simp only[List.take_succ_cons,List.take_zero,List.drop_succ_cons,List.drop_zero]
   iterate 13 still_step
   refine wpStill_nil ?_
   go_wp2_with fail
   refine q0.mono ?_;rintro e w3 ⟨rfl,r0⟩;refine⟨rfl,.inr ⟨?_,?_,?_⟩⟩
   ·rw[HR.out];exact Nat.succ_ne_zero _
   ·rw[HR.out];rfl
   exact g0.drew.gone r0
 change zl9 lo (w.heap.size+3) R Pb lm vm cm (txW w R) l n p W1 at d0
 rw[<-HW.out]at d0;obtain⟨h1,h2,h3,h4⟩:=d0;rw[<-HQ.out]at h2 h3 h4;exact⟨rfl,.inr ⟨h4,by rw[h2,h3],h1⟩⟩
def zj9(p:Addr)(n pl:Int)(v0:Value)(older:List PanicEntry)(w:World)(hc:w.cell? p=some v0)(hz:w.frozen? p=false)(a0:p.block<w.heap.size):
  CallsD prog 55 #[.pointer (some p)] (.panicking ({v:=.iface 144 (.agg #[Iq n,Iq pl]),recovered:=false}::older)) w λe u' w'=>
   e=.returned (.tuple #[])/\u'=.panicking ({v:=.iface 144 (.agg #[Iq n,Iq pl]),recovered:=true}::older)/\∃o,w'=((w.alloc o).alloc (.cells #[Iq n,Iq pl] 77)).setCell p (.iface 73 (.pointer (some (Aq (w.heap.size+1) 0)))):=by
 have b0:∀o o',((w.alloc o).alloc o').cell? p=some v0:=λo o'=>by rw[((((Below.refl w.heap.size w).alloc (Nat.le_refl _) o).alloc (by simp) o').cell a0)];exact hc
 have c0:∀o o',((w.alloc o).alloc o').frozen? p=false:=λo o'=>by rw[((((Below.refl w.heap.size w).alloc (Nat.le_refl _) o).alloc (by simp) o').frozen a0)];exact hz
 have d0:∀W,(Instr.typeAssert (.iface 144 (.agg #[Iq n,Iq pl])) 20 144 true).run prog W=.ok (.tuple #[.agg #[Iq n,Iq pl],.bool true]) W:=λW=>by kernel_rfl
 refine callsD_of_wpS func55 rfl λc₀ cs hu=>?_;apply wpS_seq
 apply wpS_region
 simp[wpOpsS,go_sem,recoverD,hu,ntmps55,Exit.thenS]
 have ht:(#[Value.pointer (some p)]++((Array.replicate 21 undef).setIfInBounds 3 (.iface 144 (.agg #[Iq n,Iq pl]))).setIfInBounds 0 (.iface 144 (.agg #[Iq n,Iq pl])):Array Value)=#[.pointer (some p),(.iface 144 (.agg #[Iq n,Iq pl])),undef,undef,(.iface 144 (.agg #[Iq n,Iq pl])),undef,undef,undef,undef,undef,undef,undef,undef,undef,undef,undef,undef,undef,undef,undef,undef,undef]:=by kernel_rfl
 rw[ht];clear ht;refine wpS_of_wp ?_;have HU:=Zz hu;clear hu
 go_wp2_with fail
 refine⟨by simp,_,rfl,.tuple #[],?_,rfl,rfl,_,rfl⟩;simp[results,results55]
def yu1(p:Addr)(w:World):CallsD prog 55 #[.pointer (some p)] .returning w λe u' w'=>e=.returned (.tuple #[])/\u'=.returning/\w'=w:=by
 refine callsD_of_wpS func55 rfl λc₀ cs hu=>?_;apply wpS_seq
 apply wpS_region
 simp[wpOpsS,go_sem,recoverD,hu,ntmps55,Exit.thenS]
 have ht:(#[Value.pointer (some p)]++((Array.replicate 21 undef).setIfInBounds 3 .nilIface).setIfInBounds 0 .nilIface:Array Value)=#[.pointer (some p),.nilIface,undef,undef,.nilIface,undef,undef,undef,undef,undef,undef,undef,undef,undef,undef,undef,undef,undef,undef,undef,undef,undef]:=by kernel_rfl
 rw[ht];clear ht;refine wpS_of_wp ?_;have HU:=Zz hu;clear hu
 go_wp2_with fail
 refine⟨by simp,.returning,?_,.tuple #[],?_,rfl,rfl,rfl⟩
 ·have h9:=HU.out
  cases c₀;simp_all
 simp[results,results55]
def zc2(f:FuncId)(cap:Array Value)(w:World)(Rr:World->Prop)(Rp:Int->Int->World->Prop)(d0:∀W,(callFunc f cap).run prog W=.ok (.enter f cap) W)
  (a0:Cq f cap (w.alloc (.cells #[.nilIface] 47)) λe w'=>w'.cell? (Aq w.heap.size 0)=some .nilIface/\w'.frozen? (Aq w.heap.size 0)=false/\((e=.returned (.tuple #[])/\Rr w')\/∃n pl,e=.panicked (Ze n pl)/\Rp n pl w')):
  Cq 30 #[.func (.func f) #[] cap] w λe w'=>(∃w1,e=.returned .nilIface/\Rr w1/\w'=w1.setCell (Aq w.heap.size 0) .nilIface)\/
   ∃n pl w1 o,e=.returned (.iface 73 (.pointer (some (Aq (w1.heap.size+1) 0))))/\Rp n pl w1/\w'=((w1.alloc o).alloc (.cells #[Iq n,Iq pl] 77)).setCell (Aq w.heap.size 0) (.iface 73 (.pointer (some (Aq (w1.heap.size+1) 0)))):=by
 have e0:∀(fn:Fn) (first cap:Array Value) (w:World),(Instr.makeFunc fn first cap).run prog w=.ok (.func fn first cap) w:=λ_ _ _ _=>rfl;have c0:=Zz a0;clear a0
 go_enter_defers func30,ntmps30
 go_wp2_with fail
 refine(c0.out).mono ?_;rintro e w1 ⟨hc,hz,⟨rfl,hr⟩|⟨n,pl,rfl,hp⟩⟩
 ·have HR:=Zz hr
  clear hr
  go_wp2_with fail
  refine leaves_cons (f:=55) (args:=#[Pq w.heap.size]) (by simp) (by simp[go_sem]) ?_;refine(yu1 (Aq w.heap.size 0) _).mono ?_;rintro e u' w'' ⟨rfl,rfl,rfl⟩;have q0:Cl (w1.setCell (Aq w.heap.size 0) .nilIface) w.heap.size 0 .nilIface:=World.cell?_setCell_same' _ _ _ (by simp[hc]);refine⟨.nilIface,by simp[results,results30,go_sem,q0],.inl ⟨w1,rfl,HR,rfl⟩⟩
 have b0:w.heap.size<w1.heap.size:=Qe w1 _ hc;refine leaves_cons (f:=55) (args:=#[Pq w.heap.size]) (by simp) (by simp[go_sem]) ?_;refine(zj9 (Aq w.heap.size 0) n pl .nilIface [] w1 hc hz b0).mono ?_;rintro e u' w'' ⟨rfl,rfl,o,rfl⟩;have q0:(((w1.alloc o).alloc (.cells #[Iq n,Iq pl] 77)).setCell (Aq w.heap.size 0) (.iface 73 (.pointer (some (Aq (w1.heap.size+1) 0))))).cell? (Aq w.heap.size 0)=some (.iface 73 (.pointer (some (Aq (w1.heap.size+1) 0)))):=by
  refine World.cell?_setCell_same' _ _ _ ?_;rw[World.cell?_alloc_past _ _ _ (by simp;omega),World.cell?_alloc_past _ _ _ b0,hc];rfl
 refine⟨.iface 73 (.pointer (some (Aq (w1.heap.size+1) 0))),by simp[results,results30,go_sem,q0],.inr ⟨n,pl,w1,o,rfl,hp,rfl⟩⟩
open Go.Maps Go.WideMaps Go.ChangeMaps Go.MapKept
def zx5(S:Nat->Prop)(w:World)(v:Value)(l:List Nat):Prop:=
 ∃ao cap,v=.slice ao l.length cap/\l.length<=cap/\cap<=maxLen/\(l≠[]->∃b,ao=some (Aq b 0)/\S b/\∀i,i<l.length->w.cell? (Aq b i)=some (Iq (l.getD i 0)))
def zx5.kept{S':Nat->Prop}{l:List Nat}(h:zx5 S w v l)(hS:∀b,S b->S' b)(hw:∀b,S b->w'.heap[b]?=w.heap[b]?):zx5 S' w' v l:=by
 obtain⟨ao,cap,h1,h2,h3,h4⟩:=h;refine⟨ao,cap,h1,h2,h3,λa0=>?_⟩;obtain⟨b,e,hb,hc⟩:=h4 a0;exact⟨b,e,hS b hb,λi hi=>(Qc (a:=(Aq b i)) (hw b hb)).trans (hc i hi)⟩
def zx5.own{l:List Nat}(h:w.ownsRow base 3 1 v l.length (Yi l))(hv:∀b,v.ownBlock=some b->S b):zx5 S w v l:=by
 rcases h.2 with⟨rfl,h0⟩|⟨g,cap,cur,rfl,hb,hg,c0,a0,d0,ht⟩
 ·exact⟨none,0,by rw[h0],by omega,by simp[maxLen],λb0=>absurd (Qi h0) b0⟩
 refine⟨_,cap,rfl,by omega,a0,λ_=>⟨g,rfl,hv g rfl,λi hi=>?_⟩⟩;have h4:=h.cells (g:=g) rfl i (Iq (l.getD i 0)) (by unfold Yi;simp[Qa,hi])
 have h5:((Aq g 0):Addr).add i=(Aq g i):=by unfold Addr.add;split<;>simp_all
 rw[h5]at h4;exact h4
def Jp(S:Nat->Prop)(w:World)(Pb:Nat)(p:Fl.aS):Prop:=
 ∃Lb bD bF bv,S Pb/\S Lb/\Zb w Pb 5 (rw_ [ptr Lb,bD,bF,Iq p.am,bv])/\Ur w Lb p.n p.leq/\zx5 S w bD p.cells/\zx5 S w bF p.aj/\Zh 4 S w bv p.aX
def Jp.kept{S S':Nat->Prop}{w w':World}{Pb:Nat}{p:Fl.aS}(h:Jp S w Pb p)(hS:∀b,S b->S' b)(hw:∀b,S b->w'.heap[b]?=w.heap[b]?):Jp S' w' Pb p:=by
 obtain⟨Lb,bD,bF,bv,h1,h2,h3,h4,h5,h6,h7⟩:=h;exact⟨Lb,bD,bF,bv,hS _ h1,hS _ h2,h3.block (hw _ h1),h4.block (hw _ h2),h5.kept hS hw,h6.kept hS hw,Zh.kept hS hw _ _ _ h7⟩
def Zn.prog{lo base R Pb lm vm cm:Nat}{w0 w:World}{r:Fl.RS}{aq:Int}{m:Xt}(h:Zn lo base R Pb lm vm cm w0 w r aq m)(hb:r.ae=true)(hf:r.fr=[]):Jp (λb=>(b=Pb\/base<=b)/\b<w.heap.size) w Pb r.prog:=by
 obtain⟨Lb,l1,l2,l3⟩:=h.re.la hb;have bL:=h.bL;have cV:=h.cV
 have hS:∀b,m.aC b≠5->(b=Pb\/base<=b)/\b<w.heap.size:=λb hb=>by have:=h.re.wh b hb;omega
 have b0:m.gs=[]:=Qi (by rw[h.re.fa.len,hf];rfl);have a0:=h.re.pb;rw[b0]at a0;refine⟨Lb,m.bD,m.bF,m.bv,by omega,hS _ (by rw[l2];decide),by rw[<-l1];exact h.cP,l3,zx5.own h.re.oc (λb hv=>hS b (by rw[h.re.tc b hv];decide)),zx5.own h.re.oh (λb hv=>hS b (by rw[h.re.th b hv];decide)),?_⟩;have c0:=h.ok.cn.1;have cG:=h.ok.st;exact Yn.closed (a0.kept (S':=λb=>(b=Pb\/base<=b)/\b<w.heap.size) (λb hv=>hS b (by rw[hv];decide)) (λ_ _=>rfl) (λ_ _=>rfl)) (λb hv=>hS b (by rw[h.re.tb b hv];decide)) (by show r.bC.length<=16;omega)
def zax(n:Nat):Array Value:=#[ptr (n+1),Iq 0,.bool false,Iq 0,.bool false,.bool false,.bool false,.bool false,.bool false,.bool false,.bool false,.bool false,.bool false,.bool false,.bool false,.bool false,.bool false,.bool false,.bool false,.bool false,.bool false,.bool false,.bool false,.bool false,.bool false,.bool false,.bool false,.bool false,.bool false,.bool false,.bool false,.bool false,.bool false,.bool false,.bool false,.bool false,.bool false,.bool false,.bool false,.bool false,.map (some (n+2)),.map (some (n+3)),.map (some (n+4)),Zq,Iq 0]
def yiz(n j:Nat)(h:j<45):(zax n)[j]?=some (Vq (n+1) (n+2) (n+3) (n+4) 0 Fl.RS.zero mem0 j):=by
 have:j=0\/j=1\/j=2\/j=3\/(4<=j/\j<40)\/j=40\/j=41\/j=42\/j=43\/j=44:=by omega
 rcases this with rfl|rfl|rfl|rfl|h1|rfl|rfl|rfl|rfl|rfl
 ·rfl
 ·rfl
 ·rfl
 ·rfl
 ·unfold Vq
  rw[if_neg (by omega),if_neg (by omega),if_neg (by omega),if_neg (by omega),if_neg (by omega),if_neg (by omega),if_neg (by omega),if_neg (by omega),if_neg (by omega)]
  have:j=4\/j=5\/j=6\/j=7\/j=8\/j=9\/j=10\/j=11\/j=12\/j=13\/j=14\/j=15\/j=16\/j=17\/j=18\/j=19\/j=20\/j=21\/j=22\/j=23\/j=24\/j=25\/j=26\/j=27\/j=28\/j=29\/j=30\/j=31\/j=32\/j=33\/j=34\/j=35\/j=36\/j=37\/j=38\/j=39:=by omega
  rcases this with rfl|rfl|rfl|rfl|rfl|rfl|rfl|rfl|rfl|rfl|rfl|rfl|rfl|rfl|rfl|rfl|rfl|rfl|rfl|rfl|rfl|rfl|rfl|rfl|rfl|rfl|rfl|rfl|rfl|rfl|rfl|rfl|rfl|rfl|rfl|rfl<;>rfl
 ·rfl
 ·rfl
 ·rfl
 ·rfl
 rfl
def rdW(w:World)(l:List UInt8):World:=((((((w.alloc (.cells #[.string ⟨l.toArray⟩] 9)).alloc (.cells #[.pointer none,Zq,Zq,Iq 0,Zq] 91)).alloc (.map #[] 0)).alloc (.map #[] 0)).alloc (.map #[] 0)).alloc (.cells (zax w.heap.size) 100)).alloc (.cells #[.pointer (some (Aq (w.heap.size+5) 0))] 87)
def zjz(w:World)(l:List UInt8):(rdW w l).heap.size=w.heap.size+7:=by simp[rdW]
def zc3(w:World)(l:List UInt8):Bq w (rdW w l):=(((((((Below.refl _ w).alloc (Nat.le_refl _) _).alloc (by simp<;>omega) _).alloc (by simp<;>omega) _).alloc (by simp<;>omega) _).alloc (by simp<;>omega) _).alloc (by simp<;>omega) _).alloc (by simp<;>omega) _
def zo7(w:World)(l:List UInt8):(rdW w l).heap[w.heap.size]?=some (.cells #[.string ⟨l.toArray⟩] 9)/\
  (rdW w l).heap[w.heap.size+1]?=some (.cells #[.pointer none,Zq,Zq,Iq 0,Zq] 91)/\
  (rdW w l).heap[w.heap.size+2]?=some (.map #[] 0)/\(rdW w l).heap[w.heap.size+3]?=some (.map #[] 0)/\(rdW w l).heap[w.heap.size+4]?=some (.map #[] 0)/\
  (rdW w l).heap[w.heap.size+5]?=some (.cells (zax w.heap.size) 100)/\(rdW w l).heap[w.heap.size+6]?=some (.cells #[.pointer (some (Aq (w.heap.size+5) 0))] 87):=by
 have a:∀(u:World) (o:Obj) (k:Nat),k<u.heap.size->(u.alloc o).heap[k]?=u.heap[k]?:=λu o k hk=>Below.heap_alloc _ _ _ hk
 have l:∀(u:World) (o:Obj) (k:Nat),u.heap.size=k->(u.alloc o).heap[k]?=some o:=λu o k hk=>by subst hk;exact heap_alloc_last u o
 unfold rdW;refine⟨?_,?_,?_,?_,?_,?_,?_⟩
 ·rw[a _ _ _ (by simp<;>omega),a _ _ _ (by simp<;>omega),a _ _ _ (by simp<;>omega),a _ _ _ (by simp<;>omega),a _ _ _ (by simp<;>omega),a _ _ _ (by simp<;>omega),l _ _ _ (by simp<;>omega)]
 ·rw[a _ _ _ (by simp<;>omega),a _ _ _ (by simp<;>omega),a _ _ _ (by simp<;>omega),a _ _ _ (by simp<;>omega),a _ _ _ (by simp<;>omega),l _ _ _ (by simp<;>omega)]
 ·rw[a _ _ _ (by simp<;>omega),a _ _ _ (by simp<;>omega),a _ _ _ (by simp<;>omega),a _ _ _ (by simp<;>omega),l _ _ _ (by simp<;>omega)]
 ·rw[a _ _ _ (by simp<;>omega),a _ _ _ (by simp<;>omega),a _ _ _ (by simp<;>omega),l _ _ _ (by simp<;>omega)]
 ·rw[a _ _ _ (by simp<;>omega),a _ _ _ (by simp<;>omega),l _ _ _ (by simp<;>omega)]
 ·rw[a _ _ _ (by simp<;>omega),l _ _ _ (by simp<;>omega)]
 rw[l _ _ _ (by simp<;>omega)]
def Yu.fresh{b:Nat}(h:w.heap[b]?=some (.map #[] 0)):Yu w b []:=by
 have ho:w.ownsMap (H:=Unit) prog 9 (plainElem prog 3) b 0 (.map []):=⟨#[],0,h,⟨by simp,stamped_empty 0,by simp⟩,Nat.le_refl _,rfl⟩;exact⟨0,.map [],ho,Nat.le_refl _,rfl,ho.tidy zny,ho.isMap,λx=>⟨by simp[Maps.has,Fl.ai,Fl.bp],by simp[DataW.atKey,Fl.ai,Fl.bp];decide⟩⟩
end Go.Proofs.YtfhpibppblbgcaaGreatDoor
namespace Go.Proofs.YtfhpibppblbgcaaGreatDoor
open Go.RowKit Go.Proofs.Tryz
variable{w w' V:World}{lo base R Pb lm vm cm:Nat}{S:Nat->Prop}{v:Value}{l:List UInt8}
def zx5.ints{l:List Nat}(h:zx5 S w v l)(hS:∀b,S b->b<w.heap.size):Zv w.heap.size w v (l.map λ(y:Nat)=>(y:Int)):=by
 obtain⟨ao,cap,rfl,h2,h3,h4⟩:=h;refine⟨ao,cap,by simp,by simpa using h2,by simp;omega,λb0=>?_⟩;obtain⟨b,e,hb,hc⟩:=h4 (by rintro rfl;exact b0 rfl);refine⟨b,0,e,hS b hb,λi hi=>?_⟩
 have a0:i<l.length:=by simpa using hi
 rw[Nat.zero_add,hc i a0];simp[Qa,a0]
def RdIn(n:Nat)(V:World)(q:Nat×Nat×Fl.aS)(e:Ending)(w':World):Prop:=
 Below n V w'/\n+8<=w'.heap.size/\w'.heap[n+7]?=V.heap[n+7]?/\w'.heap[n+6]?=V.heap[n+6]?/\
 ((q.1=0/\e=.returned (.tuple #[])/\Jp (λb=>(n<=b/\b≠n+7)/\b<w'.heap.size) w' (n+1) q.2.2/\w'.cell? (Aq (n+5) 0)=some (ptr (n+1)))\/(q.1≠0/\e=.panicked (Ze q.1 q.2.1)))
def ze0(l:List UInt8)(h:¬1200<l.length):Fl.ak l=((Fl.rows Fl.RS.zero 0 (Fl.aE 10 l)).1,(Fl.rows Fl.RS.zero 0 (Fl.aE 10 l)).2.1,(Fl.rows Fl.RS.zero 0 (Fl.aE 10 l)).2.2.prog):=by
 unfold Fl.ak;rw[if_neg h]
def za0(l:List UInt8)(h:1200<l.length):Fl.ak l=(1,0,Fl.RS.zero.prog):=by
 unfold Fl.ak;rw[if_pos h]
def rd_text(hV:V=(rdW w l).alloc (.cells #[.nilIface] 47))(hl:l.length<=100000)(hg:1<w.heap.size)(hm:Xs w):
  Cq 32 #[.pointer (some (Aq (w.heap.size+5) 0)),.string ⟨l.toArray⟩] V (RdIn w.heap.size V (Fl.ak l)):=by
 have hz:=zjz w l
 have g0:V.heap.size=w.heap.size+8:=by rw[hV];simp[hz]
 have b0:Below (rdW w l).heap.size (rdW w l) V:=by rw[hV];exact bA
 have hB:Bq w V:=(zc3 w l).trans (b0.mono (by omega));obtain⟨k0,k1,k2,k3,k4,k5,k6⟩:=zo7 w l;have q:∀k,k<w.heap.size+7->V.heap[k]?=(rdW w l).heap[k]?:=λk hk=>b0.block k (by omega)
 by_cases hs:1200<l.length
 ·rw[za0 l hs]
  refine(yl0 _ l hs hl V).mono ?_;rintro e w' ⟨rfl,hb⟩;have hz':=hb.size;exact⟨hb.mono (by omega),by omega,hb.block _ (by omega),hb.block _ (by omega),.inr ⟨Nat.succ_ne_zero _,rfl⟩⟩
 rw[ze0 l hs]
 have hR:Zb V (w.heap.size+5) 45 (Vq (w.heap.size+1) (w.heap.size+2) (w.heap.size+3) (w.heap.size+4) 0 Fl.RS.zero mem0):=
  ⟨λj hj=>(cell_of_row V _ j _ _ (0,0) ((q _ (by omega)).trans k5)).trans (yiz _ j hj),λj=>(Qd (a:=(Aq (w.heap.size+5) j)) (q (w.heap.size+5) (by omega))).trans (by simp[World.frozen?,k5])⟩
 have hP:Zb V (w.heap.size+1) 5 (rw_ [.pointer none,Zq,Zq,Iq 0,Zq]):=
  ⟨λj hj=>(cell_of_row V _ j _ _ (0,0) ((q _ (by omega)).trans k1)).trans (by rcases(show j=0\/j=1\/j=2\/j=3\/j=4 by omega) with rfl|rfl|rfl|rfl|rfl<;>rfl),λj=>(Qd (a:=(Aq (w.heap.size+1) j)) (q (w.heap.size+1) (by omega))).trans (by simp[World.frozen?,k1])⟩
 have hm':Xs V:=by
  obtain⟨x,hx⟩:=hm;exact⟨x,(hB.cell (p:=⟨1,0,none⟩) hg).trans hx⟩
 have ht:=yi9 (lo:=w.heap.size) (R:=w.heap.size+5) (Pb:=w.heap.size+1) (lm:=w.heap.size+2) (vm:=w.heap.size+3) (cm:=w.heap.size+4) (w:=V) (by omega) (by omega) (by omega) hR hP (Yu.fresh ((q _ (by omega)).trans k2)) (Yu.fresh ((q _ (by omega)).trans k3)) (Yu.fresh ((q _ (by omega)).trans k4)) hg hm' l (by omega);refine ht.mono ?_;have a0:=zc1 V (w.heap.size+5);have i0:=yx5 V (w.heap.size+5);rintro e w' (⟨h0,rfl,d0,e0,ln,m,hp⟩|⟨h0,rfl,c0,f0⟩)
 ·have bL:=hp.bL
  have f:∀k,k=w.heap.size+6\/k=w.heap.size+7->w'.heap[k]?=V.heap[k]?:=λk hk=>(hp.fx k (by omega) (by omega) (by omega) (by omega) (by omega) (by omega)).trans (a0.block k (by omega));refine⟨(a0.mono (by omega)).trans hp.bel,by omega,f _ (by omega),f _ (by omega),.inl ⟨h0,rfl,?_,hp.cR.c 0 (by omega)⟩⟩;exact(hp.prog d0 e0).kept (λb hb=>by have:=hb.1;have:=hb.2;omega) (λ_ _=>rfl)
 have f:∀k,k=w.heap.size+6\/k=w.heap.size+7->w'.heap[k]?=V.heap[k]?:=λk hk=>(f0 k (by omega) (by omega) (by omega) (by omega) (by omega) (by omega)).trans (a0.block k (by omega));exact⟨(a0.mono (by omega)).trans c0,by have:=c0.size;omega,f _ (by omega),f _ (by omega),.inr ⟨h0,rfl⟩⟩
def do_read(hV:V=(rdW w l).alloc (.cells #[.nilIface] 47))(hl:l.length<=100000)(hg:1<w.heap.size)(hm:Xs w):
  Cq 31 #[.pointer (some (Aq (w.heap.size+6) 0)),Pq w.heap.size] V (RdIn w.heap.size V (Fl.ak l)):=by
 have HT:Hid (Cq 32 #[.pointer (some (Aq (w.heap.size+5) 0)),.string ⟨l.toArray⟩] V (RdIn w.heap.size V (Fl.ak l))):=rd_text hV hl hg hm;obtain⟨k0,k1,k2,k3,k4,k5,k6⟩:=zo7 w l;have hz:=zjz w l
 have q:∀k,k<w.heap.size+7->V.heap[k]?=(rdW w l).heap[k]?:=λk hk=>by rw[hV];exact Below.heap_alloc _ _ _ (by omega)
 have c6:V.cell? (Aq (w.heap.size+6) 0)=some (.pointer (some (Aq (w.heap.size+5) 0))):=cell_of_row V _ 0 _ _ (0,0) ((q _ (by omega)).trans k6);have c0:Cl V w.heap.size 0 (.string ⟨l.toArray⟩):=cell_of_row V _ 0 _ _ (0,0) ((q _ (by omega)).trans k0);obtain⟨aV,a0⟩:=nmE (Fl.ak l);rw[<-a0]at HT⊢;clear hV k0 k1 k2 k3 k4 k5 k6 hz q a0 hl hg hm
 go_enter func31,ntmps31
 go_wp2_with fail
 refine HT.mono ?_;rintro e W ⟨h1,h2,h3,h4,⟨h5,rfl,h6⟩|⟨h5,rfl⟩⟩
 ·have HE:Hid (RdIn w.heap.size V aV (.returned (.tuple #[])) W):=⟨h1,h2,h3,h4,.inl ⟨h5,rfl,h6⟩⟩
  clear h1 h2 h3 h4 h5 h6 HT c0 c6;go_wp2
  go_end0
  exact HE
 exact⟨rfl,h1,h2,h3,h4,.inr ⟨h5,rfl⟩⟩
def zs8(q:Nat×Nat×Fl.aS)(w:World)(e:Ending)(w':World):Prop:=
  Bq w w'/\
  ((q.1=0/\∃Pb,e=.returned (.tuple #[Pq Pb,.nilIface])/\Jp (λb=>w.heap.size<=b/\b<w'.heap.size) w' Pb q.2.2)\/
   (q.1≠0/\∃a,e=.returned (.tuple #[.pointer none,.iface 73 (Pq a)])/\w'.cell? (Aq a 0)=some (Iq q.1)/\w'.cell? (Aq a 1)=some (Iq q.2.1)))
def yl1(q:Nat×Nat×Fl.aS)(w:World)(e:Ending)(w':World):Prop:=
  Bq w w'/\
  ((q.1=0/\e=.returned .nilIface/\w'.cell? (Aq (w.heap.size+6) 0)=some (.pointer (some (Aq (w.heap.size+5) 0)))/\w'.cell? (Aq (w.heap.size+5) 0)=some (.pointer (some (Aq (w.heap.size+1) 0)))/\Jp (λb=>w.heap.size<=b/\b<w'.heap.size) w' (w.heap.size+1) q.2.2)\/
   (q.1≠0/\∃a,e=.returned (.iface 73 (Pq a))/\w'.cell? (Aq a 0)=some (Iq q.1)/\w'.cell? (Aq a 1)=some (Iq q.2.1)))
def yqv(hl:l.length<=100000)(hg:1<w.heap.size)(hm:Xs w):
  Cq 30 #[.func (.func 31) #[] #[.pointer (some (Aq (w.heap.size+6) 0)),Pq w.heap.size]] (rdW w l) (yl1 (Fl.ak l) w):=by
 have hd:=do_read (w:=w) (l:=l) rfl hl hg hm;have hz:=zjz w l;have hc:=zc2 31 #[.pointer (some (Aq (w.heap.size+6) 0)),Pq w.heap.size] (rdW w l) (λw'=>RdIn w.heap.size ((rdW w l).alloc (.cells #[.nilIface] 47)) (Fl.ak l) (.returned (.tuple #[])) w') (λn pl w'=>n=((Fl.ak l).1:Int)/\pl=((Fl.ak l).2.1:Int)/\RdIn w.heap.size ((rdW w l).alloc (.cells #[.nilIface] 47)) (Fl.ak l) (.panicked (Ze n pl)) w') (λW=>by kernel_rfl);rw[hz]at hc;have a0:((rdW w l).alloc (.cells #[.nilIface] 47)).heap[w.heap.size+7]?=some (.cells #[.nilIface] 47):=by
  have:=heap_alloc_last (rdW w l) (.cells #[.nilIface] 47);rw[hz]at this;exact this
 have b0:Bq w ((rdW w l).alloc (.cells #[.nilIface] 47)):=(zc3 w l).alloc (by omega) _;obtain⟨k0,k1,k2,k3,k4,k5,k6⟩:=zo7 w l;have k6':((rdW w l).alloc (.cells #[.nilIface] 47)).heap[w.heap.size+6]?=some (.cells #[.pointer (some (Aq (w.heap.size+5) 0))] 87):=(Below.heap_alloc _ _ _ (by omega)).trans k6;refine(hc (hd.mono ?_)).mono ?_
 ·rintro e w' ⟨h1,h2,h3,h4,h5⟩
  refine⟨cell_of_row _ _ 0 _ _ (0,0) (h3.trans a0),by rw[World.frozen?,h3,a0];simp,?_⟩;rcases h5 with⟨h5,rfl,h6⟩|⟨h5,rfl⟩
  ·exact .inl ⟨rfl,h1,h2,h3,h4,.inl ⟨h5,rfl,h6⟩⟩
  exact .inr ⟨_,_,rfl,rfl,rfl,h1,h2,h3,h4,.inr ⟨h5,rfl⟩⟩
 have f:∀(u:World) (v:Value) (k:Nat),k≠w.heap.size+7->(u.setCell (Aq (w.heap.size+7) 0) v).heap[k]?=u.heap[k]?:=λu v k hk=>Zx _ _ _ _ _ hk;rintro e wz (⟨w1,rfl,⟨h1,h2,h3,h4,h5⟩,rfl⟩|⟨n,pl,w1,o,rfl,⟨rfl,rfl,h1,h2,h3,h4,h5⟩,rfl⟩)
 ·rcases h5 with⟨h5,-,h6,h7⟩|⟨h5,h6⟩
  ·refine⟨(b0.trans h1).setCell (show w.heap.size<=w.heap.size+7 by omega) _,.inl ⟨h5,rfl,?_,?_,?_⟩⟩
   ·exact(Qc (a:=(Aq (w.heap.size+6) 0)) ((f _ _ (w.heap.size+6) (by omega)).trans h4)).trans (cell_of_row _ _ 0 _ _ (0,0) k6')
   ·exact(Qc (a:=(Aq (w.heap.size+5) 0)) (f _ _ (w.heap.size+5) (by omega))).trans h7
   refine h6.kept (λb hb=>?_) (λb hb=>f _ _ _ hb.1.2);rw[Zy];exact⟨hb.1.1,hb.2⟩
  cases h6
 rcases h5 with⟨h5,h6,-⟩|⟨h5,-⟩
 ·cases h6
 have hq:∀v,(((w1.alloc o).alloc (.cells #[Iq ((Fl.ak l).1:Int),Iq ((Fl.ak l).2.1:Int)] 77)).setCell (Aq (w.heap.size+7) 0) v).heap[w1.heap.size+1]?=some (.cells #[Iq ((Fl.ak l).1:Int),Iq ((Fl.ak l).2.1:Int)] 77):=λv=>by
  rw[f _ _ _ (by omega)];have:=heap_alloc_last (w1.alloc o) (.cells #[Iq ((Fl.ak l).1:Int),Iq ((Fl.ak l).2.1:Int)] 77);simpa using this
 refine⟨(((b0.trans h1).alloc (by omega) _).alloc (by simp;omega) _).setCell (show w.heap.size<=w.heap.size+7 by omega) _,.inr ⟨h5,_,rfl,?_,?_⟩⟩
 ·exact cell_of_row _ _ 0 _ _ (0,0) (hq _)
 exact cell_of_row _ _ 1 _ _ (0,0) (hq _)
def zc4(hl:l.length<=100000)(hg:1<w.heap.size)(hm:Xs w):
  Cq 20 #[.string ⟨l.toArray⟩] w (zs8 (Fl.ak l) w):=by
 have c0:∀(fn:Fn) (first cap:Array Value) (w:World),(Instr.makeFunc fn first cap).run prog w=.ok (.func fn first cap) w:=λ_ _ _ _=>rfl;have d0:= @run_makeMap prog;have HC:Hid (Cq 30 #[.func (.func 31) #[] #[.pointer (some (Aq (w.heap.size+6) 0)),Pq w.heap.size]] (rdW w l) (yl1 (Fl.ak l) w)):=yqv hl hg hm;obtain⟨aV,b0⟩:=nmE (Fl.ak l);rw[<-b0]at HC⊢;clear hl hg hm b0
 go_enter func20,ntmps20
 go_wp2_with (refine Uu rfl 100 _ rfl (zax w.heap.size) (by kernel_rfl) ?_)
 refine Calls.mono HC ?_;clear HC;rintro e wz ⟨hB,⟨h0,rfl,c6,c5,hp⟩|⟨h0,a,rfl,a0,a1⟩⟩
 ·have d6:wz.cell? (Aq (w.heap.size+1+1+1+1+1+1) 0)=some (.pointer (some (Aq (w.heap.size+1+1+1+1+1) 0))):=c6
  have d5:wz.cell? (Aq (w.heap.size+1+1+1+1+1) 0)=some (.pointer (some (Aq (w.heap.size+1) 0))):=c5;have HE:Hid (zs8 aV w (.returned (.tuple #[.pointer (some (Aq (w.heap.size+1) 0)),.nilIface])) wz):=⟨hB,.inl ⟨h0,_,rfl,hp⟩⟩;clear hB h0 c6 c5 hp;go_wp2;exact bodyPost_ret (v:=.tuple #[.pointer (some (Aq (w.heap.size+1) 0)),.nilIface]) (by simp[results,results20,go_sem]) rfl HE.out
 have HE:Hid (zs8 aV w (.returned (.tuple #[.pointer none,.iface 73 (Pq a)])) wz):=⟨hB,.inr ⟨h0,_,rfl,a0,a1⟩⟩;clear hB h0 a0 a1;go_wp2;exact bodyPost_ret (v:=.tuple #[.pointer none,.iface 73 (Pq a)]) (by simp[results,results20,go_sem]) rfl HE.out
end Go.Proofs.YtfhpibppblbgcaaGreatDoor
