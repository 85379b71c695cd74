import Derived.Test.YtjmcibbdedlcoaaGreatDoorM05
import Derived.Laws.CopyOwn
import Derived.DeepKeys4
set_option linter.all false
set_option maxRecDepth 100000
set_option maxHeartbeats 40000000
namespace Go.Proofs.YtjmcibbdedlcoaaGreatDoor
open Go.RowKit Go.Proofs.Tryz List World Region Value Act Fl
variable{w w' w1 wr W w0:World}{nb no N b i j p k x q m f q' B T Xb Fb:Nat}{a:Act}{c:Bool}{v wv lvn:Value}{s:K}{xs:Is}{y:Fl.ar}{o:Oper}{e:Int}{cs:List Value}{ws acc:List Fl.ar}{lvs:Vs}{P:Program}{ops:Array Oper}{Q:Exit->Act->World->Prop}{S:World->Prop}
structure Vj(w:World)(nb no:Nat)(nd:Fl.ar)(lv:Value):Prop where
 c0:w.cell? (Y nb no)=some (I nd.kind)
 c1:w.cell? (Y nb (no+1))=some (I nd.ag)
 c2:w.cell? (Y nb (no+2))=some (I nd.a)
 c3:w.cell? (Y nb (no+3))=some (I nd.b)
 c4:w.cell? (Y nb (no+4))=some (I nd.c)
 c5:w.cell? (Y nb (no+5))=some lv
 hl:Zw w.heap.size w lv nd.aU
def Vj.below{w w':World}{nb no:Nat}{nd:Fl.ar}{lv:Value}(h:Vj w nb no nd lv)(hb:E w w'):Vj w' nb no nd lv:=by
 have hn:nb<w.heap.size:=Qe w _ h.c0;have q:∀o,w'.cell? (Y nb o)=w.cell? (Y nb o):=λo=>hb.cell (p:=(Y nb o)) hn;exact⟨(q _).trans h.c0,(q _).trans h.c1,(q _).trans h.c2,(q _).trans h.c3,(q _).trans h.c4,(q _).trans h.c5,(h.hl.below hb).mono hb.size⟩
def byF(k:Int):FuncId:=
 if k=2 then 74 else if k=3 then 73 else if k=4 then 73 else if k=5 then 75 else if k=6 then 76 else if k=7 then 77 else 72
def Va(ps:Is)(w:World)(e:Ending)(w':World):Prop:=∃pv,e=.returned pv/\Zw w'.heap.size w' pv ps/\E w w'
def by1(v:Value)(w:World):F 72 #[v] w (Va [] w):=by
 go_enter func72,ntmps72
 go_wp2;go_ret;exact⟨_,rfl,Zw.nil _ _,Below.refl _ _⟩
def Va.fresh(w:World)(xs:Is)(e:TypeId)(hl:xs.length<=maxLen):Va xs w (.returned (Sq w.heap.size 0 xs.length xs.length)) (w.alloc (.cells (xs.map (int .i64)).toArray e)):=
 ⟨_,rfl,Zw.fresh xs e hl _ (by simp),bA⟩
def Va.kG(w:World)(xs:Is)(e:TypeId)(hl:xs.length<=maxLen):Va xs w (.returned (Sq w.heap.size 0 xs.length xs.length)) (w.alloc (.cells (xs.map (int .i64)).toArray e)).drew:=by
 obtain⟨pv,h1,h2,h3⟩:=Va.fresh w xs e hl;exact⟨pv,h1,h2.below (dA),h3.drew⟩
def by2{nd:Fl.ar}{lv:Value}(h:Vj w nb no nd lv):F 73 #[Pp nb no] w (Va [nd.b] w):=by
 have c3:=h.c3
 go_enter func73,ntmps73
 go_wp2;go_ret;exact Va.fresh _ [nd.b] _ (by simp[maxLen])
def by3{nd:Fl.ar}{lv:Value}(h:Vj w nb no nd lv):F 74 #[Pp nb no] w (Va [nd.b,nd.c] w):=by
 have c3:=h.c3;have c4:=h.c4
 go_enter func74,ntmps74
 go_wp2_with fail
 go_still_tail 8,(by kernel_rfl)
 go_wp2;go_ret;exact Va.kG _ [nd.b,nd.c] _ (by simp[maxLen])
def by4{nd:Fl.ar}{lv:Value}(h:Vj w nb no nd lv):F 75 #[Pp nb no] w (Va [nd.a,nd.b,nd.c] w):=by
 have c2:=h.c2;have c3:=h.c3;have c4:=h.c4
 go_enter func75,ntmps75
 go_wp2_with fail
 go_still_tail 12,(by kernel_rfl)
 go_wp2;go_ret;exact Va.kG _ [nd.a,nd.b,nd.c] _ (by simp[maxLen])
def by5{nd:Fl.ar}{lv:Value}(h:Vj w nb no nd lv):F 76 #[Pp nb no] w (Va [nd.a,nd.b] w):=by
 have c2:=h.c2;have c3:=h.c3
 go_enter func76,ntmps76
 go_wp2_with fail
 go_still_tail 8,(by kernel_rfl)
 go_wp2;go_ret;exact Va.kG _ [nd.a,nd.b] _ (by simp[maxLen])
def by6{nd:Fl.ar}{lv:Value}(h:Vj w nb no nd lv):F 77 #[Pp nb no] w (Va nd.aU w):=by
 have c5:=h.c5;have HL:=A h.hl;obtain⟨ao,cap,rfl,_⟩:=h.hl;clear h
 go_enter func77,ntmps77
 go_wp2;go_ret;exact⟨_,rfl,HL,Below.refl _ _⟩
def zfz{nd:Fl.ar}{lv:Value}(h:Vj w nb no nd lv):F (byF nd.kind) #[Pp nb no] w (Va (prem nd) w):=by
 unfold byF prem
 by_cases h2:nd.kind=2
 ·rw[G h2,G h2];exact by3 h
 rw[Z h2,Z h2]
 by_cases h3:nd.kind=3
 ·rw[G h3,G (Or.inl h3)];exact by2 h
 rw[Z h3]
 by_cases h4:nd.kind=4
 ·rw[G h4,G (Or.inr h4)];exact by2 h
 rw[Z h4,Z (show ¬(nd.kind=3\/nd.kind=4) from λh=>h.elim h3 h4)]
 by_cases h5:nd.kind=5
 ·rw[G h5,G h5];exact by4 h
 rw[Z h5,Z h5]
 by_cases h6:nd.kind=6
 ·rw[G h6,G h6];exact by5 h
 rw[Z h6,Z h6]
 by_cases h7:nd.kind=7
 ·rw[G h7,G h7];exact by6 h
 rw[Z h7,Z h7];exact by1 _ _
def zn6(k:Int)(v:Value)(w:World):(callFunc (byF k) #[v]).run prog w=.ok (.enter (byF k) #[v]) w:=by
 unfold byF
 repeat' split
 all_goals kernel_rfl
def zrw(rb ro f k:Nat)(np:Value)(ps:Is)(w:World)(hf:w.cell? (Y rb (ro+3))=some (.func (.func f) #[] #[]))(n0:(callFunc f #[np]).run prog w=.ok (.enter f #[np]) w)(hc:F f #[np] w (Va ps w)):
  F 105 #[Pp rb ro,np,I k] w (Rw (.bool (!ps.any (λx=>decide ((k:Int)<=x)))) w):=by
 have HC:=A hc;clear hc
 go_enter func105,ntmps105
 go_wp2_with fail
 refine(HC.out).mono ?_;rintro e w1 ⟨pv,rfl,hp,d0⟩;obtain⟨pao,pcap,rfl,_,j0,e0⟩:=hp;unfold maxLen at j0;have k0:=A e0;have f0:=A d0;clear e0 d0
 go_wp2_with fail
 go_loop [16] (λi=>∃j:Nat,j<=ps.length/\i=I j/\∀t,t<j->¬(k:Int)<=ps.getD t 0) (λi=>ps.length - (intOf i).toNat)
 case atStart=>exact⟨0,by omega,rfl,λt ht=>by omega⟩
 case round=>
  obtain⟨j,hj,rfl,g0⟩:=hrel;have h0:=A g0;clear g0
  by_cases b0:j<ps.length
  ·obtain⟨pb,po,rfl,o0,a0⟩:=k0 (by intro h;rw[h]at b0;simp at b0)
   have l0:=a0 j b0;obtain⟨x,hx⟩:=U (ps.getD j 0);rw[<-hx]at l0;have i0:=A hx;have p0:(j:Int)<(ps.length:Int):=(by omega);clear a0 hx
   by_cases m0:(k:Int)<=x
   ·have c0:O ((!ps.any (λx=>decide ((k:Int)<=x)))=false):=by
     show (!ps.any (λx=>decide ((k:Int)<=x)))=false;rw[Bool.not_eq_false',any_eq_true];exact⟨x,by rw[i0.out];exact oG b0,by simpa using m0⟩
    go_wp2;go_ret;exact⟨Zd c0.symm,f0⟩
   go_wp2
   go_round
   case rel=>exact⟨j+1,by omega,by go_num,λt ht=>by
    by_cases h:t<j
    ·exact h0 t h
    have:t=j:=by omega
    subst this;rw[<-i0.out];omega⟩
   case measure=>simp[intOf];omega
  have c0:O ((!ps.any (λx=>decide ((k:Int)<=x)))=true):=by
   show (!ps.any (λx=>decide ((k:Int)<=x)))=true;rw[Bool.not_eq_true',any_eq_false];intro x hx;obtain⟨i,hi,rfl⟩:=getElem_of_mem hx;have:=h0 i (by omega);rw[Qa,Qb hi]at this;simpa using this
  go_wp2;go_ret;exact⟨Zd c0.symm,f0⟩
structure Nd(w:World)(N:Nat)(kd lev a b c:Int)(l:Value):Prop where
 c0:w.cell? (Y N 0)=some (I kd)
 c1:w.cell? (Y N 1)=some (I lev)
 c2:w.cell? (Y N 2)=some (I a)
 c3:w.cell? (Y N 3)=some (I b)
 c4:w.cell? (Y N 4)=some (I c)
 c5:w.cell? (Y N 5)=some l
 f:∀j,w.frozen? (Y N j)=false
section
variable{kd lev a b c:Int}{l:Value}
def Nd.lt(h:Nd w N kd lev a b c l):N<w.heap.size:=Qe w _ h.c0
def Nd.new(w:World)(kd lev a b c:Int)(l:Value)(e:TypeId):Nd (w.alloc (.cells #[I kd,I lev,I a,I b,I c,l] e)) w.heap.size kd lev a b c l:=by
 refine⟨?_,?_,?_,?_,?_,?_,λj=>by simp⟩<;>(rw[cell?_alloc_new];rfl)
def Nd.grown(h:Nd w N kd lev a b c l){row:Option Nat}(g:w.grownBy w' row)(a0:some N≠row):Nd w' N kd lev a b c l:=
 ⟨g.cell h.c0 a0,g.cell h.c1 a0,g.cell h.c2 a0,g.cell h.c3 a0,g.cell h.c4 a0,g.cell h.c5 a0,λj=>(Qd (w:=w) (a:=(Y N j)) (g.block N h.lt a0)).trans (h.f j)⟩
def Nd.drewN(h:Nd w N kd lev a b c l)(n:Nat):Nd (w.drewN n) N kd lev a b c l:=⟨h.c0,h.c1,h.c2,h.c3,h.c4,h.c5,h.f⟩
def Nd.drew(h:Nd w N kd lev a b c l):Nd w.drew N kd lev a b c l:=⟨h.c0,h.c1,h.c2,h.c3,h.c4,h.c5,h.f⟩
def Yi(a0:i≠j):(w.setCell (Y N i) v).cell? (Y N j)=w.cell? (Y N j):=by
 apply Qg;intro hh;injection hh with _ h2;exact a0 h2
def Ju{u:Value}(h:w.cell? (Y N i)=some u):(w.setCell (Y N i) v).cell? (Y N i)=some v:=cell?_setCell_same' _ _ _ (by simp[h])
def Nd.pR(h:Nd w N kd lev a b c l)(x:Int):Nd (w.setCell (Y N 1) (I x)) N kd x a b c l:=
 ⟨(Yi (by decide)).trans h.c0,Ju h.c1,(Yi (by decide)).trans h.c2,(Yi (by decide)).trans h.c3,(Yi (by decide)).trans h.c4,(Yi (by decide)).trans h.c5,λj=>(frozen?_setCell _ _ _ _).trans (h.f j)⟩
def Nd.pQ(h:Nd w N kd lev a b c l)(x:Int):Nd (w.setCell (Y N 2) (I x)) N kd lev x b c l:=
 ⟨(Yi (by decide)).trans h.c0,(Yi (by decide)).trans h.c1,Ju h.c2,(Yi (by decide)).trans h.c3,(Yi (by decide)).trans h.c4,(Yi (by decide)).trans h.c5,λj=>(frozen?_setCell _ _ _ _).trans (h.f j)⟩
def Nd.pP(h:Nd w N kd lev a b c l)(x:Int):Nd (w.setCell (Y N 3) (I x)) N kd lev a x c l:=
 ⟨(Yi (by decide)).trans h.c0,(Yi (by decide)).trans h.c1,(Yi (by decide)).trans h.c2,Ju h.c3,(Yi (by decide)).trans h.c4,(Yi (by decide)).trans h.c5,λj=>(frozen?_setCell _ _ _ _).trans (h.f j)⟩
def Nd.lF(h:Nd w N kd lev a b c l)(x:Int):Nd (w.setCell (Y N 4) (I x)) N kd lev a b x l:=
 ⟨(Yi (by decide)).trans h.c0,(Yi (by decide)).trans h.c1,(Yi (by decide)).trans h.c2,(Yi (by decide)).trans h.c3,Ju h.c4,(Yi (by decide)).trans h.c5,λj=>(frozen?_setCell _ _ _ _).trans (h.f j)⟩
def Nd.oJ(h:Nd w N kd lev a b c l)(x:Value):Nd (w.setCell (Y N 5) x) N kd lev a b c x:=
 ⟨(Yi (by decide)).trans h.c0,(Yi (by decide)).trans h.c1,(Yi (by decide)).trans h.c2,(Yi (by decide)).trans h.c3,(Yi (by decide)).trans h.c4,Ju h.c5,λj=>(frozen?_setCell _ _ _ _).trans (h.f j)⟩
def Nd.gO(h:Nd w N kd lev a b c l){ls:Is}(hl:Zw w.heap.size w l ls):Vj w N 0 ⟨kd,lev,a,b,c,ls⟩ l:=⟨h.c0,h.c1,h.c2,h.c3,h.c4,h.c5,hl⟩
end
def Xr(w:World)(N i:Nat)(v:Value):w.grownBy (w.setCell (Y N i) v) (some N):=
 ⟨rfl,rfl,rfl,by simp[setCell],λk hk a0=>Below.heap_setCell _ _ _ _ (by intro h;exact a0 (by rw[h]))⟩
def Mv.fZ(h:Mv w w1 b)(hb:b<w.heap.size)(hN:w.heap.size<=N)(i:Nat)(v:Value):Mv w (w1.setCell (Y N i) v) b:=
 h.dH (Xr w1 N i v) hb (λk e=>by injection e with e;omega)
def Xx(k:Nat):Nat:=if k=0 then 1 else if k=1 then 1 else if k=2 then 3 else if k=3 then 2 else if k=4 then 2 else if k=5 then 3 else if k=6 then 2 else 0
def yp2(k:Nat):Xx k<=3:=by unfold Xx;(repeat' split)<;>omega
def zi6(k:Nat)(h:k<8)(h7:k≠7):aJ (k:Int)=(Xx k:Int):=by
 have:k=0\/k=1\/k=2\/k=3\/k=4\/k=5\/k=6:=by omega
 rcases this with rfl|rfl|rfl|rfl|rfl|rfl|rfl<;>rfl
def zs1(s:K)(p:Nat)(h:p<=s.length)(hq:¬(num s p).2.1<0):∃v q:Nat,num s p=((v:Int),(q:Int),0)/\p<q/\q<=s.length/\v<2147483648:=by
 have h1:=ei s p h;generalize num s p=r at*;obtain⟨a,b,c⟩:=r;simp only at h1 hq;rcases h1 with h1|h1
 ·omega
 obtain⟨h2,h3,h4,h5,rfl⟩:=h1;exact⟨a.toNat,b.toNat,by rw[Int.toNat_of_nonneg h4,Int.toNat_of_nonneg (by omega)],by omega,by omega,by omega⟩
def zn7(s:K)(p:Nat)(lo hi:Int)(h:p<=s.length)(hq:¬(ed s p lo hi).2.1<0):∃v q:Nat,ed s p lo hi=((v:Int),(q:Int),0)/\num s p=((v:Int),(q:Int),0)/\p<q/\q<=s.length/\lo<=(v:Int)/\(v:Int)<=hi:=by
 unfold ed at*
 by_cases h1:(num s p).2.1<0
 ·rw[G h1]at hq;exact absurd (show (-1:Int)<0 by decide) hq
 rw[Z h1]at hq⊢
 by_cases h2:(num s p).1<lo\/hi<(num s p).1
 ·rw[G h2]at hq;exact absurd (show (-1:Int)<0 by decide) hq
 rw[Z h2];obtain⟨v,q,h3,h4,h5,h6⟩:=zs1 s p h h1;rw[h3]at h2⊢;simp only at h2⊢;exact⟨v,q,rfl,rfl,h4,h5,by omega,by omega⟩
section
variable{v:Nat}
def yy7(a0:p<s.length)(hx:x=(s.getD p 0).toNat)(b0:x<8)(hn:(num s (p+1)).2.1<0):one s p k=(jA,-1,(num s (p+1)).2.2):=by
 unfold one;rw[Z (by omega)];simp only[<-hx];rw[Z (by unfold aJ;repeat' split<;>omega),G hn]
def zbv(b0:p<s.length)(hx:x=(s.getD p 0).toNat)(a0:x<8)(h7:x≠7)(hn:num s (p+1)=((v:Int),(q:Int),0)):
  one s p k=if(cW s q (Xx x)).2.1<0 then(jA,-1,(cW s q (Xx x)).2.2) else cZ p k ⟨x,v,(cW s q (Xx x)).1.getD 0 0,(cW s q (Xx x)).1.getD 1 0,(cW s q (Xx x)).1.getD 2 0,[]⟩ (cW s q (Xx x)).2.1:=by
 unfold one;rw[Z (by omega)];simp only[<-hx,hn];rw[zi6 x a0 h7,Z (by omega),Z (by omega),Z (by omega)];simp only[Qm]
def yw8(a0:p<s.length)(hx:7=(s.getD p 0).toNat)(hn:num s (p+1)=((v:Int),(q:Int),0))(hm:(ed s q 0 16).2.1<0)(hq:q<=s.length):
  one s p k=(jA,-1,(ed s q 0 16).2.2):=by
 have b0:=ei s q hq;unfold one;rw[Z (by omega)];simp only[<-hx,hn];rw[Z (by decide),Z (by omega),G (by decide)];simp only[Qm];unfold ed at*
 by_cases h1:(num s q).2.1<0
 ·rw[G h1,G h1]
 rw[Z h1]at hm;rw[Z h1,Z h1]
 by_cases h2:(num s q).1<0\/16<(num s q).1
 ·rw[G h2,G (by omega)]
 rw[Z h2]at hm;exact absurd hm h1
def yj6(b0:p<s.length)(hx:7=(s.getD p 0).toNat)(hn:num s (p+1)=((v:Int),(q:Int),0)){q2:Nat}(hm:num s q=((m:Int),(q2:Int),0))(a0:m<=16):
  one s p k=if(cW s q2 m).2.1<0 then(jA,-1,(cW s q2 m).2.2) else cZ p k ⟨7,v,0,0,0,(cW s q2 m).1⟩ (cW s q2 m).2.1:=by
 unfold one;rw[Z (by omega)];simp only[<-hx,hn];rw[Z (by decide),Z (by omega),G (by decide)];simp only[Qm,hm];rw[Z (by omega),Z (by omega)];rfl
end
def Yf(w:World)(b ro:Nat):Prop:=∀k:Nat,k<8->w.cell? (Y b (ro+k*4+1))=some (I (Xx k:Nat))/\w.cell? (Y b (ro+k*4+2))=some (.bool (k==7))/\w.cell? (Y b (ro+k*4+3))=some (.func (.func (byF k)) #[] #[])
def Yf.move{ro:Nat}(h:Yf w b ro)(m:Mv w w' b)(a0:1<=ro):Yf w' b ro:=λk hk=>by
 obtain⟨h1,h2,h3⟩:=h k hk;exact⟨(m.o _ (by omega)).trans h1,(m.o _ (by omega)).trans h2,(m.o _ (by omega)).trans h3⟩
structure zz5(s:K)(q f:Nat)(w wr:World)(b N PB x v j q':Nat)(xs:Is):Prop where
 hn:zqy s q f j q' xs
 hm:Mv w wr b
 hc:wr.cell? (Y b 1)=some (I (q':Int))
 nd:Nd wr N x v (xs.getD 0 0) (xs.getD 1 0) (xs.getD 2 0) Zq
 rs:Nd wr w.heap.size 0 0 0 0 0 Zq
 p0:wr.cell? (Y PB 0)=some (Pp N 2)
 p1:wr.cell? (Y PB 1)=some (Pp N 3)
 p2:wr.cell? (Y PB 2)=some (Pp N 4)
 hN:w.heap.size<N
 hP:N<PB
def zz5.ptr{PB v:Nat}(h:zz5 s q f w wr b N PB x v j q' xs)(hj:j<3):wr.cell? (Y PB j)=some (Pp N (2+j)):=by
 have:j=0\/j=1\/j=2:=by omega
 rcases this with rfl|rfl|rfl
 ·exact h.p0
 ·exact h.p1
 exact h.p2
def zz5.cell{s:K}{q f:Nat}{w wr:World}{b N PB x v j q':Nat}{xs:Is}(h:zz5 s q f w wr b N PB x v j q' xs)(hj:j<3):wr.cell? (Y N (2+j))=some (I (xs.getD j 0)):=by
 have:j=0\/j=1\/j=2:=by omega
 rcases this with rfl|rfl|rfl
 ·exact h.nd.c2
 ·exact h.nd.c3
 exact h.nd.c4
def zz5.next{PB v:Nat}(h:zz5 s q f w wr b N PB x v j q' xs)(hb:b<w.heap.size)(d0:j<f)(hj:j<3){y:Nat}(hn:num s q'=((y:Int),(m:Int),0))(m1:Mv wr w1 b)(c1:w1.cell? (Y b 1)=some (I (m:Int))):
  zz5 s q f w (w1.setCell (Y N (2+j)) (I y)) b N PB x v (j+1) m (xs++[(y:Int)]):=by
 have hN:=h.hN;have hP:=h.hP;have g1:=m1.g;have g2:=Xr w1 N (2+j) (I y)
 have hnb:some N≠some b:=by simp;omega
 have a0:some PB≠some b:=by simp;omega
 have e0:some w.heap.size≠some b:=by simp;omega
 have b0:some PB≠some N:=by simp;omega
 have f0:some w.heap.size≠some N:=by simp;omega
 refine⟨by have:=h.hn.step d0 hn (by omega);simpa using this,(h.hm.trans m1).fZ hb (by omega) _ _,g2.cell c1 (by simp;omega),?_,(h.rs.grown g1 e0).grown g2 f0,g2.cell (g1.cell h.p0 a0) b0,g2.cell (g1.cell h.p1 a0) b0,g2.cell (g1.cell h.p2 a0) b0,hN,hP⟩;have c0:=h.nd.grown g1 hnb;have bt:=h.hn.2.2.1
 have:j=0\/j=1\/j=2:=by omega
 rcases this with rfl|rfl|rfl
 ·match xs,bt with
  |[],_=>exact c0.pQ _
 ·match xs,bt with
  |[a],_=>exact c0.pP _
 match xs,bt with
 |[a,b'],_=>exact c0.lF _
def zv8{a:Addr}{o:Value}(h:W.cell? a=some o):(W.setCell a v).cell? a=some v:=cell?_setCell_same' W a v (by simp[h])
def ye4(h:i≠j):(W.setCell (Y B j) v).cell? (Y B i)=W.cell? (Y B i):=by
 apply Qg;intro hh;apply h;injection hh with _ h2;exact h2.symm
def yw9(v0 v1 v2 v3 v4 v5:Value){o0 o1 o2 o3 o4 o5:Value}(h0:w1.cell? (Y B 0)=some o0)(h1:w1.cell? (Y B 1)=some o1)(h2:w1.cell? (Y B 2)=some o2)(h3:w1.cell? (Y B 3)=some o3)(h4:w1.cell? (Y B 4)=some o4)(h5:w1.cell? (Y B 5)=some o5):
  (w1.setCell (Y B 0) v0).cell? (Y B 0)=some v0/\((w1.setCell (Y B 0) v0).setCell (Y B 1) v1).cell? (Y B 1)=some v1/\(((w1.setCell (Y B 0) v0).setCell (Y B 1) v1).setCell (Y B 2) v2).cell? (Y B 2)=some v2/\((((w1.setCell (Y B 0) v0).setCell (Y B 1) v1).setCell (Y B 2) v2).setCell (Y B 3) v3).cell? (Y B 3)=some v3/\(((((w1.setCell (Y B 0) v0).setCell (Y B 1) v1).setCell (Y B 2) v2).setCell (Y B 3) v3).setCell (Y B 4) v4).cell? (Y B 4)=some v4/\((((((w1.setCell (Y B 0) v0).setCell (Y B 1) v1).setCell (Y B 2) v2).setCell (Y B 3) v3).setCell (Y B 4) v4).setCell (Y B 5) v5).cell? (Y B 5)=some v5:=by
 refine⟨zv8 h0,zv8 (o:=o1) ?_,zv8 (o:=o2) ?_,zv8 (o:=o3) ?_,zv8 (o:=o4) ?_,zv8 (o:=o5) ?_⟩<;>repeat (rw[ye4 (by decide)])
 all_goals assumption
def zn8(r:Fl.ar×Int×Int)(b:Nat)(w:World)(e:Ending)(w':World):Prop:=
 Mv w w' b/\(r.2.1<0->e=.panicked (Zf 8 r.2.2))/\(¬r.2.1<0->∃lv,e=.returned (nodeV r.1 lv)/\Zw w'.heap.size w' lv r.1.aU/\(∀bb,lv.ownBlock=some bb->w.heap.size<=bb)/\w'.cell? (Y b 1)=some (I r.2.1))
def Uo{r:Fl.ar×Int×Int}{pl:Int}(hr:r=(jA,-1,pl))(m:Mv w w' b):zn8 r b w (.panicked (Zf 8 pl)) w':=by
 subst hr;exact⟨m,λ_=>rfl,λh=>absurd (show (-1:Int)<0 by decide) h⟩
def zk1{r:Fl.ar×Int×Int}{nd:Fl.ar}{lv v0 v1 v2 v3 v4 v5:Value}(hr:r=(nd,(q:Int),0))(m:Mv w w1 b)(hb:b<w.heap.size)(hB:w.heap.size=B)(c:w1.cell? (Y b 1)=some (I (q:Int)))
  (hl:Zw w1.heap.size w1 lv nd.aU) (b0:∀bb,lv.ownBlock=some bb->B<bb):
  zn8 r b w (.returned (nodeV nd lv)) ((((((w1.setCell (Y B 0) v0).setCell (Y B 1) v1).setCell (Y B 2) v2).setCell (Y B 3) v3).setCell (Y B 4) v4).setCell (Y B 5) v5):=by
 subst hr hB
 have a0:nd.aU≠[]->lv.ownBlock≠some w.heap.size:=λ_ h=>by have:=b0 _ h;omega
 have hs:∀{W:World} {i:Nat} {u:Value},D W b 1 (I (q:Int))->D (W.setCell (Y w.heap.size i) u) b 1 (I (q:Int)):=λ{W i u} h=>(Xr W w.heap.size i u).cell h (by simp;omega);refine⟨(((((m.fZ hb lE _ _).fZ hb lE _ _).fZ hb lE _ _).fZ hb lE _ _).fZ hb lE _ _).fZ hb lE _ _,λh=>by simp only at h;omega,λ_=>⟨lv,rfl,?_,λbb h=>by have:=b0 bb h;omega,hs (hs (hs (hs (hs (hs c)))))⟩⟩;exact Jz (Jz (Jz (Jz (Jz (Jz hl a0) a0) a0) a0) a0) a0
def zfy{nd:Fl.ar}(h:(prem nd).any (λx=>decide ((k:Int)<=x))=true):cZ p k nd e=(jA,-1,(p:Int)):=by unfold cZ;rw[G h]
def zi7{nd:Fl.ar}(h:(prem nd).any (λx=>decide ((k:Int)<=x))=false):cZ p k nd e=(nd,e,0):=by unfold cZ;rw[Z (by rw[h];decide)]
def yj7{ao:Option Addr}{cap:Nat}(h:Dr w b ao cap s p)(hr:Yf w b 2)(k:Nat)(hk:k<=200):
  F 82 #[M b,I k] w λe w'=>zn8 (one s p k) b w e w':=by
 have hlb:=h.lt;have hp:=h.hp;have hs:=h.hs
 have E1:∀o,(w.alloc o).cell? (Y b 1)=some (I p):=λo=>by rw[cell?_alloc_past _ _ _ hlb];exact h.c1
 have HD:=A h;have HR:=A hr
 go_enter func82,ntmps82
 go_wp2_with fail
 obtain⟨W0,C0⟩:=U (w.alloc (.cells #[I 0,I 0,I 0,I 0,I 0,Zq] 188));rw[<-C0]
 have l1:Mv w W0 b:=by rw[C0];exact(Mv.refl w b).alloc hlb _
 have F1:W0.cell? (Y b 1)=some (I p):=by rw[C0];exact E1 _
 have m1:=A l1;have X0:O (Dr W0 b ao cap s p):=HD.move l1 F1 hp
 have G1:O (Nd W0 w.heap.size 0 0 0 0 0 Zq):=by rw[C0];exact Nd.new _ _ _ _ _ _ _ _
 have H1:W0.heap.size=w.heap.size+1:=by rw[C0];simp
 have I1:=A H1
 by_cases x0:p<s.length
 ·refine(zdy X0 x0).mono ?_
  rintro e w1 ⟨rfl,y0,J1⟩;obtain⟨x,hx⟩:=U ((s.getD p 0).toNat);rw[<-hx];have K1:x<256:=(by rw[hx];exact(s.getD p 0).toNat_lt);have HX:=A hx;have n1:O (Mv w w1 b):=m1.trans y0;have A2:w.heap.size+1<=w1.heap.size:=(by have:=y0.g.size;have:=I1.out;omega);have L1:O (Nd w1 w.heap.size 0 0 0 0 0 Zq):=G1.grown y0.g (by simp;omega);have J0:O (Dr w1 b ao cap s (p+1)):=X0.move y0 J1 (by omega);clear hx y0 J1 F1
  by_cases z0:x<8
  ·have i2:decide ((x:Int)<8)=true:=decide_eq_true (by omega)
   have o1:decide (x<8)=true:=decide_eq_true z0
   go_wp2_with fail
   obtain⟨W1,D0⟩:=U (w1.alloc (.cells #[I x,I 0,I 0,I 0,I 0,Zq] 188));rw[<-D0];obtain⟨N,hN⟩:=U (w1.heap.size);have p1:Nd W1 N x 0 0 0 0 Zq:=(by rw[D0,hN];exact Nd.new _ _ _ _ _ _ _ _);have j2:w.heap.size<N:=(by omega);have M1:O (Nd W1 w.heap.size 0 0 0 0 0 Zq):=(by rw[D0];exact L1.grown (grownBy_alloc _ _ none) (by simp));rw[<-hN];have N1:O (Mv w W1 b):=(by rw[D0];exact n1.alloc hlb _);have r1:O (Dr W1 b ao cap s (p+1)):=(by rw[D0];exact J0.move ((Mv.refl w1 b).alloc J0.lt _) (by rw[cell?_alloc_past _ _ _ J0.lt];exact J0.c1) (by omega));have O1:=A p1;have n0:=p1.c0;clear D0 hN p1 J0;refine(zxw _ _ _).mono ?_;rintro e w' ⟨rfl,rfl⟩
   go_wp2_with fail
   go_quiet (fail)
   go_wp2_with fail
   obtain⟨W2,E0⟩:=U (w'.drewN nq);rw[<-E0];have s1:O (Mv w W2 b):=(by rw[E0];exact N1.drewN _);have P1:O (Dr W2 b ao cap s (p+1)):=(by rw[E0];exact r1.move ((Mv.refl w' b).drewN _) r1.c1 (by omega));have Q1:O (Nd W2 N x 0 0 0 0 Zq):=(by rw[E0];exact O1.drewN _);have R1:O (Nd W2 w.heap.size 0 0 0 0 0 Zq):=(by rw[E0];exact M1.drewN _);clear n0 E0 N1 r1 O1 M1 L1 n1 G1 m1 X0 I1;refine(zr0 P1).mono ?_;rintro e w2 ⟨K0,f0,aQ⟩
   by_cases hv:(num s (p+1)).2.1<0
   ·obtain rfl:=f0 hv
    exact⟨rfl,Uo (yy7 x0 HX z0 hv) (s1.trans K0)⟩
   obtain⟨rfl,Y0⟩:=aQ hv;obtain⟨v,q,g0,B2,t1,k2⟩:=zs1 s (p+1) (by omega) hv;rw[g0]at Y0⊢;simp only at Y0⊢;have l0:=A g0;have L0:O (Mv w w2 b):=s1.trans K0;have p0:b≠N:=(by omega);have Z0:=Q1.grown K0.g (by simpa using λh=>p0 h.symm);have a1:O (Nd w2 w.heap.size 0 0 0 0 0 Zq):=R1.grown K0.g (by simp;omega);have k1:=Z0.c1;have kf:=Z0.f;have M0:=A Z0;have b1:=A Y0;clear hv f0 aQ g0 Y0 Z0 K0
   go_wp2_with fail
   obtain⟨W3,N0⟩:=U (w2.setCell (Y N 1) (I (v:Int)));rw[<-N0];have g3:w2.grownBy W3 (some N):=(by rw[N0];exact Xr _ _ _ _);have A0:O (Mv w W3 b):=(by rw[N0];exact L0.fZ hlb (by omega) _ _);have F0:O (Nd W3 N x v 0 0 0 Zq):=(by rw[N0];exact M0.pR _);have O0:O (Nd W3 w.heap.size 0 0 0 0 0 Zq):=a1.grown g3 (by simp;omega);have S1:O (W3.cell? (Y b 1)=some (I (q:Int))):=g3.cell b1 (by simpa using p0);have l2:=F0.lt;clear N0 g3 L0 M0 a1 b1 k1 kf P1 Q1 R1 s1;have r0:=(HR.move A0 (by omega)) x z0;refine(zf9 b (2+x*4) N (Xx x) W3 (yp2 x) (A0.lt hlb) r0.1).mono ?_;rintro e w3 ⟨rfl,u1⟩;have HL:O (zz5 s q (Xx x) w w3 b N W3.heap.size x v 0 q []):=by
    have g4:W3.grownBy w3 none:=(by rw[u1];exact⟨rfl,rfl,rfl,by simp,λk hk _=>Below.heap_alloc _ _ _ hk⟩);refine⟨⟨by omega,t1,rfl,rfl⟩,A0.dH g4 hlb (λk e=>by cases e),g4.cell S1 (by simp),F0.grown g4 (by simp),O0.grown g4 (by simp),?_,?_,?_,j2,l2⟩
    all_goals (rw[u1];simp)
   obtain⟨PB,T1⟩:=U (W3.heap.size);rw[<-T1]at HL⊢;have m2:=yp2 x;obtain⟨f,hf⟩:=U (Xx x);rw[<-hf]at HL m2⊢;have HF:=A hf;clear T1 u1 A0 F0 O0 S1 r0 hf
   go_wp2_with fail
   go_loopw [36] (λi wr=>∃(j q':Nat) (xs:Is),i=I j/\zz5 s q f w wr b N PB x v j q' xs) (λi _=>f - (intOf i).toNat)
   case atStart=>exact⟨0,q,[],rfl,HL⟩
   case round=>
    clear HL;obtain⟨j,q',xs,rfl,hl⟩:=hrel;have HL:=A hl;have C2:=hl.hn.1;clear hl;have f1:O (Dr wr b ao cap s q'):=HD.move HL.hm HL.hc HL.hn.2.1
    by_cases P0:j<f
    ·have s0:x≠7:=λh=>by have:=HF.out;rw[h]at this;have h0:Xx 7=0:=rfl;omega
     have D2:=HL.ptr (show j<3 by omega)
     by_cases hv:(num s q').2.1<0
     ·go_wp2_with (go_at_call 81;refine(zr0 f1).mono ?_;rintro e w4 ⟨i0,f0,_⟩;obtain rfl:=f0 hv)
      refine⟨rfl,Uo ?_ (HL.hm.trans i0)⟩;rw[zbv x0 HX z0 s0 l0.out,<-HF.out];have:=HL.hn.eQ P0 (v:=(num s q').1) (m:=(num s q').2.1) (b:=(num s q').2.2) rfl hv;rw[this];rfl
     obtain⟨y,m,g0,_,_,_⟩:=zs1 s q' HL.hn.2.1 hv;have v1:=A g0;have n2:O (F 81 #[M b,I 0,I 2147483647] wr λe w'=>zv7 ((y:Int),(m:Int),0) b wr e w'):=(by rw[<-g0];exact zr0 f1);clear hv g0
     go_wp2_with (go_at_call 81;refine(n2.out).mono ?_;rintro e w4 ⟨i0,_,aQ⟩;obtain⟨rfl,G0⟩:=aQ (by simp only;omega);have kj:=i0.g.cell (HL.cell (show j<3 by omega)) (by simpa using λh=>p0 h.symm);have kf:∀o,w4.frozen? (Y N o)=false:=(HL.nd.grown i0.g (by simpa using λh=>p0 h.symm)).f)
     go_roundw
     case rel=>exact⟨j+1,m,xs++[(y:Int)],by go_num,HL.next hlb P0 (by omega) v1 i0 G0⟩
     case measure=>simp[intOf];omega
    have hjf':j=f:=(by omega);have t0:cW s q f=(xs,(q':Int),0):=by
     have:=HL.hn.2.2.2;rw[this,hjf',Nat.sub_self];rfl
    have U1:=A t0;have r0:=(HR.move HL.hm (by omega)) x z0;have g1:=r0.2.1;clear t0 hjf'
    by_cases s0:x=7
    ·have b7:(x==7)=true:=beq_iff_eq.2 s0
     rw[b7]at g1;have x1:=A s0;have h3:=r0.2.2;have i1:=A h3;have V1:f=0:=(by have:=HF.out;rw[s0]at this;exact this);have o2:q'=q/\xs=[]:=by
      have h1:=U1.out;rw[V1]at h1;have h2:cW s q 0=([],(q:Int),0):=rfl;rw[h2]at h1;simp only[Prod.mk.injEq]at h1;exact⟨by omega,h1.1.symm⟩
     obtain⟨rfl,rfl⟩:=o2;have X1:O (F 81 #[M b,I 0,I 16] wr λe w'=>zv7 (ed s q' 0 16) b wr e w'):=zt9 f1 0 16 (by omega) (by omega);have Q0:O (Nd wr N x v 0 0 0 Zq):=HL.nd;clear r0 h3 s0 V1
     go_wp2_with fail
     refine(X1.out).mono ?_;rintro e w4 ⟨i0,f0,aQ⟩
     by_cases R0:(ed s q' 0 16).2.1<0
     ·obtain rfl:=f0 R0
      exact⟨rfl,Uo (yw8 x0 (by rw[<-HX.out,x1.out]) l0 R0 t1) (HL.hm.trans i0)⟩
     obtain⟨rfl,G0⟩:=aQ R0;obtain⟨m,q2,hnb,Y1,E2,S0,_,p2⟩:=zn7 s q' 0 16 t1 R0;rw[hnb]at G0⊢;simp only at G0⊢;have v1:=A Y1;have L0:O (Mv w w4 b):=HL.hm.trans i0;have b1:O (Dr w4 b ao cap s q2):=f1.move i0 G0 S0;have M0:O (Nd w4 N x v 0 0 0 Zq):=Q0.grown i0.g (by simpa using λh=>p0 h.symm);have a1:O (Nd w4 w.heap.size 0 0 0 0 0 Zq):=HL.rs.grown i0.g (by simp;omega);have hm16':m<=16:=(by omega);have y1:O (w4.cell? (Y b (2+x*4+3))=some (.func (.func (byF x)) #[] #[])):=(i0.o _ (by omega)).trans i1.out;clear f0 aQ R0 hnb Y1 G0 i0 g1 i1 Q0 X1
     go_wp2_with fail
     refine(zk0 b1 m (by omega)).mono ?_;rintro e w5 ⟨H0,f0,aQ⟩;have a0:=yj6 (k:=k) x0 (by rw[<-HX.out,x1.out]) l0 v1 hm16'
     by_cases T0:(cW s q2 m).2.1<0
     ·obtain rfl:=f0 T0
      rw[G T0]at a0;exact⟨rfl,Uo a0 (L0.trans H0)⟩
     obtain⟨lv,rfl,j0,j1⟩:=aQ T0;rw[Z T0]at a0;have z1:=fM s q2 m S0;obtain⟨ls,q3,Z1⟩:∃(ls:Is) (q3:Nat),cW s q2 m=(ls,(q3:Int),(cW s q2 m).2.2):=⟨(cW s q2 m).1,(cW s q2 m).2.1.toNat,by rw[Int.toNat_of_nonneg (by omega)]⟩;rw[Z1]at a0 j0 j1;simp only at a0 j0 j1;obtain⟨lao,lcap,rfl⟩:=Uh j0;have k0:O (one s p k=cZ p k ⟨x,v,0,0,0,ls⟩ (q3:Int)):=(by show _=_;rw[a0,x1.out];rfl);have r2:=M0.lt
     have u0:∀bb,(J lao ls.length lcap).ownBlock=some bb->N<bb:=λbb h=>by have:=(j0.lt bb h).1;omega
     have m0:=M0.grown H0.g (by simpa using λh=>p0 h.symm);have k5:=m0.c5;have kf:=m0.f;have F0:=A m0;have O0:O (Nd w5 w.heap.size 0 0 0 0 0 Zq):=a1.grown H0.g (by simp;omega);have HM5':O (Mv w w5 b):=L0.trans H0;have a2:O (Zw w5.heap.size w5 (J lao ls.length lcap) ls):=Zw.dD j0;have HD5':O (w5.cell? (Y b 1)=some (I (q3:Int))):=j1;have U0:O (w5.cell? (Y b (2+x*4+3))=some (.func (.func (byF x)) #[] #[])):=(H0.o _ (by omega)).trans y1.out;have b2:=A u0;clear a0 z1 Z1 j0 j1 m0 H0 f0 aQ T0 u0
     go_wp2_with fail
     obtain⟨W6,I0⟩:=U (w5.setCell (Y N 5) (J lao ls.length lcap));rw[<-I0];have g6:w5.grownBy W6 (some N):=(by rw[I0];exact Xr _ _ _ _);have A1:O (Mv w W6 b):=(by rw[I0];exact HM5'.fZ hlb (by omega) _ _);have B1:O (Nd W6 N x v 0 0 0 (J lao ls.length lcap)):=(by rw[I0];exact F0.oJ _);have c2:O (Nd W6 w.heap.size 0 0 0 0 0 Zq):=O0.grown g6 (by simp;omega);have f2:O (W6.cell? (Y b 1)=some (I (q3:Int))):=g6.cell HD5' (by simpa using p0);have C1:O (Zw W6.heap.size W6 (J lao ls.length lcap) ls):=(by rw[I0];exact Jz a2 (λ_ h=>by have h9:N<N:=b2 N h;omega));have V0:O (W6.cell? (Y b (2+x*4+3))=some (.func (.func (byF x)) #[] #[])):=g6.cell U0 (by simpa using p0);clear I0 g6 k5 kf HM5' F0 O0 HD5' a2 U0;refine(zrw b (2+x*4) (byF x) k (M N) (prem ⟨x,v,0,0,0,ls⟩) W6 V0 (zn6 x _ _) (zfz (B1.gO C1))).mono ?_;rintro e w7 ⟨rfl,o0⟩;have g2:O (Mv w w7 b):=A1.fU o0 hlb;have s2:O (w7.cell? (Y b 1)=some (I (q3:Int))):=cT o0 (A1.lt hlb) f2.out;have g7:W6.grownBy w7 none:=⟨o0.os,o0.tape,o0.output,o0.size,λk hk _=>o0.block k hk⟩;have t2:O (Zw w7.heap.size w7 (J lao ls.length lcap) ls):=zxx C1 o0;have u2:=B1.grown g7 (by simp);have v2:=c2.grown g7 (by simp);obtain⟨e0,e1,e2,e3,e4,e5,_⟩:=u2;obtain⟨d0,d1,d2,d3,d4,d5,df⟩:=v2;obtain⟨q0,q1,q2',q3',q4,q5⟩:=yw9 (w1:=w7) (B:=w.heap.size) (I x) (I v) (I 0) (I 0) (I 0) (J lao ls.length lcap) d0 d1 d2 d3 d4 d5;clear o0 g7 A1 B1 c2 f2 C1 V0
     by_cases b0:(prem ⟨x,v,0,0,0,ls⟩).any (λy=>decide ((k:Int)<=y))=true
     ·rw[b0]
      have B0:O (one s p k=(jA,-1,(p:Int))):=k0.trans (zfy b0)
      go_wp2_with fail
      refine(Vm _ _ _).mono ?_;rintro e w6 ⟨rfl,D1⟩;exact⟨rfl,Uo B0 (g2.fU D1 hlb)⟩
     have hany':(prem ⟨x,v,0,0,0,ls⟩).any (λy=>decide ((k:Int)<=y))=false:=(by simpa using b0);rw[hany'];have B0:O (one s p k=(⟨x,v,0,0,0,ls⟩,(q3:Int),0)):=k0.trans (zi7 hany')
     go_wp2_with fail
     refine(zxw _ _ _).mono ?_;rintro e w6 ⟨rfl,rfl⟩;go_wp2;exact bodyPost_ret (v:=.agg #[I x,I v,I 0,I 0,I 0,J lao ls.length lcap]) (by simp[results,results82,go_sem,q0,q1,q2',q3',q4,q5]) rfl (zk1 B0 g2 hlb rfl s2 t2 (λbb h=>by have:=b2 bb h;omega))
    have b7:(x==7)=false:=beq_eq_false_iff_ne.2 s0;rw[b7]at g1;have h3:=r0.2.2;have i1:=A h3
    go_wp2_with fail
    have HI:O (Zw wr.heap.size wr Zq ([]:Is)):=Zw.nil _ _;refine(zrw b (2+x*4) (byF x) k (M N) (prem ⟨x,v,xs.getD 0 0,xs.getD 1 0,xs.getD 2 0,[]⟩) wr i1 (zn6 x _ _) (zfz (HL.nd.gO HI))).mono ?_;rintro e w5 ⟨rfl,v0⟩;have A0:O (Mv w w5 b):=HL.hm.fU v0 hlb;have k0:O (one s p k=cZ p k ⟨x,v,xs.getD 0 0,xs.getD 1 0,xs.getD 2 0,[]⟩ (q':Int)):=by
     show _=_;rw[zbv x0 HX z0 s0 l0.out,<-HF.out,U1.out,Z (by simp only;omega)]
    have x2:O (w5.cell? (Y b 1)=some (I (q':Int))):=cT v0 (HL.hm.lt hlb) HL.hc;have g5:wr.grownBy w5 none:=⟨v0.os,v0.tape,v0.output,v0.size,λk hk _=>v0.block k hk⟩;have y2:=HL.nd.grown g5 (by simp);have z2:=HL.rs.grown g5 (by simp);obtain⟨e0,e1,e2,e3,e4,e5,_⟩:=y2;obtain⟨d0,d1,d2,d3,d4,d5,df⟩:=z2;obtain⟨q0,q1,q2,q3,q4,q5⟩:=yw9 (w1:=w5) (B:=w.heap.size) (I x) (I v) (I (xs.getD 0 0)) (I (xs.getD 1 0)) (I (xs.getD 2 0)) Zq d0 d1 d2 d3 d4 d5
    by_cases b0:(prem ⟨x,v,xs.getD 0 0,xs.getD 1 0,xs.getD 2 0,[]⟩).any (λy=>decide ((k:Int)<=y))=true
    ·rw[b0]
     have B0:O (one s p k=(jA,-1,(p:Int))):=k0.trans (zfy b0)
     go_wp2_with fail
     refine(Vm _ _ _).mono ?_;rintro e w6 ⟨rfl,D1⟩;exact⟨rfl,Uo B0 (A0.fU D1 hlb)⟩
    have hany':(prem ⟨x,v,xs.getD 0 0,xs.getD 1 0,xs.getD 2 0,[]⟩).any (λy=>decide ((k:Int)<=y))=false:=(by simpa using b0);rw[hany'];have B0:O (one s p k=(⟨x,v,xs.getD 0 0,xs.getD 1 0,xs.getD 2 0,[]⟩,(q':Int),0)):=k0.trans (zi7 hany')
    go_wp2_with fail
    refine(zxw _ _ _).mono ?_;rintro e w6 ⟨rfl,rfl⟩;generalize xs.getD 0 0=xa at*;generalize xs.getD 1 0=xb at*;generalize xs.getD 2 0=xc at*;go_wp2;exact bodyPost_ret (v:=.agg #[I x,I v,I xa,I xb,I xc,Zq]) (by simp[results,results82,go_sem,q0,q1,q2,q3,q4,q5]) rfl (zk1 B0 A0 hlb rfl x2 (Zw.nil _ _) (λbb h=>by simp[ownBlock]at h))
  have i2:decide ((x:Int)<8)=false:=decide_eq_false (by omega);have o1:decide (x<8)=false:=decide_eq_false z0
  go_wp2_with fail
  refine(Vm _ _ _).mono ?_;rintro e w' ⟨rfl,hb⟩;refine⟨rfl,Uo ?_ ((n1.alloc hlb _).fU hb hlb)⟩;unfold one;rw[Z (by omega)];simp only[<-HX.out];rw[G (by unfold aJ;repeat' split<;>omega)]
 refine(zh3 X0 x0).mono ?_;rintro e w1 ⟨rfl,y0⟩;refine⟨rfl,Uo ?_ (m1.trans y0)⟩
 have:p=s.length:=by omega
 unfold one;rw[G this,this]
def Uc(nd:Fl.ar):List Value:=[.int .i64 nd.kind,.int .i64 nd.ag,.int .i64 nd.a,.int .i64 nd.b,.int .i64 nd.c,.int .i64 nd.aU.length]
def zu4(nd:Fl.ar):List Value:=Uc nd++replicate 16 (int .i64 0)
def Yq(nd:Fl.ar):List Value:=Uc nd++(nd.aU.map (int .i64)++replicate (16 - nd.aU.length) (int .i64 0))
def zx5(nd:Fl.ar)(h:nd.aU.length<=16):(Yq nd).length=22:=by simp[Yq,Uc];omega
def ywz(nd:Fl.ar):(Yq nd).toArray.all (·.oneCell')=true:=by
 rw[all_toArray,all_eq_true];intro x hx;simp only[Yq,Uc,mem_append,mem_cons,mem_map,mem_replicate,not_mem_nil,or_false]at hx;rcases hx with(rfl|rfl|rfl|rfl|rfl|rfl)|⟨y,_,rfl⟩|⟨_,rfl⟩<;>rfl
def zdx(nd:Fl.ar):splice (zu4 nd) 6 (nd.aU.map (int .i64))=Yq nd:=by
 unfold splice zu4 Yq;have h6:(Uc nd).length=6:=rfl;rw[take_left' h6,drop_append,drop_of_length_le (by rw[h6];simp),nil_append,drop_replicate,h6];simp
def Tryz.infoInt1:(Tryz.prog.info? 3).map (·.size)=some 1:=by kernel_rfl
def Tryz.infoContent:(Tryz.prog.info? 217).map (·.size)=some 22:=by kernel_rfl
def zs4{nd:Fl.ar}{lv:Value}(h:Vj w nb no nd lv)(u0:nd.aU.length<=16):
  Calls prog 107 #[.pointer (some ⟨nb,no,none⟩)] w λe w'=>e=.returned (.agg (Yq nd).toArray)/\Below w.heap.size w w':=by
 obtain⟨ao,cap,rfl,z0,hm,hx⟩:=id h.hl;have HX:=A hx;clear hx;unfold maxLen at hm;have i0:nb<w.heap.size:=Qe w _ h.c0;have H5:=A h.c5
 have a0:∀o,(w.alloc o).cell? ⟨nb,no,none⟩=some (.int .i64 nd.kind):=λo=>by rw[cell?_alloc_past _ _ _ i0];exact h.c0
 have a1:∀o,(w.alloc o).cell? ⟨nb,no+1,none⟩=some (.int .i64 nd.ag):=λo=>by rw[cell?_alloc_past _ _ _ i0];exact h.c1
 have a2:∀o,(w.alloc o).cell? ⟨nb,no+2,none⟩=some (.int .i64 nd.a):=λo=>by rw[cell?_alloc_past _ _ _ i0];exact h.c2
 have a3:∀o,(w.alloc o).cell? ⟨nb,no+3,none⟩=some (.int .i64 nd.b):=λo=>by rw[cell?_alloc_past _ _ _ i0];exact h.c3
 have a4:∀o,(w.alloc o).cell? ⟨nb,no+4,none⟩=some (.int .i64 nd.c):=λo=>by rw[cell?_alloc_past _ _ _ i0];exact h.c4
 have a5:∀o,(w.alloc o).cell? ⟨nb,no+5,none⟩=some (.slice ao nd.aU.length cap):=λo=>by rw[cell?_alloc_past _ _ _ i0];exact h.c5
 clear h
 go_enter func107,ntmps107
 go_wp2_with fail
 obtain⟨W0,e0⟩:=U (w.alloc (.cells #[.int .i64 0,.int .i64 0,.int .i64 0,.int .i64 0,.int .i64 0,.int .i64 0,.int .i64 0,.int .i64 0,.int .i64 0,.int .i64 0,.int .i64 0,.int .i64 0,.int .i64 0,.int .i64 0,.int .i64 0,.int .i64 0,.int .i64 0,.int .i64 0,.int .i64 0,.int .i64 0,.int .i64 0,.int .i64 0] 217));rw[<-e0]
 have d0:nb<W0.heap.size:=by rw[e0];simp;omega
 have b0:W0.cell? ⟨nb,no,none⟩=some (.int .i64 nd.kind):=by rw[e0];exact a0 _
 have b1:W0.cell? ⟨nb,no+1,none⟩=some (.int .i64 nd.ag):=by rw[e0];exact a1 _
 have b2:W0.cell? ⟨nb,no+2,none⟩=some (.int .i64 nd.a):=by rw[e0];exact a2 _
 have b3:W0.cell? ⟨nb,no+3,none⟩=some (.int .i64 nd.b):=by rw[e0];exact a3 _
 have b4:W0.cell? ⟨nb,no+4,none⟩=some (.int .i64 nd.c):=by rw[e0];exact a4 _
 have b5:W0.cell? ⟨nb,no+5,none⟩=some (.slice ao nd.aU.length cap):=by rw[e0];exact a5 _
 have p0:=A e0;clear e0 a0 a1 a2 a3 a4 a5;obtain⟨S,hS⟩:=U (α:=World->Prop) (λw'=>w'.cell? ⟨nb,no,none⟩=some (.int .i64 nd.kind)/\w'.cell? ⟨nb,no+1,none⟩=some (.int .i64 nd.ag)/\w'.cell? ⟨nb,no+2,none⟩=some (.int .i64 nd.a)/\w'.cell? ⟨nb,no+3,none⟩=some (.int .i64 nd.b)/\w'.cell? ⟨nb,no+4,none⟩=some (.int .i64 nd.c)/\w'.cell? ⟨nb,no+5,none⟩=some (.slice ao nd.aU.length cap))
 have HS:O (∀w',S w'->w'.cell? ⟨nb,no,none⟩=some (.int .i64 nd.kind)/\w'.cell? ⟨nb,no+1,none⟩=some (.int .i64 nd.ag)/\w'.cell? ⟨nb,no+2,none⟩=some (.int .i64 nd.a)/\w'.cell? ⟨nb,no+3,none⟩=some (.int .i64 nd.b)/\w'.cell? ⟨nb,no+4,none⟩=some (.int .i64 nd.c)/\w'.cell? ⟨nb,no+5,none⟩=some (.slice ao nd.aU.length cap)):=λw' h=>by rw[hS]at h;exact h
 have q0:O (∀o,S (W0.drew.alloc o)):=λo=>by
  have d0:nb<W0.drew.heap.size:=d0;rw[hS];exact⟨(cell?_alloc_past _ _ _ d0).trans b0,(cell?_alloc_past _ _ _ d0).trans b1,(cell?_alloc_past _ _ _ d0).trans b2,(cell?_alloc_past _ _ _ d0).trans b3,(cell?_alloc_past _ _ _ d0).trans b4,(cell?_alloc_past _ _ _ d0).trans b5⟩
 refine zgv (S:=S) 26 (by kernel_rfl) (by kernel_rfl) rfl (λc a d v w h=>by cases d<;>exact h) _ _ rfl rfl rfl rfl (by rw[hS];exact⟨b0,b1,b2,b3,b4,b5⟩) ?_;clear hS;simp only[take_succ_cons,take_zero];refine Jl (λL HL=>?_)
 repeat refine Jm rfl (kE (by intro w' hw;obtain⟨s0,s1,s2,s3,s4,s5⟩:=HS w' hw;go_simp<;>rfl) (by go_simp<;>rfl) ?_)
 refine HL _ ⟨.pointer (some ⟨W0.drew.heap.size,0,none⟩),W0.drew.alloc (.cells #[.int .i64 0,.int .i64 0,.int .i64 0,.int .i64 0,.int .i64 0,.int .i64 0,.int .i64 0,.int .i64 0,.int .i64 0,.int .i64 0,.int .i64 0,.int .i64 0,.int .i64 0,.int .i64 0,.int .i64 0,.int .i64 0,.int .i64 0,.int .i64 0,.int .i64 0,.int .i64 0,.int .i64 0,.int .i64 0] 217),W0.drew.alloc (.cells #[.int .i64 nd.kind,.int .i64 nd.ag,.int .i64 nd.a,.int .i64 nd.b,.int .i64 nd.c,.int .i64 nd.aU.length,.int .i64 0,.int .i64 0,.int .i64 0,.int .i64 0,.int .i64 0,.int .i64 0,.int .i64 0,.int .i64 0,.int .i64 0,.int .i64 0,.int .i64 0,.int .i64 0,.int .i64 0,.int .i64 0,.int .i64 0,.int .i64 0] 217),by kernel_rfl,q0 _,zdz _ _ 217 rfl _ _ _ rfl rfl Tryz.infoContent rfl (by kernel_rfl),q0 _,?_⟩;clear HL;obtain⟨W1,l0⟩:=U (W0.drew.alloc (.cells #[.int .i64 nd.kind,.int .i64 nd.ag,.int .i64 nd.a,.int .i64 nd.b,.int .i64 nd.c,.int .i64 nd.aU.length,.int .i64 0,.int .i64 0,.int .i64 0,.int .i64 0,.int .i64 0,.int .i64 0,.int .i64 0,.int .i64 0,.int .i64 0,.int .i64 0,.int .i64 0,.int .i64 0,.int .i64 0,.int .i64 0,.int .i64 0,.int .i64 0] 217));rw[<-l0]
 have hC:W0.drew.heap.size=w.heap.size+1:=by rw[p0.out];simp
 rw[hC]
 have m0:W1.heap[w.heap.size+1]?=some (.cells (zu4 nd).toArray 217 (0,0)):=by rw[l0,<-hC];exact heap_alloc_last _ _
 have f0:W1.heap[w.heap.size]?=some (.cells (replicate 22 (int .i64 0)).toArray 217 (0,0)):=by
  rw[l0,Below.heap_alloc _ _ _ (by rw[hC];omega)];show W0.heap[w.heap.size]?=_;rw[p0.out];exact heap_alloc_last _ _
 have j0:Below w.heap.size w W1:=by
  rw[l0];refine Below.alloc ?_ (by rw[hC];omega) _;rw[p0.out];exact(bA).drew
 have k5:W1.cell? ⟨nb,no+5,none⟩=some (.slice ao nd.aU.length cap):=(j0.cell (p:=⟨nb,no+5,none⟩) i0).trans H5.out;have n0:=A m0;have g0:=A f0;have k0:=A j0;clear l0 m0 f0 j0 hC b0 b1 b2 b3 b4 b5 HS q0 p0 d0
 go_wp2_with fail
 go_still_tail 6,(by kernel_rfl)
 refine wpList_copy_splice rfl (.tmp 31) (.tmp 35) 22 22 rfl 3 underlying22 Tryz.infoInt1 _ _ _ _ _ _ rfl rfl (w.heap.size+1) 6 (zu4 nd) 217 n0 (nd.aU.map (int .i64)) ?hn ?hpos ?hfit ?h1 (w.heap.size+1) W1 ?hb ?hBg ?_
 case hn=>simp only[length_map];show nd.aU.length=min nd.aU.length 16;omega
 case hpos=>
  intro hpos;refine⟨rfl,?_⟩;obtain⟨bb,off,A0,B0,o0⟩:=HX (by intro h0;rw[h0]at hpos;simp at hpos);refine⟨_,A0,λj u hj=>?_⟩;have hj':j<nd.aU.length:=(by have:=(List.getElem?_eq_some_iff.1 hj).1;simpa using this)
  have h2:(⟨bb,off,none⟩:Addr).add j=⟨bb,off+j,none⟩:=by unfold Addr.add;split<;>simp_all
  rw[h2];have h3:W1.cell? ⟨bb,off+j,none⟩=some u:=by
   rw[k0.cell (p:=⟨bb,off+j,none⟩) B0,o0 j hj'];rw[getElem?_map,Qb hj']at hj;simp only[Option.map_some,Option.some.injEq]at hj;rw[<-hj,Qa,Qb hj'];rfl
  exact h3
 case hfit=>simp only[zu4,Uc,length_append,length_map,length_replicate,length_cons,length_nil];omega
 case h1=>intro u hu;obtain⟨y,_,rfl⟩:=mem_map.1 hu;rfl
 case hb=>exact(Below.refl _ _).drew
 case hBg=>omega
 intro w2 v0 r0
 have hg2':w2.heap[w.heap.size+1]?=some (.cells (Yq nd).toArray 217 (0,0)):=by rw[v0.out,zdx]
 have x0:w2.heap[w.heap.size]?=some (.cells (replicate 22 (int .i64 0)).toArray 217 (0,0)):=(r0.block _ (by omega)).trans g0.out;have HG:=A hg2';have y0:=A x0;have C0:O (Below w.heap.size w w2):=k0.trans (r0.mono (by omega));have HI:O ((prog.info? 217).map (·.size)=some (Yq nd).toArray.size):=by
  show _=_;rw[Tryz.infoContent];simp only[size_toArray,zx5 nd u0]
 clear v0 hg2' x0 r0 n0 g0 k0 HX H5 k5;generalize hcl:(Yq nd).toArray=cl at*
 have t0:O (cl.all (·.oneCell')=true):=by show _=_;rw[<-hcl];exact ywz nd
 have D0:O ((replicate 22 (int .i64 0)).toArray.size=cl.size):=by show _=_;rw[<-hcl];simp only[size_toArray,length_replicate,zx5 nd u0]
 have E0:=A hcl;clear hcl
 go_wp2_with (first|(refine zq9 rfl _ 217 rfl _ rfl cl _ _ HG _ underlying217 rfl HI ?_)|(refine Jx rfl _ _ 217 rfl _ rfl _ cl rfl _ y0 HI D0 t0 ?_))
 refine bodyPost_ret (v:=.agg cl) ?_ rfl ⟨by rw[E0.out],below_setRow C0 (Nat.le_refl _) _⟩;exact zmv (p:=2) (ty:=217) results107 _ _ ⟨w.heap.size,0,none⟩ _ rfl (run_loadVar_row _ _ _ _ cl _ _ (setRow_heap _ _ _ _ _ _ y0) underlying217 rfl HI)
open Go.Maps Go.WideMaps
def Tryz.laidOut:laidOutB Tryz.prog=true:=by kernel_rfl
def yn2:(217:TypeId)<prog.types.size:=of_decide_eq_true (by kernel_rfl)
def ysz:(match prog.underlying 217 with|some (.array _ _)|some (.struct _)=>true|_=>false)=true:=by rw[underlying217]
def Ug:Keyed prog 217:=Keyed.of_law (deep_law_laid Tryz.laidOut (m:=4) (by omega) yn2 (by kernel_rfl) ysz)
def zdw{α β:Type}{f:α->Option β}:∀(l:List α),(∀x∈l,∃y,f x=some y)->∃ys,l.mapM f=some ys
 |[],_=>⟨[],rfl⟩
 |x::l,h=>by
  obtain⟨y,hy⟩:=h x (by simp);obtain⟨ys,a0⟩:=zdw l (λz hz=>h z (by simp[hz]));exact⟨y::ys,by simp[mapM_cons,hy,a0]⟩
def map_ex{α:Type}{f:α->Option (List Lit)}{l:List α}(h:∃ys,l.mapM f=some ys):∃y,Option.map flatten (l.mapM f)=some y:=by
 obtain⟨ys,a0⟩:=h;exact⟨ys.flatten,by rw[a0];rfl⟩
def ywy{l:List Value}(h:i<l.length):(l.drop i).take 1=[l[i]]:=by
 rw[drop_eq_getElem_cons h];rfl
def zfx(cs:List Value):Prop:=∀v∈cs,∃x:Int,v=.int .i64 x/\(Lit.int .i64 x).wf=true
def yj8(d:Nat)(h:∃x:Int,v=.int .i64 x/\(Lit.int .i64 x).wf=true):∃y,prog.keyLits (d+1) 3 [v]=some y:=by
 obtain⟨x,rfl,hw⟩:=h;exact⟨[.int .i64 x],by simp[Program.keyLits,underlying3,hw]⟩
def cellsInt:prog.cellsOf 3=1:=by kernel_rfl
def ywx:prog.cellsOf 215=16:=by kernel_rfl
def zk2:prog.cellsOf 217=22:=by kernel_rfl
def keyArr(d:Nat)(hl:cs.length=16)(h:zfx cs):∃y,prog.keyLits (d+2) 215 cs=some y:=by
 have hm:∃ys,(range 16).mapM (λi=>prog.keyLits (d+1) 3 ((cs.drop (i*prog.cellsOf 3)).take (prog.cellsOf 3)))=some ys:=by
  refine zdw _ (λi hi=>?_);rw[cellsInt,Nat.mul_one,ywy (by simp at hi;omega)];exact yj8 d (h _ (getElem_mem _))
 obtain⟨ys,a0⟩:=hm;refine⟨ys.flatten,?_⟩;unfold Program.keyLits;simp only[underlying215,ywx,hl,if_true,a0,Option.map_some]
def yn3(d:Nat)(hl:cs.length=22)(h:zfx cs):∃y,prog.keyLits (d+3) 217 cs=some y:=by
 unfold Program.keyLits;simp only[underlying217,zk2,hl];rw[if_pos ⟨trivial,by kernel_rfl⟩]
 have q:∀i,i<6->∃y,prog.keyLits (d+2) 3 (take (prog.cellsOf 3) (drop i cs))=some y:=λi hi=>by
  rw[cellsInt,ywy (by omega)];exact yj8 (d+1) (h _ (getElem_mem _))
 have qa:∃y,prog.keyLits (d+2) 215 (take (prog.cellsOf 215) (drop 6 cs))=some y:=by
  rw[ywx];exact keyArr d (by simp;omega) (λv hv=>h v (mem_of_mem_drop (mem_of_mem_take hv)))
 refine map_ex (zdw _ (λf hf=>?_));simp only[mem_cons,not_mem_nil,or_false]at hf;rcases hf with rfl|rfl|rfl|rfl|rfl|rfl|rfl
 ·exact q 0 (by omega)
 ·exact q 1 (by omega)
 ·exact q 2 (by omega)
 ·exact q 3 (by omega)
 ·exact q 4 (by omega)
 ·exact q 5 (by omega)
 exact qa
def yj9:3<=prog.types.size+1:=of_decide_eq_true (by kernel_rfl)
def key_ex(hl:cs.length=22)(h:zfx cs):∃kl,keyOf prog 217 (.agg cs.toArray)=some kl:=by
 obtain⟨d,hd⟩:∃d,prog.types.size+1=d+3:=⟨prog.types.size+1 - 3,by have:=yj9;omega⟩;obtain⟨y,hy⟩:=yn3 d hl h
 have hf:(agg cs.toArray).formed prog 217=true:=by simp[formed,underlying217,zk2,hl]
 have hk:prog.keyType 217=true:=by kernel_rfl
 refine⟨.string (keyBytes y),?_⟩;unfold keyOf;rw[underlying217];simp only[hf,hk,Bool.and_self,if_true,cells,hd,hy,Option.map_some]
namespace Fl
def fits(nd:ar):Prop:=cd nd.kind=true/\cd nd.ag=true/\cd nd.a=true/\cd nd.b=true/\cd nd.c=true/\nd.aU.length<=16/\nd.aU.all cd=true
end Fl
def zo0{x:Int}(h:Fl.cd x=true):(Lit.int .i64 x).wf=true:=by
 simp only[Fl.cd,Bool.and_eq_true,decide_eq_true_eq]at h;exact WalkArith.wf_i64 (by omega)
def ysy{nd:Fl.ar}(h:Fl.fits nd):zfx (Yq nd):=by
 obtain⟨h0,h1,h2,h3,h4,h5,h6⟩:=h;intro v hv;simp only[Yq,Uc,mem_append,mem_cons,mem_map,mem_replicate,not_mem_nil,or_false]at hv;rcases hv with(rfl|rfl|rfl|rfl|rfl|rfl)|⟨y,hy,rfl⟩|⟨_,rfl⟩
 ·exact⟨_,rfl,zo0 h0⟩
 ·exact⟨_,rfl,zo0 h1⟩
 ·exact⟨_,rfl,zo0 h2⟩
 ·exact⟨_,rfl,zo0 h3⟩
 ·exact⟨_,rfl,zo0 h4⟩
 ·exact⟨_,rfl,WalkArith.wf_i64 (by omega)⟩
 ·exact⟨_,rfl,zo0 (all_eq_true.1 h6 y hy)⟩
 exact⟨_,rfl,WalkArith.wf_i64 (by omega)⟩
def Jq(P:Program)(nd:Fl.ar):Lit:=(keyOf P 217 (.agg (Yq nd).toArray)).getD .nil
def zn9{nd:Fl.ar}(h:Fl.fits nd):keyOf prog 217 (.agg (Yq nd).toArray)=some (Jq prog nd):=by
 obtain⟨kl,hk⟩:=key_ex (zx5 nd h.2.2.2.2.2.1) (ysy h);unfold Jq;rw[hk];rfl
def yww{x:Fl.ar}(h:Yq x=Yq y):x=y:=by
 unfold Yq at h;have h1:=append_inj_left h rfl;have h2:=append_inj_right h rfl;obtain⟨xk,xl,xa,xb,xc,xs⟩:=x;obtain⟨yk,yl,ya,yb,yc,ys⟩:=y;simp only[Uc,List.cons.injEq,int.injEq,true_and,and_true]at h1;obtain⟨rfl,rfl,rfl,rfl,rfl,hn⟩:=h1
 have hn':xs.length=ys.length:=by omega
 have h3:=append_inj_left h2 (by simpa using hn');have h4:xs=ys:=by
  simp only at h3;exact(List.map_inj_right (λa b a0=>by injection a0)).1 h3
 rw[h4]
def zk3{x:Fl.ar}(hx:Fl.fits x)(hy:Fl.fits y)(h:Jq prog x=Jq prog y):x=y:=by
 have h1:=zn9 hx;rw[h]at h1;have:=Ug.inj h1 (zn9 hy);simp only[agg.injEq]at this;exact yww (by have:=congrArg Array.toList this;simpa using this)
def zp5(w:World)(T B:Nat)(dt:List Fl.ar):Prop:=
 w.cell? ⟨T,0,none⟩=some (.map (some B))/\∃n Qu,n<=dt.length/\w.ownsMap (H:=Unit) prog 217 (plainElem prog 3) B n Qu/\∀nd,Fl.fits nd->(Maps.has Qu (Jq prog nd)=true ↔ nd∈dt)
def zp5.kept{w w':World}{T B:Nat}{dt:List Fl.ar}(h:zp5 w T B dt){row:Option Nat}(g:w.grownBy w' row)(hT:some T≠row)(hB:some B≠row):zp5 w' T B dt:=by
 obtain⟨h1,n,Qu,h2,h3,h4⟩:=h;exact⟨g.cell h1 hT,n,Qu,h2,h3.kept g hB,h4⟩
def yp3(w:World):(zeroValue 3).run prog w=.ok (.int .i64 0) w:=by kernel_rfl
def ywv(w:World):Calls prog 101 #[] w λe w'=>e=.returned (.pointer (some ⟨w.heap.size+1,0,none⟩))/\zp5 w' (w.heap.size+1) w.heap.size []/\Below w.heap.size w w'/\w'.heap.size=w.heap.size+2:=by
 have a0:= @run_makeMap prog
 go_enter func101,ntmps101
 go_wp2;go_ret;refine⟨rfl,⟨?_,0,.map [],Nat.le_refl _,(ownsMap_made w _ _ _).alloc _,λnd _=>?_⟩,?_,?_⟩
 ·simp
 ·simp[Maps.has]
 ·exact((bA).alloc (by simp) _)
 simp
def yv0{dt:List Fl.ar}{nd:Fl.ar}(h:zp5 w T B dt)(hf:Fl.fits nd)(hn:dt.length<=1000000):
  Calls prog 106 #[.pointer (some ⟨T,0,none⟩),.agg (Yq nd).toArray] w λe w'=>∃(c:Int) (t:Bool),e=.returned (.tuple #[.int .i64 c,.bool (!t)])/\(t=true ↔ nd∈dt)/\zp5 w' T B (nd::dt)/\w.grownBy w' (some B):=by
 obtain⟨hT,n,Qu,C0,d0,hD⟩:=h;have i0:=zn9 hf;have HI:O ((prog.info? 217).map (·.size)=some (Yq nd).toArray.size):=by
  show _=_;rw[Tryz.infoContent];simp only[size_toArray,zx5 nd hf.2.2.2.2.2.1]
 generalize hcl:(Yq nd).toArray=cl at*;have u0:T<w.heap.size:=Qe w _ hT;have v0:=d0.lt;have HK:O (keyOf prog 217 (.agg cl)=some (Jq prog nd)):=i0;have HO:O (w.ownsMap (H:=Unit) prog 217 (plainElem prog 3) B n Qu):=d0;have k0:O (∀nd,Fl.fits nd->(Maps.has Qu (Jq prog nd)=true ↔ nd∈dt)):=hD;have HT:O (w.cell? ⟨T,0,none⟩=some (.map (some B))):=hT;clear i0 d0 hD hcl hT
 go_enter func106,ntmps106
 go_wp2_with fail
 obtain⟨W0,l0⟩:=U (w.alloc (.cells cl 217));rw[<-l0]
 have g0:w.grownBy W0 none:=by rw[l0];exact grownBy_alloc _ _ _
 have o0:W0.cell? ⟨T,0,none⟩=some (.map (some B)):=g0.cell HT (by simp);have a0:W0.ownsMap (H:=Unit) prog 217 (plainElem prog 3) B n Qu:=HO.kept g0 (by simp)
 have HX:O (W0.heap[w.heap.size]?=some (.cells cl 217 (0,0))):=by show _=_;rw[l0];exact heap_alloc_last _ _
 have p0:O (W0.ownsMap (H:=Unit) prog 217 (plainElem prog 3) B n Qu):=a0;have f0:O (w.grownBy W0 none):=g0;obtain⟨v,ps,n0,hv⟩:=a0.drew.look_ok Ug underlying257 (yp3 _) (zd:=.lit (.int .i64 0)) (zp:=[]) (plainElem_int underlying3 (by decide)) HK.out;obtain⟨c,rfl,hc,x0⟩:=plainElem_int_inv underlying3 hv;obtain⟨t,ht⟩:=U (Maps.has Qu (Jq prog nd));rw[<-ht]at n0;have q0:O ((Instr.lookup 257 (.map (some B)) (.agg cl) true).run prog W0.drew=.ok (.tuple #[.int .i64 c,.bool t]) W0.drew):=n0;have r0:O (t=Maps.has Qu (Jq prog nd)):=ht;clear l0 g0 a0 n0 hv hc x0 HO ht;refine wp_region_still_lit (by kernel_rfl) (by kernel_rfl) ?_
 iterate 4 still_step
 refine Xm rfl (.agg cl) (zy1 _ 217 rfl w.heap.size rfl cl _ _ HX _ underlying217 rfl HI) ?_;refine Xm rfl (.tuple #[.int .i64 c,.bool t]) (Jk _ _ 257 rfl (.map (some B)) (.agg cl) _ rfl rfl q0) ?_
 repeat still_step
 refine wpStill_nil ?_;have m0:W0.drew.cell? ⟨T,0,none⟩=some (.map (some B)):=o0;have b0:O (w.grownBy W0.drew none):=⟨f0.os,f0.tape,f0.out.output,f0.size,f0.block⟩;have h0:O (W0.drew.ownsMap (H:=Unit) prog 217 (plainElem prog 3) B n Qu):=p0.out;have s0:O (W0.drew.heap[w.heap.size]?=some (.cells cl 217 (0,0))):=HX.out
 change Exit.then _ _ _ _ W0.drew
 generalize W0.drew=W1 at*;clear o0 f0 p0 HX q0
 cases t with
 |true=>
  have dK:nd∈dt:=(k0 nd hf).1 r0.symm;have j0:O (nd∈dt):=dK;clear dK;go_wp2
  go_ret2
  refine⟨c,true,rfl,⟨λ_=>j0.out,λ_=>rfl⟩,⟨m0,n,Qu,by simp;omega,h0,λnd' hf'=>?_⟩,⟨b0.os,b0.tape,b0.out.output,b0.size,λk hk _=>b0.block k hk (by simp)⟩⟩;rw[k0 nd' hf',mem_cons];exact⟨λh=> .inr h,λh=>h.elim (λe=>by rw[e];exact j0) id⟩
 |false=>
  have dS:nd ∉ dt:=λh=>by have:=(k0 nd hf).2 h;rw[<-r0.out]at this;cases this
  have y0:O (nd ∉ dt):=dS;have D0:=h0.size_le;clear dS
  go_wp2_with (at_len;refine wpList_len_own _ rfl _ 257 rfl 217 3 underlying257 _ B n Qu rfl h0 ?_)
  refine wp_region_still_tail 6 (by kernel_rfl) (by kernel_rfl) ?_;simp only[take_succ_cons,take_zero,drop_succ_cons,drop_zero]
  iterate 4 still_step
  refine Xm rfl (.agg cl) (zy1 _ 217 rfl w.heap.size rfl cl _ _ s0 _ underlying217 rfl HI) ?_
  still_step
  refine wpStill_nil ?_;have t0:O (W1.drew.ownsMap (H:=Unit) prog 217 (plainElem prog 3) B n Qu):=h0.out;refine wpList_mapUpdate_own W1.drew rfl _ _ _ 257 rfl 217 3 Ug underlying257 _ B n Qu rfl t0 (by unfold maxLen;omega) _ _ _ rfl rfl HK _ [] (plainElem_int underlying3 (WalkArith.wf_i64 (by omega))) ?_;intro w2 c0 e0;have z0:O (zp5 w2 T B (nd::dt)):=by
   refine⟨?_,n+1,_,by simp;omega,c0,λnd' hf'=>?_⟩
   ·have jh:T≠B:=by
     intro e;obtain⟨es,clock,hb,_⟩:=h0.out;subst e;simp[cell?,hb]at m0
    exact e0.cell m0 (by simpa using jh)
   by_cases he:nd'=nd
   ·subst he
    rw[Maps.has_put_same h0.isMap (Ug.key HK)];simp
   rw[Maps.has_put_other (λh=>he (zk3 hf' hf h)),k0 nd' hf',mem_cons];exact⟨λh=> .inr h,λh=>h.elim (λe=>absurd e he) id⟩
  have A0:O (w.grownBy w2 (some B)):=⟨e0.os.trans b0.os,e0.tape.trans b0.tape,e0.output.trans b0.out.output,Nat.le_trans b0.size e0.size,λk hk B0=>(e0.block k (Nat.lt_of_lt_of_le hk b0.size) B0).trans (b0.block k hk (by simp))⟩;clear c0 e0 t0 m0 s0;go_wp2
  go_ret2
  exact⟨_,false,rfl,⟨λh=>(by cases h),λh=>absurd h y0.out⟩,z0.out,A0.out⟩
def Jh(w:World)(T B:Nat)(ws:List Fl.ar):Prop:=
 w.cell? ⟨T,0,none⟩=some (.map (some B))/\∃n Qu,n<=ws.length/\w.ownsMap (H:=Unit) prog 217 (plainElem prog 3) B n Qu/\Maps.size Qu=ws.length/\(∀nd,Fl.fits nd->(Maps.has Qu (Jq prog nd)=true ↔ nd∈ws))/\∀(i:Nat) (hi:i<ws.length),Fl.fits ws[i]/\∀z,Qu.atKey (Jq prog ws[i]) z=.lit (.int .i64 (i:Int))
def Jh.kept{w w':World}{T B:Nat}{ws:List Fl.ar}(h:Jh w T B ws){row:Option Nat}(g:w.grownBy w' row)(hT:some T≠row)(hB:some B≠row):Jh w' T B ws:=by
 obtain⟨h1,n,Qu,h2,h3,h4⟩:=h;exact⟨g.cell h1 hT,n,Qu,h2,h3.kept g hB,h4⟩
def yjz{nd:Fl.ar}(h:Jh w T B ws)(hf:Fl.fits nd)(hn:ws.length<=100000000):
  Calls prog 106 #[.pointer (some ⟨T,0,none⟩),.agg (Yq nd).toArray] w λe w'=>((∃(i:Nat) (hi:i<ws.length),ws[i]=nd/\e=.returned (.tuple #[.int .i64 (i:Int),.bool false])/\Jh w' T B ws)\/(nd ∉ ws/\e=.returned (.tuple #[.int .i64 (ws.length:Int),.bool true])/\Jh w' T B (ws++[nd])))/\w.grownBy w' (some B):=by
 obtain⟨hT,n,Qu,B0,e0,cH,hD,t0⟩:=h;have o0:O (∀(i:Nat) (hi:i<ws.length),Fl.fits ws[i]/\∀z,Qu.atKey (Jq prog ws[i]) z=.lit (.int .i64 (i:Int))):=t0;have j0:O (Maps.size Qu=ws.length):=cH;clear t0 cH;have i0:=zn9 hf;have HI:O ((prog.info? 217).map (·.size)=some (Yq nd).toArray.size):=by
  show _=_;rw[Tryz.infoContent];simp only[size_toArray,zx5 nd hf.2.2.2.2.2.1]
 generalize hcl:(Yq nd).toArray=cl at*;have C0:T<w.heap.size:=Qe w _ hT;have D0:=e0.lt;have HK:O (keyOf prog 217 (.agg cl)=some (Jq prog nd)):=i0;have HO:O (w.ownsMap (H:=Unit) prog 217 (plainElem prog 3) B n Qu):=e0;have k0:O (∀nd,Fl.fits nd->(Maps.has Qu (Jq prog nd)=true ↔ nd∈ws)):=hD;have HT:O (w.cell? ⟨T,0,none⟩=some (.map (some B))):=hT;clear i0 e0 hD hcl hT
 go_enter func106,ntmps106
 go_wp2_with fail
 obtain⟨W0,l0⟩:=U (w.alloc (.cells cl 217));rw[<-l0]
 have g0:w.grownBy W0 none:=by rw[l0];exact grownBy_alloc _ _ _
 have u0:W0.cell? ⟨T,0,none⟩=some (.map (some B)):=g0.cell HT (by simp);have a0:W0.ownsMap (H:=Unit) prog 217 (plainElem prog 3) B n Qu:=HO.kept g0 (by simp)
 have HX:O (W0.heap[w.heap.size]?=some (.cells cl 217 (0,0))):=by show _=_;rw[l0];exact heap_alloc_last _ _
 have v0:O (W0.ownsMap (H:=Unit) prog 217 (plainElem prog 3) B n Qu):=a0;have h0:O (w.grownBy W0 none):=g0;obtain⟨v,ps,p0,hv⟩:=a0.drew.look_ok Ug underlying257 (yp3 _) (zd:=.lit (.int .i64 0)) (zp:=[]) (plainElem_int underlying3 (by decide)) HK.out;obtain⟨c,rfl,hc,E0⟩:=plainElem_int_inv underlying3 hv;have F0:O (Qu.atKey (Jq prog nd) (.lit (.int .i64 0))=.lit (.int .i64 c)):=congrArg Prod.fst hc;obtain⟨t,ht⟩:=U (Maps.has Qu (Jq prog nd));rw[<-ht]at p0;have x0:O ((Instr.lookup 257 (.map (some B)) (.agg cl) true).run prog W0.drew=.ok (.tuple #[.int .i64 c,.bool t]) W0.drew):=p0;have q0:O (t=Maps.has Qu (Jq prog nd)):=ht;clear l0 g0 a0 p0 hv hc E0 HO ht;refine wp_region_still_lit (by kernel_rfl) (by kernel_rfl) ?_
 iterate 4 still_step
 refine Xm rfl (.agg cl) (zy1 _ 217 rfl w.heap.size rfl cl _ _ HX _ underlying217 rfl HI) ?_;refine Xm rfl (.tuple #[.int .i64 c,.bool t]) (Jk _ _ 257 rfl (.map (some B)) (.agg cl) _ rfl rfl x0) ?_
 repeat still_step
 refine wpStill_nil ?_;have m0:W0.drew.cell? ⟨T,0,none⟩=some (.map (some B)):=u0;have b0:O (w.grownBy W0.drew none):=⟨h0.os,h0.tape,h0.out.output,h0.size,h0.block⟩;have c0:O (W0.drew.ownsMap (H:=Unit) prog 217 (plainElem prog 3) B n Qu):=v0.out;have y0:O (W0.drew.heap[w.heap.size]?=some (.cells cl 217 (0,0))):=HX.out
 change Exit.then _ _ _ _ W0.drew
 generalize W0.drew=W1 at*;clear u0 h0 v0 HX x0
 cases t with
 |true=>
  have dK:nd∈ws:=(k0 nd hf).1 q0.symm;have r0:O (nd∈ws):=dK;clear dK;go_wp2
  go_ret2
  obtain⟨i,hi,n0⟩:=getElem_of_mem r0.out;have G0:c=(i:Int):=by
   have h5:=(o0 i hi).2 (.lit (.int .i64 0));rw[n0,F0.out]at h5;injection h5 with h5;injection h5
  exact⟨.inl ⟨i,hi,n0,by rw[G0];rfl,⟨m0,n,Qu,B0,c0,j0,k0,o0⟩⟩,⟨b0.os,b0.tape,b0.out.output,b0.size,λk hk _=>b0.block k hk (by simp)⟩⟩
 |false=>
  have dS:nd ∉ ws:=λh=>by have:=(k0 nd hf).2 h;rw[<-q0.out]at this;cases this
  have z0:O (nd ∉ ws):=dS;have K0:=c0.size_le;clear dS
  go_wp2_with (at_len;refine wpList_len_own _ rfl _ 257 rfl 217 3 underlying257 _ B n Qu rfl c0 ?_)
  refine wp_region_still_tail 6 (by kernel_rfl) (by kernel_rfl) ?_;simp only[take_succ_cons,take_zero,drop_succ_cons,drop_zero]
  iterate 4 still_step
  refine Xm rfl (.agg cl) (zy1 _ 217 rfl w.heap.size rfl cl _ _ y0 _ underlying217 rfl HI) ?_
  still_step
  refine wpStill_nil ?_;have A0:O (W1.drew.ownsMap (H:=Unit) prog 217 (plainElem prog 3) B n Qu):=c0.out;refine wpList_mapUpdate_own W1.drew rfl _ _ _ 257 rfl 217 3 Ug underlying257 _ B n Qu rfl A0 (by unfold maxLen;omega) _ _ _ rfl rfl HK _ [] (plainElem_int underlying3 (WalkArith.wf_i64 (by omega))) ?_;intro w2 d0 f0;have H0:O (Jh w2 T B (ws++[nd])):=by
   refine⟨?_,n+1,_,by simp;omega,d0,?_,λnd' hf'=>?_,λi hi=>?_⟩
   ·have jh:T≠B:=by
     intro e;obtain⟨es,clock,hb,_⟩:=c0.out;subst e;simp[cell?,hb]at m0
    exact f0.cell m0 (by simpa using jh)
   ·rw[Maps.size_put (c0.tidy Ug),<-q0.out,j0.out];simp
   ·by_cases he:nd'=nd
    ·subst he
     rw[Maps.has_put_same c0.isMap (Ug.key HK)];simp
    rw[Maps.has_put_other (λh=>he (zk3 hf' hf h)),k0 nd' hf',mem_append,mem_singleton];exact⟨λh=> .inl h,λh=>h.elim id (λe=>absurd e he)⟩
   by_cases s0:i<ws.length
   ·rw[getElem_append_left s0]
    have h6:=o0 i s0;refine⟨h6.1,λz=>?_⟩;rw[Maps.atKey_put_other (λh=>z0 (by rw[<-zk3 h6.1 hf h];exact getElem_mem s0))];exact h6.2 z
   have n0:i=ws.length:=(by rw[length_append,length_singleton]at hi;omega);subst n0;rw[getElem_append_right (Nat.le_refl _)];simp only[Nat.sub_self,getElem_cons_zero];refine⟨hf,λz=>?_⟩;rw[Maps.atKey_put_same c0.isMap (Ug.key HK)];rw[j0.out]
  have I0:O (w.grownBy w2 (some B)):=⟨f0.os.trans b0.os,f0.tape.trans b0.tape,f0.output.trans b0.out.output,Nat.le_trans b0.size f0.size,λk hk J0=>(f0.block k (Nat.lt_of_lt_of_le hk b0.size) J0).trans (b0.block k hk (by simp))⟩;clear d0 f0 A0 m0 y0;go_wp2
  go_ret2
  exact⟨.inr ⟨z0,by rw[j0.out];rfl,H0⟩,I0⟩
end Go.Proofs.YtjmcibbdedlcoaaGreatDoor
namespace Go.Proofs.YtjmcibbdedlcoaaGreatDoor
open Go.RowKit Go.Proofs.Tryz List World Region Value Act Fl
variable{w w' w1 wr W w0:World}{nb no N b i j p k x q m f q' B T Xb Fb:Nat}{a:Act}{c:Bool}{v wv lvn:Value}{s:K}{xs:Is}{y:Fl.ar}{o:Oper}{e:Int}{cs:List Value}{ws acc:List Fl.ar}{lvs:Vs}{P:Program}{ops:Array Oper}{Q:Exit->Act->World->Prop}{S:World->Prop}
def Tryz.infoNodeW:(Tryz.prog.info? 188).map (λi=>(i.zero,i.size,i.bytes))=some (some (.agg #[.int .i64 0,.int .i64 0,.int .i64 0,.int .i64 0,.int .i64 0,.slice none 0 0]),6,64):=by kernel_rfl
def zwv(w:World)(b:Nat):Prop:=∃cs fr,w.heap[b]?=some (.cells cs 3 fr)
def zwv.of(h:zwv w b)(e:w'.heap[b]?=w.heap[b]?):zwv w' b:=by
 obtain⟨cs,fr,h1⟩:=h;exact⟨cs,fr,e.trans h1⟩
def zwv.lt(h:zwv w b):b<w.heap.size:=by
 obtain⟨cs,fr,h1⟩:=h;rcases Nat.lt_or_ge b w.heap.size with h|h
 ·exact h
 rw[Array.getElem?_eq_none h]at h1;cases h1
structure Yd(w0 w:World)(Xb T B Fb:Nat)(wv:Value)(acc:List Fl.ar)(lvs:List Value):Prop where
 x0:w0.heap.size<=B/\B<T/\T<Xb
 hz:Xb<w.heap.size
 c0:w.cell? ⟨Xb,0,none⟩=some (.pointer (some ⟨Fb,0,none⟩))
 c1:w.cell? ⟨Xb,1,none⟩=some wv
 c2:w.cell? ⟨Xb,2,none⟩=some (.pointer (some ⟨T,0,none⟩))
 fz:∀j,w.frozen? ⟨Xb,j,none⟩=false
 se:Jh w T B acc
 hl:lvs.length=acc.length
 ow:w.ownsRow (Xb+1) 188 6 wv acc.length (flat acc lvs)
 li:∀p,p∈Vy acc lvs->Jy w p.1 p.2 (.slice none 0 0) wv/\(p.2≠[]->∀b,p.1.ownBlock=some b->Xb<b/\zwv w b)
 be:Below w0.heap.size w0 w
structure zfw(w0 w:World)(Xb T B Fb:Nat)(wv:Value)(acc:List Fl.ar)(lvs:List Value):Prop where
 x0:w0.heap.size<=B/\B<T/\T<Xb
 hz:Xb<w.heap.size
 c0:w.cell? ⟨Xb,0,none⟩=some (.pointer (some ⟨Fb,0,none⟩))
 c1:w.cell? ⟨Xb,1,none⟩=some wv
 c2:w.cell? ⟨Xb,2,none⟩=some (.pointer (some ⟨T,0,none⟩))
 fz:∀j,w.frozen? ⟨Xb,j,none⟩=false
 hl:lvs.length=acc.length
 ow:w.ownsRow (Xb+1) 188 6 wv acc.length (flat acc lvs)
 li:∀p,p∈Vy acc lvs->Jy w p.1 p.2 (.slice none 0 0) wv/\(p.2≠[]->∀b,p.1.ownBlock=some b->Xb<b/\zwv w b)
 be:Below w0.heap.size w0 w
structure Yc(w w':World)(Xb B:Nat)(wv wv':Value):Prop where
 os:w'.os=w.os
 tp:w'.tape=w.tape
 ou:w'.output=w.output
 sz:w.heap.size<=w'.heap.size
 bl:∀c,c<w.heap.size->c≠Xb->c≠B->some c≠wv.ownBlock->w'.heap[c]?=w.heap[c]?
 ow:wv'.ownBlock=wv.ownBlock\/∃g,wv'.ownBlock=some g/\w.heap.size<=g
def Yc.cS(h:Below w.heap.size w w'):Yc w w' Xb B wv wv:=⟨h.os,h.tape,h.output,h.size,λc hc _ _ _=>h.block c hc,.inl rfl⟩
def Yc.trans{w w' w'':World}{Xb B:Nat}{wv wv' wv'':Value}(h:Yc w w' Xb B wv wv')(h':Yc w' w'' Xb B wv' wv''):Yc w w'' Xb B wv wv'':=by
 refine⟨h'.os.trans h.os,h'.tp.trans h.tp,h'.ou.trans h.ou,Nat.le_trans h.sz h'.sz,λc h1 h2 h3 h4=>?_,?_⟩
 ·refine(h'.bl c (Nat.lt_of_lt_of_le h1 h.sz) h2 h3 (λhh=>?_)).trans (h.bl c h1 h2 h3 h4)
  rcases h.ow with e|⟨g,e,hg⟩
  ·exact h4 (hh.trans e)
  rw[e]at hh;injection hh with hh;omega
 rcases h'.ow with e|⟨g,e,hg⟩
 ·rw[e];exact h.ow
 exact .inr ⟨g,e,Nat.le_trans h.sz hg⟩
def Yd.below{w0 w w':World}{Xb T B Fb:Nat}{wv:Value}{acc:List Fl.ar}{lvs:List Value}(h:Yd w0 w Xb T B Fb wv acc lvs)(hb:Below w.heap.size w w'):Yd w0 w' Xb T B Fb wv acc lvs:=by
 have og:w.grownBy w' none:=⟨hb.os,hb.tape,hb.output,hb.size,λk hk _=>hb.block k hk⟩;have hx:=h.hz;exact⟨h.x0,Nat.lt_of_lt_of_le hx hb.size,(hb.cell (p:=⟨Xb,0,none⟩) hx).trans h.c0,(hb.cell (p:=⟨Xb,1,none⟩) hx).trans h.c1,(hb.cell (p:=⟨Xb,2,none⟩) hx).trans h.c2,λj=>(hb.frozen (p:=⟨Xb,j,none⟩) hx).trans (h.fz j),h.se.kept og (by simp) (by simp),h.hl,zjy h.ow hb,λp hp=>⟨(h.li p hp).1.below hb,λhn b hbb=>⟨((h.li p hp).2 hn b hbb).1,((h.li p hp).2 hn b hbb).2.of (hb.block b ((h.li p hp).2 hn b hbb).2.lt)⟩⟩,h.be.trans (hb.mono h.be.size)⟩
def yn4{nd:Fl.ar}(hi:i<ws.length)(he:ws[i]=nd)(hu:∀j,(hj:j<ws.length)->ws[j]=nd->j=i):cI ws nd=((i:Int),ws):=by
 have nth_at:∀j,(hj:j<ws.length)->nth ws j=ws[j]:=λj hj=>by unfold nth;rw[Qa,Qb hj];rfl
 have hf:(range ws.length).find? (λj=>eh (nth ws j) nd)=some i:=by
  have h1:=zjx (f:=λj=>eh (nth ws j) nd) (l:=range ws.length) (k:=i) (by simpa using hi) (λt ht=>?_) ?_
  ·simpa using h1
  ·simp only[getElem_range]
   cases hc:eh (nth ws t) nd
   ·rfl
   have h2:=(dg _ _).1 hc;rw[nth_at t (by omega)]at h2;have:=hu t (by omega) h2;omega
  simp only[getElem_range];exact(dg _ _).2 (by rw[nth_at i hi];exact he)
 unfold cI;rw[hf]
def ye5{nd:Fl.ar}(h:nd ∉ ws):cI ws nd=((ws.length:Int),ws++[nd]):=by
 have hf:(range ws.length).find? (λj=>eh (nth ws j) nd)=none:=by
  rw[find?_eq_none];intro j hj hc;rw[mem_range]at hj;have h2:=(dg _ _).1 hc;unfold nth at h2;rw[Qa,Qb hj]at h2;exact h (by rw[<-h2];exact getElem_mem hj)
 unfold cI;rw[hf]
def Jh.pO(h:Jh w T B ws)(hi:i<ws.length)(hj:j<ws.length)(he:ws[j]=ws[i]):j=i:=by
 obtain⟨-,n,Qu,-,-,-,-,h4⟩:=h;have h5:=(h4 i hi).2 (.lit (.int .i64 0));have h6:=(h4 j hj).2 (.lit (.int .i64 0));rw[he,h5]at h6;injection h6 with h6;injection h6 with _ h6;omega
def zh5{row:Option Nat}{lv:Value}(h:Zw w.heap.size w lv xs)(hg:w.grownBy w' row)(a0:xs≠[]->∀b,lv.ownBlock=some b->some b≠row):Zw w'.heap.size w' lv xs:=by
 obtain⟨ao,cap,rfl,h1,h2,h3⟩:=h;refine⟨ao,cap,rfl,h1,h2,λhn=>?_⟩;obtain⟨b,off,rfl,hb,hc⟩:=h3 hn;refine⟨b,off,rfl,Qj hb hg.size,λi hi=>?_⟩;exact(cQ (hg.block b hb (a0 hn b rfl)) (hc i hi))
def Yd.pre(h:Yd w0 w Xb T B Fb wv acc lvs)(hg:w.grownBy w' (some B)):zfw w0 w' Xb T B Fb wv acc lvs:=by
 obtain⟨x1,x2,x3⟩:=h.x0
 have a0:some Xb≠some B:=by simp;omega
 have b0:wv.ownBlock≠some B:=λhh=>by have:=(h.ow.lt B hh).1;omega
 refine⟨h.x0,Qj h.hz hg.size,hg.cell h.c0 a0,hg.cell h.c1 a0,hg.cell h.c2 a0,λj=>(Qd (w:=w) (hg.block Xb h.hz a0)).trans (h.fz j),h.hl,h.ow.kept hg (.inr b0),λp hp=>?_,h.be.grown hg (Nat.le_trans x1 (by have:=h.hz;omega)) (λk hk=>by injection hk with hk;omega)⟩;obtain⟨hk,hx⟩:=h.li p hp;exact⟨⟨zh5 hk.1 hg (λhn b hb=>by have:=(hx hn b hb).1;simp;omega),hk.2⟩,λhn b hb=>⟨(hx hn b hb).1,(hx hn b hb).2.of (hg.block b (hx hn b hb).2.lt (by have:=(hx hn b hb).1;simp;omega))⟩⟩
def Yd.dt(h:Yd w0 w Xb T B Fb wv acc lvs)(hg:w.grownBy w' (some B))(hs:Jh w' T B acc):Yd w0 w' Xb T B Fb wv acc lvs:=
 ⟨(h.pre hg).x0,(h.pre hg).hz,(h.pre hg).c0,(h.pre hg).c1,(h.pre hg).c2,(h.pre hg).fz,hs,(h.pre hg).hl,(h.pre hg).ow,(h.pre hg).li,(h.pre hg).be⟩
def zfw.push{W1 W2:World}{wv':Value}{nd:Fl.ar}(h:zfw w0 w Xb T B Fb wv acc lvs)(hs:Jh w T B (acc++[nd]))(hb:E w W1)(hi:Zw w.heap.size w lvn nd.aU)(hf:nd.aU≠[]->∀b,lvn.ownBlock=some b->Xb<b/\some b≠wv.ownBlock/\zwv w b)
  (ho:W2.ownsRow (Xb+1) 188 6 wv' (acc.length+1) (flat acc lvs++Yk nd lvn)) (hg:W1.grownBy W2 wv.ownBlock) (hw:wv'.ownBlock=wv.ownBlock\/wv'.ownBlock=some W1.heap.size):
  Yd w0 (W2.setCell (Y Xb 1) wv') Xb T B Fb wv' (acc++[nd]) (lvs++[lvn]):=by
 obtain⟨x1,x2,x3⟩:=h.x0;have hz:=h.hz;have cH:=hb.size;have d0:=hg.size
 have b0:∀c,wv.ownBlock=some c->Xb<c/\c<w.heap.size:=λc hc=>by have:=h.ow.lt c hc;omega
 have ne:∀c,c<=Xb->some c≠wv.ownBlock:=λc hc hh=>by have:=b0 c hh.symm;omega
 have c0:D W2 Xb 0 (M Fb):=hg.cell (cT hb hz h.c0) (ne Xb lE);have c1:D W2 Xb 1 wv:=hg.cell (cT hb hz h.c1) (ne Xb lE);have c2:D W2 Xb 2 (M T):=hg.cell (cT hb hz h.c2) (ne Xb lE);have og:w.grownBy W1 none:=⟨hb.os,hb.tape,hb.output,hb.size,λk hk _=>hb.block k hk⟩;have gs:W2.grownBy (W2.setCell (Y Xb 1) wv') (some Xb):=⟨rfl,rfl,rfl,by rw[Zy];exact Nat.le_refl _,λk hk hn=>Zx _ _ _ _ _ (λe=>hn (by rw[e]))⟩;have se:Jh (W2.setCell (Y Xb 1) wv') T B (acc++[nd]):=((hs.kept og (by simp) (by simp)).kept hg (ne T (by omega)) (ne B (by omega))).kept gs (by simp;omega) (by simp;omega);have hk:∀p,p∈Vy (acc++[nd]) (lvs++[lvn])->Jy W2 p.1 p.2 Zq wv'/\(p.2≠[]->∀b,p.1.ownBlock=some b->Xb<b/\zwv W2 b):=by
  intro p hp;rw[zu2 _ _ _ _ h.hl,mem_append,mem_singleton]at hp;rcases hp with hp|hp
  ·obtain⟨k1,k2⟩:=h.li p hp
   exact⟨(k1.below hb).second hg hw,λhn b a0=>⟨(k2 hn b a0).1,(k2 hn b a0).2.of ((hg.block b (Qj (k2 hn b a0).2.lt cH) (by rw[<-a0];exact(k1.2 hn).2)).trans (hb.block b (k2 hn b a0).2.lt))⟩⟩
  subst hp;refine⟨Jy.second (nv:=wv) ⟨zxx hi hb,λhn=>?_⟩ hg hw,λhn b a0=>⟨(hf hn b a0).1,(hf hn b a0).2.2.of ((hg.block b (Qj (hf hn b a0).2.2.lt cH) (hf hn b a0).2.1).trans (hb.block b (hf hn b a0).2.2.lt))⟩⟩;obtain⟨ao,cap,e,-,-,h3⟩:=hi;obtain⟨b,off,e2,-,-⟩:=h3 hn;have h5:lvn.ownBlock=some b:=(by rw[e,e2];rfl);refine⟨by rw[h5];simp[ownBlock],by rw[h5];exact(hf hn b h5).2.1⟩
 refine⟨h.x0,by rw[Zy];omega,(Qg _ _ _ _ (by intro hh;injection hh with _ h5;omega)).trans c0,cell?_setCell_same' _ _ _ (by rw[c1];rfl),(Qg _ _ _ _ (by intro hh;injection hh with _ h5;omega)).trans c2,λj=>by rw[frozen?_setCell];exact(Qd (w:=W1) (hg.block Xb (by omega) (ne Xb lE))).trans ((hb.frozen (p:=(Y Xb j)) hz).trans (h.fz j)),se,by simp[h.hl],?_,λp hp=>⟨(hk p hp).1.set (λhx hh=>by have:=((hk p hp).2 hx Xb hh).1;omega),λhn b a0=>⟨((hk p hp).2 hn b a0).1,((hk p hp).2 hn b a0).2.of (Zx _ _ _ _ _ (by have:=((hk p hp).2 hn b a0).1;omega))⟩⟩,?_⟩
 ·rw[zq7 _ _ _ _ h.hl,length_append,length_singleton];exact ownsRow_setCell_below ho (by simp) wv'
 exact((h.be.trans (hb.mono (by omega))).grown hg (by omega) (λk hk=>by have:=b0 k hk;omega)).setCell (by show w0.heap.size<=Xb;omega) _
def zz6(X:Value×Is->Prop)(w:World)(acc:List Fl.ar)(lvs:Vs)(acc':List Fl.ar)(lvs':Vs):Prop:=∀p,p∈Vy acc' lvs'->p∈Vy acc lvs\/X p\/p.2=[]\/∀b,p.1.ownBlock=some b->w.heap.size<=b
def zz6.refl(X:Value×Is->Prop)(w:World)(acc:List Fl.ar)(lvs:Vs):zz6 X w acc lvs acc lvs:=λ_ h=> .inl h
def zz6.trans{acc' acc'':List Fl.ar}{lvs' lvs'':Vs}(h:zz6 (λ_=>False) w acc lvs acc' lvs')(hw:w.heap.size<=w'.heap.size)(h':zz6 (λ_=>False) w' acc' lvs' acc'' lvs''):zz6 (λ_=>False) w acc lvs acc'' lvs'':=λp hp=>by
 rcases h' p hp with h1|h1|h1|h1
 ·exact h p h1
 ·exact h1.elim
 ·exact .inr (.inr (.inl h1))
 exact .inr (.inr (.inr λb hb=>Nat.le_trans hw (h1 b hb)))
def Vo(X:Value×Is->Prop)(w0 w:World)(Xb T B Fb:Nat)(wv:Value)(acc:List Fl.ar)(lvs:Vs)(r:Int×List Fl.ar)(e:Ending)(w':World):Prop:=e=.returned (I r.1)/\∃wv' lvs',Yd w0 w' Xb T B Fb wv' r.2 lvs'/\Yc w w' Xb B wv wv'/\zz6 X w acc lvs r.2 lvs'
def ndV(nd:Fl.ar)(lv:Value):Value:=.agg #[I nd.kind,I nd.ag,I nd.a,I nd.b,I nd.c,lv]
section
variable{nd:Fl.ar}
def ztz(h:Yd w0 w Xb T B Fb wv acc lvs)(hf:Fl.fits nd)(hi:Zw w.heap.size w lvn nd.aU)(hb:nd.aU≠[]->∀b,lvn.ownBlock=some b->Xb<b/\some b≠wv.ownBlock/\zwv w b)(hn:acc.length<=100000000):
  F 143 #[M Xb,ndV nd lvn] w (Vo (λp=>p=(lvn,nd.aU)) w0 w Xb T B Fb wv acc lvs (cI acc nd)):=by
 obtain⟨x1,x2,x3⟩:=h.x0;have hz:=h.hz;obtain⟨la,lc,rfl,-⟩:=id hi;obtain⟨ln,D0⟩:=U (nd.aU.length);rw[<-D0]at hi hb⊢;obtain⟨lvn,s0⟩:=U (J la ln lc);rw[<-s0]at hi hb⊢;obtain⟨W0,j0⟩:=U (w.alloc (.cells #[I nd.kind,I nd.ag,I nd.a,I nd.b,I nd.c,lvn] 188))
 have p0:O (E w W0):=by show Below _ _ _;rw[j0];exact bA
 have a1:w.heap.size+1=W0.heap.size:=by rw[j0];simp
 have ND0:Vj W0 w.heap.size 0 nd lvn:=by
  rw[j0];exact⟨by simp,by simp,by simp,by simp,by simp,by simp,by rw[<-j0];exact zxx hi p0⟩
 have q0:O (∀V,E W0 V->Vj V w.heap.size 0 nd lvn):=λV hV=>ND0.below hV;have HC:O (∀V,E W0 V->F 107 #[M w.heap.size] V (Rw (.agg (Yq nd).toArray) V)):=λV hV=>zs4 (q0 V hV) hf.2.2.2.2.2.1;have HX:O (∀V,E W0 V->Yd w0 V Xb T B Fb wv acc lvs):=λV hV=>h.below (p0.trans (hV.mono (by omega)));have L0:O (∀V:World,D V Xb 2 (M T)/\True->D V Xb 2 (M T)/\True):=λV h=>h;have HN:O (∀V,E W0 V->F 106 #[M T,.agg (Yq nd).toArray] V λe w'=>((∃(i:Nat) (hi:i<acc.length),acc[i]=nd/\e=.returned (.tuple #[I (i:Int),.bool false])/\Jh w' T B acc)\/(nd ∉ acc/\e=.returned (.tuple #[I (acc.length:Int),.bool true])/\Jh w' T B (acc++[nd])))/\V.grownBy w' (some B)):=λV hV=>yjz (HX V hV).se hf hn;have HI:=A hi;have g0:=A hb;have HF:=A hf;generalize hcl:(Yq nd).toArray=cl at*;have r0:=A s0;clear ND0 hi hb hf hcl D0 s0;unfold ndV
 go_enter func143,ntmps143
 go_wp2_with fail
 rw[<-j0];clear j0;refine Zm L0 ⟨(HX _ dA).c2,trivial⟩ [4,5] [] [] (by kernel_rfl) (λ_ _ _ _ h=>h) (λops _=>?_)
 iterate 4 refine Zv rfl (by intros;go_simp<;>rfl) (by go_simp<;>rfl) ?_
 refine Zs ?_
 go_wp2_with fail
 refine(HC _ dA).mono ?_;rintro e1 W1 ⟨rfl,E0⟩;have h0:O (E W0 W1):=dA.trans E0;clear E0
 go_wp2_with fail
 refine⟨⟨(HX _ h0).c2,trivial⟩,?_⟩;refine Zs ?_
 go_wp2_with fail
 refine(HN _ h0).mono ?_;rintro e2 W2 ⟨M0,a0⟩;have k0:O (Yd w0 W1 Xb T B Fb wv acc lvs):=HX _ h0.out;have u0:=A a0
 have F0:some Xb≠some B:=by simp;omega
 have c22:D W2 Xb 2 (M T):=a0.cell k0.c2 F0;have b1:=h0.size;have v0:O (Yc w W2 Xb B wv wv):=by
  have l0:E w W1:=p0.trans (h0.mono (by omega));exact⟨a0.os.trans l0.os,a0.tape.trans l0.tape,a0.output.trans l0.output,Nat.le_trans l0.size a0.size,λc h1 _ h3 _=>(a0.block c (Qj h1 l0.size) (by simpa using h3)).trans (l0.block c h1),.inl rfl⟩
 rcases M0 with⟨i,G0,H0,rfl,m0⟩|⟨dS,rfl,m0⟩
 ·have HE:O (Vo (λp=>p=(lvn,nd.aU)) w0 w Xb T B Fb wv acc lvs (cI acc nd) (.returned (I (i:Int))) W2):=by
   have e9:cI acc nd=((i:Int),acc):=yn4 G0 H0 (λj hj he=>m0.pO G0 hj (by rw[he,H0]));rw[e9];exact⟨rfl,wv,lvs,k0.dt a0 m0,v0,zz6.refl _ _ _ _⟩
  clear m0 a0 HC HN q0
  go_wp2_with fail
  refine⟨⟨c22,trivial⟩,?_⟩
  iterate 5 refine Zv rfl (by intros;go_simp<;>rfl) (by go_simp<;>rfl) ?_
  refine Zu ?_;go_wp2;go_ret;exact HE
 go_wp2_with fail
 refine⟨⟨c22,trivial⟩,?_⟩
 iterate 5 refine Zv rfl (by intros;go_simp<;>rfl) (by go_simp<;>rfl) ?_
 refine Zu ?_
 have f0:some w.heap.size≠some B:=by simp;omega
 have i0:=q0 _ h0.out;have t0:=a0.cell i0.c0 f0;have t1:=a0.cell i0.c1 f0;have t2:=a0.cell i0.c2 f0;have t3:=a0.cell i0.c3 f0;have t4:=a0.cell i0.c4 f0;have t5:=a0.cell i0.c5 f0;simp only[Nat.zero_add]at t0 t1 t2 t3 t4 t5;have c21:D W2 Xb 1 wv:=a0.cell k0.c1 F0;have N0:=A m0;have O0:=A dS;have I0:O (zfw w0 W2 Xb T B Fb wv acc lvs):=k0.pre a0;have P0:O (W2.ownsRow (Xb+1) 188 6 wv acc.length (flat acc lvs)):=k0.ow.kept a0 (.inr (λhh=>by have:=(k0.ow.lt B hh).1;omega));rw[r0.out]at t5;clear i0 m0 dS a0 HC HN q0 c22
 go_wp2_with fail
 have Q0:O (∀V:World,(D V Xb 1 wv/\D V w.heap.size 0 (I nd.kind)/\D V w.heap.size 1 (I nd.ag)/\D V w.heap.size 2 (I nd.a)/\D V w.heap.size 3 (I nd.b)/\D V w.heap.size 4 (I nd.c)/\D V w.heap.size 5 (J la ln lc))->(D V Xb 1 wv/\D V w.heap.size 0 (I nd.kind)/\D V w.heap.size 1 (I nd.ag)/\D V w.heap.size 2 (I nd.a)/\D V w.heap.size 3 (I nd.b)/\D V w.heap.size 4 (I nd.c)/\D V w.heap.size 5 (J la ln lc))):=λV h=>h
 have y0:O (∀V:World,(∀b,b<=w.heap.size->some b≠wv.ownBlock->V.heap[b]?=W2.heap[b]?)->D V Xb 1 wv/\D V w.heap.size 0 (I nd.kind)/\D V w.heap.size 1 (I nd.ag)/\D V w.heap.size 2 (I nd.a)/\D V w.heap.size 3 (I nd.b)/\D V w.heap.size 4 (I nd.c)/\D V w.heap.size 5 (J la ln lc)):=λV hV=>by
  have z0:some Xb≠wv.ownBlock:=λhh=>by have:=(h.ow.lt Xb hh.symm).1;omega
  have R0:some w.heap.size≠wv.ownBlock:=λhh=>by have:=(h.ow.lt _ hh.symm).2;omega
  have qx:=Qc (a:=(Y Xb 1)) (hV Xb (by omega) z0);have qn:∀j,V.cell? (Y w.heap.size j)=W2.cell? (Y w.heap.size j):=λj=>Qc (a:=(Y w.heap.size j)) (hV _ lE R0);exact⟨qx.trans c21,(qn 0).trans t0,(qn 1).trans t1,(qn 2).trans t2,(qn 3).trans t3,(qn 4).trans t4,(qn 5).trans t5⟩
 have d1:=v0.sz;have S0:=u0.size;refine Zm Q0 (y0 _ (λb _ _=>rfl)) [6,7,8] [10] [] (by kernel_rfl) (λ_ _ _ _ h=>h) (λops _=>?_)
 iterate 6 refine Zv rfl (by intros;go_simp<;>rfl) (by go_simp<;>rfl) ?_
 refine Zs ?_
 go_wp2_with fail
 obtain⟨W3,o0⟩:=U ((W2.alloc (.cells #[I nd.kind,I nd.ag,I nd.a,I nd.b,I nd.c,J la ln lc] 188)).drew);rw[<-o0]
 have b0:O (E W2 W3):=by show Below _ _ _;rw[o0];exact bA.drew
 have tc:∀j u,(Yk nd (J la ln lc))[j]?=some u->W3.cell? (((Y W2.heap.size 0):Addr).add j)=some u:=by rw[o0];exact yw3 (w:=W2) (l:=Yk nd (J la ln lc))
 have f1:W2.heap.size+1=W3.heap.size:=by rw[o0];simp
 have J0:=y0 W3 (λb hb _=>b0.block b (by omega));have K0:O (W3.ownsRow (Xb+1) 188 6 wv acc.length (flat acc lvs)):=zjy P0 b0.out;obtain⟨i1,T0,U0,V0,X0⟩:=info_parts Tryz.infoNodeW;clear o0;refine⟨J0,?_⟩;refine Zs ?_
 go_wp2_with (at_builtin;refine Ap underlying87 T0 U0 V0 X0 rfl K0 rfl (Yk nd (J la ln lc)) rfl rfl tc (by intro u hu;simp[Yk]at hu;rcases hu with rfl|rfl|rfl|rfl|rfl|rfl<;>rfl) (by unfold maxLen;omega) (by omega) (by omega) ?_)
 intro v' W4 d0 e0 A0;obtain⟨g4,k4,rfl⟩:∃g4 k4,v'=Sq g4 0 (acc.length+1) k4:=by
  rcases d0.2 with⟨h1,h2⟩|⟨g4,cp,cur,h1,_⟩
  ·omega
  exact⟨g4,cp,h1⟩
 have B0:=y0 W4 (λb hb f0=>(e0.block b (by omega) f0).trans (b0.block b (by omega)));have HE:O (Vo (λp=>p=(lvn,nd.aU)) w0 w Xb T B Fb wv acc lvs (cI acc nd) (.returned (I (acc.length:Int))) (W4.setCell (Y Xb 1) (Sq g4 0 (acc.length+1) k4))):=by
  rw[ye5 O0.out];have C0:E w W1:=p0.trans (h0.mono (by omega));have Y0:Zw W2.heap.size W2 (J la ln lc) nd.aU:=by
   rw[<-r0.out];exact zh5 (zxx HI C0) u0 (λhn b hb=>by have:=(g0 hn b hb).1;simp;omega)
  refine⟨rfl,_,lvs++[J la ln lc],zfw.push I0 N0 b0 Y0 (by rw[<-r0.out];exact λhn b n0=>⟨(g0 hn b n0).1,(g0 hn b n0).2.1,(g0 hn b n0).2.2.of ((u0.block b (Qj (g0 hn b n0).2.2.lt C0.size) (by have:=(g0 hn b n0).1;simp;omega)).trans (C0.block b (g0 hn b n0).2.2.lt))⟩) d0 e0 A0,?_⟩;have Z0:Yc W2 (W4.setCell (Y Xb 1) (Sq g4 0 (acc.length+1) k4)) Xb B wv (Sq g4 0 (acc.length+1) k4):=by
   refine⟨e0.os.trans b0.os,e0.tape.trans b0.tape,e0.output.trans b0.out.output,by rw[Zy];exact Nat.le_trans b0.size e0.size,λc h1 h2 h3 h4=>?_,?_⟩
   ·exact(Zx _ _ _ _ _ h2).trans ((e0.block c (by omega) h4).trans (b0.block c h1))
   rcases A0 with e|e
   ·exact .inl e
   exact .inr ⟨_,e,b0.size⟩
  refine⟨v0.trans Z0,λp hp=>?_⟩;rw[zu2 _ _ _ _ h.hl,mem_append,mem_singleton]at hp;rcases hp with hp|hp
  ·exact .inl hp
  exact .inr (.inl (by rw[hp,r0.out]))
 have fzx:W4.frozen? (Y Xb 1)=false:=by
  have z0:some Xb≠wv.ownBlock:=λhh=>by have:=(h.ow.lt Xb hh.symm).1;omega
  exact(Qd (w:=W2) ((e0.block Xb (by omega) z0).trans (b0.block Xb (by omega)))).trans (I0.fz 1)
 have cx1:=B0.1;clear d0 e0 A0 K0 tc J0
 go_wp2_with fail
 refine⟨B0,?_⟩;refine Zs ?_
 go_wp2_with fail
 refine⟨B0,?_⟩;refine Zv rfl (by intros;go_simp<;>rfl) (by go_simp<;>rfl) ?_;refine Xs ?_
 go_wp2_with fail
 refine Zu ?_;go_wp2;go_ret;exact HE
end
def Xo(P:Program)(ops:Array Oper)(S:World->Prop)(Q:Exit->Act->World->Prop)(Qy:Act->World->Prop):List (Nat×Oper)->Act->World->Prop
 |[],a,w=>S w/\Qy a w
 |(0,o)::l,a,w=>∃v,YieldsIf P ops S o v a/\Xo P ops S Q Qy l (a.put o.dst v) w
 |(_+1,o)::l,a,w=>wpList P ops (Exit.then (λa1 w1=>S w1/\Xo P ops S Q Qy l a1 w1) Q) [o] a w
def zyy(ops:Array Oper):List Nat->List (Nat×Nat)->Bool
 |_,[]=>true
 |pre,(0,i)::l=>free .any ops (Zp ops.size pre) i && ((ready .any ops (Zp ops.size pre)).contains i && zyy ops (pre++[i]) l)
 |pre,(_+1,i)::l=>decide (ready .any ops (Zp ops.size pre)=[i]) && zyy ops (pre++[i]) l
section
variable{Qy:Act->World->Prop}
def Yj{l:List (Nat×Oper)}(hg:o.guard=none)
  (h:∀Wx:Act->Prop,(∀a',Xo P ops S Q Qy l a' w->Wx a')->∃v,(∀w,S w->(execOp a.eval o).run P w=.ok (.value v) w)/\Wx (a.put o.dst v)):Xo P ops S Q Qy ((0,o)::l) a w:=by
 obtain⟨v,h1,h2⟩:=h (λa'=>Xo P ops S Q Qy l a' w) (λ_ h=>h);exact⟨v,.inl ⟨by simp[wanted,hg],h1⟩,h2⟩
def Uv{l:List (Nat×Oper)}(h:wpList P ops (Exit.then (λa1 w1=>S w1/\Xo P ops S Q Qy l a1 w1) Q) [o] a w):Xo P ops S Q Qy ((1,o)::l) a w:=h
def Xa(h:S w/\Qy a w):Xo P ops S Q Qy [] a w:=h
def zv3(f:Nat)(hs:noSelect ops=true)(hQ:∀c a d v w,Q (.panic c) (put a d v) w->Q (.panic c) a w):
  ∀(st:List (Nat×Nat)) (so:List (Nat×Oper)) (pre:List Nat) (a:Act) (w:World),S w->st.map (λp=>(p.1,ops[p.2]?))=so.map (λp=>(p.1,some p.2))->zyy ops pre st=true->
  (∀a w,Qy a w->S w->Jr P ops Q S [] f (Zp ops.size (pre++st.map (·.2))) a w)->
  Xo P ops S Q Qy so a w->Jr P ops Q S [] (f+st.length) (Zp ops.size pre) a w
 |[],so,pre,a,w,hS,a0,hB,hE,h=>by
  have:so=[]:=by cases so with|nil=>rfl|cons o so=>simp at a0
  subst this;have:=hE a w h.2 h.1;simpa using this
 |(0,i)::st,so,pre,a,w,hS,a0,hB,hE,h=>by
  cases so with
  |nil=>simp at a0
  |cons p so=>
   obtain⟨c,o⟩:=p;simp only[map_cons,List.cons.injEq,Prod.mk.injEq]at a0;obtain⟨⟨rfl,ho⟩,a0⟩:=a0;simp only[zyy,Qk]at hB;obtain⟨v,h1,h2⟩:=h;have ih:=zv3 f hs hQ st so (pre++[i]) (a.put o.dst v) w hS a0 hB.2.2 (λa w hE' hS'=>by have:=hE a w hE' hS';simpa using this) h2;rw[Yx]at ih;have:=zr9 ho (noSelect_spec hs) (λc a w h=>hQ c a _ _ w h) (by simp) (f+st.length) _ a w (free_spec ho hB.1) (by simpa using hB.2.1) h1 hS ih;simpa [Nat.add_assoc] using this
 |(k+1,i)::st,so,pre,a,w,hS,a0,hB,hE,h=>by
  cases so with
  |nil=>simp at a0
  |cons p so=>
   obtain⟨c,o⟩:=p;simp only[map_cons,List.cons.injEq,Prod.mk.injEq]at a0;obtain⟨⟨rfl,ho⟩,a0⟩:=a0;simp only[zyy,Qk,Qn]at hB;rw[length_cons,<-Nat.add_assoc];refine⟨λh0=>(by rw[hB.1]at h0;cases h0),λx hx=>?_⟩;rw[hB.1]at hx;simp only[mem_singleton]at hx;subst hx;refine wpOp_mono (λa1 w1 hk=>⟨λ_=>hk.1,?_⟩) (Uy ho h);have ih:=zv3 f hs hQ st so (pre++[x]) a1 w1 hk.1 a0 hB.2 (λa w hE' hS'=>by have:=hE a w hE' hS';simpa using this) hk.2
   rwa [Yx]at ih
end
section
variable{Qy:Act->World->Prop}
def yp4{l:List (Nat×Oper)}{b:Bool}(hg:o.guard=some (j,b))(hy:yielded ops a.tmps j=some b)
  (h:∀Wx:Act->Prop,(∀a',Xo P ops S Q Qy l a' w->Wx a')->∃v,(∀w,S w->(execOp a.eval o).run P w=.ok (.value v) w)/\Wx (a.put o.dst v)):Xo P ops S Q Qy ((0,o)::l) a w:=by
 obtain⟨v,h1,h2⟩:=h (λa'=>Xo P ops S Q Qy l a' w) (λ_ h=>h);exact⟨v,.inl ⟨by simp[wanted,hg,hy],h1⟩,h2⟩
def za0{l:List (Nat×Oper)}{b:Bool}(hg:o.guard=some (j,b))(hy:yielded ops a.tmps j=some c)(a0:(some c==some b)=false)
  (h:Xo P ops S Q Qy l (a.put o.dst undef) w):Xo P ops S Q Qy ((0,o)::l) a w:=⟨undef,.inr ⟨by simpa [wanted,hg,hy] using a0,rfl⟩,h⟩
def yn5{l:List (Nat×Oper)}{dst:Option Tmp}{op:Op}{ty:TypeId}{pos:String}{after:Array Edge}{guard:Option (Nat×Bool)}
  (hw:wanted {dst:=dst,op:=op,type:=ty,pos:=pos,after:=after,guard:=guard} (yielded ops a.tmps)=true) (h:wpList P ops (Exit.then (λa1 w1=>S w1/\Xo P ops S Q Qy l a1 w1) Q) [{dst:=dst,op:=op,type:=ty,pos:=pos,after:=after,guard:=none}] a w):
  Xo P ops S Q Qy ((1,{dst:=dst,op:=op,type:=ty,pos:=pos,after:=after,guard:=guard})::l) a w:=Ub hw h
def yv1{l:List (Nat×Oper)}{b:Bool}(hg:o.guard=some (j,b))(hy:yielded ops a.tmps j=some c)(a0:(some c==some b)=false)(hS:S w)
  (h:Xo P ops S Q Qy l (a.put o.dst undef) w):Xo P ops S Q Qy ((1,o)::l) a w:=wpList_skip (by simpa [wanted,hg,hy] using a0) ⟨hS,h⟩
def zo1(P:Program)(ops:Array Oper)(S:World->Prop)(Q:Exit->Act->World->Prop)(so3:List (Nat×Oper))(ox oy:Oper)(a:Act)(w:World):Prop:=
 wpList P ops (Exit.then (λa1 w1=>S w1/\wpList P ops (Exit.then (λa2 w2=>S w2/\Xo P ops S Q (λa3 w3=>Q .normal a3 w3) so3 a2 w2) Q) [oy] a1 w1) Q) [ox] a w
def yy8{id:Nat}{l:List Oper}(S:World->Prop)(st:List (Nat×Nat))(i j:Nat)(st3 Wq:List (Nat×Nat))(hm:P.follows .mixedOrders=true)
  (hB:(noSelect l.toArray && (zyy l.toArray [] st && (decide (ready .any l.toArray (Zp l.toArray.size (st.map (·.2)))=[i,j]) && (decide (ready .any l.toArray (Zp l.toArray.size (st.map (·.2)++[i]))=[j]) && (decide (ready .any l.toArray (Zp l.toArray.size (st.map (·.2)++[j]))=[i]) && (zyy l.toArray (st.map (·.2)++[i]++[j]) st3 && (zyy l.toArray (st.map (·.2)++[j]++[i]) st3 && (decide (ready .any l.toArray (Zp l.toArray.size (st.map (·.2)++[i]++[j]++st3.map (·.2)))=[]) && (decide (ready .any l.toArray (Zp l.toArray.size (st.map (·.2)++[j]++[i]++st3.map (·.2)))=[]) && Wq.all (λp=>decide (((l.toArray[p.1]?).bind λx=>x.dst)=some p.2)))))))))))=true)
  (bt:l.length=st3.length+2+st.length) (so so3:List (Nat×Oper)) (oi oj:Oper) (c0:st.map (λp=>(p.1,l.toArray[p.2]?))=so.map (λp=>(p.1,some p.2))) (a0:st3.map (λp=>(p.1,l.toArray[p.2]?))=so3.map (λp=>(p.1,some p.2))) (hi:l.toArray[i]?=some oi) (hj:l.toArray[j]?=some oj)
  (hQ:∀c a d v w,Q (.panic c) (put a d v) w->Q (.panic c) a w) (hS:S w.drew)
  (h:∀ops:Array Oper,(∀p∈Wq,((ops[p.1]?).bind λx=>x.dst)=some p.2)->Xo P ops S Q (λa' w'=>zo1 P ops S Q so3 oi oj a' w'/\zo1 P ops S Q so3 oj oi a' w') so a w.drew):(Code.region id l.toArray true).wp P Q a w:=by
 simp only[Qk,Qn,all_eq_true]at hB;obtain⟨hs,hh,r0,ri,rj,t1,t2,e1,e2,hG⟩:=hB;have key:=zv3 (P:=P) (Q:=Q) (S:=S) (ops:=l.toArray) (st3.length+2) hs hQ st so [] a w.drew hS c0 hh ?_ (h l.toArray hG)
 ·refine wp_region_any hm (zy0 (S:=S) (late:=[]) _ _ _ _ ?_)
  have e:l.toArray.size=st3.length+2+st.length:=(by simp[bt]);rw[<-e]at key;simpa [Zp] using key
 intro a' w' hE hS'
 have step:∀(x y:Nat) (ox oy:Oper),l.toArray[x]?=some ox->l.toArray[y]?=some oy->ready .any l.toArray (Zp l.toArray.size (st.map (·.2)++[x]))=[y]->zyy l.toArray (st.map (·.2)++[x]++[y]) st3=true->ready .any l.toArray (Zp l.toArray.size (st.map (·.2)++[x]++[y]++st3.map (·.2)))=[]->
   zo1 P l.toArray S Q so3 ox oy a' w'->wpOp P l.toArray Q x (λa1 w1=>(x ∉ ([]:List Nat)->S w1)/\Jr P l.toArray Q S [] (st3.length+1) ((Zp l.toArray.size ([]++st.map (·.2))).setIfInBounds x true) a1 w1) a' w':=by
  intro x y ox oy hx hy h1 h2 h3 hw;refine wpOp_mono (λa1 w1 hk=>⟨λ_=>hk.1,?_⟩) (Uy hx hw);have e1:(Zp l.toArray.size ([]++st.map (·.2))).setIfInBounds x true=Zp l.toArray.size (st.map (·.2)++[x]):=(by rw[Yx];rfl);rw[e1];refine⟨λh0=>(by rw[h1]at h0;cases h0),λz hz=>?_⟩;rw[h1]at hz;simp only[mem_singleton]at hz;subst hz;refine wpOp_mono (λa2 w2 b0=>⟨λ_=>b0.1,?_⟩) (Uy hy hk.2);have e2:(Zp l.toArray.size (st.map (·.2)++[x])).setIfInBounds z true=Zp l.toArray.size (st.map (·.2)++[x]++[z]):=(Yx _ _ _).symm;rw[e2];have:=zv3 (P:=P) (Q:=Q) (S:=S) (ops:=l.toArray) (Qy:=λa3 w3=>Q .normal a3 w3) 0 hs hQ st3 so3 (st.map (·.2)++[x]++[z]) a2 w2 b0.1 a0 h2 (λa3 w3 hE3 _=>⟨h3,hE3⟩) b0.2;simpa using this
 refine⟨λh0=>?_,λz hz=>?_⟩
 ·simp only[nil_append]at h0;rw[r0]at h0;cases h0
 simp only[nil_append]at hz;rw[r0]at hz;simp only[mem_cons,not_mem_nil,or_false]at hz;rcases hz with rfl|rfl
 ·exact step _ j oi oj hi hj ri t1 e1 hE.1
 exact step _ i oj oi hj hi rj t2 e2 hE.2
end
end Go.Proofs.YtjmcibbdedlcoaaGreatDoor
