import Derived.Test.YtaaejabalinojaaGreatDoorM34
set_option linter.all false
set_option maxRecDepth 100000
set_option maxHeartbeats 40000000
namespace Go.Proofs.YtaaejabalinojaaGreatDoor
open Go.RowKit Go.Proofs.Tryz
section
variable{P:Program}{ops:Array Oper}{Q:Exit->Act->World->Prop}{S:World->Prop}
def ynx{o:Oper}{l:List (Nat×Oper)}{a:Act}{w:World}{j:Nat}{b:Bool}(hg:o.guard=some (j,b))(hy:yielded ops a.tmps j=none)
  (h:Yi P ops S Q l (a.put o.dst undef) w):Yi P ops S Q ((0,o)::l) a w:=⟨undef,.inr ⟨by simp[Region.wanted,hg,hy],rfl⟩,h⟩
end
def Yj.drew{base:Nat}{w:World}{Lq:Nat}{rb:Nat->Nat}{n:Nat}{t:Fl.Tab}(h:Yj base w Lq rb n t):Yj base w.drew Lq rb n t:=⟨h.c,h.r,h.z,h.inj,h.ge⟩
section
variable{lo base Rb Pb:Nat}{w0 w w':World}{m:Yn}{r:Fl.RS}{fl:List FlS}{t:Nat}
def zew{w:World}{base:Nat}{e:TypeId}{v:Value}{n:Nat}{xs:List Value}(h:w.ownsRow base e 1 v n xs)(hn:0<n):∃g cap,v=.slice (some ⟨g,0,none⟩) n cap/\base<=g/\g<w.heap.size/\∀j u,xs[j]?=some u->w.cell? ⟨g,j,none⟩=some u:=by
 rcases h.2 with⟨rfl,h0⟩|⟨g,cap,cur,rfl,hb,hg,_⟩
 ·omega
 refine⟨g,cap,rfl,hb,(Array.getElem?_eq_some_iff.1 hg).1,λj u hu=>?_⟩;have h1:=h.cells (g:=g) rfl j u hu
 have h2:(⟨g,0,none⟩:Addr).add j=⟨g,j,none⟩:=by unfold Addr.add;split<;>simp_all
 rw[h2]at h1;exact h1
def Zu.ints(h:Zu lo base Rb Pb w0 w m)(j:Nat)(hj:Zt j)(xs:List Nat)(hr:m.n j=xs.length/\m.xs j=Yk xs)(hz:rSz j=1)(h0:0<xs.length):∃g c,m.v j=.slice (some ⟨g,0,none⟩) xs.length c/\g<w.heap.size/\∀i (hi:i<xs.length),w.cell? ⟨g,i,none⟩=some (.int .i64 (xs[i]:Nat)):=by
 have ho:=h.own j hj;rw[hr.1,hr.2,hz]at ho;obtain⟨g,c,h1,h2,h3,h4⟩:=zew ho h0;exact⟨g,c,h1,h3,λi hi=>h4 i _ (by simp[Yk,hi])⟩
def yz7(h:Zu lo base Rb Pb w0 w m)(hr:zcx r t m)(ht:t<=1000000):
  Calls prog 54 #[.pointer (some ⟨Rb,0,none⟩)] w (zt1 lo base Rb Pb w0 m r.levels.length r.tab (Fl.lattice r.levels.length r.tab)):=by
 obtain⟨b1,b2,b3,b4,b5,b6,b7⟩:=h.hba;obtain⟨d1,k1,P0⟩:=h.shape 1 (by unfold Zt;omega);obtain⟨d5,k5,C0⟩:=h.shape 5 (by unfold Zt;omega);obtain⟨d6,k6,D0⟩:=h.shape 6 (by unfold Zt;omega);rw[hr.r1.1]at P0;rw[hr.r5.1]at C0;rw[hr.r6.1,<-hr.pr]at D0;have k0:Hid (r.tab=Fl.fw r.levels.length (Fl.tab0 r.low r.high)):=rfl;obtain⟨n,hn⟩:=nmE (r.levels.length)
 have Q0:n<=6:=by rw[hn];exact hr.lv
 obtain⟨W2,R0⟩:=nmE (w.setCell ⟨Pb,0,none⟩ (.int .i64 (n:Int)))
 have H2:Hid (Zu lo base Rb Pb w0 W2 {m with N:=n}):=by show Zu _ _ _ _ _ _ _;rw[R0];exact h.setN n
 obtain⟨z,hz⟩:=nmE (W2.heap.size)
 have W1:base<=z:=by rw[hz];exact H2.out.hba.2.2.2.2.2.1
 obtain⟨low,e0⟩:=nmE (r.low);obtain⟨high,a0⟩:=nmE (r.high);rw[<-e0]at C0 D0
 have X1:low.length<=1000000:=by rw[e0];have:=hr.lw;omega
 have J0:Hid (low.length=high.length):=by show _=_;rw[e0,a0];exact hr.pr
 have m1:Hid (∀i (hi:i<low.length),low[i]<n):=by rw[e0,hn];exact λi hi=>hr.bw.1 _ (List.getElem_mem hi)
 have n1:Hid (∀i (hi:i<high.length),high[i]<n):=by rw[a0,hn];exact λi hi=>hr.bw.2 _ (List.getElem_mem hi)
 have HA:Hid (∀W,Below z W2 W->W.cell? ⟨Rb,0,none⟩=some (.pointer (some ⟨Pb,0,none⟩))/\W.cell? ⟨Rb,5,none⟩=some (.slice d5 low.length k5)/\W.cell? ⟨Rb,6,none⟩=some (.slice d6 low.length k6)):=λW hW=>by
  rw[hz]at hW;have h1:=(H2.out.below hW).cR.c;exact⟨h1 0 (by omega),by rw[<-C0];exact h1 5 (by omega),by rw[<-D0];exact h1 6 (by omega)⟩
 have o1:Hid (0<low.length->∃g5 g6,d5=some ⟨g5,0,none⟩/\d6=some ⟨g6,0,none⟩/\∀W,Below z W2 W->∀i (hi:i<low.length) (hi':i<high.length),W.cell? ⟨g5,i,none⟩=some (.int .i64 (low[i]:Nat))/\W.cell? ⟨g6,i,none⟩=some (.int .i64 (high[i]:Nat))):=λh0=>by
  obtain⟨g5,c5,e5,l5,q5⟩:=H2.out.ints 5 (by unfold Zt;omega) low (by rw[e0];exact hr.r5) rfl h0;obtain⟨g6,c6,e6,l6,q6⟩:=H2.out.ints 6 (by unfold Zt;omega) high (by rw[a0];exact hr.r6) rfl (by rw[<-J0.out];exact h0);have e5':m.v 5=.slice (some ⟨g5,0,none⟩) low.length c5:=e5;have e6':m.v 6=.slice (some ⟨g6,0,none⟩) high.length c6:=e6;rw[C0]at e5';rw[D0]at e6';injection e5' with e5a;injection e6' with e6a;refine⟨g5,g6,e5a,e6a,λW hW i hi hi'=>⟨?_,?_⟩⟩
  ·exact(hW.cell (p:=⟨g5,i,none⟩) (by rw[hz];exact l5)).trans (q5 i hi)
  exact(hW.cell (p:=⟨g6,i,none⟩) (by rw[hz];exact l6)).trans (q6 i hi')
 have x0:w.cell? ⟨Rb,0,none⟩=some (.pointer (some ⟨Pb,0,none⟩)):=h.cR.c 0 (by omega)
 have x1:w.cell? ⟨Rb,1,none⟩=some (.slice d1 n k1):=by rw[hn,<-P0];exact h.cR.c 1 (by omega)
 obtain⟨v0,p0⟩:∃v,w.cell? ⟨Pb,0,none⟩=some v:=⟨_,h.cP.c 0 (by omega)⟩;have z0:w.frozen? ⟨Pb,0,none⟩=false:=h.cP.z 0;have A1:Hid (∀W,(Instr.makeSlice 44 (.int .i64 n) (.int .i64 n)).run prog W=.ok (.slice (some ⟨W.heap.size,0,none⟩) n n) (W.alloc (.cells (Vx n (.slice none 0 0)).toArray 93))):=λW=>yn7 W n Q0;have B1:Hid (∀W,(Instr.makeSlice 93 (.int .i64 n) (.int .i64 n)).run prog W=.ok (.slice (some ⟨W.heap.size,0,none⟩) n n) (W.alloc (.cells (Vx n (.bool false)).toArray 4))):=λW=>yn6 W n Q0;rw[<-hn]at k0⊢;rw[<-e0,<-a0]at k0;obtain⟨T,hT⟩:=nmE (r.tab);rw[<-hT]at k0⊢
 have C1:(n:Int)<=6:=by omega
 have Y1:(low.length:Int)<=1000000:=by omega
 have q1:=Zz Q0;have HZ:=Zz hz;have D1:=Zz R0;clear h hr hn R0 hz e0 a0 hT P0 C0 D0
 go_enter func54,ntmps54
 go_wp2_with fail
 rw[A1.out,<-D1.out,<-HZ.out];clear x0 x1 p0 z0;obtain⟨W3,K0⟩:=nmE (W2.alloc (.cells (Vx n (.slice none 0 0)).toArray 93))
 have E1:Hid (Below z W2 W3):=by show Below _ _ _;rw[K0];exact(Below.refl _ _).alloc (by rw[HZ.out];exact Nat.le_refl _) _
 have F1:Hid (zv6 z W3 z (λ_=>0) n 0):=by show zv6 _ _ _ _ _ _;have h1:=zv6.begun W2 n z (by rw[HZ.out];exact Nat.le_refl _) (λ_=>0);rw[K0];rw[<-HZ.out]at h1;exact h1
 rw[<-K0];clear K0
 go_wp2_with fail
 go_loopw [5] (λi wr=>∃(k:Nat) (rb:Nat->Nat),k<=n/\i=.int .i64 k/\Below z W2 wr/\zv6 z wr z rb n k) (λi _=>n - (intOf i).toNat)
 case atStart=>exact⟨0,_,Nat.zero_le _,rfl,E1.out,F1.out⟩
 case round=>
  obtain⟨k,rb,hk,rfl,hB,hQ⟩:=hrel;have HB:=Zz hB;have HQ:=Zz hQ;have L0:z<wr.heap.size:=hQ.ge.2.1;clear hB hQ
  by_cases d0:k<n
  ·have G1:(k:Int)<(n:Int):=by omega
   have q0:wr.cell? ⟨z,k,none⟩=some (.slice none 0 0):=HQ.out.o k (Nat.le_refl _) d0;have f0:wr.frozen? ⟨z,k,none⟩=false:=HQ.out.zL k;obtain⟨Wa,s0⟩:=nmE (wr.alloc (.cells (Vx n (.bool false)).toArray 4));obtain⟨nb,hnb⟩:=nmE (wr.heap.size);have S0:Hid (Below wr.heap.size wr Wa):=(by show Below _ _ _;rw[s0];exact bA);have qa:Wa.cell? ⟨z,k,none⟩=some (.slice none 0 0):=(S0.out.cell (p:=⟨z,k,none⟩) L0).trans q0;have fa:Wa.frozen? ⟨z,k,none⟩=false:=(S0.out.frozen (p:=⟨z,k,none⟩) L0).trans f0;have qb:Wa.cell? ⟨nb,k,none⟩=some (.bool false):=by
    have hc:=(Zd.new wr (Vx n (.bool false)) 4).c k (by simp[Vx];exact d0);rw[s0,hnb,hc];simp[rw_,Vx,d0]
   have fb:Wa.frozen? ⟨nb,k,none⟩=false:=(by rw[s0,hnb];exact(Zd.new wr (Vx n (.bool false)) 4).z k);have Z1:z<nb:=(by rw[hnb];exact L0);have g0:Hid (zv6 z ((Wa.setCell ⟨z,k,none⟩ (.slice (some ⟨nb,0,none⟩) n n)).setCell ⟨nb,k,none⟩ (.bool true)) z (λa=>if a=k then nb else rb a) n (k+1)):=(by show zv6 _ _ _ _ _ _;rw[s0,hnb];exact HQ.out.next d0);have n0:Hid (Below z W2 ((Wa.setCell ⟨z,k,none⟩ (.slice (some ⟨nb,0,none⟩) n n)).setCell ⟨nb,k,none⟩ (.bool true))):=((HB.out.trans (S0.out.mono (by omega))).setCell (Nat.le_refl _) _).setCell (by show z<=nb;omega) _;have H1:=Zz s0;have U0:=Zz hnb;clear q0 f0 s0 hnb
   go_wp2_with fail
   rw[B1.out,<-H1.out,<-U0.out];go_wp2
   go_roundw
   case rel=>exact⟨k+1,_,by omega,by go_num,n0.out,g0.out⟩
   case measure=>simp[intOf];omega
  have G1:¬(k:Int)<(n:Int):=(by omega)
  obtain rfl:k=n:=by omega
  have t0:Hid (Yj z wr z rb k (Fl.tab0 (low.take 0) (high.take 0))):=HQ.out.all;clear HQ L0
  go_wp2_with fail
  obtain⟨wo,I1⟩:=nmE (wr);subst I1;have J1:(k:Int)<=6:=C1
  go_loopw [6] (λi wr=>∃p:Nat,p<=low.length/\i=.int .i64 p/\Below z W2 wr/\Yj z wr z rb k (Fl.tab0 (low.take p) (high.take p))) (λi _=>low.length - (intOf i).toNat)
  case atStart=>exact⟨0,Nat.zero_le _,rfl,HB.out,t0.out⟩
  case round=>
   obtain⟨p,hp,rfl,hB,hQ⟩:=hrel;clear HB t0;have HB:=Zz hB;have HQ:=Zz hQ;clear hB hQ;obtain⟨y0,y5,y6⟩:=HA.out wr HB.out
   by_cases d0:p<low.length
   ·have K1:(p:Int)<(low.length:Int):=by omega
    have M0:p<high.length:=(by rw[<-J0.out];exact d0);obtain⟨g5,g6,e5,e6,hg⟩:=o1.out (by omega);have c56:=hg wr.drew HB.out.drew p d0 M0;rw[e5]at y5;rw[e6]at y6;have u0:=m1.out p d0;have V0:=n1.out p M0;have g0:Hid (Yj z (wr.drew.setCell ⟨rb low[p],high[p],none⟩ (.bool true)) z rb k (Fl.tab0 (low.take (p+1)) (high.take (p+1)))):=HQ.out.drew.pair J0.out d0 M0 u0 V0;have n0:Hid (Below z W2 (wr.drew.setCell ⟨rb low[p],high[p],none⟩ (.bool true))):=HB.out.drew.setCell (HQ.out.ge.2 _ u0).1 _;have cL:wr.drew.cell? ⟨z,low[p],none⟩=some (.slice (some ⟨rb low[p],0,none⟩) k k):=HQ.out.drew.c _ u0;obtain⟨vr,cR⟩:∃v,wr.drew.cell? ⟨rb low[p],high[p],none⟩=some v:=⟨_,HQ.out.drew.r _ _ u0 V0⟩;have fR:wr.drew.frozen? ⟨rb low[p],high[p],none⟩=false:=HQ.out.drew.z _ _ u0;have y5':wr.drew.cell? ⟨Rb,5,none⟩=some (.slice (some ⟨g5,0,none⟩) low.length k5):=y5;have y6':wr.drew.cell? ⟨Rb,6,none⟩=some (.slice (some ⟨g6,0,none⟩) low.length k6):=y6;have cl1:(wr.drew).cell? ⟨g5,p,none⟩=some (.int .i64 (low[p]:Nat)):=c56.1;have ch1:(wr.drew).cell? ⟨g6,p,none⟩=some (.int .i64 (high[p]:Nat)):=c56.2;obtain⟨la,m0⟩:=nmE (low[p]);obtain⟨hb,s1⟩:=nmE (high[p]);rw[<-m0]at cl1 cL cR fR g0 n0 u0;rw[<-s1]at ch1 cR fR g0 n0 V0;have L1:(la:Int)<(k:Int):=(by omega);have M1:(hb:Int)<(k:Int):=(by omega);clear c56 hg m0 s1 e5 e6 y0 M0
    go_wp2_with fail
    refine Zi (λW=>W.cell? ⟨Rb,5,none⟩=some (.slice (some ⟨g5,0,none⟩) low.length k5)/\W.cell? ⟨Rb,6,none⟩=some (.slice (some ⟨g6,0,none⟩) low.length k6)/\W.cell? ⟨g5,p,none⟩=some (.int .i64 (la:Nat))/\W.cell? ⟨g6,p,none⟩=some (.int .i64 (hb:Nat))/\W.cell? ⟨z,la,none⟩=some (.slice (some ⟨rb la,0,none⟩) k k)) [] [18] [] ⟨y5',y6',cl1,ch1,cL⟩ (by kernel_rfl) (λc a d v w h=>by cases d<;>exact h) (λops hG=>?_);clear hG y5 y6 y5' y6' cl1 ch1 cL
    iterate 18 refine Zw rfl (by rintro _ ⟨_,_,_,_,_⟩;go_simp<;>rfl) (by go_simp<;>rfl) ?_
    refine Xm ?_
    go_wp2_with fail
    refine Zs ?_;go_wp2
    go_roundw
    case rel=>exact⟨p+1,by omega,by go_num,n0.out,g0.out⟩
    case measure=>simp[intOf];omega
   have K1:¬(p:Int)<(low.length:Int):=(by omega)
   obtain rfl:p=low.length:=by omega
   have t0:Hid (Yj z wr z rb k (Fl.fw 0 (Fl.tab0 low high))):=(by show Yj _ _ _ _ _ _;have h1:=HQ.out;rw[List.take_length,J0.out,List.take_length]at h1;exact h1);clear HQ
   go_wp2_with fail
   clear y5 y6 y0;obtain⟨T0,t1⟩:=nmE (Fl.tab0 low high);rw[<-t1]at k0 t0;clear t1 o1 m1 n1;obtain⟨wo2,W0⟩:∃wo,wo=wr:=⟨_,rfl⟩;subst W0
   go_loopw [7] (λi wr=>∃s:Nat,s<=k/\i=.int .i64 s/\Below z W2 wr/\Yj z wr z rb k (Fl.fw s T0)) (λi _=>k - (intOf i).toNat)
   case atStart=>exact⟨0,Nat.zero_le _,rfl,HB.out,t0.out⟩
   case round=>
    obtain⟨s,hs,rfl,hB,hQ⟩:=hrel;clear HB t0;have HB:=Zz hB;have HQ:=Zz hQ;clear hB hQ
    by_cases d0:s<k
    ·have N1:(s:Int)<(k:Int):=by omega
     have u1:Hid (Yj z wr z rb k (Fl.mixTab s (Fl.fw s T0) 0 0)):=HQ.out.mixZero;clear HQ
     go_wp2_with fail
     obtain⟨wo3,X0⟩:∃wo,wo=wr:=⟨_,rfl⟩;subst X0
     go_loopw [8] (λi wr=>∃x:Nat,x<=k/\i=.int .i64 x/\Below z W2 wr/\Yj z wr z rb k (Fl.mixTab s (Fl.fw s T0) x 0)) (λi _=>k - (intOf i).toNat)
     case atStart=>exact⟨0,Nat.zero_le _,rfl,HB.out,u1.out⟩
     case round=>
      obtain⟨x,hx,rfl,hB,hQ⟩:=hrel;clear HB u1;have HB:=Zz hB;have HM:=Zz hQ;clear hB hQ
      by_cases A0:x<k
      ·have O1:(x:Int)<(k:Int):=by omega
       go_wp2_with fail
       obtain⟨wo4,Y0⟩:∃wo,wo=wr:=⟨_,rfl⟩;subst Y0
       go_loopw [9] (λi wr=>∃y:Nat,y<=k/\i=.int .i64 y/\Below z W2 wr/\Yj z wr z rb k (Fl.mixTab s (Fl.fw s T0) x y)) (λi _=>k - (intOf i).toNat)
       case atStart=>exact⟨0,Nat.zero_le _,rfl,HB.out,HM.out⟩
       case round=>
        obtain⟨y,hy,rfl,hB,hQ⟩:=hrel;clear HB HM;have HB:=Zz hB;have HM:=Zz hQ;clear hB hQ
        by_cases Z0:y<k
        ·have P1:(y:Int)<(k:Int):=by omega
         have g0:Hid (Yj z (wr.drew.setCell ⟨rb x,y,none⟩ (.bool (Fl.mixTab s (Fl.fw s T0) x y x y||(Fl.mixTab s (Fl.fw s T0) x y x s && Fl.mixTab s (Fl.fw s T0) x y s y)))) z rb k (Fl.mixTab s (Fl.fw s T0) x (y+1))):=HM.out.drew.mix A0 Z0;have n0:Hid (∀v,Below z W2 (wr.drew.setCell ⟨rb x,y,none⟩ v)):=λv=>HB.out.drew.setCell (HM.out.ge.2 _ A0).1 _;have cx:wr.drew.cell? ⟨z,x,none⟩=some (.slice (some ⟨rb x,0,none⟩) k k):=HM.out.drew.c _ A0;have cs:wr.drew.cell? ⟨z,s,none⟩=some (.slice (some ⟨rb s,0,none⟩) k k):=HM.out.drew.c _ d0;have r1:wr.drew.cell? ⟨rb x,y,none⟩=some (.bool (Fl.mixTab s (Fl.fw s T0) x y x y)):=HM.out.drew.r _ _ A0 Z0;have r2:wr.drew.cell? ⟨rb x,s,none⟩=some (.bool (Fl.mixTab s (Fl.fw s T0) x y x s)):=HM.out.drew.r _ _ A0 d0;have r3:wr.drew.cell? ⟨rb s,y,none⟩=some (.bool (Fl.mixTab s (Fl.fw s T0) x y s y)):=HM.out.drew.r _ _ d0 Z0;have fz:wr.drew.frozen? ⟨rb x,y,none⟩=false:=HM.out.drew.z _ _ A0;generalize Fl.mixTab s (Fl.fw s T0) x y x y=c1 at*;generalize Fl.mixTab s (Fl.fw s T0) x y x s=c2 at*;generalize Fl.mixTab s (Fl.fw s T0) x y s y=c3 at*;clear HM
         cases c1 with
         |true=>
          have g0:=Zz g0.out
          go_wp2_with fail
          refine Zi (λW=>W.cell? ⟨z,x,none⟩=some (.slice (some ⟨rb x,0,none⟩) k k)/\W.cell? ⟨z,s,none⟩=some (.slice (some ⟨rb s,0,none⟩) k k)/\W.cell? ⟨rb x,y,none⟩=some (.bool true)/\W.cell? ⟨rb x,s,none⟩=some (.bool c2)/\W.cell? ⟨rb s,y,none⟩=some (.bool c3)) [] [31] [(12,98),(20,106)] ⟨cx,cs,r1,r2,r3⟩ (by kernel_rfl) (λc a d v w h=>by cases d<;>exact h) (λops ⟨g1,g2,_⟩=>?_);clear cx cs r2 r3
          iterate 13 refine Zw rfl (by rintro _ ⟨_,_,_,_,_⟩;go_simp<;>rfl) (by go_simp<;>rfl) ?_
          iterate 8
           refine Ys rfl (c:=true) (by simp[yielded,g1,Act.put]) (by decide) ?_
          iterate 7
           refine ynx rfl (by simp[yielded,g2,Act.put,undef]) ?_
          iterate 1
           refine Ys rfl (c:=true) (by simp[yielded,g1,Act.put]) (by decide) ?_
          iterate 2 refine Zw rfl (by rintro _ ⟨_,_,_,_,_⟩;go_simp<;>rfl) (by go_simp<;>rfl) ?_
          clear g1 g2;refine Xm ?_
          go_wp2_with fail
          refine Zs ?_;go_wp2
          go_roundw
          case rel=>exact⟨y+1,by omega,by go_num,n0.out _,g0.out⟩
          case measure=>simp[intOf];omega
         |false=>
          cases c2 with
          |false=>
           have g0:=Zz g0.out
           go_wp2_with fail
           refine Zi (λW=>W.cell? ⟨z,x,none⟩=some (.slice (some ⟨rb x,0,none⟩) k k)/\W.cell? ⟨z,s,none⟩=some (.slice (some ⟨rb s,0,none⟩) k k)/\W.cell? ⟨rb x,y,none⟩=some (.bool false)/\W.cell? ⟨rb x,s,none⟩=some (.bool false)/\W.cell? ⟨rb s,y,none⟩=some (.bool c3)) [] [31] [(12,98),(20,106)] ⟨cx,cs,r1,r2,r3⟩ (by kernel_rfl) (λc a d v w h=>by cases d<;>exact h) (λops ⟨g1,g2,_⟩=>?_);clear cx cs r2 r3
           iterate 21 refine Zw (by first|rfl|simp[Region.wanted,yielded,g1,Act.put]) (by rintro _ ⟨_,_,_,_,_⟩;go_simp<;>rfl) (by go_simp<;>rfl) ?_
           iterate 7
            refine Ys rfl (c:=false) (by simp[yielded,g2,Act.put]) (by decide) ?_
           iterate 3 refine Zw (by first|rfl|simp[Region.wanted,yielded,g1,Act.put]) (by rintro _ ⟨_,_,_,_,_⟩;go_simp<;>rfl) (by go_simp<;>rfl) ?_
           clear g1 g2;refine Xm ?_
           go_wp2_with fail
           refine Zs ?_;go_wp2
           go_roundw
           case rel=>exact⟨y+1,by omega,by go_num,n0.out _,g0.out⟩
           case measure=>simp[intOf];omega
          |true=>
           have g0:=Zz g0.out
           go_wp2_with fail
           refine Zi (λW=>W.cell? ⟨z,x,none⟩=some (.slice (some ⟨rb x,0,none⟩) k k)/\W.cell? ⟨z,s,none⟩=some (.slice (some ⟨rb s,0,none⟩) k k)/\W.cell? ⟨rb x,y,none⟩=some (.bool false)/\W.cell? ⟨rb x,s,none⟩=some (.bool true)/\W.cell? ⟨rb s,y,none⟩=some (.bool c3)) [] [31] [(12,98),(20,106)] ⟨cx,cs,r1,r2,r3⟩ (by kernel_rfl) (λc a d v w h=>by cases d<;>exact h) (λops ⟨g1,g2,_⟩=>?_);clear cx cs r2 r3
           iterate 31 refine Zw (by first|rfl|simp[Region.wanted,yielded,g1,g2,Act.put]) (by rintro _ ⟨_,_,_,_,_⟩;go_simp<;>rfl) (by go_simp<;>rfl) ?_
           clear g1 g2;refine Xm ?_
           go_wp2_with fail
           refine Zs ?_;go_wp2
           go_roundw
           case rel=>exact⟨y+1,by omega,by go_num,n0.out _,g0.out⟩
           case measure=>simp[intOf];omega
        have P1:¬(y:Int)<(k:Int):=(by omega)
        obtain rfl:y=k:=by omega
        have a1:Hid (Yj z wr z rb y (Fl.mixTab s (Fl.fw s T0) (x+1) 0)):=HM.out.mixRow;clear HM;go_wp2
        go_roundw
        case rel=>exact⟨x+1,by omega,by go_num,HB.out,a1.out⟩
        case measure=>simp[intOf];omega
      have O1:¬(x:Int)<(k:Int):=(by omega)
      obtain rfl:x=k:=by omega
      have a1:Hid (Yj z wr z rb x (Fl.fw (s+1) T0)):=HM.out.mixAll;clear HM;go_wp2
      go_roundw
      case rel=>exact⟨s+1,by omega,by go_num,HB.out,a1.out⟩
      case measure=>simp[intOf];omega
    have N1:¬(s:Int)<(k:Int):=(by omega)
    obtain rfl:s=k:=by omega
    rw[<-k0.out]at HQ;obtain⟨y0,y5,y6⟩:=HA.out wr HB.out;have N0:Hid (Zu lo base Rb Pb w0 wr {m with N:=s}):=by
     have h1:=HB.out;rw[HZ.out]at h1;exact H2.out.below h1
    obtain⟨v1,p1⟩:∃v,wr.cell? ⟨Pb,1,none⟩=some v:=⟨_,N0.out.cP.c 1 (by omega)⟩;have pz:wr.frozen? ⟨Pb,1,none⟩=false:=N0.out.cP.z 1;have l0:Hid (Zu lo base Rb Pb w0 (wr.setCell ⟨Pb,1,none⟩ (.slice (some ⟨z,0,none⟩) s s)) {m with N:=s,leq:=.slice (some ⟨z,0,none⟩) s s}):=N0.out.setLeq _;have j0:Hid (Yj z (wr.setCell ⟨Pb,1,none⟩ (.slice (some ⟨z,0,none⟩) s s)) z rb s T):=HQ.out.kept (λb hb _=>Zx _ _ _ _ _ (by omega));clear HQ y5 y6 N0 HB
    go_wp2_with fail
    obtain⟨W5,y1⟩:=nmE (wr.setCell ⟨Pb,1,none⟩ (.slice (some ⟨z,0,none⟩) s s));rw[<-y1]at l0 j0⊢;clear y1 p1 pz y0;obtain⟨wo5,e1⟩:∃wo,wo=wr:=⟨_,rfl⟩;subst e1;have y0:W5.cell? ⟨Rb,0,none⟩=some (.pointer (some ⟨Pb,0,none⟩)):=l0.out.cR.c 0 (by omega);have p0:W5.cell? ⟨Pb,0,none⟩=some (.int .i64 s):=l0.out.cP.c 0 (by omega);have p1:W5.cell? ⟨Pb,1,none⟩=some (.slice (some ⟨z,0,none⟩) s s):=l0.out.cP.c 1 (by omega)
    have b0:Hid (∀v:Bool,v=Fl.lattice s T->zt1 lo base Rb Pb w0 m s T (Fl.lattice s T) (.returned (.bool v)) W5):=λv hv=>by
     rw[<-hv];refine⟨rfl,_,_,λb=>0<s/\(b=z\/∃i,i<s/\b=rb i),W5,{l0.out with kp:=λb hb=>?_},rfl,z,rb,rfl,⟨j0.out.c,j0.out.r,j0.out.z,j0.out.inj,Nat.zero_le _,λi hi=>⟨Nat.zero_le _,(j0.out.ge.2 i hi).2⟩⟩,λh0=>⟨h0,.inl rfl⟩,λi hi=>⟨by omega,.inr ⟨i,hi,rfl⟩⟩⟩;have d0:=j0.out.lt hb.1;have Q1:z<=b/\b<W5.heap.size:=by
      rcases hb.2 with rfl|⟨i,hi,rfl⟩
      ·exact⟨Nat.le_refl _,d0.1⟩
      exact⟨(j0.out.ge.2 i hi).1,d0.2 i hi⟩
     refine⟨by omega,Q1.2,rfl,λj hj hh=>?_⟩;have:=((H2.out.own j hj).lt b hh).2;have:=HZ.out;omega
    have HJ:Hid (∀a b,a<s->b<s->Calls prog 92 #[.pointer (some ⟨Pb,0,none⟩),.int .i64 a,.int .i64 b] W5 λe w'=>e=.returned (.int .i64 (Fl.join s T a b))/\w'=W5):=λa b ha hb=>yn4 j0.out Pb a b q1.out ha hb p0 p1;have R1:Hid (∀a b,a<s->b<s->Calls prog 93 #[.pointer (some ⟨Pb,0,none⟩),.int .i64 a,.int .i64 b] W5 λe w'=>e=.returned (.int .i64 (Fl.meet s T a b))/\w'=W5):=λa b ha hb=>yny j0.out Pb a b q1.out ha hb p0 p1;clear p0 p1
    go_loopw [10] (λi wr=>wr=W5/\∃a:Nat,a<=s/\i=.int .i64 a/\∀i j,i<a->j<s->Fl.pairOk s T i j=true) (λi _=>s - (intOf i).toNat)
    case atStart=>exact⟨rfl,0,Nat.zero_le _,rfl,λi j hi=>by omega⟩
    case round=>
     obtain⟨E0,a,ha,rfl,F0⟩:=hrel;have z1:=Zz F0;rw[E0];clear F0 E0 wr
     by_cases m0:a<s
     ·have S1:(a:Int)<(s:Int):=by omega
      go_wp2_with fail
      go_loopw [11] (λi wr=>wr=W5/\∃b:Nat,b<=s/\i=.int .i64 b/\∀j,j<b->Fl.pairOk s T a j=true) (λi _=>s - (intOf i).toNat)
      case atStart=>exact⟨rfl,0,Nat.zero_le _,rfl,λj hj=>by omega⟩
      case round=>
       obtain⟨E0,b,hb,rfl,F0⟩:=hrel;have o0:=Zz F0;rw[E0];clear F0 E0 wr
       by_cases hlb:b<s
       ·have T1:(b:Int)<(s:Int):=by omega
        have ca:=j0.out.c a m0;have cb:=j0.out.c b hlb;have ta:W5.cell? ⟨rb a,b,none⟩=some (.bool (T a b)):=j0.out.r a b m0 hlb;have tb:W5.cell? ⟨rb b,a,none⟩=some (.bool (T b a)):=j0.out.r b a hlb m0
        by_cases r0:a≠b/\T a b=true/\T b a=true
        ·obtain⟨h1,h2,h3⟩:=r0
         have bne:((a:Int) !=(b:Int))=true:=(by rw[bne_iff_ne];omega);rw[h2]at ta;rw[h3]at tb;have HE:Hid _:=b0.out false (Fl.lattice_bad m0 hlb (Fl.pair_both h1 h2 h3)).symm;clear h1 h2 h3;go_wp2;go_ret;exact HE.out
        have f1:Hid (a=b\/T a b=false\/T b a=false):=by
         show _\/_\/_
         by_cases h1:a=b
         ·exact .inl h1
         cases h2:T a b with
         |false=>exact .inr (.inl rfl)
         |true=>cases h3:T b a with
          |false=>exact .inr (.inr rfl)
          |true=>exact absurd ⟨h1,h2,h3⟩ r0
        have i1:Hid (Calls prog 92 #[.pointer (some ⟨Pb,0,none⟩),.int .i64 a,.int .i64 b] W5 λe w'=>e=.returned (.int .i64 (Fl.join s T a b))/\w'=W5):=HJ.out a b m0 hlb;have j1:Hid (Calls prog 93 #[.pointer (some ⟨Pb,0,none⟩),.int .i64 a,.int .i64 b] W5 λe w'=>e=.returned (.int .i64 (Fl.meet s T a b))/\w'=W5):=R1.out a b m0 hlb;have l1:Hid (0<=Fl.join s T a b->0<=Fl.meet s T a b->Fl.pairOk s T a b=true):=Fl.pair_good f1.out;have B0:Hid (Fl.join s T a b<0\/Fl.meet s T a b<0->false=Fl.lattice s T):=λh=>(Fl.lattice_bad m0 hlb (Fl.pair_none h)).symm;generalize Fl.join s T a b=ja at*;generalize Fl.meet s T a b=mb at*;have HD:Hid (a=b\/(a≠b/\T a b=false)\/(a≠b/\T a b=true/\T b a=false)):=by
         show _\/_\/_;rcases f1.out with h1|h1|h1
         ·exact .inl h1
         ·by_cases h2:a=b
          ·exact .inl h2
          exact .inr (.inl ⟨h2,h1⟩)
         by_cases h2:a=b
         ·exact .inl h2
         cases h3:T a b with
         |false=>exact .inr (.inl ⟨h2,rfl⟩)
         |true=>exact .inr (.inr ⟨h2,rfl,h1⟩)
        clear r0 f1;rcases HD.out with h1|⟨h1,h2⟩|⟨h1,h2,h3⟩
        ·have beq:((a:Int) !=(b:Int))=false:=by simp[h1]
         clear h1 ta tb
         go_wp2_with fail
         refine i1.out.mono ?_;rintro e w1 ⟨rfl,c0⟩;rw[c0];clear c0 w1
         go_wp2_with fail
         refine j1.out.mono ?_;rintro e w1 ⟨rfl,c0⟩;rw[c0];clear c0 w1
         by_cases hj:ja<0
         ·have HE:Hid _:=b0.out false (B0.out (.inl hj))
          go_wp2;go_ret;exact HE.out
         have G0:0<=ja:=(by omega);clear hj
         by_cases hj:mb<0
         ·have HE:Hid _:=b0.out false (B0.out (.inr hj))
          go_wp2;go_ret;exact HE.out
         have H0:0<=mb:=(by omega)
         have i0:Hid (∀j,j<b+1->Fl.pairOk s T a j=true):=λj hj=>by
          by_cases I0:j=b
          ·rw[I0];exact l1.out G0 H0
          exact o0.out j (by omega)
         clear hj;go_wp2
         go_roundw
         case rel=>exact⟨by first|rfl|trivial,b+1,by omega,by go_num,i0.out⟩
         case measure=>simp[intOf];omega
        ·have bne:((a:Int) !=(b:Int))=true:=by rw[bne_iff_ne];omega
         rw[h2]at ta;clear h1 h2 tb
         go_wp2_with fail
         refine i1.out.mono ?_;rintro e w1 ⟨rfl,c0⟩;rw[c0];clear c0 w1
         go_wp2_with fail
         refine j1.out.mono ?_;rintro e w1 ⟨rfl,c0⟩;rw[c0];clear c0 w1
         by_cases hj:ja<0
         ·have HE:Hid _:=b0.out false (B0.out (.inl hj))
          go_wp2;go_ret;exact HE.out
         have G0:0<=ja:=(by omega);clear hj
         by_cases hj:mb<0
         ·have HE:Hid _:=b0.out false (B0.out (.inr hj))
          go_wp2;go_ret;exact HE.out
         have H0:0<=mb:=(by omega)
         have i0:Hid (∀j,j<b+1->Fl.pairOk s T a j=true):=λj hj=>by
          by_cases I0:j=b
          ·rw[I0];exact l1.out G0 H0
          exact o0.out j (by omega)
         clear hj;go_wp2
         go_roundw
         case rel=>exact⟨by first|rfl|trivial,b+1,by omega,by go_num,i0.out⟩
         case measure=>simp[intOf];omega
        have bne:((a:Int) !=(b:Int))=true:=(by rw[bne_iff_ne];omega);rw[h2]at ta;rw[h3]at tb;clear h1 h2 h3
        go_wp2_with fail
        refine i1.out.mono ?_;rintro e w1 ⟨rfl,c0⟩;rw[c0];clear c0 w1
        go_wp2_with fail
        refine j1.out.mono ?_;rintro e w1 ⟨rfl,c0⟩;rw[c0];clear c0 w1
        by_cases hj:ja<0
        ·have HE:Hid _:=b0.out false (B0.out (.inl hj))
         go_wp2;go_ret;exact HE.out
        have G0:0<=ja:=(by omega);clear hj
        by_cases hj:mb<0
        ·have HE:Hid _:=b0.out false (B0.out (.inr hj))
         go_wp2;go_ret;exact HE.out
        have H0:0<=mb:=(by omega)
        have i0:Hid (∀j,j<b+1->Fl.pairOk s T a j=true):=λj hj=>by
         by_cases I0:j=b
         ·rw[I0];exact l1.out G0 H0
         exact o0.out j (by omega)
        clear hj;go_wp2
        go_roundw
        case rel=>exact⟨by first|rfl|trivial,b+1,by omega,by go_num,i0.out⟩
        case measure=>simp[intOf];omega
       have T1:¬(b:Int)<(s:Int):=(by omega)
       have i0:Hid (∀i j,i<a+1->j<s->Fl.pairOk s T i j=true):=λi j hi hj=>by
        by_cases U1:i=a
        ·rw[U1];exact o0.out j (by omega)
        exact z1.out i j (by omega) hj
       go_wp2
       go_roundw
       case rel=>exact⟨by first|rfl|trivial,a+1,by omega,by go_num,i0.out⟩
       case measure=>simp[intOf];omega
     have S1:¬(a:Int)<(s:Int):=(by omega);have HE:=b0.out (decide (0<s)) (Fl.lattice_good (λi j hi hj=>z1.out i j (by omega) hj)).symm;have O0:=Zz HE;clear HE
     by_cases h0:0<s
     ·have V1:(0:Int)<(s:Int):=by omega
      rw[decide_eq_true h0]at O0;go_wp2;go_ret;exact O0.out
     have V1:¬(0:Int)<(s:Int):=(by omega);rw[decide_eq_false h0]at O0;go_wp2;go_ret;exact O0.out
end
def yu2{nv nc:Nat}:∀{d:Nat} {fs:List Fl.Frame},Fl.FrsOk nv nc d fs->∀f∈fs,(f.kind=5\/(f.kind=6/\f.had=false))/\(f.had=false->f.els=[])
 |_,[],_,f,hf=>(by cases hf)
 |d,g::gs,h,f,hf=>by
  rcases List.mem_cons.1 hf with rfl|h1
  ·exact⟨h.1.kd,h.1.no⟩
  exact yu2 h.2 f h1
section
variable{lo base Rb Pb:Nat}{w0 w w':World}{m:Yn}{r:Fl.RS}{fl:List FlS}{t:Nat}
def target_same{n:List UInt8}{x:Nat}{r':Fl.RS}(h:r.target n=some (x,r')):r'.top=r.top/\r'.fr=r.fr/\r'.stmts=r.stmts:=by
 unfold Fl.RS.target at h
 split at h
 ·injection h with h;injection h with h1 h2;subst h2;exact⟨rfl,rfl,rfl⟩
 split at h
 ·injection h with h;injection h with h1 h2;subst h2;exact⟨rfl,rfl,rfl⟩
 split at h
 ·cases h
 injection h with h;injection h with h1 h2;subst h2;exact⟨rfl,rfl,rfl⟩
def yu3(kd:Nat)(k a:List UInt8)(hk:(if k==Fl.wIf then 5 else 6)=kd)(at_:Nat):((zz9 r kd a).1≠0->(r.stmt at_ [k,a]).1=(zz9 r kd a).1)/\
  ((zz9 r kd a).1=0->(zz9 r kd a).2.2=r/\((zz9 r kd a).2.1.kind=kd/\(zz9 r kd a).2.1.x=0)/\(16<=r.stmts\/3<=r.fr.length->(r.stmt at_ [k,a]).1=5)/\(r.stmts<16->r.fr.length<3->r.stmt at_ [k,a]=(0,r.opens kd at_ (zz9 r kd a).2.1.e))):=by
 have e1:r.stmt at_ [k,a]=match r.value [a] with|none=>(4,r)|some e=>if 16<=r.stmts\/3<=r.fr.length then(5,r) else(0,r.opens (if k==Fl.wIf then 5 else 6) at_ e):=rfl;have e2:zz9 r kd a=match r.value [a] with|none=>(4,noS,r)|some e=>(0,⟨kd,0,0,e,[],[]⟩,r):=rfl;rw[e1,e2];generalize r.value [a]=o
 cases o with
 |none=>exact⟨λ_=>rfl,λh=>(by cases h)⟩
 |some e=>
  refine⟨λh=>absurd rfl h,λ_=>⟨rfl,⟨rfl,rfl⟩,λh=>?_,λh1 h2=>?_⟩⟩
  ·show (if 16<=r.stmts\/3<=r.fr.length then(5,r) else _).1=5
   rw[if_pos h]
  show (if 16<=r.stmts\/3<=r.fr.length then(5,r) else _)=_;rw[if_neg (show ¬(16<=r.stmts\/3<=r.fr.length) by omega),hk]
def yjz(n a:List UInt8)(at_:Nat):((zyw r n a).1≠0->(r.stmt at_ [Fl.wOut,n,a]).1=(zyw r n a).1)/\
  ((zyw r n a).1=0->(zyw r n a).2.2=r/\((zyw r n a).2.1.kind=3\/(zyw r n a).2.1.kind=4)/\(16<=r.stmts->(r.stmt at_ [Fl.wOut,n,a]).1=5)/\(r.stmts<16->r.stmt at_ [Fl.wOut,n,a]=(0,r.put (lnS (zyw r n a).2.1 at_)))):=by
 have e1:r.stmt at_ [Fl.wOut,n,a]=match r.value [a] with|none=>(4,r)|some e=>if Fl.place r.chans n<0 then(4,r) else if 16<=r.stmts then(5,r) else(0,r.put ⟨4,(Fl.place r.chans n).toNat,at_,e,[],[]⟩):=rfl;have e2:zyw r n a=match r.value [a] with|none=>(4,noS,r)|some e=>if Fl.place r.chans n<0 then(4,noS,r) else(0,⟨4,(Fl.place r.chans n).toNat,0,e,[],[]⟩,r):=rfl;rw[e1,e2];generalize r.value [a]=o
 cases o with
 |none=>exact⟨λ_=>rfl,λh=>(by cases h)⟩
 |some e=>
  by_cases hc:Fl.place r.chans n<0
  ·simp only[if_pos hc]
   exact⟨λ_=>trivial,λh=>(by cases h)⟩
  simp only[if_neg hc];refine⟨λh=>absurd rfl h,λ_=>⟨trivial,.inr trivial,λh=>?_,λh=>?_⟩⟩
  ·rw[if_pos h]
  rw[if_neg (show ¬16<=r.stmts by omega)];rfl
def yz8(n x:List UInt8)(v:List (List UInt8))(at_:Nat):((Vf r n (x::v)).1≠0->(r.stmt at_ (Fl.wSet::n::x::v)).1=(Vf r n (x::v)).1)/\
  ((Vf r n (x::v)).1=0->((Vf r n (x::v)).2.2.top=r.top/\(Vf r n (x::v)).2.2.fr=r.fr/\(Vf r n (x::v)).2.2.stmts=r.stmts)/\((Vf r n (x::v)).2.1.kind=3\/(Vf r n (x::v)).2.1.kind=4)/\(16<=r.stmts->(r.stmt at_ (Fl.wSet::n::x::v)).1=5)/\(r.stmts<16->r.stmt at_ (Fl.wSet::n::x::v)=(0,(Vf r n (x::v)).2.2.put (lnS (Vf r n (x::v)).2.1 at_)))):=by
 have e1:r.stmt at_ (Fl.wSet::n::x::v)=match r.value (x::v) with|none=>(4,r)|some e=>if 0<=Fl.place r.chans n then(4,r) else match r.target n with|none=>(5,r)|some (y,r')=>if 16<=r.stmts then(5,r) else(0,r'.put ⟨3,y,at_,e,[],[]⟩):=rfl;have e2:Vf r n (x::v)=match r.value (x::v) with|none=>(4,noS,r)|some e=>if 0<=Fl.place r.chans n then(4,noS,r) else match r.target n with|none=>(5,noS,r)|some (y,r')=>(0,⟨3,y,0,e,[],[]⟩,r'):=rfl;rw[e1,e2];generalize r.value (x::v)=o
 cases o with
 |none=>exact⟨λ_=>rfl,λh=>(by cases h)⟩
 |some e=>
  by_cases hc:0<=Fl.place r.chans n
  ·simp only[if_pos hc]
   exact⟨λ_=>trivial,λh=>(by cases h)⟩
  simp only[if_neg hc];have a0:∀p,r.target n=some p->p.2.top=r.top/\p.2.fr=r.fr/\p.2.stmts=r.stmts:=λp hp=>target_same (x:=p.1) (r':=p.2) hp;generalize r.target n=o at*
  cases o with
  |none=>exact⟨λ_=>rfl,λh=>(by cases h)⟩
  |some p=>
   obtain⟨y,r'⟩:=p;refine⟨λh=>absurd rfl h,λ_=>⟨a0 _ rfl,.inl rfl,λh=>?_,λh=>?_⟩⟩
   ·show (if 16<=r.stmts then(5,r) else _).1=5
    rw[if_pos h]
   show (if 16<=r.stmts then(5,r) else _)=_;rw[if_neg (show ¬16<=r.stmts by omega)];rfl
def yjy(h:Zu lo base Rb Pb w0 w m)(hr:Zh r fl t m)(d0:Xf fl r)(e0:cnt fl=r.stmts)(j0:r.Fine)(ht:t<=100000)(v:Value)(ws:List (List UInt8))(hw:Zg w.heap.size w v ws)(n0:∀b off k c,v=.slice (some ⟨b,off,none⟩) k c->b≠Rb/\∀j,Zt j->(m.v j).ownBlock≠some b)(hl:Fl.line ws=true)(at_:Nat):
  Calls prog 13 #[.pointer (some ⟨Rb,0,none⟩),v,.int .i64 (at_:Int)] w (Xu lo base Rb Pb w0 t (r.row ws at_)):=by
 have m0:∀(W:World) (m:Yn) (r:Fl.RS),Zu lo base Rb Pb w0 W m->zcx r t m->Calls prog 54 #[.pointer (some ⟨Rb,0,none⟩)] W (zt1 lo base Rb Pb w0 m r.levels.length r.tab (Fl.lattice r.levels.length r.tab)):=λW m r h hr=>yz7 h hr (by omega);have hW:=hw;obtain⟨ao,cap,hv,k0,l0,t0,hx,f0⟩:=hw
 have o0:ws≠[]:=by intro h0;subst h0;simp[Fl.line]at hl
 obtain⟨b,off,s0,hb,a0⟩:=f0 o0;subst s0;have g0:=n0 b off ws.length cap hv
 have hlen:1<=ws.length:=by cases ws with|nil=>exact absurd rfl o0|cons _ _=>simp
 have c0:w.cell? ⟨b,off,none⟩=some (.string ⟨(ws.getD 0 []).toArray⟩):=a0 0 (by omega);have p0:(⟨(ws.getD 0 []).toArray⟩:ByteArray).toList=ws.getD 0 []:=Yt _;have i0:1<=ws.length/\ws.length<=maxLen:=⟨hlen,by omega⟩
 by_cases hh:Fl.isHead (ws.getD 0 [])=r.begun
 ·have e:r.row ws at_=(3,r):=by unfold Fl.RS.row;rw[if_pos hh]
  rw[e,hv];exact row_bad h hr b off _ cap _ _ i0 c0 (by rw[p0];exact hh)
 by_cases hd:Fl.isHead (ws.getD 0 [])=true
 ·have e:r.row ws at_=r.head ws:=by unfold Fl.RS.row;rw[if_neg hh,if_pos hd]
  have b0:r.begun=false:=by cases hg:r.begun with|false=>rfl|true=>rw[hd,hg]at hh;exact absurd rfl hh
  have q0:=yj4 m0 h hr b0 (by omega) v ws hW n0 hl hd;rw[e];rw[hv]at q0⊢;exact yj5 h hr d0 e0 b off _ cap _ _ ws i0 c0 (by rw[p0];exact hd) b0 q0
 have e:r.row ws at_=r.stmt at_ ws:=by unfold Fl.RS.row;rw[if_neg hh,if_neg hd]
 have b0:r.begun=true:=by
  cases hg:r.begun with
  |true=>rfl
  |false=>
   have:Fl.isHead (ws.getD 0 [])=false:=by cases h9:Fl.isHead (ws.getD 0 []) with|false=>rfl|true=>exact absurd h9 hd
   rw[this,hg]at hh;exact absurd rfl hh
 rw[e];clear e hh hW;subst hv;have r0:=yu2 j0.frs
 match ws,hl,hd with
 |[a],hl,hd=>
  have e:a=Fl.wElse\/a=Fl.wEnd:=by
   simp[Fl.line,Fl.isHead]at hl hd;rcases hl with(h1|h1)|h1
   ·exact absurd h1 (by intro h2;subst h2;simp[Fl.wLevel,Fl.wBelow,Fl.wCell,Fl.wChannel,Fl.wBegin]at hd)
   ·exact .inl h1
   exact .inr h1
  rcases e with e|e
  ·subst e
   exact yj7 h hr d0 e0 r0 ht b off cap _ (a0 0 (by simp)) b0 at_
  subst e;exact row_end h hr d0 e0 r0 ht b off cap _ (a0 0 (by simp)) b0 at_
 |[k,a],hl,hd=>
  have e:k=Fl.wIf\/k=Fl.wWhile:=by
   simp[Fl.line,Fl.isHead]at hl hd;rcases hl with h1|⟨h1|h1,_⟩
   ·exact absurd h1.1 (by intro h2;subst h2;simp[Fl.wLevel]at hd)
   ·exact .inl h1
   exact .inr h1
  rcases e with e|e
  ·subst e
   obtain⟨s1,s2⟩:=yu3 (r:=r) 5 Fl.wIf a rfl at_;exact row_if h hr ht b off 2 cap ⟨by omega,i0.2⟩ hb g0 at_ (a0 0 (by simp)) b0 (zz9 r 5 a) _ (st_if h hr b off cap a (hx a (by simp)) hb ⟨k0,l0⟩ (a0 0 (by simp)) (a0 1 (by simp))) s1 (λh0=>by rw[(s2 h0).1];exact⟨(s2 h0).2.2.1,(s2 h0).2.2.2⟩) (λh0=>by rw[(s2 h0).1];exact⟨d0,e0,(s2 h0).2.1⟩)
  subst e;obtain⟨s1,s2⟩:=yu3 (r:=r) 6 Fl.wWhile a rfl at_;exact ynz h hr ht b off 2 cap ⟨by omega,i0.2⟩ hb g0 at_ (a0 0 (by simp)) b0 (zz9 r 6 a) _ (yj6 h hr b off cap a (hx a (by simp)) hb ⟨k0,l0⟩ (a0 0 (by simp)) (a0 1 (by simp))) s1 (λh0=>by rw[(s2 h0).1];exact⟨(s2 h0).2.2.1,(s2 h0).2.2.2⟩) (λh0=>by rw[(s2 h0).1];exact⟨d0,e0,(s2 h0).2.1⟩)
 |[k,n,a],hl,hd=>
  have e:k=Fl.wOut\/k=Fl.wSet:=by
   simp[Fl.line,Fl.isHead]at hl hd;rcases hl with⟨⟨h1,_⟩,_⟩|⟨⟨h1|h1,_⟩,_⟩
   ·rcases h1 with(h1|h1)|h1
    ·exact absurd h1 (by intro h2;subst h2;simp[Fl.wLevel,Fl.wBelow]at hd)
    ·exact absurd h1 (by intro h2;subst h2;simp[Fl.wLevel,Fl.wBelow,Fl.wCell]at hd)
    exact absurd h1 (by intro h2;subst h2;simp[Fl.wLevel,Fl.wBelow,Fl.wCell,Fl.wChannel]at hd)
   ·exact .inl h1
   exact .inr h1
  rcases e with e|e
  ·subst e
   obtain⟨s1,s2⟩:=yjz (r:=r) n a at_;refine zn1 h hr ht b off 3 cap ⟨by omega,i0.2⟩ hb g0 at_ ⟨Fl.wOut.toArray⟩ ?_ ?_ ?_ ?_ ?_ ?_ ?_ ?_ ?_ (a0 0 (by simp)) b0 (zyw r n a) _ (st_out h hr b off cap n a (hx a (by simp)) hb ⟨k0,l0⟩ (a0 0 (by simp)) (a0 1 (by simp)) (a0 2 (by simp))) s1 (λh0=>by rw[(s2 h0).1];exact⟨(s2 h0).2.2.1,(s2 h0).2.2.2⟩) (λh0=>by rw[(s2 h0).1];exact⟨d0,e0,(s2 h0).2.1⟩)
   all_goals (rw[Yt];rfl)
  subst e;obtain⟨s1,s2⟩:=yz8 (r:=r) n a [] at_;refine zn1 h hr ht b off 3 cap ⟨by omega,i0.2⟩ hb g0 at_ ⟨Fl.wSet.toArray⟩ ?_ ?_ ?_ ?_ ?_ ?_ ?_ ?_ ?_ (a0 0 (by simp)) b0 (Vf r n [a]) _ (st_set3 h hr b off cap n a (hx a (by simp)) (hx n (by simp)) hb g0 ⟨k0,l0⟩ (a0 0 (by simp)) (a0 1 (by simp)) (a0 2 (by simp))) s1 (λh0=>by rw[(s2 h0).1.2.2];exact⟨(s2 h0).2.2.1,(s2 h0).2.2.2⟩) (λh0=>by rw[(s2 h0).1.2.2];exact⟨d0.same (s2 h0).1.1 (s2 h0).1.2.1,e0,(s2 h0).2.1⟩)
  all_goals (rw[Yt];rfl)
 |[_,_,_,_],hl,hd=>simp[Fl.line]at hl
 |[k,n,a,o,b2],hl,hd=>
  have e:k=Fl.wSet:=by
   simp[Fl.line,Fl.isHead]at hl hd;exact hl.1.1.1.1
  subst e;obtain⟨s1,s2⟩:=yz8 (r:=r) n a [o,b2] at_;refine zn1 h hr ht b off 5 cap ⟨by omega,i0.2⟩ hb g0 at_ ⟨Fl.wSet.toArray⟩ ?_ ?_ ?_ ?_ ?_ ?_ ?_ ?_ ?_ (a0 0 (by simp)) b0 (Vf r n [a,o,b2]) _ (st_set5 h hr b off cap n a o b2 (hx a (by simp)) (hx b2 (by simp)) (hx n (by simp)) hb g0 ⟨k0,l0⟩ (a0 0 (by simp)) (a0 1 (by simp)) (a0 2 (by simp)) (a0 3 (by simp)) (a0 4 (by simp))) s1 (λh0=>by rw[(s2 h0).1.2.2];exact⟨(s2 h0).2.2.1,(s2 h0).2.2.2⟩) (λh0=>by rw[(s2 h0).1.2.2];exact⟨d0.same (s2 h0).1.1 (s2 h0).1.2.1,e0,(s2 h0).2.1⟩)
  all_goals (rw[Yt];rfl)
 |_::_::_::_::_::_::_,hl,hd=>simp[Fl.line]at hl
end
def yu4(c:UInt8)(s:List UInt8)(W:World)(hs:s.length<=50000):Calls prog 11 #[.string ⟨s.toArray⟩,.int .u8 c.toNat] W λe w'=>∃g cap,e=.returned (.slice (some ⟨g,0,none⟩) (Fl.cutR c s).length cap)/\W.heap.size<=g/\Zg w'.heap.size w' (.slice (some ⟨g,0,none⟩) (Fl.cutR c s).length cap) (Fl.cutR c s)/\Below W.heap.size W w':=by
 refine(yk0 ⟨s.toArray⟩ c W (by show s.toArray.size<=100000;simp;omega)).mono ?_;rintro e w' ⟨v,rfl,ho,hb⟩
 have e1:Fl.cut c (⟨s.toArray⟩:ByteArray).data.toList=Fl.cutR c s:=by rw[<-Fl.cut_cutR]
 rw[e1]at ho;obtain⟨h1,h2⟩:=zq7 c s;have a0:=List.length_pos_iff.2 (Fl.cutR_ne c s);obtain⟨g,cap,rfl,hg,hz,-⟩:=zew ho a0;exact⟨g,cap,rfl,hg,Zg.of_own ho (by omega) (λx hx=>by have:=h2 x hx;omega),hb⟩
def zlx(v:Value)(ws:List (List UInt8))(W:World)(hw:Zg W.heap.size W v ws)(a0:ws≠[]):Calls prog 12 #[v] W λe w'=>e=.returned (.bool (Fl.line ws))/\Below W.heap.size W w':=by
 have h:=yj1 v (ws.map λl=>(⟨l.toArray⟩:ByteArray)) W hw.strs (by intro h;exact a0 (List.map_eq_nil_iff.1 h));rw[bl_mk]at h;exact h
def zx2(f:FlS):(Zo f).length=10:=by unfold Zo;split<;>rfl
def zev:∀(fl:List FlS) (k j:Nat),k<fl.length->j<10->(Ud fl)[k*10+j]?=some ((Zo (fl.getD k Xl)).getD j undef)
 |[],k,j,hk,hj=>by simp at hk
 |f::fl,0,j,hk,hj=>by
  have e:Ud (f::fl)=Zo f++Ud fl:=rfl;rw[e,List.getElem?_append_left (by rw[zx2];omega)];have h1:0*10+j<(Zo f).length:=(by rw[zx2];omega);have h2:j<(Zo f).length:=(by rw[zx2];omega);simp[Qa,h2]
 |f::fl,k+1,j,hk,hj=>by
  have e:Ud (f::fl)=Zo f++Ud fl:=rfl;rw[e,List.getElem?_append_right (by rw[zx2];omega),zx2,show (k+1)*10+j - 10=k*10+j by omega,zev fl k j (by simp at hk;omega) hj];simp[Qa]
def zsw.of_own{base:Nat}{w:World}{v:Value}{fl:List FlS}(h:w.ownsRow base 86 10 v fl.length (Ud fl))(hl:fl.length<=100000):zsw w v fl:=by
 rcases h.2 with⟨h1,h2⟩|⟨g,cap,cur,h1,hb,hg,hc,hm,hs,ht⟩
 ·exact⟨none,0,by rw[h1,h2],by omega,by decide,hl,λa0=>absurd (Qi h2) a0⟩
 refine⟨_,cap,h1,hc,hm,hl,λa0=>⟨g,rfl,(h.lt g (by rw[h1];rfl)).2,λk hk j hj=>?_⟩⟩;have h5:=h.cells (g:=g) (by rw[h1];rfl) (k*10+j) _ (zev fl k j hk hj)
 have h6:(⟨g,0,none⟩:Addr).add (k*10+j)=⟨g,k*10+j,none⟩:=by unfold Addr.add;split<;>simp_all
 rw[h6]at h5;exact h5
def znx:Array Value:=#[.int .i64 0,.slice none 0 0,.slice none 0 0,.slice none 0 0,.int .i64 0,.slice none 0 0]
def rdZ(Pb:Nat):Array Value:=#[.pointer (some ⟨Pb,0,none⟩),.slice none 0 0,.slice none 0 0,.slice none 0 0,.slice none 0 0,.slice none 0 0,.slice none 0 0,.bool false,.slice none 0 0,.int .i64 0,.slice none 0 0]
def m00(W:World):Yn:=⟨λ_=>0,λ_=>[],λ_=> .slice none 0 0,false,0,0,.slice none 0 0,0,.slice none 0 0,λ_=>False,W⟩
def zq9(W:World):World:=(W.alloc (.cells znx 47)).alloc (.cells (rdZ W.heap.size) 49)
def ynw(W:World):(zq9 W).heap.size=W.heap.size+2:=by simp[zq9]
def yrv(W:World):Below W.heap.size W (zq9 W):=(bA).alloc (by simp) _
def Zu.start(W:World):Zu W.heap.size (W.heap.size+2) (W.heap.size+1) W.heap.size W (zq9 W) (m00 W):=by
 have e1:(W.alloc (.cells znx 47)).heap.size=W.heap.size+1:=by simp
 refine{bel:=yrv W,hba:=⟨by omega,by omega,by omega,by omega,by omega,by rw[ynw];omega,by omega⟩,cR:= ?_,cP:= ?_,own:=λj _=>⟨(Nat.zero_mul (rSz j)).symm,.inl ⟨rfl,rfl⟩⟩,dis:=λi j b _ _ _ h=>(by cases h),kp:=λ_ h=>h.elim}
 ·have h:=Zd.new (W.alloc (.cells znx 47)) (rdZ W.heap.size).toList 49
  rw[e1]at h;refine h.congr (λj hj=>?_);have hj':j<11:=hj;rcases(show j=0\/j=1\/j=2\/j=3\/j=4\/j=5\/j=6\/j=7\/j=8\/j=9\/j=10 by omega) with rfl|rfl|rfl|rfl|rfl|rfl|rfl|rfl|rfl|rfl|rfl<;>rfl
 have h:=(Zd.new W znx.toList 47).block (w':=zq9 W) (b:=W.heap.size) (Below.heap_alloc _ _ _ (by simp));refine h.congr (λj hj=>?_);have hj':j<6:=hj;rcases(show j=0\/j=1\/j=2\/j=3\/j=4\/j=5 by omega) with rfl|rfl|rfl|rfl|rfl|rfl<;>rfl
def Zh.start(W:World):Zh Fl.RS.zero [] 0 (m00 W):=
 {r1:=⟨rfl,rfl⟩,r2:=⟨rfl,rfl⟩,r3:=⟨rfl,rfl⟩,r4:=⟨rfl,rfl⟩,r5:=⟨rfl,rfl⟩,r6:=⟨rfl,rfl⟩,r8:=⟨rfl,rfl⟩,r10:=⟨rfl,rfl⟩,r12:=⟨rfl,rfl⟩,r13:=⟨rfl,rfl⟩,bg:=rfl,st:=rfl,nm:=λx hx=>(by cases hx),lv:=by decide,ce:=by decide,ch:=by decide,lo:=by decide,sm:=by decide,fr:=by decide,lw:=by decide,ft:=by decide,pr:=rfl,bw:=⟨λx hx=>(by cases hx),λx hx=>(by cases hx)⟩,cl:=rfl,hl:=rfl,lt:=λh=>(by cases h)}
def RTab(w:World)(a b cv hv:Value)(p:Fl.Prog):Prop:=
 a=.int .i64 p.n/\∃Lq rb,b=.slice (some ⟨Lq,0,none⟩) p.n p.n/\Yj 0 w Lq rb p.n p.leq/\Zv w.heap.size w cv (p.cells.map λ(y:Nat)=>(y:Int))/\Zv w.heap.size w hv (p.chans.map λ(y:Nat)=>(y:Int))
def yz9{w w':World}{base:Nat}{e:TypeId}{v:Value}{xs:List Nat}(h:w.ownsRow base e 1 v xs.length (Yk xs))(hk:∀b,base<=b->b<w.heap.size->w'.heap[b]?=w.heap[b]?):Zv w'.heap.size w' v (xs.map λ(y:Nat)=>(y:Int)):=by
 refine Zv.of_own (e:=e) (base:=base) (n:=xs.length) ?_;rw[List.map_map];exact Yy h (λb hb=>hk b (h.lt b hb).1 (h.lt b hb).2)
def Zu.table{lo base Rb Pb:Nat}{w0 wr w':World}{m:Yn}{r:Fl.RS}{fl:List FlS}{t:Nat}(h:Zu lo base Rb Pb w0 wr m)(hr:Zh r fl t m)(hb:r.begun=true)(hk:∀b,base<=b->b<wr.heap.size->w'.heap[b]?=wr.heap[b]?)(hz:wr.heap.size<=w'.heap.size):RTab w' (.int .i64 (m.N:Nat)) m.leq (m.v 12) (m.v 13) r.prog:=by
 obtain⟨hN,Lq,rb,h1,h2,h3,h4⟩:=hr.lt hb;have hq:∀b,m.keep b->w'.heap[b]?=m.wk.heap[b]?:=λb hb=>have k:=h.kp b hb;(hk b k.1 k.2.1).trans k.2.2.1;have o12:=h.own 12 (by unfold Zt;omega);have o13:=h.own 13 (by unfold Zt;omega);rw[hr.r12.1,hr.r12.2]at o12;rw[hr.r13.1,hr.r13.2]at o13;exact⟨by rw[hN];rfl,Lq,rb,h1,h2.moved (λh0=>hq _ (h3 h0)) (λi hi=>hq _ (h4 i hi)),yz9 o12 hk,yz9 o13 hk⟩
def Vt(res:Nat×Nat×Fl.Prog)(w:World)(e:Ending)(w':World):Prop:=
 Below w.heap.size w w'/\(res.1≠0->e=.returned (.tuple #[.pointer none,.int .i64 (res.1:Nat),.int .i64 (res.2.1:Nat)]))/\
 (res.1=0->∃(Pb:Nat) (a b chv bv:Value) (ca:Option Addr) (cc:Nat),e=.returned (.tuple #[.pointer (some ⟨Pb,0,none⟩),.int .i64 0,.int .i64 0])/\w.heap.size<=Pb/\Pb<w'.heap.size/\Zd w' Pb 6 (rw_ [a,b,.slice ca res.2.2.cells.length cc,chv,.int .i64 (res.2.2.locals:Nat),bv])/\Yx 4 (λb=>w.heap.size<=b/\b<w'.heap.size) w' bv res.2.2.body/\RTab w' a b (.slice ca res.2.2.cells.length cc) chv res.2.2)
structure zz0(W1:World)(L:List (List UInt8))(k:Nat)(wr:World)(m:Yn)(fl:List FlS)(r:Fl.RS):Prop where
 at_:Zu W1.heap.size (W1.heap.size+2) (W1.heap.size+1) W1.heap.size W1 wr m
 of_:Zh r fl k m
 fl_:Xf fl r
 cn_:cnt fl=r.stmts
 fi_:r.Fine
 lt_:k<L.length
 rs_:Fl.rows Fl.RS.zero 0 L=Fl.rows r k (L.drop k)
def zz0.start(W1:World)(L:List (List UInt8))(h:0<L.length):zz0 W1 L 0 (zq9 W1) (m00 W1) [] Fl.RS.zero:=⟨Zu.start W1,Zh.start W1,flatR0,rfl,Fl.fine0,h,rfl⟩
section
variable{W1 wr w':World}{L:List (List UInt8)}{k:Nat}{m:Yn}{fl:List FlS}{r:Fl.RS}
def zlw(hk:k+1<L.length):L.drop k=L[k]::L[k+1]::L.drop (k+2):=by
 rw[List.drop_eq_getElem_cons (by omega),List.drop_eq_getElem_cons hk]
def zz0.badLine(h:zz0 W1 L k wr m fl r)(hk:k+1<L.length)(hl:Fl.line (Fl.cutR 32 L[k])=false):Fl.rows Fl.RS.zero 0 L=(2,k+1,r):=by
 rw[h.rs_,zlw hk,Fl.rows,if_pos hl]
def zz0.badRow(h:zz0 W1 L k wr m fl r)(hk:k+1<L.length)(hl:Fl.line (Fl.cutR 32 L[k])=true)(he:(r.row (Fl.cutR 32 L[k]) (k+1)).1≠0):Fl.rows Fl.RS.zero 0 L=((r.row (Fl.cutR 32 L[k]) (k+1)).1,k+1,r):=by
 rw[h.rs_,zlw hk,Fl.rows,if_neg (by rw[hl];decide),if_pos he]
def zz0.next(h:zz0 W1 L k wr m fl r)(hk:k+1<L.length)(hl:Fl.line (Fl.cutR 32 L[k])=true)(he:(r.row (Fl.cutR 32 L[k]) (k+1)).1=0){m':Yn}{fl':List FlS}(h1:Zu W1.heap.size (W1.heap.size+2) (W1.heap.size+1) W1.heap.size W1 w' m')(h2:Zh (r.row (Fl.cutR 32 L[k]) (k+1)).2 fl' (k+1) m')(h3:Xf fl' (r.row (Fl.cutR 32 L[k]) (k+1)).2)(h4:cnt fl'=(r.row (Fl.cutR 32 L[k]) (k+1)).2.stmts):zz0 W1 L (k+1) w' m' fl' (r.row (Fl.cutR 32 L[k]) (k+1)).2:=by
 refine⟨h1,h2,h3,h4,h.fi_.row_ok _ _ he,hk,?_⟩;rw[h.rs_,zlw hk,Fl.rows,if_neg (by rw[hl];decide),if_neg (by rw[he];decide),List.drop_eq_getElem_cons hk]
def zlv(hk:k+1=L.length):L.drop k=[L[k]]:=by
 rw[List.drop_eq_getElem_cons (by omega),List.drop_of_length_le (by omega)]
def zz0.last(h:zz0 W1 L k wr m fl r)(hk:k+1=L.length)(hx:¬(L[k]=[]/\0<k)):Fl.rows Fl.RS.zero 0 L=(2,k+1,r):=by
 rw[h.rs_,zlv hk,Fl.rows,if_neg hx]
def zz0.open_(h:zz0 W1 L k wr m fl r)(hk:k+1=L.length)(hx:L[k]=[]/\0<k)(ho:¬(r.begun=true/\r.fr=[])):Fl.rows Fl.RS.zero 0 L=(3,k+1,r):=by
 rw[h.rs_,zlv hk,Fl.rows,if_pos hx,if_neg ho]
def zz0.done(h:zz0 W1 L k wr m fl r)(hk:k+1=L.length)(hx:L[k]=[]/\0<k)(ho:r.begun=true/\r.fr=[]):Fl.rows Fl.RS.zero 0 L=(0,0,r):=by
 rw[h.rs_,zlv hk,Fl.rows,if_pos hx,if_pos ho]
end
end Go.Proofs.YtaaejabalinojaaGreatDoor
