import Derived.Test.YtgmbnnpnefniiaaGreatDoorM17
import Derived.Deep.MidRow
set_option linter.all false
set_option maxRecDepth 100000
set_option maxHeartbeats 40000000
namespace Go.Proofs.YtgmbnnpnefniiaaGreatDoor
open Go.Proofs.Tryz List World Value Fl
variable{w w0 w' W:World}{e:TypeId}{d i k base Lq n t j lo Rb Pb g cap:Nat}{rb:Nat->Nat}{T:Fl.cY}{r:RS}{xs z cs:Vs}{x:Value}
section
open Go.RowKit
def Zh.nil(d:Nat)(S:Nat->Prop)(w:World):Zh d S w K []:=by
 cases d with
 |zero=>exact⟨rfl,rfl⟩
 |succ d=>exact⟨none,0,rfl,by simp,by simp[maxLen],by simp,λh=>absurd rfl h⟩
def Tryz.infoStmtP:(Tryz.prog.info? 91).map (λi=>(i.zero,i.size,i.bytes))=some (some (.agg Yp),10,112):=by kernel_rfl
def zv9{l:Vs}{N:Nat}(hN:w.heap.size=N):∀j u,l[j]?=some u->(w.alloc (.cells l.toArray e)).cell? (((O N 0):Addr).add j)=some u:=by
 intro j u hj;subst hN
 have h2:((O w.heap.size 0):Addr).add j=(O w.heap.size j):=by unfold Addr.add;split<;>simp_all
 rw[h2,cell?_alloc_new];simpa using hj
def zt7.head{Wx:List FlS->List aa->Prop}{p:List FlS}{s:aa}(h:zt7 Wx p s):∃t,p=zy6 s::t:=by
 rcases h with⟨_,_,_,rfl⟩|⟨_,f1,_,⟨_,rfl⟩|⟨f2,_,rfl⟩⟩
 ·exact⟨_,rfl⟩
 ·exact⟨_,rfl⟩
 exact⟨_,rfl⟩
def yqx(s:aa):Zp (zy6 s)=Xj s K K:=rfl
structure zqx(d:Nat)(FL:List FlS)(w:World)(i:Nat)(fl:List FlS)(l:List aa)(rest:List FlS)(k:Nat)(ov:Value)(wr:World)(ds:List (aa×Value×Value))(fl2:List FlS)(l2:List aa):Prop where
 hk:k<=FL.length
 hd:FL.drop k=fl2++rest
 fc:Vc (zt7 (Us d)) fl2 l2
 hl:l=ds.map (·.1)++l2
 st:zs6 d w.heap.size wr ds ov
 be:D w wr
 le:k+fl2.length=i+fl.length
def zqx.bG{FL:List FlS}{fl:List FlS}{l:List aa}{rest:List FlS}{oa:Option Addr}{on oc:Nat}{wr:World}{ds:List (aa×Value×Value)}{fl2:List FlS}(h:zqx d FL w i fl l rest k (A oa on oc) wr ds fl2 [])(a0:bE FL<=16)(b0:Us (d+1) fl l)(c0:∃a b,FL=a++fl++b):zu5 (d+1) w (i+fl.length) l (.returned (.tuple #[A oa on oc,I k])) wr:=by
 have h0:=h.fc
 have hk:k=i+fl.length:=by have:=h.le;rw[h0]at this;simpa using this
 have hl:l=ds.map (·.1):=by have:=h.hl;simpa using this
 refine⟨h.be,oa,on,oc,by rw[hk],?_⟩;rw[hl];refine h.st.closed ?_;have h1:=Us.bE b0;obtain⟨a,b,d0⟩:=c0;rw[d0,Up,Up]at a0;rw[hl,length_map]at h1;omega
def yf6{FL:List FlS}{v:Value}(H:zev d FL v)(M0:bE FL<=16):zev (d+1) FL v:=by
 intro w i fl l rest hF hi hd hl hs;obtain⟨fa,fc,hv,h2,h3,h4,h5⟩:=id hF;have F0:∃a b,FL=a++fl++b:=⟨FL.take i,rest,by rw[append_assoc,<-hd,take_append_drop]⟩
 have H1:(i:Int)<=(FL.length:Int):=by omega
 have I1:(FL.length:Int)<=100000:=by omega
 by_cases e0:FL=[]
 ·have r1:l=[]:=by
   have h1:=Us.bE hl;obtain⟨a,b,C0⟩:=F0;rw[e0]at C0;have hf:fl=[]:=by
    have:=congrArg length C0;simp only[length_nil,length_append]at this;exact Qi (by omega)
   rw[hf]at h1;exact Qi (by simpa [bE] using h1)
  have N0:fl=[]:=by
   obtain⟨a,b,C0⟩:=F0;rw[e0]at C0;have:=congrArg length C0;simp only[length_nil,length_append]at this;exact Qi (by omega)
  have m0:Y (zu5 (d+1) w (i+fl.length) l (.returned (.tuple #[K,I i])) w):=by
   rw[r1,N0];exact⟨Below.refl _ _,none,0,0,rfl,Zh.nil _ _ _⟩
  have hn:¬(i:Int)<(FL.length:Int):=(by rw[e0];simp);subst hv;clear hF h2 h3 h4 h5 hd H M0 F0 hl r1 N0 e0 hs
  go_enter func14,ntmps14
  go_wp2_with fail
  go_loopw [1,6] (λiv ov wr=>iv=I i/\ov=K/\wr=w) (λ_ _ _=>0)
  case atStart=>exact⟨rfl,rfl,rfl⟩
  case round=>
   obtain⟨rfl,rfl,u1⟩:=hrel;rw[u1];clear u1;go_wp2
   go_ret2
   exact m0
 obtain⟨Fb,J1,K1,-⟩:=h5 e0;subst J1;subst hv;have HF:=Z hF;have HH:=Z H;have L1:Y (∀k oa on oc wr ds fl2,zqx d FL w i fl l rest k (A oa on oc) wr ds fl2 []->zu5 (d+1) w (i+fl.length) l (.returned (.tuple #[A oa on oc,I k])) wr):=λk oa on oc wr ds fl2 h=>h.bG M0 hl F0;have V0:Y (zqx d FL w i fl l rest i K w [] fl l):=⟨hi,hd,hl,rfl,zs6.nil d w,Below.refl _ _,rfl⟩;have HS:=Z hs;have M1:Y (l.length<=16):=by
  show _<=_;have h1:=Us.bE hl;obtain⟨a,b,C0⟩:=F0;rw[C0,Up,Up]at M0;omega
 obtain⟨n,hn⟩:=J (FL.length);have HN:=Z hn
 have N1:(n:Int)<=(fc:Int):=by omega
 rw[<-hn]at HF HH I1;rw[<-hn];clear hF h2 h3 h4 h5 hd H M0 F0 hl hs H1 hn
 go_enter func14,ntmps14
 go_wp2_with fail
 go_loopw [1,6] (λiv ov wr=>∃(k:Nat) (ds:List (aa×Value×Value)) (fl2:List FlS) (l2:List aa),iv=I k/\zqx d FL w i fl l rest k ov wr ds fl2 l2) (λiv _ _=>n - (intOf iv).toNat)
 case atStart=>exact⟨i,[],fl,l,rfl,V0⟩
 case round=>
  obtain⟨k,ds,fl2,l2,rfl,hR⟩:=hrel;obtain⟨oa,oc,rfl⟩:∃oa oc,u6=A oa ds.length oc:=by
   rcases hR.st.own.2 with⟨h1,h2⟩|⟨g,cp,cur,h1,_⟩
   ·exact⟨none,0,by rw[h1,h2]⟩
   exact⟨_,cp,h1⟩
  have HR:=Z hR;have Y1:k<=n:=(by rw[HN.out];exact hR.hk);have G0:=HF.below hR.be
  cases l2 with
  |nil=>
   have N0:fl2=[]:=hR.fc;have n0:FL.drop k=rest:=(by have:=hR.hd;rw[N0]at this;simpa using this);have m0:Y (zu5 (d+1) w (i+fl.length) l (.returned (.tuple #[A oa ds.length oc,I k])) wr):=L1 _ _ _ _ _ _ _ hR;clear hR V0 HR;rcases HS.out with hs|⟨f,r,hs,O1⟩
   ·have Z1:¬(k:Int)<(n:Int):=by
     intro hh
     have:k<FL.length:=by rw[<-HN.out];omega
     rw[hs,drop_eq_getElem_cons this]at n0;cases n0
    clear n0 hs G0;go_wp2
    go_ret2
    exact m0
   rw[hs]at n0;obtain⟨g1,g2,g3⟩:=Je n0;have c0:=G0.aq k g1 0 (by omega);rw[g2,Nat.add_zero]at c0;obtain⟨kk,O0⟩:∃kk:Int,(Zp f).getD 0 undef=I kk/\kk<0:=by
    unfold Zp;rw[U O1];refine⟨_,rfl,?_⟩
    split<;>decide
   rw[O0.1]at c0;have P1:¬0<=kk:=(by omega);have l0:(k:Int)<(n:Int):=(by rw[HN.out];omega);clear n0 hs G0 O0 g2 g3;go_wp2
   go_ret2
   exact m0
  |cons s l3=>
   obtain⟨p,q,W0,X0,hq⟩:=hR.fc;obtain⟨tl,o0⟩:=X0.head;have n0:FL.drop k=zy6 s::(tl++(q++rest)):=(by rw[hR.hd,W0,o0];simp);obtain⟨g1,g2,g3⟩:=Je n0;have l0:(k:Int)<(n:Int):=(by rw[HN.out];omega)
   have f0:∀j,j<10->M wr Fb (k*10+j) ((Xj s K K).getD j undef):=λj hj=>by
    have:=G0.aq k g1 j hj;rw[g2,yqx]at this;exact this
   have s0:M wr Fb (k*10) (I s.kind):=f0 0 (by omega);have s1:M wr Fb (k*10+1) (I s.x):=f0 1 (by omega);have s2:M wr Fb (k*10+2) (I s.aq):=f0 2 (by omega);have s3:M wr Fb (k*10+3) (I s.e.op):=f0 3 (by omega);have s4:M wr Fb (k*10+4) (.bool s.e.a.var):=f0 4 (by omega);have s5:M wr Fb (k*10+5) (I s.e.a.v):=f0 5 (by omega);have s6:M wr Fb (k*10+6) (.bool s.e.b.var):=f0 6 (by omega);have s7:M wr Fb (k*10+7) (I s.e.b.v):=f0 7 (by omega);have s8:M wr Fb (k*10+8) K:=f0 8 (by omega);have s9:M wr Fb (k*10+9) K:=f0 9 (by omega);have P1:(0:Int)<=(s.kind:Int):=(by omega);have Y0:=Z X0;have HQ:=Z hq;have x0:=Z g3;have g0:Y (fl2=p++q/\p=zy6 s::tl):=⟨W0,o0⟩;have Z0:=Z g1;have b1:=Z G0;clear hR W0 X0 hq o0 n0 g2 g3 f0 G0 V0;obtain⟨i0,c1,d1,e1,i1⟩:=info_parts Tryz.infoStmtP;have j1:Y (∀W,D wr W->W.ownsRow w.heap.size 91 10 (A oa ds.length oc) ds.length (dsV ds)):=λW hW=>(HR.st.below hW).own;have a2:ds.length<=100000:=by
    have h1:=HR.hl;have h2:=M1.out;rw[h1]at h2;simp only[length_append,length_map]at h2;omega
   have hbz:=HR.st.hz;rcases Y0.out with⟨hk,x1,y1,hp⟩|⟨hk,f1,z1,h0⟩
   ·have H0:tl=[]:=by
     have:=g0.2;rw[hp]at this;injection this with _ h;exact h.symm
    have b5:((s.kind:Int)==5)=false:=by rcases hk with hk|hk<;>rw[hk]<;>decide
    have b6:((s.kind:Int)==6)=false:=by rcases hk with hk|hk<;>rw[hk]<;>decide
    have l1:Y (∀o o',D wr ((wr.alloc o).alloc o')):=λo o'=>(bA).alloc (by simp) _
    have y0:Y (∀v' W4,W4.ownsRow w.heap.size 91 10 v' (ds.length+1) (dsV ds++Xj s K K)->(∃o o',((wr.alloc o).alloc o').grownBy W4 (A oa ds.length oc).ownBlock)->(v'.ownBlock=(A oa ds.length oc).ownBlock\/v'.ownBlock=some (wr.heap.size+1+1))->zqx d FL w i fl l rest (k+1) v' W4 (ds++[(s,K,K)]) q l3):=λv' W4 h1 h2 h3=>by
     obtain⟨o,o',h2⟩:=h2;have cZ:=HR.st.push (l1 o o') (by rw[x1];exact Zh.nil _ _ _) (by rw[y1];exact Zh.nil _ _ _) h1 h2 (by simpa using h3);have l0:=HR.st.own.lt;refine⟨Z0,by rw[x0.out,H0];rfl,HQ,by rw[HR.hl];simp,cZ,?_,?_⟩
     ·exact(HR.be.trans ((l1 o o').mono (by omega))).grown h2 (by simp;omega) (λb hb=>by have:=(l0 b hb).1;omega)
     have h4:=HR.le;rw[g0.1,hp]at h4;simp only[length_append,length_singleton]at h4;omega
    clear Y0 hk x1 y1 hp H0 HQ g0 x0
    go_wp2_with (at_builtin;refine Ap underlying52 c1 d1 e1 i1 rfl (j1 _ (l1 _ _)) rfl (Xj s K K) rfl rfl (zv9 (by simp)) ?c2 ?c3 ?c4 ?c5 ?_)
    case c2=>intro u hu;simp only[Xj,mem_cons,not_mem_nil,or_false]at hu;rcases hu with rfl|rfl|rfl|rfl|rfl|rfl|rfl|rfl|rfl|rfl<;>rfl
    case c3=>unfold maxLen;omega
    case c4=>omega
    case c5=>simp;omega
    intro v' W4 a0 z0 d0;have A0:=y0 v' W4 a0 ⟨_,_,z0⟩ (by simpa using d0);obtain⟨va',vcap,rfl⟩:∃va vcap,v'=A va (ds.length+1) vcap:=by
     rcases a0.2 with⟨h1,h2⟩|⟨g,cp,cur,h1,_⟩
     ·omega
     exact⟨_,cp,h1⟩
    have I0:=Z A0;clear A0 a0 z0 d0 y0;go_wp2
    go_roundw
    case rel=>exact⟨k+1,_,_,_,by go_num,I0⟩
    case measure=>simp[intOf];omega
   have O0:(((s.kind:Int)==5)=true)\/(((s.kind:Int)==5)=false/\((s.kind:Int)==6)=true):=by rcases hk with hk|hk<;>rw[hk]<;>decide
   obtain⟨rest1,p0,J0⟩:∃rest1,FL.drop (k+1)=f1++rest1/\Stop rest1:=by
    rcases h0 with⟨_,hp⟩|⟨f2,_,hp⟩
    ·have h1:=g0.2
     rw[hp]at h1;injection h1 with _ h1;exact⟨Xq::(q++rest),by rw[x0.out,<-h1];simp,.inr ⟨_,_,rfl,by decide⟩⟩
    have h1:=g0.2;rw[hp]at h1;injection h1 with _ h1;exact⟨Xd::(f2++[Xq]++(q++rest)),by rw[x0.out,<-h1];simp,.inr ⟨_,_,rfl,by decide⟩⟩
   have P0:=yz8 p0 (by have:=Z0.out;omega)
   have Q0:Y (∀o,E 14 #[Sq Fb 0 n fc,I ((k:Int)+1)] (wr.alloc o) (zu5 d (wr.alloc o) (k+1+f1.length) s.aZ)):=λo=>by
    have h1:=HH (wr.alloc o) (k+1) f1 s.aZ rest1 (b1.below (bA)) Z0 p0 z1 J0;rw[show ((k+1:Nat):Int)=(k:Int)+1 by omega]at h1;exact h1
   have j0:=Z h0;obtain⟨k1,D0⟩:=J (k+1+f1.length);rw[<-D0]at Q0 P0;have A1:=Z D0;have R0:=Z P0.1;have S0:=Z p0;have Q1:k1<=n:=(by rw[HN.out];exact P0.2);have R1:k+1<=k1:=(by omega);clear h0 P0 p0 J0 D0 Y0 z1;rcases O0 with b5|⟨b5,b6⟩
   all_goals
    go_wp2_with fail
    refine(Q0 _).mono ?_;rintro e W1 ⟨T0,ba,bn,bc,rfl,B1⟩;have rS:W1.heap[wr.heap.size]?=some (.cells #[I s.kind,I s.x,I s.aq,I s.e.op,.bool s.e.a.var,I s.e.a.v,.bool s.e.b.var,I s.e.b.v,K,K] 91 (0,0)):=by
     rw[T0.block _ (by simp)];exact zyx _ _ _ rfl
    have m1:wr.heap.size<W1.heap.size:=(by have:=T0.size;simp at this;omega);have n1:Y (D wr W1):=(bA).trans (T0.mono (by simp));have C1:Y (Zh d (λb=>wr.heap.size+1<=b/\b<W1.heap.size) W1 (A ba bn bc) s.aZ):=by
     show Zh _ _ _ _ _;have:=B1;simpa using this
    have K1:Fb<wr.heap.size:=Qe wr _ s0;have q0:=b1.below n1.out;have t0:M W1 wr.heap.size 0 (I s.kind):=cR 0 rS;have t1:M W1 wr.heap.size 1 (I s.x):=cR 1 rS;have t2:M W1 wr.heap.size 2 (I s.aq):=cR 2 rS;have t3:M W1 wr.heap.size 3 (I s.e.op):=cR 3 rS;have t4:M W1 wr.heap.size 4 (.bool s.e.a.var):=cR 4 rS;have t5:M W1 wr.heap.size 5 (I s.e.a.v):=cR 5 rS;have t6:M W1 wr.heap.size 6 (.bool s.e.b.var):=cR 6 rS;have t7:M W1 wr.heap.size 7 (I s.e.b.v):=cR 7 rS;have t8:M W1 wr.heap.size 8 K:=cR 8 rS;have t9:M W1 wr.heap.size 9 K:=cR 9 rS
    have tz:∀j,W1.frozen? (O wr.heap.size j)=false:=λj=>by simp[frozen?,rS]
    have b2:wr.heap.size≠Fb:=(by omega);clear T0 B1 rS s1 s2 s3 s4 s5 s6 s7 s8 s9;rcases j0.out with⟨r0,hp⟩|⟨f2,D1,hp⟩
    ·have o0:tl=f1++[Xq]:=by
      have h1:=g0.2;rw[hp]at h1;injection h1 with _ h1;exact h1.symm
     have K0:FL.drop k1=Xq::(q++rest):=by
      have h1:=S0.out;rw[x0.out,o0,append_assoc]at h1;rw[R0.out];exact(append_cancel_left h1).symm
     obtain⟨g1,g2,g3⟩:=Je K0;have c0:W1.cell? (O Fb (k1*10))=some (I (-2)):=by
      have:=q0.aq k1 g1 0 (by omega);rw[g2]at this;exact this
     have o1:(k1:Int)<(n:Int):=(by rw[HN.out];omega);have E0:Y (∀v o,D wr ((W1.setCell (O wr.heap.size 8) v).alloc o)):=λv o=>(n1.setCell lE _).alloc (by rw[Zy];omega) _
     have y0:Y (∀v' W4,W4.ownsRow w.heap.size 91 10 v' (ds.length+1) (dsV ds++Xj s (A ba bn bc) K)->(∃o,((W1.setCell (O wr.heap.size 8) (A ba bn bc)).alloc o).grownBy W4 (A oa ds.length oc).ownBlock)->(v'.ownBlock=(A oa ds.length oc).ownBlock\/v'.ownBlock=some (W1.heap.size+1))->zqx d FL w i fl l rest (k1+1) v' W4 (ds++[(s,A ba bn bc,K)]) q l3):=λv' W4 h1 h2 h3=>by
      obtain⟨o,h2⟩:=h2;have l0:=HR.st.own.lt;have k0:Zh d (BdS w.heap.size ((W1.setCell (O wr.heap.size 8) (A ba bn bc)).alloc o) (A oa ds.length oc)) ((W1.setCell (O wr.heap.size 8) (A ba bn bc)).alloc o) (A ba bn bc) s.aZ:=by
       refine Zh.kept (λb hb=>⟨by omega,by simp[Zy];omega,λhh=>by have:=(l0 b hh).2;omega⟩) (λb hb=>?_) _ _ _ C1.out;rw[Below.heap_alloc _ _ _ (by rw[Zy];omega),Zx _ _ _ _ _ (by omega)]
      have cZ:=HR.st.push (E0 _ o) k0 (by rw[r0];exact Zh.nil _ _ _) h1 h2 (by rcases h3 with h3|h3;exact .inl h3;exact .inr (by rw[h3];simp[Zy]));refine⟨by omega,g3,HQ,by rw[HR.hl];simp,cZ,?_,?_⟩
      ·exact(HR.be.trans ((E0 _ o).mono (by omega))).grown h2 (by simp[Zy];omega) (λb hb=>by have:=(l0 b hb).1;omega)
      have h4:=HR.le;have h5:=A1.out;rw[g0.1,hp]at h4;simp only[length_append,length_singleton,length_cons,length_nil]at h4;omega
     clear o0 K0 g2 g3 q0 r0 hp j0 S0 R0 x0 g0 HQ Q0
     go_wp2_with (at_builtin;refine Ap underlying52 c1 d1 e1 i1 rfl (j1 _ (E0 _ _)) rfl (Xj s (A ba bn bc) K) rfl rfl (zv9 (by simp[Zy])) ?c2 ?c3 ?c4 ?c5 ?_)
     case c2=>intro u hu;simp only[Xj,mem_cons,not_mem_nil,or_false]at hu;rcases hu with rfl|rfl|rfl|rfl|rfl|rfl|rfl|rfl|rfl|rfl<;>rfl
     case c3=>unfold maxLen;omega
     case c4=>omega
     case c5=>simp[Zy];omega
     intro v' W4 a0 z0 d0;have A0:=y0 v' W4 a0 ⟨_,z0⟩ (by simpa [Zy] using d0);obtain⟨va',vcap,rfl⟩:∃va vcap,v'=A va (ds.length+1) vcap:=by
      rcases a0.2 with⟨h1,h2⟩|⟨g,cp,cur,h1,_⟩
      ·omega
      exact⟨_,cp,h1⟩
     have I0:=Z A0;clear A0 a0 z0 d0 y0;go_wp2
     go_roundw
     case rel=>exact⟨k1+1,_,_,_,by go_num,I0⟩
     case measure=>simp[intOf];omega
    have o0:tl=f1++Xd::(f2++[Xq]):=by
     have h1:=g0.2;rw[hp]at h1;injection h1 with _ h1;exact h1.symm
    have K0:FL.drop k1=Xd::(f2++(Xq::(q++rest))):=by
     have h1:=S0.out;rw[x0.out,o0,append_assoc]at h1;rw[R0.out];have h2:=(append_cancel_left h1).symm;rw[h2];simp
    obtain⟨g1,g2,g3⟩:=Je K0;have c0:W1.cell? (O Fb (k1*10))=some (I (-1)):=by
     have:=q0.aq k1 g1 0 (by omega);rw[g2]at this;exact this
    have o1:(k1:Int)<(n:Int):=(by rw[HN.out];omega);have U0:=yz8 g3 (by omega);have L0:Y (∀v,D wr (W1.setCell (O wr.heap.size 8) v)):=λv=>n1.setCell lE _;obtain⟨k2,u0⟩:=J (k1+1+f2.length)
    have E1:Y (∀v,E 14 #[Sq Fb 0 n fc,I ((k1:Int)+1)] (W1.setCell (O wr.heap.size 8) v) (zu5 d (W1.setCell (O wr.heap.size 8) v) k2 s.aU)):=λv=>by
     have h1:=HH (W1.setCell (O wr.heap.size 8) v) (k1+1) f2 s.aU _ (b1.below (L0 v)) (by omega) g3 D1 (.inr ⟨_,_,rfl,by decide⟩);rw[show ((k1+1:Nat):Int)=(k1:Int)+1 by omega,<-u0]at h1;exact h1
    rw[<-u0]at U0;have S1:=Z u0;have p1:k2+1<=n:=by
     obtain⟨a1,-,-⟩:=Je U0.1;rw[HN.out];exact a1
    have T1:k1+1<=k2:=(by omega);have U1:Y (FL.drop (k2+1)=q++rest):=(Je U0.1).2.2;have HP:=Z hp;clear o0 K0 g2 g3 q0 hp j0 S0 R0 x0 Q0 U0 u0 D1
    go_wp2_with fail
    refine(E1 _).mono ?_;rintro e W5 ⟨B0,ea,en,ec,rfl,F1⟩;have d2:wr.heap.size<W5.heap.size:=(by have:=B0.size;rw[Zy]at this;omega);have V1:Y (D wr W5):=(L0 _).trans (B0.mono (by rw[Zy];omega));have X1:Y (Zh d (λb=>W1.heap.size<=b/\b<W5.heap.size) W5 (A ea en ec) s.aU):=by
     show Zh _ _ _ _ _;have:=F1;rw[Zy]at this;exact this
    have q1:Y (Zh d (λb=>wr.heap.size+1<=b/\b<W5.heap.size) W5 (A ba bn bc) s.aZ):=by
     refine Zh.kept (λb hb=>⟨hb.1,by have:=B0.size;rw[Zy]at this;omega⟩) (λb hb=>?_) _ _ _ C1.out;rw[B0.block b (by rw[Zy];omega),Zx _ _ _ _ _ (by omega)]
    have b0:∀j,j≠8->W5.cell? (O wr.heap.size j)=W1.cell? (O wr.heap.size j):=λj hj=>by
     refine(cT B0 (by rw[Zy];exact m1) (Qg _ _ _ _ ?_));intro hh;injection hh with _ h9;omega
    have v0:=(b0 0 (by omega)).trans t0;have v1:=(b0 1 (by omega)).trans t1;have v2:=(b0 2 (by omega)).trans t2;have v3:=(b0 3 (by omega)).trans t3;have v4:=(b0 4 (by omega)).trans t4;have v5:=(b0 5 (by omega)).trans t5;have v6:=(b0 6 (by omega)).trans t6;have v7:=(b0 7 (by omega)).trans t7;have v8:M W5 wr.heap.size 8 (A ba bn bc):=cT B0 (by rw[Zy];exact m1) (cell?_setCell_same' _ _ _ (by simp[t8]));have v9:=(b0 9 (by omega)).trans t9;have vz:∀j,W5.frozen? (O wr.heap.size j)=false:=λj=>(B0.frozen (p:=(O wr.heap.size j)) (by rw[Zy];exact m1)).trans (by rw[frozen?_setCell];exact tz j);have E0:Y (∀v o,D wr ((W5.setCell (O wr.heap.size 9) v).alloc o)):=λv o=>(V1.setCell lE _).alloc (by rw[Zy];omega) _
    have y0:Y (∀v' W4,W4.ownsRow w.heap.size 91 10 v' (ds.length+1) (dsV ds++Xj s (A ba bn bc) (A ea en ec))->(∃o,((W5.setCell (O wr.heap.size 9) (A ea en ec)).alloc o).grownBy W4 (A oa ds.length oc).ownBlock)->(v'.ownBlock=(A oa ds.length oc).ownBlock\/v'.ownBlock=some (W5.heap.size+1))->zqx d FL w i fl l rest (k2+1) v' W4 (ds++[(s,A ba bn bc,A ea en ec)]) q l3):=λv' W4 h1 h2 h3=>by
     obtain⟨o,h2⟩:=h2;have l0:=HR.st.own.lt
     have G1:∀b,wr.heap.size<b->b<W5.heap.size->((W5.setCell (O wr.heap.size 9) (A ea en ec)).alloc o).heap[b]?=W5.heap[b]?:=λb h8 h9=>by
      rw[Below.heap_alloc _ _ _ (by rw[Zy];omega),Zx _ _ _ _ _ (by omega)]
     have k0:Zh d (BdS w.heap.size ((W5.setCell (O wr.heap.size 9) (A ea en ec)).alloc o) (A oa ds.length oc)) ((W5.setCell (O wr.heap.size 9) (A ea en ec)).alloc o) (A ba bn bc) s.aZ:=Zh.kept (λb hb=>⟨by omega,by simp[Zy];omega,λhh=>by have:=(l0 b hh).2;omega⟩) (λb hb=>G1 b (by omega) hb.2) _ _ _ q1.out;have r0:Zh d (BdS w.heap.size ((W5.setCell (O wr.heap.size 9) (A ea en ec)).alloc o) (A oa ds.length oc)) ((W5.setCell (O wr.heap.size 9) (A ea en ec)).alloc o) (A ea en ec) s.aU:=Zh.kept (λb hb=>⟨by omega,by simp[Zy];omega,λhh=>by have:=(l0 b hh).2;omega⟩) (λb hb=>G1 b (by omega) hb.2) _ _ _ X1.out;have cZ:=HR.st.push (E0 _ o) k0 r0 h1 h2 (by rcases h3 with h3|h3;exact .inl h3;exact .inr (by rw[h3];simp[Zy]));refine⟨by rw[<-HN.out];exact p1,U1,HQ,by rw[HR.hl];simp,cZ,?_,?_⟩
     ·exact(HR.be.trans ((E0 _ o).mono (by omega))).grown h2 (by simp[Zy];omega) (λb hb=>by have:=(l0 b hb).1;omega)
     have h4:=HR.le;have h5:=A1.out;have h6:=S1.out;rw[g0.1,HP.out]at h4;simp only[length_append,length_singleton,length_cons,length_nil]at h4;omega
    clear B0 F1 b0 t0 t1 t2 t3 t4 t5 t6 t7 t8 t9 tz E1 g0 HQ HP
    go_wp2_with (at_builtin;refine Ap underlying52 c1 d1 e1 i1 rfl (j1 _ (E0 _ _)) rfl (Xj s (A ba bn bc) (A ea en ec)) rfl rfl (zv9 (by simp[Zy])) ?c2 ?c3 ?c4 ?c5 ?_)
    case c2=>intro u hu;simp only[Xj,mem_cons,not_mem_nil,or_false]at hu;rcases hu with rfl|rfl|rfl|rfl|rfl|rfl|rfl|rfl|rfl|rfl<;>rfl
    case c3=>unfold maxLen;omega
    case c4=>omega
    case c5=>simp[Zy];omega
    intro v' W4 a0 z0 d0;have A0:=y0 v' W4 a0 ⟨_,z0⟩ (by simpa [Zy] using d0);obtain⟨va',vcap,rfl⟩:∃va vcap,v'=A va (ds.length+1) vcap:=by
     rcases a0.2 with⟨h1,h2⟩|⟨g,cp,cur,h1,_⟩
     ·omega
     exact⟨_,cp,h1⟩
    have I0:=Z A0;clear A0 a0 z0 d0 y0;go_wp2
    go_roundw
    case rel=>exact⟨k2+1,_,_,_,by go_num,I0⟩
    case measure=>simp[intOf];omega
def ybw(d:Nat)(FL:List FlS)(v:Value)(a0:bE FL<=16):zev d FL v:=by
 induction d with
 |zero=>exact yf5 FL v
 |succ d ih=>exact yf6 ih a0
end
namespace Fl
def mixTab(k:Nat)(T:cY)(i j:Nat):cY:=λa b=>if a<i\/(a=i/\b<j) then eK k T a b else T a b
def mix_zero(k:Nat)(T:cY):mixTab k T 0 0=T:=by
 funext a b
 simp[mixTab]
def mix_col(k:Nat)(T:cY)(i j a:Nat):mixTab k T i j a k=T a k:=by
 unfold mixTab
 by_cases h:a<i\/(a=i/\k<j)
 ·rw[G h];unfold eK;cases T a k<;>simp
 rw[U h]
def ybv(k:Nat)(T:cY)(i j b:Nat):mixTab k T i j k b=T k b:=by
 unfold mixTab
 by_cases h:k<i\/(k=i/\b<j)
 ·rw[G h];unfold eK;cases T k b<;>simp
 rw[U h]
def mix_step(k:Nat)(T:cY)(i j a b:Nat):mixTab k T i (j+1) a b=if a=i/\b=j then(mixTab k T i j i j||(mixTab k T i j i k && mixTab k T i j k j)) else mixTab k T i j a b:=by
 rw[mix_col,ybv]
 by_cases h:a=i/\b=j
 ·obtain⟨rfl,rfl⟩:=h
  rw[G ⟨rfl,rfl⟩];unfold mixTab;rw[G (by omega),U (by omega)];rfl
 rw[U h];unfold mixTab
 by_cases h2:a<i\/(a=i/\b<j)
 ·rw[G h2,G (by omega)]
 rw[U h2,U (by omega)]
def mix_row(k:Nat)(T:cY)(i n a b:Nat)(hb:b<n):mixTab k T i n a b=mixTab k T (i+1) 0 a b:=by
 unfold mixTab
 by_cases h:a<i\/(a=i/\b<n)
 ·rw[G h,G (by omega)]
 rw[U h,U (by omega)]
def mix_all(k:Nat)(T:cY)(n a b:Nat)(ha:a<n):mixTab k T n 0 a b=eK k T a b:=by
 unfold mixTab;rw[G (.inl ha)]
end Fl
section
open Go.RowKit
def Uf(n:Nat)(t:Fl.cY)(a b k j:Nat):Bool:=t a k && t b k && (range j).all λi=> !(t a i)||!(t b i)||t k i
def zi3(n:Nat)(t:Fl.cY)(a b k j:Nat):Uf n t a b k (j+1)=(Uf n t a b k j && (!(t a j)||!(t b j)||t k j)):=by
 unfold Uf;rw[range_succ,all_append];simp[Bool.and_assoc]
def zk6(p:Nat->Bool)(n k:Nat)(hk:k<n)(hp:p k=true)(dt:∀i,i<k->p i=false):cG p n=(k:Int):=by
 unfold cG;have:(range n).find? p=some k:=by
  rw[find?_eq_some_iff_append];refine⟨hp,range k,(range' (k+1) (n - k - 1)),?_,λx hx=>by simp at hx;simp[dt x hx]⟩;rw[range_eq_range',range_eq_range',show n=k+(n - k) by omega,<-range'_append_1,show n - k=1+(n - k - 1) by omega];simp;rw[Nat.add_comm 1,range'_succ]
 rw[this]
def zp5(p:Nat->Bool)(n:Nat)(dt:∀i,i<n->p i=false):cG p n= -1:=by
 unfold cG;have:(range n).find? p=none:=by
  rw[find?_eq_none];intro x hx;simp at hx;simp[dt x hx]
 rw[this]
def yz9{t:Fl.cY}(h:Yj base w Lq rb n t)(Pb a b:Nat)(hn:n<=6)(ha:a<n)(hb:b<n)(p0:w.cell? (O Pb 0)=some (I n))(p1:w.cell? (O Pb 1)=some (Sq Lq 0 n n)):
  E 41 #[F Pb,I a,I b] w (Rq (I (Fl.join n t a b)) w):=by
 have HL:=Z h
 have s0:(n:Int)<=6:=by omega
 have t0:(a:Int)<(n:Int):=by omega
 have u0:(b:Int)<(n:Int):=by omega
 have ca:=h.c a ha;have cb:=h.c b hb;have a0:Y (Fl.join n t a b=cG (cO n t a b) n):=rfl;generalize Fl.join n t a b=aX at*;clear h
 go_enter func41,ntmps41
 go_wp2_with fail
 go_loopw [7] (λi wr=>wr=w/\∃k:Nat,k<=n/\i=I k/\∀x,x<k->cO n t a b x=false) (λi _=>n - (intOf i).toNat)
 case atStart=>exact⟨rfl,0,Nat.zero_le _,rfl,λx hx=>by omega⟩
 case round=>
  obtain⟨b0,k,hk,rfl,dt⟩:=hrel;have g0:=Z dt;rw[b0];clear dt b0 wr
  by_cases d0:k<n
  ·have k0:(k:Int)<(n:Int):=by omega
   have ck:=HL.c k d0;have x1:=HL.r a k ha d0;have x2:=HL.r b k hb d0;obtain⟨y1,h0⟩:∃y,y=t a k:=⟨_,rfl⟩;obtain⟨y2,i0⟩:∃y,y=t b k:=⟨_,rfl⟩;rw[<-h0]at x1;rw[<-i0]at x2;have l0:Y (Uf n t a b k 0=(y1 && y2)):=(by show _=_;unfold Uf;simp[h0,i0]);have j0:=Z d0
   have c0:Y (∀ls:Bool,ls=(y1 && y2)->ls=Uf n t a b k 0):=λls h=>by rw[h];exact l0.symm
   clear h0 i0;have m0:Y (∃y0,y0=(y1 && y2)):=⟨_,rfl⟩
   cases y1<;>cases y2
   all_goals
    have n0:Y _:=c0 _ rfl
    go_wp2_with fail
    go_loopw [8,9] (λls i wr=>wr=w/\∃j:Nat,j<=n/\i=I j/\ls=.bool (Uf n t a b k j)) (λ_ i _=>n - (intOf i).toNat)
    case atStart=>exact⟨rfl,0,Nat.zero_le _,rfl,by rw[<-n0.out];rfl⟩
    case round=>
     obtain⟨b0,j,hj,rfl,rfl⟩:=hrel;rw[b0];clear b0 wr
     by_cases e0:j<n
     ·have o0:(j:Int)<(n:Int):=by omega
      have cj:=HL.c j e0;have z1:=HL.r a j ha e0;have z2:=HL.r b j hb e0;have z3:=HL.r k j j0 e0;have HS:=Z (zi3 n t a b k j);generalize Uf n t a b k j=lj at*;generalize t a j=u1 at*;generalize t b j=u2 at*;generalize t k j=u3 at*
      cases lj<;>cases u1<;>cases u2<;>cases u3
      all_goals
       go_wp2
       go_roundw
       case rel=>exact⟨by first|rfl|trivial,j+1,by omega,by go_num,by rw[HS.out];rfl⟩
       case measure=>simp[intOf];omega
     have o0:¬(j:Int)<(n:Int):=(by omega)
     obtain rfl:j=n:=by omega
     cases f0:Uf j t a b k j with
     |true=>
      have HE:Y (aX=(k:Int)):=(by show _=_;rw[a0.out];exact zk6 _ _ _ j0 f0 g0);clear f0;go_wp2;go_ret;exact⟨by rw[HE.out];rfl,rfl⟩
     |false=>
      have q0:Y (∀x,x<k+1->cO j t a b x=false):=λx hx=>by
       by_cases r0:x=k
       ·subst r0;exact f0
       exact g0 x (by omega)
      clear f0;go_wp2
      go_roundw
      case rel=>exact⟨by first|rfl|trivial,k+1,by omega,by go_num,q0⟩
      case measure=>simp[intOf];omega
  have k0:¬(k:Int)<(n:Int):=(by omega);have HE:Y (aX= -1):=(by show _=_;rw[a0.out];exact zp5 _ _ (λx hx=>g0 x (by omega)));go_wp2;go_ret;exact⟨by rw[HE.out];rfl,rfl⟩
section
variable{t t':Fl.cY}
def Yj.congr(h:Yj base w Lq rb n t)(ht:∀a b,a<n->b<n->t' a b=t a b):Yj base w Lq rb n t':=
 ⟨h.c,λi j hi hj=>by rw[ht i j hi hj];exact h.r i j hi hj,h.z,h.inj,h.ge⟩
def Yj.set(h:Yj base w Lq rb n t)(hi:i<n)(hj:j<n)(v:Bool):Yj base (w.setCell (O (rb i) j) (.bool v)) Lq rb n (λa b=>if a=i/\b=j then v else t a b):=by
 refine⟨λa ha=>?_,λa b ha hb=>?_,λa b ha=>by rw[frozen?_setCell];exact h.z a b ha,h.inj,h.ge⟩
 ·refine(Qg _ _ _ _ ?_).trans (h.c a ha)
  intro hh;injection hh with h1 _;exact(h.ge.2 i hi).2 (by omega)
 by_cases a0:a=i/\b=j
 ·obtain⟨rfl,rfl⟩:=a0
  rw[G ⟨rfl,rfl⟩];exact cell?_setCell_same' _ _ _ (by simp[h.r a b ha hb])
 rw[U a0];refine(Qg _ _ _ _ ?_).trans (h.r a b ha hb);intro hh;injection hh with h1 h2
 by_cases b0:a=i
 ·exact a0 ⟨b0,by omega⟩
 exact h.inj a i ha hi b0 (by omega)
def Yj.mix(h:Yj base w Lq rb n (Fl.mixTab k T i j))(hi:i<n)(hj:j<n):Yj base (w.setCell (O (rb i) j) (.bool (Fl.mixTab k T i j i j||(Fl.mixTab k T i j i k && Fl.mixTab k T i j k j)))) Lq rb n (Fl.mixTab k T i (j+1)):=
 (h.set hi hj _).congr λa b _ _=>Fl.mix_step k T i j a b
def Yj.mF(h:Yj base w Lq rb n (Fl.mixTab k T i n)):Yj base w Lq rb n (Fl.mixTab k T (i+1) 0):=h.congr λa b _ hb=>(Fl.mix_row k T i n a b hb).symm
def Yj.mD(h:Yj base w Lq rb n (Fl.mixTab k T n 0)):Yj base w Lq rb n (Fl.eK k T):=h.congr λa b ha _=>(Fl.mix_all k T n a b ha).symm
def Yj.md(h:Yj base w Lq rb n T):Yj base w Lq rb n (Fl.mixTab k T 0 0):=by rw[Fl.mix_zero];exact h
def yf7(aE aI:List Nat)(he:aE.length=aI.length)(p:Nat)(hp:p<aE.length)(hq:p<aI.length)(a b:Nat):eL (aE.take (p+1)) (aI.take (p+1)) a b=if a=aE[p]/\b=aI[p] then true else eL (aE.take p) (aI.take p) a b:=by
 unfold eL;rw[take_succ_eq_append_getElem hp,take_succ_eq_append_getElem hq,zip_append (by simp;omega),any_append]
 by_cases h:a=aE[p]/\b=aI[p]
 ·obtain⟨rfl,rfl⟩:=h
  simp
 rw[U h];have h2:([aE[p]].zip [aI[p]]).any (λp=>p.1==a && p.2==b)=false:=by
  simp;intro h3 h4;exact h ⟨h3.symm,h4.symm⟩
 rw[h2,Bool.or_false]
def Yj.pair{aE aI:List Nat}{p:Nat}(h:Yj base w Lq rb n (eL (aE.take p) (aI.take p)))(he:aE.length=aI.length)(hp:p<aE.length)(hq:p<aI.length)(hi:aE[p]<n)(hj:aI[p]<n):Yj base (w.setCell ⟨rb aE[p],aI[p],none⟩ (.bool true)) Lq rb n (eL (aE.take (p+1)) (aI.take (p+1))):=
 (h.set hi hj true).congr λa b _ _=>yf7 aE aI he p hp hq a b
end
def Tryz.infoBoolR:(Tryz.prog.info? 4).map (λi=>(i.zero,i.size,i.bytes))=some (some (.bool false),1,1):=by kernel_rfl
def Tryz.infoRowR:(Tryz.prog.info? 106).map (λi=>(i.zero,i.size,i.bytes))=some (some K,1,24):=by kernel_rfl
def Vx(n:Nat)(v:Value):Vs:=replicate n v
def ys3(n:Nat)(v:Value)(hv:v.cells=#[v]):madeCells v.cells ((n:Int).toNat*1)=(Vx n v).toArray:=by
 apply Array.ext
 ·simp[madeCells,Vx]
 intro i h1 h2;simp[madeCells,Vx,hv,Nat.mod_one]
def yf8(W:World)(n:Nat)(hn:n<=6):(Instr.makeSlice 106 (I n) (I n)).run prog W=.ok (Sq W.heap.size 0 n n) (W.alloc (.cells (Vx n (.bool false)).toArray 4)):=by
 obtain⟨i0,b0,c0,a0,d0⟩:=info_parts Tryz.infoBoolR;have h:=run_makeSlice (w:=W) 106 4 i0 (.bool false) underlying106 b0 c0 .i64 .i64 (n:Int) (n:Int) (by omega) (Int.le_refl _) (by rw[a0];simp;omega) (by rw[d0];omega) (by omega);rw[h,a0,ys3 n _ rfl,Qm]
def yf9(W:World)(n:Nat)(hn:n<=6):(Instr.makeSlice 51 (I n) (I n)).run prog W=.ok (Sq W.heap.size 0 n n) (W.alloc (.cells (Vx n K).toArray 106)):=by
 obtain⟨i0,b0,c0,a0,d0⟩:=info_parts Tryz.infoRowR;have h:=run_makeSlice (w:=W) 51 106 i0 K underlying51 b0 c0 .i64 .i64 (n:Int) (n:Int) (by omega) (Int.le_refl _) (by rw[a0];simp;omega) (by rw[d0];omega) (by omega);rw[h,a0,ys3 n _ rfl,Qm]
structure zt2(base:Nat)(w:World)(Lq:Nat)(rb:Nat->Nat)(n i:Nat):Prop where
 c:∀a,a<i->w.cell? (O Lq a)=some (Sq (rb a) 0 n n)
 o:∀a,i<=a->a<n->w.cell? (O Lq a)=some K
 zL:∀a,w.frozen? (O Lq a)=false
 r:∀a b,a<i->b<n->w.cell? (O (rb a) b)=some (.bool (a==b))
 z:∀a b,a<i->w.frozen? (O (rb a) b)=false
 inj:∀a b,a<i->b<i->a≠b->rb a≠rb b
 ge:base<=Lq/\Lq<w.heap.size/\∀a,a<i->base<=rb a/\rb a≠Lq/\rb a<w.heap.size
 le:i<=n
section
def zt2.all(h:zt2 base w Lq rb n n):Yj base w Lq rb n (eL (([]:List Nat)) []):=
 ⟨h.c,λa b ha hb=>by rw[h.r a b ha hb];simp[eL],h.z,h.inj,h.ge.1,λa ha=>⟨(h.ge.2.2 a ha).1,(h.ge.2.2 a ha).2.1⟩⟩
def zt2.ag(w:World)(n:Nat)(base:Nat)(hb:base<=w.heap.size)(rb:Nat->Nat):zt2 base (w.alloc (.cells (Vx n K).toArray 106)) w.heap.size rb n 0:=by
 have hc:=Ze.new w (Vx n K) 106;refine⟨λa ha=>absurd ha (by omega),λa _ ha=>?_,hc.z,λa b ha=>absurd ha (by omega),λa b ha=>absurd ha (by omega),λa b ha=>absurd ha (by omega),⟨hb,by simp,λa ha=>absurd ha (by omega)⟩,by omega⟩;rw[hc.c a (by simp[Vx];exact ha)];simp[rw_,Vx,ha]
def zt2.next(h:zt2 base w Lq rb n i)(hi:i<n):zt2 base (((w.alloc (.cells (Vx n (.bool false)).toArray 4)).setCell (O Lq i) (Sq w.heap.size 0 n n)).setCell (O w.heap.size i) (.bool true)) Lq (λa=>if a=i then w.heap.size else rb a) n (i+1):=by
 have hc:=Ze.new w (Vx n (.bool false)) 4;have c0:=h.ge.2.1;have hB:D w (w.alloc (.cells (Vx n (.bool false)).toArray 4)):=bA
 have b0:∀p:Addr,p.block<w.heap.size->p≠(O Lq i)->(((w.alloc (.cells (Vx n (.bool false)).toArray 4)).setCell (O Lq i) (Sq w.heap.size 0 n n)).setCell (O w.heap.size i) (.bool true)).cell? p=w.cell? p:=λp hp d0=>
  (Qg _ _ _ _ (by intro hh;have h9:=congrArg Addr.block hh;simp only at h9;omega)).trans ((Qg _ _ _ _ (λhh=>d0 (by rw[hh]))).trans (hB.cell hp))
 refine⟨λa ha=>?_,λa h1 h2=>?_,λa=>?_,λa b ha hb=>?_,λa b ha=>?_,λa b ha hb d0=>?_,⟨h.ge.1,?_,λa ha=>?_⟩,by omega⟩
 ·by_cases a0:a=i
  ·subst a0
   rw[G rfl];refine(Qg _ _ _ _ (by intro hh;injection hh with h1 _;omega)).trans ?_;exact cell?_setCell_same' _ _ _ (by rw[hB.cell c0,h.o a lE hi];rfl)
  rw[U a0,b0 _ c0 (by intro hh;injection hh with _ h2;exact a0 (by omega))];exact h.c a (by omega)
 ·rw[b0 _ c0 (by intro hh;injection hh with _ h2;omega)]
  exact h.o a (by omega) h2
 ·rw[frozen?_setCell,frozen?_setCell]
  exact(hB.frozen c0).trans (h.zL a)
 ·by_cases a0:a=i
  ·subst a0
   rw[G rfl]
   have h0:∀b,b<n->((w.alloc (.cells (Vx n (.bool false)).toArray 4)).setCell (O Lq a) (Sq w.heap.size 0 n n)).cell? (O w.heap.size b)=some (.bool false):=λb hb=>by
    refine(Qg _ _ _ _ (by intro hh;injection hh with h1 _;omega)).trans ?_;rw[hc.c b (by simp[Vx];exact hb)];simp[rw_,Vx,hb]
   by_cases f0:b=a
   ·subst f0
    rw[cell?_setCell_same' _ _ _ (by rw[h0 b hb];rfl)];simp
   rw[Qg _ _ _ _ (by intro hh;injection hh with _ h2;exact f0 (by omega)),h0 b hb];simp;omega
  rw[U a0];have hg:=h.ge.2.2 a (by omega);rw[b0 _ hg.2.2 (by intro hh;injection hh with h1 _;exact hg.2.1 h1)];exact h.r a b (by omega) hb
 ·rw[frozen?_setCell,frozen?_setCell]
  by_cases a0:a=i
  ·rw[G a0];exact hc.z b
  rw[U a0];exact(hB.frozen (h.ge.2.2 a (by omega)).2.2).trans (h.z a b (by omega))
 ·by_cases a0:a=i
  ·have e0:b≠i:=λhh=>d0 (a0.trans hh.symm)
   rw[G a0,U e0];have:=(h.ge.2.2 b (by omega)).2.2;omega
  rw[U a0]
  by_cases e0:b=i
  ·rw[G e0]
   have:=(h.ge.2.2 a (by omega)).2.2;omega
  rw[U e0];exact h.inj a b (by omega) (by omega) d0
 ·rw[Zy,Zy];have:=hB.size;omega
 rw[Zy,Zy]
 have hz:(w.alloc (.cells (Vx n (.bool false)).toArray 4)).heap.size=w.heap.size+1:=by simp
 by_cases a0:a=i
 ·rw[G a0];have:=h.ge.1;exact⟨by omega,by omega,by omega⟩
 rw[U a0];have:=h.ge.2.2 a (by omega);exact⟨this.1,this.2.1,by omega⟩
end
def Yk(lo base Rb Pb:Nat)(w0:World)(fl:List FlS)(t:Nat)(aX:Nat×RS)(e:Ending)(w':World):Prop:=
 e=.returned (I aX.1)/\(aX.1=0->∃m',Zu lo base Rb Pb w0 w' m'/\Zj aX.2 fl (t+1) m')/\(aX.1≠0->Below lo w0 w')
section
variable{m:Yn}{fl:List FlS}
def Zj.later(h:Zj r fl t m):Zj r fl (t+1) m:={h with lw:=by have:=h.lw;omega,ft:=by have:=h.ft;omega}
def Zj.lM(h:Zj r fl t m)(x:L)(v:Value)(hx:x.length<=100000)(hl:r.au.length<6)(a0:r.ag=false):Zj {r with au:=r.au++[x]} fl t (m.app 1 v [strV x]):=
 {
  r1:=⟨by show m.n 1+1=_;rw[h.r1.1];simp,by show m.xs 1++_=_;rw[h.r1.2];simp⟩,r2:=h.r2,r3:=h.r3,r4:=h.r4,r5:=h.r5,r6:=h.r6,r8:=h.r8,fX:=h.fX,iS:=h.iS,jx:=h.jx,bg:=h.bg,st:=h.st,nm:=λy hy=>by
   simp only[mem_append,mem_singleton]at hy;rcases hy with(h1|rfl)|h1|h1|h1
   ·exact h.nm y (by simp[h1])
   ·exact hx
   ·exact h.nm y (by simp[h1])
   ·exact h.nm y (by simp[h1])
   exact h.nm y (by simp[h1])
  lv:=by simp;omega,ce:=h.ce,ch:=h.ch,lo:=h.lo,sm:=h.sm,fr:=h.fr,lw:=h.lw,ft:=h.ft,pr:=h.pr,bw:=⟨λy hy=>by have:=h.bw.1 y hy;simp;omega,λy hy=>by have:=h.bw.2 y hy;simp;omega⟩,cl:=h.cl,hl:=h.hl,lt:=λhh=>absurd (a0.symm.trans hh) (by simp)}
def yj5(h:Zu lo base Rb Pb w0 w m)(hr:Zj r fl t m)(G0:Y (r.ag=false))(b off cap:Nat)(k n:L)(H0:n.length<=100000)(hb:b<w.heap.size)(y0:b≠Rb/\∀j,Zt j->(m.v j).ownBlock≠some b)(I0:2<=cap/\cap<=maxLen)(c0:w.cell? (O b off)=some (.string ⟨#[108,101,118,101,108]⟩))(c1:w.cell? (O b (off+1))=some (Tq n)):
  E 31 #[F Rb,Sq b off 2 cap] w (Yk lo base Rb Pb w0 fl t (r.head [k,n])):=by
 have bU:=h.bU
 have A0:Rb<w.heap.size:=by omega
 have HH:=Z h;have HO:=Z hr;have o0:Y (∀W,D w W->E 30 #[m.v 1,Tq n] W (Rq (I (aj r.au n)) W)):=λW hW=>Xt ((h.below hW).au hr) n;obtain⟨d1,k1,d0⟩:=h.shape 1 (by unfold Zt;omega);rw[hr.r1.1]at d0;have p0:=Z d0;rw[d0]at o0;have f0:Y (∀W,D w W->M W Rb 1 (A d1 r.au.length k1)/\M W b (off+1) (Tq n)):=λW hW=>⟨cT hW A0 (by rw[<-d0];exact h.cR.c 1 (by omega)),cT hW hb c1⟩
 have B0:Y (∀W,D w W->W.ownsRow base 9 1 (A d1 r.au.length k1) r.au.length (r.au.map strV)):=λW hW=>by
  have h1:=(h.below hW).own 1 (by unfold Zt;omega);rw[hr.r1.1,hr.r1.2,d0]at h1;exact h1
 have a0:Y (r.head [k,n]=if 0<=aj r.au n then(4,r) else if r.au.length=6 then(5,r) else(0,{r with au:=r.au++[n]})):=rfl;obtain⟨aX,j0⟩:=J (r.head [k,n]);rw[<-j0]at a0⊢;have Q0:=aQ r.au n;have R0:=hr.lv;generalize aj r.au n=pc at*
 have C0:(2:Int)<=(cap:Int):=by omega
 have J0: -1<=pc/\pc<=6:=by omega
 have K0:(r.au.length:Int)<=6:=by omega
 have D0:Y ((A d1 r.au.length k1).ownBlock≠some b):=by rw[<-d0];exact y0.2 1 (by unfold Zt;omega)
 clear h hr j0 d0 c1 y0
 go_enter func31,ntmps31
 go_wp2_with fail
 refine Zd (λW=>D w W) [7] [] [] dA (by kernel_rfl) (λ_ _ _ _ h=>h) (λops hG=>?_);clear hG
 iterate 7 refine Uo rfl (kE (by intro w' hw';obtain⟨x0,x1⟩:=f0 w' hw';clear hw';go_simp<;>rfl) (by go_simp<;>rfl) ?_)
 refine Zm ?_
 go_wp2_with fail
 refine(o0 _ dA).mono ?_;rintro _ _ ⟨rfl,rfl⟩
 go_wp2_with fail
 refine⟨dA,?_⟩;refine Zv rfl (by rintro _ -;go_simp<;>rfl) (by go_simp<;>rfl) ?_;refine Zs ?_;have x1:=(f0 w.drew dA).1;have x2:=(f0 w.drew dA).2
 by_cases hp:0<=pc
 ·have HE:Y (Yk lo base Rb Pb w0 fl t aX (.returned (I 4)) w.drew):=by
   show Yk _ _ _ _ _ _ _ _ _ _;rw[a0.out,G hp];exact⟨rfl,λh=>(by cases h),λ_=>HH.drew.bel⟩
  go_wp2;go_ret;exact HE
 have S0:pc<0:=by omega
 by_cases h6:r.au.length=6
 ·have b6:((r.au.length:Int)==6)=true:=by simp[h6]
  have HE:Y (Yk lo base Rb Pb w0 fl t aX (.returned (I 5)) w.drew):=by
   show Yk _ _ _ _ _ _ _ _ _ _;rw[a0.out,U hp,G h6];exact⟨rfl,λh=>(by cases h),λ_=>HH.drew.bel⟩
  clear h6 hp;go_wp2;go_ret;exact HE
 have b6:((r.au.length:Int)==6)=false:=by simp;omega
 have HR:Y (aX=(0,{r with au:=r.au++[n]})):=by show _=_;rw[a0.out,U hp,U h6]
 have L0:r.au.length<6:=by omega
 clear h6 hp
 go_wp2_with fail
 refine Zd (λW=>M W Rb 1 (A d1 r.au.length k1)/\M W b (off+1) (Tq n)) [8,9,10] [12] [] ⟨x1,x2⟩ (by kernel_rfl) (λ_ _ _ _ h=>h) (λops hG=>?_);clear hG
 iterate 8 refine Zv rfl (by intros;go_simp<;>rfl) (by go_simp<;>rfl) ?_
 refine Zm ?_
 go_wp2_with fail
 obtain⟨W3,h0⟩:=J ((w.alloc (.cells #[Tq n] 9)).drew.drew);obtain⟨tb,q0⟩:=J (w.heap.size)
 have k0:D w W3:=by rw[h0];exact(bA).drew.drew
 have T0:w.heap.size+1=W3.heap.size:=by rw[h0];simp
 have t0:∀i u,([Tq n]:Vs)[i]?=some u->W3.cell? (((O tb 0):Addr).add i)=some u:=by rw[h0,q0];exact Xo
 have e0:=(f0 W3 k0).1;have e1:=(f0 W3 k0).2;have r0:=Z (B0 W3 k0);have s0:=Z k0
 first|rw[<-h0,<-q0]|rw[<-h0]
 clear h0 q0 k0 x1 x2 B0 f0 o0;refine⟨⟨e0,e1⟩,?_⟩;refine Zm ?_;obtain⟨i0,M0,N0,O0,P0⟩:=info_parts Tryz.infoStr
 go_wp2_with (at_builtin;refine Ap underlying48 M0 N0 O0 P0 rfl r0 rfl [Tq n] rfl rfl t0 ?c2 ?c3 ?c4 ?c5 ?_)
 case c2=>intro u hu;simp at hu;subst hu;rfl
 case c3=>unfold maxLen;omega
 case c4=>omega
 case c5=>omega
 intro v' W4 b0 n0 l0;obtain⟨va,vcap,rfl⟩:∃va vcap,v'=A va (r.au.length+1) vcap:=by
  rcases b0.2 with⟨h1,h2⟩|⟨g,cp,cur,h1,_⟩
  ·omega
  exact⟨_,cp,h1⟩
 have m0:∀k,(A d1 r.au.length k1).ownBlock=some k->base<=k/\k<w.heap.size+1:=λk hk=>by have:=r0.lt k hk;omega
 have u0:=n0.block Rb (by omega) (λhh=>by have:=(m0 Rb hh.symm).1;omega);have F0:=n0.block b (by omega) (λhh=>D0 hh.symm);have g0:=cQ u0 e0;have g1:=cQ F0 e1;have gz:=fQ u0 ((s0.frozen (p:=(O Rb 1)) A0).trans (HH.cR.z 1));have v0:Y (Yk lo base Rb Pb w0 fl t aX (.returned (I 0)) (W4.setCell (O Rb 1) (A va (r.au.length+1) vcap))):=by
  show Yk _ _ _ _ _ _ _ _ _ _;rw[HR.out];refine⟨rfl,λ_=>⟨_,HH.jN 1 (by unfold Zt;omega) (by omega) s0 ?_ ?_ ?_,(HO.lM n _ H0 L0 G0).later⟩,λhh=>absurd rfl hh⟩
  ·rw[HO.r1.1,HO.r1.2];exact b0
  ·rw[p0.out];exact n0
  rw[p0.out];exact l0
 clear b0 n0 l0 u0 F0 e0 e1 t0 r0 s0 m0 p0 HH HO HR a0 D0
 go_wp2_with fail
 refine⟨⟨g0,g1⟩,?_⟩;refine Zm ?_
 go_wp2_with fail
 refine⟨⟨g0,g1⟩,?_⟩;refine Zv rfl (by intros;go_simp<;>rfl) (by go_simp<;>rfl) ?_;refine Xx ?_
 go_wp2_with fail
 refine Zs ?_;go_wp2;go_ret;exact v0
end
section
variable{m:Yn}{fl:List FlS}
def Zj.lL(h:Zj r fl t m)(x y:Nat)(v v':Value)(hx:x<r.au.length)(hy:y<r.au.length)(a0:r.ag=false):Zj {r with aE:=r.aE++[x],aI:=r.aI++[y]} fl (t+1) ((m.app 5 v [I (x:Int)]).app 6 v' [I (y:Int)]):=
 {
  r1:=h.r1,r2:=h.r2,r3:=h.r3,r4:=h.r4,r5:=⟨by show m.n 5+1=_;rw[h.r5.1];simp,by show m.xs 5++_=_;rw[h.r5.2];simp[Ym]⟩,r6:=⟨by show m.n 6+1=_;rw[h.r6.1];simp,by show m.xs 6++_=_;rw[h.r6.2];simp[Ym]⟩,r8:=h.r8,fX:=h.fX,iS:=h.iS,jx:=h.jx,bg:=h.bg,st:=h.st,nm:=h.nm,lv:=h.lv,ce:=h.ce,ch:=h.ch,lo:=h.lo,sm:=h.sm,fr:=h.fr,lw:=by have:=h.lw;simp;omega,ft:=by have:=h.ft;omega,pr:=by have:=h.pr;simp;omega,bw:=⟨λz hz=>by
    simp only[mem_append,mem_singleton]at hz;rcases hz with h1|rfl
    ·exact h.bw.1 z h1
    ·exact hx,λz hz=>by
    simp only[mem_append,mem_singleton]at hz;rcases hz with h1|rfl
    ·exact h.bw.2 z h1
    exact hy⟩,cl:=h.cl,hl:=h.hl,lt:=λhh=>absurd (a0.symm.trans hh) (by simp)}
def yj6(h:Zu lo base Rb Pb w0 w m)(hr:Zj r fl t m)(R0:Y (r.ag=false))(ht:t<=1000000)(b off cap:Nat)(n l:L)(hb:b<w.heap.size)(S0:b≠Rb/\∀j,Zt j->(m.v j).ownBlock≠some b)(T0:3<=cap/\cap<=maxLen)(c0:w.cell? (O b off)=some (.string ⟨#[98,101,108,111,119]⟩))(c1:w.cell? (O b (off+1))=some (Tq n))(c2:w.cell? (O b (off+2))=some (Tq l)):
  E 31 #[F Rb,Sq b off 3 cap] w (Yk lo base Rb Pb w0 fl t (r.head [bY,n,l])):=by
 have bU:=h.bU
 have f0:Rb<w.heap.size:=by omega
 have HH:=Z h;have HO:=Z hr;have v0:Y (∀W,D w W->E 30 #[m.v 1,Tq n] W (Rq (I (aj r.au n)) W)):=λW hW=>Xt ((h.below hW).au hr) n;have y0:Y (∀W,D w W->E 30 #[m.v 1,Tq l] W (Rq (I (aj r.au l)) W)):=λW hW=>Xt ((h.below hW).au hr) l;obtain⟨d1,k1,r0⟩:=h.shape 1 (by unfold Zt;omega);rw[hr.r1.1]at r0;rw[r0]at v0 y0;obtain⟨d5,k5,j0⟩:=h.shape 5 (by unfold Zt;omega);rw[hr.r5.1]at j0;obtain⟨d6,k6,z0⟩:=h.shape 6 (by unfold Zt;omega);rw[hr.r6.1]at z0;have A0:=Z j0;have k0:=Z z0;have B0:Y (∀W,D w W->M W Rb 1 (A d1 r.au.length k1)/\M W b (off+1) (Tq n)/\M W b (off+2) (Tq l)):=λW hW=>⟨cT hW f0 (by rw[<-r0];exact h.cR.c 1 (by omega)),cT hW hb c1,cT hW hb c2⟩
 have C0:Y (∀W,D w W->W.ownsRow base 3 1 (A d5 r.aE.length k5) r.aE.length (Ym r.aE)/\M W Rb 5 (A d5 r.aE.length k5)):=λW hW=>by
  have h1:=(h.below hW).own 5 (by unfold Zt;omega);rw[hr.r5.1,hr.r5.2,j0]at h1;exact⟨h1,cT hW f0 (by rw[<-j0];exact h.cR.c 5 (by omega))⟩
 have a0:Y (r.head [bY,n,l]=if aj r.au n<0\/aj r.au l<0 then(4,r) else(0,{r with aE:=r.aE++[(aj r.au n).toNat],aI:=r.aI++[(aj r.au l).toNat]})):=by show _=_;simp[RS.head]
 obtain⟨aX,l0⟩:=J (r.head [bY,n,l]);rw[<-l0]at a0⊢;have a1:=aQ r.au n;have b1:=aQ r.au l;have f1:=hr.lv;have g1:=hr.lw;have J0:=hr.pr;generalize aj r.au n=pc at*;generalize aj r.au l=pd at*
 have K0:(3:Int)<=(cap:Int):=by omega
 have U0: -1<=pc/\pc<=6:=by omega
 have V0: -1<=pd/\pd<=6:=by omega
 have W0:(r.au.length:Int)<=6:=by omega
 have X0:pc<r.au.length:=by omega
 have Y0:pd<r.au.length:=by omega
 have i1:=Z J0
 have j1:r.aI.length<=t:=by omega
 clear h hr l0 r0 j0 z0 c1 c2 S0 J0
 go_enter func31,ntmps31
 go_wp2_with fail
 refine Zd (λW=>D w W) [7] [] [] dA (by kernel_rfl) (λ_ _ _ _ h=>h) (λops hG=>?_);clear hG
 iterate 7 refine Uo rfl (kE (by intro w' hw';obtain⟨x0,x1,x2⟩:=B0 w' hw';clear hw';go_simp<;>rfl) (by go_simp<;>rfl) ?_)
 refine Zm ?_
 go_wp2_with fail
 refine(v0 _ dA).mono ?_;rintro _ _ ⟨rfl,rfl⟩
 go_wp2_with fail
 refine⟨dA,?_⟩;refine Zv rfl (by rintro _ -;go_simp<;>rfl) (by go_simp<;>rfl) ?_;refine Zs ?_
 go_wp2_with fail
 refine Zd (λW=>D w W) [7] [] [] dA.drew (by kernel_rfl) (λ_ _ _ _ h=>h) (λops hG=>?_);clear hG
 iterate 7 refine Uo rfl (kE (by intro w' hw';obtain⟨x0,x1,x2⟩:=B0 w' hw';clear hw';go_simp<;>rfl) (by go_simp<;>rfl) ?_)
 refine Zm ?_
 go_wp2_with fail
 refine(y0 _ dA.drew).mono ?_;rintro _ _ ⟨rfl,rfl⟩
 go_wp2_with fail
 refine⟨dA.drew,?_⟩;refine Zv rfl (by rintro _ -;go_simp<;>rfl) (by go_simp<;>rfl) ?_;refine Zs ?_
 by_cases hp:pc<0
 ·have HE:Y (Yk lo base Rb Pb w0 fl t aX (.returned (I 4)) w.drew.drew):=by
   show Yk _ _ _ _ _ _ _ _ _ _;rw[a0.out,G (.inl hp)];exact⟨rfl,λh=>(by cases h),λ_=>HH.drew.drew.bel⟩
  go_wp2;go_ret;exact HE
 have l1:0<=pc:=by omega
 clear hp
 by_cases hq:pd<0
 ·have HE:Y (Yk lo base Rb Pb w0 fl t aX (.returned (I 4)) w.drew.drew):=by
   show Yk _ _ _ _ _ _ _ _ _ _;rw[a0.out,G (.inr hq)];exact⟨rfl,λh=>(by cases h),λ_=>HH.drew.drew.bel⟩
  go_wp2;go_ret;exact HE
 have m1:0<=pd:=by omega
 clear hq
 have HR:Y (aX=(0,{r with aE:=r.aE++[pc.toNat],aI:=r.aI++[pd.toNat]})):=by show _=_;rw[a0.out,U (by omega)]
 have x5:=(C0 w.drew.drew dA.drew).2;have D0:D w (w.alloc (.cells #[I pc] 3)).drew.drew:=(bA).drew.drew;have h0:=Z D0;have E0:=Z ((C0 _ D0).1);have L0:Y (∀i u,([I pc]:Vs)[i]?=some u->(w.alloc (.cells #[I pc] 3)).drew.drew.cell? (((O w.heap.size 0):Addr).add i)=some u):=Xo;clear v0 y0 B0 a0 C0 D0;obtain⟨i0,M0,N0,O0,P0⟩:=info_parts Tryz.infoIntP
 go_wp2_with (at_builtin;refine Ap underlying27 M0 N0 O0 P0 rfl E0 rfl [I pc] rfl rfl L0.out ?c2 ?c3 ?c4 ?c5 ?_)
 case c2=>intro u hu;simp at hu;subst hu;rfl
 case c3=>unfold maxLen;omega
 case c4=>first|omega|(simp;omega)
 case c5=>first|omega|(simp;omega)
 intro v' W4 b0 s0 n0;obtain⟨va,vcap,rfl⟩:∃va vcap,v'=A va (r.aE.length+1) vcap:=by
  rcases b0.2 with⟨h1,h2⟩|⟨g,cp,cur,h1,_⟩
  ·omega
  exact⟨_,cp,h1⟩
 have n1:(w.alloc (.cells #[I pc] 3)).drew.drew.heap.size=w.heap.size+1:=by simp
 have o0:∀k,(A d5 r.aE.length k5).ownBlock=some k->base<=k/\k<w.heap.size+1:=λk hk=>by have:=E0.lt k hk;omega
 have e0:=s0.block Rb (by omega) (λhh=>by have:=(o0 Rb hh.symm).1;omega);have gz:=fQ e0 ((h0.frozen (p:=(O Rb 5)) f0).trans (HH.cR.z 5));have g0:=cQ e0 (cT h0 f0 x5);have H5:Y (Zu lo base Rb Pb w0 (W4.setCell (O Rb 5) (A va (r.aE.length+1) vcap)) (m.app 5 (A va (r.aE.length+1) vcap) [I (pc.toNat:Int)])):=by
  have e1:(pc.toNat:Int)=pc:=(by omega);rw[e1];refine HH.jN 5 (by unfold Zt;omega) (by omega) h0 ?_ ?_ ?_
  ·rw[HO.r5.1,HO.r5.2];exact b0
  ·rw[A0.out];exact s0
  rw[A0.out];rcases n0 with hh|hh
  ·exact .inl hh
  exact .inr (by rw[hh];try simp)
 have o1:w.heap.size+1<=W4.heap.size:=by have:=s0.size;omega
 have t0:Y ((W4.setCell (O Rb 5) (A va (r.aE.length+1) vcap)).heap.size=W4.heap.size):=Zy _ _ _;have y6:M W4 Rb 6 (A d6 r.aI.length k6):=cQ e0 (cT h0 f0 (by rw[<-k0.out];exact HH.cR.c 6 (by omega)));have z6:=fQ e0 ((h0.frozen (p:=(O Rb 6)) f0).trans (HH.cR.z 6));have F0:Below (W4.setCell (O Rb 5) (A va (r.aE.length+1) vcap)).heap.size (W4.setCell (O Rb 5) (A va (r.aE.length+1) vcap)) ((W4.setCell (O Rb 5) (A va (r.aE.length+1) vcap)).alloc (.cells #[I pd] 3)):=bA;have u0:=Z F0;have G0:Y (((W4.setCell (O Rb 5) (A va (r.aE.length+1) vcap)).alloc (.cells #[I pd] 3)).ownsRow base 3 1 (A d6 r.aI.length k6) r.aI.length (Ym r.aI)):=by
  have h1:=(H5.below F0).own 6 (by unfold Zt;omega);have e2:(m.app 5 (A va (r.aE.length+1) vcap) [I (pc.toNat:Int)]).v 6=A d6 r.aI.length k6:=k0.out;have e3:(m.app 5 (A va (r.aE.length+1) vcap) [I (pc.toNat:Int)]).n 6=r.aI.length:=HO.r6.1;have e4:(m.app 5 (A va (r.aE.length+1) vcap) [I (pc.toNat:Int)]).xs 6=Ym r.aI:=HO.r6.2;rw[e2,e3,e4]at h1;exact h1
 have Q0:Y (∀i u,([I pd]:Vs)[i]?=some u->((W4.setCell (O Rb 5) (A va (r.aE.length+1) vcap)).alloc (.cells #[I pd] 3)).cell? (((O W4.heap.size 0):Addr).add i)=some u):=zi2 t0.out;clear b0 s0 n0 e0 E0 h0 L0 o0 A0 HH F0
 go_wp2_with (at_builtin;refine Ap underlying27 M0 N0 O0 P0 rfl G0 rfl [I pd] rfl rfl Q0.out ?d2 ?d3 ?d4 ?d5 ?_)
 case d2=>intro u hu;simp at hu;subst hu;rfl
 case d3=>unfold maxLen;omega
 case d4=>first|omega|(simp;omega)
 case d5=>first|omega|(simp;omega)
 intro v6 W6 d0 H0 p0;obtain⟨vb,vcbp,rfl⟩:∃va vcap,v6=A va (r.aI.length+1) vcap:=by
  rcases d0.2 with⟨h1,h2⟩|⟨g,cp,cur,h1,_⟩
  ·omega
  exact⟨_,cp,h1⟩
 have Z0:((W4.setCell (O Rb 5) (A va (r.aE.length+1) vcap)).alloc (.cells #[I pd] 3)).heap.size=W4.heap.size+1:=by simp
 have q0:∀k,(A d6 r.aI.length k6).ownBlock=some k->base<=k:=λk hk=>(G0.lt k hk).1;have e0:=H0.block Rb (Qj (b:=W4.heap.size+1) (by omega) (Nat.le_of_eq Z0.symm)) (λhh=>by have:=q0 Rb hh.symm;omega);have gz6:=fQ e0 ((u0.frozen (p:=(O Rb 6)) (by rw[t0.out];show Rb<_;omega)).trans (H5.cR.z 6));have I0:Y (Yk lo base Rb Pb w0 fl t aX (.returned (I 0)) (W6.setCell (O Rb 6) (A vb (r.aI.length+1) vcbp))):=by
  show Yk _ _ _ _ _ _ _ _ _ _;rw[HR.out];have e1:(pd.toNat:Int)=pd:=(by omega);refine⟨rfl,λ_=>⟨_,H5.jN 6 (by unfold Zt;omega) (by omega) u0 ?_ ?_ ?_,HO.lL pc.toNat pd.toNat _ _ (by omega) (by omega) R0⟩,λhh=>absurd rfl hh⟩
  ·rw[e1]
   have e3:(m.app 5 (A va (r.aE.length+1) vcap) [I (pc.toNat:Int)]).n 6=r.aI.length:=HO.r6.1;have e4:(m.app 5 (A va (r.aE.length+1) vcap) [I (pc.toNat:Int)]).xs 6=Ym r.aI:=HO.r6.2;rw[e3,e4];exact d0
  ·have e2:(m.app 5 (A va (r.aE.length+1) vcap) [I (pc.toNat:Int)]).v 6=A d6 r.aI.length k6:=k0.out
   rw[e2];exact H0
  have e2:(m.app 5 (A va (r.aE.length+1) vcap) [I (pc.toNat:Int)]).v 6=A d6 r.aI.length k6:=k0.out;rw[e2];rcases p0 with hh|hh
  ·exact .inl hh
  exact .inr (by rw[hh];try simp)
 have g6:∃v,M W6 Rb 6 v:=⟨_,cQ e0 (cT u0 (by rw[t0.out];show Rb<_;omega) (H5.cR.c 6 (by omega)))⟩;obtain⟨v66,g6⟩:=g6;clear d0 H0 p0 e0 G0 u0 Q0 q0 k0 H5 HO HR t0;go_wp2;go_ret;exact I0
end
section
variable{m:Yn}{fl:List FlS}
def Zj.mc(h:Zj r fl t m)(x:L)(y:Nat)(v v':Value)(hx:x.length<=100000)(hl:r.cells.length<6):Zj {r with cells:=r.cells++[x],aW:=r.aW++[y]} fl (t+1) ((m.app 2 v [strV x]).app 12 v' [I (y:Int)]):=
 {
  r1:=h.r1,r2:=⟨by show m.n 2+1=_;rw[h.r2.1];simp,by show m.xs 2++_=_;rw[h.r2.2];simp⟩,r3:=h.r3,r4:=h.r4,r5:=h.r5,r6:=h.r6,r8:=h.r8,fX:=h.fX,iS:=⟨by show m.n 12+1=_;rw[h.iS.1];simp,by show m.xs 12++_=_;rw[h.iS.2];simp[Ym]⟩,jx:=h.jx,bg:=h.bg,st:=h.st,nm:=λy hy=>by
   simp only[mem_append,mem_singleton]at hy;rcases hy with h1|(h1|rfl)|h1|h1
   ·exact h.nm y (by simp[h1])
   ·exact h.nm y (by simp[h1])
   ·exact hx
   ·exact h.nm y (by simp[h1])
   exact h.nm y (by simp[h1])
  lv:=h.lv,ce:=by simp;omega,ch:=h.ch,lo:=h.lo,sm:=h.sm,fr:=h.fr,lw:=by have:=h.lw;show r.aE.length<=_;omega,ft:=by have:=h.ft;omega,pr:=h.pr,bw:=h.bw,cl:=by have:=h.cl;simp;omega,hl:=h.hl,lt:=h.lt}
def Zj.ma(h:Zj r fl t m)(x:L)(y:Nat)(v v':Value)(hx:x.length<=100000)(hl:r.ai.length<3):Zj {r with ai:=r.ai++[x],aV:=r.aV++[y]} fl (t+1) ((m.app 3 v [strV x]).app 13 v' [I (y:Int)]):=
 {
  r1:=h.r1,r2:=h.r2,r3:=⟨by show m.n 3+1=_;rw[h.r3.1];simp,by show m.xs 3++_=_;rw[h.r3.2];simp⟩,r4:=h.r4,r5:=h.r5,r6:=h.r6,r8:=h.r8,fX:=h.fX,iS:=h.iS,jx:=⟨by show m.n 13+1=_;rw[h.jx.1];simp,by show m.xs 13++_=_;rw[h.jx.2];simp[Ym]⟩,bg:=h.bg,st:=h.st,nm:=λy hy=>by
   simp only[mem_append,mem_singleton]at hy;rcases hy with h1|h1|(h1|rfl)|h1
   ·exact h.nm y (by simp[h1])
   ·exact h.nm y (by simp[h1])
   ·exact h.nm y (by simp[h1])
   ·exact hx
   exact h.nm y (by simp[h1])
  lv:=h.lv,ce:=h.ce,ch:=by simp;omega,lo:=h.lo,sm:=h.sm,fr:=h.fr,lw:=by have:=h.lw;show r.aE.length<=_;omega,ft:=by have:=h.ft;omega,pr:=h.pr,bw:=h.bw,cl:=h.cl,hl:=by have:=h.hl;simp;omega,lt:=h.lt}
def yo7(h:Zu lo base Rb Pb w0 w m)(hr:Zj r fl t m)(b off cap:Nat)(n l:L)(kw:ByteArray)(Qw JL MX:Nat)(X:List L)(XL:List Nat)(r2:RS)(aX:Nat×RS)(m0:(kw=⟨#[99,101,108,108]⟩/\Qw=2/\JL=12/\MX=6)\/(kw=⟨#[99,104,97,110,110,101,108]⟩/\Qw=3/\JL=13/\MX=3))(hX:m.n Qw=X.length/\m.xs Qw=X.map strV)(O0:m.n JL=XL.length/\m.xs JL=Ym XL)(q1:X.length<=MX)(aL:XL.length<=6)(n0:aX=if aj r.au l<0\/0<=aj r.cells n\/0<=aj r.ai n then(4,r) else if X.length=MX then(5,r) else(0,r2))(o0:∀v v',X.length<MX->Zj r2 fl (t+1) ((m.app Qw v [strV n]).app JL v' [I ((aj r.au l).toNat:Int)]))(hb:b<w.heap.size)(i1:b≠Rb/\∀j,Zt j->(m.v j).ownBlock≠some b)(s1:3<=cap/\cap<=maxLen)(c0:w.cell? (O b off)=some (.string kw))(c1:w.cell? (O b (off+1))=some (Tq n))(c2:w.cell? (O b (off+2))=some (Tq l)):
  E 31 #[F Rb,Sq b off 3 cap] w (Yk lo base Rb Pb w0 fl t aX):=by
 have bU:=h.bU
 have p0:Rb<w.heap.size:=by omega
 have I1:Pb<w.heap.size:=by omega
 have HH:=Z h;have HO:=Z hr;have P0:Y (∀W,D w W->E 30 #[m.v 1,Tq l] W (Rq (I (aj r.au l)) W)):=λW hW=>Xt ((h.below hW).au hr) l;have Q0:Y (∀W,D w W->E 30 #[m.v 2,Tq n] W (Rq (I (aj r.cells n)) W)):=λW hW=>Xt ((h.below hW).cells hr) n;have R0:Y (∀W,D w W->E 30 #[m.v 3,Tq n] W (Rq (I (aj r.ai n)) W)):=λW hW=>Xt ((h.below hW).ai hr) n;obtain⟨d1,k1,D0⟩:=h.shape 1 (by unfold Zt;omega);rw[hr.r1.1]at D0;obtain⟨d2,k2,E0⟩:=h.shape 2 (by unfold Zt;omega);rw[hr.r2.1]at E0;obtain⟨d3,k3,F0⟩:=h.shape 3 (by unfold Zt;omega);rw[hr.r3.1]at F0;obtain⟨dX,kX,k0⟩:=h.shape Qw (by unfold Zt;omega);rw[hX.1]at k0;obtain⟨dl,kl,G0⟩:=h.shape JL (by unfold Zt;omega);rw[O0.1]at G0;rw[D0]at P0;rw[E0]at Q0;rw[F0]at R0;have S0:=Z k0;have t1:=Z G0;have h0:Y (∀W,D w W->M W Rb 1 (A d1 r.au.length k1)/\M W Rb 2 (A d2 r.cells.length k2)/\M W Rb 3 (A d3 r.ai.length k3)/\M W b (off+1) (Tq n)/\M W b (off+2) (Tq l)):=λW hW=>⟨cT hW p0 (by rw[<-D0];exact h.cR.c 1 (by omega)),cT hW p0 (by rw[<-E0];exact h.cR.c 2 (by omega)),cT hW p0 (by rw[<-F0];exact h.cR.c 3 (by omega)),cT hW hb c1,cT hW hb c2⟩;have H0:Y (∀W,D w W->M W Rb Qw (A dX X.length kX)/\M W b (off+1) (Tq n)):=λW hW=>⟨cT hW p0 (by rw[<-k0];rcases m0 with⟨-,rfl,-⟩|⟨-,rfl,-⟩<;>exact h.cR.c _ (by omega)),cT hW hb c1⟩
 have j1:Y (∀W,D w W->W.ownsRow base 9 1 (A dX X.length kX) X.length (X.map strV)):=λW hW=>by
  have h1:=(h.below hW).own Qw (by unfold Zt;omega);rw[hX.1,hX.2,k0]at h1;rcases m0 with⟨-,rfl,-⟩|⟨-,rfl,-⟩<;>exact h1
 have u1:=aQ r.au l;have v1:=aQ r.cells n;have x1:=aQ r.ai n;have J1:=hr.lv;have K1:=hr.ce;have L1:=hr.ch;have d0:=Z n0;have z1:=Z o0;clear n0 o0;generalize aj r.au l=pa at*;generalize aj r.cells n=pb at*;generalize aj r.ai n=pe at*
 have l1:(3:Int)<=(cap:Int):=by omega
 have A1: -1<=pa/\pa<=6:=by omega
 have B1: -1<=pb/\pb<=6:=by omega
 have C1: -1<=pe/\pe<=6:=by omega
 have D1:(r.au.length:Int)<=6:=by omega
 have E1:(r.cells.length:Int)<=6:=by omega
 have F1:(r.ai.length:Int)<=3:=by omega
 have m1:Y ((A dX X.length kX).ownBlock≠some b):=by rw[<-k0];exact i1.2 Qw (by unfold Zt;omega)
 have T0:Zt Qw/\Zt JL:=by unfold Zt;omega
 have HE:Y (∀v,(m.app Qw v [strV n]).v JL=A dl XL.length kl/\(m.app Qw v [strV n]).n JL=XL.length/\(m.app Qw v [strV n]).xs JL=Ym XL):=λv=>by rcases m0 with⟨-,rfl,rfl,-⟩|⟨-,rfl,rfl,-⟩<;>exact⟨G0,O0.1,O0.2⟩
 have G1:Y (∀W m',Zu lo base Rb Pb w0 W m'->M W Pb Qw (m'.v JL)):=λW m' h=>by rcases m0 with⟨-,rfl,rfl,-⟩|⟨-,rfl,rfl,-⟩<;>exact h.cP.c _ (by omega)
 obtain⟨f5,n1⟩:∃f:World->Value->World,f=λW v=>W.setCell (O Rb Qw) v:=⟨_,rfl⟩;obtain⟨f6,o1⟩:∃f:World->Value->World,f=λW v=>W.setCell (O Pb Qw) v:=⟨_,rfl⟩
 have F5:Y (∀W v,f5 W v=W.setCell (O Rb Qw) v):=λW v=>by rw[n1]
 have F6:Y (∀W v,f6 W v=W.setCell (O Pb Qw) v):=λW v=>by rw[o1]
 clear n1 o1;have h6:X.length=MX\/¬X.length=MX:=Classical.em _;clear h hr D0 E0 F0 k0 G0 c1 c2 i1 u1 v1 x1;rcases m0 with⟨rfl,rfl,rfl,rfl⟩|⟨rfl,rfl,rfl,rfl⟩
 all_goals
  go_enter func31,ntmps31
  go_wp2_with fail
  refine Zk h0 dA [7] [] [] (by kernel_rfl) (λ_ _ _ _ h=>h) (λops hG=>?_);clear hG
  iterate 7 refine Zv rfl (by intros;go_simp<;>rfl) (by go_simp<;>rfl) ?_
  refine Zm ?_
  go_wp2_with fail
  refine(P0 _ dA).mono ?_;rintro _ _ ⟨rfl,rfl⟩
  go_wp2_with fail
  refine⟨h0 _ dA,?_⟩;refine Zv rfl (by intros;go_simp<;>rfl) (by go_simp<;>rfl) ?_;refine Zs ?_
  go_wp2_with fail
  refine Zk h0 dA.drew [7] [] [] (by kernel_rfl) (λ_ _ _ _ h=>h) (λops hG=>?_);clear hG
  iterate 7 refine Zv rfl (by intros;go_simp<;>rfl) (by go_simp<;>rfl) ?_
  refine Zm ?_
  go_wp2_with fail
  refine(Q0 _ dA.drew).mono ?_;rintro _ _ ⟨rfl,rfl⟩
  go_wp2_with fail
  refine⟨h0 _ dA.drew,?_⟩;refine Zv rfl (by intros;go_simp<;>rfl) (by go_simp<;>rfl) ?_;refine Zs ?_
  go_wp2_with fail
  refine Zk h0 dA.drew.drew [7] [] [] (by kernel_rfl) (λ_ _ _ _ h=>h) (λops hG=>?_);clear hG
  iterate 7 refine Zv rfl (by intros;go_simp<;>rfl) (by go_simp<;>rfl) ?_
  refine Zm ?_
  go_wp2_with fail
  refine(R0 _ dA.drew.drew).mono ?_;rintro _ _ ⟨rfl,rfl⟩
  go_wp2_with fail
  refine⟨h0 _ dA.drew.drew,?_⟩;refine Zv rfl (by intros;go_simp<;>rfl) (by go_simp<;>rfl) ?_;refine Zs ?_;have I0:Y (pa<0\/0<=pb\/0<=pe->Yk lo base Rb Pb w0 fl t aX (.returned (I 4)) w.drew.drew.drew):=by
   show _->Yk _ _ _ _ _ _ _ _ _ _;intro hh;rw[d0.out,G hh];exact⟨rfl,λh=>(by cases h),λ_=>HH.drew.drew.drew.bel⟩
  by_cases hp:pa<0
  ·go_wp2
   go_ret;exact I0 (.inl hp)
  have M1:0<=pa:=(by omega);clear hp
  by_cases hq:0<=pb
  ·go_wp2
   go_ret;exact I0 (.inr (.inl hq))
  have N1:pb<0:=(by omega);clear hq
  by_cases hq:0<=pe
  ·go_wp2
   go_ret;exact I0 (.inr (.inr hq))
  have O1:pe<0:=(by omega);clear hq I0;obtain⟨x2,x4⟩:=H0 w.drew.drew.drew dA.drew.drew;clear h0;rcases h6 with h6|h6
  ·have b6:=beq_iff_eq.2 (show (X.length:Int)=_ from congrArg Nat.cast h6)
   have HE:Y (Yk lo base Rb Pb w0 fl t aX (.returned (I 5)) w.drew.drew.drew):=by
    show Yk _ _ _ _ _ _ _ _ _ _;rw[d0.out,U (by omega),G h6];exact⟨rfl,λh=>(by cases h),λ_=>HH.drew.drew.drew.bel⟩
   clear h6;go_wp2;go_ret;exact HE
  have b6:=beq_eq_false_iff_ne.2 (λhh:(X.length:Int)=((_:Nat):Int)=>h6 (Int.ofNat.inj hh));have HR:Y (aX=(0,r2)):=(by show _=_;rw[d0.out,U (by omega),U h6]);have H1:=Nat.lt_of_le_of_ne q1 h6;clear h6 P0 Q0 R0 d0
  go_wp2_with fail
  refine Zd (λW=>M W Rb _ (A dX X.length kX)/\M W b (off+1) (Tq n)) [8,9,10] [12] [] ⟨x2,x4⟩ (by kernel_rfl) (λ_ _ _ _ h=>h) (λops hG=>?_);clear hG
  iterate 8 refine Zv rfl (by intros;go_simp<;>rfl) (by go_simp<;>rfl) ?_
  refine Zm ?_
  go_wp2_with fail
  obtain⟨W3,q0⟩:=J ((w.alloc (.cells #[Tq n] 9)).drew.drew.drew.drew);obtain⟨tb,U0⟩:=J (w.heap.size);have r0:D w W3:=(by rw[q0];exact(bA).drew.drew.drew.drew);have P1:w.heap.size+1=W3.heap.size:=(by rw[q0];simp);have t0:∀i u,([Tq n]:Vs)[i]?=some u->W3.cell? (((O tb 0):Addr).add i)=some u:=(by rw[q0,U0];exact Xo);have e0:=(H0 W3 r0).1;have e1:=(H0 W3 r0).2;have V0:=Z (j1 W3 r0);have W0:=Z r0;rw[<-q0,<-U0];clear q0 U0 r0 x2 x4 j1 H0;refine⟨⟨e0,e1⟩,?_⟩;refine Zm ?_;obtain⟨i0,J0,K0,L0,M0⟩:=info_parts Tryz.infoStr
  go_wp2_with (at_builtin;refine Ap underlying48 J0 K0 L0 M0 rfl V0 rfl [Tq n] rfl rfl t0 ?c2 ?c3 ?c4 ?c5 ?_)
  case c2=>intro u hu;simp at hu;subst hu;rfl
  case c3=>unfold maxLen;omega
  case c4=>omega
  case c5=>omega
  intro v' W4 a0 s0 v0;obtain⟨va,vcap,rfl⟩:∃va vcap,v'=A va (X.length+1) vcap:=by
   rcases a0.2 with⟨h1,h2⟩|⟨g,cp,cur,h1,_⟩
   ·omega
   exact⟨_,cp,h1⟩
  have x0:∀k,(A dX X.length kX).ownBlock=some k->base<=k/\k<w.heap.size+1:=λk hk=>by have:=V0.lt k hk;omega
  have l0:=s0.block Rb (by omega) (λhh=>by have:=(x0 Rb hh.symm).1;omega);have p1:=s0.block b (by omega) (λhh=>m1 hh.symm);have g0:=cQ l0 e0;have g1:=cQ p1 e1;have gz:∀j,W4.frozen? (O Rb j)=false:=λj=>fQ l0 ((W0.frozen p0).trans (HH.cR.z j));have Q1:w.heap.size+1<=W4.heap.size:=(by have:=s0.size;omega);have H5:=Z (HH.jN _ T0.1 (by omega) W0 (v':=A va (X.length+1) vcap) (news:=[strV n]) (by rw[hX.1,hX.2];exact a0) (by rw[S0.out];exact s0) (by rw[S0.out];exact v0));rw[<-F5.out]at H5;clear a0 s0 v0 l0 p1 e0 e1 t0 V0 W0 x0 S0 HH m1
  go_wp2_with fail
  refine⟨⟨g0,g1⟩,?_⟩;refine Zm ?_
  go_wp2_with fail
  refine⟨⟨g0,g1⟩,?_⟩;refine Zv rfl (by intros;go_simp<;>rfl) (by go_simp<;>rfl) ?_;refine Xx ?_
  go_wp2_with fail
  refine Zs ?_;rw[<-F5.out];obtain⟨W5,X0⟩:=J (f5 W4 (A va (X.length+1) vcap));rw[<-X0]at H5⊢;have R1:w.heap.size+1<=W5.heap.size:=(by rw[X0,F5.out,Zy];omega);clear X0 g0 g1 gz;have y0:M W5 Rb 0 (F Pb):=H5.cR.c 0 (by omega);have Qu:=Z (HE (A va (X.length+1) vcap));have y1:=(G1 _ _ H5).trans (congrArg some Qu.1)
  go_wp2_with fail
  refine Zd (λW=>M W Rb 0 (F Pb)/\M W Pb _ (A dl XL.length kl)) [12,13,14] [16] [] ⟨y0,y1⟩ (by kernel_rfl) (λ_ _ _ _ h=>h) (λops hG=>?_);clear hG
  iterate 12 refine Zv rfl (by intros;go_simp<;>rfl) (by go_simp<;>rfl) ?_
  refine Zm ?_
  go_wp2_with fail
  obtain⟨W6,z0⟩:=J ((W5.alloc (.cells #[I pa] 3)).drew);obtain⟨ub,Y0⟩:=J (W5.heap.size);have A0:D W5 W6:=(by rw[z0];exact(bA).drew);have S1:W5.heap.size+1=W6.heap.size:=(by rw[z0];simp);have u0:∀i u,([I pa]:Vs)[i]?=some u->W6.cell? (((O ub 0):Addr).add i)=some u:=(by rw[z0,Y0];exact Xo);have f0:M W6 Rb 0 (F Pb):=cT A0 (by show Rb<_;omega) y0;have f1:M W6 Pb _ (A dl XL.length kl):=cT A0 (by show Pb<_;omega) y1;have Z0:Y (W6.ownsRow base 3 1 (A dl XL.length kl) XL.length (Ym XL)):=by
   have h1:=(H5.below A0).own _ T0.2;rw[Qu.1,Qu.2.1,Qu.2.2]at h1;exact h1
  have a1:=Z A0;rw[<-z0,<-Y0];clear z0 Y0 A0 y0 y1;refine⟨⟨f0,f1⟩,?_⟩;refine Zm ?_;clear J0 K0 L0 M0 i0;obtain⟨i0,J0,K0,L0,M0⟩:=info_parts Tryz.infoIntP
  go_wp2_with (at_builtin;refine Ap underlying27 J0 K0 L0 M0 rfl Z0 rfl [I pa] rfl rfl u0 ?d2 ?d3 ?d4 ?d5 ?_)
  case d2=>intro u hu;simp at hu;subst hu;rfl
  case d3=>unfold maxLen;omega
  case d4=>omega
  case d5=>omega
  intro v7 W7 b0 N0 B0;obtain⟨vb,vcbp,rfl⟩:∃va vcap,v7=A va (XL.length+1) vcap:=by
   rcases b0.2 with⟨h1,h2⟩|⟨g,cp,cur,h1,_⟩
   ·omega
   exact⟨_,cp,h1⟩
  have j0:∀k,(A dl XL.length kl).ownBlock=some k->base<=k:=λk hk=>(Z0.lt k hk).1;have l0:=N0.block Rb (by omega) (λhh=>by have:=j0 Rb hh.symm;omega);have b1:=N0.block Pb (by omega) (λhh=>by have:=j0 Pb hh.symm;omega);have g0:M W7 Rb 0 (F Pb):=cQ l0 f0;have g1:M W7 Pb _ (A dl XL.length kl):=cQ b1 f1;have gz:∀j,W7.frozen? (O Pb j)=false:=λj=>fQ b1 ((a1.frozen (p:=(O Pb j)) (by show Pb<_;omega)).trans (H5.cP.z j));have C0:Y (Yk lo base Rb Pb w0 fl t aX (.returned (I 0)) (f6 W7 (A vb (XL.length+1) vcbp))):=by
   show Yk _ _ _ _ _ _ _ _ _ _;rw[HR.out,F6.out];have ea:(pa.toNat:Int)=pa:=(by omega);refine⟨rfl,λ_=>⟨_,H5.nJ _ T0.2 (by omega) a1 (v':=A vb (XL.length+1) vcbp) (news:=[I (pa.toNat:Int)]) ?_ ?_ ?_,z1 _ _ H1⟩,λhh=>absurd rfl hh⟩
   ·rw[ea,Qu.2.1,Qu.2.2];exact b0
   ·rw[Qu.1];exact N0
   rw[Qu.1];exact B0
  clear b0 N0 B0 l0 b1 f0 f1 u0 Z0 a1 j0 t1 H5 HO HR Qu
  go_wp2_with fail
  refine⟨⟨g0,g1⟩,?_⟩;refine Zm ?_
  go_wp2_with fail
  refine⟨⟨g0,g1⟩,?_⟩;refine Zv rfl (by intros;go_simp<;>rfl) (by go_simp<;>rfl) ?_;refine Xx ?_
  go_wp2_with fail
  refine Zs ?_;go_wp2;go_ret;rw[F6.out]at C0;exact C0
def yfz(h:Zu lo base Rb Pb w0 w m)(hr:Zj r fl t m)(b off cap:Nat)(n l:L)(b0:n.length<=100000)(hb:b<w.heap.size)(d0:b≠Rb/\∀j,Zt j->(m.v j).ownBlock≠some b)(a0:3<=cap/\cap<=maxLen)(c0:w.cell? (O b off)=some (.string ⟨#[99,101,108,108]⟩))(c1:w.cell? (O b (off+1))=some (Tq n))(c2:w.cell? (O b (off+2))=some (Tq l)):
  E 31 #[F Rb,Sq b off 3 cap] w (Yk lo base Rb Pb w0 fl t (r.head [cV,n,l])):=
 yo7 h hr b off cap n l _ 2 12 6 _ _ _ _ (.inl ⟨rfl,rfl,rfl,rfl⟩) hr.r2 hr.iS hr.ce (by have:=hr.cl;have:=hr.hl;have:=hr.ce;have:=hr.ch;omega) (by simp[RS.head,cV,bY,bz]) (λv v' hh=>hr.mc n _ v v' b0 hh) hb d0 a0 c0 c1 c2
def ys4(h:Zu lo base Rb Pb w0 w m)(hr:Zj r fl t m)(b off cap:Nat)(n l:L)(b0:n.length<=100000)(hb:b<w.heap.size)(d0:b≠Rb/\∀j,Zt j->(m.v j).ownBlock≠some b)(a0:3<=cap/\cap<=maxLen)(c0:w.cell? (O b off)=some (.string ⟨#[99,104,97,110,110,101,108]⟩))(c1:w.cell? (O b (off+1))=some (Tq n))(c2:w.cell? (O b (off+2))=some (Tq l)):
  E 31 #[F Rb,Sq b off 3 cap] w (Yk lo base Rb Pb w0 fl t (r.head [bz,n,l])):=
 yo7 h hr b off cap n l _ 3 13 3 _ _ _ _ (.inr ⟨rfl,rfl,rfl,rfl⟩) hr.r3 hr.jx hr.ch (by have:=hr.cl;have:=hr.hl;have:=hr.ce;have:=hr.ch;omega) (by simp[RS.head,cV,bY,bz]) (λv v' hh=>hr.ma n _ v v' b0 hh) hb d0 a0 c0 c1 c2
end
section
variable{m:Yn}{fl:List FlS}
def Zu.nW(h:Zu lo base Rb Pb w0 w m)(j:Nat)(hj:j<6)(v:Value)(m':Yn)(hn:m'.n=m.n)(hx:m'.xs=m.xs)(hv:m'.v=m.v)(hk:m'.fY=m.fY/\m'.wk=m.wk)(hR:∀i,i<11->rrC Pb m' i=rrC Pb m i)(hP:∀i,i<6->rpC m' i=if i=j then v else rpC m i):Zu lo base Rb Pb w0 (w.setCell (O Pb j) v) m':=by
 obtain⟨b1,b2,b3,b4,b5,b6,b7⟩:=h.bU;refine{bel:=h.bel.setCell (by show lo<=Pb;omega) _,bU:=⟨b1,b2,b3,b4,b5,by rw[Zy];omega,b7⟩,cR:= ?_,cP:=(h.cP.set hj v).congr λi hi=>(hP i hi).symm,own:=λi hi=>?_,ij:=by rw[hv];exact h.ij,kp:=λb hb=>?_}
 ·exact(h.cR.block (Zx _ _ _ _ _ b5)).congr λi hi=>(hR i hi).symm
 ·rw[hn,hx,hv]
  exact Yy (h.own i hi) (λb hb=>Zx _ _ _ _ _ (by have:=((h.own i hi).lt b hb).1;omega))
 rw[hk.1]at hb;obtain⟨k1,k2,k3,k4⟩:=h.kp b hb;rw[hv,hk.2];exact⟨k1,by rw[Zy];exact k2,(Zx _ _ _ _ _ (by omega)).trans k3,k4⟩
def Zu.nI(h:Zu lo base Rb Pb w0 w m)(n:Nat):Zu lo base Rb Pb w0 (w.setCell (O Pb 0) (I (n:Int))) {m with N:=n}:=
 h.nW 0 (by omega) _ _ rfl rfl rfl ⟨rfl,rfl⟩ (λ_ _=>rfl) (λi hi=>by
  rcases(show i=0\/i=1\/i=2\/i=3\/i=4\/i=5 by omega) with rfl|rfl|rfl|rfl|rfl|rfl<;>rfl)
def Zu.mC(h:Zu lo base Rb Pb w0 w m)(v:Value):Zu lo base Rb Pb w0 (w.setCell (O Pb 1) v) {m with leq:=v}:=
 h.nW 1 (by omega) _ _ rfl rfl rfl ⟨rfl,rfl⟩ (λ_ _=>rfl) (λi hi=>by
  rcases(show i=0\/i=1\/i=2\/i=3\/i=4\/i=5 by omega) with rfl|rfl|rfl|rfl|rfl|rfl<;>rfl)
def Zu.lK(h:Zu lo base Rb Pb w0 w m)(v:Bool):Zu lo base Rb Pb w0 (w.setCell (O Rb 7) (.bool v)) {m with ag:=v}:=by
 obtain⟨b1,b2,b3,b4,b5,b6,b7⟩:=h.bU;refine{bel:=h.bel.setCell (by show lo<=Rb;omega) _,bU:=⟨b1,b2,b3,b4,b5,by rw[Zy];omega,b7⟩,cR:=(h.cR.set (j:=7) (by omega) (.bool v)).congr λi hi=>?_,cP:= ?_,own:=λi hi=>Yy (h.own i hi) (λb hb=>Zx _ _ _ _ _ (by have:=((h.own i hi).lt b hb).1;omega)),ij:=h.ij,kp:=λb hb=>have k:=h.kp b hb;⟨k.1,by rw[Zy];exact k.2.1,(Zx _ _ _ _ _ (by have:=k.1;omega)).trans k.2.2.1,k.2.2.2⟩}
 ·unfold rrC
  by_cases h7:i=7
  ·subst h7;rfl
  simp[h7]
 exact(h.cP.block (Zx _ _ _ _ _ (Ne.symm b5))).congr λi hi=>rfl
def Zj.jQ(h:Zj r fl t m)(N:Nat)(v:Value)(Wx:Nat->Prop)(wk:World)(ht:zew {m with N:=N,leq:=v,fY:=Wx,wk:=wk} r.au.length r.tab):Zj {r with ag:=true} fl (t+1) {m with ag:=true,N:=N,leq:=v,fY:=Wx,wk:=wk}:=
 {r1:=h.r1,r2:=h.r2,r3:=h.r3,r4:=h.r4,r5:=h.r5,r6:=h.r6,r8:=h.r8,fX:=h.fX,iS:=h.iS,jx:=h.jx,bg:=rfl,st:=h.st,nm:=h.nm,lv:=h.lv,ce:=h.ce,ch:=h.ch,lo:=h.lo,sm:=h.sm,fr:=h.fr,lw:=by have:=h.lw;show r.aE.length<=_;omega,ft:=by have:=h.ft;omega,pr:=h.pr,bw:=h.bw,cl:=h.cl,hl:=h.hl,lt:=λ_=>ht}
end
end
namespace Fl
def lattice_bad{t:cY}(hi:i<n)(hj:j<n)(h:bR n t i j=false):bp n t=false:=by
 unfold bp;rw[Bool.and_eq_false_iff]
 right
 rw[all_eq_false];refine⟨i,mem_range.mpr hi,?_⟩;rw[Bool.not_eq_true,all_eq_false];exact⟨j,mem_range.mpr hj,by rw[h];simp⟩
def lattice_good{t:cY}(h:∀i j,i<n->j<n->bR n t i j=true):bp n t=decide (0<n):=by
 unfold bp;have h2:((range n).all λi=>(range n).all λj=>bR n t i j)=true:=by
  rw[all_eq_true];intro i hi;rw[all_eq_true];intro j hj;exact h i j (mem_range.mp hi) (mem_range.mp hj)
 rw[h2,Bool.and_true]
def pair_both{t:cY}(a0:i≠j)(h1:t i j=true)(h2:t j i=true):bR n t i j=false:=by
 unfold bR;simp[h1,h2,a0]
def pair_none{t:cY}(h:join n t i j<0\/fW n t i j<0):bR n t i j=false:=by
 unfold bR;rw[Bool.and_eq_false_iff]
 right
 rw[Bool.and_eq_false_iff];rcases h with h|h
 ·left;simp;exact h
 right;simp;exact h
def pair_good{t:cY}(h:i=j\/t i j=false\/t j i=false)(h1:0<=join n t i j)(h2:0<=fW n t i j):bR n t i j=true:=by
 unfold bR;rcases h with rfl|h|h
 ·simp[h1,h2]
 ·simp[h,h1,h2]
 simp[h,h1,h2]
end Fl
open Go.RowKit
structure yxw(r:RS)(t:Nat)(m:Yn):Prop where
 r1:m.n 1=r.au.length/\m.xs 1=r.au.map strV
 r5:m.n 5=r.aE.length/\m.xs 5=Ym r.aE
 r6:m.n 6=r.aI.length/\m.xs 6=Ym r.aI
 lv:r.au.length<=6
 lw:r.aE.length<=t
 pr:r.aE.length=r.aI.length
 bw:(∀x∈r.aE,x<r.au.length)/\(∀x∈r.aI,x<r.au.length)
def zo4(lo base Rb Pb:Nat)(w0:World)(m:Yn)(n:Nat)(T:Fl.cY)(aX:Bool)(e:Ending)(w':World):Prop:=
 e=.returned (.bool aX)/\∃N v Wx wk,Zu lo base Rb Pb w0 w' {m with N:=N,leq:=v,fY:=Wx,wk:=wk}/\zew {m with N:=N,leq:=v,fY:=Wx,wk:=wk} n T
section
variable{m:Yn}{fl:List FlS}
def yj7(b0:∀(W:World) (m:Yn) (r:RS),Zu lo base Rb Pb w0 W m->yxw r t m->E 52 #[F Rb] W (zo4 lo base Rb Pb w0 m r.au.length r.tab (Fl.bp r.au.length r.tab)))
  (h:Zu lo base Rb Pb w0 w m) (hr:Zj r fl t m) (b off cap:Nat) (k:L) (hb:b<w.heap.size) (j0:b≠Rb) (h0:1<=cap/\cap<=maxLen) (c0:w.cell? (O b off)=some (.string ⟨#[98,101,103,105,110]⟩)):
  E 31 #[F Rb,Sq b off 1 cap] w (Yk lo base Rb Pb w0 fl t (r.head [k])):=by
 have bU:=h.bU;have HL:=Z (b0 _ {m with ag:=true} r (h.lK true) {r1:=hr.r1,r5:=hr.r5,r6:=hr.r6,lv:=hr.lv,lw:=hr.lw,pr:=hr.pr,bw:=hr.bw});have HO:=Z hr;have a0:Y (r.head [k]=if Fl.bp r.au.length r.tab then(0,{r with ag:=true}) else(6,r)):=rfl;obtain⟨v7,x7⟩:∃v,M w Rb 7 v:=⟨_,h.cR.c 7 (by omega)⟩;have z7:=h.cR.z 7;obtain⟨aX,d0⟩:=J (r.head [k]);rw[<-d0]at a0⊢
 have f0:(1:Int)<=(cap:Int):=by omega
 generalize Fl.bp r.au.length r.tab=ok at*;clear h hr d0 b0
 go_enter func31,ntmps31
 go_wp2_with fail
 refine HL.mono ?_;rintro e w1 ⟨rfl,N,v,Wx,wk,g0,e0⟩;have HW:=Z g0;have i0:=Z e0;clear g0 e0 HL
 cases ok
 ·have HE:Y (Yk lo base Rb Pb w0 fl t aX (.returned (I 6)) w1):=by
   show Yk _ _ _ _ _ _ _ _ _ _;rw[a0.out];exact⟨rfl,λh=>(by cases h),λ_=>HW.bel⟩
  go_wp2;go_ret;exact HE
 have HE:Y (Yk lo base Rb Pb w0 fl t aX (.returned (I 0)) w1):=by
  show Yk _ _ _ _ _ _ _ _ _ _;rw[a0.out];exact⟨rfl,λ_=>⟨_,HW,HO.jQ N v Wx wk i0⟩,λhh=>absurd rfl hh⟩
 go_wp2;go_ret;exact HE
end
section
variable{m:Yn}{fl:List FlS}
def ya0(f0:∀(W:World) (m:Yn) (r:RS),Zu lo base Rb Pb w0 W m->yxw r t m->E 52 #[F Rb] W (zo4 lo base Rb Pb w0 m r.au.length r.tab (Fl.bp r.au.length r.tab)))
  (h:Zu lo base Rb Pb w0 w m) (hr:Zj r fl t m) (g0:r.ag=false) (ht:t<=1000000) (v:Value) (ws:List L) (hw:Zi w.heap.size w v ws) (i0:∀b off k c,v=Sq b off k c->b≠Rb/\∀j,Zt j->(m.v j).ownBlock≠some b) (hl:aq ws=true) (hh:cH (ws.getD 0 [])=true):
  E 31 #[F Rb,v] w (Yk lo base Rb Pb w0 fl t (r.head ws)):=by
 obtain⟨ao,cap,hv,c0,d0,l0,hx,b0⟩:=hw
 have j0:ws≠[]:=by intro h0;subst h0;simp[aq]at hl
 obtain⟨b,off,k0,hb,a0⟩:=b0 j0;subst k0;have e0:=i0 b off ws.length cap hv;subst hv;clear b0 i0
 match ws,hl,hh with
 |[a],hl,hh=>
  have e:a=cJ:=by
   simp[aq,cH]at hl hh;rcases hl with(h1|h1)|h1
   ·exact h1
   ·subst h1;simp[dO,ct,bY,cV,bz,cJ]at hh
   subst h1;simp[gv,ct,bY,cV,bz,cJ]at hh
  subst e;exact yj7 f0 h hr b off cap _ hb e0.1 ⟨c0,d0⟩ (a0 0 (by simp))
 |[a,n],hl,hh=>
  have e:a=ct:=by
   simp[aq,cH]at hl hh;rcases hl with h1|⟨h1|h1,_⟩
   ·exact h1.1
   ·subst h1;simp[ig,ct,bY,cV,bz,cJ]at hh
   subst h1;simp[ei,ct,bY,cV,bz,cJ]at hh
  subst e;exact yj5 h hr g0 b off cap _ n (hx n (by simp)) hb e0 ⟨c0,d0⟩ (a0 0 (by simp)) (a0 1 (by simp))
 |[a,n,l],hl,hh=>
  have e:a=bY\/a=cV\/a=bz:=by
   simp[aq,cH]at hl hh;rcases hl with⟨⟨h1,_⟩,_⟩|⟨⟨h1|h1,_⟩,_⟩
   ·rcases h1 with(h1|h1)|h1
    ·exact .inl h1
    ·exact .inr (.inl h1)
    exact .inr (.inr h1)
   ·subst h1;simp[eH,ct,bY,cV,bz,cJ]at hh
   subst h1;simp[eP,ct,bY,cV,bz,cJ]at hh
  rcases e with e|e|e
  ·subst e
   exact yj6 h hr g0 ht b off cap n l hb e0 ⟨c0,d0⟩ (a0 0 (by simp)) (a0 1 (by simp)) (a0 2 (by simp))
  ·subst e
   exact yfz h hr b off cap n l (hx n (by simp)) hb e0 ⟨c0,d0⟩ (a0 0 (by simp)) (a0 1 (by simp)) (a0 2 (by simp))
  subst e;exact ys4 h hr b off cap n l (hx n (by simp)) hb e0 ⟨c0,d0⟩ (a0 0 (by simp)) (a0 1 (by simp)) (a0 2 (by simp))
 |[_,_,_,_],hl,hh=>simp[aq]at hl
 |[a,_,_,_,_],hl,hh=>
  simp[aq,cH]at hl hh;rw[hl.1.1.1.1]at hh;simp[eP,ct,bY,cV,bz,cJ]at hh
 |_::_::_::_::_::_::_,hl,hh=>simp[aq]at hl
end
def Uh(b:Nat):∀(cs:Vs) (w:World) (o k:Nat),k≠b->(w.setCells b o cs).heap[k]?=w.heap[k]?
 |[],_,_,_,_=>rfl
 |v::r,w,o,k,h=>(Uh b r _ _ k h).trans (Zx w b o v k h)
def zm1(b:Nat):∀(cs:Vs) (w:World) (o:Nat),(w.setCells b o cs).heap.size=w.heap.size
 |[],_,_=>rfl
 |v::r,w,o=>(zm1 b r _ _).trans (Zy w _ v)
def zm2(b:Nat):∀(cs:Vs) (w:World) (o:Nat),(w.setCells b o cs).os=w.os/\(w.setCells b o cs).tape=w.tape/\(w.setCells b o cs).output=w.output
 |[],_,_=>⟨rfl,rfl,rfl⟩
 |v::r,w,o=>zm2 b r (w.setCell (O b o) v) (o+1)
def zm3(l:Vs)(o:Nat)(v:Value)(h:o<l.length):(l.set o v).take (o+1)=l.take o++[v]:=by
 rw[set_eq_take_append_cons_drop,G h,take_append,take_take]
 have h1:(l.take o).length=o:=by simp;omega
 rw[h1,show o+1 - o=1 by omega,show min (o+1) o=o by omega];simp
def zk7(b:Nat)(e:TypeId):∀(cs:Vs) (w:World) (o:Nat) (cur:Array Value),w.heap[b]?=some (.cells cur e (0,0))->o+cs.length<=cur.size->
  ∃cur',(w.setCells b o cs).heap[b]?=some (.cells cur' e (0,0))/\cur'.size=cur.size/\cur'.toList.take (o+cs.length)=cur.toList.take o++cs
 |[],w,o,cur,hg,h=>⟨cur,hg,rfl,by simp⟩
 |v::r,w,o,cur,hg,h=>by
  have h0:o+(r.length+1)<=cur.size:=h;obtain⟨cur',e1,e2,e3⟩:=zk7 b e r (w.setCell (O b o) v) (o+1) (cur.setIfInBounds o v) (Go.heap_setCell_same w b o cur e v hg) (by rw[Array.size_setIfInBounds];omega);refine⟨cur',e1,by rw[e2,Array.size_setIfInBounds],?_⟩;rw[length_cons,show o+(r.length+1)=o+1+r.length by omega,e3,Array.toList_setIfInBounds,zm3 _ _ _ (by simp;omega)];simp
def own_put(h:W.ownsRow base e 10 (Sq g 0 (n+1) cap) (n+1) (xs++z))(hz:z.length=10)(hc:cs.length=10):(W.setCells g (n*10) cs).ownsRow base e 10 (Sq g 0 (n+1) cap) (n+1) (xs++cs):=by
 obtain⟨h1,h2⟩:=h
 have hl:xs.length=n*10:=by simp at h1;omega
 refine⟨by simp;omega,?_⟩;rcases h2 with⟨h3,-⟩|⟨g',cap',cur,h3,hb,hg,a0,hm,hs,ht⟩
 ·cases h3
 simp only[slice.injEq,Ql,Addr.mk.injEq]at h3;obtain⟨⟨rfl,-⟩,-,rfl⟩:=h3;obtain⟨cur',e1,e2,e3⟩:=zk7 g e cs W (n*10) cur hg (by rw[hs,hc];omega);refine .inr ⟨g,cap,cur',rfl,hb,e1,a0,hm,by rw[e2];exact hs,?_⟩;rw[show (n+1)*10=n*10+cs.length by rw[hc];omega,e3];have:=congrArg (take (n*10)) ht;rw[take_take,show min (n*10) ((n+1)*10)=n*10 by omega,take_append_of_le_length (by omega),take_of_length_le (by omega:xs.length<=n*10)]at this;rw[this]
def zk8(h:W.ownsRow base e 10 (Sq g 0 (n+1) cap) (n+1) xs):W.there g (n*10) 10:=by
 obtain⟨h1,h2⟩:=h;rcases h2 with⟨h3,-⟩|⟨g',cap',cur,h3,hb,hg,b0,hm,hs,ht⟩
 ·cases h3
 simp only[slice.injEq,Ql,Addr.mk.injEq]at h3;obtain⟨⟨rfl,-⟩,-,rfl⟩:=h3;intro j hj
 have a0:n*10+j<cur.size:=by omega
 exact⟨by simp[cell?,hg,a0],by simp[frozen?,hg]⟩
def zb5{row:Option Nat}(h:w.grownBy w' row)(g o:Nat)(cs:Vs)(hg:some g=row\/w.heap.size<=g):w.grownBy (w'.setCells g o cs) row:=by
 obtain⟨r1,r2,r3⟩:=zm2 g cs w' o;refine⟨r1.trans h.os,r2.trans h.tape,r3.trans h.output,by rw[zm1];exact h.size,λk hk a0=>(Uh g cs w' o k ?_).trans (h.block k hk a0)⟩;rintro rfl;rcases hg with h1|h1
 ·exact a0 h1
 omega
def ys5(w:World)(b c i j:Nat)(u v:Value)(h:b≠c):(w.setCell (O b i) u).setCell (O c j) v=(w.setCell (O c j) v).setCell (O b i) u:=by
 unfold setCell
 congr 1
 apply Array.ext_getElem?
 intro k;simp only[Array.getElem?_modify]
 by_cases h1:b=k
 ·by_cases h2:c=k
  ·exact absurd (h1.trans h2.symm) h
  simp[h1,h2]
 simp[h1]
def zw7(b c j:Nat)(v:Value)(h:b≠c):∀(cs:Vs) (w:World) (o:Nat),(w.setCell (O c j) v).setCells b o cs=(w.setCells b o cs).setCell (O c j) v
 |[],_,_=>rfl
 |u::r,w,o=>by
  show ((w.setCell (O c j) v).setCell (O b o) u).setCells b (o+1) r=((w.setCell (O b o) u).setCells b (o+1) r).setCell (O c j) v;rw[ys5 w c b j o v u (Ne.symm h),zw7 b c j v h r]
section
variable{m:Yn}{fl:List FlS}
def Zu.flat(h:Zu lo base Rb Pb w0 w m){W3 W4:World}(b0:D w W3)(c0:W4.ownsRow base 91 10 (Sq g 0 (m.n 10+1) cap) (m.n 10+1) (m.xs 10++z))(hz:z.length=10)(hc:cs.length=10)(d0:W3.grownBy W4 (m.v 10).ownBlock)(a0:some g=(m.v 10).ownBlock\/some g=some W3.heap.size):
  Zu lo base Rb Pb w0 ((W4.setCells g (m.n 10*10) cs).setCell (O Rb 10) (Sq g 0 (m.n 10+1) cap)) (m.app 10 (Sq g 0 (m.n 10+1) cap) cs):=
 h.jN 10 (by unfold Zt;omega) (by omega) b0 (own_put c0 hz hc) (zb5 d0 g _ _ (by rcases a0 with h1|h1;exact .inl h1;simp only[Ql]at h1;exact .inr (by omega))) a0
def Zu.lJ(h:Zu lo base Rb Pb w0 w m)(k:Nat):Zu lo base Rb Pb w0 (w.setCell (O Rb 9) (I (k:Int))) {m with am:=k}:=by
 obtain⟨b1,b2,b3,b4,b5,b6,b7⟩:=h.bU;refine{bel:=h.bel.setCell (by show lo<=Rb;omega) _,bU:=⟨b1,b2,b3,b4,b5,by rw[Zy];omega,b7⟩,cR:=(h.cR.set (j:=9) (by omega) (I (k:Int))).congr λi hi=>?_,cP:= ?_,own:=λi hi=>Yy (h.own i hi) (λb hb=>Zx _ _ _ _ _ (by have:=((h.own i hi).lt b hb).1;omega)),ij:=h.ij,kp:=λb hb=>have k:=h.kp b hb;⟨k.1,by rw[Zy];exact k.2.1,(Zx _ _ _ _ _ (by have:=k.1;omega)).trans k.2.2.1,k.2.2.2⟩}
 ·unfold rrC
  by_cases h7:i=9
  ·subst h7;rfl
  simp[h7]
 exact(h.cP.block (Zx _ _ _ _ _ (Ne.symm b5))).congr λi hi=>rfl
def zyw(m:Yn)(v:Value)(n:Nat)(xs:Vs):Yn:={m with n:=λi=>if i=8 then n else m.n i,xs:=λi=>if i=8 then xs else m.xs i,v:=λi=>if i=8 then v else m.v i}
def Ue(m:Yn)(v:Value)(n:Nat)(xs:Vs)(h:i≠8):(zyw m v n xs).v i=m.v i/\(zyw m v n xs).n i=m.n i/\(zyw m v n xs).xs i=m.xs i:=by
 unfold zyw;simp[h]
def Zu.mZ(h:Zu lo base Rb Pb w0 w m){y:Value}(hv:m.v 8=Sq g 0 (k+1) cap)(hn:m.n 8=k+1)(hx:m.xs 8=xs++[x]):Zu lo base Rb Pb w0 (w.setCell (O g k) y) (zyw m (m.v 8) (m.n 8) (xs++[y])):=by
 obtain⟨b1,b2,b3,b4,b5,b6,b7⟩:=h.bU
 have h8:Zt 8:=by unfold Zt;omega
 have ho:=h.own 8 h8;have hg:=ho.lt g (by rw[hv];rfl)
 have a0:(λi=>if i=8 then m.v 8 else m.v i)=m.v:=by funext i;by_cases hi:i=8<;>simp[hi]
 refine{bel:=h.bel.setCell (by show lo<=g;omega) _,bU:=⟨b1,b2,b3,b4,b5,by rw[Zy];omega,b7⟩,cR:=(h.cR.block (Zx _ _ _ _ _ (by omega))).congr λi hi=>?_,cP:=(h.cP.block (Zx _ _ _ _ _ (by omega))).congr λi hi=>?_,own:=λi hi=>?_,ij:=λi j b hi hj hne=>by show ((λi=>if i=8 then m.v 8 else m.v i) i).ownBlock=_->((λi=>if i=8 then m.v 8 else m.v i) j).ownBlock≠_;rw[a0];exact h.ij i j b hi hj hne,kp:=λb hb=>?_}
 ·show rrC Pb m i=if i=0 then ptr Pb else if i=7 then .bool m.ag else if i=9 then I m.am else(λi=>if i=8 then m.v 8 else m.v i) i
  rw[a0];rfl
 ·show rpC m i=if i=0 then _ else if i=1 then m.leq else if i=4 then _ else if i=5 then m.aZ else(λi=>if i=8 then m.v 8 else m.v i) (10+i)
  rw[a0];rfl
 ·by_cases b0:i=8
  ·subst b0
   show (w.setCell (O g k) y).ownsRow base (rTy 8) (rSz 8) (if 8=8 then m.v 8 else m.v 8) (if 8=8 then m.n 8 else m.n 8) (if 8=8 then xs++[y] else m.xs 8);rw[G rfl,G rfl,G rfl];obtain⟨h1,h2⟩:=ho;rw[hx]at h1;have c0:rSz 8=1:=rfl;rw[c0]at h1 h2⊢;have hl:xs.length=k:=(by simp at h1;omega);refine⟨by simp;omega,?_⟩;rcases h2 with⟨h3,h4⟩|⟨g',cap',cur,h3,hb,d0,hc,hm,hs,ht⟩
   ·omega
   rw[hv]at h3;simp only[slice.injEq,Ql,Addr.mk.injEq]at h3;obtain⟨⟨rfl,-⟩,-,rfl⟩:=h3;refine .inr ⟨g,cap,cur.setIfInBounds k y,by rw[hv,hn],hb,Go.heap_setCell_same w g k cur _ y d0,hc,hm,by rw[Array.size_setIfInBounds];exact hs,?_⟩;rw[hn,Nat.mul_one]at ht⊢;rw[Array.toList_setIfInBounds,zm3 _ _ _ (by simp;omega)];have:=congrArg (take k) ht;rw[take_take,show min k (k+1)=k by omega,hx,take_append_of_le_length (by omega),take_of_length_le (by omega:xs.length<=k)]at this;rw[this]
  obtain⟨e1,e2,e3⟩:=Ue m (m.v 8) (m.n 8) (xs++[y]) b0;rw[e1,e2,e3];refine Yy (h.own i hi) (λb hb=>Zx _ _ _ _ _ ?_);rintro rfl;exact h.ij i 8 b hi h8 b0 hb (by rw[hv];rfl)
 obtain⟨k1,k2,k3,k4⟩:=h.kp b hb;refine⟨k1,by rw[Zy];exact k2,(Zx _ _ _ _ _ ?_).trans k3,λj hj=>?_⟩
 ·rintro rfl;exact k4 8 h8 (by rw[hv];rfl)
 show ((λi=>if i=8 then m.v 8 else m.v i) j).ownBlock≠_;rw[a0];exact k4 j hj
def Zu.mY(h:Zu lo base Rb Pb w0 w m)(hv:m.v 8=Sq g 0 (k+1) cap)(hn:m.n 8=k+1)(hx:m.xs 8=xs++[x]):Zu lo base Rb Pb w0 (w.setCell (O Rb 8) (Sq g 0 k cap)) (zyw m (Sq g 0 k cap) k xs):=by
 obtain⟨b1,b2,b3,b4,b5,b6,b7⟩:=h.bU
 have h8:Zt 8:=by unfold Zt;omega
 have b0:∀i,((zyw m (Sq g 0 k cap) k xs).v i).ownBlock=(m.v i).ownBlock:=λi=>by
  by_cases hi:i=8
  ·subst hi;rw[hv];rfl
  rw[(Ue m _ k xs hi).1]
 refine{bel:=h.bel.setCell (by show lo<=Rb;omega) _,bU:=⟨b1,b2,b3,b4,b5,by rw[Zy];omega,b7⟩,cR:=(h.cR.set (j:=8) (by omega) (Sq g 0 k cap)).congr λi hi=>?_,cP:=(h.cP.block (Zx _ _ _ _ _ (Ne.symm b5))).congr λi hi=>?_,own:=λi hi=>?_,ij:=λi j b hi hj hne=>by rw[b0,b0];exact h.ij i j b hi hj hne,kp:=λb hb=>have k:=h.kp b hb;⟨k.1,by rw[Zy];exact k.2.1,(Zx _ _ _ _ _ (by have:=k.1;omega)).trans k.2.2.1,λj hj=>by rw[b0];exact k.2.2.2 j hj⟩}
 ·by_cases a0:i=8
  ·subst a0;rfl
  rw[U a0];unfold rrC;rw[(Ue m _ k xs a0).1];rfl
 ·unfold rpC
  rw[(Ue m (Sq g 0 k cap) k xs (show 10+i≠8 by omega)).1];rfl
 by_cases a0:i=8
 ·subst a0
  have ho:=h.own 8 h8;rw[hv,hn,hx]at ho;refine Yy (w:=w) ?_ (λb hb=>Zx _ _ _ _ _ ?_)
  ·exact yu5 ho
  have:=ho.lt b hb;omega
 obtain⟨e1,e2,e3⟩:=Ue m (Sq g 0 k cap) k xs a0;rw[e1,e2,e3];exact Yy (h.own i hi) (λb hb=>Zx _ _ _ _ _ (by have:=((h.own i hi).lt b hb).1;omega))
end
end Go.Proofs.YtgmbnnpnefniiaaGreatDoor
