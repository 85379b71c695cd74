import Derived.Test.YtfhpibppblbgcaaGreatDoorM23
set_option linter.all false
set_option maxRecDepth 100000
set_option maxHeartbeats 40000000
namespace Go.Proofs.YtfhpibppblbgcaaGreatDoor
open Go.RowKit Go.Proofs.Tryz
variable{w w0 w':World}{d i k base Lq n j lo Rb Pb:Nat}{rb:Nat->Nat}{t T:Fl.cM}{r:Fl.RS}
def Yt.nil(d:Nat)(S:Nat->Prop)(w:World):Yt d S w Zq []:=by
 cases d with
 |zero=>exact⟨rfl,rfl⟩
 |succ d=>exact⟨none,0,rfl,by simp,by simp[maxLen],by simp,λh=>absurd rfl h⟩
def Tryz.infoStmtP:(Tryz.prog.info? 61).map (λi=>(i.zero,i.size,i.bytes))=some (some (.agg Yy),10,112):=by kernel_rfl
def zwx{e:TypeId}{l:List Value}{N:Nat}(hN:w.heap.size=N):∀j u,l[j]?=some u->(w.alloc (.cells l.toArray e)).cell? (((Aq N 0):Addr).add j)=some u:=by
 intro j u hj;subst hN
 have h2:((Aq w.heap.size 0):Addr).add j=(Aq w.heap.size j):=by unfold Addr.add;split<;>simp_all
 rw[h2,World.cell?_alloc_new];simpa using hj
def zu5.head{K:List FlS->List Fl.aa->Prop}{p:List FlS}{s:Fl.aa}(h:zu5 K p s):∃t,p=zy2 s::t:=by
 rcases h with⟨_,_,_,rfl⟩|⟨_,f1,_,⟨_,rfl⟩|⟨f2,_,rfl⟩⟩
 ·exact⟨_,rfl⟩
 ·exact⟨_,rfl⟩
 exact⟨_,rfl⟩
def yuw(s:Fl.aa):Zk (zy2 s)=Vm s Zq Zq:=rfl
structure zr9(d:Nat)(FL:List FlS)(w:World)(i:Nat)(fl:List FlS)(l:List Fl.aa)(rest:List FlS)(k:Nat)(ov:Value)(wr:World)(ds:List (Fl.aa×Value×Value))(fl2:List FlS)(l2:List Fl.aa):Prop where
 hk:k<=FL.length
 hd:FL.drop k=fl2++rest
 fc:Uy (zu5 (Uq d)) fl2 l2
 hl:l=ds.map (·.1)++l2
 st:zt0 d w.heap.size wr ds ov
 be:Bq w wr
 le:k+fl2.length=i+fl.length
def zr9.bE{FL:List FlS}{fl:List FlS}{l:List Fl.aa}{rest:List FlS}{oa:Option Addr}{on oc:Nat}{wr:World}{ds:List (Fl.aa×Value×Value)}{fl2:List FlS}(h:zr9 d FL w i fl l rest k (.slice oa on oc) wr ds fl2 [])(a0:cE FL<=16)(b0:Uq (d+1) fl l)(c0:∃a b,FL=a++fl++b):zv4 (d+1) w (i+fl.length) l (.returned (.tuple #[.slice oa on oc,Iq k])) wr:=by
 have h0:fl2=[]:=h.fc
 have hk:k=i+fl.length:=by have:=h.le;rw[h0]at this;simpa using this
 have hl:l=ds.map (·.1):=by have:=h.hl;simpa using this
 refine⟨h.be,oa,on,oc,by rw[hk],?_⟩;rw[hl];refine h.st.closed ?_;have h1:=Uq.cE b0;obtain⟨a,b,d0⟩:=c0;rw[d0,Um,Um]at a0;rw[hl,List.length_map]at h1;omega
def yk4{FL:List FlS}{v:Value}(H:zf0 d FL v)(M0:cE FL<=16):zf0 (d+1) FL v:=by
 intro w i fl l rest hF hi hd hl hs;obtain⟨fa,fc,hv,h2,h3,h4,h5⟩:=id hF;have F0:∃a b,FL=a++fl++b:=⟨FL.take i,rest,by rw[List.append_assoc,<-hd,List.take_append_drop]⟩
 have H1:(i:Int)<=(FL.length:Int):=by omega
 have I1:(FL.length:Int)<=100000:=by omega
 by_cases e0:FL=[]
 ·have r1:l=[]:=by
   have h1:=Uq.cE hl;obtain⟨a,b,C0⟩:=F0;rw[e0]at C0;have hf:fl=[]:=by
    have:=congrArg List.length C0;simp only[List.length_nil,List.length_append]at this;exact Qi (by omega)
   rw[hf]at h1;exact Qi (by simpa [cE] using h1)
  have N0:fl=[]:=by
   obtain⟨a,b,C0⟩:=F0;rw[e0]at C0;have:=congrArg List.length C0;simp only[List.length_nil,List.length_append]at this;exact Qi (by omega)
  have m0:Hid (zv4 (d+1) w (i+fl.length) l (.returned (.tuple #[Zq,Iq i])) w):=by
   rw[r1,N0];exact⟨Below.refl _ _,none,0,0,rfl,Yt.nil _ _ _⟩
  have hn:¬(i:Int)<(FL.length:Int):=(by rw[e0];simp);subst hv;clear hF h2 h3 h4 h5 hd H M0 F0 hl r1 N0 e0 hs
  go_enter func10,ntmps10
  go_wp2_with fail
  go_loopw [1,6] (λiv ov wr=>iv=Iq i/\ov=Zq/\wr=w) (λ_ _ _=>0)
  case atStart=>exact⟨rfl,rfl,rfl⟩
  case round=>
   obtain⟨rfl,rfl,u1⟩:=hrel;rw[u1];clear u1;go_wp2
   go_ret2
   exact m0
 obtain⟨Fb,J1,K1,-⟩:=h5 e0;subst J1;subst hv;have HF:=Zz hF;have HH:=Zz H;have L1:Hid (∀k oa on oc wr ds fl2,zr9 d FL w i fl l rest k (.slice oa on oc) wr ds fl2 []->zv4 (d+1) w (i+fl.length) l (.returned (.tuple #[.slice oa on oc,Iq k])) wr):=λk oa on oc wr ds fl2 h=>h.bE M0 hl F0;have V0:Hid (zr9 d FL w i fl l rest i Zq w [] fl l):=⟨hi,hd,hl,rfl,zt0.nil d w,Below.refl _ _,rfl⟩;have HS:=Zz hs;have M1:Hid (l.length<=16):=by
  show _<=_;have h1:=Uq.cE hl;obtain⟨a,b,C0⟩:=F0;rw[C0,Um,Um]at M0;omega
 obtain⟨n,hn⟩:=nmE (FL.length);have HN:=Zz hn
 have N1:(n:Int)<=(fc:Int):=by omega
 rw[<-hn]at HF HH I1;rw[<-hn];clear hF h2 h3 h4 h5 hd H M0 F0 hl hs H1 hn
 go_enter func10,ntmps10
 go_wp2_with fail
 go_loopw [1,6] (λiv ov wr=>∃(k:Nat) (ds:List (Fl.aa×Value×Value)) (fl2:List FlS) (l2:List Fl.aa),iv=Iq k/\zr9 d FL w i fl l rest k ov wr ds fl2 l2) (λiv _ _=>n - (intOf iv).toNat)
 case atStart=>exact⟨i,[],fl,l,rfl,V0⟩
 case round=>
  obtain⟨k,ds,fl2,l2,rfl,hR⟩:=hrel;obtain⟨oa,oc,rfl⟩:∃oa oc,u6=.slice oa ds.length oc:=by
   rcases hR.st.own.2 with⟨h1,h2⟩|⟨g,cp,cur,h1,_⟩
   ·exact⟨none,0,by rw[h1,h2]⟩
   exact⟨_,cp,h1⟩
  have HR:=Zz hR;have Y1:k<=n:=(by rw[HN.out];exact hR.hk);have G0:=HF.below hR.be
  cases l2 with
  |nil=>
   have N0:fl2=[]:=hR.fc;have n0:FL.drop k=rest:=(by have:=hR.hd;rw[N0]at this;simpa using this);have m0:Hid (zv4 (d+1) w (i+fl.length) l (.returned (.tuple #[.slice oa ds.length oc,Iq k])) wr):=L1 _ _ _ _ _ _ _ hR;clear hR V0 HR;rcases HS.out with hs|⟨f,r,hs,O1⟩
   ·have Z1:¬(k:Int)<(n:Int):=by
     intro hh
     have:k<FL.length:=by rw[<-HN.out];omega
     rw[hs,List.drop_eq_getElem_cons this]at n0;cases n0
    clear n0 hs G0;go_wp2
    go_ret2
    exact m0
   rw[hs]at n0;obtain⟨g1,g2,g3⟩:=Jy n0;have c0:=G0.aq k g1 0 (by omega);rw[g2,Nat.add_zero]at c0;obtain⟨kk,O0⟩:∃kk:Int,(Zk f).getD 0 undef=Iq kk/\kk<0:=by
    unfold Zk;rw[if_neg O1];refine⟨_,rfl,?_⟩
    split<;>decide
   rw[O0.1]at c0;have P1:¬0<=kk:=(by omega);have l0:(k:Int)<(n:Int):=(by rw[HN.out];omega);clear n0 hs G0 O0 g2 g3;go_wp2
   go_ret2
   exact m0
  |cons s l3=>
   obtain⟨p,q,W0,X0,hq⟩:=hR.fc;obtain⟨tl,o0⟩:=X0.head;have n0:FL.drop k=zy2 s::(tl++(q++rest)):=(by rw[hR.hd,W0,o0];simp);obtain⟨g1,g2,g3⟩:=Jy n0;have l0:(k:Int)<(n:Int):=(by rw[HN.out];omega)
   have f0:∀j,j<10->Cl wr Fb (k*10+j) ((Vm s Zq Zq).getD j undef):=λj hj=>by
    have:=G0.aq k g1 j hj;rw[g2,yuw]at this;exact this
   have s0:Cl wr Fb (k*10) (Iq s.kind):=f0 0 (by omega);have s1:Cl wr Fb (k*10+1) (Iq s.x):=f0 1 (by omega);have s2:Cl wr Fb (k*10+2) (Iq s.aq):=f0 2 (by omega);have s3:Cl wr Fb (k*10+3) (Iq s.e.op):=f0 3 (by omega);have s4:Cl wr Fb (k*10+4) (.bool s.e.a.var):=f0 4 (by omega);have s5:Cl wr Fb (k*10+5) (Iq s.e.a.v):=f0 5 (by omega);have s6:Cl wr Fb (k*10+6) (.bool s.e.b.var):=f0 6 (by omega);have s7:Cl wr Fb (k*10+7) (Iq s.e.b.v):=f0 7 (by omega);have s8:Cl wr Fb (k*10+8) Zq:=f0 8 (by omega);have s9:Cl wr Fb (k*10+9) Zq:=f0 9 (by omega);have P1:(0:Int)<=(s.kind:Int):=(by omega);have Y0:=Zz X0;have HQ:=Zz hq;have x0:=Zz g3;have g0:Hid (fl2=p++q/\p=zy2 s::tl):=⟨W0,o0⟩;have Z0:=Zz g1;have b1:=Zz G0;clear hR W0 X0 hq o0 n0 g2 g3 f0 G0 V0;obtain⟨i0,c1,d1,e1,i1⟩:=info_parts Tryz.infoStmtP;have j1:Hid (∀W,Bq wr W->W.ownsRow w.heap.size 61 10 (.slice oa ds.length oc) ds.length (dsV ds)):=λW hW=>(HR.st.below hW).own;have a2:ds.length<=100000:=by
    have h1:=HR.hl;have h2:=M1.out;rw[h1]at h2;simp only[List.length_append,List.length_map]at h2;omega
   have hbz:=HR.st.hz;rcases Y0.out with⟨hk,x1,y1,hp⟩|⟨hk,f1,z1,h0⟩
   ·have H0:tl=[]:=by
     have:=g0.2;rw[hp]at this;injection this with _ h;exact h.symm
    have b5:((s.kind:Int)==5)=false:=by rcases hk with hk|hk<;>rw[hk]<;>decide
    have b6:((s.kind:Int)==6)=false:=by rcases hk with hk|hk<;>rw[hk]<;>decide
    have l1:Hid (∀o o',Bq wr ((wr.alloc o).alloc o')):=λo o'=>(bA).alloc (by simp) _
    have y0:Hid (∀v' W4,W4.ownsRow w.heap.size 61 10 v' (ds.length+1) (dsV ds++Vm s Zq Zq)->(∃o o',((wr.alloc o).alloc o').grownBy W4 (Value.slice oa ds.length oc).ownBlock)->(v'.ownBlock=(Value.slice oa ds.length oc).ownBlock\/v'.ownBlock=some (wr.heap.size+1+1))->zr9 d FL w i fl l rest (k+1) v' W4 (ds++[(s,Zq,Zq)]) q l3):=λv' W4 h1 h2 h3=>by
     obtain⟨o,o',h2⟩:=h2;have cG:=HR.st.push (l1 o o') (by rw[x1];exact Yt.nil _ _ _) (by rw[y1];exact Yt.nil _ _ _) h1 h2 (by simpa using h3);have l0:=HR.st.own.lt;refine⟨Z0,by rw[x0.out,H0];rfl,HQ,by rw[HR.hl];simp,cG,?_,?_⟩
     ·exact(HR.be.trans ((l1 o o').mono (by omega))).grown h2 (by simp;omega) (λb hb=>by have:=(l0 b hb).1;omega)
     have h4:=HR.le;rw[g0.1,hp]at h4;simp only[List.length_append,List.length_singleton]at h4;omega
    clear Y0 hk x1 y1 hp H0 HQ g0 x0
    go_wp2_with (at_builtin;refine Zj _ rfl (.tmp 65) (.tmp 67) 37 rfl w.heap.size 61 i0 (.agg Yy) 10 112 underlying37 c1 d1 e1 i1 rfl (by decide) _ _ _ rfl (j1 _ (l1 _ _)) (Aq (wr.heap.size+1) 0) 1 1 (Vm s Zq Zq) rfl rfl (by decide) (zwx (by simp)) ?c2 ?c3 ?c4 ?c5 ?_)
    case c2=>intro u hu;simp only[Vm,List.mem_cons,List.not_mem_nil,or_false]at hu;rcases hu with rfl|rfl|rfl|rfl|rfl|rfl|rfl|rfl|rfl|rfl<;>rfl
    case c3=>unfold maxLen;omega
    case c4=>omega
    case c5=>simp;omega
    intro v' W4 a0 z0 d0;have A0:=y0 v' W4 a0 ⟨_,_,z0⟩ d0;obtain⟨va',vcap,rfl⟩:∃va vcap,v'=.slice va (ds.length+1) vcap:=by
     rcases a0.2 with⟨h1,h2⟩|⟨g,cp,cur,h1,_⟩
     ·omega
     exact⟨_,cp,h1⟩
    have I0:=Zz A0;clear A0 a0 z0 d0 y0;go_wp2
    go_roundw
    case rel=>exact⟨k+1,_,_,_,by go_num,I0⟩
    case measure=>simp[intOf];omega
   have O0:(((s.kind:Int)==5)=true)\/(((s.kind:Int)==5)=false/\((s.kind:Int)==6)=true):=by rcases hk with hk|hk<;>rw[hk]<;>decide
   obtain⟨rest1,p0,J0⟩:∃rest1,FL.drop (k+1)=f1++rest1/\Stop rest1:=by
    rcases h0 with⟨_,hp⟩|⟨f2,_,hp⟩
    ·have h1:=g0.2
     rw[hp]at h1;injection h1 with _ h1;exact⟨Xd::(q++rest),by rw[x0.out,<-h1];simp,.inr ⟨_,_,rfl,by decide⟩⟩
    have h1:=g0.2;rw[hp]at h1;injection h1 with _ h1;exact⟨Vt::(f2++[Xd]++(q++rest)),by rw[x0.out,<-h1];simp,.inr ⟨_,_,rfl,by decide⟩⟩
   have P0:=zcx p0 (by have:=Z0.out;omega)
   have Q0:Hid (∀o,Cq 10 #[.slice (some (Aq Fb 0)) n fc,Iq ((k:Int)+1)] (wr.alloc o) (zv4 d (wr.alloc o) (k+1+f1.length) s.aX)):=λo=>by
    have h1:=HH (wr.alloc o) (k+1) f1 s.aX rest1 (b1.below (bA)) Z0 p0 z1 J0;rw[show ((k+1:Nat):Int)=(k:Int)+1 by omega]at h1;exact h1
   have j0:=Zz h0;obtain⟨k1,D0⟩:=nmE (k+1+f1.length);rw[<-D0]at Q0 P0;have A1:=Zz D0;have R0:=Zz P0.1;have S0:=Zz p0;have Q1:k1<=n:=(by rw[HN.out];exact P0.2);have R1:k+1<=k1:=(by omega);clear h0 P0 p0 J0 D0 Y0 z1;rcases O0 with b5|⟨b5,b6⟩
   all_goals
    go_wp2_with fail
    refine(Q0 _).mono ?_;rintro e W1 ⟨T0,ba,bn,bc,rfl,B1⟩;have rS:W1.heap[wr.heap.size]?=some (.cells #[Iq s.kind,Iq s.x,Iq s.aq,Iq s.e.op,.bool s.e.a.var,Iq s.e.a.v,.bool s.e.b.var,Iq s.e.b.v,Zq,Zq] 61 (0,0)):=by
     rw[T0.block _ (by simp)];exact Jm _ _ _ rfl
    have m1:wr.heap.size<W1.heap.size:=(by have:=T0.size;simp at this;omega);have n1:Hid (Bq wr W1):=(bA).trans (T0.mono (by simp));have C1:Hid (Yt d (λb=>wr.heap.size+1<=b/\b<W1.heap.size) W1 (.slice ba bn bc) s.aX):=by
     show Yt _ _ _ _ _;have:=B1;simpa using this
    have K1:Fb<wr.heap.size:=Qe wr _ s0;have q0:=b1.below n1.out;have t0:Cl W1 wr.heap.size 0 (Iq s.kind):=cell_of_row _ _ 0 _ _ (0,0) rS;have t1:Cl W1 wr.heap.size 1 (Iq s.x):=cell_of_row _ _ 1 _ _ (0,0) rS;have t2:Cl W1 wr.heap.size 2 (Iq s.aq):=cell_of_row _ _ 2 _ _ (0,0) rS;have t3:Cl W1 wr.heap.size 3 (Iq s.e.op):=cell_of_row _ _ 3 _ _ (0,0) rS;have t4:Cl W1 wr.heap.size 4 (.bool s.e.a.var):=cell_of_row _ _ 4 _ _ (0,0) rS;have t5:Cl W1 wr.heap.size 5 (Iq s.e.a.v):=cell_of_row _ _ 5 _ _ (0,0) rS;have t6:Cl W1 wr.heap.size 6 (.bool s.e.b.var):=cell_of_row _ _ 6 _ _ (0,0) rS;have t7:Cl W1 wr.heap.size 7 (Iq s.e.b.v):=cell_of_row _ _ 7 _ _ (0,0) rS;have t8:Cl W1 wr.heap.size 8 Zq:=cell_of_row _ _ 8 _ _ (0,0) rS;have t9:Cl W1 wr.heap.size 9 Zq:=cell_of_row _ _ 9 _ _ (0,0) rS
    have tz:∀j,W1.frozen? (Aq wr.heap.size j)=false:=λj=>by simp[World.frozen?,rS]
    have b2:wr.heap.size≠Fb:=(by omega);clear T0 B1 rS s1 s2 s3 s4 s5 s6 s7 s8 s9;rcases j0.out with⟨r0,hp⟩|⟨f2,D1,hp⟩
    ·have o0:tl=f1++[Xd]:=by
      have h1:=g0.2;rw[hp]at h1;injection h1 with _ h1;exact h1.symm
     have K0:FL.drop k1=Xd::(q++rest):=by
      have h1:=S0.out;rw[x0.out,o0,List.append_assoc]at h1;rw[R0.out];exact(List.append_cancel_left h1).symm
     obtain⟨g1,g2,g3⟩:=Jy K0;have c0:W1.cell? (Aq Fb (k1*10))=some (Iq (-2)):=by
      have:=q0.aq k1 g1 0 (by omega);rw[g2]at this;exact this
     have o1:(k1:Int)<(n:Int):=(by rw[HN.out];omega);have E0:Hid (∀v o,Bq wr ((W1.setCell (Aq wr.heap.size 8) v).alloc o)):=λv o=>(n1.setCell (Nat.le_refl _) _).alloc (by rw[Zy];omega) _
     have y0:Hid (∀v' W4,W4.ownsRow w.heap.size 61 10 v' (ds.length+1) (dsV ds++Vm s (.slice ba bn bc) Zq)->(∃o,((W1.setCell (Aq wr.heap.size 8) (.slice ba bn bc)).alloc o).grownBy W4 (Value.slice oa ds.length oc).ownBlock)->(v'.ownBlock=(Value.slice oa ds.length oc).ownBlock\/v'.ownBlock=some (W1.heap.size+1))->zr9 d FL w i fl l rest (k1+1) v' W4 (ds++[(s,.slice ba bn bc,Zq)]) q l3):=λv' W4 h1 h2 h3=>by
      obtain⟨o,h2⟩:=h2;have l0:=HR.st.own.lt;have k0:Yt d (BdS w.heap.size ((W1.setCell (Aq wr.heap.size 8) (.slice ba bn bc)).alloc o) (.slice oa ds.length oc)) ((W1.setCell (Aq wr.heap.size 8) (.slice ba bn bc)).alloc o) (.slice ba bn bc) s.aX:=by
       refine Yt.kept (λb hb=>⟨by omega,by simp[Zy];omega,λhh=>by have:=(l0 b hh).2;omega⟩) (λb hb=>?_) _ _ _ C1.out;rw[Below.heap_alloc _ _ _ (by rw[Zy];omega),Zx _ _ _ _ _ (by omega)]
      have cG:=HR.st.push (E0 _ o) k0 (by rw[r0];exact Yt.nil _ _ _) h1 h2 (by rcases h3 with h3|h3;exact .inl h3;exact .inr (by rw[h3];simp[Zy]));refine⟨by omega,g3,HQ,by rw[HR.hl];simp,cG,?_,?_⟩
      ·exact(HR.be.trans ((E0 _ o).mono (by omega))).grown h2 (by simp[Zy];omega) (λb hb=>by have:=(l0 b hb).1;omega)
      have h4:=HR.le;have h5:=A1.out;rw[g0.1,hp]at h4;simp only[List.length_append,List.length_singleton,List.length_cons,List.length_nil]at h4;omega
     clear o0 K0 g2 g3 q0 r0 hp j0 S0 R0 x0 g0 HQ Q0
     go_wp2_with (at_builtin;refine Zj _ rfl (.tmp 65) (.tmp 67) 37 rfl w.heap.size 61 i0 (.agg Yy) 10 112 underlying37 c1 d1 e1 i1 rfl (by decide) _ _ _ rfl (j1 _ (E0 _ _)) (Aq W1.heap.size 0) 1 1 (Vm s (.slice ba bn bc) Zq) rfl rfl (by decide) (zwx (by simp[Zy])) ?c2 ?c3 ?c4 ?c5 ?_)
     case c2=>intro u hu;simp only[Vm,List.mem_cons,List.not_mem_nil,or_false]at hu;rcases hu with rfl|rfl|rfl|rfl|rfl|rfl|rfl|rfl|rfl|rfl<;>rfl
     case c3=>unfold maxLen;omega
     case c4=>omega
     case c5=>simp[Zy];omega
     intro v' W4 a0 z0 d0;have A0:=y0 v' W4 a0 ⟨_,z0⟩ (by simpa [Zy] using d0);obtain⟨va',vcap,rfl⟩:∃va vcap,v'=.slice va (ds.length+1) vcap:=by
      rcases a0.2 with⟨h1,h2⟩|⟨g,cp,cur,h1,_⟩
      ·omega
      exact⟨_,cp,h1⟩
     have I0:=Zz A0;clear A0 a0 z0 d0 y0;go_wp2
     go_roundw
     case rel=>exact⟨k1+1,_,_,_,by go_num,I0⟩
     case measure=>simp[intOf];omega
    have o0:tl=f1++Vt::(f2++[Xd]):=by
     have h1:=g0.2;rw[hp]at h1;injection h1 with _ h1;exact h1.symm
    have K0:FL.drop k1=Vt::(f2++(Xd::(q++rest))):=by
     have h1:=S0.out;rw[x0.out,o0,List.append_assoc]at h1;rw[R0.out];have h2:=(List.append_cancel_left h1).symm;rw[h2];simp
    obtain⟨g1,g2,g3⟩:=Jy K0;have c0:W1.cell? (Aq Fb (k1*10))=some (Iq (-1)):=by
     have:=q0.aq k1 g1 0 (by omega);rw[g2]at this;exact this
    have o1:(k1:Int)<(n:Int):=(by rw[HN.out];omega);have U0:=zcx g3 (by omega);have L0:Hid (∀v,Bq wr (W1.setCell (Aq wr.heap.size 8) v)):=λv=>n1.setCell (Nat.le_refl _) _;obtain⟨k2,u0⟩:=nmE (k1+1+f2.length)
    have E1:Hid (∀v,Cq 10 #[.slice (some (Aq Fb 0)) n fc,Iq ((k1:Int)+1)] (W1.setCell (Aq wr.heap.size 8) v) (zv4 d (W1.setCell (Aq wr.heap.size 8) v) k2 s.aJ)):=λv=>by
     have h1:=HH (W1.setCell (Aq wr.heap.size 8) v) (k1+1) f2 s.aJ _ (b1.below (L0 v)) (by omega) g3 D1 (.inr ⟨_,_,rfl,by decide⟩);rw[show ((k1+1:Nat):Int)=(k1:Int)+1 by omega,<-u0]at h1;exact h1
    rw[<-u0]at U0;have S1:=Zz u0;have p1:k2+1<=n:=by
     obtain⟨a1,-,-⟩:=Jy U0.1;rw[HN.out];exact a1
    have T1:k1+1<=k2:=(by omega);have U1:Hid (FL.drop (k2+1)=q++rest):=(Jy U0.1).2.2;have HP:=Zz hp;clear o0 K0 g2 g3 q0 hp j0 S0 R0 x0 Q0 U0 u0 D1
    go_wp2_with fail
    refine(E1 _).mono ?_;rintro e W5 ⟨B0,ea,en,ec,rfl,F1⟩;have d2:wr.heap.size<W5.heap.size:=(by have:=B0.size;rw[Zy]at this;omega);have V1:Hid (Bq wr W5):=(L0 _).trans (B0.mono (by rw[Zy];omega));have X1:Hid (Yt d (λb=>W1.heap.size<=b/\b<W5.heap.size) W5 (.slice ea en ec) s.aJ):=by
     show Yt _ _ _ _ _;have:=F1;rw[Zy]at this;exact this
    have q1:Hid (Yt d (λb=>wr.heap.size+1<=b/\b<W5.heap.size) W5 (.slice ba bn bc) s.aX):=by
     refine Yt.kept (λb hb=>⟨hb.1,by have:=B0.size;rw[Zy]at this;omega⟩) (λb hb=>?_) _ _ _ C1.out;rw[B0.block b (by rw[Zy];omega),Zx _ _ _ _ _ (by omega)]
    have b0:∀j,j≠8->W5.cell? (Aq wr.heap.size j)=W1.cell? (Aq wr.heap.size j):=λj hj=>by
     refine(B0.cell (p:=(Aq wr.heap.size j)) (by rw[Zy];exact m1)).trans (Qg _ _ _ _ ?_);intro hh;injection hh with _ h9;omega
    have v0:=(b0 0 (by omega)).trans t0;have v1:=(b0 1 (by omega)).trans t1;have v2:=(b0 2 (by omega)).trans t2;have v3:=(b0 3 (by omega)).trans t3;have v4:=(b0 4 (by omega)).trans t4;have v5:=(b0 5 (by omega)).trans t5;have v6:=(b0 6 (by omega)).trans t6;have v7:=(b0 7 (by omega)).trans t7;have v8:Cl W5 wr.heap.size 8 (.slice ba bn bc):=(B0.cell (p:=(Aq wr.heap.size 8)) (by rw[Zy];exact m1)).trans (World.cell?_setCell_same' _ _ _ (by simp[t8]));have v9:=(b0 9 (by omega)).trans t9;have vz:∀j,W5.frozen? (Aq wr.heap.size j)=false:=λj=>(B0.frozen (p:=(Aq wr.heap.size j)) (by rw[Zy];exact m1)).trans (by rw[World.frozen?_setCell];exact tz j);have E0:Hid (∀v o,Bq wr ((W5.setCell (Aq wr.heap.size 9) v).alloc o)):=λv o=>(V1.setCell (Nat.le_refl _) _).alloc (by rw[Zy];omega) _
    have y0:Hid (∀v' W4,W4.ownsRow w.heap.size 61 10 v' (ds.length+1) (dsV ds++Vm s (.slice ba bn bc) (.slice ea en ec))->(∃o,((W5.setCell (Aq wr.heap.size 9) (.slice ea en ec)).alloc o).grownBy W4 (Value.slice oa ds.length oc).ownBlock)->(v'.ownBlock=(Value.slice oa ds.length oc).ownBlock\/v'.ownBlock=some (W5.heap.size+1))->zr9 d FL w i fl l rest (k2+1) v' W4 (ds++[(s,.slice ba bn bc,.slice ea en ec)]) q l3):=λv' W4 h1 h2 h3=>by
     obtain⟨o,h2⟩:=h2;have l0:=HR.st.own.lt
     have G1:∀b,wr.heap.size<b->b<W5.heap.size->((W5.setCell (Aq wr.heap.size 9) (.slice ea en ec)).alloc o).heap[b]?=W5.heap[b]?:=λb h8 h9=>by
      rw[Below.heap_alloc _ _ _ (by rw[Zy];omega),Zx _ _ _ _ _ (by omega)]
     have k0:Yt d (BdS w.heap.size ((W5.setCell (Aq wr.heap.size 9) (.slice ea en ec)).alloc o) (.slice oa ds.length oc)) ((W5.setCell (Aq wr.heap.size 9) (.slice ea en ec)).alloc o) (.slice ba bn bc) s.aX:=Yt.kept (λb hb=>⟨by omega,by simp[Zy];omega,λhh=>by have:=(l0 b hh).2;omega⟩) (λb hb=>G1 b (by omega) hb.2) _ _ _ q1.out;have r0:Yt d (BdS w.heap.size ((W5.setCell (Aq wr.heap.size 9) (.slice ea en ec)).alloc o) (.slice oa ds.length oc)) ((W5.setCell (Aq wr.heap.size 9) (.slice ea en ec)).alloc o) (.slice ea en ec) s.aJ:=Yt.kept (λb hb=>⟨by omega,by simp[Zy];omega,λhh=>by have:=(l0 b hh).2;omega⟩) (λb hb=>G1 b (by omega) hb.2) _ _ _ X1.out;have cG:=HR.st.push (E0 _ o) k0 r0 h1 h2 (by rcases h3 with h3|h3;exact .inl h3;exact .inr (by rw[h3];simp[Zy]));refine⟨by rw[<-HN.out];exact p1,U1,HQ,by rw[HR.hl];simp,cG,?_,?_⟩
     ·exact(HR.be.trans ((E0 _ o).mono (by omega))).grown h2 (by simp[Zy];omega) (λb hb=>by have:=(l0 b hb).1;omega)
     have h4:=HR.le;have h5:=A1.out;have h6:=S1.out;rw[g0.1,HP.out]at h4;simp only[List.length_append,List.length_singleton,List.length_cons,List.length_nil]at h4;omega
    clear B0 F1 b0 t0 t1 t2 t3 t4 t5 t6 t7 t8 t9 tz E1 g0 HQ HP
    go_wp2_with (at_builtin;refine Zj _ rfl (.tmp 65) (.tmp 67) 37 rfl w.heap.size 61 i0 (.agg Yy) 10 112 underlying37 c1 d1 e1 i1 rfl (by decide) _ _ _ rfl (j1 _ (E0 _ _)) (Aq W5.heap.size 0) 1 1 (Vm s (.slice ba bn bc) (.slice ea en ec)) rfl rfl (by decide) (zwx (by simp[Zy])) ?c2 ?c3 ?c4 ?c5 ?_)
    case c2=>intro u hu;simp only[Vm,List.mem_cons,List.not_mem_nil,or_false]at hu;rcases hu with rfl|rfl|rfl|rfl|rfl|rfl|rfl|rfl|rfl|rfl<;>rfl
    case c3=>unfold maxLen;omega
    case c4=>omega
    case c5=>simp[Zy];omega
    intro v' W4 a0 z0 d0;have A0:=y0 v' W4 a0 ⟨_,z0⟩ (by simpa [Zy] using d0);obtain⟨va',vcap,rfl⟩:∃va vcap,v'=.slice va (ds.length+1) vcap:=by
     rcases a0.2 with⟨h1,h2⟩|⟨g,cp,cur,h1,_⟩
     ·omega
     exact⟨_,cp,h1⟩
    have I0:=Zz A0;clear A0 a0 z0 d0 y0;go_wp2
    go_roundw
    case rel=>exact⟨k2+1,_,_,_,by go_num,I0⟩
    case measure=>simp[intOf];omega
def yh6(d:Nat)(FL:List FlS)(v:Value)(a0:cE FL<=16):zf0 d FL v:=by
 induction d with
 |zero=>exact yk3 FL v
 |succ d ih=>exact yk4 ih a0
end Go.Proofs.YtfhpibppblbgcaaGreatDoor
namespace Go.Proofs.YtfhpibppblbgcaaGreatDoor
open Go.Proofs.Tryz
variable{w w0 w':World}{d i k base Lq n j lo Rb Pb:Nat}{rb:Nat->Nat}{t T:Fl.cM}{r:Fl.RS}
namespace Fl
def mixTab(k:Nat)(T:cM)(i j:Nat):cM:=λa b=>if a<i\/(a=i/\b<j) then eH k T a b else T a b
def mix_zero(k:Nat)(T:cM):mixTab k T 0 0=T:=by
 funext a b
 simp[mixTab]
def mix_col(k:Nat)(T:cM)(i j a:Nat):mixTab k T i j a k=T a k:=by
 unfold mixTab
 by_cases h:a<i\/(a=i/\k<j)
 ·rw[if_pos h];unfold eH;cases T a k<;>simp
 rw[if_neg h]
def yh7(k:Nat)(T:cM)(i j b:Nat):mixTab k T i j k b=T k b:=by
 unfold mixTab
 by_cases h:k<i\/(k=i/\b<j)
 ·rw[if_pos h];unfold eH;cases T k b<;>simp
 rw[if_neg h]
def mix_step(k:Nat)(T:cM)(i j a b:Nat):mixTab k T i (j+1) a b=if a=i/\b=j then(mixTab k T i j i j||(mixTab k T i j i k && mixTab k T i j k j)) else mixTab k T i j a b:=by
 rw[mix_col,yh7]
 by_cases h:a=i/\b=j
 ·obtain⟨rfl,rfl⟩:=h
  rw[if_pos ⟨rfl,rfl⟩];unfold mixTab;rw[if_pos (by omega),if_neg (by omega)];rfl
 rw[if_neg h];unfold mixTab
 by_cases h2:a<i\/(a=i/\b<j)
 ·rw[if_pos h2,if_pos (by omega)]
 rw[if_neg h2,if_neg (by omega)]
def mix_row(k:Nat)(T:cM)(i n a b:Nat)(hb:b<n):mixTab k T i n a b=mixTab k T (i+1) 0 a b:=by
 unfold mixTab
 by_cases h:a<i\/(a=i/\b<n)
 ·rw[if_pos h,if_pos (by omega)]
 rw[if_neg h,if_neg (by omega)]
def mix_all(k:Nat)(T:cM)(n a b:Nat)(ha:a<n):mixTab k T n 0 a b=eH k T a b:=by
 unfold mixTab;rw[if_pos (.inl ha)]
end Fl
open Go.RowKit
def Vf(n:Nat)(t:Fl.cM)(a b k j:Nat):Bool:=t a k && t b k && (List.range j).all λi=> !(t a i)||!(t b i)||t k i
def zk8(n:Nat)(t:Fl.cM)(a b k j:Nat):Vf n t a b k (j+1)=(Vf n t a b k j && (!(t a j)||!(t b j)||t k j)):=by
 unfold Vf;rw[List.range_succ,List.all_append];simp[Bool.and_assoc]
def zcw(p:Nat->Bool)(n k:Nat)(hk:k<n)(hp:p k=true)(du:∀i,i<k->p i=false):Fl.dp p n=(k:Int):=by
 unfold Fl.dp;have:(List.range n).find? p=some k:=by
  rw[List.find?_eq_some_iff_append];refine⟨hp,List.range k,(List.range' (k+1) (n - k - 1)),?_,λx hx=>by simp at hx;simp[du x hx]⟩;rw[List.range_eq_range',List.range_eq_range',show n=k+(n - k) by omega,<-List.range'_append_1,show n - k=1+(n - k - 1) by omega];simp;rw[Nat.add_comm 1,List.range'_succ]
 rw[this]
def zk9(p:Nat->Bool)(n:Nat)(du:∀i,i<n->p i=false):Fl.dp p n= -1:=by
 unfold Fl.dp;have:(List.range n).find? p=none:=by
  rw[List.find?_eq_none];intro x hx;simp at hx;simp[du x hx]
 rw[this]
def yk5(h:Ye base w Lq rb n t)(Pb a b:Nat)(hn:n<=6)(ha:a<n)(hb:b<n)(p0:w.cell? (Aq Pb 0)=some (Iq n))(p1:w.cell? (Aq Pb 1)=some (.slice (some (Aq Lq 0)) n n)):
  Cq 53 #[Pq Pb,Iq a,Iq b] w λe w'=>e=.returned (Iq (Fl.join n t a b))/\w'=w:=by
 have HL:=Zz h
 have s0:(n:Int)<=6:=by omega
 have t0:(a:Int)<(n:Int):=by omega
 have u0:(b:Int)<(n:Int):=by omega
 have ca:=h.c a ha;have cb:=h.c b hb;have a0:Hid (Fl.join n t a b=Fl.dp (Fl.cQ n t a b) n):=rfl;generalize Fl.join n t a b=aV at*;clear h
 go_enter func53,ntmps53
 go_wp2_with fail
 go_loopw [7] (λi wr=>wr=w/\∃k:Nat,k<=n/\i=Iq k/\∀x,x<k->Fl.cQ n t a b x=false) (λi _=>n - (intOf i).toNat)
 case atStart=>exact⟨rfl,0,Nat.zero_le _,rfl,λx hx=>by omega⟩
 case round=>
  obtain⟨b0,k,hk,rfl,du⟩:=hrel;have g0:=Zz du;rw[b0];clear du b0 wr
  by_cases d0:k<n
  ·have k0:(k:Int)<(n:Int):=by omega
   have ck:=HL.c k d0;have x1:Cl w (rb a) k (.bool (t a k)):=HL.r a k ha d0;have x2:Cl w (rb b) k (.bool (t b k)):=HL.r b k hb d0;obtain⟨y1,h0⟩:∃y,y=t a k:=⟨_,rfl⟩;obtain⟨y2,i0⟩:∃y,y=t b k:=⟨_,rfl⟩;rw[<-h0]at x1;rw[<-i0]at x2;have l0:Hid (Vf n t a b k 0=(y1 && y2)):=(by show _=_;unfold Vf;simp[h0,i0]);have j0:=Zz d0
   have c0:Hid (∀ls:Bool,ls=(y1 && y2)->ls=Vf n t a b k 0):=λls h=>by rw[h];exact l0.symm
   clear h0 i0;have m0:Hid (∃y0,y0=(y1 && y2)):=⟨_,rfl⟩
   cases y1<;>cases y2
   all_goals
    have n0:Hid _:=c0 _ rfl
    go_wp2_with fail
    go_loopw [8,9] (λls i wr=>wr=w/\∃j:Nat,j<=n/\i=Iq j/\ls=.bool (Vf n t a b k j)) (λ_ i _=>n - (intOf i).toNat)
    case atStart=>exact⟨rfl,0,Nat.zero_le _,rfl,by rw[<-n0.out];rfl⟩
    case round=>
     obtain⟨b0,j,hj,rfl,rfl⟩:=hrel;rw[b0];clear b0 wr
     by_cases e0:j<n
     ·have o0:(j:Int)<(n:Int):=by omega
      have cj:=HL.c j e0;have z1:Cl w (rb a) j (.bool (t a j)):=HL.r a j ha e0;have z2:Cl w (rb b) j (.bool (t b j)):=HL.r b j hb e0;have z3:Cl w (rb k) j (.bool (t k j)):=HL.r k j j0 e0;have HS:Hid (Vf n t a b k (j+1)=(Vf n t a b k j && (!(t a j)||!(t b j)||t k j))):=zk8 n t a b k j;generalize Vf n t a b k j=lj at*;generalize t a j=u1 at*;generalize t b j=u2 at*;generalize t k j=u3 at*
      cases lj<;>cases u1<;>cases u2<;>cases u3
      all_goals
       go_wp2
       go_roundw
       case rel=>exact⟨by first|rfl|trivial,j+1,by omega,by go_num,by rw[HS.out];rfl⟩
       case measure=>simp[intOf];omega
     have o0:¬(j:Int)<(n:Int):=(by omega)
     obtain rfl:j=n:=by omega
     cases f0:Vf j t a b k j with
     |true=>
      have HE:Hid (aV=(k:Int)):=(by show _=_;rw[a0.out];exact zcw _ _ _ j0 f0 g0);clear f0;go_wp2;go_ret;exact⟨by rw[HE.out];rfl,rfl⟩
     |false=>
      have q0:Hid (∀x,x<k+1->Fl.cQ j t a b x=false):=λx hx=>by
       by_cases r0:x=k
       ·subst r0;exact f0
       exact g0 x (by omega)
      clear f0;go_wp2
      go_roundw
      case rel=>exact⟨by first|rfl|trivial,k+1,by omega,by go_num,q0⟩
      case measure=>simp[intOf];omega
  have k0:¬(k:Int)<(n:Int):=(by omega);have HE:Hid (aV= -1):=(by show _=_;rw[a0.out];exact zk9 _ _ (λx hx=>g0 x (by omega)));go_wp2;go_ret;exact⟨by rw[HE.out];rfl,rfl⟩
section
variable{t':Fl.cM}
def Ye.congr(h:Ye base w Lq rb n t)(ht:∀a b,a<n->b<n->t' a b=t a b):Ye base w Lq rb n t':=
 ⟨h.c,λi j hi hj=>by rw[ht i j hi hj];exact h.r i j hi hj,h.z,h.inj,h.ge⟩
def Ye.set(h:Ye base w Lq rb n t)(hi:i<n)(hj:j<n)(v:Bool):Ye base (w.setCell (Aq (rb i) j) (.bool v)) Lq rb n (λa b=>if a=i/\b=j then v else t a b):=by
 refine⟨λa ha=>?_,λa b ha hb=>?_,λa b ha=>by rw[World.frozen?_setCell];exact h.z a b ha,h.inj,h.ge⟩
 ·refine(Qg _ _ _ _ ?_).trans (h.c a ha)
  intro hh;injection hh with h1 _;exact(h.ge.2 i hi).2 (by omega)
 by_cases a0:a=i/\b=j
 ·obtain⟨rfl,rfl⟩:=a0
  rw[if_pos ⟨rfl,rfl⟩];exact World.cell?_setCell_same' _ _ _ (by simp[h.r a b ha hb])
 rw[if_neg a0];refine(Qg _ _ _ _ ?_).trans (h.r a b ha hb);intro hh;injection hh with h1 h2
 by_cases b0:a=i
 ·exact a0 ⟨b0,by omega⟩
 exact h.inj a i ha hi b0 (by omega)
def Ye.mix(h:Ye base w Lq rb n (Fl.mixTab k T i j))(hi:i<n)(hj:j<n):Ye base (w.setCell (Aq (rb i) j) (.bool (Fl.mixTab k T i j i j||(Fl.mixTab k T i j i k && Fl.mixTab k T i j k j)))) Lq rb n (Fl.mixTab k T i (j+1)):=
 (h.set hi hj _).congr λa b _ _=>Fl.mix_step k T i j a b
def Ye.nS(h:Ye base w Lq rb n (Fl.mixTab k T i n)):Ye base w Lq rb n (Fl.mixTab k T (i+1) 0):=h.congr λa b _ hb=>(Fl.mix_row k T i n a b hb).symm
def Ye.nR(h:Ye base w Lq rb n (Fl.mixTab k T n 0)):Ye base w Lq rb n (Fl.eH k T):=h.congr λa b ha _=>(Fl.mix_all k T n a b ha).symm
def Ye.mD(h:Ye base w Lq rb n T):Ye base w Lq rb n (Fl.mixTab k T 0 0):=by rw[Fl.mix_zero];exact h
def yk6(aM aG:List Nat)(he:aM.length=aG.length)(p:Nat)(hp:p<aM.length)(hq:p<aG.length)(a b:Nat):Fl.eQ (aM.take (p+1)) (aG.take (p+1)) a b=if a=aM[p]/\b=aG[p] then true else Fl.eQ (aM.take p) (aG.take p) a b:=by
 unfold Fl.eQ;rw[List.take_succ_eq_append_getElem hp,List.take_succ_eq_append_getElem hq,List.zip_append (by simp;omega),List.any_append]
 by_cases h:a=aM[p]/\b=aG[p]
 ·obtain⟨rfl,rfl⟩:=h
  simp
 rw[if_neg h];have h2:([aM[p]].zip [aG[p]]).any (λp=>p.1==a && p.2==b)=false:=by
  simp;intro h3 h4;exact h ⟨h3.symm,h4.symm⟩
 rw[h2,Bool.or_false]
def Ye.pair{aM aG:List Nat}{p:Nat}(h:Ye base w Lq rb n (Fl.eQ (aM.take p) (aG.take p)))(he:aM.length=aG.length)(hp:p<aM.length)(hq:p<aG.length)(hi:aM[p]<n)(hj:aG[p]<n):Ye base (w.setCell ⟨rb aM[p],aG[p],none⟩ (.bool true)) Lq rb n (Fl.eQ (aM.take (p+1)) (aG.take (p+1))):=
 (h.set hi hj true).congr λa b _ _=>yk6 aM aG he p hp hq a b
end
def Tryz.infoBoolR:(Tryz.prog.info? 4).map (λi=>(i.zero,i.size,i.bytes))=some (some (.bool false),1,1):=by kernel_rfl
def Tryz.infoRowR:(Tryz.prog.info? 141).map (λi=>(i.zero,i.size,i.bytes))=some (some Zq,1,24):=by kernel_rfl
def Vn(n:Nat)(v:Value):List Value:=List.replicate n v
def yw9(n:Nat)(v:Value)(hv:v.cells=#[v]):madeCells v.cells ((n:Int).toNat*1)=(Vn n v).toArray:=by
 apply Array.ext
 ·simp[madeCells,Vn]
 intro i h1 h2;simp[madeCells,Vn,hv,Nat.mod_one]
def yk7(W:World)(n:Nat)(hn:n<=6):(Instr.makeSlice 141 (Iq n) (Iq n)).run prog W=.ok (.slice (some (Aq W.heap.size 0)) n n) (W.alloc (.cells (Vn n (.bool false)).toArray 4)):=by
 obtain⟨i0,b0,c0,a0,d0⟩:=info_parts Tryz.infoBoolR;have h:=run_makeSlice (w:=W) 141 4 i0 (.bool false) underlying141 b0 c0 .i64 .i64 (n:Int) (n:Int) (by omega) (Int.le_refl _) (by rw[a0];simp;omega) (by rw[d0];omega) (by omega);rw[h,a0,yw9 n _ rfl,Int.toNat_natCast]
def yk8(W:World)(n:Nat)(hn:n<=6):(Instr.makeSlice 35 (Iq n) (Iq n)).run prog W=.ok (.slice (some (Aq W.heap.size 0)) n n) (W.alloc (.cells (Vn n Zq).toArray 141)):=by
 obtain⟨i0,b0,c0,a0,d0⟩:=info_parts Tryz.infoRowR;have h:=run_makeSlice (w:=W) 35 141 i0 Zq underlying35 b0 c0 .i64 .i64 (n:Int) (n:Int) (by omega) (Int.le_refl _) (by rw[a0];simp;omega) (by rw[d0];omega) (by omega);rw[h,a0,yw9 n _ rfl,Int.toNat_natCast]
structure zvv(base:Nat)(w:World)(Lq:Nat)(rb:Nat->Nat)(n i:Nat):Prop where
 c:∀a,a<i->w.cell? (Aq Lq a)=some (.slice (some (Aq (rb a) 0)) n n)
 o:∀a,i<=a->a<n->w.cell? (Aq Lq a)=some Zq
 zL:∀a,w.frozen? (Aq Lq a)=false
 r:∀a b,a<i->b<n->w.cell? (Aq (rb a) b)=some (.bool (a==b))
 z:∀a b,a<i->w.frozen? (Aq (rb a) b)=false
 inj:∀a b,a<i->b<i->a≠b->rb a≠rb b
 ge:base<=Lq/\Lq<w.heap.size/\∀a,a<i->base<=rb a/\rb a≠Lq/\rb a<w.heap.size
 le:i<=n
section
def zvv.all(h:zvv base w Lq rb n n):Ye base w Lq rb n (Fl.eQ (([]:List Nat)) []):=
 ⟨h.c,λa b ha hb=>by rw[h.r a b ha hb];simp[Fl.eQ],h.z,h.inj,h.ge.1,λa ha=>⟨(h.ge.2.2 a ha).1,(h.ge.2.2 a ha).2.1⟩⟩
def zvv.ae(w:World)(n:Nat)(base:Nat)(hb:base<=w.heap.size)(rb:Nat->Nat):zvv base (w.alloc (.cells (Vn n Zq).toArray 141)) w.heap.size rb n 0:=by
 have hc:=Zb.new w (Vn n Zq) 141;refine⟨λa ha=>absurd ha (by omega),λa _ ha=>?_,hc.z,λa b ha=>absurd ha (by omega),λa b ha=>absurd ha (by omega),λa b ha=>absurd ha (by omega),⟨hb,by simp,λa ha=>absurd ha (by omega)⟩,by omega⟩;rw[hc.c a (by simp[Vn];exact ha)];simp[rw_,Vn,ha]
def zvv.next(h:zvv base w Lq rb n i)(hi:i<n):zvv base (((w.alloc (.cells (Vn n (.bool false)).toArray 4)).setCell (Aq Lq i) (.slice (some (Aq w.heap.size 0)) n n)).setCell (Aq w.heap.size i) (.bool true)) Lq (λa=>if a=i then w.heap.size else rb a) n (i+1):=by
 have hc:=Zb.new w (Vn n (.bool false)) 4;have c0:=h.ge.2.1;have hB:Bq w (w.alloc (.cells (Vn n (.bool false)).toArray 4)):=bA
 have b0:∀p:Addr,p.block<w.heap.size->p≠(Aq Lq i)->(((w.alloc (.cells (Vn n (.bool false)).toArray 4)).setCell (Aq Lq i) (.slice (some (Aq w.heap.size 0)) n n)).setCell (Aq w.heap.size i) (.bool true)).cell? p=w.cell? p:=λp hp d0=>
  (Qg _ _ _ _ (by intro hh;have h9:=congrArg Addr.block hh;simp only at h9;omega)).trans ((Qg _ _ _ _ (λhh=>d0 (by rw[hh]))).trans (hB.cell (p:=p) hp))
 refine⟨λa ha=>?_,λa h1 h2=>?_,λa=>?_,λa b ha hb=>?_,λa b ha=>?_,λa b ha hb d0=>?_,⟨h.ge.1,?_,λa ha=>?_⟩,by omega⟩
 ·by_cases a0:a=i
  ·subst a0
   rw[if_pos rfl];refine(Qg _ _ _ _ (by intro hh;injection hh with h1 _;omega)).trans ?_;exact World.cell?_setCell_same' _ _ _ (by rw[hB.cell (p:=(Aq Lq a)) c0,h.o a (Nat.le_refl _) hi];rfl)
  rw[if_neg a0,b0 _ c0 (by intro hh;injection hh with _ h2;exact a0 (by omega))];exact h.c a (by omega)
 ·rw[b0 _ c0 (by intro hh;injection hh with _ h2;omega)]
  exact h.o a (by omega) h2
 ·rw[World.frozen?_setCell,World.frozen?_setCell]
  exact(hB.frozen (p:=(Aq Lq a)) c0).trans (h.zL a)
 ·by_cases a0:a=i
  ·subst a0
   rw[if_pos rfl]
   have h0:∀b,b<n->((w.alloc (.cells (Vn n (.bool false)).toArray 4)).setCell (Aq Lq a) (.slice (some (Aq w.heap.size 0)) n n)).cell? (Aq w.heap.size b)=some (.bool false):=λb hb=>by
    refine(Qg _ _ _ _ (by intro hh;injection hh with h1 _;omega)).trans ?_;rw[hc.c b (by simp[Vn];exact hb)];simp[rw_,Vn,hb]
   by_cases f0:b=a
   ·subst f0
    rw[World.cell?_setCell_same' _ _ _ (by rw[h0 b hb];rfl)];simp
   rw[Qg _ _ _ _ (by intro hh;injection hh with _ h2;exact f0 (by omega)),h0 b hb];simp;omega
  rw[if_neg a0];have hg:=h.ge.2.2 a (by omega);rw[b0 _ hg.2.2 (by intro hh;injection hh with h1 _;exact hg.2.1 h1)];exact h.r a b (by omega) hb
 ·rw[World.frozen?_setCell,World.frozen?_setCell]
  by_cases a0:a=i
  ·rw[if_pos a0];exact hc.z b
  rw[if_neg a0];exact(hB.frozen (p:=(Aq (rb a) b)) (h.ge.2.2 a (by omega)).2.2).trans (h.z a b (by omega))
 ·by_cases a0:a=i
  ·have e0:b≠i:=λhh=>d0 (a0.trans hh.symm)
   rw[if_pos a0,if_neg e0];have:=(h.ge.2.2 b (by omega)).2.2;omega
  rw[if_neg a0]
  by_cases e0:b=i
  ·rw[if_pos e0]
   have:=(h.ge.2.2 a (by omega)).2.2;omega
  rw[if_neg e0];exact h.inj a b (by omega) (by omega) d0
 ·rw[Zy,Zy];have:=hB.size;omega
 rw[Zy,Zy]
 have hz:(w.alloc (.cells (Vn n (.bool false)).toArray 4)).heap.size=w.heap.size+1:=by simp
 by_cases a0:a=i
 ·rw[if_pos a0];have:=h.ge.1;exact⟨by omega,by omega,by omega⟩
 rw[if_neg a0];have:=h.ge.2.2 a (by omega);exact⟨this.1,this.2.1,by omega⟩
end
def Yk(lo base Rb Pb:Nat)(w0:World)(fl:List FlS)(t:Nat)(aV:Nat×Fl.RS)(e:Ending)(w':World):Prop:=
 e=.returned (Iq aV.1)/\(aV.1=0->∃m',Zs lo base Rb Pb w0 w' m'/\Zg aV.2 fl (t+1) m')/\(aV.1≠0->Below lo w0 w')
section
variable{m:Yl}{fl:List FlS}{t:Nat}
def Zg.later(h:Zg r fl t m):Zg r fl (t+1) m:={h with lw:=by have:=h.lw;omega,ft:=by have:=h.ft;omega}
def Zg.me(h:Zg r fl t m)(x:List UInt8)(v:Value)(hx:x.length<=100000)(hl:r.au.length<6)(a0:r.ae=false):Zg {r with au:=r.au++[x]} fl t (m.app 1 v [strV x]):=
 {
  r1:=⟨by show m.n 1+1=_;rw[h.r1.1];simp,by show m.xs 1++_=_;rw[h.r1.2];simp⟩,r2:=h.r2,r3:=h.r3,r4:=h.r4,r5:=h.r5,r6:=h.r6,r8:=h.r8,fO:=h.fO,iQ:=h.iQ,iI:=h.iI,bg:=h.bg,st:=h.st,nm:=λy hy=>by
   simp only[List.mem_append,List.mem_singleton]at hy;rcases hy with(h1|rfl)|h1|h1|h1
   ·exact h.nm y (by simp[h1])
   ·exact hx
   ·exact h.nm y (by simp[h1])
   ·exact h.nm y (by simp[h1])
   exact h.nm y (by simp[h1])
  lv:=by simp;omega,ce:=h.ce,ch:=h.ch,lo:=h.lo,sm:=h.sm,fr:=h.fr,lw:=h.lw,ft:=h.ft,pr:=h.pr,bw:=⟨λy hy=>by have:=h.bw.1 y hy;simp;omega,λy hy=>by have:=h.bw.2 y hy;simp;omega⟩,cl:=h.cl,hl:=h.hl,lt:=λhh=>absurd (a0.symm.trans hh) (by simp)}
def yo7(h:Zs lo base Rb Pb w0 w m)(hr:Zg r fl t m)(G0:Hid (r.ae=false))(b off cap:Nat)(k n:List UInt8)(H0:n.length<=100000)(hb:b<w.heap.size)(y0:b≠Rb/\∀j,Zr j->(m.v j).ownBlock≠some b)(I0:2<=cap/\cap<=maxLen)(c0:w.cell? (Aq b off)=some (.string ⟨#[108,101,118,101,108]⟩))(c1:w.cell? (Aq b (off+1))=some (.string ⟨n.toArray⟩)):
  Cq 18 #[Pq Rb,.slice (some (Aq b off)) 2 cap] w (Yk lo base Rb Pb w0 fl t (r.head [k,n])):=by
 have bL:=h.bL
 have A0:Rb<w.heap.size:=by omega
 have HH:=Zz h;have HO:=Zz hr;have o0:Hid (∀W,Bq w W->Cq 17 #[m.v 1,.string ⟨n.toArray⟩] W λe w'=>e=.returned (Iq (Fl.ai r.au n))/\w'=W):=λW hW=>Yc ((h.below hW).au hr) n;obtain⟨d1,k1,d0⟩:=h.shape 1 (by unfold Zr;omega);rw[hr.r1.1]at d0;have p0:=Zz d0;rw[d0]at o0;have f0:Hid (∀W,Bq w W->Cl W Rb 1 (.slice d1 r.au.length k1)/\Cl W b (off+1) (.string ⟨n.toArray⟩)):=λW hW=>⟨(hW.cell (p:=(Aq Rb 1)) A0).trans (by rw[<-d0];exact h.cR.c 1 (by omega)),(hW.cell (p:=(Aq b (off+1))) hb).trans c1⟩
 have B0:Hid (∀W,Bq w W->W.ownsRow base 9 1 (.slice d1 r.au.length k1) r.au.length (r.au.map strV)):=λW hW=>by
  have h1:=(h.below hW).own 1 (by unfold Zr;omega);rw[hr.r1.1,hr.r1.2,d0]at h1;exact h1
 have a0:Hid (r.head [k,n]=if 0<=Fl.ai r.au n then(4,r) else if r.au.length=6 then(5,r) else(0,{r with au:=r.au++[n]})):=rfl;obtain⟨aV,j0⟩:=nmE (r.head [k,n]);rw[<-j0]at a0⊢;have Q0:=Fl.aR r.au n;have R0:=hr.lv;generalize Fl.ai r.au n=pc at*
 have C0:(2:Int)<=(cap:Int):=by omega
 have J0: -1<=pc/\pc<=6:=by omega
 have K0:(r.au.length:Int)<=6:=by omega
 have D0:Hid ((Value.slice d1 r.au.length k1).ownBlock≠some b):=by rw[<-d0];exact y0.2 1 (by unfold Zr;omega)
 clear h hr j0 d0 c1 y0
 go_enter func18,ntmps18
 go_wp2_with fail
 refine Zi (λW=>Bq w W) [7] [] [] dA (by kernel_rfl) (λc a d v w h=>by cases d<;>exact h) (λops hG=>?_);clear hG
 iterate 7 refine Xf rfl (kE (by intro w' hw';obtain⟨x0,x1⟩:=f0 w' hw';clear hw';go_simp<;>rfl) (by go_simp<;>rfl) ?_)
 refine Zt ?_
 go_wp2_with fail
 refine(o0 _ dA).mono ?_;rintro e w1 ⟨rfl,E0⟩;rw[E0];clear E0 w1
 go_wp2_with fail
 refine⟨dA,?_⟩;refine Zw rfl (by rintro _ -;go_simp<;>rfl) (by go_simp<;>rfl) ?_;refine Zu ?_;have x1:=(f0 w.drew dA).1;have x2:=(f0 w.drew dA).2
 by_cases hp:0<=pc
 ·have HE:Hid (Yk lo base Rb Pb w0 fl t aV (.returned (Iq 4)) w.drew):=by
   show Yk _ _ _ _ _ _ _ _ _ _;rw[a0.out,if_pos hp];exact⟨rfl,λh=>(by cases h),λ_=>HH.drew.bel⟩
  go_wp2;go_ret;exact HE
 have S0:pc<0:=by omega
 by_cases h6:r.au.length=6
 ·have b6:((r.au.length:Int)==6)=true:=by simp[h6]
  have HE:Hid (Yk lo base Rb Pb w0 fl t aV (.returned (Iq 5)) w.drew):=by
   show Yk _ _ _ _ _ _ _ _ _ _;rw[a0.out,if_neg hp,if_pos h6];exact⟨rfl,λh=>(by cases h),λ_=>HH.drew.bel⟩
  clear h6 hp;go_wp2;go_ret;exact HE
 have b6:((r.au.length:Int)==6)=false:=by simp;omega
 have HR:Hid (aV=(0,{r with au:=r.au++[n]})):=by show _=_;rw[a0.out,if_neg hp,if_neg h6]
 have L0:r.au.length<6:=by omega
 clear h6 hp
 go_wp2_with fail
 refine Zi (λW=>Cl W Rb 1 (.slice d1 r.au.length k1)/\Cl W b (off+1) (.string ⟨n.toArray⟩)) [8,9,10] [12] [] ⟨x1,x2⟩ (by kernel_rfl) (λc a d v w h=>by cases d<;>exact h) (λops hG=>?_);clear hG
 iterate 8 refine Zw rfl (by rintro _ ⟨z0,z1⟩;go_simp<;>rfl) (by go_simp<;>rfl) ?_
 refine Zt ?_
 go_wp2_with fail
 obtain⟨W3,h0⟩:=nmE ((w.alloc (.cells #[.string ⟨n.toArray⟩] 9)).drew.drew);obtain⟨tb,q0⟩:=nmE (w.heap.size)
 have k0:Bq w W3:=by rw[h0];exact(bA).drew.drew
 have T0:w.heap.size+1=W3.heap.size:=by rw[h0];simp
 have t0:∀i u,([.string ⟨n.toArray⟩]:List Value)[i]?=some u->W3.cell? (((Aq tb 0):Addr).add i)=some u:=by rw[h0,q0];exact Xv
 have e0:Cl W3 Rb 1 (.slice d1 r.au.length k1):=(f0 W3 k0).1;have e1:Cl W3 b (off+1) (.string ⟨n.toArray⟩):=(f0 W3 k0).2;have r0:Hid (W3.ownsRow base 9 1 (.slice d1 r.au.length k1) r.au.length (r.au.map strV)):=B0 W3 k0;have s0:=Zz k0
 first|rw[<-h0,<-q0]|rw[<-h0]
 clear h0 q0 k0 x1 x2 B0 f0 o0;refine⟨⟨e0,e1⟩,?_⟩;refine Zt ?_;obtain⟨i0,M0,N0,O0,P0⟩:=info_parts Tryz.infoStr
 go_wp2_with (at_builtin;refine Zj _ rfl (.tmp 47) (.tmp 51) 32 rfl base 9 i0 (.string ⟨#[]⟩) 1 16 underlying32 M0 N0 O0 P0 rfl (by decide) _ _ _ rfl r0 (Aq tb 0) 1 1 [.string ⟨n.toArray⟩] rfl rfl (by decide) t0 ?c2 ?c3 ?c4 ?c5 ?_)
 case c2=>intro u hu;simp at hu;subst hu;rfl
 case c3=>unfold maxLen;omega
 case c4=>omega
 case c5=>omega
 intro v' W4 b0 n0 l0;obtain⟨va,vcap,rfl⟩:∃va vcap,v'=.slice va (r.au.length+1) vcap:=by
  rcases b0.2 with⟨h1,h2⟩|⟨g,cp,cur,h1,_⟩
  ·omega
  exact⟨_,cp,h1⟩
 have m0:∀k,(Value.slice d1 r.au.length k1).ownBlock=some k->base<=k/\k<w.heap.size+1:=λk hk=>by have:=r0.lt k hk;omega
 have u0:W4.heap[Rb]?=W3.heap[Rb]?:=n0.block Rb (by omega) (λhh=>by have:=(m0 Rb hh.symm).1;omega);have F0:W4.heap[b]?=W3.heap[b]?:=n0.block b (by omega) (λhh=>D0 hh.symm);have g0:Cl W4 Rb 1 (.slice d1 r.au.length k1):=(Qc (a:=(Aq Rb 1)) u0).trans e0;have g1:Cl W4 b (off+1) (.string ⟨n.toArray⟩):=(Qc (a:=(Aq b (off+1))) F0).trans e1;have gz:W4.frozen? (Aq Rb 1)=false:=(Qd (a:=(Aq Rb 1)) u0).trans ((s0.frozen (p:=(Aq Rb 1)) A0).trans (HH.cR.z 1));have v0:Hid (Yk lo base Rb Pb w0 fl t aV (.returned (Iq 0)) (W4.setCell (Aq Rb 1) (.slice va (r.au.length+1) vcap))):=by
  show Yk _ _ _ _ _ _ _ _ _ _;rw[HR.out];refine⟨rfl,λ_=>⟨_,HH.jL 1 (by unfold Zr;omega) (by omega) s0 (v':=.slice va (r.au.length+1) vcap) (news:=[.string ⟨n.toArray⟩]) ?_ ?_ ?_,(HO.me n _ H0 L0 G0).later⟩,λhh=>absurd rfl hh⟩
  ·rw[HO.r1.1,HO.r1.2];exact b0
  ·rw[p0.out];exact n0
  rw[p0.out];exact l0
 clear b0 n0 l0 u0 F0 e0 e1 t0 r0 s0 m0 p0 HH HO HR a0 D0
 go_wp2_with fail
 refine⟨⟨g0,g1⟩,?_⟩;refine Zt ?_
 go_wp2_with fail
 refine⟨⟨g0,g1⟩,?_⟩;refine Zw rfl (by rintro _ ⟨z0,z1⟩;go_simp<;>rfl) (by go_simp<;>rfl) ?_;refine Xp ?_
 go_wp2_with fail
 refine Zu ?_;go_wp2;go_ret;exact v0
end
section
variable{m:Yl}{fl:List FlS}{t:Nat}
def Zg.md(h:Zg r fl t m)(x y:Nat)(v v':Value)(hx:x<r.au.length)(hy:y<r.au.length)(a0:r.ae=false):Zg {r with aM:=r.aM++[x],aG:=r.aG++[y]} fl (t+1) ((m.app 5 v [Iq (x:Int)]).app 6 v' [Iq (y:Int)]):=
 {
  r1:=h.r1,r2:=h.r2,r3:=h.r3,r4:=h.r4,r5:=⟨by show m.n 5+1=_;rw[h.r5.1];simp,by show m.xs 5++_=_;rw[h.r5.2];simp[Yi]⟩,r6:=⟨by show m.n 6+1=_;rw[h.r6.1];simp,by show m.xs 6++_=_;rw[h.r6.2];simp[Yi]⟩,r8:=h.r8,fO:=h.fO,iQ:=h.iQ,iI:=h.iI,bg:=h.bg,st:=h.st,nm:=h.nm,lv:=h.lv,ce:=h.ce,ch:=h.ch,lo:=h.lo,sm:=h.sm,fr:=h.fr,lw:=by have:=h.lw;simp;omega,ft:=by have:=h.ft;omega,pr:=by have:=h.pr;simp;omega,bw:=⟨λz hz=>by
    simp only[List.mem_append,List.mem_singleton]at hz;rcases hz with h1|rfl
    ·exact h.bw.1 z h1
    ·exact hx,λz hz=>by
    simp only[List.mem_append,List.mem_singleton]at hz;rcases hz with h1|rfl
    ·exact h.bw.2 z h1
    exact hy⟩,cl:=h.cl,hl:=h.hl,lt:=λhh=>absurd (a0.symm.trans hh) (by simp)}
def yo8(h:Zs lo base Rb Pb w0 w m)(hr:Zg r fl t m)(R0:Hid (r.ae=false))(ht:t<=1000000)(b off cap:Nat)(n l:List UInt8)(hb:b<w.heap.size)(S0:b≠Rb/\∀j,Zr j->(m.v j).ownBlock≠some b)(T0:3<=cap/\cap<=maxLen)(c0:w.cell? (Aq b off)=some (.string ⟨#[98,101,108,111,119]⟩))(c1:w.cell? (Aq b (off+1))=some (.string ⟨n.toArray⟩))(c2:w.cell? (Aq b (off+2))=some (.string ⟨l.toArray⟩)):
  Cq 18 #[Pq Rb,.slice (some (Aq b off)) 3 cap] w (Yk lo base Rb Pb w0 fl t (r.head [Fl.bM,n,l])):=by
 have bL:=h.bL
 have f0:Rb<w.heap.size:=by omega
 have HH:=Zz h;have HO:=Zz hr;have v0:Hid (∀W,Bq w W->Cq 17 #[m.v 1,.string ⟨n.toArray⟩] W λe w'=>e=.returned (Iq (Fl.ai r.au n))/\w'=W):=λW hW=>Yc ((h.below hW).au hr) n;have y0:Hid (∀W,Bq w W->Cq 17 #[m.v 1,.string ⟨l.toArray⟩] W λe w'=>e=.returned (Iq (Fl.ai r.au l))/\w'=W):=λW hW=>Yc ((h.below hW).au hr) l;obtain⟨d1,k1,r0⟩:=h.shape 1 (by unfold Zr;omega);rw[hr.r1.1]at r0;rw[r0]at v0 y0;obtain⟨d5,k5,j0⟩:=h.shape 5 (by unfold Zr;omega);rw[hr.r5.1]at j0;obtain⟨d6,k6,z0⟩:=h.shape 6 (by unfold Zr;omega);rw[hr.r6.1]at z0;have A0:=Zz j0;have k0:=Zz z0;have B0:Hid (∀W,Bq w W->Cl W Rb 1 (.slice d1 r.au.length k1)/\Cl W b (off+1) (.string ⟨n.toArray⟩)/\Cl W b (off+2) (.string ⟨l.toArray⟩)):=λW hW=>⟨(hW.cell (p:=(Aq Rb 1)) f0).trans (by rw[<-r0];exact h.cR.c 1 (by omega)),(hW.cell (p:=(Aq b (off+1))) hb).trans c1,(hW.cell (p:=(Aq b (off+2))) hb).trans c2⟩
 have C0:Hid (∀W,Bq w W->W.ownsRow base 3 1 (.slice d5 r.aM.length k5) r.aM.length (Yi r.aM)/\Cl W Rb 5 (.slice d5 r.aM.length k5)):=λW hW=>by
  have h1:=(h.below hW).own 5 (by unfold Zr;omega);rw[hr.r5.1,hr.r5.2,j0]at h1;exact⟨h1,(hW.cell (p:=(Aq Rb 5)) f0).trans (by rw[<-j0];exact h.cR.c 5 (by omega))⟩
 have a0:Hid (r.head [Fl.bM,n,l]=if Fl.ai r.au n<0\/Fl.ai r.au l<0 then(4,r) else(0,{r with aM:=r.aM++[(Fl.ai r.au n).toNat],aG:=r.aG++[(Fl.ai r.au l).toNat]})):=by show _=_;simp[Fl.RS.head]
 obtain⟨aV,l0⟩:=nmE (r.head [Fl.bM,n,l]);rw[<-l0]at a0⊢;have a1:=Fl.aR r.au n;have b1:=Fl.aR r.au l;have f1:=hr.lv;have g1:=hr.lw;have J0:=hr.pr;generalize Fl.ai r.au n=pc at*;generalize Fl.ai r.au l=pd at*
 have K0:(3:Int)<=(cap:Int):=by omega
 have U0: -1<=pc/\pc<=6:=by omega
 have V0: -1<=pd/\pd<=6:=by omega
 have W0:(r.au.length:Int)<=6:=by omega
 have X0:pc<r.au.length:=by omega
 have Y0:pd<r.au.length:=by omega
 have i1:=Zz J0
 have j1:r.aG.length<=t:=by omega
 clear h hr l0 r0 j0 z0 c1 c2 S0 J0
 go_enter func18,ntmps18
 go_wp2_with fail
 refine Zi (λW=>Bq w W) [7] [] [] dA (by kernel_rfl) (λc a d v w h=>by cases d<;>exact h) (λops hG=>?_);clear hG
 iterate 7 refine Xf rfl (kE (by intro w' hw';obtain⟨x0,x1,x2⟩:=B0 w' hw';clear hw';go_simp<;>rfl) (by go_simp<;>rfl) ?_)
 refine Zt ?_
 go_wp2_with fail
 refine(v0 _ dA).mono ?_;rintro e w1 ⟨rfl,m0⟩;rw[m0];clear m0 w1
 go_wp2_with fail
 refine⟨dA,?_⟩;refine Zw rfl (by rintro _ -;go_simp<;>rfl) (by go_simp<;>rfl) ?_;refine Zu ?_
 go_wp2_with fail
 refine Zi (λW=>Bq w W) [7] [] [] dA.drew (by kernel_rfl) (λc a d v w h=>by cases d<;>exact h) (λops hG=>?_);clear hG
 iterate 7 refine Xf rfl (kE (by intro w' hw';obtain⟨x0,x1,x2⟩:=B0 w' hw';clear hw';go_simp<;>rfl) (by go_simp<;>rfl) ?_)
 refine Zt ?_
 go_wp2_with fail
 refine(y0 _ dA.drew).mono ?_;rintro e w1 ⟨rfl,m0⟩;rw[m0];clear m0 w1
 go_wp2_with fail
 refine⟨dA.drew,?_⟩;refine Zw rfl (by rintro _ -;go_simp<;>rfl) (by go_simp<;>rfl) ?_;refine Zu ?_
 by_cases hp:pc<0
 ·have HE:Hid (Yk lo base Rb Pb w0 fl t aV (.returned (Iq 4)) w.drew.drew):=by
   show Yk _ _ _ _ _ _ _ _ _ _;rw[a0.out,if_pos (.inl hp)];exact⟨rfl,λh=>(by cases h),λ_=>HH.drew.drew.bel⟩
  go_wp2;go_ret;exact HE
 have l1:0<=pc:=by omega
 clear hp
 by_cases hq:pd<0
 ·have HE:Hid (Yk lo base Rb Pb w0 fl t aV (.returned (Iq 4)) w.drew.drew):=by
   show Yk _ _ _ _ _ _ _ _ _ _;rw[a0.out,if_pos (.inr hq)];exact⟨rfl,λh=>(by cases h),λ_=>HH.drew.drew.bel⟩
  go_wp2;go_ret;exact HE
 have m1:0<=pd:=by omega
 clear hq
 have HR:Hid (aV=(0,{r with aM:=r.aM++[pc.toNat],aG:=r.aG++[pd.toNat]})):=by show _=_;rw[a0.out,if_neg (by omega)]
 have x5:=(C0 w.drew.drew dA.drew).2;have D0:Bq w (w.alloc (.cells #[Iq pc] 3)).drew.drew:=(bA).drew.drew;have h0:=Zz D0;have E0:Hid ((w.alloc (.cells #[Iq pc] 3)).drew.drew.ownsRow base 3 1 (.slice d5 r.aM.length k5) r.aM.length (Yi r.aM)):=(C0 _ D0).1;have L0:Hid (∀i u,([Iq pc]:List Value)[i]?=some u->(w.alloc (.cells #[Iq pc] 3)).drew.drew.cell? (((Aq w.heap.size 0):Addr).add i)=some u):=Xv;clear v0 y0 B0 a0 C0 D0;obtain⟨i0,M0,N0,O0,P0⟩:=info_parts Tryz.infoIntP
 go_wp2_with (at_builtin;refine Zj _ rfl (.tmp 85) (.tmp 87) 36 rfl base 3 i0 (Iq 0) 1 8 underlying36 M0 N0 O0 P0 rfl (by decide) _ _ _ rfl E0 (Aq w.heap.size 0) 1 1 [Iq pc] rfl rfl (by decide) L0.out ?c2 ?c3 ?c4 ?c5 ?_)
 case c2=>intro u hu;simp at hu;subst hu;rfl
 case c3=>unfold maxLen;omega
 case c4=>first|omega|(simp;omega)
 case c5=>first|omega|(simp;omega)
 intro v' W4 b0 s0 n0;obtain⟨va,vcap,rfl⟩:∃va vcap,v'=.slice va (r.aM.length+1) vcap:=by
  rcases b0.2 with⟨h1,h2⟩|⟨g,cp,cur,h1,_⟩
  ·omega
  exact⟨_,cp,h1⟩
 have n1:(w.alloc (.cells #[Iq pc] 3)).drew.drew.heap.size=w.heap.size+1:=by simp
 have o0:∀k,(Value.slice d5 r.aM.length k5).ownBlock=some k->base<=k/\k<w.heap.size+1:=λk hk=>by have:=E0.lt k hk;omega
 have e0:W4.heap[Rb]?=(w.alloc (.cells #[Iq pc] 3)).drew.drew.heap[Rb]?:=s0.block Rb (by omega) (λhh=>by have:=(o0 Rb hh.symm).1;omega);have gz:W4.frozen? (Aq Rb 5)=false:=(Qd (a:=(Aq Rb 5)) e0).trans ((h0.frozen (p:=(Aq Rb 5)) f0).trans (HH.cR.z 5));have g0:Cl W4 Rb 5 (.slice d5 r.aM.length k5):=(Qc (a:=(Aq Rb 5)) e0).trans ((h0.cell (p:=(Aq Rb 5)) f0).trans x5);have H5:Hid (Zs lo base Rb Pb w0 (W4.setCell (Aq Rb 5) (.slice va (r.aM.length+1) vcap)) (m.app 5 (.slice va (r.aM.length+1) vcap) [Iq (pc.toNat:Int)])):=by
  have e1:(pc.toNat:Int)=pc:=(by omega);rw[e1];refine HH.jL 5 (by unfold Zr;omega) (by omega) h0 (v':=.slice va (r.aM.length+1) vcap) (news:=[Iq pc]) ?_ ?_ ?_
  ·rw[HO.r5.1,HO.r5.2];exact b0
  ·rw[A0.out];exact s0
  rw[A0.out];rcases n0 with hh|hh
  ·exact .inl hh
  exact .inr (by rw[hh];simp)
 have o1:w.heap.size+1<=W4.heap.size:=by have:=s0.size;omega
 have t0:Hid ((W4.setCell (Aq Rb 5) (.slice va (r.aM.length+1) vcap)).heap.size=W4.heap.size):=Zy _ _ _;have y6:Cl W4 Rb 6 (.slice d6 r.aG.length k6):=(Qc (a:=(Aq Rb 6)) e0).trans ((h0.cell (p:=(Aq Rb 6)) f0).trans (by rw[<-k0.out];exact HH.cR.c 6 (by omega)));have z6:W4.frozen? (Aq Rb 6)=false:=(Qd (a:=(Aq Rb 6)) e0).trans ((h0.frozen (p:=(Aq Rb 6)) f0).trans (HH.cR.z 6));have F0:Below (W4.setCell (Aq Rb 5) (.slice va (r.aM.length+1) vcap)).heap.size (W4.setCell (Aq Rb 5) (.slice va (r.aM.length+1) vcap)) ((W4.setCell (Aq Rb 5) (.slice va (r.aM.length+1) vcap)).alloc (.cells #[Iq pd] 3)):=bA;have u0:=Zz F0;have G0:Hid (((W4.setCell (Aq Rb 5) (.slice va (r.aM.length+1) vcap)).alloc (.cells #[Iq pd] 3)).ownsRow base 3 1 (.slice d6 r.aG.length k6) r.aG.length (Yi r.aG)):=by
  have h1:=(H5.below F0).own 6 (by unfold Zr;omega);have e2:(m.app 5 (.slice va (r.aM.length+1) vcap) [Iq (pc.toNat:Int)]).v 6=.slice d6 r.aG.length k6:=k0.out;have e3:(m.app 5 (.slice va (r.aM.length+1) vcap) [Iq (pc.toNat:Int)]).n 6=r.aG.length:=HO.r6.1;have e4:(m.app 5 (.slice va (r.aM.length+1) vcap) [Iq (pc.toNat:Int)]).xs 6=Yi r.aG:=HO.r6.2;rw[e2,e3,e4]at h1;exact h1
 have Q0:Hid (∀i u,([Iq pd]:List Value)[i]?=some u->((W4.setCell (Aq Rb 5) (.slice va (r.aM.length+1) vcap)).alloc (.cells #[Iq pd] 3)).cell? (((Aq W4.heap.size 0):Addr).add i)=some u):=zk7 t0.out;clear b0 s0 n0 e0 E0 h0 L0 o0 A0 HH F0
 go_wp2_with (at_builtin;refine Zj _ rfl (.tmp 95) (.tmp 97) 36 rfl base 3 i0 (Iq 0) 1 8 underlying36 M0 N0 O0 P0 rfl (by decide) _ _ _ rfl G0 (Aq W4.heap.size 0) 1 1 [Iq pd] rfl rfl (by decide) Q0.out ?d2 ?d3 ?d4 ?d5 ?_)
 case d2=>intro u hu;simp at hu;subst hu;rfl
 case d3=>unfold maxLen;omega
 case d4=>first|omega|(simp;omega)
 case d5=>first|omega|(simp;omega)
 intro v6 W6 d0 H0 p0;obtain⟨vb,vcbp,rfl⟩:∃va vcap,v6=.slice va (r.aG.length+1) vcap:=by
  rcases d0.2 with⟨h1,h2⟩|⟨g,cp,cur,h1,_⟩
  ·omega
  exact⟨_,cp,h1⟩
 have Z0:((W4.setCell (Aq Rb 5) (.slice va (r.aM.length+1) vcap)).alloc (.cells #[Iq pd] 3)).heap.size=W4.heap.size+1:=by simp
 have q0:∀k,(Value.slice d6 r.aG.length k6).ownBlock=some k->base<=k:=λk hk=>(G0.lt k hk).1;have e0:W6.heap[Rb]?=((W4.setCell (Aq Rb 5) (.slice va (r.aM.length+1) vcap)).alloc (.cells #[Iq pd] 3)).heap[Rb]?:=H0.block Rb (Qj (b:=W4.heap.size+1) (by omega) (Nat.le_of_eq Z0.symm)) (λhh=>by have:=q0 Rb hh.symm;omega);have gz6:W6.frozen? (Aq Rb 6)=false:=(Qd (a:=(Aq Rb 6)) e0).trans ((u0.frozen (p:=(Aq Rb 6)) (by rw[t0.out];show Rb<_;omega)).trans (H5.cR.z 6));have I0:Hid (Yk lo base Rb Pb w0 fl t aV (.returned (Iq 0)) (W6.setCell (Aq Rb 6) (.slice vb (r.aG.length+1) vcbp))):=by
  show Yk _ _ _ _ _ _ _ _ _ _;rw[HR.out];have e1:(pd.toNat:Int)=pd:=(by omega);refine⟨rfl,λ_=>⟨_,H5.jL 6 (by unfold Zr;omega) (by omega) u0 (v':=.slice vb (r.aG.length+1) vcbp) (news:=[Iq (pd.toNat:Int)]) ?_ ?_ ?_,HO.md pc.toNat pd.toNat _ _ (by omega) (by omega) R0⟩,λhh=>absurd rfl hh⟩
  ·rw[e1]
   have e3:(m.app 5 (.slice va (r.aM.length+1) vcap) [Iq (pc.toNat:Int)]).n 6=r.aG.length:=HO.r6.1;have e4:(m.app 5 (.slice va (r.aM.length+1) vcap) [Iq (pc.toNat:Int)]).xs 6=Yi r.aG:=HO.r6.2;rw[e3,e4];exact d0
  ·have e2:(m.app 5 (.slice va (r.aM.length+1) vcap) [Iq (pc.toNat:Int)]).v 6=.slice d6 r.aG.length k6:=k0.out
   rw[e2];exact H0
  have e2:(m.app 5 (.slice va (r.aM.length+1) vcap) [Iq (pc.toNat:Int)]).v 6=.slice d6 r.aG.length k6:=k0.out;rw[e2];rcases p0 with hh|hh
  ·exact .inl hh
  exact .inr (by rw[hh];simp)
 have g6:∃v,Cl W6 Rb 6 v:=⟨_,(Qc (a:=(Aq Rb 6)) e0).trans ((u0.cell (p:=(Aq Rb 6)) (by rw[t0.out];show Rb<_;omega)).trans (H5.cR.c 6 (by omega)))⟩;obtain⟨v66,g6⟩:=g6;clear d0 H0 p0 e0 G0 u0 Q0 q0 k0 H5 HO HR t0;go_wp2;go_ret;exact I0
end
end Go.Proofs.YtfhpibppblbgcaaGreatDoor
