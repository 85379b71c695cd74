import Derived.Test.YtaaejabalinojaaGreatDoorM25
set_option linter.all false
set_option maxRecDepth 100000
set_option maxHeartbeats 40000000
namespace Go.Proofs.YtaaejabalinojaaGreatDoor
open Go.RowKit Go.Proofs.Tryz
def Yx.nil(d:Nat)(S:Nat->Prop)(w:World):Yx d S w (.slice none 0 0) []:=by
 cases d with
 |zero=>exact⟨rfl,rfl⟩
 |succ d=>exact⟨none,0,rfl,by simp,by simp[maxLen],by simp,λh=>absurd rfl h⟩
def Tryz.infoStmtP:(Tryz.prog.info? 86).map (λi=>(i.zero,i.size,i.bytes))=some (some (.agg Zb),10,112):=by kernel_rfl
def zw1{w:World}{e:TypeId}{l:List Value}{N:Nat}(hN:w.heap.size=N):∀j u,l[j]?=some u->(w.alloc (.cells l.toArray e)).cell? ((⟨N,0,none⟩:Addr).add j)=some u:=by
 intro j u hj;subst hN
 have h2:(⟨w.heap.size,0,none⟩:Addr).add j=⟨w.heap.size,j,none⟩:=by unfold Addr.add;split<;>simp_all
 rw[h2,World.cell?_alloc_new];simpa using hj
def zv9.head{K:List FlS->List Fl.Stmt->Prop}{p:List FlS}{s:Fl.Stmt}(h:zv9 K p s):∃t,p=zzx s::t:=by
 rcases h with⟨_,_,_,rfl⟩|⟨_,f1,_,⟨_,rfl⟩|⟨f2,_,rfl⟩⟩
 ·exact⟨_,rfl⟩
 ·exact⟨_,rfl⟩
 exact⟨_,rfl⟩
def yw3(s:Fl.Stmt):Zo (zzx s)=Vu s (.slice none 0 0) (.slice none 0 0):=rfl
structure zs4(d:Nat)(FL:List FlS)(w:World)(i:Nat)(fl:List FlS)(l:List Fl.Stmt)(rest:List FlS)(k:Nat)(ov:Value)(wr:World)(ds:List (Fl.Stmt×Value×Value))(fl2:List FlS)(l2:List Fl.Stmt):Prop where
 hk:k<=FL.length
 hd:FL.drop k=fl2++rest
 fc:Vh (zv9 (Va d)) fl2 l2
 hl:l=ds.map (·.1)++l2
 st:zu7 d w.heap.size wr ds ov
 be:Below w.heap.size w wr
 le:k+fl2.length=i+fl.length
def zs4.ends{d:Nat}{FL:List FlS}{w:World}{i:Nat}{fl:List FlS}{l:List Fl.Stmt}{rest:List FlS}{k:Nat}{oa:Option Addr}{on oc:Nat}{wr:World}{ds:List (Fl.Stmt×Value×Value)}{fl2:List FlS}(h:zs4 d FL w i fl l rest k (.slice oa on oc) wr ds fl2 [])(a0:cnt FL<=16)(b0:Va (d+1) fl l)(c0:∃a b,FL=a++fl++b):zw7 (d+1) w (i+fl.length) l (.returned (.tuple #[.slice oa on oc,.int .i64 k])) wr:=by
 have h0:fl2=[]:=h.fc
 have hk:k=i+fl.length:=by have:=h.le;rw[h0]at this;simpa using this
 have hl:l=ds.map (·.1):=by have:=h.hl;simpa using this
 refine⟨h.be,oa,on,oc,by rw[hk],?_⟩;rw[hl];refine h.st.closed ?_;have h1:=Va.cnt b0;obtain⟨a,b,d0⟩:=c0;rw[d0,Uv,Uv]at a0;rw[hl,List.length_map]at h1;omega
def yn3{d:Nat}{FL:List FlS}{v:Value}(H:zi7 d FL v)(M0:cnt FL<=16):zi7 (d+1) FL v:=by
 intro w i fl l rest hF hi hd hl hs;obtain⟨fa,fc,hv,h2,h3,h4,h5⟩:=id hF;have F0:∃a b,FL=a++fl++b:=⟨FL.take i,rest,by rw[List.append_assoc,<-hd,List.take_append_drop]⟩
 have H1:(i:Int)<=(FL.length:Int):=by omega
 have I1:(FL.length:Int)<=100000:=by omega
 by_cases e0:FL=[]
 ·have r1:l=[]:=by
   have h1:=Va.cnt hl;obtain⟨a,b,C0⟩:=F0;rw[e0]at C0;have hf:fl=[]:=by
    have:=congrArg List.length C0;simp only[List.length_nil,List.length_append]at this;exact Qi (by omega)
   rw[hf]at h1;exact Qi (by simpa [cnt] using h1)
  have N0:fl=[]:=by
   obtain⟨a,b,C0⟩:=F0;rw[e0]at C0;have:=congrArg List.length C0;simp only[List.length_nil,List.length_append]at this;exact Qi (by omega)
  have m0:Hid (zw7 (d+1) w (i+fl.length) l (.returned (.tuple #[.slice none 0 0,.int .i64 i])) w):=by
   rw[r1,N0];exact⟨Below.refl _ _,none,0,0,rfl,Yx.nil _ _ _⟩
  have hn:¬(i:Int)<(FL.length:Int):=(by rw[e0];simp);subst hv;clear hF h2 h3 h4 h5 hd H M0 F0 hl r1 N0 e0 hs
  go_enter func14,ntmps14
  go_wp2_with fail
  go_loopw [1,6] (λiv ov wr=>iv=.int .i64 i/\ov=.slice none 0 0/\wr=w) (λ_ _ _=>0)
  case atStart=>exact⟨rfl,rfl,rfl⟩
  case round=>
   obtain⟨rfl,rfl,u1⟩:=hrel;rw[u1];clear u1;go_wp2
   go_ret2
   exact m0.out
 obtain⟨Fb,J1,K1,-⟩:=h5 e0;subst J1;subst hv;have HF:=Zz hF;have HH:=Zz H;have L1:Hid (∀k oa on oc wr ds fl2,zs4 d FL w i fl l rest k (.slice oa on oc) wr ds fl2 []->zw7 (d+1) w (i+fl.length) l (.returned (.tuple #[.slice oa on oc,.int .i64 k])) wr):=λk oa on oc wr ds fl2 h=>h.ends M0 hl F0;have V0:Hid (zs4 d FL w i fl l rest i (.slice none 0 0) w [] fl l):=⟨hi,hd,hl,rfl,zu7.nil d w,Below.refl _ _,rfl⟩;have HS:=Zz hs;have M1:Hid (l.length<=16):=by
  show _<=_;have h1:=Va.cnt hl;obtain⟨a,b,C0⟩:=F0;rw[C0,Uv,Uv]at M0;omega
 obtain⟨n,hn⟩:=nmE (FL.length);have HN:=Zz hn
 have N1:(n:Int)<=(fc:Int):=by omega
 rw[<-hn]at HF HH I1;rw[<-hn];clear hF h2 h3 h4 h5 hd H M0 F0 hl hs H1 hn
 go_enter func14,ntmps14
 go_wp2_with fail
 go_loopw [1,6] (λiv ov wr=>∃(k:Nat) (ds:List (Fl.Stmt×Value×Value)) (fl2:List FlS) (l2:List Fl.Stmt),iv=.int .i64 k/\zs4 d FL w i fl l rest k ov wr ds fl2 l2) (λiv _ _=>n - (intOf iv).toNat)
 case atStart=>exact⟨i,[],fl,l,rfl,V0.out⟩
 case round=>
  obtain⟨k,ds,fl2,l2,rfl,hR⟩:=hrel;obtain⟨oa,oc,rfl⟩:∃oa oc,u6=.slice oa ds.length oc:=by
   rcases hR.st.own.2 with⟨h1,h2⟩|⟨g,cp,cur,h1,_⟩
   ·exact⟨none,0,by rw[h1,h2]⟩
   exact⟨_,cp,h1⟩
  have HR:=Zz hR;have Y1:k<=n:=(by rw[HN.out];exact hR.hk);have G0:=HF.out.below hR.be
  cases l2 with
  |nil=>
   have N0:fl2=[]:=hR.fc;have n0:FL.drop k=rest:=(by have:=hR.hd;rw[N0]at this;simpa using this);have m0:Hid (zw7 (d+1) w (i+fl.length) l (.returned (.tuple #[.slice oa ds.length oc,.int .i64 k])) wr):=L1.out _ _ _ _ _ _ _ hR;clear hR V0 HR;rcases HS.out with hs|⟨f,r,hs,O1⟩
   ·have Z1:¬(k:Int)<(n:Int):=by
     intro hh
     have:k<FL.length:=by rw[<-HN.out];omega
     rw[hs,List.drop_eq_getElem_cons this]at n0;cases n0
    clear n0 hs G0;go_wp2
    go_ret2
    exact m0.out
   rw[hs]at n0;obtain⟨g1,g2,g3⟩:=Jp n0;have c0:=G0.line k g1 0 (by omega);rw[g2,Nat.add_zero]at c0;obtain⟨kk,O0⟩:∃kk:Int,(Zo f).getD 0 undef=.int .i64 kk/\kk<0:=by
    unfold Zo;rw[if_neg O1];refine⟨_,rfl,?_⟩
    split<;>decide
   rw[O0.1]at c0;have P1:¬0<=kk:=(by omega);have l0:(k:Int)<(n:Int):=(by rw[HN.out];omega);clear n0 hs G0 O0 g2 g3;go_wp2
   go_ret2
   exact m0.out
  |cons s l3=>
   obtain⟨p,q,W0,X0,hq⟩:=hR.fc;obtain⟨tl,o0⟩:=X0.head;have n0:FL.drop k=zzx s::(tl++(q++rest)):=(by rw[hR.hd,W0,o0];simp);obtain⟨g1,g2,g3⟩:=Jp n0;have l0:(k:Int)<(n:Int):=(by rw[HN.out];omega)
   have f0:∀j,j<10->wr.cell? ⟨Fb,k*10+j,none⟩=some ((Vu s (.slice none 0 0) (.slice none 0 0)).getD j undef):=λj hj=>by
    have:=G0.line k g1 j hj;rw[g2,yw3]at this;exact this
   have s0:wr.cell? ⟨Fb,k*10,none⟩=some (.int .i64 s.kind):=f0 0 (by omega);have s1:wr.cell? ⟨Fb,k*10+1,none⟩=some (.int .i64 s.x):=f0 1 (by omega);have s2:wr.cell? ⟨Fb,k*10+2,none⟩=some (.int .i64 s.line):=f0 2 (by omega);have s3:wr.cell? ⟨Fb,k*10+3,none⟩=some (.int .i64 s.e.op):=f0 3 (by omega);have s4:wr.cell? ⟨Fb,k*10+4,none⟩=some (.bool s.e.a.var):=f0 4 (by omega);have s5:wr.cell? ⟨Fb,k*10+5,none⟩=some (.int .i64 s.e.a.v):=f0 5 (by omega);have s6:wr.cell? ⟨Fb,k*10+6,none⟩=some (.bool s.e.b.var):=f0 6 (by omega);have s7:wr.cell? ⟨Fb,k*10+7,none⟩=some (.int .i64 s.e.b.v):=f0 7 (by omega);have s8:wr.cell? ⟨Fb,k*10+8,none⟩=some (.slice none 0 0):=f0 8 (by omega);have s9:wr.cell? ⟨Fb,k*10+9,none⟩=some (.slice none 0 0):=f0 9 (by omega);have P1:(0:Int)<=(s.kind:Int):=(by omega);have Y0:=Zz X0;have HQ:=Zz hq;have x0:=Zz g3;have g0:Hid (fl2=p++q/\p=zzx s::tl):=⟨W0,o0⟩;have Z0:=Zz g1;have b1:=Zz G0;clear hR W0 X0 hq o0 n0 g2 g3 f0 G0 V0;obtain⟨i0,c1,d1,e1,i1⟩:=info_parts Tryz.infoStmtP;have j1:Hid (∀W,Below wr.heap.size wr W->W.ownsRow w.heap.size 86 10 (.slice oa ds.length oc) ds.length (dsV ds)):=λW hW=>(HR.out.st.below hW).own;have a2:ds.length<=100000:=by
    have h1:=HR.out.hl;have h2:=M1.out;rw[h1]at h2;simp only[List.length_append,List.length_map]at h2;omega
   have hbz:=HR.out.st.hz;rcases Y0.out with⟨hk,x1,y1,hp⟩|⟨hk,f1,z1,h0⟩
   ·have H0:tl=[]:=by
     have:=g0.out.2;rw[hp]at this;injection this with _ h;exact h.symm
    have b5:((s.kind:Int)==5)=false:=by rcases hk with hk|hk<;>rw[hk]<;>decide
    have b6:((s.kind:Int)==6)=false:=by rcases hk with hk|hk<;>rw[hk]<;>decide
    have l1:Hid (∀o o',Below wr.heap.size wr ((wr.alloc o).alloc o')):=λo o'=>(bA).alloc (by simp) _
    have y0:Hid (∀v' W4,W4.ownsRow w.heap.size 86 10 v' (ds.length+1) (dsV ds++Vu s (.slice none 0 0) (.slice none 0 0))->(∃o o',((wr.alloc o).alloc o').grownBy W4 (Value.slice oa ds.length oc).ownBlock)->(v'.ownBlock=(Value.slice oa ds.length oc).ownBlock\/v'.ownBlock=some (wr.heap.size+1+1))->zs4 d FL w i fl l rest (k+1) v' W4 (ds++[(s,.slice none 0 0,.slice none 0 0)]) q l3):=λv' W4 h1 h2 h3=>by
     obtain⟨o,o',h2⟩:=h2;have hst:=HR.out.st.push (l1.out o o') (by rw[x1];exact Yx.nil _ _ _) (by rw[y1];exact Yx.nil _ _ _) h1 h2 (by simpa using h3);have l0:=HR.out.st.own.lt;refine⟨Z0.out,by rw[x0.out,H0];rfl,HQ.out,by rw[HR.out.hl];simp,hst,?_,?_⟩
     ·exact(HR.out.be.trans ((l1.out o o').mono (by omega))).grown h2 (by simp;omega) (λb hb=>by have:=(l0 b hb).1;omega)
     have h4:=HR.out.le;rw[g0.out.1,hp]at h4;simp only[List.length_append,List.length_singleton]at h4;omega
    clear Y0 hk x1 y1 hp H0 HQ g0 x0
    go_wp2_with (at_builtin;refine Zj _ rfl (.tmp 65) (.tmp 67) 45 rfl w.heap.size 86 i0 (.agg Zb) 10 112 underlying45 c1 d1 e1 i1 rfl (by decide) _ _ _ rfl (j1.out _ (l1.out _ _)) ⟨wr.heap.size+1,0,none⟩ 1 1 (Vu s (.slice none 0 0) (.slice none 0 0)) rfl rfl (by decide) (zw1 (by simp)) ?c2 ?c3 ?c4 ?c5 ?_)
    case c2=>intro u hu;simp only[Vu,List.mem_cons,List.not_mem_nil,or_false]at hu;rcases hu with rfl|rfl|rfl|rfl|rfl|rfl|rfl|rfl|rfl|rfl<;>rfl
    case c3=>unfold maxLen;omega
    case c4=>omega
    case c5=>simp;omega
    intro v' W4 a0 z0 d0;have A0:=y0.out v' W4 a0 ⟨_,_,z0⟩ d0;obtain⟨va',vcap,rfl⟩:∃va vcap,v'=.slice va (ds.length+1) vcap:=by
     rcases a0.2 with⟨h1,h2⟩|⟨g,cp,cur,h1,_⟩
     ·omega
     exact⟨_,cp,h1⟩
    have I0:=Zz A0;clear A0 a0 z0 d0 y0;go_wp2
    go_roundw
    case rel=>exact⟨k+1,_,_,_,by go_num,I0.out⟩
    case measure=>simp[intOf];omega
   have O0:(((s.kind:Int)==5)=true)\/(((s.kind:Int)==5)=false/\((s.kind:Int)==6)=true):=by rcases hk with hk|hk<;>rw[hk]<;>decide
   obtain⟨rest1,p0,J0⟩:∃rest1,FL.drop (k+1)=f1++rest1/\Stop rest1:=by
    rcases h0 with⟨_,hp⟩|⟨f2,_,hp⟩
    ·have h1:=g0.out.2
     rw[hp]at h1;injection h1 with _ h1;exact⟨Xl::(q++rest),by rw[x0.out,<-h1];simp,.inr ⟨_,_,rfl,by decide⟩⟩
    have h1:=g0.out.2;rw[hp]at h1;injection h1 with _ h1;exact⟨Xd::(f2++[Xl]++(q++rest)),by rw[x0.out,<-h1];simp,.inr ⟨_,_,rfl,by decide⟩⟩
   have P0:=ze8 p0 (by have:=Z0.out;omega)
   have Q0:Hid (∀o,Calls prog 14 #[.slice (some ⟨Fb,0,none⟩) n fc,.int .i64 ((k:Int)+1)] (wr.alloc o) (zw7 d (wr.alloc o) (k+1+f1.length) s.body)):=λo=>by
    have h1:=HH.out (wr.alloc o) (k+1) f1 s.body rest1 (b1.out.below (bA)) Z0.out p0 z1 J0;rw[show ((k+1:Nat):Int)=(k:Int)+1 by omega]at h1;exact h1
   have j0:=Zz h0;obtain⟨k1,D0⟩:=nmE (k+1+f1.length);rw[<-D0]at Q0 P0;have A1:=Zz D0;have R0:=Zz P0.1;have S0:=Zz p0;have Q1:k1<=n:=(by rw[HN.out];exact P0.2);have R1:k+1<=k1:=(by omega);clear h0 P0 p0 J0 D0 Y0 z1;rcases O0 with b5|⟨b5,b6⟩
   all_goals
    go_wp2_with fail
    refine(Q0.out _).mono ?_;rintro e W1 ⟨T0,ba,bn,bc,rfl,B1⟩;have rS:W1.heap[wr.heap.size]?=some (.cells #[.int .i64 s.kind,.int .i64 s.x,.int .i64 s.line,.int .i64 s.e.op,.bool s.e.a.var,.int .i64 s.e.a.v,.bool s.e.b.var,.int .i64 s.e.b.v,.slice none 0 0,.slice none 0 0] 86 (0,0)):=by
     rw[T0.block _ (by simp)];exact Jt _ _ _ rfl
    have m1:wr.heap.size<W1.heap.size:=(by have:=T0.size;simp at this;omega);have n1:Hid (Below wr.heap.size wr W1):=(bA).trans (T0.mono (by simp));have C1:Hid (Yx d (λb=>wr.heap.size+1<=b/\b<W1.heap.size) W1 (.slice ba bn bc) s.body):=by
     show Yx _ _ _ _ _;have:=B1;simpa using this
    have K1:Fb<wr.heap.size:=Qe wr _ s0;have q0:=b1.out.below n1.out;have t0:W1.cell? ⟨wr.heap.size,0,none⟩=some (.int .i64 s.kind):=cell_of_row _ _ 0 _ _ (0,0) rS;have t1:W1.cell? ⟨wr.heap.size,1,none⟩=some (.int .i64 s.x):=cell_of_row _ _ 1 _ _ (0,0) rS;have t2:W1.cell? ⟨wr.heap.size,2,none⟩=some (.int .i64 s.line):=cell_of_row _ _ 2 _ _ (0,0) rS;have t3:W1.cell? ⟨wr.heap.size,3,none⟩=some (.int .i64 s.e.op):=cell_of_row _ _ 3 _ _ (0,0) rS;have t4:W1.cell? ⟨wr.heap.size,4,none⟩=some (.bool s.e.a.var):=cell_of_row _ _ 4 _ _ (0,0) rS;have t5:W1.cell? ⟨wr.heap.size,5,none⟩=some (.int .i64 s.e.a.v):=cell_of_row _ _ 5 _ _ (0,0) rS;have t6:W1.cell? ⟨wr.heap.size,6,none⟩=some (.bool s.e.b.var):=cell_of_row _ _ 6 _ _ (0,0) rS;have t7:W1.cell? ⟨wr.heap.size,7,none⟩=some (.int .i64 s.e.b.v):=cell_of_row _ _ 7 _ _ (0,0) rS;have t8:W1.cell? ⟨wr.heap.size,8,none⟩=some (.slice none 0 0):=cell_of_row _ _ 8 _ _ (0,0) rS;have t9:W1.cell? ⟨wr.heap.size,9,none⟩=some (.slice none 0 0):=cell_of_row _ _ 9 _ _ (0,0) rS
    have tz:∀j,W1.frozen? ⟨wr.heap.size,j,none⟩=false:=λj=>by simp[World.frozen?,rS]
    have b2:wr.heap.size≠Fb:=(by omega);clear T0 B1 rS s1 s2 s3 s4 s5 s6 s7 s8 s9;rcases j0.out with⟨r0,hp⟩|⟨f2,D1,hp⟩
    ·have o0:tl=f1++[Xl]:=by
      have h1:=g0.out.2;rw[hp]at h1;injection h1 with _ h1;exact h1.symm
     have K0:FL.drop k1=Xl::(q++rest):=by
      have h1:=S0.out;rw[x0.out,o0,List.append_assoc]at h1;rw[R0.out];exact(List.append_cancel_left h1).symm
     obtain⟨g1,g2,g3⟩:=Jp K0;have c0:W1.cell? ⟨Fb,k1*10,none⟩=some (.int .i64 (-2)):=by
      have:=q0.line k1 g1 0 (by omega);rw[g2]at this;exact this
     have o1:(k1:Int)<(n:Int):=(by rw[HN.out];omega);have E0:Hid (∀v o,Below wr.heap.size wr ((W1.setCell ⟨wr.heap.size,8,none⟩ v).alloc o)):=λv o=>(n1.out.setCell (Nat.le_refl _) _).alloc (by rw[Zy];omega) _
     have y0:Hid (∀v' W4,W4.ownsRow w.heap.size 86 10 v' (ds.length+1) (dsV ds++Vu s (.slice ba bn bc) (.slice none 0 0))->(∃o,((W1.setCell ⟨wr.heap.size,8,none⟩ (.slice ba bn bc)).alloc o).grownBy W4 (Value.slice oa ds.length oc).ownBlock)->(v'.ownBlock=(Value.slice oa ds.length oc).ownBlock\/v'.ownBlock=some (W1.heap.size+1))->zs4 d FL w i fl l rest (k1+1) v' W4 (ds++[(s,.slice ba bn bc,.slice none 0 0)]) q l3):=λv' W4 h1 h2 h3=>by
      obtain⟨o,h2⟩:=h2;have l0:=HR.out.st.own.lt;have k0:Yx d (BdS w.heap.size ((W1.setCell ⟨wr.heap.size,8,none⟩ (.slice ba bn bc)).alloc o) (.slice oa ds.length oc)) ((W1.setCell ⟨wr.heap.size,8,none⟩ (.slice ba bn bc)).alloc o) (.slice ba bn bc) s.body:=by
       refine Yx.kept (λb hb=>⟨by omega,by simp[Zy];omega,λhh=>by have:=(l0 b hh).2;omega⟩) (λb hb=>?_) _ _ _ C1.out;rw[Below.heap_alloc _ _ _ (by rw[Zy];omega),Zx _ _ _ _ _ (by omega)]
      have hst:=HR.out.st.push (E0.out _ o) k0 (by rw[r0];exact Yx.nil _ _ _) h1 h2 (by rcases h3 with h3|h3;exact .inl h3;exact .inr (by rw[h3];simp[Zy]));refine⟨by omega,g3,HQ.out,by rw[HR.out.hl];simp,hst,?_,?_⟩
      ·exact(HR.out.be.trans ((E0.out _ o).mono (by omega))).grown h2 (by simp[Zy];omega) (λb hb=>by have:=(l0 b hb).1;omega)
      have h4:=HR.out.le;have h5:=A1.out;rw[g0.out.1,hp]at h4;simp only[List.length_append,List.length_singleton,List.length_cons,List.length_nil]at h4;omega
     clear o0 K0 g2 g3 q0 r0 hp j0 S0 R0 x0 g0 HQ Q0
     go_wp2_with (at_builtin;refine Zj _ rfl (.tmp 65) (.tmp 67) 45 rfl w.heap.size 86 i0 (.agg Zb) 10 112 underlying45 c1 d1 e1 i1 rfl (by decide) _ _ _ rfl (j1.out _ (E0.out _ _)) ⟨W1.heap.size,0,none⟩ 1 1 (Vu s (.slice ba bn bc) (.slice none 0 0)) rfl rfl (by decide) (zw1 (by simp[Zy])) ?c2 ?c3 ?c4 ?c5 ?_)
     case c2=>intro u hu;simp only[Vu,List.mem_cons,List.not_mem_nil,or_false]at hu;rcases hu with rfl|rfl|rfl|rfl|rfl|rfl|rfl|rfl|rfl|rfl<;>rfl
     case c3=>unfold maxLen;omega
     case c4=>omega
     case c5=>simp[Zy];omega
     intro v' W4 a0 z0 d0;have A0:=y0.out v' W4 a0 ⟨_,z0⟩ (by simpa [Zy] using d0);obtain⟨va',vcap,rfl⟩:∃va vcap,v'=.slice va (ds.length+1) vcap:=by
      rcases a0.2 with⟨h1,h2⟩|⟨g,cp,cur,h1,_⟩
      ·omega
      exact⟨_,cp,h1⟩
     have I0:=Zz A0;clear A0 a0 z0 d0 y0;go_wp2
     go_roundw
     case rel=>exact⟨k1+1,_,_,_,by go_num,I0.out⟩
     case measure=>simp[intOf];omega
    have o0:tl=f1++Xd::(f2++[Xl]):=by
     have h1:=g0.out.2;rw[hp]at h1;injection h1 with _ h1;exact h1.symm
    have K0:FL.drop k1=Xd::(f2++(Xl::(q++rest))):=by
     have h1:=S0.out;rw[x0.out,o0,List.append_assoc]at h1;rw[R0.out];have h2:=(List.append_cancel_left h1).symm;rw[h2];simp
    obtain⟨g1,g2,g3⟩:=Jp K0;have c0:W1.cell? ⟨Fb,k1*10,none⟩=some (.int .i64 (-1)):=by
     have:=q0.line k1 g1 0 (by omega);rw[g2]at this;exact this
    have o1:(k1:Int)<(n:Int):=(by rw[HN.out];omega);have U0:=ze8 g3 (by omega);have L0:Hid (∀v,Below wr.heap.size wr (W1.setCell ⟨wr.heap.size,8,none⟩ v)):=λv=>n1.out.setCell (Nat.le_refl _) _;obtain⟨k2,u0⟩:=nmE (k1+1+f2.length)
    have E1:Hid (∀v,Calls prog 14 #[.slice (some ⟨Fb,0,none⟩) n fc,.int .i64 ((k1:Int)+1)] (W1.setCell ⟨wr.heap.size,8,none⟩ v) (zw7 d (W1.setCell ⟨wr.heap.size,8,none⟩ v) k2 s.other)):=λv=>by
     have h1:=HH.out (W1.setCell ⟨wr.heap.size,8,none⟩ v) (k1+1) f2 s.other _ (b1.out.below (L0.out v)) (by omega) g3 D1 (.inr ⟨_,_,rfl,by decide⟩);rw[show ((k1+1:Nat):Int)=(k1:Int)+1 by omega,<-u0]at h1;exact h1
    rw[<-u0]at U0;have S1:=Zz u0;have p1:k2+1<=n:=by
     obtain⟨a1,-,-⟩:=Jp U0.1;rw[HN.out];exact a1
    have T1:k1+1<=k2:=(by omega);have U1:Hid (FL.drop (k2+1)=q++rest):=(Jp U0.1).2.2;have HP:=Zz hp;clear o0 K0 g2 g3 q0 hp j0 S0 R0 x0 Q0 U0 u0 D1
    go_wp2_with fail
    refine(E1.out _).mono ?_;rintro e W5 ⟨B0,ea,en,ec,rfl,F1⟩;have d2:wr.heap.size<W5.heap.size:=(by have:=B0.size;rw[Zy]at this;omega);have V1:Hid (Below wr.heap.size wr W5):=(L0.out _).trans (B0.mono (by rw[Zy];omega));have X1:Hid (Yx d (λb=>W1.heap.size<=b/\b<W5.heap.size) W5 (.slice ea en ec) s.other):=by
     show Yx _ _ _ _ _;have:=F1;rw[Zy]at this;exact this
    have q1:Hid (Yx d (λb=>wr.heap.size+1<=b/\b<W5.heap.size) W5 (.slice ba bn bc) s.body):=by
     refine Yx.kept (λb hb=>⟨hb.1,by have:=B0.size;rw[Zy]at this;omega⟩) (λb hb=>?_) _ _ _ C1.out;rw[B0.block b (by rw[Zy];omega),Zx _ _ _ _ _ (by omega)]
    have b0:∀j,j≠8->W5.cell? ⟨wr.heap.size,j,none⟩=W1.cell? ⟨wr.heap.size,j,none⟩:=λj hj=>by
     refine(B0.cell (p:=⟨wr.heap.size,j,none⟩) (by rw[Zy];exact m1)).trans (Qg _ _ _ _ ?_);intro hh;injection hh with _ h9;omega
    have v0:=(b0 0 (by omega)).trans t0;have v1:=(b0 1 (by omega)).trans t1;have v2:=(b0 2 (by omega)).trans t2;have v3:=(b0 3 (by omega)).trans t3;have v4:=(b0 4 (by omega)).trans t4;have v5:=(b0 5 (by omega)).trans t5;have v6:=(b0 6 (by omega)).trans t6;have v7:=(b0 7 (by omega)).trans t7;have v8:W5.cell? ⟨wr.heap.size,8,none⟩=some (.slice ba bn bc):=(B0.cell (p:=⟨wr.heap.size,8,none⟩) (by rw[Zy];exact m1)).trans (World.cell?_setCell_same' _ _ _ (by simp[t8]));have v9:=(b0 9 (by omega)).trans t9;have vz:∀j,W5.frozen? ⟨wr.heap.size,j,none⟩=false:=λj=>(B0.frozen (p:=⟨wr.heap.size,j,none⟩) (by rw[Zy];exact m1)).trans (by rw[World.frozen?_setCell];exact tz j);have E0:Hid (∀v o,Below wr.heap.size wr ((W5.setCell ⟨wr.heap.size,9,none⟩ v).alloc o)):=λv o=>(V1.out.setCell (Nat.le_refl _) _).alloc (by rw[Zy];omega) _
    have y0:Hid (∀v' W4,W4.ownsRow w.heap.size 86 10 v' (ds.length+1) (dsV ds++Vu s (.slice ba bn bc) (.slice ea en ec))->(∃o,((W5.setCell ⟨wr.heap.size,9,none⟩ (.slice ea en ec)).alloc o).grownBy W4 (Value.slice oa ds.length oc).ownBlock)->(v'.ownBlock=(Value.slice oa ds.length oc).ownBlock\/v'.ownBlock=some (W5.heap.size+1))->zs4 d FL w i fl l rest (k2+1) v' W4 (ds++[(s,.slice ba bn bc,.slice ea en ec)]) q l3):=λv' W4 h1 h2 h3=>by
     obtain⟨o,h2⟩:=h2;have l0:=HR.out.st.own.lt
     have G1:∀b,wr.heap.size<b->b<W5.heap.size->((W5.setCell ⟨wr.heap.size,9,none⟩ (.slice ea en ec)).alloc o).heap[b]?=W5.heap[b]?:=λb h8 h9=>by
      rw[Below.heap_alloc _ _ _ (by rw[Zy];omega),Zx _ _ _ _ _ (by omega)]
     have k0:Yx d (BdS w.heap.size ((W5.setCell ⟨wr.heap.size,9,none⟩ (.slice ea en ec)).alloc o) (.slice oa ds.length oc)) ((W5.setCell ⟨wr.heap.size,9,none⟩ (.slice ea en ec)).alloc o) (.slice ba bn bc) s.body:=Yx.kept (λb hb=>⟨by omega,by simp[Zy];omega,λhh=>by have:=(l0 b hh).2;omega⟩) (λb hb=>G1 b (by omega) hb.2) _ _ _ q1.out;have r0:Yx d (BdS w.heap.size ((W5.setCell ⟨wr.heap.size,9,none⟩ (.slice ea en ec)).alloc o) (.slice oa ds.length oc)) ((W5.setCell ⟨wr.heap.size,9,none⟩ (.slice ea en ec)).alloc o) (.slice ea en ec) s.other:=Yx.kept (λb hb=>⟨by omega,by simp[Zy];omega,λhh=>by have:=(l0 b hh).2;omega⟩) (λb hb=>G1 b (by omega) hb.2) _ _ _ X1.out;have hst:=HR.out.st.push (E0.out _ o) k0 r0 h1 h2 (by rcases h3 with h3|h3;exact .inl h3;exact .inr (by rw[h3];simp[Zy]));refine⟨by rw[<-HN.out];exact p1,U1.out,HQ.out,by rw[HR.out.hl];simp,hst,?_,?_⟩
     ·exact(HR.out.be.trans ((E0.out _ o).mono (by omega))).grown h2 (by simp[Zy];omega) (λb hb=>by have:=(l0 b hb).1;omega)
     have h4:=HR.out.le;have h5:=A1.out;have h6:=S1.out;rw[g0.out.1,HP.out]at h4;simp only[List.length_append,List.length_singleton,List.length_cons,List.length_nil]at h4;omega
    clear B0 F1 b0 t0 t1 t2 t3 t4 t5 t6 t7 t8 t9 tz E1 g0 HQ HP
    go_wp2_with (at_builtin;refine Zj _ rfl (.tmp 65) (.tmp 67) 45 rfl w.heap.size 86 i0 (.agg Zb) 10 112 underlying45 c1 d1 e1 i1 rfl (by decide) _ _ _ rfl (j1.out _ (E0.out _ _)) ⟨W5.heap.size,0,none⟩ 1 1 (Vu s (.slice ba bn bc) (.slice ea en ec)) rfl rfl (by decide) (zw1 (by simp[Zy])) ?c2 ?c3 ?c4 ?c5 ?_)
    case c2=>intro u hu;simp only[Vu,List.mem_cons,List.not_mem_nil,or_false]at hu;rcases hu with rfl|rfl|rfl|rfl|rfl|rfl|rfl|rfl|rfl|rfl<;>rfl
    case c3=>unfold maxLen;omega
    case c4=>omega
    case c5=>simp[Zy];omega
    intro v' W4 a0 z0 d0;have A0:=y0.out v' W4 a0 ⟨_,z0⟩ (by simpa [Zy] using d0);obtain⟨va',vcap,rfl⟩:∃va vcap,v'=.slice va (ds.length+1) vcap:=by
     rcases a0.2 with⟨h1,h2⟩|⟨g,cp,cur,h1,_⟩
     ·omega
     exact⟨_,cp,h1⟩
    have I0:=Zz A0;clear A0 a0 z0 d0 y0;go_wp2
    go_roundw
    case rel=>exact⟨k2+1,_,_,_,by go_num,I0.out⟩
    case measure=>simp[intOf];omega
def yj2(d:Nat)(FL:List FlS)(v:Value)(a0:cnt FL<=16):zi7 d FL v:=by
 induction d with
 |zero=>exact yn2 FL v
 |succ d ih=>exact yn3 ih a0
end Go.Proofs.YtaaejabalinojaaGreatDoor
namespace Go.Proofs.YtaaejabalinojaaGreatDoor
open Go.Proofs.Tryz
namespace Fl
def mixTab(k:Nat)(T:Tab)(i j:Nat):Tab:=λa b=>if a<i\/(a=i/\b<j) then fwStep k T a b else T a b
def mix_zero(k:Nat)(T:Tab):mixTab k T 0 0=T:=by
 funext a b
 simp[mixTab]
def mix_col(k:Nat)(T:Tab)(i j a:Nat):mixTab k T i j a k=T a k:=by
 unfold mixTab
 by_cases h:a<i\/(a=i/\k<j)
 ·rw[if_pos h];unfold fwStep;cases T a k<;>simp
 rw[if_neg h]
def yj3(k:Nat)(T:Tab)(i j b:Nat):mixTab k T i j k b=T k b:=by
 unfold mixTab
 by_cases h:k<i\/(k=i/\b<j)
 ·rw[if_pos h];unfold fwStep;cases T k b<;>simp
 rw[if_neg h]
def mix_step(k:Nat)(T:Tab)(i j a b:Nat):mixTab k T i (j+1) a b=if a=i/\b=j then(mixTab k T i j i j||(mixTab k T i j i k && mixTab k T i j k j)) else mixTab k T i j a b:=by
 rw[mix_col,yj3]
 by_cases h:a=i/\b=j
 ·obtain⟨rfl,rfl⟩:=h
  rw[if_pos ⟨rfl,rfl⟩];unfold mixTab;rw[if_pos (by omega),if_neg (by omega)];rfl
 rw[if_neg h];unfold mixTab
 by_cases h2:a<i\/(a=i/\b<j)
 ·rw[if_pos h2,if_pos (by omega)]
 rw[if_neg h2,if_neg (by omega)]
def mix_row(k:Nat)(T:Tab)(i n a b:Nat)(hb:b<n):mixTab k T i n a b=mixTab k T (i+1) 0 a b:=by
 unfold mixTab
 by_cases h:a<i\/(a=i/\b<n)
 ·rw[if_pos h,if_pos (by omega)]
 rw[if_neg h,if_neg (by omega)]
def mix_all(k:Nat)(T:Tab)(n a b:Nat)(ha:a<n):mixTab k T n 0 a b=fwStep k T a b:=by
 unfold mixTab;rw[if_pos (.inl ha)]
end Fl
open Go.RowKit
def Vm(n:Nat)(t:Fl.Tab)(a b k j:Nat):Bool:=t a k && t b k && (List.range j).all λi=> !(t a i)||!(t b i)||t k i
def zm5(n:Nat)(t:Fl.Tab)(a b k j:Nat):Vm n t a b k (j+1)=(Vm n t a b k j && (!(t a j)||!(t b j)||t k j)):=by
 unfold Vm;rw[List.range_succ,List.all_append];simp[Bool.and_assoc]
def ze9(p:Nat->Bool)(n k:Nat)(hk:k<n)(hp:p k=true)(hno:∀i,i<k->p i=false):Fl.firstK p n=(k:Int):=by
 unfold Fl.firstK;have:(List.range n).find? p=some k:=by
  rw[List.find?_eq_some_iff_append];refine⟨hp,List.range k,(List.range' (k+1) (n - k - 1)),?_,λx hx=>by simp at hx;simp[hno x hx]⟩;rw[List.range_eq_range',List.range_eq_range',show n=k+(n - k) by omega,<-List.range'_append_1,show n - k=1+(n - k - 1) by omega];simp;rw[Nat.add_comm 1,List.range'_succ]
 rw[this]
def zm6(p:Nat->Bool)(n:Nat)(hno:∀i,i<n->p i=false):Fl.firstK p n= -1:=by
 unfold Fl.firstK;have:(List.range n).find? p=none:=by
  rw[List.find?_eq_none];intro x hx;simp at hx;simp[hno x hx]
 rw[this]
def yn4{base:Nat}{w:World}{Lq:Nat}{rb:Nat->Nat}{n:Nat}{t:Fl.Tab}(h:Yj base w Lq rb n t)(Pb a b:Nat)(hn:n<=6)(ha:a<n)(hb:b<n)(p0:w.cell? ⟨Pb,0,none⟩=some (.int .i64 n))(p1:w.cell? ⟨Pb,1,none⟩=some (.slice (some ⟨Lq,0,none⟩) n n)):
  Calls prog 92 #[.pointer (some ⟨Pb,0,none⟩),.int .i64 a,.int .i64 b] w λe w'=>e=.returned (.int .i64 (Fl.join n t a b))/\w'=w:=by
 have HL:=Zz h
 have s0:(n:Int)<=6:=by omega
 have t0:(a:Int)<(n:Int):=by omega
 have u0:(b:Int)<(n:Int):=by omega
 have ca:=h.c a ha;have cb:=h.c b hb;have a0:Hid (Fl.join n t a b=Fl.firstK (Fl.isJoin n t a b) n):=rfl;generalize Fl.join n t a b=res at*;clear h
 go_enter func92,ntmps92
 go_wp2_with fail
 go_loopw [7] (λi wr=>wr=w/\∃k:Nat,k<=n/\i=.int .i64 k/\∀x,x<k->Fl.isJoin n t a b x=false) (λi _=>n - (intOf i).toNat)
 case atStart=>exact⟨rfl,0,Nat.zero_le _,rfl,λx hx=>by omega⟩
 case round=>
  obtain⟨b0,k,hk,rfl,hno⟩:=hrel;have g0:=Zz hno;rw[b0];clear hno b0 wr
  by_cases d0:k<n
  ·have k0:(k:Int)<(n:Int):=by omega
   have ck:=HL.out.c k d0;have x1:w.cell? ⟨rb a,k,none⟩=some (.bool (t a k)):=HL.out.r a k ha d0;have x2:w.cell? ⟨rb b,k,none⟩=some (.bool (t b k)):=HL.out.r b k hb d0;obtain⟨y1,h0⟩:∃y,y=t a k:=⟨_,rfl⟩;obtain⟨y2,i0⟩:∃y,y=t b k:=⟨_,rfl⟩;rw[<-h0]at x1;rw[<-i0]at x2;have l0:Hid (Vm n t a b k 0=(y1 && y2)):=(by show _=_;unfold Vm;simp[h0,i0]);have j0:=Zz d0
   have c0:Hid (∀ls:Bool,ls=(y1 && y2)->ls=Vm n t a b k 0):=λls h=>by rw[h];exact l0.out.symm
   clear h0 i0;have m0:Hid (∃y0,y0=(y1 && y2)):=⟨_,rfl⟩
   cases y1<;>cases y2
   all_goals
    have n0:Hid _:=c0.out _ rfl
    go_wp2_with fail
    go_loopw [8,9] (λls i wr=>wr=w/\∃j:Nat,j<=n/\i=.int .i64 j/\ls=.bool (Vm n t a b k j)) (λ_ i _=>n - (intOf i).toNat)
    case atStart=>exact⟨rfl,0,Nat.zero_le _,rfl,by rw[<-n0.out];rfl⟩
    case round=>
     obtain⟨b0,j,hj,rfl,rfl⟩:=hrel;rw[b0];clear b0 wr
     by_cases e0:j<n
     ·have o0:(j:Int)<(n:Int):=by omega
      have cj:=HL.out.c j e0;have z1:w.cell? ⟨rb a,j,none⟩=some (.bool (t a j)):=HL.out.r a j ha e0;have z2:w.cell? ⟨rb b,j,none⟩=some (.bool (t b j)):=HL.out.r b j hb e0;have z3:w.cell? ⟨rb k,j,none⟩=some (.bool (t k j)):=HL.out.r k j j0.out e0;have HS:Hid (Vm n t a b k (j+1)=(Vm n t a b k j && (!(t a j)||!(t b j)||t k j))):=zm5 n t a b k j;generalize Vm n t a b k j=lj at*;generalize t a j=u1 at*;generalize t b j=u2 at*;generalize t k j=u3 at*
      cases lj<;>cases u1<;>cases u2<;>cases u3
      all_goals
       go_wp2
       go_roundw
       case rel=>exact⟨by first|rfl|trivial,j+1,by omega,by go_num,by rw[HS.out];rfl⟩
       case measure=>simp[intOf];omega
     have o0:¬(j:Int)<(n:Int):=(by omega)
     obtain rfl:j=n:=by omega
     cases f0:Vm j t a b k j with
     |true=>
      have HE:Hid (res=(k:Int)):=(by show _=_;rw[a0.out];exact ze9 _ _ _ j0.out f0 g0.out);clear f0;go_wp2;go_ret;exact⟨by rw[HE.out];rfl,rfl⟩
     |false=>
      have q0:Hid (∀x,x<k+1->Fl.isJoin j t a b x=false):=λx hx=>by
       by_cases r0:x=k
       ·subst r0;exact f0
       exact g0.out x (by omega)
      clear f0;go_wp2
      go_roundw
      case rel=>exact⟨by first|rfl|trivial,k+1,by omega,by go_num,q0.out⟩
      case measure=>simp[intOf];omega
  have k0:¬(k:Int)<(n:Int):=(by omega);have HE:Hid (res= -1):=(by show _=_;rw[a0.out];exact zm6 _ _ (λx hx=>g0.out x (by omega)));go_wp2;go_ret;exact⟨by rw[HE.out];rfl,rfl⟩
section
variable{base:Nat}{w:World}{Lq:Nat}{rb:Nat->Nat}{n:Nat}{t t':Fl.Tab}
def Yj.congr(h:Yj base w Lq rb n t)(ht:∀a b,a<n->b<n->t' a b=t a b):Yj base w Lq rb n t':=
 ⟨h.c,λi j hi hj=>by rw[ht i j hi hj];exact h.r i j hi hj,h.z,h.inj,h.ge⟩
def Yj.set(h:Yj base w Lq rb n t){i j:Nat}(hi:i<n)(hj:j<n)(v:Bool):Yj base (w.setCell ⟨rb i,j,none⟩ (.bool v)) Lq rb n (λa b=>if a=i/\b=j then v else t a b):=by
 refine⟨λa ha=>?_,λa b ha hb=>?_,λa b ha=>by rw[World.frozen?_setCell];exact h.z a b ha,h.inj,h.ge⟩
 ·refine(Qg _ _ _ _ ?_).trans (h.c a ha)
  intro hh;injection hh with h1 _;exact(h.ge.2 i hi).2 (by omega)
 by_cases a0:a=i/\b=j
 ·obtain⟨rfl,rfl⟩:=a0
  rw[if_pos ⟨rfl,rfl⟩];exact World.cell?_setCell_same' _ _ _ (by simp[h.r a b ha hb])
 rw[if_neg a0];refine(Qg _ _ _ _ ?_).trans (h.r a b ha hb);intro hh;injection hh with h1 h2
 by_cases b0:a=i
 ·exact a0 ⟨b0,by omega⟩
 exact h.inj a i ha hi b0 (by omega)
def Yj.mix{T:Fl.Tab}{k i j:Nat}(h:Yj base w Lq rb n (Fl.mixTab k T i j))(hi:i<n)(hj:j<n):Yj base (w.setCell ⟨rb i,j,none⟩ (.bool (Fl.mixTab k T i j i j||(Fl.mixTab k T i j i k && Fl.mixTab k T i j k j)))) Lq rb n (Fl.mixTab k T i (j+1)):=
 (h.set hi hj _).congr λa b _ _=>Fl.mix_step k T i j a b
def Yj.mixRow{T:Fl.Tab}{k i:Nat}(h:Yj base w Lq rb n (Fl.mixTab k T i n)):Yj base w Lq rb n (Fl.mixTab k T (i+1) 0):=h.congr λa b _ hb=>(Fl.mix_row k T i n a b hb).symm
def Yj.mixAll{T:Fl.Tab}{k:Nat}(h:Yj base w Lq rb n (Fl.mixTab k T n 0)):Yj base w Lq rb n (Fl.fwStep k T):=h.congr λa b ha _=>(Fl.mix_all k T n a b ha).symm
def Yj.mixZero{T:Fl.Tab}{k:Nat}(h:Yj base w Lq rb n T):Yj base w Lq rb n (Fl.mixTab k T 0 0):=by rw[Fl.mix_zero];exact h
def yn5(low high:List Nat)(he:low.length=high.length)(p:Nat)(hp:p<low.length)(hq:p<high.length)(a b:Nat):Fl.tab0 (low.take (p+1)) (high.take (p+1)) a b=if a=low[p]/\b=high[p] then true else Fl.tab0 (low.take p) (high.take p) a b:=by
 unfold Fl.tab0;rw[List.take_succ_eq_append_getElem hp,List.take_succ_eq_append_getElem hq,List.zip_append (by simp;omega),List.any_append]
 by_cases h:a=low[p]/\b=high[p]
 ·obtain⟨rfl,rfl⟩:=h
  simp
 rw[if_neg h];have h2:([low[p]].zip [high[p]]).any (λp=>p.1==a && p.2==b)=false:=by
  simp;intro h3 h4;exact h ⟨h3.symm,h4.symm⟩
 rw[h2,Bool.or_false]
def Yj.pair{low high:List Nat}{p:Nat}(h:Yj base w Lq rb n (Fl.tab0 (low.take p) (high.take p)))(he:low.length=high.length)(hp:p<low.length)(hq:p<high.length)(hi:low[p]<n)(hj:high[p]<n):Yj base (w.setCell ⟨rb low[p],high[p],none⟩ (.bool true)) Lq rb n (Fl.tab0 (low.take (p+1)) (high.take (p+1))):=
 (h.set hi hj true).congr λa b _ _=>yn5 low high he p hp hq a b
end
def Tryz.infoBoolR:(Tryz.prog.info? 4).map (λi=>(i.zero,i.size,i.bytes))=some (some (.bool false),1,1):=by kernel_rfl
def Tryz.infoRowR:(Tryz.prog.info? 93).map (λi=>(i.zero,i.size,i.bytes))=some (some (.slice none 0 0),1,24):=by kernel_rfl
def Vx(n:Nat)(v:Value):List Value:=List.replicate n v
def yz3(n:Nat)(v:Value)(hv:v.cells=#[v]):madeCells v.cells ((n:Int).toNat*1)=(Vx n v).toArray:=by
 apply Array.ext
 ·simp[madeCells,Vx]
 intro i h1 h2;simp[madeCells,Vx,hv,Nat.mod_one]
def yn6(W:World)(n:Nat)(hn:n<=6):(Instr.makeSlice 93 (.int .i64 n) (.int .i64 n)).run prog W=.ok (.slice (some ⟨W.heap.size,0,none⟩) n n) (W.alloc (.cells (Vx n (.bool false)).toArray 4)):=by
 obtain⟨i0,b0,c0,a0,d0⟩:=info_parts Tryz.infoBoolR;have h:=run_makeSlice (w:=W) 93 4 i0 (.bool false) underlying93 b0 c0 .i64 .i64 (n:Int) (n:Int) (by omega) (Int.le_refl _) (by rw[a0];simp;omega) (by rw[d0];omega) (by omega);rw[h,a0,yz3 n _ rfl,Int.toNat_natCast]
def yn7(W:World)(n:Nat)(hn:n<=6):(Instr.makeSlice 44 (.int .i64 n) (.int .i64 n)).run prog W=.ok (.slice (some ⟨W.heap.size,0,none⟩) n n) (W.alloc (.cells (Vx n (.slice none 0 0)).toArray 93)):=by
 obtain⟨i0,b0,c0,a0,d0⟩:=info_parts Tryz.infoRowR;have h:=run_makeSlice (w:=W) 44 93 i0 (.slice none 0 0) underlying44 b0 c0 .i64 .i64 (n:Int) (n:Int) (by omega) (Int.le_refl _) (by rw[a0];simp;omega) (by rw[d0];omega) (by omega);rw[h,a0,yz3 n _ rfl,Int.toNat_natCast]
structure zv6(base:Nat)(w:World)(Lq:Nat)(rb:Nat->Nat)(n i:Nat):Prop where
 c:∀a,a<i->w.cell? ⟨Lq,a,none⟩=some (.slice (some ⟨rb a,0,none⟩) n n)
 o:∀a,i<=a->a<n->w.cell? ⟨Lq,a,none⟩=some (.slice none 0 0)
 zL:∀a,w.frozen? ⟨Lq,a,none⟩=false
 r:∀a b,a<i->b<n->w.cell? ⟨rb a,b,none⟩=some (.bool (a==b))
 z:∀a b,a<i->w.frozen? ⟨rb a,b,none⟩=false
 inj:∀a b,a<i->b<i->a≠b->rb a≠rb b
 ge:base<=Lq/\Lq<w.heap.size/\∀a,a<i->base<=rb a/\rb a≠Lq/\rb a<w.heap.size
 le:i<=n
section
variable{base:Nat}{w:World}{Lq:Nat}{rb:Nat->Nat}{n i:Nat}
def zv6.all(h:zv6 base w Lq rb n n):Yj base w Lq rb n (Fl.tab0 (([]:List Nat)) []):=
 ⟨h.c,λa b ha hb=>by rw[h.r a b ha hb];simp[Fl.tab0],h.z,h.inj,h.ge.1,λa ha=>⟨(h.ge.2.2 a ha).1,(h.ge.2.2 a ha).2.1⟩⟩
def zv6.begun(w:World)(n:Nat)(base:Nat)(hb:base<=w.heap.size)(rb:Nat->Nat):zv6 base (w.alloc (.cells (Vx n (.slice none 0 0)).toArray 93)) w.heap.size rb n 0:=by
 have hc:=Zd.new w (Vx n (.slice none 0 0)) 93;refine⟨λa ha=>absurd ha (by omega),λa _ ha=>?_,hc.z,λa b ha=>absurd ha (by omega),λa b ha=>absurd ha (by omega),λa b ha=>absurd ha (by omega),⟨hb,by simp,λa ha=>absurd ha (by omega)⟩,by omega⟩;rw[hc.c a (by simp[Vx];exact ha)];simp[rw_,Vx,ha]
def zv6.next(h:zv6 base w Lq rb n i)(hi:i<n):zv6 base (((w.alloc (.cells (Vx n (.bool false)).toArray 4)).setCell ⟨Lq,i,none⟩ (.slice (some ⟨w.heap.size,0,none⟩) n n)).setCell ⟨w.heap.size,i,none⟩ (.bool true)) Lq (λa=>if a=i then w.heap.size else rb a) n (i+1):=by
 have hc:=Zd.new w (Vx n (.bool false)) 4;have c0:=h.ge.2.1;have hB:Below w.heap.size w (w.alloc (.cells (Vx n (.bool false)).toArray 4)):=bA
 have b0:∀p:Addr,p.block<w.heap.size->p≠⟨Lq,i,none⟩->(((w.alloc (.cells (Vx n (.bool false)).toArray 4)).setCell ⟨Lq,i,none⟩ (.slice (some ⟨w.heap.size,0,none⟩) n n)).setCell ⟨w.heap.size,i,none⟩ (.bool true)).cell? p=w.cell? p:=λp hp d0=>
  (Qg _ _ _ _ (by intro hh;have h9:=congrArg Addr.block hh;simp only at h9;omega)).trans ((Qg _ _ _ _ (λhh=>d0 (by rw[hh]))).trans (hB.cell (p:=p) hp))
 refine⟨λa ha=>?_,λa h1 h2=>?_,λa=>?_,λa b ha hb=>?_,λa b ha=>?_,λa b ha hb d0=>?_,⟨h.ge.1,?_,λa ha=>?_⟩,by omega⟩
 ·by_cases a0:a=i
  ·subst a0
   rw[if_pos rfl];refine(Qg _ _ _ _ (by intro hh;injection hh with h1 _;omega)).trans ?_;exact World.cell?_setCell_same' _ _ _ (by rw[hB.cell (p:=⟨Lq,a,none⟩) c0,h.o a (Nat.le_refl _) hi];rfl)
  rw[if_neg a0,b0 _ c0 (by intro hh;injection hh with _ h2;exact a0 (by omega))];exact h.c a (by omega)
 ·rw[b0 _ c0 (by intro hh;injection hh with _ h2;omega)]
  exact h.o a (by omega) h2
 ·rw[World.frozen?_setCell,World.frozen?_setCell]
  exact(hB.frozen (p:=⟨Lq,a,none⟩) c0).trans (h.zL a)
 ·by_cases a0:a=i
  ·subst a0
   rw[if_pos rfl]
   have h0:∀b,b<n->((w.alloc (.cells (Vx n (.bool false)).toArray 4)).setCell ⟨Lq,a,none⟩ (.slice (some ⟨w.heap.size,0,none⟩) n n)).cell? ⟨w.heap.size,b,none⟩=some (.bool false):=λb hb=>by
    refine(Qg _ _ _ _ (by intro hh;injection hh with h1 _;omega)).trans ?_;rw[hc.c b (by simp[Vx];exact hb)];simp[rw_,Vx,hb]
   by_cases f0:b=a
   ·subst f0
    rw[World.cell?_setCell_same' _ _ _ (by rw[h0 b hb];rfl)];simp
   rw[Qg _ _ _ _ (by intro hh;injection hh with _ h2;exact f0 (by omega)),h0 b hb];simp;omega
  rw[if_neg a0];have hg:=h.ge.2.2 a (by omega);rw[b0 _ hg.2.2 (by intro hh;injection hh with h1 _;exact hg.2.1 h1)];exact h.r a b (by omega) hb
 ·rw[World.frozen?_setCell,World.frozen?_setCell]
  by_cases a0:a=i
  ·rw[if_pos a0];exact hc.z b
  rw[if_neg a0];exact(hB.frozen (p:=⟨rb a,b,none⟩) (h.ge.2.2 a (by omega)).2.2).trans (h.z a b (by omega))
 ·by_cases a0:a=i
  ·have e0:b≠i:=λhh=>d0 (a0.trans hh.symm)
   rw[if_pos a0,if_neg e0];have:=(h.ge.2.2 b (by omega)).2.2;omega
  rw[if_neg a0]
  by_cases e0:b=i
  ·rw[if_pos e0]
   have:=(h.ge.2.2 a (by omega)).2.2;omega
  rw[if_neg e0];exact h.inj a b (by omega) (by omega) d0
 ·rw[Zy,Zy];have:=hB.size;omega
 rw[Zy,Zy]
 have hz:(w.alloc (.cells (Vx n (.bool false)).toArray 4)).heap.size=w.heap.size+1:=by simp
 by_cases a0:a=i
 ·rw[if_pos a0];have:=h.ge.1;exact⟨by omega,by omega,by omega⟩
 rw[if_neg a0];have:=h.ge.2.2 a (by omega);exact⟨this.1,this.2.1,by omega⟩
end
end Go.Proofs.YtaaejabalinojaaGreatDoor
