import Derived.Test.YtaaejabalinojaaGreatDoorM08
import Derived.Test.YtaaejabalinojaaGreatDoorM15
import Derived.Deep.DeepCutAuto
set_option linter.all false
set_option maxRecDepth 100000
set_option maxHeartbeats 40000000
namespace Go.Proofs.YtaaejabalinojaaGreatDoor
open Go.RowKit Go.Proofs.Tryz
def At.stmt{W:World}{l:List (Addr×Value)}(h:At W l)(c0 c1 c2 c3 c4 c5 c6 c7 c8 c9:Value)(T:TypeId)(N:Nat)(hN:W.heap.size=N):At (W.alloc (.cells #[c0,c1,c2,c3,c4,c5,c6,c7,c8,c9] T)) ((⟨N,0,none⟩,c0)::(⟨N,1,none⟩,c1)::(⟨N,2,none⟩,c2)::(⟨N,3,none⟩,c3)::(⟨N,4,none⟩,c4)::(⟨N,5,none⟩,c5)::(⟨N,6,none⟩,c6)::(⟨N,7,none⟩,c7)::(⟨N,8,none⟩,c8)::(⟨N,9,none⟩,c9)::l):=by
 subst hN;exact⟨⟨by simp,by simp⟩,⟨by simp,by simp⟩,⟨by simp,by simp⟩,⟨by simp,by simp⟩,⟨by simp,by simp⟩,⟨by simp,by simp⟩,⟨by simp,by simp⟩,⟨by simp,by simp⟩,⟨by simp,by simp⟩,⟨by simp,by simp⟩,h.below (bA)⟩
def zo8(w:World)(x:List Fl.Node)(pv:Value)(v:Value)(r:Int->Bool):Prop:=∀W,Below w.heap.size w W->∀q,Ji x q->Calls prog 20 #[pv,.int .i64 q,v] W λe w'=>e=.returned (.bool (r q))/\Below W.heap.size W w'
def ypv(w:World)(x:List Fl.Node)(pv:Value)(K:Int->List Fl.Stmt->Bool)(ao:Option Addr)(i:Nat)(s:Fl.Stmt):Prop:=
 ∃(sb:Nat) (ba:Option Addr) (bn bc:Nat) (oa:Option Addr) (on oc:Nat),ao=some ⟨sb,0,none⟩/\At w [(⟨sb,i*10,none⟩,.int .i64 (s.kind:Int)),(⟨sb,i*10+1,none⟩,.int .i64 (s.x:Int)),(⟨sb,i*10+2,none⟩,.int .i64 (s.line:Int)),(⟨sb,i*10+3,none⟩,.int .i64 s.e.op),(⟨sb,i*10+4,none⟩,.bool s.e.a.var),(⟨sb,i*10+5,none⟩,.int .i64 (s.e.a.v:Int)),(⟨sb,i*10+6,none⟩,.bool s.e.b.var),(⟨sb,i*10+7,none⟩,.int .i64 (s.e.b.v:Int)),(⟨sb,i*10+8,none⟩,.slice ba bn bc),(⟨sb,i*10+9,none⟩,.slice oa on oc)]/\(s.kind=3\/s.kind=4\/s.kind=5\/s.kind=6)/\zo8 w x pv (.slice ba bn bc) (λq=>K q s.body)/\zo8 w x pv (.slice oa on oc) (λq=>K q s.other)
def yk5(K:Int->List Fl.Stmt->Bool)(x:List Fl.Node)(j:Nat)(s:Fl.Stmt):
  (s.kind=3\/s.kind=4->Fl.ofOne K x (j:Int) s=((Fl.nth x j).kind==(s.kind:Int) && (Fl.ofExpr x (Fl.nth x j).b s.e && (Fl.nth x j).a==(s.x:Int))))/\
  (s.kind=5->Fl.ofOne K x (j:Int) s=((Fl.nth x j).kind==(s.kind:Int) && (Fl.ofExpr x (Fl.nth x j).a s.e && K (Fl.nth x j).b s.body && K (Fl.nth x j).c s.other)))/\
  (s.kind=6->Fl.ofOne K x (j:Int) s=((Fl.nth x j).kind==(s.kind:Int) && (Fl.ofExpr x (Fl.nth x j).a s.e && K (Fl.nth x j).b s.body))):=by
 have e:Fl.nd x (j:Int)=Fl.nth x j:=by unfold Fl.nd;rw[Int.toNat_natCast]
 unfold Fl.ofOne;rw[e,zxw,zxw];refine⟨λh=>?_,λh=>?_,λh=>?_⟩
 ·rw[if_neg (by omega),if_neg (by omega),Bool.and_comm ((Fl.nth x j).a==_)]
 ·rw[if_pos h,Bool.and_assoc]
 ·rw[if_neg (by omega),if_pos h]
def zf9{w:World}{x:List Fl.Node}{nv:Value}{la:Option Addr}{ll lcp:Nat}(hx:XOk x)(h:Yv w.heap.size w nv x)(K:Int->List Fl.Stmt->Bool)(k:Nat)(hk:k<x.length)(l:List Fl.Stmt)(ao:Option Addr)(cap:Nat)(b1:l.length<=cap)(L1:l.length<=16)
  (hl:∀i,i<l.length->ypv w x (.agg #[.slice la ll lcp,nv]) K ao i (l.getD i noS)):
  Calls prog 20 #[.agg #[.slice la ll lcp,nv],.int .i64 k,.slice ao l.length cap] w λe w'=>e=.returned (.bool (decide ((Fl.nth x k).kind=7) && (decide ((Fl.nth x k).list.length=l.length) && (List.range l.length).all λi=>Fl.ofOne K x ((Fl.nth x k).list.getD i 0) (l.getD i noS))))/\Below w.heap.size w w':=by
 obtain⟨b,off,cap2,rfl,d1⟩:=zxx h (by omega);have A0:Hid (∀W,Below w.heap.size w W->∀q,Ji x q->∀e:Fl.Expr,Calls prog 37 #[.agg #[.slice la ll lcp,.slice (some ⟨b,off,none⟩) x.length cap2],.int .i64 q,exV e] W λr w'=>r=.returned (.bool (Fl.ofExpr x q e))/\Below W.heap.size W w'):=λW hW q hq e=>yx8 ((h.below hW).mono hW.size) q hq (λh2=>hx.k2 q.toNat hq.2 h2) e;obtain⟨ln,lc,hbz,c0,c1,c2,c3,c4,c5,v1⟩:=d1 k hk
 have R1:(k:Int)<(x.length:Int):=by omega
 obtain⟨m,hm⟩:=nmE (l.length);obtain⟨G,hG⟩:=nmE (α:=Nat->Bool) (λi=>Fl.ofOne K x ((Fl.nth x k).list.getD i 0) (l.getD i noS));rw[<-hm,<-hG]
 have S1:(m:Int)<=16:=by omega
 have T1:(m:Int)<=(cap:Int):=by omega
 have M0:Hid (∀o o',Below w.heap.size w ((w.alloc o).alloc o')):=λo o'=>(bA).alloc (by simp) _
 have HN:Hid ((Fl.nth x k).kind=7->(Fl.nth x k).list.length=m->∀i,i<m->∃(lb lo j:Nat) (lnj:Option Addr) (lcj:Nat),ln=some ⟨lb,lo,none⟩/\(j:Int)<(x.length:Int)/\j<x.length/\(Fl.nth x k).list.getD i 0=(j:Int)/\∃nj,nj=Fl.nth x j/\At w [(⟨lb,lo+i,none⟩,.int .i64 (j:Int)),(⟨b,off+j*6,none⟩,.int .i64 nj.kind),(⟨b,off+j*6+1,none⟩,.int .i64 nj.level),(⟨b,off+j*6+2,none⟩,.int .i64 nj.a),(⟨b,off+j*6+3,none⟩,.int .i64 nj.b),(⟨b,off+j*6+4,none⟩,.int .i64 nj.c),(⟨b,off+j*6+5,none⟩,.slice lnj nj.list.length lcj)]):=λh7 hlen i hi=>by
  have C0:i<(Fl.nth x k).list.length:=(by omega);obtain⟨la2,lc2,e0,-,-,M1⟩:=v1;simp only[Value.slice.injEq]at e0;obtain⟨lb,lo,e8,hlb,O1⟩:=M1 (by intro hh;rw[hh]at C0;simp at C0);have e:(Fl.nth x k).list.getD i 0=(Fl.nth x k).list[i]:=(by rw[Qa,Qb C0];rfl);obtain⟨U1,x1⟩:=hx.k7 k hk h7 _ (List.getElem_mem C0);obtain⟨ln',lc',hb,t0,t1,t2,t3,t4,t5,-⟩:=d1 _ x1;have c9:=O1 i C0;have ej:(Fl.nth x k).list[i]=(((Fl.nth x k).list[i]).toNat:Int):=(by omega);rw[e,ej]at c9;exact⟨lb,lo,_,ln',lc',e0.1.trans e8,by omega,x1,e.trans ej,_,rfl,⟨hlb,c9⟩,⟨hb,t0⟩,⟨hb,t1⟩,⟨hb,t2⟩,⟨hb,t3⟩,⟨hb,t4⟩,⟨hb,t5⟩,trivial⟩
 have y1:Hid (∀i,i<m->ypv w x (.agg #[.slice la ll lcp,.slice (some ⟨b,off,none⟩) x.length cap2]) K ao i (l.getD i noS)):=by rw[hm];exact hl
 have D0:Hid (∀i,G i=Fl.ofOne K x ((Fl.nth x k).list.getD i 0) (l.getD i noS)):=λi=>by rw[hG]
 have HX:=Zz hx;clear hl d1 h v1 hm hG b1 L1 hx
 cases h7:((Fl.nth x k).kind==7)
 ·have b7:((Fl.nth x k).kind !=7)=true:=by rw[bne,h7];rfl
  rw[zxw,h7,Bool.false_and];clear HN D0 h7;generalize Fl.nth x k=n at*
  go_enter func20,ntmps20
  go_wp2;go_ret;exact⟨rfl,M0.out _ _⟩
 have b7:((Fl.nth x k).kind !=7)=false:=by rw[bne,h7];rfl
 rw[zxw,h7,Bool.true_and]
 by_cases hlen:(Fl.nth x k).list.length=m
 rotate_left
 ·have b8:(((Fl.nth x k).list.length:Int) !=(m:Int))=true:=by rw[bne_iff_ne];omega
  rw[decide_eq_false hlen,Bool.false_and];clear HN D0 h7 hlen;generalize Fl.nth x k=n at*
  go_enter func20,ntmps20
  go_wp2;go_ret;exact⟨rfl,M0.out _ _⟩
 rw[hlen]at c5
 have b8:(((m:Nat):Int) !=(m:Int))=false:=by simp
 have e1:Hid _:=HN.out (by simpa using h7) hlen;rw[decide_eq_true hlen,Bool.true_and];obtain⟨res,m0⟩:=nmE ((List.range m).all G);rw[<-m0]
 have i0:Hid (∀i,i<m->G i=false->res=false):=λi hi hg=>by rw[m0];exact List.all_eq_false.2 ⟨i,List.mem_range.2 hi,by rw[hg];simp⟩
 have q0:Hid ((∀i,i<m->G i=true)->res=true):=λhh=>by rw[m0];exact List.all_eq_true.2 λi hi=>hh i (List.mem_range.1 hi)
 obtain⟨q,hq⟩:=nmE ((Fl.nth x k).list);rw[<-hq]at e1 D0;clear HN h7 hlen m0 hq;generalize Fl.nth x k=n at*
 go_enter func20,ntmps20
 go_wp2_with fail
 obtain⟨W0,N0⟩:=nmE ((w.alloc (.cells #[.slice la ll lcp,.slice (some ⟨b,off,none⟩) x.length cap2] 33)).alloc (.cells #[.int .i64 n.kind,.int .i64 n.level,.int .i64 n.a,.int .i64 n.b,.int .i64 n.c,.slice ln m lc] 59))
 have A1:Hid (Below w.heap.size w W0):=by show Below _ _ _;rw[N0];exact M0.out _ _
 have B1:Hid (At W0 [(⟨w.heap.size,0,none⟩,.slice la ll lcp),(⟨w.heap.size,1,none⟩,.slice (some ⟨b,off,none⟩) x.length cap2),(⟨w.heap.size+1,5,none⟩,.slice ln m lc)]):=by rw[N0];exact⟨⟨by simp;omega,by simp⟩,⟨by simp;omega,by simp⟩,⟨by simp,by simp⟩,trivial⟩
 rw[<-N0];clear N0 c0 c1 c2 c3 c4 c5 M0 hbz
 go_loopw [8] (λi wr=>Below w.heap.size w wr/\At wr [(⟨w.heap.size,0,none⟩,.slice la ll lcp),(⟨w.heap.size,1,none⟩,.slice (some ⟨b,off,none⟩) x.length cap2),(⟨w.heap.size+1,5,none⟩,.slice ln m lc)]/\∃j:Nat,j<=m/\i=.int .i64 j/\∀q,q<j->G q=true) (λi _=>m - (intOf i).toNat)
 case atStart=>exact⟨A1.out,B1.out,0,by omega,rfl,λq hq=>by omega⟩
 case round=>
  obtain⟨hB,C1,i,hi,rfl,hall⟩:=hrel;have HB:=Zz hB;have D1:=Zz C1;have x0:=Zz hall;clear hB C1 hall A1 B1
  by_cases g1:i<m
  ·obtain⟨lb,lo,j,lnj,lcj,rfl,V1,hj,E1,nj,E0,F1⟩:=e1.out i g1
   obtain⟨sb,ba,bn,bc,oa,on,oc,rfl,O0,h1,i1,j1⟩:=y1.out i g1;have P0:=D0.out i;rw[E1]at P0;obtain⟨s,hs⟩:=nmE (l.getD i noS);rw[<-hs]at P0 O0 h1 i1 j1;obtain⟨g3,g5,g6⟩:=yk5 K x j s;rw[<-P0,<-E0]at g3 g5 g6;obtain⟨sk,G1⟩:=nmE (α:=Int) ((s.kind:Int));rw[<-G1]at g3 g5 g6 O0;have B0:Hid (sk=3\/sk=4->G i=(nj.kind==sk && (Fl.ofExpr x nj.b s.e && nj.a==(s.x:Int)))):=λhh=>g3 (by omega);have F0:Hid (sk=5->G i=(nj.kind==sk && (Fl.ofExpr x nj.a s.e && K nj.b s.body && K nj.c s.other))):=λhh=>g5 (by omega);have G0:Hid (sk=6->G i=(nj.kind==sk && (Fl.ofExpr x nj.a s.e && K nj.b s.body))):=λhh=>g6 (by omega)
   have Q0:Hid ((nj.kind==sk)=false->G i=false):=λhh=>by
    rcases h1 with h9|h9|h9|h9
    ·rw[B0.out (by omega),hh];rfl
    ·rw[B0.out (by omega),hh];rfl
    ·rw[F0.out (by omega),hh];rfl
    ·rw[G0.out (by omega),hh];rfl
   have R0:Hid (sk=3\/sk=4\/sk=5\/sk=6):=(by show _\/_;omega);have H0:=Zz i1;have S0:=Zz j1;have T0:Hid (nj.kind=3\/nj.kind=4->Ji x nj.b):=(by rw[E0];exact HX.out.k3 j hj);have I0:Hid (nj.kind=5\/nj.kind=6->Ji x nj.a/\Ji x nj.b):=(by rw[E0];exact HX.out.k5 j hj);have U0:Hid (nj.kind=5->Ji x nj.c):=(by rw[E0];exact HX.out.k6 j hj);have P1:(i:Int)<(m:Int):=(by omega);have r0:Hid (G i=false->res=false):=i0.out i g1
   have l1:Hid (G i=true->∀q,q<i+1->G q=true):=λh0 q hq=>by
    by_cases Q1:q=i
    ·rw[Q1];exact h0
    ·exact x0.out q (by omega)
   obtain⟨⟨-,a0⟩,⟨-,a1⟩,⟨-,a2⟩,⟨-,a3⟩,⟨-,a4⟩,⟨-,a5⟩,⟨-,a6⟩,⟨-,a7⟩,⟨-,a8⟩,⟨-,a9⟩,-⟩:=O0.below HB.out;have H1:Hid (At wr ((⟨lb,lo+i,none⟩,.int .i64 (j:Int))::(⟨b,off+j*6,none⟩,.int .i64 nj.kind)::(⟨b,off+j*6+1,none⟩,.int .i64 nj.level)::(⟨b,off+j*6+2,none⟩,.int .i64 nj.a)::(⟨b,off+j*6+3,none⟩,.int .i64 nj.b)::(⟨b,off+j*6+4,none⟩,.int .i64 nj.c)::(⟨b,off+j*6+5,none⟩,.slice lnj nj.list.length lcj)::[(⟨w.heap.size,0,none⟩,.slice la ll lcp),(⟨w.heap.size,1,none⟩,.slice (some ⟨b,off,none⟩) x.length cap2),(⟨w.heap.size+1,5,none⟩,.slice (some ⟨lb,lo,none⟩) m lc)])):=by
    obtain⟨k0,k1,k2,k3,k4,k5,k6,-⟩:=F1.below HB.out;exact⟨k0,k1,k2,k3,k4,k5,k6,D1.out⟩
   have V0:Hid (At _ _):=H1.out.stmt (.int .i64 sk) (.int .i64 (s.x:Int)) (.int .i64 (s.line:Int)) (.int .i64 s.e.op) (.bool s.e.a.var) (.int .i64 (s.e.a.v:Int)) (.bool s.e.b.var) (.int .i64 (s.e.b.v:Int)) (.slice ba bn bc) (.slice oa on oc) 86 wr.heap.size rfl;clear F1 O0 P0 hs h1 i1 j1 g3 g5 g6 G1 E0 E1 x0 i0 q0 e1 y1 D0 HX hj
   go_upto_region 8 with fail
   obtain⟨W4,X0⟩:=nmE (wr.alloc (.cells #[.int .i64 sk,.int .i64 (s.x:Int),.int .i64 (s.line:Int),.int .i64 s.e.op,.bool s.e.a.var,.int .i64 (s.e.a.v:Int),.bool s.e.b.var,.int .i64 (s.e.b.v:Int),.slice ba bn bc,.slice oa on oc] 86));obtain⟨N1,m1⟩:=nmE (wr.heap.size);have n1:Hid (Below w.heap.size w W4):=(by show Below _ _ _;rw[X0];exact HB.out.alloc HB.out.size _);rw[<-X0,<-m1]at V0;rw[<-X0,<-m1]
   have HS:Hid (∀W,Below W4.heap.size W4 W->At W [(⟨lb,lo+i,none⟩,.int .i64 (j:Int)),(⟨b,off+j*6,none⟩,.int .i64 nj.kind),(⟨b,off+j*6+1,none⟩,.int .i64 nj.level),(⟨b,off+j*6+2,none⟩,.int .i64 nj.a),(⟨b,off+j*6+3,none⟩,.int .i64 nj.b),(⟨b,off+j*6+4,none⟩,.int .i64 nj.c),(⟨b,off+j*6+5,none⟩,.slice lnj nj.list.length lcj),(⟨w.heap.size,1,none⟩,.slice (some ⟨b,off,none⟩) x.length cap2),(⟨w.heap.size+1,5,none⟩,.slice (some ⟨lb,lo,none⟩) m lc)]):=λW hW=>by
    obtain⟨-,-,-,-,-,-,-,-,-,-,k0,k1,k2,k3,k4,k5,k6,-,k7,k8,-⟩:=V0.out.below hW;exact⟨k0,k1,k2,k3,k4,k5,k6,k7,k8,trivial⟩
   clear X0 m1 a0 a1 a2 a3 a4 a5 a6 a7 a8 a9 D1 HB H1;refine Zn HS ((Below.refl _ _).drew) [9] [10] [] (by kernel_rfl) (λc a d v w h=>by cases d<;>exact h) (λops hG=>?_);clear hG
   iterate 9 refine Zw rfl (by rintro _ ⟨⟨-,_⟩,⟨-,_⟩,⟨-,_⟩,⟨-,_⟩,⟨-,_⟩,⟨-,_⟩,⟨-,_⟩,⟨-,_⟩,⟨-,_⟩,-⟩;go_simp<;>rfl) (by go_simp<;>rfl) ?_
   refine Zk ?_
   go_wp2_with fail
   refine⟨HS.out _ (bA).drew,?_⟩;refine Xm ?_
   go_wp2_with fail
   refine Zs ?_;clear HS;obtain⟨W5,Y0⟩:=nmE ((W4.alloc (.cells #[.int .i64 nj.kind,.int .i64 nj.level,.int .i64 nj.a,.int .i64 nj.b,.int .i64 nj.c,.slice lnj nj.list.length lcj] 59)).drew);obtain⟨N2,o1⟩:=nmE (W4.heap.size);have l0:Hid (Below w.heap.size w W5):=(by show Below _ _ _;rw[Y0];exact(n1.out.alloc n1.out.size _).drew);have h5:=(V0.out.node nj.kind nj.level nj.a nj.b nj.c (.slice lnj nj.list.length lcj) 59 N2 o1.symm).below (Below.refl _ _).drew;rw[<-Y0]at h5;have Z0:=Zz h5;clear h5;rw[<-Y0,<-o1];clear Y0 o1 V0 n1;obtain⟨⟨-,n0⟩,-,⟨-,n2⟩,⟨-,n3⟩,⟨-,n4⟩,-,⟨-,s0⟩,⟨-,s1⟩,-,⟨-,s3⟩,⟨-,s4⟩,⟨-,s5⟩,⟨-,s6⟩,⟨-,s7⟩,⟨-,s8⟩,⟨-,s9⟩,-,-,-,-,-,-,-,⟨-,f0⟩,⟨-,f1⟩,-⟩:=Z0.out
   cases hq:(nj.kind==sk)
   ·have HR:Hid (res=false):=r0.out (Q0.out hq)
    go_wp2;go_ret;exact⟨cbE HR.out,l0.out⟩
   have p1:nj.kind=sk:=(by simpa using hq);rcases R0.out with h9|h9|h9|h9
   iterate 2
    ·have u0:=T0.out (by omega)
     have HG:Hid (G i=(Fl.ofExpr x nj.b s.e && nj.a==(s.x:Int))):=(by show _=_;rw[B0.out (by omega),hq,Bool.true_and]);have v0:Hid (∀W,Below w.heap.size w W->_):=λW hW=>A0.out W hW nj.b u0 s.e;generalize Fl.ofExpr x nj.b s.e=r1 at HG v0;subst h9;clear R0 Q0 B0 F0 G0 T0 I0 U0 H0 S0 u0 p1 A0
     go_wp2_with fail
     refine(v0.out _ l0.out).mono ?_;rintro e w1 ⟨rfl,j0⟩;have d0:Hid (At _ _):=Z0.out.below j0;have b0:Hid (Below w.heap.size w w1):=l0.out.trans (j0.mono l0.out.size);clear n0 n2 n3 n4 s0 s1 s3 s4 s5 s6 s7 s8 s9 f0 f1 j0;obtain⟨⟨-,n0⟩,-,⟨-,n2⟩,⟨-,n3⟩,⟨-,n4⟩,-,⟨-,s0⟩,⟨-,s1⟩,-,⟨-,s3⟩,⟨-,s4⟩,⟨-,s5⟩,⟨-,s6⟩,⟨-,s7⟩,⟨-,s8⟩,⟨-,s9⟩,-,-,-,-,-,-,-,z0,z1,z2,-⟩:=d0.out;have f0:=z0.2;have f1:=z1.2;have J0:Hid (At w1 [(⟨w.heap.size,0,none⟩,.slice la ll lcp),(⟨w.heap.size,1,none⟩,.slice (some ⟨b,off,none⟩) x.length cap2),(⟨w.heap.size+1,5,none⟩,.slice (some ⟨lb,lo,none⟩) m lc)]):=⟨z0,z1,z2,trivial⟩;clear z0 z1 z2
     cases r1
     ·have HR:Hid (res=false):=r0.out (by rw[HG.out];rfl)
      go_wp2;go_ret;exact⟨cbE HR.out,b0.out⟩
     cases I1:(nj.a==(s.x:Int))
     ·have HR:Hid (res=false):=r0.out (by rw[HG.out,I1];rfl)
      go_wp2;go_ret;exact⟨cbE HR.out,b0.out⟩
     ·have HR:Hid (∀q,q<i+1->G q=true):=l1.out (by rw[HG.out,I1];rfl)
      go_wp2
      go_roundw
      case rel=>exact⟨b0.out,J0.out,i+1,by omega,by go_num,HR.out⟩
      case measure=>simp[intOf];omega
   ·obtain⟨K0,u0⟩:=I0.out (by omega)
    have J1:=U0.out (by omega);have HG:Hid (G i=(Fl.ofExpr x nj.a s.e && K nj.b s.body && K nj.c s.other)):=(by show _=_;rw[F0.out h9,hq,Bool.true_and]);have v0:Hid (∀W,Below w.heap.size w W->_):=λW hW=>A0.out W hW nj.a K0 s.e;have L0:Hid (∀W,Below w.heap.size w W->Calls prog 20 #[.agg #[.slice la ll lcp,.slice (some ⟨b,off,none⟩) x.length cap2],.int .i64 nj.b,.slice ba bn bc] W λe w'=>e=.returned (.bool (K nj.b s.body))/\Below W.heap.size W w'):=λW hW=>H0.out W hW nj.b u0;have K1:Hid (∀W,Below w.heap.size w W->Calls prog 20 #[.agg #[.slice la ll lcp,.slice (some ⟨b,off,none⟩) x.length cap2],.int .i64 nj.c,.slice oa on oc] W λe w'=>e=.returned (.bool (K nj.c s.other))/\Below W.heap.size W w'):=λW hW=>S0.out W hW nj.c J1;generalize Fl.ofExpr x nj.a s.e=r1 at HG v0;generalize K nj.b s.body=r2 at HG L0;generalize K nj.c s.other=r3 at HG K1;subst h9;clear R0 Q0 B0 F0 G0 T0 I0 U0 H0 S0 K0 u0 J1 p1 A0
    go_wp2_with fail
    refine(v0.out _ l0.out).mono ?_;rintro e w1 ⟨rfl,j0⟩;have d0:Hid (At _ _):=Z0.out.below j0;have b0:Hid (Below w.heap.size w w1):=l0.out.trans (j0.mono l0.out.size);clear n0 n2 n3 n4 s0 s1 s3 s4 s5 s6 s7 s8 s9 f0 f1 j0;obtain⟨⟨-,n0⟩,-,⟨-,n2⟩,⟨-,n3⟩,⟨-,n4⟩,-,⟨-,s0⟩,⟨-,s1⟩,-,⟨-,s3⟩,⟨-,s4⟩,⟨-,s5⟩,⟨-,s6⟩,⟨-,s7⟩,⟨-,s8⟩,⟨-,s9⟩,-,-,-,-,-,-,-,z0,z1,z2,-⟩:=d0.out;have f0:=z0.2;have f1:=z1.2
    go_wp2_with fail
    refine(L0.out _ b0.out).mono ?_;rintro e w2 ⟨rfl,y0⟩;have o0:Hid (At _ _):=d0.out.below y0;have g0:Hid (Below w.heap.size w w2):=b0.out.trans (y0.mono b0.out.size);clear n0 n2 n3 n4 s0 s1 s3 s4 s5 s6 s7 s8 s9 f0 f1 y0;obtain⟨⟨-,n0⟩,-,⟨-,n2⟩,⟨-,n3⟩,⟨-,n4⟩,-,⟨-,s0⟩,⟨-,s1⟩,-,⟨-,s3⟩,⟨-,s4⟩,⟨-,s5⟩,⟨-,s6⟩,⟨-,s7⟩,⟨-,s8⟩,⟨-,s9⟩,-,-,-,-,-,-,-,z0,z1,z2,-⟩:=o0.out;have f0:=z0.2;have f1:=z1.2
    go_wp2_with fail
    refine(K1.out _ g0.out).mono ?_;rintro e w3 ⟨rfl,q1⟩;have u1:Hid (At _ _):=o0.out.below q1;have p0:Hid (Below w.heap.size w w3):=g0.out.trans (q1.mono g0.out.size);clear n0 n2 n3 n4 s0 s1 s3 s4 s5 s6 s7 s8 s9 f0 f1 q1;obtain⟨⟨-,n0⟩,-,⟨-,n2⟩,⟨-,n3⟩,⟨-,n4⟩,-,⟨-,s0⟩,⟨-,s1⟩,-,⟨-,s3⟩,⟨-,s4⟩,⟨-,s5⟩,⟨-,s6⟩,⟨-,s7⟩,⟨-,s8⟩,⟨-,s9⟩,-,-,-,-,-,-,-,z0,z1,z2,-⟩:=u1.out;have f0:=z0.2;have f1:=z1.2;have J0:Hid (At w3 [(⟨w.heap.size,0,none⟩,.slice la ll lcp),(⟨w.heap.size,1,none⟩,.slice (some ⟨b,off,none⟩) x.length cap2),(⟨w.heap.size+1,5,none⟩,.slice (some ⟨lb,lo,none⟩) m lc)]):=⟨z0,z1,z2,trivial⟩;clear z0 z1 z2
    cases r1
    ·have HR:Hid (res=false):=r0.out (by rw[HG.out];rfl)
     go_wp2;go_ret;exact⟨cbE HR.out,p0.out⟩
    cases r2
    ·have HR:Hid (res=false):=r0.out (by rw[HG.out];rfl)
     go_wp2;go_ret;exact⟨cbE HR.out,p0.out⟩
    cases r3
    ·have HR:Hid (res=false):=r0.out (by rw[HG.out];rfl)
     go_wp2;go_ret;exact⟨cbE HR.out,p0.out⟩
    ·have HR:Hid (∀q,q<i+1->G q=true):=l1.out (by rw[HG.out];rfl)
     go_wp2
     go_roundw
     case rel=>exact⟨p0.out,J0.out,i+1,by omega,by go_num,HR.out⟩
     case measure=>simp[intOf];omega
   ·obtain⟨K0,u0⟩:=I0.out (by omega)
    have HG:Hid (G i=(Fl.ofExpr x nj.a s.e && K nj.b s.body)):=(by show _=_;rw[G0.out h9,hq,Bool.true_and]);have v0:Hid (∀W,Below w.heap.size w W->_):=λW hW=>A0.out W hW nj.a K0 s.e;have L0:Hid (∀W,Below w.heap.size w W->Calls prog 20 #[.agg #[.slice la ll lcp,.slice (some ⟨b,off,none⟩) x.length cap2],.int .i64 nj.b,.slice ba bn bc] W λe w'=>e=.returned (.bool (K nj.b s.body))/\Below W.heap.size W w'):=λW hW=>H0.out W hW nj.b u0;generalize Fl.ofExpr x nj.a s.e=r1 at HG v0;generalize K nj.b s.body=r2 at HG L0;subst h9;clear R0 Q0 B0 F0 G0 T0 I0 U0 H0 S0 K0 u0 p1 A0
    go_wp2_with fail
    refine(v0.out _ l0.out).mono ?_;rintro e w1 ⟨rfl,j0⟩;have d0:Hid (At _ _):=Z0.out.below j0;have b0:Hid (Below w.heap.size w w1):=l0.out.trans (j0.mono l0.out.size);clear n0 n2 n3 n4 s0 s1 s3 s4 s5 s6 s7 s8 s9 f0 f1 j0;obtain⟨⟨-,n0⟩,-,⟨-,n2⟩,⟨-,n3⟩,⟨-,n4⟩,-,⟨-,s0⟩,⟨-,s1⟩,-,⟨-,s3⟩,⟨-,s4⟩,⟨-,s5⟩,⟨-,s6⟩,⟨-,s7⟩,⟨-,s8⟩,⟨-,s9⟩,-,-,-,-,-,-,-,z0,z1,z2,-⟩:=d0.out;have f0:=z0.2;have f1:=z1.2
    go_wp2_with fail
    refine(L0.out _ b0.out).mono ?_;rintro e w2 ⟨rfl,y0⟩;have o0:Hid (At _ _):=d0.out.below y0;have g0:Hid (Below w.heap.size w w2):=b0.out.trans (y0.mono b0.out.size);clear n0 n2 n3 n4 s0 s1 s3 s4 s5 s6 s7 s8 s9 f0 f1 y0;obtain⟨⟨-,n0⟩,-,⟨-,n2⟩,⟨-,n3⟩,⟨-,n4⟩,-,⟨-,s0⟩,⟨-,s1⟩,-,⟨-,s3⟩,⟨-,s4⟩,⟨-,s5⟩,⟨-,s6⟩,⟨-,s7⟩,⟨-,s8⟩,⟨-,s9⟩,-,-,-,-,-,-,-,z0,z1,z2,-⟩:=o0.out;have f0:=z0.2;have f1:=z1.2;have J0:Hid (At w2 [(⟨w.heap.size,0,none⟩,.slice la ll lcp),(⟨w.heap.size,1,none⟩,.slice (some ⟨b,off,none⟩) x.length cap2),(⟨w.heap.size+1,5,none⟩,.slice (some ⟨lb,lo,none⟩) m lc)]):=⟨z0,z1,z2,trivial⟩;clear z0 z1 z2
    cases r1
    ·have HR:Hid (res=false):=r0.out (by rw[HG.out];rfl)
     go_wp2;go_ret;exact⟨cbE HR.out,g0.out⟩
    cases r2
    ·have HR:Hid (res=false):=r0.out (by rw[HG.out];rfl)
     go_wp2;go_ret;exact⟨cbE HR.out,g0.out⟩
    ·have HR:Hid (∀q,q<i+1->G q=true):=l1.out (by rw[HG.out];rfl)
     go_wp2
     go_roundw
     case rel=>exact⟨g0.out,J0.out,i+1,by omega,by go_num,HR.out⟩
     case measure=>simp[intOf];omega
  ·have P1:¬(i:Int)<(m:Int):=by omega
   have HR:Hid (res=true):=q0.out λq hq=>x0.out q (by omega);go_wp2;go_ret;exact⟨cbE HR.out,HB.out⟩
end Go.Proofs.YtaaejabalinojaaGreatDoor
