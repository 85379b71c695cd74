import Derived.Test.YtaaejabalinojaaGreatDoorM08
import Derived.Deep.DeepCutAuto
set_option linter.all false
set_option maxRecDepth 100000
set_option maxHeartbeats 40000000
namespace Go.Proofs.YtaaejabalinojaaGreatDoor
open Go.RowKit Go.Proofs.Tryz
section
variable{w:World}{Pb Lq:Nat}{rb:Nat->Nat}{clv hv bv lv nv:Value}{p:Fl.Prog}{ls:List Int}{x:List Fl.Node}
def zt7(one:Bool)(G:Nat->Bool):Nat->Bool
 |0=>one
 |i+1=>zt7 one G i && G i
def ys4{k:Int}(h:0<=k/\k<=7):decide (Fl.role k=2)=(k==7):=by
 unfold Fl.role
 by_cases h1:k<=2
 ·rw[if_pos h1];symm;simp;omega
 by_cases h2:k<=6
 ·rw[if_neg h1,if_pos h2];symm;simp;omega
 rw[if_neg h1,if_neg h2];symm;simp;omega
def Vb(n:Fl.Node)(i:Nat):Int:=if i=0 then n.b else n.c
def Un(p:Fl.Prog)(x:List Fl.Node)(lvl lA:Nat)(q:Int):Bool:=(Fl.nd x q).kind==7 && p.leq lvl (Fl.nd x q).level.toNat && p.leq lA (Fl.nd x q).level.toNat
def zo7{n:Fl.Node}{q:Int}{lvl lA:Nat}{one:Bool}(h1:decide (Fl.role (Fl.nd x n.a).kind=0)=one)(h2:(Fl.nd x n.a).level=(lA:Int))(h3:n.level=(lvl:Int))(hq:POk p x q):Fl.guards p x n q=(one && Un p x lvl lA q):=by
 unfold Fl.guards Un Fl.under;rw[h1,h2,h3,ys4 hq.2.2.2.2];simp only[Int.toNat_natCast]
 cases one<;>cases (Fl.nd x q).kind==7<;>cases p.leq lvl (Fl.nd x q).level.toNat<;>cases p.leq lA (Fl.nd x q).level.toNat<;>rfl
def yxz(h:Jx w Pb Lq rb clv hv bv lv nv p ls x)(k:Nat)(hk:k<x.length)(ho:zw5 p x (Fl.nth x k))(N0:∀y∈Fl.vars p ls,0<=y/\y<p.n)(O0:∀y∈p.chans,y<p.n)(h0:(Fl.nth x k).level<p.n)(P0:(Fl.nth x k).a<2147483648)(g0:(Fl.nth x k).kind=5):
  Calls prog 19 #[.pointer (some ⟨Pb,0,none⟩),.agg #[lv,nv],.int .i64 k] w λe w'=>e=.returned (.bool (Fl.follows p ls x (Fl.nth x k)))/\Below w.heap.size w w':=by
 obtain⟨b,off,cap,lvl,la,ln,lcp,lc,hf⟩:=h.fw k hk ho.lv h0;obtain⟨rfl,rfl,hz,⟨l0,i0,j1⟩,⟨hbz,c0,c1,c2,c3,c4,c5,Q0⟩,o0,R0,F0⟩:=hf;have p0:=h.p0;have p1:=h.p1;have q1:=h.lq.c lvl l0
 have k1:(p.n:Int)<=6:=by have:=h.n6;omega
 have l1:(k:Int)<(x.length:Int):=by omega
 rw[<-i0]at c1;have S0:=F0 lvl l0;obtain⟨G0,q0⟩:=ho.k5 (.inl g0);have r0:=ho.k6 g0;obtain⟨A,lA,lnA,lcA,eA,hA,r1,eNA,eLA,x1,T0,⟨-,d0,d1,d2,d3,d4,d5,-⟩,dq,dr,dz⟩:=h.named o0 G0;obtain⟨one,h1⟩:∃v,v=decide ((Fl.nth x A).kind<=2):=⟨_,rfl⟩;have HE:Hid (Fl.follows p ls x (Fl.nth x k)=zt7 one (λi=>Un p x lvl lA (Vb (Fl.nth x k) i)) 2):=by
  show _=_;have g1:decide (Fl.role (Fl.nd x (Fl.nth x k).a).kind=0)=one:=(by rw[eNA,zv1,h1]);have g2:(Fl.nd x (Fl.nth x k).a).level=(lA:Int):=(by rw[eNA,eLA]);unfold Fl.follows Fl.ruleOf;rw[decide_eq_true h0,if_neg (by omega),if_neg (by omega),if_neg (by omega),if_neg (by omega),if_neg (by omega),if_pos g0,zo7 g1 g2 i0.symm q0,zo7 g1 g2 i0.symm r0];show _=(one && Un p x lvl lA (Fl.nth x k).b && Un p x lvl lA (Fl.nth x k).c)
  cases one<;>cases Un p x lvl lA (Fl.nth x k).b<;>cases Un p x lvl lA (Fl.nth x k).c<;>rfl
 have HN:Hid (∀i,i<2->∃(j l:Nat) (ln:Option Addr) (lc:Nat) (nj:Fl.Node) (v1 v2:Bool),Vb (Fl.nth x k) i=(j:Int)/\(j:Int)<(x.length:Int)/\l<p.n/\At w [(⟨b,off+j*6,none⟩,.int .i64 nj.kind),(⟨b,off+j*6+1,none⟩,.int .i64 (l:Int)),(⟨b,off+j*6+2,none⟩,.int .i64 nj.a),(⟨b,off+j*6+3,none⟩,.int .i64 nj.b),(⟨b,off+j*6+4,none⟩,.int .i64 nj.c),(⟨b,off+j*6+5,none⟩,.slice ln nj.list.length lc),(⟨rb lvl,l,none⟩,.bool v1),(⟨rb lA,l,none⟩,.bool v2)]/\Un p x lvl lA (Vb (Fl.nth x k) i)=(nj.kind==7 && v1 && v2)):=λi hi=>by
  have hp:POk p x (Vb (Fl.nth x k) i):=by
   unfold Vb
   split
   ·exact q0
   exact r0
  obtain⟨j,l,ln,lc,e1,e2,e3,e4,e5,e6,e7,⟨hb,t0,t1,t2,t3,t4,t5,-⟩,-,-,-⟩:=h.named o0 hp;rw[e5]at t1;refine⟨j,l,ln,lc,Fl.nth x j,p.leq lvl l,p.leq lA l,e1,e3,e6,⟨⟨hb,t0⟩,⟨hb,t1⟩,⟨hb,t2⟩,⟨hb,t3⟩,⟨hb,t4⟩,⟨hb,t5⟩,⟨S0,h.lq.r _ _ l0 e6⟩,⟨dz,dr _ e6⟩,trivial⟩,?_⟩;unfold Un;rw[e4,e5,Int.toNat_natCast]
 rw[eA]at c2;have HL:=Zz i0;have HK:=Zz g0;have HA:=Zz eA.symm;rw[eLA]at d1;obtain⟨res,j0⟩:=nmE (Fl.follows p ls x (Fl.nth x k));rw[<-j0]at HE⊢;obtain⟨G,hG⟩:=nmE (α:=Nat->Bool) (λi=>Un p x lvl lA (Vb (Fl.nth x k) i));obtain⟨bk,s0⟩:=nmE (α:=Nat->Int) (Vb (Fl.nth x k))
 have U0:Hid (∀i,i<2->∃(j l:Nat) (ln:Option Addr) (lc:Nat) (nj:Fl.Node) (v1 v2:Bool),bk i=(j:Int)/\(j:Int)<(x.length:Int)/\l<p.n/\At w [(⟨b,off+j*6,none⟩,.int .i64 nj.kind),(⟨b,off+j*6+1,none⟩,.int .i64 (l:Int)),(⟨b,off+j*6+2,none⟩,.int .i64 nj.a),(⟨b,off+j*6+3,none⟩,.int .i64 nj.b),(⟨b,off+j*6+4,none⟩,.int .i64 nj.c),(⟨b,off+j*6+5,none⟩,.slice ln nj.list.length lc),(⟨rb lvl,l,none⟩,.bool v1),(⟨rb lA,l,none⟩,.bool v2)]/\G i=(nj.kind==7 && v1 && v2)):=by rw[s0,hG];exact HN.out
 have u0:Hid (bk 0=(Fl.nth x k).b/\bk 1=(Fl.nth x k).c):=by rw[s0];exact⟨rfl,rfl⟩
 rw[<-hG]at HE;rw[g0]at c0;clear o0 h ho N0 O0 h0 g0 Q0 F0 i0 j0 P0 G0 q0 r0 eA eNA eLA dr HN hG s0;generalize Fl.nth x k=n at*;generalize Fl.nth x A=nA at*
 go_enter func19,ntmps19
 go_wp2_with fail
 refine Yz [] (by kernel_rfl) (by kernel_rfl) rfl (λops hG=>?_);clear hG
 iterate 7 still_step
 refine wpStill_nil ?_
 go_wp2_with fail
 refine Yz [] (by kernel_rfl) (by kernel_rfl) rfl (λops hG=>?_);clear hG
 iterate 9 still_step
 refine wpStill_nil ?_
 go_upto_region 29 with fail
 obtain⟨W0,v0⟩:=nmE (((w.alloc (.cells #[.slice la ls.length lcp,.slice (some ⟨b,off,none⟩) x.length cap] 33)).alloc (.cells #[.int .i64 5,.int .i64 (lvl:Int),.int .i64 (A:Int),.int .i64 n.b,.int .i64 n.c,.slice ln n.list.length lc] 59)).drew.drew);have HF:Hid (Jw w W0 (.slice la ls.length lcp) (.slice (some ⟨b,off,none⟩) x.length cap) (.slice ln n.list.length lc) n):=by
  have h9:=Jw.new w (.slice la ls.length lcp) (.slice (some ⟨b,off,none⟩) x.length cap) (.slice ln n.list.length lc) n;rw[HK.out,<-HL.out,<-HA.out,<-v0]at h9;exact h9
 rw[<-v0]
 have H0:Hid (At W0 [(⟨Pb,1,none⟩,.slice (some ⟨Lq,0,none⟩) p.n p.n),(⟨Lq,lA,none⟩,.slice (some ⟨rb lA,0,none⟩) p.n p.n),(⟨w.heap.size,1,none⟩,.slice (some ⟨b,off,none⟩) x.length cap),(⟨w.heap.size+1,0,none⟩,.int .i64 5),(⟨w.heap.size+1,3,none⟩,.int .i64 n.b),(⟨w.heap.size+1,4,none⟩,.int .i64 n.c)]):=
  ⟨⟨by have:=HF.out.sz.1;show Pb<_;omega,(HF.out.be.cell (p:=⟨Pb,1,none⟩) hz).trans p1⟩,⟨by have:=HF.out.sz.1;show Lq<_;omega,(HF.out.be.cell (p:=⟨Lq,lA,none⟩) R0).trans dq⟩,⟨HF.out.sz.1,HF.out.s1⟩,⟨HF.out.sz.2,by rw[<-HK.out];exact HF.out.t0⟩,⟨HF.out.sz.2,HF.out.t3⟩,⟨HF.out.sz.2,HF.out.t4⟩,trivial⟩
 have e0:=HF.out.be;have D0x:=(e0.cell (p:=⟨b,off+A*6,none⟩) hbz).trans d0;have D1x:=(e0.cell (p:=⟨b,off+A*6+1,none⟩) hbz).trans d1;have D2x:=(e0.cell (p:=⟨b,off+A*6+2,none⟩) hbz).trans d2;have D3x:=(e0.cell (p:=⟨b,off+A*6+3,none⟩) hbz).trans d3;have D4x:=(e0.cell (p:=⟨b,off+A*6+4,none⟩) hbz).trans d4;have D5x:=(e0.cell (p:=⟨b,off+A*6+5,none⟩) hbz).trans d5;obtain⟨s1,T2⟩:_/\_:=⟨HF.out.s1,HF.out.t2⟩;rw[<-HA.out]at T2;have V0:=HF.out.sz.1;have X0:=HF.out.sz.2
 have x0:b<W0.heap.size:=by omega
 have y0:=Zz e0;clear p0 p1 c0 c1 c2 c3 c4 c5 q1 v0 d0 d1 d2 d3 d4 d5 dq e0 HF hbz HA HL HK;have z0:Hid (At _ _):=H0.out.node nA.kind lA nA.a nA.b nA.c (.slice lnA nA.list.length lcA) 59 W0.heap.size rfl;have A0:Hid (∀o1,Below w.heap.size w (W0.alloc o1)):=λo1=>y0.out.alloc y0.out.size _;obtain⟨M,hM⟩:=nmE (W0.heap.size)
 go_wp2_with fail
 rw[<-hM]at z0⊢;refine(Jj _ _ _ _ _ _ _ _ _).mono ?_;rintro e w1 ⟨rfl,k0⟩;have B0:Hid (At _ _):=z0.out.below k0;have C0:Hid (Below w.heap.size w w1):=(A0.out _).trans (k0.mono (A0.out _).size);rw[<-h1];obtain⟨-,-,-,-,-,-,-,-,-,⟨-,v4⟩,⟨-,v5⟩,⟨-,v6⟩,-⟩:=B0.out
 have Y0:w.heap.size+1<w1.heap.size:=by have:=k0.size;rw[World.size_alloc]at this;omega
 clear h1 k0 D0x D1x D2x D3x D4x D5x s1 T2 z0 A0 H0 y0 hM V0 X0 x0
 go_wp2_with fail
 obtain⟨W3,f0⟩:=nmE (w1.alloc (.cells #[.int .i64 n.b,.int .i64 n.c] 3));obtain⟨N,hN⟩:=nmE (w1.heap.size)
 have D0:Hid (Below w1.heap.size w1 W3):=by show Below _ _ _;rw[f0];exact bA
 have I0:Hid (Below w.heap.size w W3):=C0.out.trans (D0.out.mono C0.out.size);have J0:Hid (At W3 [(⟨M,1,none⟩,.int .i64 (lA:Int)),(⟨Pb,1,none⟩,.slice (some ⟨Lq,0,none⟩) p.n p.n),(⟨Lq,lA,none⟩,.slice (some ⟨rb lA,0,none⟩) p.n p.n),(⟨w.heap.size,1,none⟩,.slice (some ⟨b,off,none⟩) x.length cap),(⟨N,0,none⟩,.int .i64 (bk 0)),(⟨N,1,none⟩,.int .i64 (bk 1))]):=by
  obtain⟨-,u1,-,-,-,-,u2,u3,u4,-⟩:=B0.out.below D0.out;refine⟨u1,u2,u3,u4,⟨by rw[f0,hN];simp,by rw[f0,hN,u0.out.1];simp⟩,⟨by rw[f0,hN];simp,by rw[f0,hN,u0.out.2];simp⟩,trivial⟩
 rw[<-f0,<-hN];clear f0 hN D0 C0 B0 v4 v5 v6 Y0 u0
 go_loopw [18,20] (λo i wr=>Below w.heap.size w wr/\At wr [(⟨M,1,none⟩,.int .i64 (lA:Int)),(⟨Pb,1,none⟩,.slice (some ⟨Lq,0,none⟩) p.n p.n),(⟨Lq,lA,none⟩,.slice (some ⟨rb lA,0,none⟩) p.n p.n),(⟨w.heap.size,1,none⟩,.slice (some ⟨b,off,none⟩) x.length cap),(⟨N,0,none⟩,.int .i64 (bk 0)),(⟨N,1,none⟩,.int .i64 (bk 1))]/\∃j:Nat,j<=2/\i=.int .i64 j/\o=.bool (zt7 one G j)) (λ_ i _=>2 - (intOf i).toNat)
 case atStart=>exact⟨I0.out,J0.out,0,by omega,rfl,rfl⟩
 case round=>
  obtain⟨hB,K0,i,hi,rfl,rfl⟩:=hrel;have HB:=Zz hB;have E0:=Zz K0;clear hB K0 I0 J0
  by_cases h0:i<2
  ·obtain⟨j,l,lnj,lcj,nj,v1,v2,hq,y1,hl,L0,hg⟩:=U0.out i h0
   have HG:Hid (zt7 one G (i+1)=(zt7 one G i && (nj.kind==7 && v1 && v2))):=(by show (_ && _)=_;rw[hg]);obtain⟨⟨m0,m1⟩,⟨b2,m2⟩,⟨b3,m3⟩,⟨m5,m4⟩,⟨n0,n1⟩,⟨-,n2⟩,-⟩:=E0.out;have z1:(l:Int)<(p.n:Int):=(by omega);have M0:=HB.out;obtain⟨⟨b0,a0⟩,⟨-,a1⟩,⟨-,a2⟩,⟨-,a3⟩,⟨-,a4⟩,⟨-,a5⟩,⟨b6,a6⟩,⟨b7,a7⟩,-⟩:=L0.below M0;have cq:wr.cell? ⟨N,i,none⟩=some (.int .i64 (j:Int)):=by
    rw[<-hq];rcases(show i=0\/i=1 by omega) with rfl|rfl
    ·exact n1
    exact n2
   have A1:(i:Int)<2:=(by omega);have hM:M<wr.heap.size:=m0;have Z0:w.heap.size<wr.heap.size:=m5;have B1:Pb<wr.heap.size:=b2;have b1:N<wr.heap.size:=n0;have hbz:b<wr.heap.size:=b0;have C1:Lq<wr.heap.size:=b3;have D1:rb lvl<wr.heap.size:=b6;have E1:rb lA<wr.heap.size:=b7;generalize zt7 one G i=oi at*;clear hq hg L0 n1 n2 M0 m0 m5 b2 b3 b6 b7 n0 b0;have HS:Hid (∀W,Below wr.heap.size wr W->At W [(⟨w.heap.size,1,none⟩,.slice (some ⟨b,off,none⟩) x.length cap),(⟨N,i,none⟩,.int .i64 (j:Int)),(⟨b,off+j*6,none⟩,.int .i64 nj.kind),(⟨b,off+j*6+1,none⟩,.int .i64 (l:Int)),(⟨b,off+j*6+2,none⟩,.int .i64 nj.a),(⟨b,off+j*6+3,none⟩,.int .i64 nj.b),(⟨b,off+j*6+4,none⟩,.int .i64 nj.c),(⟨b,off+j*6+5,none⟩,.slice lnj nj.list.length lcj)]):=λW hW=>At.below hW ⟨⟨Z0,m4⟩,⟨b1,cq⟩,⟨hbz,a0⟩,⟨hbz,a1⟩,⟨hbz,a2⟩,⟨hbz,a3⟩,⟨hbz,a4⟩,⟨hbz,a5⟩,trivial⟩;have f1:Hid (∀o,Below w.heap.size w (wr.alloc o).drew.drew):=λo=>(HB.out.alloc HB.out.size _).drew.drew;have i1:Hid (∀o,At (wr.alloc o).drew.drew _):=λo=>E0.out.below (((Below.refl _ _).alloc (Nat.le_refl _) o).drew.drew)
   go_wp2_with fail
   refine Zn HS ((Below.refl _ _).drew) [8] [9] [] (by kernel_rfl) (λc a d v w h=>by cases d<;>exact h) (λops hG=>?_);clear hG
   iterate 8 refine Zw rfl (by rintro _ ⟨⟨-,_⟩,⟨-,_⟩,⟨-,_⟩,⟨-,_⟩,⟨-,_⟩,⟨-,_⟩,⟨-,_⟩,⟨-,_⟩,-⟩;go_simp<;>rfl) (by go_simp<;>rfl) ?_
   refine Zk ?_
   go_wp2_with fail
   refine⟨HS.out _ (bA).drew,?_⟩;refine Xm ?_
   go_wp2_with fail
   refine Zs ?_
   go_wp2_with fail
   have hc:oi=false\/(oi=true/\(nj.kind==7)=false)\/(oi=true/\(nj.kind==7)=true/\v1=false)\/(oi=true/\(nj.kind==7)=true/\v1=true):=by
    cases oi<;>cases nj.kind==7<;>cases v1<;>simp
   clear HB E0 cq a0 a1 a2 a3 a4 a5 m4 HS;rcases hc with rfl|⟨rfl,h7⟩|⟨rfl,h7,rfl⟩|⟨rfl,h7,rfl⟩
   all_goals
    refine Yz [(1,221),(6,226),(13,233)] (by kernel_rfl) (by kernel_rfl) rfl (λops hG=>?_);have g1:=hG (1,221) (by simp);have g2:=hG (6,226) (by simp);have g3:=hG (13,233) (by simp);simp only at g1 g2 g3;clear hG
    iterate 28 still_step
    refine wpStill_nil ?_;go_wp2
    go_roundw
    case rel=>exact⟨f1.out _,i1.out _,i+1,by omega,by go_num,congrArg Value.bool (by rw[HG.out];first|simp;done|simp[h7])⟩
    case measure=>simp[intOf];omega
  obtain rfl:i=2:=by omega
  rw[<-HE.out];go_wp2;go_ret;exact⟨rfl,HB.out⟩
end
section
variable{w:World}{Pb Lq:Nat}{rb:Nat->Nat}{clv hv bv lv nv:Value}{p:Fl.Prog}{ls:List Int}{x:List Fl.Node}
def zhx(h:Jx w Pb Lq rb clv hv bv lv nv p ls x)(k:Nat)(hk:k<x.length)(ho:zw5 p x (Fl.nth x k))(M0:∀y∈Fl.vars p ls,0<=y/\y<p.n)(N0:∀y∈p.chans,y<p.n)(g0:(Fl.nth x k).level<p.n)(O0:(Fl.nth x k).a<2147483648)(h0:(Fl.nth x k).kind=6):
  Calls prog 19 #[.pointer (some ⟨Pb,0,none⟩),.agg #[lv,nv],.int .i64 k] w λe w'=>e=.returned (.bool (Fl.follows p ls x (Fl.nth x k)))/\Below w.heap.size w w':=by
 obtain⟨b,off,cap,lvl,la,ln,lcp,lc,hf⟩:=h.fw k hk ho.lv g0;obtain⟨rfl,rfl,hz,⟨l0,j0,i1⟩,⟨hbz,c0,c1,c2,c3,c4,c5,P0⟩,o0,Q0,E0⟩:=hf;have p0:=h.p0;have p1:=h.p1;have q1:=h.lq.c lvl l0
 have j1:(p.n:Int)<=6:=by have:=h.n6;omega
 have k1:(k:Int)<(x.length:Int):=by omega
 rw[<-j0]at c1;have R0:=E0 lvl l0;obtain⟨F0,q0⟩:=ho.k5 (.inr h0);obtain⟨A,lA,lnA,lcA,eA,hA,l1,eNA,eLA,r1,S0,⟨-,d0,d1,d2,d3,d4,d5,-⟩,dq,dr,dz⟩:=h.named o0 F0;obtain⟨one,h1⟩:∃v,v=decide ((Fl.nth x A).kind<=2):=⟨_,rfl⟩;have HE:Hid (Fl.follows p ls x (Fl.nth x k)=zt7 one (λi=>Un p x lvl lA (Vb (Fl.nth x k) i)) 1):=by
  show _=_;have g1:decide (Fl.role (Fl.nd x (Fl.nth x k).a).kind=0)=one:=(by rw[eNA,zv1,h1]);have g2:(Fl.nd x (Fl.nth x k).a).level=(lA:Int):=(by rw[eNA,eLA]);unfold Fl.follows Fl.ruleOf;rw[decide_eq_true g0,if_neg (by omega),if_neg (by omega),if_neg (by omega),if_neg (by omega),if_neg (by omega),if_neg (by omega),if_pos h0,zo7 g1 g2 j0.symm q0];show _=(one && Un p x lvl lA (Fl.nth x k).b);simp
 have HN:Hid (∀i,i<1->∃(j l:Nat) (ln:Option Addr) (lc:Nat) (nj:Fl.Node) (v1 v2:Bool),Vb (Fl.nth x k) i=(j:Int)/\(j:Int)<(x.length:Int)/\l<p.n/\At w [(⟨b,off+j*6,none⟩,.int .i64 nj.kind),(⟨b,off+j*6+1,none⟩,.int .i64 (l:Int)),(⟨b,off+j*6+2,none⟩,.int .i64 nj.a),(⟨b,off+j*6+3,none⟩,.int .i64 nj.b),(⟨b,off+j*6+4,none⟩,.int .i64 nj.c),(⟨b,off+j*6+5,none⟩,.slice ln nj.list.length lc),(⟨rb lvl,l,none⟩,.bool v1),(⟨rb lA,l,none⟩,.bool v2)]/\Un p x lvl lA (Vb (Fl.nth x k) i)=(nj.kind==7 && v1 && v2)):=λi hi=>by
  have hp:POk p x (Vb (Fl.nth x k) i):=by
   unfold Vb
   split
   ·exact q0
   omega
  obtain⟨j,l,ln,lc,e1,e2,e3,e4,e5,e6,e7,⟨hb,t0,t1,t2,t3,t4,t5,-⟩,-,-,-⟩:=h.named o0 hp;rw[e5]at t1;refine⟨j,l,ln,lc,Fl.nth x j,p.leq lvl l,p.leq lA l,e1,e3,e6,⟨⟨hb,t0⟩,⟨hb,t1⟩,⟨hb,t2⟩,⟨hb,t3⟩,⟨hb,t4⟩,⟨hb,t5⟩,⟨R0,h.lq.r _ _ l0 e6⟩,⟨dz,dr _ e6⟩,trivial⟩,?_⟩;unfold Un;rw[e4,e5,Int.toNat_natCast]
 rw[eA]at c2;have HL:=Zz j0;have HK:=Zz h0;have HA:=Zz eA.symm;rw[eLA]at d1;obtain⟨res,i0⟩:=nmE (Fl.follows p ls x (Fl.nth x k));rw[<-i0]at HE⊢;obtain⟨G,hG⟩:=nmE (α:=Nat->Bool) (λi=>Un p x lvl lA (Vb (Fl.nth x k) i));obtain⟨bk,r0⟩:=nmE (α:=Nat->Int) (Vb (Fl.nth x k))
 have T0:Hid (∀i,i<1->∃(j l:Nat) (ln:Option Addr) (lc:Nat) (nj:Fl.Node) (v1 v2:Bool),bk i=(j:Int)/\(j:Int)<(x.length:Int)/\l<p.n/\At w [(⟨b,off+j*6,none⟩,.int .i64 nj.kind),(⟨b,off+j*6+1,none⟩,.int .i64 (l:Int)),(⟨b,off+j*6+2,none⟩,.int .i64 nj.a),(⟨b,off+j*6+3,none⟩,.int .i64 nj.b),(⟨b,off+j*6+4,none⟩,.int .i64 nj.c),(⟨b,off+j*6+5,none⟩,.slice ln nj.list.length lc),(⟨rb lvl,l,none⟩,.bool v1),(⟨rb lA,l,none⟩,.bool v2)]/\G i=(nj.kind==7 && v1 && v2)):=by rw[r0,hG];exact HN.out
 have s0:Hid (bk 0=(Fl.nth x k).b/\bk 1=(Fl.nth x k).c):=by rw[r0];exact⟨rfl,rfl⟩
 rw[<-hG]at HE;rw[h0]at c0;clear o0 h ho M0 N0 g0 h0 P0 E0 j0 i0 O0 F0 q0 eA eNA eLA dr HN hG r0;generalize Fl.nth x k=n at*;generalize Fl.nth x A=nA at*
 go_enter func19,ntmps19
 go_wp2_with fail
 refine Yz [] (by kernel_rfl) (by kernel_rfl) rfl (λops hG=>?_);clear hG
 iterate 7 still_step
 refine wpStill_nil ?_
 go_wp2_with fail
 refine Yz [] (by kernel_rfl) (by kernel_rfl) rfl (λops hG=>?_);clear hG
 iterate 9 still_step
 refine wpStill_nil ?_
 go_upto_region 29 with fail
 obtain⟨W0,u0⟩:=nmE (((w.alloc (.cells #[.slice la ls.length lcp,.slice (some ⟨b,off,none⟩) x.length cap] 33)).alloc (.cells #[.int .i64 6,.int .i64 (lvl:Int),.int .i64 (A:Int),.int .i64 n.b,.int .i64 n.c,.slice ln n.list.length lc] 59)).drew.drew);have HF:Hid (Jw w W0 (.slice la ls.length lcp) (.slice (some ⟨b,off,none⟩) x.length cap) (.slice ln n.list.length lc) n):=by
  have h9:=Jw.new w (.slice la ls.length lcp) (.slice (some ⟨b,off,none⟩) x.length cap) (.slice ln n.list.length lc) n;rw[HK.out,<-HL.out,<-HA.out,<-u0]at h9;exact h9
 rw[<-u0]
 have G0:Hid (At W0 [(⟨Pb,1,none⟩,.slice (some ⟨Lq,0,none⟩) p.n p.n),(⟨Lq,lA,none⟩,.slice (some ⟨rb lA,0,none⟩) p.n p.n),(⟨w.heap.size,1,none⟩,.slice (some ⟨b,off,none⟩) x.length cap),(⟨w.heap.size+1,0,none⟩,.int .i64 6),(⟨w.heap.size+1,3,none⟩,.int .i64 n.b),(⟨w.heap.size+1,4,none⟩,.int .i64 n.c)]):=
  ⟨⟨by have:=HF.out.sz.1;show Pb<_;omega,(HF.out.be.cell (p:=⟨Pb,1,none⟩) hz).trans p1⟩,⟨by have:=HF.out.sz.1;show Lq<_;omega,(HF.out.be.cell (p:=⟨Lq,lA,none⟩) Q0).trans dq⟩,⟨HF.out.sz.1,HF.out.s1⟩,⟨HF.out.sz.2,by rw[<-HK.out];exact HF.out.t0⟩,⟨HF.out.sz.2,HF.out.t3⟩,⟨HF.out.sz.2,HF.out.t4⟩,trivial⟩
 have e0:=HF.out.be;have D0x:=(e0.cell (p:=⟨b,off+A*6,none⟩) hbz).trans d0;have D1x:=(e0.cell (p:=⟨b,off+A*6+1,none⟩) hbz).trans d1;have D2x:=(e0.cell (p:=⟨b,off+A*6+2,none⟩) hbz).trans d2;have D3x:=(e0.cell (p:=⟨b,off+A*6+3,none⟩) hbz).trans d3;have D4x:=(e0.cell (p:=⟨b,off+A*6+4,none⟩) hbz).trans d4;have D5x:=(e0.cell (p:=⟨b,off+A*6+5,none⟩) hbz).trans d5;obtain⟨s1,T2⟩:_/\_:=⟨HF.out.s1,HF.out.t2⟩;rw[<-HA.out]at T2;have U0:=HF.out.sz.1;have V0:=HF.out.sz.2
 have v0:b<W0.heap.size:=by omega
 have x0:=Zz e0;clear p0 p1 c0 c1 c2 c3 c4 c5 q1 u0 d0 d1 d2 d3 d4 d5 dq e0 HF hbz HA HL HK;have y0:Hid (At _ _):=G0.out.node nA.kind lA nA.a nA.b nA.c (.slice lnA nA.list.length lcA) 59 W0.heap.size rfl;have z0:Hid (∀o1,Below w.heap.size w (W0.alloc o1)):=λo1=>x0.out.alloc x0.out.size _;obtain⟨M,hM⟩:=nmE (W0.heap.size)
 go_wp2_with fail
 rw[<-hM]at y0⊢;refine(Jj _ _ _ _ _ _ _ _ _).mono ?_;rintro e w1 ⟨rfl,k0⟩;have A0:Hid (At _ _):=y0.out.below k0;have B0:Hid (Below w.heap.size w w1):=(z0.out _).trans (k0.mono (z0.out _).size);rw[<-h1];obtain⟨-,-,-,-,-,-,-,-,-,⟨-,v4⟩,⟨-,v5⟩,⟨-,v6⟩,-⟩:=A0.out
 have X0:w.heap.size+1<w1.heap.size:=by have:=k0.size;rw[World.size_alloc]at this;omega
 clear h1 k0 D0x D1x D2x D3x D4x D5x s1 T2 y0 z0 G0 x0 hM U0 V0 v0
 go_wp2_with fail
 obtain⟨W3,f0⟩:=nmE (w1.alloc (.cells #[.int .i64 n.b,.int .i64 n.c] 3));obtain⟨N,hN⟩:=nmE (w1.heap.size)
 have C0:Hid (Below w1.heap.size w1 W3):=by show Below _ _ _;rw[f0];exact bA
 have H0:Hid (Below w.heap.size w W3):=B0.out.trans (C0.out.mono B0.out.size);have I0:Hid (At W3 [(⟨M,1,none⟩,.int .i64 (lA:Int)),(⟨Pb,1,none⟩,.slice (some ⟨Lq,0,none⟩) p.n p.n),(⟨Lq,lA,none⟩,.slice (some ⟨rb lA,0,none⟩) p.n p.n),(⟨w.heap.size,1,none⟩,.slice (some ⟨b,off,none⟩) x.length cap),(⟨N,0,none⟩,.int .i64 (bk 0)),(⟨N,1,none⟩,.int .i64 (bk 1))]):=by
  obtain⟨-,u1,-,-,-,-,u2,u3,u4,-⟩:=A0.out.below C0.out;refine⟨u1,u2,u3,u4,⟨by rw[f0,hN];simp,by rw[f0,hN,s0.out.1];simp⟩,⟨by rw[f0,hN];simp,by rw[f0,hN,s0.out.2];simp⟩,trivial⟩
 rw[<-f0,<-hN];clear f0 hN C0 B0 A0 v4 v5 v6 X0 s0
 go_loopw [18,20] (λo i wr=>Below w.heap.size w wr/\At wr [(⟨M,1,none⟩,.int .i64 (lA:Int)),(⟨Pb,1,none⟩,.slice (some ⟨Lq,0,none⟩) p.n p.n),(⟨Lq,lA,none⟩,.slice (some ⟨rb lA,0,none⟩) p.n p.n),(⟨w.heap.size,1,none⟩,.slice (some ⟨b,off,none⟩) x.length cap),(⟨N,0,none⟩,.int .i64 (bk 0)),(⟨N,1,none⟩,.int .i64 (bk 1))]/\∃j:Nat,j<=1/\i=.int .i64 j/\o=.bool (zt7 one G j)) (λ_ i _=>1 - (intOf i).toNat)
 case atStart=>exact⟨H0.out,I0.out,0,by omega,rfl,rfl⟩
 case round=>
  obtain⟨hB,J0,i,hi,rfl,rfl⟩:=hrel;have HB:=Zz hB;have D0:=Zz J0;clear hB J0 H0 I0
  by_cases g0:i<1
  ·obtain⟨j,l,lnj,lcj,nj,v1,v2,hq,x1,hl,K0,hg⟩:=T0.out i g0
   have HG:Hid (zt7 one G (i+1)=(zt7 one G i && (nj.kind==7 && v1 && v2))):=(by show (_ && _)=_;rw[hg]);obtain⟨⟨m0,m1⟩,⟨b2,m2⟩,⟨b3,m3⟩,⟨m5,m4⟩,⟨n0,n1⟩,⟨-,n2⟩,-⟩:=D0.out;have y1:(l:Int)<(p.n:Int):=(by omega);have L0:=HB.out;obtain⟨⟨b0,a0⟩,⟨-,a1⟩,⟨-,a2⟩,⟨-,a3⟩,⟨-,a4⟩,⟨-,a5⟩,⟨b6,a6⟩,⟨b7,a7⟩,-⟩:=K0.below L0;have cq:wr.cell? ⟨N,i,none⟩=some (.int .i64 (j:Int)):=by
    rw[<-hq];rcases(show i=0\/i=1 by omega) with rfl|rfl
    ·exact n1
    exact n2
   have z1:(i:Int)<1:=(by omega);have hM:M<wr.heap.size:=m0;have Y0:w.heap.size<wr.heap.size:=m5;have A1:Pb<wr.heap.size:=b2;have Z0:N<wr.heap.size:=n0;have hbz:b<wr.heap.size:=b0;have B1:Lq<wr.heap.size:=b3;have C1:rb lvl<wr.heap.size:=b6;have D1:rb lA<wr.heap.size:=b7;generalize zt7 one G i=oi at*;clear hq hg K0 n1 n2 L0 m0 m5 b2 b3 b6 b7 n0 b0;have HS:Hid (∀W,Below wr.heap.size wr W->At W [(⟨w.heap.size,1,none⟩,.slice (some ⟨b,off,none⟩) x.length cap),(⟨N,i,none⟩,.int .i64 (j:Int)),(⟨b,off+j*6,none⟩,.int .i64 nj.kind),(⟨b,off+j*6+1,none⟩,.int .i64 (l:Int)),(⟨b,off+j*6+2,none⟩,.int .i64 nj.a),(⟨b,off+j*6+3,none⟩,.int .i64 nj.b),(⟨b,off+j*6+4,none⟩,.int .i64 nj.c),(⟨b,off+j*6+5,none⟩,.slice lnj nj.list.length lcj)]):=λW hW=>At.below hW ⟨⟨Y0,m4⟩,⟨Z0,cq⟩,⟨hbz,a0⟩,⟨hbz,a1⟩,⟨hbz,a2⟩,⟨hbz,a3⟩,⟨hbz,a4⟩,⟨hbz,a5⟩,trivial⟩;have b1:Hid (∀o,Below w.heap.size w (wr.alloc o).drew.drew):=λo=>(HB.out.alloc HB.out.size _).drew.drew;have f1:Hid (∀o,At (wr.alloc o).drew.drew _):=λo=>D0.out.below (((Below.refl _ _).alloc (Nat.le_refl _) o).drew.drew)
   go_wp2_with fail
   refine Zn HS ((Below.refl _ _).drew) [8] [9] [] (by kernel_rfl) (λc a d v w h=>by cases d<;>exact h) (λops hG=>?_);clear hG
   iterate 8 refine Zw rfl (by rintro _ ⟨⟨-,_⟩,⟨-,_⟩,⟨-,_⟩,⟨-,_⟩,⟨-,_⟩,⟨-,_⟩,⟨-,_⟩,⟨-,_⟩,-⟩;go_simp<;>rfl) (by go_simp<;>rfl) ?_
   refine Zk ?_
   go_wp2_with fail
   refine⟨HS.out _ (bA).drew,?_⟩;refine Xm ?_
   go_wp2_with fail
   refine Zs ?_
   go_wp2_with fail
   have hc:oi=false\/(oi=true/\(nj.kind==7)=false)\/(oi=true/\(nj.kind==7)=true/\v1=false)\/(oi=true/\(nj.kind==7)=true/\v1=true):=by
    cases oi<;>cases nj.kind==7<;>cases v1<;>simp
   clear HB D0 cq a0 a1 a2 a3 a4 a5 m4 HS;rcases hc with rfl|⟨rfl,h7⟩|⟨rfl,h7,rfl⟩|⟨rfl,h7,rfl⟩
   all_goals
    refine Yz [(1,221),(6,226),(13,233)] (by kernel_rfl) (by kernel_rfl) rfl (λops hG=>?_);have g1:=hG (1,221) (by simp);have g2:=hG (6,226) (by simp);have g3:=hG (13,233) (by simp);simp only at g1 g2 g3;clear hG
    iterate 28 still_step
    refine wpStill_nil ?_;go_wp2
    go_roundw
    case rel=>exact⟨b1.out _,f1.out _,i+1,by omega,by go_num,congrArg Value.bool (by rw[HG.out];first|simp;done|simp[h7])⟩
    case measure=>simp[intOf];omega
  obtain rfl:i=1:=by omega
  rw[<-HE.out];go_wp2;go_ret;exact⟨rfl,HB.out⟩
end
end Go.Proofs.YtaaejabalinojaaGreatDoor
