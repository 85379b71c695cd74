import Derived.Test.YtaaejabalinojaaGreatDoorM08
import Derived.Deep.DeepCutAuto
set_option linter.all false
set_option maxRecDepth 100000
set_option maxHeartbeats 40000000
namespace Go.Proofs.YtaaejabalinojaaGreatDoor
open Go.RowKit Go.Proofs.Tryz
section
variable{w:World}{Pb Lq:Nat}{rb:Nat->Nat}{clv hv bv lv nv:Value}{p:Fl.Prog}{ls:List Int}{x:List Fl.Node}
def yx9(h:Jx w Pb Lq rb clv hv bv lv nv p ls x)(k:Nat)(hk:k<x.length)(ho:zw5 p x (Fl.nth x k))(C0:∀y∈Fl.vars p ls,0<=y/\y<p.n)(D0:∀y∈p.chans,y<p.n)(k0:(Fl.nth x k).level<p.n)(E0:(Fl.nth x k).a<2147483648)(b0:(Fl.nth x k).kind=2):
  Calls prog 19 #[.pointer (some ⟨Pb,0,none⟩),.agg #[lv,nv],.int .i64 k] w λe w'=>e=.returned (.bool (Fl.follows p ls x (Fl.nth x k)))/\Below w.heap.size w w':=by
 obtain⟨b,off,cap,lvl,la,ln,lcp,lc,hf⟩:=h.fw k hk ho.lv k0;obtain⟨rfl,rfl,hz,⟨h0,i0,L0⟩,⟨hbz,c0,c1,c2,c3,c4,c5,F0⟩,l0,m0,x0⟩:=hf;have p0:=h.p0;have p1:=h.p1;have q1:=h.lq.c lvl h0
 have M0:(p.n:Int)<=6:=by have:=h.n6;omega
 have N0:(k:Int)<(x.length:Int):=by omega
 rw[<-i0]at c1;have G0:=x0 lvl h0;obtain⟨y0,z0⟩:=ho.k2 b0;obtain⟨B,lB,lnB,lcB,eB,hB,O0,eNB,eLB,P0,H0,⟨-,d0,d1,d2,d3,d4,d5,-⟩,dq,dr,dz⟩:=h.named l0 y0;obtain⟨C,lC,lnC,lcC,eC,hC,Q0,eNC,eLC,R0,I0,⟨-,e0,e1,e2,e3,e4,e5,-⟩,eq,er,ez⟩:=h.named l0 z0;have HE:Hid (Fl.follows p ls x (Fl.nth x k)=(decide ((Fl.nth x k).a<5) && (decide ((Fl.nth x B).kind<=2) && (decide ((Fl.nth x C).kind<=2) && (p.leq lB lvl && p.leq lC lvl))))):=by
  show _=_;unfold Fl.follows Fl.ruleOf;rw[decide_eq_true k0,if_neg (by omega),if_neg (by omega),if_pos b0,eNB,eNC,zv1,zv1,eLB,eLC,<-i0];unfold Fl.under;simp
 rw[eB]at c3;rw[eC]at c4;have r1:=dr lvl h0;have r2:=er lvl h0;have HL:=Zz i0;have HK:=Zz b0;have HA:Hid ((B:Int)=(Fl.nth x k).b/\(C:Int)=(Fl.nth x k).c):=⟨eB.symm,eC.symm⟩;rw[eLB]at d1;rw[eLC]at e1;obtain⟨res,g0⟩:=nmE (Fl.follows p ls x (Fl.nth x k));rw[<-g0]at HE⊢;rw[b0]at c0;clear l0 h ho C0 D0 k0 b0 F0 x0 i0 g0 E0 y0 z0 eB eC eNB eNC eLB eLC dr er;generalize Fl.nth x k=n at*;generalize Fl.nth x B=nB at*;generalize Fl.nth x C=nC at*;generalize p.leq lB lvl=vb at*;generalize p.leq lC lvl=vc at*
 go_enter func19,ntmps19
 go_wp2_with fail
 refine Yz [] (by kernel_rfl) (by kernel_rfl) rfl (λops hG=>?_);clear hG
 iterate 7 still_step
 refine wpStill_nil ?_
 go_wp2_with fail
 refine Yz [] (by kernel_rfl) (by kernel_rfl) rfl (λops hG=>?_);clear hG
 iterate 9 still_step
 refine wpStill_nil ?_
 go_upto_region 12 with fail
 obtain⟨W0,n0⟩:=nmE (((w.alloc (.cells #[.slice la ls.length lcp,.slice (some ⟨b,off,none⟩) x.length cap] 33)).alloc (.cells #[.int .i64 2,.int .i64 (lvl:Int),.int .i64 n.a,.int .i64 (B:Int),.int .i64 (C:Int),.slice ln n.list.length lc] 59)).drew.drew);have HF:Hid (Jw w W0 (.slice la ls.length lcp) (.slice (some ⟨b,off,none⟩) x.length cap) (.slice ln n.list.length lc) n):=by
  have h9:=Jw.new w (.slice la ls.length lcp) (.slice (some ⟨b,off,none⟩) x.length cap) (.slice ln n.list.length lc) n;rw[HK.out,<-HL.out,<-HA.out.1,<-HA.out.2,<-n0]at h9;exact h9
 rw[<-n0]
 have A0:Hid (At W0 [(⟨Pb,1,none⟩,.slice (some ⟨Lq,0,none⟩) p.n p.n),(⟨Lq,lB,none⟩,.slice (some ⟨rb lB,0,none⟩) p.n p.n),(⟨Lq,lC,none⟩,.slice (some ⟨rb lC,0,none⟩) p.n p.n),(⟨rb lB,lvl,none⟩,.bool vb),(⟨rb lC,lvl,none⟩,.bool vc),(⟨w.heap.size+1,1,none⟩,.int .i64 (lvl:Int)),(⟨w.heap.size+1,2,none⟩,.int .i64 n.a)]):=
  ⟨⟨by have:=HF.out.sz.1;show Pb<_;omega,(HF.out.be.cell (p:=⟨Pb,1,none⟩) hz).trans p1⟩,⟨by have:=HF.out.sz.1;show Lq<_;omega,(HF.out.be.cell (p:=⟨Lq,lB,none⟩) m0).trans dq⟩,⟨by have:=HF.out.sz.1;show Lq<_;omega,(HF.out.be.cell (p:=⟨Lq,lC,none⟩) m0).trans eq⟩,⟨by have:=HF.out.sz.1;show rb lB<_;omega,(HF.out.be.cell (p:=⟨rb lB,lvl,none⟩) dz).trans r1⟩,⟨by have:=HF.out.sz.1;show rb lC<_;omega,(HF.out.be.cell (p:=⟨rb lC,lvl,none⟩) ez).trans r2⟩,⟨HF.out.sz.2,by rw[HL.out];exact HF.out.t1⟩,⟨HF.out.sz.2,HF.out.t2⟩,trivial⟩
 have a0:=HF.out.be;have D0x:=(a0.cell (p:=⟨b,off+B*6,none⟩) hbz).trans d0;have E0x:=(a0.cell (p:=⟨b,off+C*6,none⟩) hbz).trans e0;have D1x:=(a0.cell (p:=⟨b,off+B*6+1,none⟩) hbz).trans d1;have E1x:=(a0.cell (p:=⟨b,off+C*6+1,none⟩) hbz).trans e1;have D2x:=(a0.cell (p:=⟨b,off+B*6+2,none⟩) hbz).trans d2;have E2x:=(a0.cell (p:=⟨b,off+C*6+2,none⟩) hbz).trans e2;have D3x:=(a0.cell (p:=⟨b,off+B*6+3,none⟩) hbz).trans d3;have E3x:=(a0.cell (p:=⟨b,off+C*6+3,none⟩) hbz).trans e3;have D4x:=(a0.cell (p:=⟨b,off+B*6+4,none⟩) hbz).trans d4;have E4x:=(a0.cell (p:=⟨b,off+C*6+4,none⟩) hbz).trans e4;have D5x:=(a0.cell (p:=⟨b,off+B*6+5,none⟩) hbz).trans d5;have E5x:=(a0.cell (p:=⟨b,off+C*6+5,none⟩) hbz).trans e5;obtain⟨s0,s1,T3,T4⟩:_/\_/\_/\_:=⟨HF.out.s0,HF.out.s1,HF.out.t3,HF.out.t4⟩;rw[<-HA.out.1]at T3;rw[<-HA.out.2]at T4;have S0:=HF.out.sz.1;have T0:=HF.out.sz.2
 have J0:b<W0.heap.size:=by omega
 have j0:=Zz a0;clear p0 p1 c0 c1 c2 c3 c4 c5 q1 n0 d0 d1 d2 d3 d4 d5 e0 e1 e2 e3 e4 e5 dq eq r1 r2 a0 HF hz m0 hbz dz ez G0 HA HL HK;have B0:Hid (At _ _):=((A0.out.node nB.kind lB nB.a nB.b nB.c (.slice lnB nB.list.length lcB) 59 W0.heap.size rfl).node nC.kind lC nC.a nC.b nC.c (.slice lnC nC.list.length lcC) 59 (W0.heap.size+1) (World.size_alloc _ _));have o0:Hid (∀o1 o2,Below w.heap.size w ((W0.alloc o1).alloc o2)):=λo1 o2=>(j0.out.alloc j0.out.size _).alloc (by have:=j0.out.size;simp;omega) _
 go_wp2_with fail
 refine(Jj _ _ _ _ _ _ _ _ _).mono ?_;rintro e w1 ⟨rfl,q0⟩;have r0:Hid (At _ _):=B0.out.below q0;have t0:Hid (Below w.heap.size w w1):=(o0.out _ _).trans (q0.mono (o0.out _ _).size);obtain⟨⟨-,f0⟩,⟨-,f1⟩,⟨-,f2⟩,⟨-,f3⟩,⟨-,f4⟩,⟨-,f5⟩,-⟩:=r0.out;clear q0 D0x D1x D2x D3x D4x D5x E0x E1x E2x E3x E4x E5x s0 s1 T3 T4 B0 o0 A0 j0
 go_wp2_with fail
 refine(Jj _ _ _ _ _ _ _ _ _).mono ?_;rintro e w2 ⟨rfl,v0⟩;have K0:Hid (Below w.heap.size w w2):=t0.out.trans (v0.mono t0.out.size);obtain⟨⟨-,f0⟩,⟨-,f1⟩,⟨-,f2⟩,⟨-,f3⟩,⟨-,f4⟩,⟨-,f5⟩,⟨-,u0⟩,⟨-,u1⟩,⟨-,u2⟩,⟨-,u3⟩,⟨-,u4⟩,⟨-,u5⟩,⟨-,v1⟩,⟨-,v2⟩,⟨-,v3⟩,⟨-,v4⟩,⟨-,v5⟩,⟨-,v6⟩,⟨-,v7⟩,-⟩:=r0.out.below v0;clear v0 r0 t0;obtain⟨one,h1⟩:∃v,v=decide (nB.kind<=2):=⟨_,rfl⟩;obtain⟨two,h2⟩:∃v,v=decide (nC.kind<=2):=⟨_,rfl⟩;rw[<-h1,<-h2]at HE;rw[<-h1,<-h2];clear h1 h2;have hc:one=false\/(one=true/\two=false)\/(one=true/\two=true/\(n.a<5)=False)\/(one=true/\two=true/\n.a<5/\vb=false)\/(one=true/\two=true/\n.a<5/\vb=true):=by
  cases one<;>cases two<;>cases vb<;>by_cases h5:n.a<5<;>simp[h5]
 rcases hc with rfl|⟨rfl,rfl⟩|⟨rfl,rfl,h5⟩|⟨rfl,rfl,h5,rfl⟩|⟨rfl,rfl,h5,rfl⟩
 all_goals
  go_wp2_with fail
  refine Yz [(1,90),(4,93),(9,98),(23,112)] (by kernel_rfl) (by kernel_rfl) rfl (λops hG=>?_);have g1:=hG (1,90) (by simp);have g2:=hG (4,93) (by simp);have g3:=hG (9,98) (by simp);have g4:=hG (23,112) (by simp);simp only at g1 g2 g3 g4;clear hG
  iterate 38 still_step
  refine wpStill_nil ?_;go_wp2;go_ret;exact⟨congrArg (λb=>Ending.returned (.bool b)) (by rw[HE.out];first|simp;done|simp[h5]),K0.out.drew⟩
end
end Go.Proofs.YtaaejabalinojaaGreatDoor
