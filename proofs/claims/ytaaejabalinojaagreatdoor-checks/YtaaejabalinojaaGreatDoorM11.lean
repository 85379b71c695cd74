import Derived.Test.YtaaejabalinojaaGreatDoorM08
import Derived.Deep.DeepCutAuto
set_option linter.all false
set_option maxRecDepth 100000
set_option maxHeartbeats 40000000
namespace Go.Proofs.YtaaejabalinojaaGreatDoor
open Go.RowKit Go.Proofs.Tryz
section
variable{w:World}{Pb Lq:Nat}{rb:Nat->Nat}{clv hv bv lv nv:Value}{p:Fl.Prog}{ls:List Int}{x:List Fl.Node}
def zbz(h:Jx w Pb Lq rb clv hv bv lv nv p ls x)(k:Nat)(hk:k<x.length)(ho:zw5 p x (Fl.nth x k))(G0:∀y∈Fl.vars p ls,0<=y/\y<p.n)(y0:∀y∈p.chans,y<p.n)(a0:(Fl.nth x k).level<p.n)(H0:(Fl.nth x k).a<2147483648)(f0:(Fl.nth x k).kind=4):
  Calls prog 19 #[.pointer (some ⟨Pb,0,none⟩),.agg #[lv,nv],.int .i64 k] w λe w'=>e=.returned (.bool (Fl.follows p ls x (Fl.nth x k)))/\Below w.heap.size w w':=by
 obtain⟨b,off,cap,lvl,la,ln,lcp,lc,hf⟩:=h.fw k hk ho.lv a0;obtain⟨rfl,rfl,hz,⟨l0,i0,Q0⟩,⟨hbz,c0,c1,c2,c3,c4,c5,I0⟩,z0,J0,A0⟩:=hf;have p0:=h.p0;have p1:=h.p1;have q1:=h.lq.c lvl l0
 have R0:(p.n:Int)<=6:=by have:=h.n6;omega
 have S0:(k:Int)<(x.length:Int):=by omega
 rw[<-i0]at c1;have K0:=A0 lvl l0;obtain⟨L0,B0⟩:=ho.k3 (.inr f0);obtain⟨B,lB,lnB,lcB,eB,hB,T0,eNB,eLB,U0,M0,⟨-,d0,d1,d2,d3,d4,d5,-⟩,dq,dr,dz⟩:=h.named z0 B0;obtain⟨an,j0⟩:∃an:Nat,(an:Int)=(Fl.nth x k).a:=⟨(Fl.nth x k).a.toNat,by omega⟩;obtain⟨L,hL⟩:=nmE (p.chans.map λ(y:Nat)=>(y:Int))
 have C0:∀y∈L,0<=y/\y<p.n:=by rw[hL];exact λy hy=>by obtain⟨z,hz,rfl⟩:=List.mem_map.1 hy;have:=y0 z hz;omega
 have HE:Hid (Fl.follows p ls x (Fl.nth x k)=(decide (an<L.length) && (decide ((Fl.nth x B).kind<=2) && (p.leq lB (L.getD an 0).toNat && p.leq lvl (L.getD an 0).toNat)))):=by
  show _=_;unfold Fl.follows Fl.ruleOf Fl.mayGo;rw[decide_eq_true a0,if_neg (by omega),if_neg (by omega),if_neg (by omega),if_neg (by omega),if_pos f0,eNB,zv1,eLB,<-j0,<-i0,<-hL];unfold Fl.under;simp
 have m0:Hid (an<L.length->∃y:Nat,L.getD an 0=(y:Int)/\y<p.n/\w.cell? ⟨rb lB,y,none⟩=some (.bool (p.leq lB y))/\w.cell? ⟨rb lvl,y,none⟩=some (.bool (p.leq lvl y))):=λa0=>by
  have h1:=C0 L[an] (List.getElem_mem a0);have e:L.getD an 0=L[an]:=(by rw[Qa,Qb a0];rfl);have hy:(L[an]).toNat<p.n:=(by omega);exact⟨(L[an]).toNat,by rw[e];omega,hy,dr _ hy,h.lq.r _ _ l0 hy⟩
 obtain⟨ha,hc,rfl,-,-,D0⟩:=h.hi
 have e0:∀a0:an<L.length,∃cb co,ha=some ⟨cb,co,none⟩/\cb<w.heap.size/\w.cell? ⟨cb,co+an,none⟩=some (.int .i64 (L.getD an 0)):=λa0=>by
  rw[hL]at a0⊢;obtain⟨cb,co,e1,e2,e3⟩:=D0 (by intro hh;rw[hh]at a0;simp at a0);exact⟨cb,co,e1,e2,e3 an a0⟩
 have p3:=h.p3;rw[<-hL]at p3
 have V0:(L.length:Int)<=3:=by rw[hL];have:=h.ll.2.1;simp;omega
 rw[eB]at c3;rw[<-j0]at c2;have HL:=Zz i0;have HK:=Zz f0;have HA:=Zz eB.symm;have n0:=Zz j0;rw[eLB]at d1;obtain⟨res,g0⟩:=nmE (Fl.follows p ls x (Fl.nth x k));rw[<-g0]at HE⊢;rw[f0]at c0;clear z0 h ho G0 y0 a0 f0 I0 A0 i0 g0 H0 B0 eB eNB eLB dr j0 L0 C0 hL D0;generalize Fl.nth x k=n at*;generalize Fl.nth x B=nB at*
 go_enter func19,ntmps19
 go_wp2_with fail
 refine Yz [] (by kernel_rfl) (by kernel_rfl) rfl (λops hG=>?_);clear hG
 iterate 7 still_step
 refine wpStill_nil ?_
 go_wp2_with fail
 refine Yz [] (by kernel_rfl) (by kernel_rfl) rfl (λops hG=>?_);clear hG
 iterate 9 still_step
 refine wpStill_nil ?_
 go_upto_region 19 with fail
 obtain⟨W0,o0⟩:=nmE (((w.alloc (.cells #[.slice la ls.length lcp,.slice (some ⟨b,off,none⟩) x.length cap] 33)).alloc (.cells #[.int .i64 4,.int .i64 (lvl:Int),.int .i64 (an:Int),.int .i64 (B:Int),.int .i64 n.c,.slice ln n.list.length lc] 59)).drew.drew);have HF:Hid (Jw w W0 (.slice la ls.length lcp) (.slice (some ⟨b,off,none⟩) x.length cap) (.slice ln n.list.length lc) n):=by
  have h9:=Jw.new w (.slice la ls.length lcp) (.slice (some ⟨b,off,none⟩) x.length cap) (.slice ln n.list.length lc) n;rw[HK.out,<-HL.out,<-n0.out,<-HA.out,<-o0]at h9;exact h9
 rw[<-o0]
 have E0:Hid (At W0 [(⟨Pb,1,none⟩,.slice (some ⟨Lq,0,none⟩) p.n p.n),(⟨Lq,lB,none⟩,.slice (some ⟨rb lB,0,none⟩) p.n p.n),(⟨w.heap.size,0,none⟩,.slice la ls.length lcp),(⟨w.heap.size,1,none⟩,.slice (some ⟨b,off,none⟩) x.length cap),(⟨w.heap.size+1,0,none⟩,.int .i64 4),(⟨w.heap.size+1,2,none⟩,.int .i64 (an:Int)),(⟨Pb,3,none⟩,.slice ha L.length hc)]):=
  ⟨⟨by have:=HF.out.sz.1;show Pb<_;omega,(HF.out.be.cell (p:=⟨Pb,1,none⟩) hz).trans p1⟩,⟨by have:=HF.out.sz.1;show Lq<_;omega,(HF.out.be.cell (p:=⟨Lq,lB,none⟩) J0).trans dq⟩,⟨HF.out.sz.1,HF.out.s0⟩,⟨HF.out.sz.1,HF.out.s1⟩,⟨HF.out.sz.2,by rw[<-HK.out];exact HF.out.t0⟩,⟨HF.out.sz.2,by rw[n0.out];exact HF.out.t2⟩,⟨by have:=HF.out.sz.1;show Pb<_;omega,(HF.out.be.cell (p:=⟨Pb,3,none⟩) hz).trans p3⟩,trivial⟩
 have b0:=HF.out.be;have D0x:=(b0.cell (p:=⟨b,off+B*6,none⟩) hbz).trans d0;have D1x:=(b0.cell (p:=⟨b,off+B*6+1,none⟩) hbz).trans d1;have D2x:=(b0.cell (p:=⟨b,off+B*6+2,none⟩) hbz).trans d2;have D3x:=(b0.cell (p:=⟨b,off+B*6+3,none⟩) hbz).trans d3;have D4x:=(b0.cell (p:=⟨b,off+B*6+4,none⟩) hbz).trans d4;have D5x:=(b0.cell (p:=⟨b,off+B*6+5,none⟩) hbz).trans d5;obtain⟨s1,T3⟩:_/\_:=⟨HF.out.s1,HF.out.t3⟩;rw[<-HA.out]at T3;have X0:=HF.out.sz.1;have Y0:=HF.out.sz.2
 have N0:b<W0.heap.size:=by omega
 have q0:=Zz b0;clear p0 p1 c0 c1 c2 c3 c4 c5 q1 o0 d0 d1 d2 d3 d4 d5 dq b0 HF hbz HA HL HK n0 p3;have F0:Hid (At _ _):=E0.out.node nB.kind lB nB.a nB.b nB.c (.slice lnB nB.list.length lcB) 59 W0.heap.size rfl;have r0:Hid (∀o1,Below w.heap.size w (W0.alloc o1)):=λo1=>q0.out.alloc q0.out.size _
 go_wp2_with fail
 refine(Jj _ _ _ _ _ _ _ _ _).mono ?_;rintro e w1 ⟨rfl,u0⟩;have v0:Hid (At _ _):=F0.out.below u0;have h0:Hid (Below w.heap.size w w1):=(r0.out _).trans (u0.mono (r0.out _).size);obtain⟨one,h1⟩:∃v,v=decide (nB.kind<=2):=⟨_,rfl⟩;rw[<-h1]at HE;rw[<-h1];obtain⟨-,⟨-,u1⟩,-,-,-,-,⟨-,v1⟩,⟨-,v2⟩,⟨-,v3⟩,⟨-,v4⟩,⟨-,v5⟩,⟨-,v6⟩,⟨-,v7⟩,-⟩:=v0.out;clear h1 u0 D0x D1x D2x D3x D4x D5x s1 T3 F0 r0 E0 q0
 by_cases k0:an<L.length
 ·obtain⟨y,hy,Z0,y1,y2⟩:=m0.out k0
  obtain⟨cb,co,rfl,O0,k1⟩:=e0 k0;rw[hy]at k1;have z1:=(h0.out.cell (p:=⟨rb lB,y,none⟩) dz).trans y1;have z2:=(h0.out.cell (p:=⟨rb lvl,y,none⟩) K0).trans y2;have z3:=(h0.out.cell (p:=⟨cb,co+an,none⟩) O0).trans k1;have a1:(y:Int)<(p.n:Int):=(by omega);have x0:(an:Int)<(L.length:Int):=(by omega);have HR:Hid (res=(one && (p.leq lB y && p.leq lvl y))):=(by show _=_;rw[HE.out,decide_eq_true k0,hy];rfl);generalize p.leq lB y=va at*;generalize p.leq lvl y=vb at*;clear y1 y2 HE m0 hy k1 e0 v0
  go_wp2_with fail
  refine Yz [] (by kernel_rfl) (by kernel_rfl) rfl (λops hG=>?_);clear hG
  iterate 8 still_step
  refine wpStill_nil ?_
  go_wp2_with fail
  refine Yz [] (by kernel_rfl) (by kernel_rfl) rfl (λops hG=>?_);clear hG
  iterate 9 still_step
  refine wpStill_nil ?_
  have P0:one=false\/(one=true/\va=false)\/(one=true/\va=true):=by cases one<;>cases va<;>simp
  rcases P0 with rfl|⟨rfl,rfl⟩|⟨rfl,rfl⟩
  all_goals
   go_wp2_with fail
   refine Yz [(1,162),(5,166),(18,179)] (by kernel_rfl) (by kernel_rfl) rfl (λops hG=>?_);have g1:=hG (1,162) (by simp);have g2:=hG (5,166) (by simp);have g3:=hG (18,179) (by simp);simp only at g1 g2 g3;clear hG
   iterate 25 still_step
   refine wpStill_nil ?_;go_wp2;go_ret;exact⟨congrArg (λb=>Ending.returned (.bool b)) (by rw[HR.out];simp),h0.out.drew.drew.drew⟩
 have x0:¬(an:Int)<(L.length:Int):=by omega
 have HR:Hid (res=false):=by show _=_;rw[HE.out,decide_eq_false k0];rfl
 clear HE m0 e0 v0
 go_wp2_with fail
 refine Yz [] (by kernel_rfl) (by kernel_rfl) rfl (λops hG=>?_);clear hG
 iterate 8 still_step
 refine wpStill_nil ?_
 cases one
 all_goals
  go_wp2_with fail
  refine Yz [(1,162),(5,166),(18,179)] (by kernel_rfl) (by kernel_rfl) rfl (λops hG=>?_);have g1:=hG (1,162) (by simp);have g2:=hG (5,166) (by simp);have g3:=hG (18,179) (by simp);simp only at g1 g2 g3;clear hG
  iterate 25 still_step
  refine wpStill_nil ?_;go_wp2;go_ret;exact⟨cbE HR.out,h0.out.drew.drew⟩
end
end Go.Proofs.YtaaejabalinojaaGreatDoor
