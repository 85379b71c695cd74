import Derived.Test.YtaaejabalinojaaGreatDoorM08
import Derived.Deep.DeepCutAuto
set_option linter.all false
set_option maxRecDepth 100000
set_option maxHeartbeats 40000000
namespace Go.Proofs.YtaaejabalinojaaGreatDoor
open Go.RowKit Go.Proofs.Tryz
section
variable{w:World}{Pb Lq:Nat}{rb:Nat->Nat}{clv hv bv lv nv:Value}{p:Fl.Prog}{ls:List Int}{x:List Fl.Node}
def zb9(h:Jx w Pb Lq rb clv hv bv lv nv p ls x)(k:Nat)(hk:k<x.length)(ho:zw5 p x (Fl.nth x k))(z0:∀y∈Fl.vars p ls,0<=y/\y<p.n)(J0:∀y∈p.chans,y<p.n)(b0:(Fl.nth x k).level<p.n)(A0:(Fl.nth x k).a<2147483648)(e0:(Fl.nth x k).kind=3):
  Calls prog 19 #[.pointer (some ⟨Pb,0,none⟩),.agg #[lv,nv],.int .i64 k] w λe w'=>e=.returned (.bool (Fl.follows p ls x (Fl.nth x k)))/\Below w.heap.size w w':=by
 have B0:Hid (∀W,Below w.heap.size w W->∀v:Nat,(v:Int)<2147483648->Calls prog 35 #[.pointer (some ⟨Pb,0,none⟩),.agg #[lv,nv],.int .i64 v] W λe w'=>e=.returned (.int .i64 (Uq p ls v))/\Below W.heap.size W w'):=λW hW v hv2=>zjz (h.below hW) v hv2;obtain⟨b,off,cap,lvl,la,ln,lcp,lc,hf⟩:=h.fw k hk ho.lv b0;obtain⟨rfl,rfl,hz,⟨m0,i0,R0⟩,⟨hbz,c0,c1,c2,c3,c4,c5,K0⟩,C0,L0,D0⟩:=hf;have p0:=h.p0;have p1:=h.p1;have q1:=h.lq.c lvl m0
 have S0:(p.n:Int)<=6:=by have:=h.n6;omega
 have T0:(k:Int)<(x.length:Int):=by omega
 rw[<-i0]at c1;have M0:=D0 lvl m0;obtain⟨N0,E0⟩:=ho.k3 (.inl e0);obtain⟨B,lB,lnB,lcB,eB,hB,U0,eNB,eLB,V0,O0,⟨-,d0,d1,d2,d3,d4,d5,-⟩,dq,dr,dz⟩:=h.named C0 E0;obtain⟨an,f0⟩:∃an:Nat,(an:Int)=(Fl.nth x k).a:=⟨(Fl.nth x k).a.toNat,by omega⟩;obtain⟨L,hL⟩:=nmE (Fl.vars p ls)
 have F0:∀y∈L,0<=y/\y<p.n:=by rw[hL];exact z0
 have HE:Hid (Fl.follows p ls x (Fl.nth x k)=(decide (an<L.length) && (decide ((Fl.nth x B).kind<=2) && (p.leq lB (L.getD an 0).toNat && p.leq lvl (L.getD an 0).toNat)))):=by
  show _=_;unfold Fl.follows Fl.ruleOf Fl.mayGo;rw[decide_eq_true b0,if_neg (by omega),if_neg (by omega),if_neg (by omega),if_pos e0,eNB,zv1,eLB,<-f0,<-i0,<-hL];unfold Fl.under;simp
 have n0:Hid (an<L.length->∃y:Nat,L.getD an 0=(y:Int)/\y<p.n/\w.cell? ⟨rb lB,y,none⟩=some (.bool (p.leq lB y))/\w.cell? ⟨rb lvl,y,none⟩=some (.bool (p.leq lvl y))):=λb0=>by
  have h1:=F0 L[an] (List.getElem_mem b0);have e:L.getD an 0=L[an]:=(by rw[Qa,Qb b0];rfl);have hy:(L[an]).toNat<p.n:=(by omega);exact⟨(L[an]).toNat,by rw[e];omega,hy,dr _ hy,h.lq.r _ _ m0 hy⟩
 have j0:Hid (Uq p ls an=if an<L.length then L.getD an 0 else -1):=by show _=_;unfold Uq;rw[Int.toNat_natCast,hL]
 have G0:Hid (∀W,Below w.heap.size w W->_):=λW hW=>B0.out W hW an (by rw[f0];exact A0);rw[eB]at c3;rw[<-f0]at c2;have HL:=Zz i0;have HK:=Zz e0;have HA:=Zz eB.symm;have o0:=Zz f0;rw[eLB]at d1;obtain⟨res,g0⟩:=nmE (Fl.follows p ls x (Fl.nth x k));rw[<-g0]at HE⊢;rw[e0]at c0;clear C0 h ho z0 J0 b0 e0 K0 D0 i0 g0 A0 E0 eB eNB eLB dr f0 N0 F0 hL B0;generalize Fl.nth x k=n at*;generalize Fl.nth x B=nB at*
 go_enter func19,ntmps19
 go_wp2_with fail
 refine Yz [] (by kernel_rfl) (by kernel_rfl) rfl (λops hG=>?_);clear hG
 iterate 7 still_step
 refine wpStill_nil ?_
 go_wp2_with fail
 refine Yz [] (by kernel_rfl) (by kernel_rfl) rfl (λops hG=>?_);clear hG
 iterate 9 still_step
 refine wpStill_nil ?_
 go_upto_region 19 with fail
 obtain⟨W0,q0⟩:=nmE (((w.alloc (.cells #[.slice la ls.length lcp,.slice (some ⟨b,off,none⟩) x.length cap] 33)).alloc (.cells #[.int .i64 3,.int .i64 (lvl:Int),.int .i64 (an:Int),.int .i64 (B:Int),.int .i64 n.c,.slice ln n.list.length lc] 59)).drew.drew);have HF:Hid (Jw w W0 (.slice la ls.length lcp) (.slice (some ⟨b,off,none⟩) x.length cap) (.slice ln n.list.length lc) n):=by
  have h9:=Jw.new w (.slice la ls.length lcp) (.slice (some ⟨b,off,none⟩) x.length cap) (.slice ln n.list.length lc) n;rw[HK.out,<-HL.out,<-o0.out,<-HA.out,<-q0]at h9;exact h9
 rw[<-q0]
 have H0:Hid (At W0 [(⟨Pb,1,none⟩,.slice (some ⟨Lq,0,none⟩) p.n p.n),(⟨Lq,lB,none⟩,.slice (some ⟨rb lB,0,none⟩) p.n p.n),(⟨w.heap.size,0,none⟩,.slice la ls.length lcp),(⟨w.heap.size,1,none⟩,.slice (some ⟨b,off,none⟩) x.length cap),(⟨w.heap.size+1,0,none⟩,.int .i64 3),(⟨w.heap.size+1,2,none⟩,.int .i64 (an:Int))]):=
  ⟨⟨by have:=HF.out.sz.1;show Pb<_;omega,(HF.out.be.cell (p:=⟨Pb,1,none⟩) hz).trans p1⟩,⟨by have:=HF.out.sz.1;show Lq<_;omega,(HF.out.be.cell (p:=⟨Lq,lB,none⟩) L0).trans dq⟩,⟨HF.out.sz.1,HF.out.s0⟩,⟨HF.out.sz.1,HF.out.s1⟩,⟨HF.out.sz.2,by rw[<-HK.out];exact HF.out.t0⟩,⟨HF.out.sz.2,by rw[o0.out];exact HF.out.t2⟩,trivial⟩
 have a0:=HF.out.be;have D0x:=(a0.cell (p:=⟨b,off+B*6,none⟩) hbz).trans d0;have D1x:=(a0.cell (p:=⟨b,off+B*6+1,none⟩) hbz).trans d1;have D2x:=(a0.cell (p:=⟨b,off+B*6+2,none⟩) hbz).trans d2;have D3x:=(a0.cell (p:=⟨b,off+B*6+3,none⟩) hbz).trans d3;have D4x:=(a0.cell (p:=⟨b,off+B*6+4,none⟩) hbz).trans d4;have D5x:=(a0.cell (p:=⟨b,off+B*6+5,none⟩) hbz).trans d5;obtain⟨s1,T3⟩:_/\_:=⟨HF.out.s1,HF.out.t3⟩;rw[<-HA.out]at T3;have X0:=HF.out.sz.1;have Y0:=HF.out.sz.2
 have P0:b<W0.heap.size:=by omega
 have r0:=Zz a0;clear p0 p1 c0 c1 c2 c3 c4 c5 q1 q0 d0 d1 d2 d3 d4 d5 dq a0 HF hbz HA HL HK o0;have I0:Hid (At _ _):=H0.out.node nB.kind lB nB.a nB.b nB.c (.slice lnB nB.list.length lcB) 59 W0.heap.size rfl;have u0:Hid (∀o1,Below w.heap.size w (W0.alloc o1)):=λo1=>r0.out.alloc r0.out.size _
 go_wp2_with fail
 refine(Jj _ _ _ _ _ _ _ _ _).mono ?_;rintro e w1 ⟨rfl,v0⟩;have x0:Hid (At _ _):=I0.out.below v0;have k0:Hid (Below w.heap.size w w1):=(u0.out _).trans (v0.mono (u0.out _).size);obtain⟨one,h1⟩:∃v,v=decide (nB.kind<=2):=⟨_,rfl⟩;rw[<-h1]at HE;rw[<-h1];obtain⟨-,⟨-,u1⟩,-,-,-,-,⟨-,v1⟩,⟨-,v2⟩,⟨-,v3⟩,⟨-,v4⟩,⟨-,v5⟩,⟨-,v6⟩,-⟩:=x0.out;clear h1 v0 D0x D1x D2x D3x D4x D5x s1 T3 I0 u0 H0 r0
 go_wp2_with fail
 refine(G0.out w1 k0.out).mono ?_;rintro e w2 ⟨rfl,y0⟩;have l0:Hid (Below w.heap.size w w2):=k0.out.trans (y0.mono k0.out.size);obtain⟨-,⟨-,u1⟩,-,-,-,-,⟨-,v1⟩,⟨-,v2⟩,-⟩:=x0.out.below y0;clear y0 x0 k0 G0 v3 v4 v5 v6
 by_cases h0:an<L.length
 ·obtain⟨y,hy,Z0,y1,y2⟩:=n0.out h0
  rw[j0.out,if_pos h0,hy];have z1:=(l0.out.cell (p:=⟨rb lB,y,none⟩) dz).trans y1;have z2:=(l0.out.cell (p:=⟨rb lvl,y,none⟩) M0).trans y2;have a1:(y:Int)<(p.n:Int):=(by omega);have HR:Hid (res=(one && (p.leq lB y && p.leq lvl y))):=(by show _=_;rw[HE.out,decide_eq_true h0,hy];rfl);generalize p.leq lB y=va at*;generalize p.leq lvl y=vb at*;clear y1 y2 HE j0 n0 hy
  have Q0:one=false\/(one=true/\va=false)\/(one=true/\va=true):=by cases one<;>cases va<;>simp
  rcases Q0 with rfl|⟨rfl,rfl⟩|⟨rfl,rfl⟩
  all_goals
   go_wp2_with fail
   refine Yz [(1,162),(5,166),(18,179)] (by kernel_rfl) (by kernel_rfl) rfl (λops hG=>?_);have g1:=hG (1,162) (by simp);have g2:=hG (5,166) (by simp);have g3:=hG (18,179) (by simp);simp only at g1 g2 g3;clear hG
   iterate 25 still_step
   refine wpStill_nil ?_;go_wp2;go_ret;exact⟨congrArg (λb=>Ending.returned (.bool b)) (by rw[HR.out];simp),l0.out.drew⟩
 rw[j0.out,if_neg h0]
 have HR:Hid (res=false):=by show _=_;rw[HE.out,decide_eq_false h0];rfl
 clear HE j0 n0
 cases one
 all_goals
  go_wp2_with fail
  refine Yz [(1,162),(5,166),(18,179)] (by kernel_rfl) (by kernel_rfl) rfl (λops hG=>?_);have g1:=hG (1,162) (by simp);have g2:=hG (5,166) (by simp);have g3:=hG (18,179) (by simp);simp only at g1 g2 g3;clear hG
  iterate 25 still_step
  refine wpStill_nil ?_;go_wp2;go_ret;exact⟨cbE HR.out,l0.out.drew⟩
end
end Go.Proofs.YtaaejabalinojaaGreatDoor
