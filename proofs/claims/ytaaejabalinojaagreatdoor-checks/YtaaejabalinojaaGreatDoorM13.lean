import Derived.Test.YtaaejabalinojaaGreatDoorM08
import Derived.Deep.DeepCutAuto
set_option linter.all false
set_option maxRecDepth 100000
set_option maxHeartbeats 40000000
namespace Go.Proofs.YtaaejabalinojaaGreatDoor
open Go.RowKit Go.Proofs.Tryz
section
variable{w:World}{Pb Lq:Nat}{rb:Nat->Nat}{clv hv bv lv nv:Value}{p:Fl.Prog}{ls:List Int}{x:List Fl.Node}
def ypw{k:Int}(h:0<=k/\k<=7):decide (Fl.role k=1)=(!decide (k<=2) && !(k==7)):=by
 unfold Fl.role
 by_cases h1:k<=2
 ·rw[if_pos h1,decide_eq_true h1];rfl
 by_cases h2:k<=6
 ·rw[if_neg h1,if_pos h2,decide_eq_false h1];symm;simp;omega
 rw[if_neg h1,if_neg h2,decide_eq_false h1];symm;simp;omega
def zhw(h:Jx w Pb Lq rb clv hv bv lv nv p ls x)(k:Nat)(hk:k<x.length)(ho:zw5 p x (Fl.nth x k))(J0:∀y∈Fl.vars p ls,0<=y/\y<p.n)(K0:∀y∈p.chans,y<p.n)(g0:(Fl.nth x k).level<p.n)(L0:(Fl.nth x k).a<2147483648)(j0:(Fl.nth x k).kind=7):
  Calls prog 19 #[.pointer (some ⟨Pb,0,none⟩),.agg #[lv,nv],.int .i64 k] w λe w'=>e=.returned (.bool (Fl.follows p ls x (Fl.nth x k)))/\Below w.heap.size w w':=by
 obtain⟨b,off,cap,lvl,la,ln,lcp,lc,hf⟩:=h.fw k hk ho.lv g0;obtain⟨rfl,rfl,hz,⟨m0,k0,X0⟩,⟨hbz,c0,c1,c2,c3,c4,c5,v0⟩,x0,Y0,y0⟩:=hf;have p0:=h.p0;have p1:=h.p1;have q1:=h.lq.c lvl m0
 have Z0:(p.n:Int)<=6:=by have:=h.n6;omega
 have a1:(k:Int)<(x.length:Int):=by omega
 rw[<-k0]at c1;have M0:=y0 lvl m0;obtain⟨z0,N0⟩:=ho.k7 j0;obtain⟨len,hlen⟩:=nmE ((Fl.nth x k).list.length);obtain⟨G,hG⟩:=nmE (α:=Nat->Bool) (λi=>decide (Fl.role (Fl.nd x ((Fl.nth x k).list.getD i 0)).kind=1) && p.leq lvl (Fl.nd x ((Fl.nth x k).list.getD i 0)).level.toNat);have HE:Hid (Fl.follows p ls x (Fl.nth x k)=(List.range len).all G):=by
  show _=_;unfold Fl.follows Fl.ruleOf;rw[decide_eq_true g0,if_neg (by omega),if_neg (by omega),if_neg (by omega),if_neg (by omega),if_neg (by omega),if_neg (by omega),if_neg (by omega),Bool.true_and,<-k0,hlen,hG,Bool.eq_iff_iff,List.all_eq_true,List.all_eq_true];unfold Fl.under;simp only[Int.toNat_natCast]
  constructor
  ·intro hh i hi
   have A0:=List.mem_range.1 hi;have e:(Fl.nth x k).list.getD i 0=(Fl.nth x k).list[i]:=(by rw[Qa,Qb A0];rfl);rw[e];exact hh _ (List.getElem_mem A0)
  intro hh q hq;obtain⟨i,hi,rfl⟩:=List.getElem_of_mem hq;have:=hh i (List.mem_range.2 hi);have e:(Fl.nth x k).list.getD i 0=(Fl.nth x k).list[i]:=(by rw[Qa,Qb hi];rfl);rw[e]at this;exact this
 have HN:Hid (∀i,i<len->∃(lb lo j l:Nat) (lnj:Option Addr) (lcj:Nat) (nj:Fl.Node) (v1:Bool),ln=some ⟨lb,lo,none⟩/\(j:Int)<(x.length:Int)/\l<p.n/\At w [(⟨lb,lo+i,none⟩,.int .i64 (j:Int)),(⟨rb lvl,l,none⟩,.bool v1),(⟨b,off+j*6,none⟩,.int .i64 nj.kind),(⟨b,off+j*6+1,none⟩,.int .i64 (l:Int)),(⟨b,off+j*6+2,none⟩,.int .i64 nj.a),(⟨b,off+j*6+3,none⟩,.int .i64 nj.b),(⟨b,off+j*6+4,none⟩,.int .i64 nj.c),(⟨b,off+j*6+5,none⟩,.slice lnj nj.list.length lcj)]/\G i=(!decide (nj.kind<=2) && !(nj.kind==7) && v1)):=λi hi=>by
  rw[hlen]at hi;obtain⟨la2,lc2,e0,-,-,O0⟩:=v0;simp only[Value.slice.injEq]at e0;obtain⟨lb,lo,e8,hlb,P0⟩:=O0 (by intro hh;rw[hh]at hi;simp at hi);have e:(Fl.nth x k).list.getD i 0=(Fl.nth x k).list[i]:=(by rw[Qa,Qb hi];rfl);have hp:=z0 _ (List.getElem_mem hi);obtain⟨j,l,ln',lc',e1,e2,e3,e4,e5,e6,e7,⟨hb,t0,t1,t2,t3,t4,t5,-⟩,-,-,-⟩:=h.named x0 hp;rw[e5]at t1;have c9:=P0 i hi;rw[e,e1]at c9;refine⟨lb,lo,j,l,ln',lc',Fl.nth x j,p.leq lvl l,e0.1.trans e8,e3,e6,⟨⟨hlb,c9⟩,⟨M0,h.lq.r _ _ m0 e6⟩,⟨hb,t0⟩,⟨hb,t1⟩,⟨hb,t2⟩,⟨hb,t3⟩,⟨hb,t4⟩,⟨hb,t5⟩,trivial⟩,?_⟩;have hr:=ypw hp.2.2.2.2;rw[e4]at hr;rw[hG];simp only;rw[e,e4,e5,hr,Int.toNat_natCast]
 have B0:(len:Int)<=100000:=by omega
 have HL:=Zz k0;have HK:=Zz j0;have Q0:=Zz hlen;obtain⟨res,i0⟩:=nmE (Fl.follows p ls x (Fl.nth x k));rw[<-i0]at HE⊢
 have a0:Hid (∀i,i<len->G i=false->res=false):=λi hi hg=>by rw[HE.out];exact List.all_eq_false.2 ⟨i,List.mem_range.2 hi,by rw[hg];simp⟩
 have b0:Hid ((∀i,i<len->G i=true)->res=true):=λhh=>by rw[HE.out];exact List.all_eq_true.2 λi hi=>hh i (List.mem_range.1 hi)
 rw[j0]at c0;rw[<-hlen]at c5;clear x0 h ho J0 K0 g0 j0 v0 y0 k0 i0 L0 z0 N0 hlen HE hG;generalize Fl.nth x k=n at*
 go_enter func19,ntmps19
 go_wp2_with fail
 refine Yz [] (by kernel_rfl) (by kernel_rfl) rfl (λops hG=>?_);clear hG
 iterate 7 still_step
 refine wpStill_nil ?_
 go_wp2_with fail
 refine Yz [] (by kernel_rfl) (by kernel_rfl) rfl (λops hG=>?_);clear hG
 iterate 9 still_step
 refine wpStill_nil ?_
 go_upto_region 40 with fail
 obtain⟨W0,n0⟩:=nmE (((w.alloc (.cells #[.slice la ls.length lcp,.slice (some ⟨b,off,none⟩) x.length cap] 33)).alloc (.cells #[.int .i64 7,.int .i64 (lvl:Int),.int .i64 n.a,.int .i64 n.b,.int .i64 n.c,.slice ln len lc] 59)).drew.drew);have HF:Hid (Jw w W0 (.slice la ls.length lcp) (.slice (some ⟨b,off,none⟩) x.length cap) (.slice ln len lc) n):=by
  have h9:=Jw.new w (.slice la ls.length lcp) (.slice (some ⟨b,off,none⟩) x.length cap) (.slice ln len lc) n;rw[HK.out,<-HL.out,<-n0]at h9;exact h9
 rw[<-n0];have C0:=Zz HF.out.be;have D0:Hid (At W0 [(⟨w.heap.size,1,none⟩,.slice (some ⟨b,off,none⟩) x.length cap),(⟨w.heap.size+1,5,none⟩,.slice ln len lc)]):=⟨⟨HF.out.sz.1,HF.out.s1⟩,⟨HF.out.sz.2,HF.out.t5⟩,trivial⟩;clear p0 p1 c0 c1 c2 c3 c4 c5 q1 n0 HF HL HK Q0
 go_wp2_with fail
 go_loopw [22] (λi wr=>Below w.heap.size w wr/\At wr [(⟨w.heap.size,1,none⟩,.slice (some ⟨b,off,none⟩) x.length cap),(⟨w.heap.size+1,5,none⟩,.slice ln len lc)]/\∃j:Nat,j<=len/\i=.int .i64 j/\∀q,q<j->G q=true) (λi _=>len - (intOf i).toNat)
 case atStart=>exact⟨C0.out,D0.out,0,by omega,rfl,λq hq=>by omega⟩
 case round=>
  obtain⟨hB,E0,i,hi,rfl,hall⟩:=hrel;have HB:=Zz hB;have F0:=Zz E0;have d0:=Zz hall;clear hB E0 hall C0 D0;obtain⟨⟨m5,m4⟩,⟨m7,m6⟩,-⟩:=F0.out;have R0:w.heap.size<wr.heap.size:=m5;have o0:w.heap.size+1<wr.heap.size:=m7;clear m5 m7
  by_cases g0:i<len
  ·obtain⟨lb,lo,j,l,lnj,lcj,nj,v1,rfl,b1,hl,G0,hg⟩:=HN.out i g0
   have HG:=Zz hg;have S0:(i:Int)<(len:Int):=(by omega);have d1:(l:Int)<(p.n:Int):=(by omega);have q0:Hid (G i=false->res=false):=a0.out i g0
   have T0:Hid (G i=true->∀q,q<i+1->G q=true):=λh0 q hq=>by
    by_cases U0:q=i
    ·rw[U0];exact h0
    exact d0.out q (by omega)
   have HS:Hid (∀W,Below wr.heap.size wr W->At W [(⟨w.heap.size,1,none⟩,.slice (some ⟨b,off,none⟩) x.length cap),(⟨w.heap.size+1,5,none⟩,.slice (some ⟨lb,lo,none⟩) len lc),(⟨lb,lo+i,none⟩,.int .i64 (j:Int)),(⟨rb lvl,l,none⟩,.bool v1),(⟨b,off+j*6,none⟩,.int .i64 nj.kind),(⟨b,off+j*6+1,none⟩,.int .i64 (l:Int)),(⟨b,off+j*6+2,none⟩,.int .i64 nj.a),(⟨b,off+j*6+3,none⟩,.int .i64 nj.b),(⟨b,off+j*6+4,none⟩,.int .i64 nj.c),(⟨b,off+j*6+5,none⟩,.slice lnj nj.list.length lcj)]):=λW hW=>At.below hW ⟨⟨R0,m4⟩,⟨o0,m6⟩,G0.below HB.out⟩;have r0:Hid (∀o,Below w.heap.size w (wr.alloc o).drew):=λo=>(HB.out.alloc HB.out.size _).drew;have H0:Hid (At _ _):=((HS.out wr (Below.refl _ _)).node nj.kind l nj.a nj.b nj.c (.slice lnj nj.list.length lcj) 59 wr.heap.size rfl).below (Below.refl _ _).drew;clear hg G0 d0 a0 b0 HN F0
   go_wp2_with fail
   refine Zn HS ((Below.refl _ _).drew) [9] [10] [] (by kernel_rfl) (λc a d v w h=>by cases d<;>exact h) (λops hG=>?_);clear hG
   iterate 9 refine Zw rfl (by rintro _ ⟨⟨-,_⟩,⟨-,_⟩,⟨-,_⟩,-,⟨-,_⟩,⟨-,_⟩,⟨-,_⟩,⟨-,_⟩,⟨-,_⟩,⟨-,_⟩,-⟩;go_simp<;>rfl) (by go_simp<;>rfl) ?_
   refine Zk ?_
   go_wp2_with fail
   refine⟨HS.out _ (bA).drew,?_⟩;refine Xm ?_
   go_wp2_with fail
   refine Zs ?_;clear m4 m6
   go_wp2_with fail
   refine(Jj _ _ _ _ _ _ _ _ _).mono ?_;rintro e w1 ⟨rfl,s0⟩;have I0:Hid (At _ _):=H0.out.below s0;have l0:Hid (Below w.heap.size w w1):=(r0.out _).trans (s0.mono (r0.out _).size);obtain⟨vd,u0⟩:∃v,v=decide (nj.kind<=2):=⟨_,rfl⟩;rw[<-u0]at HG;rw[<-u0];obtain⟨⟨-,f0⟩,⟨-,f1⟩,-,-,-,-,k1,k2,-,⟨-,f2⟩,-⟩:=I0.out;have V0:Hid (At w1 [(⟨w.heap.size,1,none⟩,.slice (some ⟨b,off,none⟩) x.length cap),(⟨w.heap.size+1,5,none⟩,.slice (some ⟨lb,lo,none⟩) len lc)]):=⟨k1,k2,trivial⟩;clear u0 s0 H0 I0 r0 HS k1 k2;have hc:vd=true\/(vd=false/\(nj.kind==7)=true)\/(vd=false/\(nj.kind==7)=false/\v1=false)\/(vd=false/\(nj.kind==7)=false/\v1=true):=by
    cases vd<;>cases nj.kind==7<;>cases v1<;>simp
   rcases hc with rfl|⟨rfl,h7⟩|⟨rfl,h7,rfl⟩|⟨rfl,h7,rfl⟩
   ·have HR:Hid (res=false):=q0.out (by rw[HG.out];rfl)
    go_wp2;go_ret;exact⟨cbE HR.out,l0.out⟩
   ·have HR:Hid (res=false):=q0.out (by rw[HG.out,h7];rfl)
    go_wp2;go_ret;exact⟨cbE HR.out,l0.out⟩
   ·have HR:Hid (res=false):=q0.out (by rw[HG.out,h7];rfl)
    go_wp2;go_ret;exact⟨cbE HR.out,l0.out⟩
   have HR:Hid (∀q,q<i+1->G q=true):=T0.out (by rw[HG.out,h7];rfl);go_wp2
   go_roundw
   case rel=>exact⟨l0.out,V0.out,i+1,by omega,by go_num,HR.out⟩
   case measure=>simp[intOf];omega
  have S0:¬(i:Int)<(len:Int):=(by omega);have HR:Hid (res=true):=b0.out λq hq=>d0.out q (by omega);go_wp2;go_ret;exact⟨cbE HR.out,HB.out⟩
end
end Go.Proofs.YtaaejabalinojaaGreatDoor
