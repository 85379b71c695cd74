import Derived.Test.YtjekbnmnjeoagaaGreatDoorM20
import Derived.Test.YtjekbnmnjeoagaaGreatDoorM28
import Derived.Test.YtjekbnmnjeoagaaGreatDoorM29
import Derived.Test.YtjekbnmnjeoagaaGreatDoorM33
import Derived.Laws.IdiomStrings
set_option linter.all false
set_option maxRecDepth 100000
set_option maxHeartbeats 40000000
namespace Go.Proofs.YtjekbnmnjeoagaaGreatDoor
open Go.RowKit Go.Proofs.Tryz
def ynx{w':World}{lo Pb:Nat}{a b chv bv:Value}{ca:Option Addr}{cc:Nat}{p:Fl.Prog}(hz:Pb<w'.heap.size)(hc:Ze w' Pb 6 (rw_ [a,b,.slice ca p.cells.length cc,chv,Iq (p.locals:Nat),bv]))(hs:Zf 4 (λb=>lo<=b/\b<w'.heap.size) w' bv p.body)(ht:RTab w' a b (.slice ca p.cells.length cc) chv p)
  (ho:p.Ok) (hl:p.Lv):∃Lq rb clv hv,zy2 w' Pb Lq rb clv hv bv p:=by
 obtain⟨rfl,Lq,rb,rfl,h1,h2,h3⟩:=ht;exact⟨Lq,rb,_,_,{hz:=hz,p0:=hc.c 0 (by omega),p1:=hc.c 1 (by omega),p2:=hc.c 2 (by omega),p3:=hc.c 3 (by omega),p4:=hc.c 4 (by omega),p5:=hc.c 5 (by omega),ci:=h2,hi:=h3,lq:=h1,bs:=hs.kept (λb hb=>hb.2) (λb hb=>rfl) 4 _ _,lv:=hl,ok:=ho}⟩
def ywx(res:Nat×Int×List UInt8)(w:World)(e:Ending)(w':World):Prop:=
 Bq w w'/\∃va n c,e=.returned (.tuple #[.slice va n c,.bool true])/\(res.1=0->n=res.2.2.length/\zx7 w' va res.2.2)
def yz6(l:List UInt8)(w:World)(hl:l.length<=40000)(hk:zox w):
  Cq 15 #[.string ⟨l.toArray⟩] w (ywx (Fl.inferE (Fl.readProg l)) w):=by
 have j0:Hid (Cq 16 #[.string ⟨l.toArray⟩] w (za7 (Fl.inferE (Fl.readProg l)) w)):=yx0 hk.er (by omega) hk.mg hk.ml;have p0:Hid (∀W,Cq 8 #[.string ⟨l.toArray⟩] W (Vz (Fl.readProg l) W)):=λW=>yn6 l W hl;have q0:Hid ((Fl.readProg l).1=0->(Fl.readProg l).2.2.Ok/\(Fl.readProg l).2.2.Lv):=λh=>⟨(Fl.readProg_ok l h).1,Fl.readProg_Lv l h⟩;have r0:Hid (Fl.LPos 4 (Fl.readProg l).2.2.body/\Fl.cnt 4 (Fl.readProg l).2.2.body<=16):=⟨Fl.readProg_pos l 4,Fl.readProg_cnt l 4⟩;have y0:Hid ((Fl.readProg l).1=0->(Fl.infer (Fl.readProg l).2.2).1=0->(Fl.encode (Fl.infer (Fl.readProg l).2.2).2.1 (Fl.infer (Fl.readProg l).2.2).2.2).2.1=true):=Fl.readProg_enc;obtain⟨s,H0⟩:=nmE (α:=ByteArray) (⟨l.toArray⟩);obtain⟨q,hq⟩:=nmE (Fl.readProg l);rw[<-hq]at j0 p0 q0 r0 y0⊢;rw[<-H0]at j0 p0⊢;obtain⟨res,e0⟩:=nmE (Fl.inferE q);rw[<-e0]at j0⊢;have a0:=Zz e0;clear hk hl H0 hq e0
 go_enter func15,ntmps15
 go_wp2_with fail
 refine j0.out.mono ?_;rintro e w2 ⟨I0,va,n,c,rfl,ho⟩;have J0:=Zz I0;have s0:Hid (zx7 w2 va res.2.2):=(zx7.of_own ho).2;have i0:Hid (n=res.2.2.length):=(zx7.of_own ho).1;clear I0 ho j0
 go_wp2_with fail
 refine(p0.out w2).mono ?_;rintro e w3 ⟨z0,f0,hgood⟩;have k0:=Zz z0;have A0:Hid (Bq w w3):=J0.out.trans (z0.mono J0.out.size);clear p0 z0
 by_cases h0:q.1=0
 rotate_left
 ·have c0:Hid (res=(q.1,(q.2.1:Int),[])):=by show _=_;rw[a0.out];unfold Fl.inferE;rw[if_pos h0]
  obtain rfl:=f0 h0;have b0:(((q.1:Nat):Int) !=0)=true:=(by rw[bne_iff_ne];omega);have B0:n=0:=(by rw[i0.out,c0.out];rfl);have C0:Hid (res.1≠0):=(by rw[c0.out];exact h0);rw[c0.out];obtain rfl:=B0;clear h0 f0 hgood a0 s0 i0 c0;go_wp2
  go_ret2
  exact⟨A0.out,_,_,_,rfl,λh=>absurd h C0.out⟩
 obtain⟨Pb,a,b,chv,bv,ca,cc,rfl,hlo,R0,K0,hst,l0⟩:=hgood h0;obtain⟨Lq,rb,clv,hv,m0⟩:=ynx R0 K0 hst l0 (q0.out h0).1 (q0.out h0).2;have L0:Hid (Cq 10 #[Pq Pb] w3 (yz5 q.2.2 w3)):=yr8 m0 r0.out.1 r0.out.2;have t0:Hid ((0<(Fl.infer q.2.2).1->res=(7,((Fl.infer q.2.2).1:Int),[]))/\(¬0<(Fl.infer q.2.2).1->res=(0,-1,(Fl.encode (Fl.infer q.2.2).2.1 (Fl.infer q.2.2).2.2).1)/\(Fl.encode (Fl.infer q.2.2).2.1 (Fl.infer q.2.2).2.2).2.1=true)):=by
  have hh:=a0.out;unfold Fl.inferE at hh;rw[if_neg (by rw[h0];simp)]at hh;refine⟨λh=>by rw[hh,if_pos h],λh=>?_⟩;have he:=y0.out h0 (by omega);rw[if_neg h,if_neg (by rw[he];simp)]at hh;exact⟨hh,he⟩
 clear f0 hgood h0 l0 K0 hst m0 q0 r0 y0 a0 hlo
 go_wp2_with fail
 refine L0.out.mono ?_;rintro e w4 ⟨D0,la,ln,lc,na,nn,nc,rfl,M0⟩;have n0:Hid (Bq w2 w4):=k0.out.trans (D0.mono k0.out.size);have u0:Hid (Bq w w4):=A0.out.trans (D0.mono A0.out.size);have E0:=Zz M0;clear D0 M0 L0
 by_cases hp:0<(Fl.infer q.2.2).1
 ·have c0:Hid (res=(7,((Fl.infer q.2.2).1:Int),[])):=t0.out.1 hp
  have B0:n=0:=(by rw[i0.out,c0.out];rfl);have U0:(0:Int)<((Fl.infer q.2.2).1:Int):=(by omega);have C0:Hid (res.1≠0):=(by rw[c0.out];exact(by decide:(7:Nat)≠0));rw[c0.out];obtain rfl:=B0;clear t0 s0 i0 c0 E0;go_wp2
  go_ret2
  exact⟨u0.out.alloc u0.out.size _,_,_,_,rfl,λh=>absurd h C0.out⟩
 obtain⟨F0,d0⟩:=t0.out.2 hp
 have hz:(Fl.infer q.2.2).1=0:=by omega
 obtain⟨N0,O0⟩:=E0.out hz;obtain⟨bl,v0⟩:=nmE ((Fl.encode (Fl.infer q.2.2).2.1 (Fl.infer q.2.2).2.2).1);have S0:Hid (bl≠[]):=by
  rw[v0];intro hh;unfold Fl.encode at d0 hh
  split at d0
  ·cases d0
  split at d0
  ·cases d0
  split at d0
  ·cases d0
  rename_i g1 g2 g3;rw[if_neg g1,if_neg g2,if_neg g3]at hh;simp[Fl.headBytes]at hh
 have P0:Hid (∀W,Bq w4 W->Cq 13 #[.agg #[.slice la ln lc,.slice na nn nc]] W λe w'=>e=.returned (.tuple #[.string ⟨bl.toArray⟩,.bool true,Iq (Fl.encode (Fl.infer q.2.2).2.1 (Fl.infer q.2.2).2.2).2.2])/\Bq W w'):=λW hW=>by
  have:=yr4 _ _ _ _ W.heap.size W (Nat.le_refl _) ((N0.below hW).mono hW.size) ((O0.below hW).mono hW.size);rw[d0,<-v0]at this;exact this
 rw[<-v0]at F0;generalize (Fl.encode (Fl.infer q.2.2).2.1 (Fl.infer q.2.2).2.2).2.2=pl at*;have x0:=Zz F0;rw[hz];clear F0 d0 N0 O0 E0 t0 hp hz v0
 go_wp2_with fail
 refine(P0.out _ (bA)).mono ?_;rintro e w5 ⟨rfl,Q0⟩;have g0:Hid (Bq w4 w5):=((Below.refl w4.heap.size w4).alloc (Nat.le_refl _) _).trans (Q0.mono (by simp));have G0:Hid (Bq w2 w5):=n0.out.trans (g0.out.mono n0.out.size);have T0:Hid (Bq w w5):=u0.out.trans (g0.out.mono u0.out.size)
 have o0:Hid (zx7 w5.drew va bl):=by have:=s0.out.below G0.out.drew;rw[x0.out]at this;exact this
 obtain rfl:n=bl.length:=by rw[i0.out,x0.out]
 have V0:(convert 44 9 (.slice va bl.length c)).run prog w5.drew=.ok (.string ⟨bl.toArray⟩) w5.drew:=ysz o0.out S0.out c;rw[x0.out];clear Q0 P0 g0 s0 i0
 go_wp2_with fail
 refine yrw 2 _ 6 _ (by kernel_rfl) (by kernel_rfl) rfl rfl (λops hY W0=>?_)
 iterate 14 still_step
 refine wpStill_nil ?_;go_wp2
 go_ret2
 exact⟨T0.out.drew,_,_,_,rfl,λ_=>by rw[x0.out];exact⟨rfl,o0.out⟩⟩
def yr9(l:List UInt8)(w:World)(hl:l.length<=1000000000000000000)(hk:zox w):
  Cq 4 #[.string ⟨l.toArray⟩] w λe w'=>e=.returned (.bool true)/\Bq w w':=by
 have hsz:(⟨l.toArray⟩:ByteArray).size=l.length:=by show l.toArray.size=_;simp
 by_cases b0:32768<l.length
 ·have c0:(32768:Int)<(l.length:Int):=by omega
  clear hk
  go_enter func4,ntmps4
  go_wp2;go_ret;exact⟨rfl,Below.refl _ _⟩
 have c0:¬(32768:Int)<(l.length:Int):=by omega
 have HD:Hid (Cq 15 #[.string ⟨l.toArray⟩] w (ywx (Fl.inferE (Fl.readProg l)) w)):=yz6 l w (by omega) hk;clear hk
 go_enter func4,ntmps4
 go_wp2_with fail
 refine HD.out.mono ?_;rintro e w1 ⟨a0,va,n,c,rfl,-⟩;have d0:=Zz a0;clear HD a0;go_wp2;go_ret;exact⟨rfl,d0.out⟩
end Go.Proofs.YtjekbnmnjeoagaaGreatDoor
