import Derived.Test.YtjmcibbdedlcoaaGreatDoorM15
import Derived.Test.YtjmcibbdedlcoaaGreatDoorM22
import Derived.OpenShut
import Derived.Test.YtjmcibbdedlcoaaGreatDoorTie
import Derived.Test.YtjmcibbdedlcoaaGreatDoorCards
import Derived.SevenTiedAt
import Derived.ChangeSlices
import Derived.SizedLaws
import Derived.Carry
import Derived.HandedShaped
import Derived.Shelf.Vars
import Derived.Lib.LaidTab
import Derived.LaidMore
set_option linter.all false
set_option maxRecDepth 100000
set_option maxHeartbeats 40000000
namespace Go.Proofs.YtjmcibbdedlcoaaGreatDoor
open Go.RowKit Go.Proofs.Tryz List World Region Value Act Fl
variable{w W:World}{l s:K}{ao:Option Addr}{cap base:Nat}
def Fl.kP(p:aV)(ls:Is)(x:List ar):((check p ls x).1=0->check p ls x=(0,-1))/\((check p ls x).1=10->check p ls x=(10,-1)):=by
 unfold check
 split
 ·exact⟨λh=>by simp at h,λ_=>rfl⟩
 split
 ·exact⟨λh=>by simp at h,λh=>by simp at h⟩
 split
 ·exact⟨λ_=>rfl,λh=>by simp at h⟩
 exact⟨λh=>by simp at h,λ_=>rfl⟩
def Ui.pF{Pb:Nat}{p:aV}{lv nv:Value}{ls:Is}{x:List ar}(h:Ui (λb=>b<w.heap.size) w Pb p)(ho:p.Ok)(hv:p.n<=6/\(∀y∈p.cells,y<p.n)/\∀y∈p.aj,y<p.n)(hd:zu7 ls x)(hl:Zw w.heap.size w lv ls)(hn:Yz w.heap.size w nv x):
  ∃Lb bC hv bv,CpIn w Pb Lb bC hv bv lv nv p (λb=>b<w.heap.size) ls x:=by
 obtain⟨Lb,bC,bH,bv,h1,h2,h3,h4,h5,h6,h7⟩:=h;exact⟨Lb,bC,bH,bv,{hz:=⟨h1,h2⟩,p0:=h3.c 0 (by omega),p1:=h3.c 1 (by omega),p2:=h3.c 2 (by omega),p3:=h3.c 3 (by omega),p4:=h3.c 4 (by omega),la:=h4,ci:=h5.ints (λb hb=>hb),hi:=h6.ints (λb hb=>hb),bs:=h7,hS:=λb hb=>hb,li:=hl,no:=hn,n6:=hv.1,cl:=⟨ho.ce,ho.ch⟩,cv:=hv.2,kd:=zgx 4 _ ho.aZ,l0:=hd.l0,x0:=hd.x0,xo:=hd.qt}⟩
def yf8(r:(Is×List ar)×Bool×Int)(w:World)(e:Ending)(w':World):Prop:=
 E w w'/\
 (r.2.1=false->∃q,e=.returned (.tuple #[.agg #[Zq,Zq],.iface 78 (M q)])/\w'.cell? (Y q 0)=some (I 8)/\w'.cell? (Y q 1)=some (I r.2.2))/\
 (r.2.1=true->∃la n lc na n' nc,e=.returned (.tuple #[.agg #[J la n lc,J na n' nc],.nilIface])/\Zw w'.heap.size w' (J la n lc) r.1.1/\Yz w'.heap.size w' (J na n' nc) r.1.2)
def yf9(aX:Nat×Int)(w:World)(e:Ending)(w':World):Prop:=
 E w w'/\((aX=(0,-1)/\e=.returned .nilIface)\/(aX=(10,-1)/\e=.returned (.iface 24 (I 10)))\/∃a,e=.returned (.iface 78 (M a))/\w'.cell? (Y a 0)=some (I aX.1)/\w'.cell? (Y a 1)=some (I aX.2))
def yq5(hl:l.length<=100000)(hg:1<w.heap.size)(hm:Yg w)(c0:∀w1:World,E w w1->F 26 #[J ao s.length cap] w1 (yf8 (Fl.decode s) w1)):
  F 15 #[Tq l,J ao s.length cap] w (yf9 (checked (aq l) (Fl.decode s)) w):=by
 have j0:O (F 25 #[Tq l] w (zt0 (aq l) w)):=zk8 hl hg hm;have g0:=A c0;have k0:O ((aq l).1=0->(aq l).2.2.Ok):=λh=>(dO l h).1;have l0:O ((aq l).2.2.n<=6/\(∀y∈(aq l).2.2.cells,y<(aq l).2.2.n)/\∀y∈(aq l).2.2.aj,y<(aq l).2.2.n):=iY l;have m0:O ((Fl.decode s).2.1=true->zu7 (Fl.decode s).1.1 (Fl.decode s).1.2):=yzv;obtain⟨q,hq⟩:=U (aq l);obtain⟨d,hd⟩:=U (Fl.decode s);rw[<-hq]at j0 k0 l0⊢;rw[<-hd]at g0 m0⊢;clear hq hd hl hg hm c0
 go_enter func15,ntmps15
 go_wp2_with fail
 refine j0.mono ?_;rintro e w1 ⟨p0,d0⟩;have i0:=A p0;clear p0 j0;rcases d0 with⟨h0,Pb,rfl,hp⟩|⟨h0,a,rfl,a0,a1⟩
 ·have HP:O (Ui (λb=>b<w1.heap.size) w1 Pb q.2.2):=hp.kept (λb hb=>hb.2) (λ_ _=>rfl)
  have H0:=A h0;clear hp h0
  go_wp2_with fail
  refine(g0 _ i0).mono ?_;rintro e w2 ⟨n0,b0,aQ⟩;have q0:=A n0;have e0:O (E w w2):=i0.trans (n0.mono i0.size);clear n0
  cases hr:d.2.1 with
  |false=>
   obtain⟨a,rfl,a0,a1⟩:=b0 hr;have HE:O (checked q d=(8,d.2.2)):=(by show _=_;unfold Fl.checked;rw[Z (by rw[H0.out];simp),G hr]);have ha:a<w2.heap.size:=Qe w2 _ a0;have A0:=A a0;have A1:=A a1;clear b0 aQ hr a0 a1
   go_wp2_with fail
   go_ret;refine⟨e0.alloc e0.size _,.inr (.inr ⟨a,rfl,?_,?_⟩)⟩
   ·rw[HE.out];exact(Qf _ _ _ ha).trans A0.out
   rw[HE.out];exact(Qf _ _ _ ha).trans A1.out
  |true=>
   obtain⟨la,n,lc,na,n',nc,rfl,hi,hn⟩:=aQ hr;have HE:O (checked q d=check q.2.2 d.1.1 d.1.2):=(by show _=_;unfold Fl.checked;rw[Z (by rw[H0.out];simp),Z (by rw[hr];simp)])
   have r0:O (∀W,E w2 W->F 27 #[M Pb,.agg #[J la n lc,J na n' nc]] W (yf1 (check q.2.2 d.1.1 d.1.2) W)):=λW hW=>by
    have s0:=m0 hr;have hw:=q0.trans (hW.mono q0.size);have u0:Ui (λb=>b<W.heap.size) W Pb q.2.2:=HP.kept (λb hb=>Qj hb hw.size) (λb hb=>hw.block b hb);obtain⟨Lb,bC,hv,bv,v0⟩:=u0.pF (k0 H0) l0 s0 ((hi.below hW).mono hW.size) ((hn.below hW).mono hW.size);exact ykx v0 (λ_ _=>s0.pH)
   clear b0 aQ hr hi hn m0 g0 HP k0 l0
   go_wp2_with fail
   refine(r0 _ (bA)).mono ?_;rintro e w3 ⟨t0,hc⟩;have o0:O (E w w3):=(e0.alloc e0.size _).trans (t0.mono (by have:=e0.size;simp;omega));have f0:O (((check q.2.2 d.1.1 d.1.2).1=0->check q.2.2 d.1.1 d.1.2=(0,-1))/\((check q.2.2 d.1.1 d.1.2).1=10->check q.2.2 d.1.1 d.1.2=(10,-1))):=kP _ _ _;clear t0 r0;rcases hc with⟨h0,rfl⟩|⟨h0,rfl⟩|⟨h0,a,rfl,a0,a1⟩
   ·have HZ:O (checked q d=(0,-1)):=HE.trans (f0.1 h0)
    clear h0 HE f0;go_wp2;go_ret;exact⟨o0,.inl ⟨HZ,rfl⟩⟩
   ·have HZ:O (checked q d=(10,-1)):=HE.trans (f0.2 h0)
    clear h0 HE f0;go_wp2;go_ret;exact⟨o0,.inr (.inl ⟨HZ,rfl⟩)⟩
   have A0:O (D w3 a 0 (I (checked q d).1)):=(by show _=_;rw[HE.out,h0];exact a0);have A1:O (D w3 a 1 (I (checked q d).2)):=(by show _=_;rw[HE.out];exact a1);clear h0 a0 a1 HE f0;go_wp2;go_ret;exact⟨o0,.inr (.inr ⟨a,rfl,A0,A1⟩)⟩
 have HE:O (checked q d=(q.1,(q.2.1:Int))):=by show _=_;unfold Fl.checked;rw[G h0]
 clear h0 g0;go_wp2;go_ret;refine⟨i0,.inr (.inr ⟨a,rfl,?_,?_⟩)⟩
 ·rw[HE.out];exact a0
 rw[HE.out];exact a1
def yq6(hE:Um w)(hl:l.length<=100000)(hg:1<w.heap.size)(hm:Yg w)(c0:∀w1:World,E w w1->F 26 #[J ao s.length cap] w1 (yf8 (Fl.decode s) w1)):
  F 5 #[Tq l,J ao s.length cap] w (Rw (.tuple #[I (checked (aq l) (Fl.decode s)).1,I (checked (aq l) (Fl.decode s)).2]) w):=by
 have HC:O (F 15 #[Tq l,J ao s.length cap] w (yf9 (checked (aq l) (Fl.decode s)) w)):=yq5 hl hg hm c0;have f0:O (∀o,E w o->Um o):=λo ho=>(ho.cell (p:=⟨0,0,none⟩) (Qe w _ hE)).trans hE;obtain⟨aX,d0⟩:=U (checked (aq l) (Fl.decode s));rw[<-d0]at HC⊢;clear hl hg hm c0 hE d0
 go_enter func5,ntmps5
 go_wp2_with fail
 refine HC.mono ?_;rintro e w1 ⟨hB,hc⟩;have HB:=A hB;clear hB HC;rcases hc with⟨rfl,rfl⟩|⟨rfl,rfl⟩|⟨a,rfl,a0,a1⟩
 ·go_wp2_with fail
  refine(zhv _).mono ?_;rintro e w2 ⟨rfl,b0⟩;have e0:O (E w w2):=HB.trans (b0.mono HB.size);clear b0;go_wp2
  go_ret2
  exact⟨rfl,e0⟩
 ·go_wp2_with fail
  refine(zm6 10 _ (f0 _ HB)).mono ?_;rintro e w2 ⟨rfl,b0⟩;have e0:O (E w w2):=HB.trans (b0.mono HB.size);clear b0;go_wp2
  go_ret2
  exact⟨rfl,e0⟩
 obtain⟨n,p⟩:=aX;have A0:=A a0;have A1:=A a1;clear a0 a1
 go_wp2_with fail
 refine(zc5 a 0 (n:Int) p _ (f0 _ HB) A0 A1).mono ?_;rintro e w2 ⟨rfl,b0⟩;have e0:O (E w w2):=HB.trans (b0.mono HB.size);clear b0;go_wp2
 go_ret2
 exact⟨rfl,e0⟩
end Go.Proofs.YtjmcibbdedlcoaaGreatDoor
namespace Go.Proofs.YtjmcibbdedlcoaaGreatDoor
open Go.Proofs.Tryz List World Region Value Act Fl
variable{w W:World}{l s:K}{ao:Option Addr}{cap base:Nat}
namespace Fl
def bA:K:=[70,80,49,0,6,1,0,0,3,0,1,0,1,1,1,4,0,1,2,4,0,0,0,7,0,3,1,3,4]
end Fl
open Go.RowKit
def zb3(hE:Um w)(hl:l.length<=100000)(hg:1<w.heap.size)(hm:Yg w)(hs:s.length<=1099511627776)(hb:zw4 w ao s):
  F 5 #[Tq l,J ao s.length cap] w (Rw (.tuple #[I (checked (aq l) (Fl.decode s)).1,I (checked (aq l) (Fl.decode s)).2]) w):=by
 refine yq6 hE hl hg hm (λw1 hw1=>?_);refine(yr4 (cap:=cap) (ao:=ao) (s:=s) (w:=w1) hs (hb.below hw1)).mono ?_;rintro e w' ⟨h1,h2,h3⟩;refine⟨h1,h2,λh=>?_⟩;obtain⟨la,n,lc,na,n',nc,e1,e2⟩:=h3 h;exact⟨la,n,lc,na,n',nc,e1,e2 w' ⟨lE,λ_ _ _=>rfl⟩⟩
def secret_any(s b:ByteArray)(l t:K)(L0:s=⟨l.toArray⟩)(C1:b=⟨t.toArray⟩)(one two:Is)(oa ta:Option Addr)(oc tc:Nat)(lev fuel:Int)(w:World)(hl:l.length<=1000000000000000000)(ht:t.length<=1000000000000000000)(ho:one.length<=1000000000000000000)(hw:two.length<=1000000000000000000)(b4: -9223372036854775808<=lev/\lev<=9223372036854775807)(hk:zky w)(h1:Zw w.heap.size w (J oa one.length oc) one)(h2:Zw w.heap.size w (J ta two.length tc) two):
  F 3 #[.string s,.string b,J oa one.length oc,J ta two.length tc,I lev,I fuel] w (Rw (.bool true) w):=by
 have HK:O (∀W,E w W->zky W):=λW hW=>hk.below hW
 have cH:s.size=l.length:=by rw[L0];rfl
 have ee:b.size=t.length:=by rw[C1];rfl
 obtain⟨n1,M0⟩:∃n,n=one.length:=⟨_,rfl⟩;obtain⟨n2,N0⟩:∃n,n=two.length:=⟨_,rfl⟩;rw[<-M0]at h1 ho⊢;rw[<-N0]at h2 hw⊢
 have t4:(l.length:Int)<=1000000000000000000:=by omega
 have u4:(t.length:Int)<=1000000000000000000:=by omega
 have x4:(n1:Int)<=1000000000000000000:=by omega
 have y4:(n2:Int)<=1000000000000000000:=by omega
 clear hk
 by_cases i2:32768<l.length+t.length+n1+n2
 ·have f4:(32768:Int)<(l.length:Int)+(t.length:Int)+(n1:Int)+(n2:Int):=by omega
  clear HK L0 C1 h1 h2 M0 N0
  go_enter func3,ntmps3
  go_wp2;go_ret;exact⟨rfl,Below.refl _ _⟩
 have f4:¬(32768:Int)<(l.length:Int)+(t.length:Int)+(n1:Int)+(n2:Int):=by omega
 have O0:O (l.length<=32768/\t.length<=32768):=by show _/\_;omega
 have j2:=A L0
 have g3:O (F 4 #[.string s] w (Vp (aq l) w)):=by rw[L0];exact ygz l w (by omega)
 have D1:O (∀W,E w W->F 6 #[.string s] W (yt0 (bV (aq l)) W)):=λW hW=>by
  rw[j2.out];exact yry (HK W hW).er (by have:=O0.out;omega) (HK W hW).mg (HK W hW).ml
 have E1:O (∀W ao cap (x:K),E w W->x.length<=1099511627776->zw4 W ao x->F 5 #[.string s,J ao x.length cap] W (Rw (.tuple #[I (checked (aq l) (Fl.decode x)).1,I (checked (aq l) (Fl.decode x)).2]) W)):=λW ao cap x hW hx hb=>by
  rw[j2.out];exact zb3 (HK W hW).er (by have:=O0.out;omega) (HK W hW).mg (HK W hW).ml hx hb
 have P0:O (∀W (cv:Value) (cs:List Nat),E w W->cs.length<=100000->zyv W cv cs->F 8 #[.string s,cv,I fuel] W (ys3 (aq l) cs (min (max fuel 0) 2000).toNat W)):=λW cv cs hW hc hu=>by
  rw[j2.out];exact yf7 fuel _ (by omega) (HK W hW).er (by have:=O0.out;omega) (HK W hW).mg (HK W hW).ml hu hc
 have i3:∀W:World,(convert 9 29 (.string b)).run prog W=.ok (Sq W.heap.size 0 t.length (grownCap W t.length 0 5)) (Lib.bytesWorld W 5 b):=λW=>by rw[<-ee];exact Lib.run_convert_string_bytes W 9 29 5 b underlying9 underlying29 underlying5
 have F1:O (∀W:World,zw4 (Lib.bytesWorld W 5 b) (some (Y W.heap.size 0)) t/\E W (Lib.bytesWorld W 5 b)):=λW=>by
  rw[C1];exact⟨(yt1 W t).1,(yt1 W t).2.1⟩
 have l2:O ((aq l).1≠0->(checked (aq l) (Fl.decode t)).1=(aq l).1):=λh=>by
  unfold Fl.checked;rw[G h]
 have m2:O ((aq l).1=0->(bV (aq l)).1=0\/((bV (aq l)).1=7/\(checked (aq l) (Fl.decode t)).1≠0)):=λh=>kR t h;have o2:O ((bV (aq l)).1=0->checked (aq l) (Fl.decode (bV (aq l)).2.2)=(0,-1)/\3<=(bV (aq l)).2.2.length/\(bV (aq l)).2.2.length<=100000):=λh=>⟨mj h,mi h,mh h⟩;have t2:O (∀x:K,(aq l).1=0->(checked (aq l) (Fl.decode x)).1=0->∃ls y,fO (aq l).2.2 ls y):=λx h hc=>oT h hc;have G1:O ((aq l).1=0->(aq l).2.2.Ok/\(aq l).2.2.Lv):=λh=>⟨(dO l h).1,eN l h⟩
 have H1:O (∀W,E w W->∀k,k<n1->(n1:Int)<=(oc:Int)/\∃b off,oa=some (Y b off)/\D W b (off+k) (I (one.getD k 0))):=λW hW k hk=>by
  obtain⟨a,c,e,h3,-,h6⟩:=h1;simp only[slice.injEq]at e;obtain⟨b,off,h7,h8,h9⟩:=h6 (by intro h;rw[h]at M0;simp at M0;omega);exact⟨by rw[e.2.2];omega,b,off,by rw[e.1,h7],cT hW h8 (h9 k (by omega))⟩
 have H2:O (∀W,E w W->∀k,k<n2->(n2:Int)<=(tc:Int)/\∃b off,ta=some (Y b off)/\D W b (off+k) (I (two.getD k 0))):=λW hW k hk=>by
  obtain⟨a,c,e,h3,-,h6⟩:=h2;simp only[slice.injEq]at e;obtain⟨b,off,h7,h8,h9⟩:=h6 (by intro h;rw[h]at N0;simp at N0;omega);exact⟨by rw[e.2.2];omega,b,off,by rw[e.1,h7],cT hW h8 (h9 k (by omega))⟩
 have z2:O (∀k,¬k<n1->one.getD k 0=0):=λk hk=>by rw[Qa,getElem?_eq_none (by omega)];rfl
 have A2:O (∀k,¬k<n2->two.getD k 0=0):=λk hk=>by rw[Qa,getElem?_eq_none (by omega)];rfl
 clear L0 C1 hl ht h1 h2 M0 N0 ho hw i2;generalize aq l=q at*;generalize bV q=aX at*
 go_enter func3,ntmps3
 go_wp2_with fail
 refine g3.mono ?_;rintro e w1 ⟨j3,s0,aQ⟩;have F0:=A j3;clear j3 g3
 by_cases h0:q.1=0
 rotate_left
 ·obtain rfl:=s0 h0
  have e1:=l2 h0;have b0:(((q.1:Nat):Int) !=0)=true:=(by rw[bne_iff_ne];omega);clear s0 aQ h0 l2 m2 o2 D1 P0 t2 G1 H1 H2 z2 A2
  go_wp2_with fail
  clear i3;obtain⟨cap,e0⟩:=U (grownCap w1 t.length 0 5);obtain⟨a0,l0⟩:=F1 w1;obtain⟨WB,x0⟩:=U (Lib.bytesWorld w1 5 b);rw[<-e0,<-x0];rw[<-x0]at a0 l0;have y0:O (E w WB):=F0.trans (l0.mono F0.size);have Q0:=A (E1 WB (some (Y w1.heap.size 0)) cap t y0 (by have:=O0.out;omega) a0);clear e0 x0 a0 l0 F1;refine Q0.mono ?_;rintro e w3 ⟨rfl,R0⟩;have z0:O (E w w3):=y0.trans (R0.mono y0.size);rw[e1];clear e1 R0 Q0;go_wp2;go_ret;exact⟨by simp,z0⟩
 obtain⟨Pb,p1,p2,bH,bv,ca,cc,rfl,-,hz,l3,-,m3⟩:=aQ h0;obtain⟨Lq,rb,n3⟩:=scin_of hz l3 m3 (G1 h0).2;have HP:O (∀W,E w1 W->ScIn W Pb Lq rb (J ca q.2.2.cells.length cc) bH q.2.2):=λW hW=>n3.below hW;have S0:O (q.2.2.Ok/\q.2.2.Lv):=G1 h0;have I1:=m2 h0;have B2:O (∀x:K,(checked q (Fl.decode x)).1=0->∃ls y,fO q.2.2 ls y):=λx=>t2 x h0;have o3:=A h0;clear s0 aQ l2 m2 h0 hz l3 m3 n3 t2 G1
 go_wp2_with fail
 clear i3;obtain⟨cap,e0⟩:=U (grownCap w1 t.length 0 5);obtain⟨a0,l0⟩:=F1 w1;obtain⟨WB,x0⟩:=U (Lib.bytesWorld w1 5 b);rw[<-e0,<-x0];rw[<-x0]at a0 l0;have y0:=A l0;have Q0:=A (E1 WB (some (Y w1.heap.size 0)) cap t (F0.trans (l0.mono F0.size)) (by have:=O0.out;omega) a0);clear e0 x0 a0 l0 F1;refine Q0.mono ?_;rintro e w3 ⟨rfl,R0⟩;have z0:O (E w1 w3):=y0.trans (R0.mono y0.size);obtain⟨g,hg⟩:=U (checked q (Fl.decode t));have p3:=A hg;rw[<-hg]at I1⊢;clear hg R0 Q0 y0;have m0:O (∀W,E w1 W->E w W):=λW hW=>F0.trans (hW.mono F0.size)
 go_upto_if 76 with fail
 go_cut [18] (λe wc=>e=I 0/\E w1 wc/\∃ls y,fO q.2.2 ls y)
 case first=>
  by_cases J1:g.1=0
  ·have b1:(((g.1:Nat):Int) !=0)=false:=by rw[J1];rfl
   have HV:O (∃ls y,fO q.2.2 ls y):=B2 t (by rw[<-p3.out];exact J1);have g4:((g.1:Nat):Int)=0:=(by omega);clear I1 J1;go_wp2
   go_meet
   case rel=>exact⟨by rw[g4],z0,HV⟩
  have b1:(((g.1:Nat):Int) !=0)=true:=(by rw[bne_iff_ne];omega)
  go_wp2_with fail
  refine(D1 _ (m0 _ z0)).mono ?_;rintro e w4 ⟨q3,va,n,c,rfl,ho⟩;have K1:O (E w1 w4):=z0.trans (q3.mono z0.size);have C2:O (zw4 w4 va aX.2.2):=(zw4.dD ho).2;obtain rfl:n=aX.2.2.length:=(zw4.dD ho).1;clear q3 ho D1 b1 J1;rcases I1 with h7|⟨h7,-⟩
  ·obtain⟨f1,f2,f3⟩:=o2 h7
   have D2:=A (E1 w4 va c aX.2.2 (m0 _ K1) (by omega) C2);have HV:O (∃ls y,fO q.2.2 ls y):=B2 aX.2.2 (by rw[f1]);rw[f1]at D2;rw[h7];clear f1 f2 f3 C2 h7;generalize aX.2.2.length=bl at*
   go_wp2_with fail
   refine D2.mono ?_;rintro e w5 ⟨rfl,G0⟩;have T0:O (E w1 w5):=K1.trans (G0.mono K1.size);clear G0 D2;go_wp2
   go_meet
   case rel=>exact⟨rfl,T0,HV⟩
  rw[h7];clear C2 h7;generalize aX.2.2.length=bl at*;go_wp2;go_ret;exact⟨rfl,m0 _ K1⟩
 case rest=>
  obtain⟨rfl,E2,L1⟩:=hcut;obtain⟨W3,r3⟩:=U (wc);rw[<-r3]at E2⊢;have U0:=A E2;have s3:=A L1;clear r3 E2 L1 I1 p3 z0 B2 o2 E1 D1;have t3:0<q.2.2.n:=(by have:=S0.2.aI;omega);have h4:q.2.2.n<=6:=S0.2.n6;have u3:=A (yf5 lev q.2.2.n W3 b4 ⟨t3,h4⟩);have F2:O (zmx lev q.2.2.n<q.2.2.n):=Nat.mod_lt _ t3;have c0:=(HP W3 U0).p0
  go_wp2_with fail
  refine u3.mono ?_;rintro e w' ⟨rfl,hw'⟩;rw[hw'];clear hw' w' u3 c0;generalize zmx lev q.2.2.n=L at*;have V0:L<q.2.2.n:=F2.out;have z4:(L:Int)<(q.2.2.n:Int):=(by omega);have A4:(q.2.2.n:Int)<=6:=(by omega);have B4:(q.2.2.cells.length:Int)<=6:=(by have:=S0.1.ce;omega);obtain⟨i0,v3,x3,y3,z3⟩:=info_parts Tryz.infoU32P
  go_wp2_with fail
  go_loopw [24,25,26,27,28] (λx y i _ _ wr=>∃k:Nat,k<=q.2.2.cells.length/\i=I k/\Ue W3 wr x y (Vn (zz1 q.2.2 one) k) (Vn (zzv q.2.2 one two L) k)) (λ_ _ i _ _ _=>q.2.2.cells.length - (intOf i).toNat)
  case atStart=>exact⟨0,Nat.zero_le _,rfl,⟨Below.refl _ _,ownsRow_nil _ _ _ _,ownsRow_nil _ _ _ _,λb h=>by cases h⟩⟩
  case round=>
   obtain⟨k,hk,rfl,W0⟩:=hrel;have A0:=A W0;obtain⟨xa,xc,hx⟩:=W0.shape;obtain⟨ya,yc,hy⟩:=W0.symm.shape;rw[zz2]at hx hy;subst hx;subst hy;have hB:=U0.trans (W0.be.mono U0.size);have hP:=HP wr hB;have M1:O (E w wr):=m0 wr hB;have p2:=hP.p2;clear W0 hB
   by_cases n0:k<q.2.2.cells.length
   ·have i4:(k:Int)<(q.2.2.cells.length:Int):=by omega
    have H0:=A hP;clear hP
    go_upto_if 113 with fail
    go_cut [27] (λa wc=>a=.int .u32 (zz1 q.2.2 one k:Nat)/\wc=wr)
    case first=>
     by_cases h1:k<n1
     ·have G2:(k:Int)<(n1:Int):=by omega
      obtain⟨N1,b1,o1,rfl,d1⟩:=H1 wr M1 k h1;have HX:O (int .u32 (one.getD k 0 % 4294967296)=.int .u32 (zz1 q.2.2 one k:Nat)):=(by show _=_;unfold zz1;rw[<-yy1]);generalize one.getD k 0=x at*;go_wp2
      go_meet
      case rel=>exact⟨HX,rfl⟩
     have G2:¬(k:Int)<(n1:Int):=(by omega);have HX:O (int .u32 0=.int .u32 (zz1 q.2.2 one k:Nat)):=(by show _=_;unfold zz1;rw[z2 k h1];rfl);go_wp2
     go_meet
     case rel=>exact⟨HX,rfl⟩
    case rest=>
     obtain⟨rfl,o0⟩:=hcut;rw[o0];clear o0 wc
     go_upto_if 122 with fail
     go_cut [28] (λa wc=>a=.int .u32 (zs9 (two.getD k 0):Nat)/\wc=wr)
     case first=>
      by_cases h1:k<n2
      ·have G2:(k:Int)<(n2:Int):=by omega
       obtain⟨N1,b1,o1,rfl,d1⟩:=H2 wr M1 k h1;have HX:O (int .u32 (two.getD k 0 % 4294967296)=.int .u32 (zs9 (two.getD k 0):Nat)):=(by show _=_;rw[<-yy1]);generalize two.getD k 0=x at*;go_wp2
       go_meet
       case rel=>exact⟨HX,rfl⟩
      have G2:¬(k:Int)<(n2:Int):=(by omega);have HX:O (int .u32 0=.int .u32 (zs9 (two.getD k 0):Nat)):=(by show _=_;rw[A2 k h1];rfl);go_wp2
      go_meet
      case rel=>exact⟨HX,rfl⟩
     case rest=>
      obtain⟨rfl,o0⟩:=hcut;rw[o0];clear o0 wc;obtain⟨-,j4,cb,co,rfl,e2⟩:=H0.ci.nat n0;have B0:=H0.lv.ce (q.2.2.cells.getD k 0) (by rw[Qa,Qb n0];exact getElem_mem _);have e3:=H0.lq.c _ B0;have e4:=H0.lq.r _ L B0 V0;have p1:=H0.p1;have I2:O (zzv q.2.2 one two L k=if q.2.2.leq (q.2.2.cells.getD k 0) L then zz1 q.2.2 one k else zs9 (two.getD k 0)):=rfl;generalize q.2.2.cells.getD k 0=z at*;have l4:(z:Int)<(q.2.2.n:Int):=(by omega);clear H0 B0
      go_wp2_with fail
      go_quiet (fail)
      go_upto_if 143 with fail
      go_cut [28] (λd wc=>d=.int .u32 (zzv q.2.2 one two L k:Nat)/\E wr wc)
      case first=>
       cases hq:q.2.2.leq z L
       ·have HX:O (int .u32 (zs9 (two.getD k 0):Nat)=.int .u32 (zzv q.2.2 one two L k:Nat)):=by show _=_;rw[I2.out,hq];rfl
        go_wp2
        go_meet
        case rel=>exact⟨HX,below_drewN (Below.refl _ _) _⟩
       have HX:O (int .u32 (zz1 q.2.2 one k:Nat)=.int .u32 (zzv q.2.2 one two L k:Nat)):=(by show _=_;rw[I2.out,hq];rfl);go_wp2
       go_meet
       case rel=>exact⟨HX,below_drewN (Below.refl _ _) _⟩
      case rest=>
       obtain⟨rfl,o0⟩:=hcut;clear p1 p2 e2 e3 e4 I2;obtain⟨Wd,J2⟩:=U (wc);have A3:O (Ue W3 Wd (J xa k xc) (J ya k yc) (Vn (zz1 q.2.2 one) k) (Vn (zzv q.2.2 one two L) k)):=(by rw[J2];exact A0.below o0);rw[<-J2];clear J2 o0 A0;obtain⟨Wm,O1⟩:=U (Wd.alloc (.cells #[.int .u32 (zz1 q.2.2 one k:Nat)] 38));have P1:O (Ue W3 Wm (J xa k xc) (J ya k yc) (Vn (zz1 q.2.2 one) k) (Vn (zzv q.2.2 one two L) k)):=(by rw[O1];exact A3.below (bA));have t0:∀i u,([.int .u32 (zz1 q.2.2 one k:Nat)]:Vs)[i]?=some u->Wm.cell? (((Y Wd.heap.size 0):Addr).add i)=some u:=(by rw[O1];exact Xw);have K2:W3.heap.size<=Wm.heap.size:=P1.be.size;have HO:O (Wm.ownsRow W3.heap.size 38 1 (J xa k xc) k (Vr (Vn (zz1 q.2.2 one) k))):=(by have h:=P1.ox;rw[zz2]at h;exact h);have B3:O (Wd.alloc (.cells #[.int .u32 (zz1 q.2.2 one k:Nat)] 38)=Wm):=O1.symm;clear O1 A3
       go_wp2_with (at_builtin;rw[B3.out];refine Ap underlying37 v3 x3 y3 z3 rfl HO rfl [.int .u32 (zz1 q.2.2 one k:Nat)] rfl rfl t0 ?c2 ?c3 ?c4 ?c5 ?_)
       case c2=>intro u hu;simp at hu;subst hu;rfl
       case c3=>unfold maxLen;omega
       case c4=>omega
       case c5=>omega
       intro v4 W4 q0 C3 X0;have L2:O (Ue W3 W4 v4 (J ya k yc) (Vn (zz1 q.2.2 one) (k+1)) (Vn (zzv q.2.2 one two L) k)):=by
        rw[zd6];exact P1.add (by rw[zz2];exact q0) C3 X0
       obtain⟨xa',xc',D3⟩:=L2.shape;rw[zz2]at D3;subst D3;clear q0 C3 X0 t0 HO B3 P1 K2;obtain⟨Wn,Q1⟩:=U (W4.alloc (.cells #[.int .u32 (zzv q.2.2 one two L k:Nat)] 38));have R1:O (Ue W3 Wn (J ya k yc) (J xa' (k+1) xc') (Vn (zzv q.2.2 one two L) k) (Vn (zz1 q.2.2 one) (k+1))):=(by rw[Q1];exact(L2.below (bA)).symm);have t0:∀i u,([.int .u32 (zzv q.2.2 one two L k:Nat)]:Vs)[i]?=some u->Wn.cell? (((Y W4.heap.size 0):Addr).add i)=some u:=(by rw[Q1];exact Xw);have K2:W3.heap.size<=Wn.heap.size:=R1.be.size;have HO:O (Wn.ownsRow W3.heap.size 38 1 (J ya k yc) k (Vr (Vn (zzv q.2.2 one two L) k))):=(by have h:=R1.ox;rw[zz2]at h;exact h);have E3:O (W4.alloc (.cells #[.int .u32 (zzv q.2.2 one two L k:Nat)] 38)=Wn):=Q1.symm;clear Q1 L2
       go_wp2_with (at_builtin;rw[E3.out];refine Ap underlying37 v3 x3 y3 z3 rfl HO rfl [.int .u32 (zzv q.2.2 one two L k:Nat)] rfl rfl t0 ?d2 ?d3 ?d4 ?d5 ?_)
       case d2=>intro u hu;simp at hu;subst hu;rfl
       case d3=>unfold maxLen;omega
       case d4=>omega
       case d5=>omega
       intro v5 W5 r0 F3 Y0;have m4:O (Ue W3 W5 (J xa' (k+1) xc') v5 (Vn (zz1 q.2.2 one) (k+1)) (Vn (zzv q.2.2 one two L) (k+1))):=by
        rw[zd6 (zzv q.2.2 one two L)];exact(R1.add (by rw[zz2];exact r0) F3 Y0).symm
       clear r0 F3 Y0 t0 HO E3 R1 K2;go_wp2
       go_roundw
       case rel=>exact⟨k+1,by omega,by go_num,m4⟩
       case measure=>simp[intOf];omega
   have i4:¬(k:Int)<(q.2.2.cells.length:Int):=(by omega);have Z0:k=q.2.2.cells.length:=(by omega);clear hP;obtain⟨wo,G3⟩:=U (wr);rw[<-G3]at A0 M1 p2⊢;clear G3;obtain⟨cs,S1⟩:=U (Vn (zz1 q.2.2 one) k);obtain⟨ds,T1⟩:=U (Vn (zzv q.2.2 one two L) k);have a1:O (cs.length=k):=(by show _=_;rw[S1];exact zz2 _ _);have c1:O (ds.length=k):=(by show _=_;rw[T1];exact zz2 _ _);have H3:O (zyv wo (J xa k xc) cs):=(by rw[S1];exact A0.u32 (ys4 (λ_=>yo3 _) _));have I3:O (zyv wo (J ya k yc) ds):=(by rw[T1];exact A0.symm.u32 (ys4 (λi=>by unfold zzv;split<;>exact yo3 _) _))
   have J3:O (∀i,i<q.2.2.cells.length->q.2.2.leq (q.2.2.cells.getD i 0) L=true->cs.getD i 0=ds.getD i 0):=λi hi hq=>by rw[S1,T1,zd7 _ (by omega),zd7 _ (by omega)];unfold zz1 zzv;rw[G hq]
   obtain⟨Wj,hF⟩:=U ((min (max fuel 0) 2000).toNat)
   have K3:O ((q.2.2.run cs Wj).1=true->(q.2.2.run ds Wj).1=true->(∀i,i<k->q.2.2.leq (q.2.2.cells.getD i 0) L=true->(q.2.2.run cs Wj).2.vars.getD i 0=(q.2.2.run ds Wj).2.vars.getD i 0)/\dF q.2.2 L (q.2.2.run cs Wj).2.aE=dF q.2.2 L (q.2.2.run ds Wj).2.aE):=λe1 e2=>by
    obtain⟨ls,y,L1⟩:=s3.out;rw[Z0];exact kQ S0.2 S0.1 L1 V0 (a1.trans Z0) (c1.trans Z0) J3 Wj e1 e2
   have U1:=A Z0;have M2:O (E w1 wo):=U0.trans (A0.be.mono U0.size);have C4:(k:Int)<=6:=(by omega);have N2:=A (P0 wo (J xa k xc) cs M1 (by rw[a1.out];omega) H3);rw[<-hF]at N2 P0;clear S1 T1 hF Z0 J3 A0 s3 H3 H1 H2 z2 A2
   go_wp2_with fail
   refine N2.mono ?_;rintro e W5 ⟨G0,f0⟩;rcases f0 with⟨h9,-⟩|⟨-,h9,-⟩|⟨-,-,Lb,sa,sn,sc,rfl,he⟩
   ·exact absurd o3 h9
   ·exact absurd (a1.trans U1) h9
   have O2:=A (he.cells (by rw[a1.out];omega));have L3:=A (zz0.own he.os (by have:=he.sl;omega));rw[a1.out]at O2⊢;generalize q.2.2.run cs Wj=r1 at*;have T0:O (E w1 W5):=M2.trans (G0.mono M2.size);have M3:O (zyv W5 (J ya k yc) ds):=I3.below G0;obtain⟨ub,V1⟩:=U (W5.heap.size);clear G0 he N2 I3 M2
   go_wp2_with fail
   obtain⟨W6,g1⟩:=U (W5.alloc (.cells #[Sq Lb 0 k k,J sa sn sc,.bool r1.1] 42));have g0:O (E W5 W6):=(by show Below _ _ _;rw[g1];exact bA);have N3:O (W6.heap[ub]?=some (.cells #[Sq Lb 0 k k,J sa sn sc,.bool r1.1] 42 (0,0))):=(by show _=_;rw[g1,V1];exact Uk _ _ _ rfl);have P2:ub<W6.heap.size:=(by rw[g1,V1];simp);rw[<-g1,<-V1];clear g1 V1;have W1:O (E w1 W6):=T0.trans (g0.mono T0.size);have O3:=A (P0 W6 (J ya k yc) ds (m0 _ W1) (by rw[c1.out];omega) (M3.below g0));have i1:=A (O2.below g0);have j1:=A (L3.below g0);clear M3 O2 L3 P0 T0 g0;refine O3.mono ?_;rintro e W7 ⟨I0,f0⟩;rcases f0 with⟨h9,-⟩|⟨-,h9,-⟩|⟨-,-,Lb2,sa2,sn2,sc2,rfl,he⟩
   ·exact absurd o3 h9
   ·exact absurd (c1.trans U1) h9
   have Q2:=A (he.cells (by rw[c1.out];omega));have P3:=A (zz0.own he.os (by have:=he.sl;omega));rw[c1.out]at Q2⊢;generalize q.2.2.run ds Wj=r2 at*;have R2:O (E w1 W7):=W1.trans (I0.mono W1.size);have Q3:O (W7.heap[ub]?=some (.cells #[Sq Lb 0 k k,J sa sn sc,.bool r1.1] 42 (0,0))):=(I0.block ub P2).trans N3.out;have S2:ub<W7.heap.size:=Qj P2 I0.size;have l1:=A (i1.below I0);have m1:=A (j1.below I0);obtain⟨vb,X1⟩:=U (W7.heap.size);clear I0 he O3 N3 P2 i1 j1 W1
   go_upto_region 32 with fail
   obtain⟨W8,t1⟩:=U (W7.alloc (.cells #[Sq Lb2 0 k k,J sa2 sn2 sc2,.bool r2.1] 42));have d0:E W7 W8:=(by rw[t1];exact bA);have T2:O (W8.heap[vb]?=some (.cells #[Sq Lb2 0 k k,J sa2 sn2 sc2,.bool r2.1] 42 (0,0))):=(by show _=_;rw[t1,X1];exact Uk _ _ _ rfl);have R3:vb<W8.heap.size:=(by rw[t1,X1];simp);have U2:O (W8.heap[ub]?=some (.cells #[Sq Lb 0 k k,J sa sn sc,.bool r1.1] 42 (0,0))):=(d0.block ub S2).trans Q3.out;have S3:ub<W8.heap.size:=Qj S2 d0.size;rw[<-t1,<-X1];have J0:O (E w1 W8):=R2.trans (d0.mono R2.size)
   have HX:O (∀W,E W8 W->(D W ub 0 (Sq Lb 0 k k)/\D W ub 1 (J sa sn sc)/\D W vb 0 (Sq Lb2 0 k k)/\D W vb 1 (J sa2 sn2 sc2))/\zr7 W (some (Y Lb 0)) k k r1.2.vars/\zr7 W (some (Y Lb2 0)) k k r2.2.vars/\zz0 W sa sn sc r1.2.aE/\zz0 W sa2 sn2 sc2 r2.2.aE):=λW hW=>by
    have q1:=(hW.block ub S3).trans U2.out;have q2:=(hW.block vb R3).trans T2.out;have hh:=d0.trans (hW.mono d0.size);exact⟨⟨cR 0 q1,cR 1 q1,cR 0 q2,cR 1 q2⟩,l1.below hh,Q2.below hh,m1.below hh,P3.below hh⟩
   have u2:D W8 ub 2 (.bool r1.1):=cR 2 U2.out;have v2:D W8 vb 2 (.bool r2.1):=cR 2 T2.out;obtain⟨⟨u0,-,v0,-⟩,-⟩:=HX W8 (Below.refl _ _);clear t1 X1 d0 Q3 S2 l1 m1 Q2 P3 R2 U2 T2 S3 R3
   cases z1:r1.1
   ·rw[z1]at u2
    go_wp2;go_ret;exact⟨rfl,m0 _ J0⟩
   cases Y1:r2.1
   ·rw[z1]at u2
    rw[Y1]at v2;go_wp2;go_ret;exact⟨rfl,m0 _ J0⟩
   obtain⟨T3,U3⟩:=K3 z1 Y1;have n4:=A T3;have o4:=A U3;rw[z1]at u2;rw[Y1]at v2;clear z1 Y1 K3 T3 U3
   go_wp2_with fail
   clear u0 u2 v0 v2
   go_loopw [34] (λi wr=>∃j:Nat,j<=k/\i=I j/\E W8 wr) (λi _=>k - (intOf i).toNat)
   case atStart=>exact⟨0,Nat.zero_le _,rfl,Below.refl _ _⟩
   case round=>
    obtain⟨j,hj,rfl,C0⟩:=hrel;have V2:=A C0;obtain⟨⟨u0,u1,v0,v1⟩,k1,k2,k3,k4⟩:=HX wr C0;have j0:=HP wr (J0.trans (C0.mono J0.size))
    by_cases Z1:j<k
    ·have p4:(j:Int)<(k:Int):=by omega
     have n0:j<q.2.2.cells.length:=(by rw[<-U1.out];exact Z1);obtain⟨b1,eb1,-,N1⟩:=k1.2.2.2 (by omega);obtain⟨b2,eb2,-,V3⟩:=k2.2.2.2 (by omega)
     obtain rfl:Lb=b1:=by injection eb1 with h;injection h
     obtain rfl:Lb2=b2:=by injection eb2 with h;injection h
     have x1:=N1 j Z1;have x2:=V3 j Z1;obtain⟨-,j4,cb,co,rfl,e2⟩:=j0.ci.nat n0;have B0:=j0.lv.ce (q.2.2.cells.getD j 0) (by rw[Qa,Qb n0];exact getElem_mem _);have e3:=j0.lq.c _ B0;have e4:=j0.lq.r _ L B0 V0;have p1:=j0.p1;have p2:=j0.p2;have X3:O (q.2.2.leq (q.2.2.cells.getD j 0) L=true->r1.2.vars.getD j 0=r2.2.vars.getD j 0):=n4 j Z1;rw[<-U1.out]at p2;generalize q.2.2.cells.getD j 0=z at*;have l4:(z:Int)<(q.2.2.n:Int):=(by omega);generalize r1.2.vars.getD j 0=x at*;generalize r2.2.vars.getD j 0=y at*
     have HR:O (∀W,E wr W->D W Pb 1 (Sq Lq 0 q.2.2.n q.2.2.n)/\D W Pb 2 (Sq cb co k cc)/\D W cb (co+j) (I z)/\D W Lq z (Sq (rb z) 0 q.2.2.n q.2.2.n)/\D W (rb z) L (.bool (q.2.2.leq z L))/\D W ub 0 (Sq Lb 0 k k)/\D W vb 0 (Sq Lb2 0 k k)/\D W Lb j (.int .u32 x)/\D W Lb2 j (.int .u32 y)):=λW hW=>by
      have hq:∀(a:Addr) (v:Value),wr.cell? a=some v->W.cell? a=some v:=λa v h=>(hW.cell (Qe wr _ h)).trans h;exact⟨hq _ _ p1,hq _ _ p2,hq _ _ e2,hq _ _ e3,hq _ _ e4,hq _ _ u0,hq _ _ v0,hq _ _ x1,hq _ _ x2⟩
     have q4:O (E W8 wr.drew):=V2.drew;clear j0 k1 k2 k3 k4 N1 V3 eb1 eb2 B0 p1 p2 e2 e3 e4 u0 u1 v0 v1 x1 x2 C0
     go_wp2_with fail
     refine Zm HR dA [] [] [(16,221)] (by kernel_rfl) (λ_ _ _ _ h=>h) (λops ⟨g16,_⟩=>?_)
     iterate 17 refine Zv rfl (by intros;go_simp<;>rfl) (by go_simp<;>rfl) ?_
     cases hq:q.2.2.leq z L
     iterate 11 refine Jn rfl (by simp[yielded,g16,put]) ?_
     rotate_left
     obtain rfl:=X3 hq
     iterate 11 refine Zv (by simp[wanted,yielded,g16,put]) (by intros;go_simp<;>rfl) (by go_simp<;>rfl) ?_
     all_goals
      refine Zv rfl (by intros;go_simp<;>rfl) (by go_simp<;>rfl) ?_;refine Zu ?_;clear g16 HR hq X3;go_wp2
      go_roundw
      case rel=>exact⟨j+1,by omega,by go_num,q4⟩
      case measure=>simp[intOf];omega
    have p4:¬(j:Int)<(k:Int):=(by omega);have W2:=A (yo2 j0 V0 k3);have X2:=A (J0.trans (C0.mono J0.size));have Y2:=A k4;have Z2:O ((dF q.2.2 L r1.2.aE).length<=100000):=Nat.le_trans (length_filter_le _ _) (by have:=k3.1;have:=k3.2.2.2.1;omega);clear j0 k1 k2 k3 k4 u0 v0;obtain⟨wz,Y3⟩:=U (wr);rw[<-Y3]at V2 W2 X2 Y2 u1 v1 C0⊢;clear Y3
    go_wp2_with fail
    refine W2.mono ?_;rintro e W9 ⟨a2,v9,rfl,K0⟩;have a3:O (E w1 W9):=X2.trans (a2.mono X2.size);have Z3:=A (yo2 (HP W9 a3) V0 (Y2.below a2));have v1':D W9 vb 1 (J sa2 sn2 sc2):=(a2.cell (Qe wz _ v1)).trans v1;have b3:=A K0;clear a2 K0 W2 Y2 u1 v1 C0 V2
    go_wp2_with fail
    refine Z3.mono ?_;rintro e W10 ⟨D0,v10,rfl,k0⟩;rw[<-o4.out]at k0;generalize dF q.2.2 L r1.2.aE=ms at*;have K0:=Zj b3 (λb hb=>D0.block b (b3.lt b hb).2);obtain⟨a9,n9,c9,rfl⟩:=yy0 K0;obtain⟨a10,n10,c10,rfl⟩:=yy0 k0;have g2:=A (zz0.own K0 Z2);have E0:=A (zz0.own k0 Z2);have A1:O (E w1 W10):=a3.trans (D0.mono a3.size);obtain rfl:n9=n10:=g2.1.trans E0.1.symm;have D4:(n9:Int)<=100000:=(by have:=g2.2.2.2.1;omega);have E4:(n9:Int)<=(c9:Int):=(by have:=g2.2.1;omega);have r4:(n9:Int)<=(c10:Int):=(by have:=E0.2.1;omega);clear K0 k0 D0 b3 Z3 Z2 v1'
    go_wp2_with fail
    go_loopw [37] (λi wr=>∃m:Nat,m<=n9/\i=I m/\E W10 wr) (λi _=>n9 - (intOf i).toNat)
    case atStart=>exact⟨0,Nat.zero_le _,rfl,Below.refl _ _⟩
    case round=>
     obtain⟨m,hm,rfl,B1⟩:=hrel;have a4:=A B1
     by_cases n0:m<n9
     ·have s4:(m:Int)<(n9:Int):=by omega
      obtain⟨b9,rfl,-,k9⟩:=(g2.below B1).2.2.2.2 (by omega);obtain⟨b10,rfl,-,k10⟩:=(E0.below B1).2.2.2.2 (by omega);obtain⟨x1,x2⟩:=k9 m n0;obtain⟨y1,y2⟩:=k10 m n0;generalize (ms.getD m (0,0)).1=s1 at*;generalize (ms.getD m (0,0)).2=s2 at*;clear k9 k10 B1
      go_wp2_with fail
      go_quiet (fail)
      go_wp2
      go_roundw
      case rel=>exact⟨m+1,by omega,by go_num,a4.trans ⟨rfl,rfl,rfl,lE,λ_ _=>rfl⟩⟩
      case measure=>simp[intOf];omega
     have s4:¬(m:Int)<(n9:Int):=(by omega);clear B1;go_wp2;go_ret;exact⟨rfl,m0 _ (A1.trans (a4.mono A1.size))⟩
open Go.ChangeShapes Go.WideShapes Go.ChangeMaps
def Tryz.laidOutR:laidOutB Tryz.prog=true:=by kernel_rfl
abbrev zd8:List (String×DataW Unit):=Rows.secretRow.laid
def yq7(h:laidMetH Tryz.prog zd8 W):Um W:=by
 have h':laidMet Tryz.prog [("unicode/utf8.acceptRanges",Rows.laid_unicode_utf8_acceptRanges),("unicode/utf8.first",Rows.laid_unicode_utf8_first)] W/\handlesMet Tryz.prog [("errors.errorType",Rows.laid_errors_errorType)] W:=h;exact zcz ⟨⟨[],rfl,nodup_nil,λ_ _ h=>by cases h⟩,h'.2⟩
def zp2(h:W.ShapedOpen Tryz.prog):Yg W:=
 cell_of_shapedOpen_int (P:=Tryz.prog) (g:=1) (t:=3) (zero:=#[I 0]) h (of_decide_eq_true (by kernel_rfl)) (by kernel_rfl) rfl (by kernel_rfl) (by kernel_rfl) Tryz.underlying3
def Tryz.cellsInt:Tryz.prog.cellsOf 3=1:=by kernel_rfl
def Tryz.bytesInt:Tryz.prog.bytesOf 3=8:=by kernel_rfl
def yo4{H:Type}{enc:TypeId×Value->H}{v:Value}{d:DataW H}{p:List MemPlace}(f0:okWide Tryz.prog W .any base 22 v)(h:DataW.Trod enc Tryz.prog W 0 (λ_=>true) true 22 v d p):
  ∃(xs:Is) (ao:Option Addr) (cap:Nat),v=J ao xs.length cap/\Zw W.heap.size W (J ao xs.length cap) xs/\(∀x∈xs,-9223372036854775808<=x/\x<=9223372036854775807)/\(xs.length=0\/∃elems spare,d=.slice elems spare/\elems.length=xs.length):=by
 obtain⟨a0,len,cap,rfl⟩:=okWide_slice Tryz.underlying22 f0;obtain⟨fuel,hf⟩:=h;rcases open_ints Tryz.underlying22 Tryz.underlying3 Tryz.cellsInt hf with⟨c0,hx⟩|⟨a,len',cap',zs,c0,_,hl,hm,hz,hx,b0,j0⟩
 ·simp[cells]at c0
  obtain⟨rfl,rfl,rfl⟩:=c0;exact⟨[],none,0,rfl,Zw.nil _ _,λx hx=>(by cases hx),.inl rfl⟩
 simp[cells]at c0;obtain⟨rfl,rfl,rfl⟩:=c0;simp only[Prod.mk.injEq]at hx;obtain⟨rfl,rfl⟩:=hx;simp only[if_true]at hz
 have k0:(zs.take len).length=len:=by simp;omega
 refine⟨zs.take len,some a,cap,by rw[k0],⟨some a,cap,rfl,by omega,by omega,λi0=>?_⟩,λx hx=>?_,.inr ⟨_,_,rfl,by simp[lits]⟩⟩
 ·have l0:0<len:=by
   rcases Nat.eq_zero_or_pos len with h0|h0
   ·rw[h0]at i0;simp at i0
   exact h0
  obtain⟨b,off,spot⟩:=a;have g0:=b0 0 (by omega);have d0:spot=none:=(by simpa [Addr.add] using cell?_spot g0);subst d0
  have e0:∀i,((Y b off):Addr).add i=(Y b (off+i)):=λi=>by unfold Addr.add;split<;>simp_all
  refine⟨b,off,rfl,?_,λi hi=>?_⟩
  ·have:=Qe W _ g0
   rwa [e0]at this
  have hi':i<len:=(by omega);have:=b0 i (by omega);rw[e0]at this;rw[this];simp[Qa,getElem?_take,hi']
 have:=j0 x (mem_of_mem_take hx);simp[Lit.wf,IntKind.min,IntKind.max,IntKind.signed,IntKind.bits]at this;omega
def zpw{H:Type}{enc:TypeId×Value->H}{a:Assume}{C:Checked}{os:Os}{f:FuncId}{fn:Func}{s:ChangeSpec}{conds:List PathCond}{apart fresh a0 again:Bool}{X:World->Array Value->Prop}
  (hX:∀(w w':World) (args:Array Value),w.heap=w'.heap->X w args->X w' args)
  (own:ownKnob C.prog.godebug=none) (started:os.Started) (noInit:C.prog.inits.idxOf? f=none) (e0:C.prog.funcs[f]?=some fn)
  (witness:∃(w:World) (tape:Tape) (i:Input),w.os=os/\(w.forCall tape i).Shaped C.prog/\i.vars=[]/\Input.okWide C.prog (w.forCall tape i) .any w.heap.size f i/\
   ((s.pre enc C.prog fn conds apart (w.forCall tape i).memory i.args/\X (w.forCall tape i).memory i.args)/\sizedMet enc C.prog fn (OpenSpec.ofChange s) apart (w.forCall tape i).memory i.args)/\a.holds C.prog (lone (Frame.enter C.prog f i.args .normal) [] (w.forCall tape i)))
  (contract:∀(W:World) (base:Nat) (args:Array Value) (ds gs:List (DataW H)) (before:List MemPlace),(∀(j:Nat) t v,fn.params[j]?=some t->args[j]?=some v->okWide C.prog W .any base t v)->
   DataW.Whole enc C.prog fn.params.toList s.vars apart W args.toList ds gs before->(DataW.weightsEach C.prog (fn.params.toList++s.plain.varTypes C.prog) (ds++gs)).all (·<=reachBytes)=true->X W args->W.ShapedOpen C.prog->
   Calls C.prog f args W λe W'=>∃v,e=.returned v/\s.post enc C.prog fn apart fresh a0 again W args v W'):
  ReturnsInHanded a C os f .any (λw args=>(s.pre enc C.prog fn conds apart w args/\X w args)/\sizedMet enc C.prog fn (OpenSpec.ofChange s) apart w args) (s.post enc C.prog fn apart fresh a0 again):=by
 refine returnsInHanded_of_calls own started noInit witness ?_;intro w tape i _ f0 _ g0 b0 c0;obtain⟨_,_,_,fn',hfn',_,_,_,_,d0⟩:=g0;have e:fn'=fn:=Option.some.inj (hfn'.symm.trans e0);subst e;obtain⟨⟨⟨ds,gs,before,hw,_⟩,hx⟩,hz⟩:=b0;have hw':=DataW.Whole.of_heap (w':=w.forCall tape i) (by rfl) hw;refine(contract (w.forCall tape i) w.heap.size i.args ds gs before d0 hw' (hz.weights hw) (hX _ _ _ (by rfl) hx) f0).mono λe W' ⟨v,he,hp⟩=>?_;subst he;exact ChangeSpec.post_blind hp
def yx7(os:Os)(args:Array Value):laidMetH Tryz.prog zd8 ((({doorLaid Tryz.prog 41 os with heap:=(doorLaid Tryz.prog 41 os).heap.modify 2 λ
   | .cells _ t frozen=> .cells (Go.Pinned.utf8FirstZ.map λ(z:Nat)=>int .u8 (z:Int)).toArray t frozen
   |o=>o}:World)).forCall (λ_ _=>0) ⟨#[],args,[]⟩).memory:=
 laidMetH_of_parts (laidMet_of_run' 8 (by kernel_rfl) (by kernel_rfl)) (by kernel_rfl)
def yq8{H:Type}{enc:TypeId×Value->H}{P:Program}{spare:Nat->Bool}{kp:Bool}{t0 t1 t2 t3 t4 t5:TypeId}{args:Array Value}{ds:List (DataW H)}{ps:List MemPlace}(h:DataW.TrodAll enc P w base spare kp [t0,t1,t2,t3,t4,t5] args.toList ds ps):
  ∃v0 v1 v2 v3 v4 v5 d0 d1 d2 d3 d4 d5 p0 p1 p2 p3 p4 p5,args=#[v0,v1,v2,v3,v4,v5]/\ds=[d0,d1,d2,d3,d4,d5]/\ps=p0++(p1++(p2++(p3++(p4++(p5++[])))))/\DataW.Trod enc P w base spare kp t0 v0 d0 p0/\DataW.Trod enc P w base spare kp t1 v1 d1 p1/\DataW.Trod enc P w base spare kp t2 v2 d2 p2/\DataW.Trod enc P w base spare kp t3 v3 d3 p3/\DataW.Trod enc P w base spare kp t4 v4 d4 p4/\DataW.Trod enc P w base spare kp t5 v5 d5 p5:=by
 obtain⟨v0,_,d0,_,p0,_,a0,rfl,rfl,h0,h⟩:=trodAll_cons h;obtain⟨v1,_,d1,_,p1,_,rfl,rfl,rfl,h1,h⟩:=trodAll_cons h;obtain⟨v2,_,d2,_,p2,_,rfl,rfl,rfl,h2,h⟩:=trodAll_cons h;obtain⟨v3,_,d3,_,p3,_,rfl,rfl,rfl,h3,h⟩:=trodAll_cons h;obtain⟨v4,_,d4,_,p4,_,rfl,rfl,rfl,h4,h⟩:=trodAll_cons h;obtain⟨v5,_,d5,_,p5,_,rfl,rfl,rfl,h5,h⟩:=trodAll_cons h;obtain⟨rfl,rfl,rfl⟩:=trodAll_nil h;exact⟨v0,v1,v2,v3,v4,v5,d0,d1,d2,d3,d4,d5,p0,p1,p2,p3,p4,p5,by cases args;simp_all,rfl,rfl,h0,h1,h2,h3,h4,h5⟩
def yx8(os:Os)(started:os.Started)(H:Type)(enc:TypeId×Value->H):
    ReturnsInHanded {} Tryz.checked os 3 .any (λw args=>(Rows.secretSpec.pre enc Tryz.prog Tryz.f3 [] false w args/\laidMetH Tryz.prog zd8 w)/\sizedMet enc Tryz.prog Tryz.f3 (OpenSpec.ofChange Rows.secretSpec) false w args)
      (Rows.secretSpec.post enc Tryz.prog Tryz.f3 false true false false):=by
  refine zpw (C:=Tryz.checked) (X:=λw _=>laidMetH Tryz.prog zd8 w) (λ_ _ _ hh h=>h.of_heap hh) Tryz.own started (by kernel_rfl) Tryz.func3
    (ChangeSpec.witness_shaped (enc:=enc) (C:=Tryz.checked) (os:=os) (X:=λw _=>laidMetH Tryz.prog zd8 w) false ({
                                                                                                                             doorLaid Tryz.prog 41 os with heap:=(doorLaid Tryz.prog 41 os).heap.modify 2 λ
      | .cells _ t frozen=> .cells (Go.Pinned.utf8FirstZ.map λ(z:Nat)=>int .u8 (z:Int)).toArray t frozen
      |o=>o}:World) #[.string ⟨#[]⟩,.string ⟨#[]⟩,Zq,Zq,I 0,I 0] 8 rfl (shaped_of_RefB (by kernel_rfl) (by kernel_rfl)) (by kernel_rfl) (by kernel_rfl) (by kernel_rfl) (yx7 os _)) ?_
  intro W base args ds gs before b0 hW j0 hL f0;have a0:∀(j:Nat) t v,Tryz.f3.params[j]?=some t->args[j]?=some v->okWide Tryz.prog W .any base t v:=b0;have hW':=hW;obtain⟨p,q,k0,l0,rfl,x0,y0⟩:=hW;have hA:DataW.TrodAll enc Tryz.prog W 0 (λ_=>true) true Tryz.f3.params.toList args.toList ds p:=k0;have hV:DataW.TrodVars enc Tryz.prog W (λ_=>true) [] gs q:=l0;have hwt':(DataW.weightsEach Tryz.prog (Tryz.f3.params.toList++Rows.secretSpec.plain.varTypes Tryz.prog) (ds++gs)).all (·<=reachBytes)=true:=j0;rw[Tryz.params3]at hA a0 hwt';obtain⟨v0,v1,v2,v3,v4,v5,d0,d1,d2,d3,d4,d5,p0,p1,p2,p3,p4,p5,rfl,rfl,rfl,t0,t1,t2,t3,t4,t5⟩:=yq8 hA;obtain⟨rfl,rfl⟩:=trodVars_none hV;obtain⟨s,rfl,rfl,rfl,cH⟩:=open_string Tryz.underlying9 (a0 0 9 v0 rfl rfl) t0;obtain⟨s2,rfl,rfl,rfl,e0⟩:=open_string Tryz.underlying9 (a0 1 9 v1 rfl rfl) t1;obtain⟨xs,la,lc,rfl,hl,z0,m0⟩:=yo4 (a0 2 22 v2 rfl rfl) t2;obtain⟨ys,ya,yc,rfl,hy,A0,n0⟩:=yo4 (a0 3 22 v3 rfl rfl) t3;obtain⟨lev,rfl,rfl,rfl,g0⟩:=open_int Tryz.underlying3 (a0 4 3 v4 rfl rfl) t4;obtain⟨fuel,rfl,rfl,rfl,o0⟩:=open_int Tryz.underlying3 (a0 5 3 v5 rfl rfl) t5;have hg:=yq7 hL;have B0:=reachBytes_lt;have q0:s.data.toList.length<=1000000000000000000:=by
    have:=sized_string hwt' (j:=0) (t:=9) (bytes:=s.data.toList) rfl rfl;omega
  have r0:s2.data.toList.length<=1000000000000000000:=by
    have:=sized_string hwt' (j:=1) (t:=9) (bytes:=s2.data.toList) rfl rfl;omega
  have s0:xs.length<=1000000000000000000:=by
    rcases m0 with h0|⟨elems,spare,rfl,bt⟩
    · omega
    have:=sized_slice hwt' (j:=2) (t:=22) (e:=3) (elems:=elems) (spare:=spare) rfl rfl Tryz.underlying22;rw[Tryz.bytesInt]at this;omega
  have u0:ys.length<=1000000000000000000:=by
    rcases n0 with h0|⟨elems,spare,rfl,bt⟩
    · omega
    have:=sized_slice hwt' (j:=3) (t:=22) (e:=3) (elems:=elems) (spare:=spare) rfl rfl Tryz.underlying22;rw[Tryz.bytesInt]at this;omega
  have hlb: -9223372036854775808<=lev/\lev<=9223372036854775807:=by
    have:=g0;simp[Lit.wf,IntKind.min,IntKind.max,IntKind.signed,IntKind.bits]at this;omega
  have hgm:1<W.heap.size:=by
    obtain⟨x,hx⟩:=zp2 f0;exact Qe W _ hx
  have e2:(⟨s.data.toList.toArray⟩:ByteArray)=s:=(by simp);have e3:(⟨s2.data.toList.toArray⟩:ByteArray)=s2:=(by simp);have c0:=secret_any s s2 s.data.toList s2.data.toList e2.symm e3.symm xs ys la ya lc yc lev fuel W q0 r0 s0 u0 hlb ⟨hg,hgm,zp2 f0⟩ hl hy;have i0:∀x∈([]++([]++(p2++(p3++([]++([]++[]))))))++[],x.block<W.heap.size:=λx hx=>hW'.lt x hx;have e1:Rows.secretSpec.fn H ([.lit (.string s.data.toList),.lit (.string s2.data.toList),d2,d3,.lit (Lit.int .i64 lev),.lit (Lit.int .i64 fuel)]++[])={results:=[.lit (.bool true)],args:=[.lit (.string s.data.toList),.lit (.string s2.data.toList),d2,d3,.lit (Lit.int .i64 lev),.lit (Lit.int .i64 fuel)]}:=(by simp[Rows.secretSpec]);refine c0.mono λe W' ⟨he,hw⟩=>?_;subst he;refine⟨_,rfl,_,_,_,[],[]++([]++(p2++(p3++([]++([]++[]))))),[],hW',?_,?_,?_,hw.frame _,λh=>by cases h⟩
  · rw[e1];exact trodAll_mk1 (shut_bool Tryz.underlying4 true)
  · rw[e1]
    exact trodAll_cons_mk (shut_string Tryz.underlying9 cH) (trodAll_cons_mk (shut_string Tryz.underlying9 e0) (trodAll_cons_mk (Below.trod Tryz.laidOutR (by kernel_rfl) (of_decide_eq_true (by kernel_rfl)) t2 hw (λx hx=>i0 x (by simp[hx]))) (trodAll_cons_mk (Below.trod Tryz.laidOutR (by kernel_rfl) (of_decide_eq_true (by kernel_rfl)) t3 hw (λx hx=>i0 x (by simp[hx]))) (trodAll_cons_mk (shut_int Tryz.underlying3 g0) (trodAll_cons_mk (shut_int Tryz.underlying3 o0) trodAll_mk0)))))
  rw[e1];rfl
def yq9:Rows.SecretSaid:=
 OpenClaim.holds_of_wide 3 Tryz.f3 rfl rfl rfl rfl rfl rfl rfl ⟨rfl,rfl,rfl,rfl,rfl⟩ rfl rfl rfl rfl rfl (by kernel_rfl) Tryz.func3 (by kernel_rfl)
  (of_decide_eq_true (by kernel_rfl)) (by unfold Func.isWrapper;rw[Z (of_decide_eq_false (by kernel_rfl))];exact⟨rfl,rfl⟩)
  (λos started H enc _=>yx8 os started H enc)
def secret_card:Rows.SecretCardSaid:=
 Claim7.holds_tied_plain_at .later [] [.data,.handle,.pinned] true Rows.secretCard.stood.harness true
  yq9 (λ_ h=>by cases h) (by kernel_rfl) (λ_ h=>by cases h) secret_row_tie rfl ⟨rfl,rfl⟩ (by kernel_rfl) rfl
  (λf fn hf a0=>by
   obtain rfl:f=3:=Option.some.inj ((show Tryz.prog.funcNamed Rows.secretRow.func=some 3 by kernel_rfl).symm.trans hf)|>.symm;obtain rfl:fn=Tryz.f3:=(Option.some.inj (Tryz.func3.symm.trans a0)).symm
   exact⟨by kernel_rfl,λj t ht=>by
    rw[Tryz.params3]at ht;rcases j with _|_|_|_|_|_|j
    ·have h3:t=9:=by simpa using ht.symm
     subst h3;exact(show Tryz.prog.wantsStandIn 9=false by kernel_rfl)
    ·have h3:t=9:=by simpa using ht.symm
     subst h3;exact(show Tryz.prog.wantsStandIn 9=false by kernel_rfl)
    ·have h3:t=22:=by simpa using ht.symm
     subst h3;exact(show Tryz.prog.wantsStandIn 22=false by kernel_rfl)
    ·have h3:t=22:=by simpa using ht.symm
     subst h3;exact(show Tryz.prog.wantsStandIn 22=false by kernel_rfl)
    ·have h3:t=3:=by simpa using ht.symm
     subst h3;exact(show Tryz.prog.wantsStandIn 3=false by kernel_rfl)
    ·have h3:t=3:=by simpa using ht.symm
     subst h3;exact(show Tryz.prog.wantsStandIn 3=false by kernel_rfl)
    simp at ht⟩)
  (by kernel_rfl)
end Go.Proofs.YtjmcibbdedlcoaaGreatDoor
