import Derived.Test.YtgmbnnpnefniiaaGreatDoorM14
import Derived.Test.YtgmbnnpnefniiaaGreatDoorM20
import Derived.Test.YtgmbnnpnefniiaaGreatDoorM22
import Derived.Test.YtgmbnnpnefniiaaGreatDoorM24
import Derived.Laws.IdiomStrings
import Derived.Test.YtgmbnnpnefniiaaGreatDoorTie
import Derived.Test.YtgmbnnpnefniiaaGreatDoorCards
import Derived.SevenTiedAt
import Derived.ChangeSlices
import Derived.SizedLaws
import Derived.Carry
import Derived.HandedShaped
import Derived.Shelf.Vars
import Derived.Lib.LaidTab
import Derived.LaidMore
set_option linter.all false
set_option maxRecDepth 100000
set_option maxHeartbeats 40000000
namespace Go.Proofs.YtgmbnnpnefniiaaGreatDoor
open Go.RowKit Go.Proofs.Tryz List World Value Fl
variable{w' W:World}{lo Pb cc:Nat}{a b cS bv:Value}{ca:Option Addr}{p:aY}
def ye1{lv nv:Value}{ls:List Int}{x:List ar}(hz:Pb<w'.heap.size)(hc:Ze w' Pb 6 (rw_ [a,b,.slice ca p.cells.length cc,cS,I (p.ap:Nat),bv]))(hs:Zh 4 (λb=>lo<=b/\b<w'.heap.size) w' bv p.aZ)(ht:RTab w' a b (.slice ca p.cells.length cc) cS p)
  (hW:D w' W) (ho:p.Ok) (hn:p.n<=6) (hd:zy5 ls x) (hl:Zw W.heap.size W lv ls) (hx:Zl W.heap.size W nv x):∃Lq rb aB hv,zz6 W Pb Lq rb aB hv bv lv nv p ls x:=by
 obtain⟨rfl,Lq,rb,rfl,h1,h2,h3⟩:=ht;have q:∀i,W.cell? (O Pb i)=w'.cell? (O Pb i):=λi=>hW.cell (p:=(O Pb i)) hz;exact⟨Lq,rb,_,_,{hz:=Qj hz hW.size,p0:=(q 0).trans (hc.c 0 (by omega)),p1:=(q 1).trans (hc.c 1 (by omega)),p2:=(q 2).trans (hc.c 2 (by omega)),p3:=(q 3).trans (hc.c 3 (by omega)),p4:=(q 4).trans (hc.c 4 (by omega)),p5:=(q 5).trans (hc.c 5 (by omega)),ci:=(h2.below hW).mono hW.size,hi:=(h3.below hW).mono hW.size,lq:=h1.kept (λb _ hb=>hW.block b hb),li:=hl,no:=hx,bs:=hs.kept (λb hb=>Qj hb.2 hW.size) (λb hb=>hW.block b hb.2) 4 _ _,n6:=hn,ll:=⟨ho.ce,ho.ch,hd.l0.1,hd.x0.2⟩}⟩
def yp2(l t:List UInt8)(w:World)(hl:l.length<=40000)(ht:t.length<=50000)(hE:Vd w)(hg:1<w.heap.size)(hm:Xw w):
  E 5 #[.string ⟨l.toArray⟩,.string ⟨t.toArray⟩] w λe w'=>e=.returned (.bool true)/\D w w':=by
 obtain⟨s,d0⟩:=J (α:=ByteArray) (⟨t.toArray⟩);rw[<-d0]
 have cD:s.size=t.length:=by rw[d0];rfl
 have E0:s.data.toList=t:=by rw[d0]
 have cZ:s.toList=t:=by rw[d0];exact Yw t
 have T0:∀W:World,(convert 9 44 (.string s)).run prog W=.ok (.slice (some (O W.heap.size 0)) t.length (grownCap W t.length 0 5)) (Lib.bytesWorld W 5 s):=λW=>by rw[<-cD];exact Lib.run_convert_string_bytes W 9 44 5 s underlying9 underlying44 underlying5
 have HE:Y (∀o,D w o->Vd o):=λo ho=>(ho.cell (p:=⟨0,0,none⟩) (Qe w _ hE)).trans hE
 have p0:Y (∀o,D w o->1<o.heap.size/\Xw o):=λo ho=>by
  obtain⟨x,hx⟩:=hm;exact⟨Qj hg ho.size,x,(ho.cell (p:=⟨1,0,none⟩) hg).trans hx⟩
 have q0:=Z cD;have F0:=Z E0;have G0:=Z cZ;have U0:=Z d0;have r0:Y (l.length<=40000/\t.length<=50000):=⟨hl,ht⟩;clear hE cD E0 d0 cZ hg hm hl ht
 go_enter func5,ntmps5
 go_wp2_with fail
 clear T0;obtain⟨cap,g0⟩:=J (grownCap w t.length 0 5);obtain⟨WB,i0⟩:=J (Lib.bytesWorld w 5 s);rw[<-g0,<-i0]
 have Z0:WB.heap.size=w.heap.size+1:=by rw[i0,Lib.bytesWorld_size]
 have e0:Y (D w WB):=by
  show Below _ _ _;rw[i0];exact⟨rfl,rfl,rfl,by rw[Lib.bytesWorld_size];omega,λk hk=>Lib.bytesWorld_at_old _ _ _ k hk⟩
 have a0:Y (∀W,D WB W->∀j,j<t.length->W.cell? (O w.heap.size j)=some (.int .u8 (t.getD j 0).toNat)):=λW hW j hj=>by
  have:=Lib.bytesWorld_cell w 5 s j (by rw[q0.out];exact hj);rw[hW.cell (p:=(O w.heap.size j)) (by show w.heap.size<_;omega),i0,this,F0.out]
 have s0:Y (E 15 #[.string ⟨l.toArray⟩,.slice (some (O w.heap.size 0)) t.length cap] WB λe w'=>e=.returned (.tuple #[I (checked (ab l) (Fl.decode t)).1,I (checked (ab l) (Fl.decode t)).2])/\D WB w'):=by
  have V0:=r0.out;refine yp1 (HE _ e0) (by omega) (p0 _ e0).1 (p0 _ e0).2 (λw1 H0=>?_);refine(yq1 (cap:=cap) (ao:=some (O w.heap.size 0)) (s:=t) (w:=w1) (by omega) (λ_=>⟨w.heap.size,0,rfl,by have:=H0.size;omega,λi hi=>by rw[Nat.zero_add];exact a0 w1 H0 i hi⟩)).mono ?_;rintro e w' ⟨h1,h2,h3⟩;refine⟨h1,h2,λh=>?_⟩;obtain⟨la,n,lc,na,n',nc,e1,e2⟩:=h3 h;exact⟨la,n,lc,na,n',nc,e1,e2 w' ⟨Nat.le_refl _,λ_ _ _=>rfl⟩⟩
 obtain⟨c,hc⟩:=J (checked (ab l) (Fl.decode t));rw[<-hc]at s0;have HC:=Z hc;clear g0 i0 hc;refine(s0.out).mono ?_;rintro e w2 ⟨rfl,t0⟩;have I0:Y (D w w2):=e0.trans (t0.mono e0.size);have u0:(convert 44 9 (.slice (some (O w.heap.size 0)) t.length cap)).run prog w2=.ok (.string s) w2:=by
  rw[U0.out];refine run_convert_bytes_back _ 44 9 5 (O w.heap.size 0) cap t underlying44 underlying5 underlying9 (λj hj=>?_)
  have h2:((O w.heap.size 0):Addr).add j=(O w.heap.size j):=by unfold Addr.add;split<;>simp_all
  rw[h2,a0 w2 t0 j hj];simp[Qa,hj]
 have v0:Y (E 4 #[.string ⟨l.toArray⟩] w2 (Xc (ab l) w2)):=yy0 l w2 r0.1
 have x0:Y (∀W:World,E 16 #[.string s] W λe w'=>zc7 (Fl.decode t) W e w'):=λW=>by
  have V0:=r0.out;have:=yq0 s W (by rw[q0.out];omega);rw[G0.out]at this;exact this
 have j0:Y ((ab l).1=0->(ab l).2.2.Ok):=λh=>(fT l h).1;have k0:Y ((ab l).2.2.n<=6/\(∀y∈(ab l).2.2.cells,y<(ab l).2.2.n)/\∀y∈(ab l).2.2.ai,y<(ab l).2.2.n):=fO l;have y0:Y ((Fl.decode t).2.1=true->zy5 (Fl.decode t).1.1 (Fl.decode t).1.2):=yz5;obtain⟨q,hq⟩:=J (ab l);obtain⟨d,hd⟩:=J (Fl.decode t);rw[<-hq]at HC v0 j0 k0;rw[<-hd]at HC x0 y0;clear t0 s0 e0 a0 HE p0 q0 F0 G0 hq hd
 go_wp2_with fail
 refine v0.mono ?_;rintro e w3 ⟨z0,c0,aS⟩;have A0:Y (D w w3):=I0.trans (z0.mono I0.size);clear u0 v0
 by_cases h0:q.1=0
 rotate_left
 ·have f0:Y (c=(q.1,(q.2.1:Int))):=by show _=_;rw[HC.out];unfold Fl.checked;rw[if_pos h0]
  obtain rfl:=c0 h0;have b0:(((q.1:Nat):Int) !=0)=true:=(by rw[bne_iff_ne];omega);rw[f0.out];clear h0 c0 aS z0 HC;go_wp2;go_ret;exact⟨rfl,A0⟩
 obtain⟨Pb,a,b,cS,bv,ca,cc,rfl,bB,W0,J0,cZ,l0⟩:=aS h0;have K0:=Z l0;have L0:=Z J0;have M0:=Z cZ;have B0:=Z h0
 have o0:Y (c=if d.2.1=false then(8,d.2.2) else check q.2.2 d.1.1 d.1.2):=by show _=_;rw[HC.out];unfold Fl.checked;rw[if_neg (by rw[h0];simp)]
 clear c0 aS z0 h0 l0 J0 cZ HC
 go_wp2_with fail
 refine(x0 w3).mono ?_;rintro e w4 ⟨C0,la,n,lc,na,n',nc,rfl,N0⟩;have m0:Y (D w w4):=A0.trans (C0.mono A0.size);have n0:=Z C0;have O0:=Z N0;clear C0 N0 x0
 cases hr:d.2.1 with
 |false=>
  have f0:Y (c=(8,d.2.2)):=(by show _=_;rw[o0.out,if_pos hr]);rw[f0.out];clear hr o0;go_wp2;go_ret;exact⟨rfl,m0.alloc m0.size _⟩
 |true=>
  have f0:Y (c=check q.2.2 d.1.1 d.1.2):=(by show _=_;rw[o0.out,if_neg (by rw[hr];simp)]);obtain⟨P0,Q0⟩:=O0 hr;have D0:Y _:=y0 hr
  have R0:Y (∀W,D w4 W->E 17 #[F Pb,.agg #[.slice la n lc,.slice na n' nc]] W λe w'=>e=.returned (.tuple #[I c.1,I c.2])/\D W w'):=λW hW=>by
   obtain⟨Lq,rb,aB,hv,X0⟩:=ye1 W0 L0 M0 K0 (n0.trans (hW.mono n0.size)) (j0 B0) k0.1 D0 ((P0.below hW).mono hW.size) ((Q0.below hW).mono hW.size);rw[f0.out];exact yj3 X0 D0 (zny 4 _ (j0 B0).aZ) k0.2.1 k0.2.2 (j0 B0).lo
  clear hr o0 P0 Q0 f0 O0 y0 j0 k0 K0 L0 M0 D0
  go_wp2_with fail
  refine(R0 _ (bA)).mono ?_;rintro e w5 ⟨rfl,S0⟩;have Y0:Y (D w w5):=(m0.alloc m0.size _).trans (S0.mono (by have:=m0.size;simp;omega));clear S0 R0;go_wp2;go_ret;exact⟨rfl,Y0⟩
def yex(hz:Pb<w'.heap.size)(hc:Ze w' Pb 6 (rw_ [a,b,A ca p.cells.length cc,cS,I (p.ap:Nat),bv]))(hs:Zh 4 (λb=>lo<=b/\b<w'.heap.size) w' bv p.aZ)(ht:RTab w' a b (A ca p.cells.length cc) cS p)
  (ho:p.Ok) (hl:p.Lv):∃Lq rb aB hv,zyv w' Pb Lq rb aB hv bv p:=by
 obtain⟨rfl,Lq,rb,rfl,h1,h2,h3⟩:=ht;exact⟨Lq,rb,_,_,{hz:=hz,p0:=hc.c 0 (by omega),p1:=hc.c 1 (by omega),p2:=hc.c 2 (by omega),p3:=hc.c 3 (by omega),p4:=hc.c 4 (by omega),p5:=hc.c 5 (by omega),ci:=h2,hi:=h3,lq:=h1,bs:=hs.kept (λb hb=>hb.2) (λb hb=>rfl) 4 _ _,lv:=hl,ok:=ho}⟩
def enc_len{ls:Is}{ns:List ar}(h:(aH ls ns).2.1=true):(aH ls ns).1.length<=50000:=by
 unfold aH at*
 by_cases h1:4<ls.length\/ns.length=0\/200<ns.length
 ·rw[G h1]at h;cases h
 rw[U h1]at h⊢
 by_cases h2:ls.all cf=false
 ·rw[G h2]at h;cases h
 rw[U h2]at h⊢
 by_cases h3:0<=aJ ns
 ·rw[G h3]at h;cases h
 rw[U h3]
 have a1:=gm ns (λx hx=>by
  obtain⟨j,hj,rfl⟩:=jL hx;exact ff (by omega) j hj)
 have a2:=bH ls.length;have a3:=dx ls;have a4:=bH ns.length;simp only[dF,length_append,length_cons,length_nil];omega
def bent_any(l:L)(a k v:Int)(w:World)(hl:l.length<=1000000000000000000)(ha: -9223372036854775808<=a/\a<=9223372036854775807)(hb: -9223372036854775808<=k/\k<=9223372036854775807)(hk:ze8 w):
  E 3 #[Tq l,I a,I k,I v] w (Rw (.bool true) w):=by
 have cD:(⟨l.toArray⟩:ByteArray).size=l.length:=by show l.toArray.size=_;simp
 by_cases G0:32768<l.length
 ·have c1:(32768:Int)<(l.length:Int):=by omega
  clear hk
  go_enter func3,ntmps3
  go_wp2;go_ret;exact⟨rfl,Below.refl _ _⟩
 have c1:¬(32768:Int)<(l.length:Int):=by omega
 have v0:Y (E 4 #[Tq l] w (Xc (ab l) w)):=yy0 l w (by omega);have x0:Y ((ab l).1=0->(ab l).2.2.Ok/\(ab l).2.2.Lv):=λh=>⟨(fT l h).1,jl l h⟩;have y0:Y (cK 4 (ab l).2.2.aZ/\Fl.bE 4 (ab l).2.2.aZ<=16):=⟨iA l 4,jw l 4⟩;have z0:Y (∀W (t:L),D w W->t.length<=50000->E 5 #[Tq l,Tq t] W (Rw (.bool true) W)):=λW t hW ht=>yp2 l t W (by omega) ht (hk.below hW).er (hk.below hW).mg (hk.below hW).ml;have H0:Y (∀W,D w W->E 5 #[Tq l,.string ⟨#[]⟩] W (Rw (.bool true) W)):=λW hW=>z0 W [] hW (by simp);have Q0:Y (∀W,D w W->Vd W):=λW hW=>(hk.below hW).er;have HA:=Z (And.intro ha hb);obtain⟨q,hq⟩:=J (ab l);rw[<-hq]at v0 x0 y0;clear hk hl hq G0 ha hb
 go_enter func3,ntmps3
 go_wp2_with fail
 refine v0.mono ?_;rintro e w1 ⟨I0,f0,aS⟩;have g0:=Z I0
 by_cases h0:q.1=0
 rotate_left
 ·obtain rfl:=f0 h0
  have b0:(((q.1:Nat):Int) !=0)=true:=(by rw[bne_iff_ne];omega);clear h0 f0 aS I0 v0
  go_wp2_with fail
  refine(H0 _ g0).mono ?_;rintro e w2 ⟨rfl,i0⟩;have c0:Y (D w w2):=g0.trans (i0.mono g0.size);clear i0;go_wp2;go_ret;exact⟨rfl,c0⟩
 obtain⟨Pb,pa,pb,cS,bv,ca,cc,rfl,bB,d1,R0,cZ,n0⟩:=aS h0;obtain⟨Lq,rb,aB,hv,o0⟩:=yex d1 R0 cZ n0 (x0 h0).1 (x0 h0).2;have J0:Y (E 6 #[F Pb] w1 (ysy q.2.2 w1)):=yjx o0 y0.1 y0.2;clear f0 aS h0 n0 R0 cZ o0 x0 y0 bB I0 v0
 go_wp2_with fail
 refine J0.mono ?_;rintro e w2 ⟨i0,la,ln,lc,na,nn,nc,rfl,K0⟩;have c0:Y (D w w2):=g0.trans (i0.mono g0.size);have L0:w1.heap.size<=w2.heap.size:=i0.size
 by_cases hp:0<(eM q.2.2).1
 ·have g1:(0:Int)<((eM q.2.2).1:Int):=by omega
  clear K0 i0 J0
  go_wp2_with fail
  refine(H0 _ (c0.alloc c0.size _)).mono ?_;rintro e w3 ⟨rfl,S0⟩;have f1:Y (D w w3):=(c0.alloc c0.size _).trans (S0.mono (by have:=c0.size;simp;omega));clear S0;go_wp2;go_ret;exact⟨rfl,f1⟩
 have hz:(eM q.2.2).1=0:=by omega
 obtain⟨Xb,lvs,T0,h4⟩:=K0 hz;have U0:=Z (T0.bin h4);generalize (eM q.2.2).2.1=ls at*;generalize (eM q.2.2).2.2=acc at*;rw[hz];clear K0 i0 J0 hp hz T0 h4 H0
 go_wp2_with fail
 obtain⟨W4,A0⟩:=J ((w2.alloc (.cells #[A la ln lc,A na nn nc] 30)).alloc (.cells #[.string ⟨#[]⟩,.string ⟨#[]⟩,A la ln lc,A na nn nc,K,K] 37));rw[<-A0]
 have d0:Y (D w2 W4):=by show Below _ _ _;rw[A0];exact bA.alloc (by simp) _
 have M0:Y (W4.heap[w2.heap.size+1]?=some (.cells #[.string ⟨#[]⟩,.string ⟨#[]⟩,A la ln lc,A na nn nc,K,K] 37 (0,0))):=by
  show _=_;rw[A0,<-size_alloc w2 (.cells #[A la ln lc,A na nn nc] 30)];exact heap_alloc_last _ _
 have V0:Y (D w W4):=c0.trans (d0.mono c0.size);have p0:=Z (U0.below d0)
 have j0:w1.heap.size<=W4.heap.size:=by have:=d0.size;omega
 clear A0 U0 d0;refine(ye4 p0 j0 M0 HA.1 HA.2).mono ?_;rintro e w5 ⟨rfl,N0,W0,ls5,acc5,lvs5,q0⟩;have B0:Y (D w w5):=V0.trans (N0.mono g0.size);have r0:=Z (W0.trans M0);have e0:=Z q0;have k0:w1.heap.size<=w5.heap.size:=Nat.le_trans j0 N0.size;clear N0 W0 q0 p0 M0 j0 V0 c0 L0
 go_wp2_with fail
 refine(zs0 a 3 _ HA.1 ⟨by omega,by omega⟩).mono ?_;rintro e W ⟨⟨i,hi,rfl⟩,X0⟩;rw[X0];clear X0;generalize hii:((i:Nat):Int)=ii
 by_cases h0:ii=0
 all_goals first
  |subst h0
   clear hii hi
   go_wp2_with fail
   refine(yjw e0 k0 r0 HA.1).mono ?_;rintro e w6 ⟨rfl,Y0,Z0,ls6,acc6,lvs6,s0⟩;have l0:Y (D w w6):=B0.trans (Y0.mono g0.size);have C0:=Z (Z0.trans r0);have a0:=Z s0;clear Y0 Z0 s0 e0 r0 B0 k0
  |have b9:(ii==0)=false:=beq_eq_false_iff_ne.2 h0
   obtain⟨w6,rfl⟩:=J (w5);obtain⟨ls6,rfl⟩:=J (ls5);obtain⟨acc6,rfl⟩:=J (acc5);obtain⟨lvs6,rfl⟩:=J (lvs5);have l0:=B0;have C0:=r0;have a0:=e0;clear hii hi h0 B0 r0 e0 k0
 all_goals
  have c2:M w6 (w2.heap.size+1) 2 (A la ln lc):=cell_of_row _ _ _ _ _ _ C0.out;have c3:M w6 (w2.heap.size+1) 3 (A na nn nc):=cell_of_row _ _ _ _ _ _ C0.out;have D0:=Z (zd3 ls6 acc6 _ _ _ w6 lE a0.ints a0.nodes);have O0:Y (ln=ls6.length/\nn=acc6.length):=by
   obtain⟨_,_,e1,-⟩:=id a0.ints;obtain⟨_,_,e2⟩:=Yh a0.ow;injection e1 with _ e1 _;injection e2 with _ e2 _;exact⟨e1,e2⟩
  have E0:Y (∀W,D w6 W->(aH ls6 acc6).2.1=false->E 10 #[.agg #[A la ln lc,A na nn nc]] W (Rw (.tuple #[K,.bool true]) W)):=λW hW hr=>by
   have h6:=a0.below hW;have h7:=h6.ints;have h8:=h6.nodes;have h9:=(h6.li (A la ln lc,ls6) (by simp)).1.2;have h5:=h6.le.1;simp only at h9;rw[O0.1]at h7⊢;rw[O0.2]at h8⊢;exact yp5 ls6 acc6 la na lc nc W (Q0 W (l0.trans (hW.mono l0.size))) h7 h8 (by omega) (by omega) (λj hj=>by have:=(h6.li _ (mem_cons_of_mem _ (Vj acc6 lvs6 j h6.hl hj))).1.2;simp only at this;omega) hr
  have F0:=Z (enc_len (ls:=ls6) (ns:=acc6));generalize aH ls6 acc6=r at*;obtain⟨bl,ok,pl⟩:=r;simp only at D0 E0 F0;clear C0 a0 O0 HA Q0
  go_wp2_with fail
  refine D0.mono ?_;rintro e w7 ⟨rfl,m0⟩;have t0:Y (D w w7):=l0.trans (m0.mono l0.size)
  cases ok
  ·have a1:=Z (E0 w7 m0 rfl)
   have h1:=l0.size;have d2:M w7 (w2.heap.size+1) 2 (A la ln lc):=cT m0 (Qe w6 _ c2) c2;have d3:M w7 (w2.heap.size+1) 3 (A na nn nc):=cT m0 (Qe w6 _ c3) c3;clear m0 E0 D0 F0 z0 c2 c3
   go_wp2_with fail
   refine a1.mono ?_;rintro e w8 ⟨rfl,u0⟩;have P0:Y (D w w8):=t0.trans (u0.mono t0.size);clear u0 a1;go_wp2;go_ret;exact⟨rfl,P0⟩
  have b1:=Z (z0 w7 bl t0 (F0 rfl));clear m0 E0 D0 F0 z0 c2 c3
  go_wp2_with fail
  refine b1.mono ?_;rintro e w8 ⟨rfl,u0⟩;have P0:Y (D w w8):=t0.trans (u0.mono t0.size);clear u0 b1;go_wp2;go_ret;exact⟨rfl,P0⟩
open Go.ChangeShapes Go.WideShapes Go.ChangeMaps
def Tryz.laidOutR:laidOutB Tryz.prog=true:=by kernel_rfl
abbrev zd5:List (String×DataW Unit):=Rows.bentRow.laid
def yp6(h:laidMetH Tryz.prog zd5 W):Vd W:=by
 have h':laidMet Tryz.prog [("unicode/utf8.acceptRanges",Rows.laid_unicode_utf8_acceptRanges),("unicode/utf8.first",Rows.laid_unicode_utf8_first)] W/\handlesMet Tryz.prog [("errors.errorType",Rows.laid_errors_errorType)] W:=h;exact zcv ⟨⟨[],rfl,nodup_nil,λ_ _ h=>by cases h⟩,h'.2⟩
def zqv(h:W.ShapedOpen Tryz.prog):Xw W:=
 cell_of_shapedOpen_int (P:=Tryz.prog) (g:=1) (t:=3) (zero:=#[I 0]) h (of_decide_eq_true (by kernel_rfl)) (by kernel_rfl) rfl (by kernel_rfl) (by kernel_rfl) Tryz.underlying3
def zp6{H:Type}{enc:TypeId×Value->H}{a:Assume}{C:Checked}{os:Os}{f:FuncId}{fn:Func}{s:ChangeSpec}{conds:List PathCond}{apart fresh a0 again:Bool}{X:World->Array Value->Prop}
  (hX:∀(w w':World) (args:Array Value),w.heap=w'.heap->X w args->X w' args)
  (own:ownKnob C.prog.godebug=none) (started:os.Started) (noInit:C.prog.inits.idxOf? f=none) (e0:C.prog.funcs[f]?=some fn)
  (witness:∃(w:World) (tape:Tape) (i:Input),w.os=os/\(w.forCall tape i).Shaped C.prog/\i.vars=[]/\Input.okWide C.prog (w.forCall tape i) .any w.heap.size f i/\
   ((s.pre enc C.prog fn conds apart (w.forCall tape i).memory i.args/\X (w.forCall tape i).memory i.args)/\sizedMet enc C.prog fn (OpenSpec.ofChange s) apart (w.forCall tape i).memory i.args)/\a.holds C.prog (lone (Frame.enter C.prog f i.args .normal) [] (w.forCall tape i)))
  (contract:∀(W:World) (base:Nat) (args:Array Value) (ds gs:List (DataW H)) (before:List MemPlace),(∀(j:Nat) t v,fn.params[j]?=some t->args[j]?=some v->okWide C.prog W .any base t v)->
   DataW.Whole enc C.prog fn.params.toList s.vars apart W args.toList ds gs before->(DataW.weightsEach C.prog (fn.params.toList++s.plain.varTypes C.prog) (ds++gs)).all (·<=reachBytes)=true->X W args->W.ShapedOpen C.prog->
   Calls C.prog f args W λe W'=>∃v,e=.returned v/\s.post enc C.prog fn apart fresh a0 again W args v W'):
  ReturnsInHanded a C os f .any (λw args=>(s.pre enc C.prog fn conds apart w args/\X w args)/\sizedMet enc C.prog fn (OpenSpec.ofChange s) apart w args) (s.post enc C.prog fn apart fresh a0 again):=by
 refine returnsInHanded_of_calls own started noInit witness ?_;intro w tape i _ f0 _ g0 b0 c0;obtain⟨_,_,_,fn',hfn',_,_,_,_,d0⟩:=g0;have e:fn'=fn:=Option.some.inj (hfn'.symm.trans e0);subst e;obtain⟨⟨⟨ds,gs,before,hw,_⟩,hx⟩,hz⟩:=b0;have hw':=DataW.Whole.of_heap (w':=w.forCall tape i) (by rfl) hw;refine(contract (w.forCall tape i) w.heap.size i.args ds gs before d0 hw' (hz.weights hw) (hX _ _ _ (by rfl) hx) f0).mono λe W' ⟨v,he,hp⟩=>?_;subst he;exact ChangeSpec.post_blind hp
def yx9(os:Os)(args:Array Value):laidMetH Tryz.prog zd5 ((({doorLaid Tryz.prog 41 os with heap:=(doorLaid Tryz.prog 41 os).heap.modify 2 λ
   | .cells _ t frozen=> .cells (Go.Pinned.utf8FirstZ.map λ(z:Nat)=>int .u8 (z:Int)).toArray t frozen
   |o=>o}:World)).forCall (λ_ _=>0) ⟨#[],args,[]⟩).memory:=
 laidMetH_of_parts (laidMet_of_run' 8 (by kernel_rfl) (by kernel_rfl)) (by kernel_rfl)
def yew{n:Int}(h:(Lit.int .i64 n).wf=true): -9223372036854775808<=n/\n<=9223372036854775807:=by
 simp[Lit.wf,IntKind.min,IntKind.max,IntKind.signed,IntKind.bits]at h;omega
def yp7(os:Os)(started:os.Started)(H:Type)(enc:TypeId×Value->H):
    ReturnsInHanded {} Tryz.checked os 3 .any (λw args=>(Rows.bentSpec.pre enc Tryz.prog Tryz.f3 [] false w args/\laidMetH Tryz.prog zd5 w)/\sizedMet enc Tryz.prog Tryz.f3 (OpenSpec.ofChange Rows.bentSpec) false w args)
      (Rows.bentSpec.post enc Tryz.prog Tryz.f3 false true false false):=by
  refine zp6 (C:=Tryz.checked) (X:=λw _=>laidMetH Tryz.prog zd5 w) (λ_ _ _ hh h=>h.of_heap hh) Tryz.own started (by kernel_rfl) Tryz.func3
    (ChangeSpec.witness_shaped (enc:=enc) (C:=Tryz.checked) (os:=os) (X:=λw _=>laidMetH Tryz.prog zd5 w) false ({
                                                                                                                             doorLaid Tryz.prog 41 os with heap:=(doorLaid Tryz.prog 41 os).heap.modify 2 λ
      | .cells _ t frozen=> .cells (Go.Pinned.utf8FirstZ.map λ(z:Nat)=>int .u8 (z:Int)).toArray t frozen
      |o=>o}:World) #[.string ⟨#[]⟩,I 0,I 0,I 0] 8 rfl (shaped_of_RefB (by kernel_rfl) (by kernel_rfl)) (by kernel_rfl) (by kernel_rfl) (by kernel_rfl) (yx9 os _)) ?_
  intro W base args ds gs before b0 hW f0 hL e0;have a0:∀(j:Nat) t v,Tryz.f3.params[j]?=some t->args[j]?=some v->okWide Tryz.prog W .any base t v:=b0;have hW':=hW;obtain⟨p,q,g0,h0,rfl,i0,j0⟩:=hW;have hA:DataW.TrodAll enc Tryz.prog W 0 (λ_=>true) true Tryz.f3.params.toList args.toList ds p:=g0;have hV:DataW.TrodVars enc Tryz.prog W (λ_=>true) [] gs q:=h0;have hwt':(DataW.weightsEach Tryz.prog (Tryz.f3.params.toList++Rows.bentSpec.plain.varTypes Tryz.prog) (ds++gs)).all (·<=reachBytes)=true:=f0;rw[Tryz.params3]at hA a0 hwt';obtain⟨v0,v1,v2,v3,d0,d1,d2,d3,p0,p1,p2,p3,rfl,rfl,rfl,t0,t1,t2,t3⟩:=trodAll_four hA;obtain⟨rfl,rfl⟩:=trodVars_none hV;obtain⟨s,rfl,rfl,rfl,cD⟩:=open_string Tryz.underlying9 (a0 0 9 v0 rfl rfl) t0;obtain⟨x,rfl,rfl,rfl,hx⟩:=open_int Tryz.underlying3 (a0 1 3 v1 rfl rfl) t1;obtain⟨y,rfl,rfl,rfl,hy⟩:=open_int Tryz.underlying3 (a0 2 3 v2 rfl rfl) t2;obtain⟨z,rfl,rfl,rfl,hz⟩:=open_int Tryz.underlying3 (a0 3 3 v3 rfl rfl) t3;have hg:=yp6 hL;have k0:=reachBytes_lt;have l0:s.data.toList.length<=1000000000000000000:=by
    have:=sized_string hwt' (j:=0) (t:=9) (bytes:=s.data.toList) rfl rfl;omega
  have hgm:1<W.heap.size:=by
    obtain⟨x,hx⟩:=zqv e0;exact Qe W _ hx
  have e2:(⟨s.data.toList.toArray⟩:ByteArray)=s:=(by simp);have c0:E 3 #[.string s,I x,I y,I z] W λe W'=>e=.returned (.bool true)/\D W W':=by
    rw[<-e2];exact bent_any s.data.toList x y z W (by omega) (yew hx) (yew hy) ⟨hg,hgm,zqv e0⟩
  have e1:Rows.bentSpec.fn H ([.lit (.string s.data.toList),.lit (Lit.int .i64 x),.lit (Lit.int .i64 y),.lit (Lit.int .i64 z)]++[])={results:=[.lit (.bool true)],args:=[.lit (.string s.data.toList),.lit (Lit.int .i64 x),.lit (Lit.int .i64 y),.lit (Lit.int .i64 z)]}:=(by simp[Rows.bentSpec]);refine c0.mono λe W' ⟨he,hw⟩=>?_;subst he;refine⟨_,rfl,_,_,_,[],[],[],hW',?_,?_,?_,hw.frame _,λh=>by cases h⟩
  · rw[e1];exact trodAll_mk1 (shut_bool Tryz.underlying4 true)
  · rw[e1];exact trodAll_mk4 (shut_string Tryz.underlying9 cD) (shut_int Tryz.underlying3 hx) (shut_int Tryz.underlying3 hy) (shut_int Tryz.underlying3 hz)
  rw[e1];rfl
def yev:Rows.BentSaid:=
 OpenClaim.holds_of_wide 3 Tryz.f3 rfl rfl rfl rfl rfl rfl rfl ⟨rfl,rfl,rfl,rfl,rfl⟩ rfl rfl rfl rfl rfl (by kernel_rfl) Tryz.func3 (by kernel_rfl)
  (of_decide_eq_true (by kernel_rfl)) (by unfold Func.isWrapper;rw[U (of_decide_eq_false (by kernel_rfl))];exact⟨rfl,rfl⟩)
  (λos started H enc _=>yp7 os started H enc)
def bent_card:Rows.BentCardSaid:=
 Claim7.holds_tied_plain_at .later [] [.data,.handle,.pinned] true Rows.bentCard.stood.harness true
  yev (λ_ h=>by cases h) (by kernel_rfl) (λ_ h=>by cases h) bent_row_tie rfl ⟨rfl,rfl⟩ (by kernel_rfl) rfl
  (λf fn hf a0=>by
   obtain rfl:f=3:=Option.some.inj ((show Tryz.prog.funcNamed Rows.bentRow.func=some 3 by kernel_rfl).symm.trans hf)|>.symm;obtain rfl:fn=Tryz.f3:=(Option.some.inj (Tryz.func3.symm.trans a0)).symm
   exact⟨by kernel_rfl,λj t ht=>by
    rw[Tryz.params3]at ht;rcases j with _|_|_|_|j
    ·have h3:t=9:=by simpa using ht.symm
     subst h3;exact(show Tryz.prog.wantsStandIn 9=false by kernel_rfl)
    iterate 3
     have h3:t=3:=(by simpa using ht.symm);subst h3;exact(show Tryz.prog.wantsStandIn 3=false by kernel_rfl)
    simp at ht⟩)
  (by kernel_rfl)
end Go.Proofs.YtgmbnnpnefniiaaGreatDoor
