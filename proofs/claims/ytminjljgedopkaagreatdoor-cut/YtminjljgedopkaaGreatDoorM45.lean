import Derived.Test.YtminjljgedopkaaGreatDoorM26
import Derived.Test.YtminjljgedopkaaGreatDoorM37
import Derived.Test.YtminjljgedopkaaGreatDoorM44
set_option linter.all false
set_option maxRecDepth 100000
set_option maxHeartbeats 40000000
namespace Go.Proofs.YtminjljgedopkaaGreatDoor
open Go.RowKit Go.Proofs.Tryz
def Vy.take{w:World}{ao:Option Addr}{s:List UInt8}(h:Vy w ao s)(n:Nat):Vy w ao (s.take n):=λb0=>by
 obtain⟨bb,bo,e,h1,h2⟩:=h (by rintro rfl;simp at b0);refine⟨bb,bo,e,h1,λi hi=>?_⟩
 have a0:i<n/\i<s.length:=by rw[List.length_take]at hi;omega
 rw[h2 i a0.2]
 congr 3
 rw[Qa,Qa,List.getElem?_take_of_lt a0.1]
def cut_any(l:List UInt8)(k:Int)(w:World)(hs:l.length<=9223372036854775807)(l1: -9223372036854775808<=k/\k<=9223372036854775807)(hk:zt8 w):
  Calls prog 4 #[.string ⟨l.toArray⟩,.int .i64 k] w λe w'=>e=.returned (.bool true)/\Below w.heap.size w w':=by
 have z0:Hid (Calls prog 9 #[] w λe w'=>e=.returned (.bool true)/\Below w.heap.size w w'):=zg2 hk.er hk.mg hk.ml;have HK:Hid (∀W,Below w.heap.size w W->zt8 W):=λW hW=>hk.below hW;obtain⟨s,n0⟩:=nmE (α:=ByteArray) (⟨l.toArray⟩)
 have hsz:s.size=l.length:=by rw[n0];rfl
 rw[<-n0];clear hk
 by_cases m1:8192<l.length
 ·have n1:(8192:Int)<(l.length:Int):=by omega
  clear HK n0
  go_enter func4,ntmps4
  go_wp2_with fail
  refine z0.out.mono ?_;rintro e w1 ⟨rfl,o0⟩;have p0:=Zz o0;clear z0 o0;go_wp2;go_ret;exact⟨rfl,p0.out⟩
 have n1:¬(8192:Int)<(l.length:Int):=by omega
 have M0:Hid (l.length<=8192):=by show _<=_;omega
 have N0:=Zz n0
 have C0:Hid (∀W,Below w.heap.size w W->Calls prog 14 #[.string s] W (zpy (Fl.inferE (Fl.readProg l)) W)):=λW hW=>by
  rw[N0.out];exact zr2 (HK.out W hW).er (by have:=M0.out;omega) (HK.out W hW).mg (HK.out W hW).ml
 obtain⟨res,f0⟩:=nmE (Fl.inferE (Fl.readProg l));rw[<-f0]at C0;have a0:=Zz f0;clear n0 f0
 go_enter func4,ntmps4
 go_wp2_with fail
 refine z0.out.mono ?_;rintro e w1 ⟨rfl,o0⟩;have p0:=Zz o0;clear z0 o0
 go_wp2_with fail
 refine(C0.out _ p0.out).mono ?_;rintro e w2 ⟨O0,va,n,c,rfl,ho⟩;have b0:Hid (Below w.heap.size w w2):=p0.out.trans (O0.mono p0.out.size);have A0:Hid (Vy w2 va res.2.2):=(Vy.of_own ho).2;have P0:Hid (res.2.2.length<=c):=by
  rcases ho.2 with⟨e,h0⟩|⟨g,cap,cur,e,_,_,h3,_⟩
  ·show _<=_;omega
  injection e with e1 e2 e3;show _<=_;omega
 obtain rfl:n=res.2.2.length:=(Vy.of_own ho).1;clear O0 ho C0;obtain⟨bs,q0⟩:=nmE (res.2.2);rw[<-q0]at A0 P0⊢
 by_cases h0:res.1=0
 ·have h0':(Fl.inferE (Fl.readProg l)).1=0:=by rw[<-a0.out];exact h0
  have ebs:(Fl.inferE (Fl.readProg l)).2.2=bs:=(by rw[<-a0.out,<-q0]);have r0:3<=bs.length:=(by have:=Fl.found_pos h0';rw[ebs]at this;exact this);have o1:bs.length<=100000:=(by have:=Fl.found_len h0';rw[ebs]at this;exact this)
  have p1:Hid (∀x:UInt8,Fl.decode (bs++[x])=(([],[]),false,(bs.length:Int))):=λx=>by have:=Fl.cut_more h0' x;rw[ebs]at this;exact this
  have r1:Hid (∀n,n<bs.length->(Fl.decode (bs.take n)).2.1=false/\(Fl.checked (Fl.readProg l) (Fl.decode (bs.take n))).1=8):=λn hn=>by have:=Fl.cut_cut h0' (n:=n) (by rw[ebs];exact hn);rw[ebs]at this;exact this
  obtain⟨bb,bo,rfl,z1,Q0⟩:=A0.out (by rintro rfl;simp at r0);obtain⟨bl,g0⟩:=nmE (bs.length);have j0:=Zz g0
  have s1:Hid (∀j u,(bs.map Za)[j]?=some u->w2.cell? ((⟨bb,bo,none⟩:Addr).add j)=some u):=λj u hj=>by
   have h2:(⟨bb,bo,none⟩:Addr).add j=⟨bb,bo+j,none⟩:=by unfold Addr.add;split<;>simp_all
   rw[List.getElem?_map]at hj
   cases s0:bs[j]? with
   |none=>rw[s0]at hj;cases hj
   |some y=>
    rw[s0]at hj;have k0:j<bs.length:=by
     refine Classical.byContradiction λhn=>?_
     rw[List.getElem?_eq_none (by omega)]at s0;cases s0
    rw[h2,Q0 j k0,<-hj,Qa,s0];rfl
  have t1:Hid (∀u∈bs.map Za,u.oneCell'=true):=λu hu=>by
   simp only[List.mem_map]at hu;obtain⟨y,_,rfl⟩:=hu;rfl
  obtain⟨i0,hi,R0,S0,T0⟩:=info_parts Tryz.infoByte;rw[h0];rw[<-g0]at r0 o1⊢;have u1:(bl:Int)<=100000/\3<=(bl:Int):=(by omega);clear q0 h0 h0' ebs Q0 g0
  go_wp2_with (at_builtin;refine wpList_append_own _ rfl _ _ 30 rfl w2.heap.size 5 i0 (.int .u8 0) 1 1 underlying30 hi R0 S0 T0 rfl (by decide) (.slice none 0 0) 0 [] rfl (World.ownsRow_nil _ _ _ _) ⟨bb,bo,none⟩ bl c (bs.map Za) rfl (by rw[List.length_map,j0.out,Nat.mul_one]) s1.out t1.out (by unfold maxLen;omega) (by omega) (Nat.le_refl _) ?_)
  rintro v1 w3 t0 l0 -;have U0:Below w2.heap.size w2 w3:=⟨l0.os,l0.tape,l0.output,l0.size,λj hj=>l0.block j hj (by simp[Value.ownBlock])⟩;have V0:=Zz U0
  replace t0:w3.ownsRow w2.heap.size 5 1 v1 bl (bs.map Za):=by simpa using t0
  obtain⟨g1,cp1,rfl⟩:∃g1 cp1,v1=.slice (some ⟨g1,0,none⟩) bl cp1:=by
   rcases t0.2 with⟨-,e⟩|⟨g,cp,cur,e,-⟩
   ·omega
   exact⟨g,cp,e⟩
  have D0:=Zz t0;clear t0 l0 U0
  go_wp2_with (at_builtin;refine wpList_append_own _ rfl _ _ 30 rfl w2.heap.size 5 i0 (.int .u8 0) 1 1 underlying30 hi R0 S0 T0 rfl (by decide) (.slice (some ⟨g1,0,none⟩) bl cp1) bl (bs.map Za) rfl ?c1 ⟨w3.heap.size,0,none⟩ 1 1 [.int .u8 (k % 256)] rfl rfl ?c2 ?c3 ?c4 ?c5 ?c6 ?_)
  case c1=>exact Yu D0.out (λb hb=>Below.heap_alloc _ _ _ (D0.out.lt b hb).2)
  case c2=>exact Va
  case c3=>intro u hu;simp at hu;subst hu;rfl
  case c4=>unfold maxLen;omega
  case c5=>omega
  case c6=>have:=V0.out.size;simp;omega
  rintro v2 w4 B0 m0 -;have u0:w2.heap.size<=g1:=(D0.out.lt g1 rfl).1;have E0:Below w2.heap.size w2 w4:=by
   have h3:=V0.out;have hz:=m0.size;simp only[World.size_alloc]at hz;refine⟨m0.os.trans h3.os,m0.tape.trans h3.tape,m0.output.trans h3.output,by have:=h3.size;omega,λj hj=>?_⟩;have x1:j<w3.heap.size:=(by have:=h3.size;omega);exact(m0.block j (by simp;omega) (by simp[Value.ownBlock];omega)).trans ((Below.heap_alloc _ _ _ x1).trans (h3.block j hj))
  obtain⟨x8,W0⟩:∃x8:UInt8,Value.int .u8 (k % 256)=Za x8:=by
   refine⟨UInt8.ofNat (k % 256).toNat,?_⟩;have h1:0<=k % 256/\k % 256<256:=(by omega);have h2:(UInt8.ofNat (k % 256).toNat).toNat=(k % 256).toNat:=(by simp;omega);unfold Za;rw[h2]
   congr 1
   omega
  have X0:w4.ownsRow w2.heap.size 5 1 v2 (bs++[x8]).length ((bs++[x8]).map Za):=by
   rw[W0]at B0;rw[List.length_append,List.map_append,<-j0.out];exact B0
  obtain⟨a2,cp2,rfl⟩:∃a2 cp2,v2=.slice a2 (bl+1) cp2:=by
   rcases B0.2 with⟨-,e⟩|⟨g,cp,cur,e,-⟩
   ·omega
   exact⟨_,cp,e⟩
  have Y0:Hid (Calls prog 10 #[.slice a2 (bl+1) cp2] w4 (yx7 (([],[]),false,(bl:Int)) w4)):=by
   have h:=yx8 (cap:=cp2) (ao:=a2) (s:=bs++[x8]) (w:=w4) (HK.out _ (b0.out.trans (E0.mono b0.out.size))).er (by rw[List.length_append,<-j0.out];simp;omega) (Vy.of_own X0).2;rw[p1.out,List.length_append,<-j0.out]at h;exact h
  have Z0:=Zz E0;clear u0 E0 W0 X0 B0 m0
  go_wp2_with fail
  refine Y0.out.mono ?_;rintro e w5 ⟨a1,c0,-⟩;obtain rfl:=c0 rfl;have b1:Hid (Below w2.heap.size w2 w5):=Z0.out.trans (a1.mono Z0.out.size);clear a1 c0 Y0
  go_wp2_with fail
  obtain⟨W6,F0⟩:=nmE (w5.alloc (.cells #[.slice none 0 0,.slice none 0 0] 26));have G0:Hid (Below w2.heap.size w2 W6):=(by show Below _ _ _;rw[F0];exact b1.out.alloc b1.out.size _);rw[<-F0];clear F0;refine(kpick_any k bl _ l1 ⟨by omega,by omega⟩).mono ?_;rintro e W7 ⟨rfl,rfl⟩;have hr:=pickN_lt k (n:=bl) (by omega);obtain⟨r,d1⟩:=nmE (pickN k bl);rw[<-d1]at hr⊢;obtain⟨q1,q2⟩:=r1.out r (by rw[<-j0.out];exact hr);have HQ:=Zz q1;have y1:=Zz q2;have k0:(bs.take r).length=r:=(by rw[List.length_take,<-j0.out];omega);have H0:∀V:World,(Instr.slice 30 (.slice (some ⟨bb,bo,none⟩) bl c) none (some (.int .i64 r)) none).run prog V=.ok (.slice (some ⟨bb,bo,none⟩) r c) V:=λV=>slice_upto V _ bl c r (by have:=P0.out;have:=j0.out;omega)
  have f1:Hid (∀W,Below w2.heap.size w2 W->Calls prog 10 #[.slice (some ⟨bb,bo,none⟩) r c] W (yx7 (Fl.decode (bs.take r)) W)):=λW hW=>by
   have h:=yx8 (cap:=c) (ao:=some ⟨bb,bo,none⟩) (s:=bs.take r) (w:=W) (HK.out _ (b0.out.trans (hW.mono b0.out.size))).er (by rw[k0];omega) ((A0.out.below hW).take r);rw[k0]at h;exact h
  have i1:Hid (∀W,Below w2.heap.size w2 W->Calls prog 16 #[.string s,.slice (some ⟨bb,bo,none⟩) r c] W λe w'=>e=.returned (.tuple #[.int .i64 8,.int .i64 (Fl.checked (Fl.readProg l) (Fl.decode (bs.take r))).2])/\Below W.heap.size W w'):=λW hW=>by
   have I0:=b0.out.trans (hW.mono b0.out.size);have h:=zwx (l:=l) (s:=bs.take r) (ao:=some ⟨bb,bo,none⟩) (cap:=c) (HK.out W I0).er (by have:=M0.out;omega) (HK.out W I0).mg (HK.out W I0).ml (by rw[k0];omega) ((A0.out.below hW).take r);rw[k0,y1.out]at h;rw[N0.out];exact h
  clear q1 q2 k0 d1
  go_wp2_with fail
  refine(f1.out _ G0.out).mono ?_;rintro e w8 ⟨j1,d0,-⟩;obtain rfl:=d0 HQ.out;have k1:Hid (Below w2.heap.size w2 w8):=G0.out.trans (j1.mono G0.out.size);obtain⟨pl2,v0⟩:=nmE ((Fl.decode (bs.take r)).2.2);rw[<-v0];clear j1 d0 f1 v0
  go_wp2_with fail
  obtain⟨W9,J0⟩:=nmE (w8.alloc (.cells #[.slice none 0 0,.slice none 0 0] 26));have K0:Hid (Below w2.heap.size w2 W9):=(by show Below _ _ _;rw[J0];exact k1.out.alloc k1.out.size _);rw[<-J0];clear J0;refine(i1.out _ K0.out).mono ?_;rintro e w10 ⟨rfl,x0⟩;have L0:Hid (Below w.heap.size w w10):=b0.out.trans ((K0.out.trans (x0.mono K0.out.size)).mono b0.out.size);obtain⟨pl3,y0⟩:=nmE ((Fl.checked (Fl.readProg l) (Fl.decode (bs.take r))).2);rw[<-y0];clear x0 y0 i1 H0;go_wp2;go_ret;exact⟨rfl,L0.out⟩
 have e0:bs=[]:=by rw[q0,a0.out];exact Fl.inferE_bad (by rw[<-a0.out];exact h0)
 have el:bs.length=0:=by rw[e0];rfl
 have l0:((res.1:Int) !=0)=true:=by rw[bne_iff_ne];omega
 rw[el];clear e0 el q0 h0;go_wp2;go_ret;exact⟨rfl,b0.out⟩
end Go.Proofs.YtminjljgedopkaaGreatDoor
