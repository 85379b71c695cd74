import Derived.Test.YtminjljgedopkaaGreatDoorM26
import Derived.Test.YtminjljgedopkaaGreatDoorM37
import Derived.Test.YtminjljgedopkaaGreatDoorM44
set_option linter.all false
set_option maxRecDepth 100000
set_option maxHeartbeats 40000000
namespace Go.Proofs.YtminjljgedopkaaGreatDoor
open Go.RowKit Go.Proofs.Tryz
def Vy.take{w:World}{ao:Option Addr}{s:List UInt8}(h:Vy w ao s)(n:Nat):Vy w ao (s.take n):=λhne=>by
 obtain⟨bb,bo,e,h1,h2⟩:=h (by rintro rfl;simp at hne);refine⟨bb,bo,e,h1,λi hi=>?_⟩
 have hi2:i<n/\i<s.length:=by rw[List.length_take]at hi;omega
 rw[h2 i hi2.2]
 congr 3
 rw[List.getD_eq_getElem?_getD,List.getD_eq_getElem?_getD,List.getElem?_take_of_lt hi2.1]
def cut_any(l:List UInt8)(k:Int)(w:World)(hs:l.length<=9223372036854775807)(hkr: -9223372036854775808<=k/\k<=9223372036854775807)(hk:zt8 w):
  Calls prog 4 #[.string ⟨l.toArray⟩,.int .i64 k] w λe w'=>e=.returned (.bool true)/\Below w.heap.size w w':=by
 have HST:Hid (Calls prog 9 #[] w λe w'=>e=.returned (.bool true)/\Below w.heap.size w w'):=zg2 hk.er hk.mg hk.ml;have HK:Hid (∀W,Below w.heap.size w W->zt8 W):=λW hW=>hk.below hW;obtain⟨s,hsl⟩:∃s:ByteArray,s=⟨l.toArray⟩:=⟨_,rfl⟩
 have hsz:s.size=l.length:=by rw[hsl];rfl
 rw[<-hsl];clear hk
 by_cases hbig:8192<l.length
 ·have hbi:(8192:Int)<(l.length:Int):=by omega
  clear HK hsl
  go_enter func4,ntmps4
  go_wp2_with fail
  refine HST.out.mono ?_;rintro e w1 ⟨rfl,hb1⟩;have HB1:Hid (Below w.heap.size w w1):=hb1;clear HST hb1;go_wp2;go_ret;exact⟨rfl,HB1.out⟩
 ·have hbi:¬(8192:Int)<(l.length:Int):=by omega
  have HLL:Hid (l.length<=8192):=(by show _<=_;omega);have HSL:Hid (s=⟨l.toArray⟩):=hsl
  have HIN:Hid (∀W,Below w.heap.size w W->Calls prog 14 #[.string s] W (zpy (Fl.inferE (Fl.readProg l)) W)):=λW hW=>by
   rw[HSL.out];exact zr2 (HK.out W hW).er (by have:=HLL.out;omega) (HK.out W hW).mg (HK.out W hW).ml
  obtain⟨res,hres⟩:∃res,res=Fl.inferE (Fl.readProg l):=⟨_,rfl⟩;rw[<-hres]at HIN;have HRES:Hid (res=Fl.inferE (Fl.readProg l)):=hres;clear hsl hres
  go_enter func4,ntmps4
  go_wp2_with fail
  refine HST.out.mono ?_;rintro e w1 ⟨rfl,hb1⟩;have HB1:Hid (Below w.heap.size w w1):=hb1;clear HST hb1
  go_wp2_with fail
  refine(HIN.out _ HB1.out).mono ?_;rintro e w2 ⟨hb2,va,n,c,rfl,ho⟩;have HB2:Hid (Below w.heap.size w w2):=HB1.out.trans (hb2.mono HB1.out.size);have HBY:Hid (Vy w2 va res.2.2):=(Vy.of_own ho).2;have HCP:Hid (res.2.2.length<=c):=by
   rcases ho.2 with⟨e,h0⟩|⟨g,cap,cur,e,_,_,h3,_⟩
   ·show _<=_;omega
   ·injection e with e1 e2 e3
    show _<=_;omega
  obtain rfl:n=res.2.2.length:=(Vy.of_own ho).1;clear hb2 ho HIN;obtain⟨bs,hbs⟩:∃bs,bs=res.2.2:=⟨_,rfl⟩;rw[<-hbs]at HBY HCP⊢
  by_cases h0:res.1=0
  ·have h0':(Fl.inferE (Fl.readProg l)).1=0:=by rw[<-HRES.out];exact h0
   have ebs:(Fl.inferE (Fl.readProg l)).2.2=bs:=(by rw[<-HRES.out,<-hbs]);have hpos:3<=bs.length:=(by have:=Fl.found_pos h0';rw[ebs]at this;exact this);have hbl:bs.length<=100000:=(by have:=Fl.found_len h0';rw[ebs]at this;exact this)
   have HMO:Hid (∀x:UInt8,Fl.decode (bs++[x])=(([],[]),false,(bs.length:Int))):=λx=>by have:=Fl.cut_more h0' x;rw[ebs]at this;exact this
   have HCU:Hid (∀n,n<bs.length->(Fl.decode (bs.take n)).2.1=false/\(Fl.checked (Fl.readProg l) (Fl.decode (bs.take n))).1=8):=λn hn=>by have:=Fl.cut_cut h0' (n:=n) (by rw[ebs];exact hn);rw[ebs]at this;exact this
   obtain⟨bb,bo,rfl,hbb,hbc⟩:=HBY.out (by rintro rfl;simp at hpos);obtain⟨bl,hble⟩:∃bl,bl=bs.length:=⟨_,rfl⟩;have HBL:Hid (bl=bs.length):=hble
   have HNW:Hid (∀j u,(bs.map Za)[j]?=some u->w2.cell? ((⟨bb,bo,none⟩:Addr).add j)=some u):=λj u hj=>by
    have h2:(⟨bb,bo,none⟩:Addr).add j=⟨bb,bo+j,none⟩:=by unfold Addr.add;split<;>simp_all
    rw[List.getElem?_map]at hj
    cases hbj:bs[j]? with
    |none=>rw[hbj]at hj;cases hj
    |some y=>
     rw[hbj]at hj;have hlt:j<bs.length:=by
      refine Classical.byContradiction λhn=>?_
      rw[List.getElem?_eq_none (by omega)]at hbj;cases hbj
     rw[h2,hbc j hlt,<-hj,List.getD_eq_getElem?_getD,hbj];rfl
   have HON:Hid (∀u∈bs.map Za,u.oneCell'=true):=λu hu=>by
    simp only[List.mem_map]at hu;obtain⟨y,_,rfl⟩:=hu;rfl
   obtain⟨i0,hi,hz0,hz1,hz2⟩:=info_parts Tryz.infoByte;rw[h0];rw[<-hble]at hpos hbl⊢;have hblI:(bl:Int)<=100000/\3<=(bl:Int):=(by omega);clear hbs h0 h0' ebs hbc hble
   go_wp2_with (at_builtin;refine wpList_append_own _ rfl _ _ 30 rfl w2.heap.size 5 i0 (.int .u8 0) 1 1 underlying30 hi hz0 hz1 hz2 rfl (by decide) (.slice none 0 0) 0 [] rfl (World.ownsRow_nil _ _ _ _) ⟨bb,bo,none⟩ bl c (bs.map Za) rfl (by rw[List.length_map,HBL.out,Nat.mul_one]) HNW.out HON.out (by unfold maxLen;omega) (by omega) (Nat.le_refl _) ?_)
   rintro v1 w3 ho1 hg1 -;have hB3:Below w2.heap.size w2 w3:=⟨hg1.os,hg1.tape,hg1.output,hg1.size,λj hj=>hg1.block j hj (by simp[Value.ownBlock])⟩;have HB3:Hid (Below w2.heap.size w2 w3):=hB3
   replace ho1:w3.ownsRow w2.heap.size 5 1 v1 bl (bs.map Za):=by simpa using ho1
   obtain⟨g1,cp1,rfl⟩:∃g1 cp1,v1=.slice (some ⟨g1,0,none⟩) bl cp1:=by
    rcases ho1.2 with⟨-,e⟩|⟨g,cp,cur,e,-⟩
    ·omega
    ·exact⟨g,cp,e⟩
   have HO1:Hid (w3.ownsRow w2.heap.size 5 1 (.slice (some ⟨g1,0,none⟩) bl cp1) bl (bs.map Za)):=ho1;clear ho1 hg1 hB3
   go_wp2_with (at_builtin;refine wpList_append_own _ rfl _ _ 30 rfl w2.heap.size 5 i0 (.int .u8 0) 1 1 underlying30 hi hz0 hz1 hz2 rfl (by decide) (.slice (some ⟨g1,0,none⟩) bl cp1) bl (bs.map Za) rfl ?c1 ⟨w3.heap.size,0,none⟩ 1 1 [.int .u8 (k % 256)] rfl rfl ?c2 ?c3 ?c4 ?c5 ?c6 ?_)
   case c1=>exact Yu HO1.out (λb hb=>Below.heap_alloc _ _ _ (HO1.out.lt b hb).2)
   case c2=>exact Va
   case c3=>intro u hu;simp at hu;subst hu;rfl
   case c4=>unfold maxLen;omega
   case c5=>omega
   case c6=>have:=HB3.out.size;simp;omega
   rintro v2 w4 ho2 hg2 -;have hg1lo:w2.heap.size<=g1:=(HO1.out.lt g1 rfl).1;have hB4:Below w2.heap.size w2 w4:=by
    have h3:=HB3.out;have hz:=hg2.size;simp only[World.size_alloc]at hz;refine⟨hg2.os.trans h3.os,hg2.tape.trans h3.tape,hg2.output.trans h3.output,by have:=h3.size;omega,λj hj=>?_⟩;have hj3:j<w3.heap.size:=(by have:=h3.size;omega);exact(hg2.block j (by simp;omega) (by simp[Value.ownBlock];omega)).trans ((Below.heap_alloc _ _ _ hj3).trans (h3.block j hj))
   obtain⟨x8,hx8⟩:∃x8:UInt8,Value.int .u8 (k % 256)=Za x8:=by
    refine⟨UInt8.ofNat (k % 256).toNat,?_⟩;have h1:0<=k % 256/\k % 256<256:=(by omega);have h2:(UInt8.ofNat (k % 256).toNat).toNat=(k % 256).toNat:=(by simp;omega);unfold Za;rw[h2]
    congr 1
    omega
   have ho3:w4.ownsRow w2.heap.size 5 1 v2 (bs++[x8]).length ((bs++[x8]).map Za):=by
    rw[hx8]at ho2;rw[List.length_append,List.map_append,<-HBL.out];exact ho2
   obtain⟨a2,cp2,rfl⟩:∃a2 cp2,v2=.slice a2 (bl+1) cp2:=by
    rcases ho2.2 with⟨-,e⟩|⟨g,cp,cur,e,-⟩
    ·omega
    ·exact⟨_,cp,e⟩
   have HPD:Hid (Calls prog 10 #[.slice a2 (bl+1) cp2] w4 (yx7 (([],[]),false,(bl:Int)) w4)):=by
    have h:=yx8 (cap:=cp2) (ao:=a2) (s:=bs++[x8]) (w:=w4) (HK.out _ (HB2.out.trans (hB4.mono HB2.out.size))).er (by rw[List.length_append,<-HBL.out];simp;omega) (Vy.of_own ho3).2;rw[HMO.out,List.length_append,<-HBL.out]at h;exact h
   have HB4:Hid (Below w2.heap.size w2 w4):=hB4;clear hg1lo hB4 hx8 ho3 ho2 hg2
   go_wp2_with fail
   refine HPD.out.mono ?_;rintro e w5 ⟨hb5,hbad5,-⟩;obtain rfl:=hbad5 rfl;have HB5:Hid (Below w2.heap.size w2 w5):=HB4.out.trans (hb5.mono HB4.out.size);clear hb5 hbad5 HPD
   go_wp2_with fail
   obtain⟨W6,hW6⟩:∃W6,W6=w5.alloc (.cells #[.slice none 0 0,.slice none 0 0] 26):=⟨_,rfl⟩;have HB6:Hid (Below w2.heap.size w2 W6):=(by show Below _ _ _;rw[hW6];exact HB5.out.alloc HB5.out.size _);rw[<-hW6];clear hW6;refine(kpick_any k bl _ hkr ⟨by omega,by omega⟩).mono ?_;rintro e W7 ⟨rfl,rfl⟩;have hr:=pickN_lt k (n:=bl) (by omega);obtain⟨r,hre⟩:∃r,r=pickN k bl:=⟨_,rfl⟩;rw[<-hre]at hr⊢;obtain⟨q1,q2⟩:=HCU.out r (by rw[<-HBL.out];exact hr);have HQ:Hid ((Fl.decode (bs.take r)).2.1=false):=q1;have HQ2:Hid ((Fl.checked (Fl.readProg l) (Fl.decode (bs.take r))).1=8):=q2;have hlt:(bs.take r).length=r:=(by rw[List.length_take,<-HBL.out];omega);have hsl2:∀V:World,(Instr.slice 30 (.slice (some ⟨bb,bo,none⟩) bl c) none (some (.int .i64 r)) none).run prog V=.ok (.slice (some ⟨bb,bo,none⟩) r c) V:=λV=>slice_upto V _ bl c r (by have:=HCP.out;have:=HBL.out;omega)
   have HD2:Hid (∀W,Below w2.heap.size w2 W->Calls prog 10 #[.slice (some ⟨bb,bo,none⟩) r c] W (yx7 (Fl.decode (bs.take r)) W)):=λW hW=>by
    have h:=yx8 (cap:=c) (ao:=some ⟨bb,bo,none⟩) (s:=bs.take r) (w:=W) (HK.out _ (HB2.out.trans (hW.mono HB2.out.size))).er (by rw[hlt];omega) ((HBY.out.below hW).take r);rw[hlt]at h;exact h
   have HC2:Hid (∀W,Below w2.heap.size w2 W->Calls prog 16 #[.string s,.slice (some ⟨bb,bo,none⟩) r c] W λe w'=>e=.returned (.tuple #[.int .i64 8,.int .i64 (Fl.checked (Fl.readProg l) (Fl.decode (bs.take r))).2])/\Below W.heap.size W w'):=λW hW=>by
    have hW2:=HB2.out.trans (hW.mono HB2.out.size);have h:=zwx (l:=l) (s:=bs.take r) (ao:=some ⟨bb,bo,none⟩) (cap:=c) (HK.out W hW2).er (by have:=HLL.out;omega) (HK.out W hW2).mg (HK.out W hW2).ml (by rw[hlt];omega) ((HBY.out.below hW).take r);rw[hlt,HQ2.out]at h;rw[HSL.out];exact h
   clear q1 q2 hlt hre
   go_wp2_with fail
   refine(HD2.out _ HB6.out).mono ?_;rintro e w8 ⟨hb8,hbad8,-⟩;obtain rfl:=hbad8 HQ.out;have HB8:Hid (Below w2.heap.size w2 w8):=HB6.out.trans (hb8.mono HB6.out.size);obtain⟨pl2,hpl2⟩:∃pl2,pl2=(Fl.decode (bs.take r)).2.2:=⟨_,rfl⟩;rw[<-hpl2];clear hb8 hbad8 HD2 hpl2
   go_wp2_with fail
   obtain⟨W9,hW9⟩:∃W9,W9=w8.alloc (.cells #[.slice none 0 0,.slice none 0 0] 26):=⟨_,rfl⟩;have HB9:Hid (Below w2.heap.size w2 W9):=(by show Below _ _ _;rw[hW9];exact HB8.out.alloc HB8.out.size _);rw[<-hW9];clear hW9;refine(HC2.out _ HB9.out).mono ?_;rintro e w10 ⟨rfl,hb10⟩;have HB10:Hid (Below w.heap.size w w10):=HB2.out.trans ((HB9.out.trans (hb10.mono HB9.out.size)).mono HB2.out.size);obtain⟨pl3,hpl3⟩:∃pl3,pl3=(Fl.checked (Fl.readProg l) (Fl.decode (bs.take r))).2:=⟨_,rfl⟩;rw[<-hpl3];clear hb10 hpl3 HC2 hsl2;go_wp2;go_ret;exact⟨rfl,HB10.out⟩
  ·have e0:bs=[]:=by rw[hbs,HRES.out];exact Fl.inferE_bad (by rw[<-HRES.out];exact h0)
   have el:bs.length=0:=(by rw[e0];rfl);have hg1:((res.1:Int) !=0)=true:=(by rw[bne_iff_ne];omega);rw[el];clear e0 el hbs h0;go_wp2;go_ret;exact⟨rfl,HB2.out⟩
end Go.Proofs.YtminjljgedopkaaGreatDoor
