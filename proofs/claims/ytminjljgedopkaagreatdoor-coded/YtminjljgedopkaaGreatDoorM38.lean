import Derived.Test.YtminjljgedopkaaGreatDoorM24
import Derived.Test.YtminjljgedopkaaGreatDoorM25
import Derived.Test.YtminjljgedopkaaGreatDoorM30
import Derived.Test.YtminjljgedopkaaGreatDoorM31
import Derived.Test.YtminjljgedopkaaGreatDoorM32
set_option linter.all false
set_option maxRecDepth 100000
set_option maxHeartbeats 40000000
namespace Go.Proofs.YtminjljgedopkaaGreatDoor
open Go.RowKit Go.Proofs.Tryz
def ymw(l:List UInt8)(w:World)(hs:l.length<=9223372036854775807)(hk:zt8 w)(hpw:Vs w):
  Calls prog 3 #[.string ⟨l.toArray⟩] w λe w'=>e=.returned (.bool true)/\Below w.heap.size w w':=by
 have HST:Hid (Calls prog 9 #[] w λe w'=>e=.returned (.bool true)/\Below w.heap.size w w'):=zg2 hk.er hk.mg hk.ml;have HK:Hid (∀W,Below w.heap.size w W->zt8 W/\Vs W):=λW hW=>⟨hk.below hW,hpw.below (Nat.le_refl _) hW⟩;obtain⟨s,hsl⟩:∃s:ByteArray,s=⟨l.toArray⟩:=⟨_,rfl⟩
 have hsz:s.size=l.length:=by rw[hsl];rfl
 rw[<-hsl];clear hk hpw
 by_cases hbig:8192<l.length
 ·have hbi:(8192:Int)<(l.length:Int):=by omega
  clear HK hsl
  go_enter func3,ntmps3
  go_wp2_with fail
  refine HST.out.mono ?_;rintro e w1 ⟨rfl,hb1⟩;have HB1:Hid (Below w.heap.size w w1):=hb1;clear HST hb1;go_wp2;go_ret;exact⟨rfl,HB1.out⟩
 ·have hbi:¬(8192:Int)<(l.length:Int):=by omega
  have hcv:∀W:World,(convert 9 30 (.string s)).run prog W=.ok (.slice (some ⟨W.heap.size,0,none⟩) l.length (grownCap W l.length 0 5)) (Lib.bytesWorld W 5 s):=λW=>by rw[<-hsz];exact Lib.run_convert_string_bytes W 9 30 5 s underlying9 underlying30 underlying5
  have HSL:Hid (s=⟨l.toArray⟩):=hsl;clear hsl
  go_enter func3,ntmps3
  go_wp2_with fail
  refine HST.out.mono ?_;rintro e w1 ⟨rfl,hb1⟩;have HB1:Hid (Below w.heap.size w w1):=hb1;clear HST hb1
  go_wp2_with fail
  obtain⟨cap,hcap⟩:∃cap,cap=grownCap w1 l.length 0 5:=⟨_,rfl⟩;obtain⟨WB,hWB⟩:∃WB,WB=Lib.bytesWorld w1 5 s:=⟨_,rfl⟩;rw[<-hcap,<-hWB];obtain⟨hin,hbl,hzl⟩:=yx5 w1 l;rw[<-HSL.out,<-hWB]at hin hbl hzl;have HB2:Hid (Below w.heap.size w WB):=HB1.out.trans (hbl.mono HB1.out.size);have HPD:Hid (Calls prog 10 #[.slice (some ⟨w1.heap.size,0,none⟩) l.length cap] WB (yx7 (Fl.decode l) WB)):=yx8 (HK.out _ HB2.out).1.er (by omega) hin;clear hcap hWB hin hbl hzl;refine HPD.out.mono ?_;rintro e w2 ⟨hb2,hbad,hgood⟩;have HB3:Hid (Below w.heap.size w w2):=HB2.out.trans (hb2.mono HB2.out.size);have HB23:Hid (Below WB.heap.size WB w2):=hb2;clear hb2 HPD
  have HTX:Hid (∀W,Below w.heap.size w W->∀cap,Calls prog 11 #[.slice (some ⟨W.heap.size,0,none⟩) l.length cap] (Lib.bytesWorld W 5 s) (λe w'=>zc2 (Fl.decode l) W e w')):=λW hW cap=>by
   obtain⟨hin,hbl,hzl⟩:=yx5 W l;rw[<-HSL.out]at hin hbl hzl;have hW2:=hW.trans (hbl.mono hW.size);refine(yqx (HK.out _ hW2).1.er (HK.out _ hW2).2 (by omega) hin).mono ?_;rintro e w' ⟨h1,h2,h3⟩;exact⟨hbl.trans (h1.mono hbl.size),h2,h3⟩
  cases hr:(Fl.decode l).2.1 with
  |false=>
   obtain rfl:=hbad hr;obtain⟨hp0,hp1⟩:=Fl.decode_place hr;obtain⟨pl,hpl⟩:∃pl,pl=(Fl.decode l).2.2:=⟨_,rfl⟩;rw[<-hpl]at hp0 hp1⊢;have HRR:Hid ((Fl.decode l).2.1=false):=hr;clear hbad hgood hr hpl
   go_wp2_with fail
   obtain⟨W3,hW3⟩:∃W3,W3=w2.alloc (.cells #[.slice none 0 0,.slice none 0 0] 26):=⟨_,rfl⟩;have hz3:W3.heap.size=w2.heap.size+1:=(by rw[hW3];simp);have HB4:Hid (Below w.heap.size w W3):=(by show Below _ _ _;rw[hW3];exact HB3.out.alloc HB3.out.size _);rw[<-hW3,<-hz3];clear hW3 hz3 hcv;refine(HTX.out _ HB4.out _).mono ?_;rintro e w4 ⟨hb4,hbad4,-⟩;obtain rfl:=hbad4 HRR.out;have HB5:Hid (Below w.heap.size w w4):=HB4.out.trans (hb4.mono HB4.out.size);obtain⟨pl2,hpl2⟩:∃pl2,pl2=(Fl.decode l).2.2:=⟨_,rfl⟩;rw[<-hpl2];clear hb4 hbad4 hpl2 HTX;go_wp2;go_ret;exact⟨rfl,HB5.out⟩
  |true=>
   obtain⟨la,n,lc,na,n',nc,rfl,hst⟩:=hgood hr;have HRR:Hid ((Fl.decode l).2.1=true):=hr;have HSTY:Hid (∀w'',Ys WB.heap.size w2 w''->Zy w''.heap.size w'' (.slice la n lc) (Fl.decode l).1.1/\Zm w''.heap.size w'' (.slice na n' nc) (Fl.decode l).1.2):=hst;obtain⟨hd1,hd2,hd3,hd4⟩:=zm8 hr;have htx:=Fl.readText_text _ _ hd2 hd4;have hen:=Fl.decode_encode hr;have htl:(Fl.text (Fl.decode l).1.1 (Fl.decode l).1.2).length<=40000:=by
    have:=zo1 (ls:=(Fl.decode l).1.1) (ns:=(Fl.decode l).1.2) hd1 hd2 (Fl.decode l).1.2.length hd3 (λi hi=>Fl.sound_tellable _ (hd4 i hi));show (Fl.textTo _ _ _).length<=_;omega
   obtain⟨ls,hls⟩:∃ls,ls=(Fl.decode l).1.1:=⟨_,rfl⟩;obtain⟨ns,hns⟩:∃ns,ns=(Fl.decode l).1.2:=⟨_,rfl⟩;obtain⟨tx,htxe⟩:∃tx,tx=Fl.text (Fl.decode l).1.1 (Fl.decode l).1.2:=⟨_,rfl⟩;rw[<-htxe]at htx htl;rw[<-hls,<-hns]at htx hen HSTY
   obtain rfl:n=ls.length:=by obtain⟨a,c,e,-⟩:=(HSTY.out w2 ⟨Nat.le_refl _,λ_ _ _=>rfl⟩).1;injection e
   obtain rfl:n'=ns.length:=by obtain⟨a,c,e,-⟩:=(HSTY.out w2 ⟨Nat.le_refl _,λ_ _ _=>rfl⟩).2;injection e
   have HTE:Hid (tx=Fl.text (Fl.decode l).1.1 (Fl.decode l).1.2):=htxe;have HRT:Hid (Fl.readText tx=((ls,ns),0)):=htx;have HEN:Hid (Fl.encode ls ns=(l,true,-1)):=hen;have HTL:Hid (tx.length<=40000):=htl;have HNE:Hid (l≠[]):=by
    intro h9;have h8:=hr;rw[h9]at h8;rw[show Fl.decode []=(([],[]),false,0) from by simp[Fl.decode,Fl.headAt,Fl.headOk]]at h8
    cases h8
   clear hbad hgood hr hst hd1 hd2 hd3 hd4 htx hen htl htxe hls hns
   go_wp2_with fail
   obtain⟨W3,hW3⟩:∃W3,W3=w2.alloc (.cells #[.slice la ls.length lc,.slice na ns.length nc] 26):=⟨_,rfl⟩;have hz3:W3.heap.size=w2.heap.size+1:=(by rw[hW3];simp);have HB4:Hid (Below w.heap.size w W3):=(by show Below _ _ _;rw[hW3];exact HB3.out.alloc HB3.out.size _);have hb3:Below w2.heap.size w2 W3:=(by rw[hW3];exact bA);have d0:W3.cell? ⟨w2.heap.size,0,none⟩=some (.slice la ls.length lc):=(by rw[hW3];simp);have d1:W3.cell? ⟨w2.heap.size,1,none⟩=some (.slice na ns.length nc):=(by rw[hW3];simp);rw[<-hW3,<-hz3];clear hW3 hcv;refine(HTX.out _ HB4.out _).mono ?_;rintro e w4 ⟨hb4,-,hgood4⟩;obtain rfl:=hgood4 HRR.out;have HB5:Hid (Below w.heap.size w w4):=HB4.out.trans (hb4.mono HB4.out.size);have hb24:Below w2.heap.size w2 w4:=hb3.trans (hb4.mono hb3.size);have HST2:Hid (Zy w4.heap.size w4 (.slice la ls.length lc) ls/\Zm w4.heap.size w4 (.slice na ns.length nc) ns):=HSTY.out w4 (Ys.below hb24);have e0:w4.cell? ⟨w2.heap.size,0,none⟩=some (.slice la ls.length lc):=(hb4.cell (p:=⟨w2.heap.size,0,none⟩) (by show w2.heap.size<_;omega)).trans d0;have e1:w4.cell? ⟨w2.heap.size,1,none⟩=some (.slice na ns.length nc):=(hb4.cell (p:=⟨w2.heap.size,1,none⟩) (by show w2.heap.size<_;omega)).trans d1;rw[<-HTE.out];have HPE:Hid (Calls prog 12 #[.agg #[.slice la ls.length lc,.slice na ns.length nc]] w4 (zp9 (Fl.encode ls ns) w4)):=yxw ls ns la na lc nc w4 (HK.out _ HB5.out).1.er HST2.out.1 HST2.out.2;clear hb4 hgood4 hb24 hb3 d0 d1 hz3 HTX HST2 HSTY
   go_wp2_with fail
   refine HPE.out.mono ?_;rintro e w5 ⟨hb5,-,hgood5⟩;rw[HEN.out]at hgood5;obtain⟨va,k,c,rfl,ho⟩:=hgood5 rfl;have hby:=(Vy.of_own ho).2;obtain rfl:k=l.length:=(Vy.of_own ho).1;have HB6:Hid (Below w.heap.size w w5):=HB5.out.trans (hb5.mono HB5.out.size);have HBY:Hid (Vy w5 va l):=hby;have HPB:Hid (Calls prog 13 #[.string ⟨tx.toArray⟩] w5 (zo0 tx w5)):=yvx (HK.out _ HB6.out).1.er HTL.out (HK.out _ HB6.out).2 (HK.out _ HB6.out).1.ml;clear hb5 hgood5 ho hby HPE e0 e1
   go_wp2_with fail
   refine HPB.out.mono ?_;rintro e w6 ⟨hb6,-,hgood6⟩;obtain⟨-,-,hg6⟩:=hgood6 (by rw[HRT.out]);rw[HRT.out,HEN.out]at hg6;obtain⟨va6,k6,c6,rfl,ho6⟩:=hg6 rfl;have HB7:Hid (Below w.heap.size w w6):=HB6.out.trans (hb6.mono HB6.out.size);obtain rfl:k6=l.length:=(Vy.of_own ho6).1;have hcv1:(convert 30 9 (.slice va l.length c)).run prog w6=.ok (.string s) w6:=(by rw[HSL.out];exact zg3 (HBY.out.below hb6) HNE.out c);have hcv2:(convert 30 9 (.slice va6 l.length c6)).run prog w6=.ok (.string s) w6:=(by rw[HSL.out];exact zg3 (Vy.of_own ho6).2 HNE.out c6);clear hb6 hgood6 hg6 ho6 HPB;go_wp2;go_ret;exact⟨rfl,HB7.out⟩
end Go.Proofs.YtminjljgedopkaaGreatDoor
