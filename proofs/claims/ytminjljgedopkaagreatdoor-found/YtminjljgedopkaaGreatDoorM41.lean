import Derived.Test.YtminjljgedopkaaGreatDoorM24
import Derived.Test.YtminjljgedopkaaGreatDoorM37
set_option linter.all false
set_option maxRecDepth 100000
set_option maxHeartbeats 40000000
namespace Go.Proofs.YtminjljgedopkaaGreatDoor
open Go.RowKit Go.Proofs.Tryz
def ymv(l:List UInt8)(w:World)(hs:l.length<=9223372036854775807)(hk:zt8 w):
  Calls prog 5 #[.string ⟨l.toArray⟩] w λe w'=>e=.returned (.bool true)/\Below w.heap.size w w':=by
 have HST:Hid (Calls prog 9 #[] w λe w'=>e=.returned (.bool true)/\Below w.heap.size w w'):=zg2 hk.er hk.mg hk.ml;have HK:Hid (∀W,Below w.heap.size w W->zt8 W):=λW hW=>hk.below hW;obtain⟨s,hsl⟩:∃s:ByteArray,s=⟨l.toArray⟩:=⟨_,rfl⟩
 have hsz:s.size=l.length:=by rw[hsl];rfl
 rw[<-hsl];clear hk
 by_cases hbig:8192<l.length
 ·have hbi:(8192:Int)<(l.length:Int):=by omega
  clear HK hsl
  go_enter func5,ntmps5
  go_wp2_with fail
  refine HST.out.mono ?_;rintro e w1 ⟨rfl,hb1⟩;have HB1:Hid (Below w.heap.size w w1):=hb1;clear HST hb1;go_wp2;go_ret;exact⟨rfl,HB1.out⟩
 ·have hbi:¬(8192:Int)<(l.length:Int):=by omega
  have HLL:Hid (l.length<=8192):=(by show _<=_;omega);have HSL:Hid (s=⟨l.toArray⟩):=hsl
  have HIN:Hid (∀W,Below w.heap.size w W->Calls prog 14 #[.string s] W (zpy (Fl.inferE (Fl.readProg l)) W)):=λW hW=>by
   rw[HSL.out];exact zr2 (HK.out W hW).er (by have:=HLL.out;omega) (HK.out W hW).mg (HK.out W hW).ml
  obtain⟨res,hres⟩:∃res,res=Fl.inferE (Fl.readProg l):=⟨_,rfl⟩;rw[<-hres]at HIN;have HRES:Hid (res=Fl.inferE (Fl.readProg l)):=hres;clear hsl hres
  go_enter func5,ntmps5
  go_wp2_with fail
  refine HST.out.mono ?_;rintro e w1 ⟨rfl,hb1⟩;have HB1:Hid (Below w.heap.size w w1):=hb1;clear HST hb1
  go_wp2_with fail
  refine(HIN.out _ HB1.out).mono ?_;rintro e w2 ⟨hb2,va,n,c,rfl,ho⟩;have HB2:Hid (Below w.heap.size w w2):=HB1.out.trans (hb2.mono HB1.out.size);have HBY:Hid (Vy w2 va res.2.2):=(Vy.of_own ho).2;obtain rfl:n=res.2.2.length:=(Vy.of_own ho).1;clear hb2 ho HIN;obtain⟨bs,hbs⟩:∃bs,bs=res.2.2:=⟨_,rfl⟩;rw[<-hbs]at HBY⊢
  by_cases h0:res.1=0
  ·have e1:Fl.checked (Fl.readProg l) (Fl.decode bs)=(0,-1):=by rw[hbs,HRES.out];exact Fl.found_chk (by rw[<-HRES.out];exact h0)
   have e2:(Fl.checked (Fl.readProg (l++Fl.tM)) (Fl.decode bs)).1≠0:=(by rw[hbs,HRES.out];exact Fl.found_more (by rw[<-HRES.out];exact h0));have hbl:bs.length<=1099511627776:=(by have:=Fl.found_len (l:=l) (by rw[<-HRES.out];exact h0);rw[<-HRES.out,<-hbs]at this;omega)
   have HC1:Hid (∀W,Below w2.heap.size w2 W->Calls prog 16 #[.string s,.slice va bs.length c] W λe w'=>e=.returned (.tuple #[.int .i64 0,.int .i64 (-1)])/\Below W.heap.size W w'):=λW hW=>by
    have hW2:=HB2.out.trans (hW.mono HB2.out.size);have h:=zwx (l:=l) (s:=bs) (ao:=va) (cap:=c) (HK.out W hW2).er (by have:=HLL.out;omega) (HK.out W hW2).mg (HK.out W hW2).ml hbl (HBY.out.below hW);rw[e1]at h;rw[HSL.out];exact h
   obtain⟨g,hg⟩:∃g,g=Fl.checked (Fl.readProg (l++Fl.tM)) (Fl.decode bs):=⟨_,rfl⟩
   have HC2:Hid (∀W,Below w2.heap.size w2 W->Calls prog 16 #[.string (s++⟨#[115,101,116,32,122,122,122,122,122,122,32,49,10]⟩),.slice va bs.length c] W λe w'=>e=.returned (.tuple #[.int .i64 g.1,.int .i64 g.2])/\Below W.heap.size W w'):=λW hW=>by
    have hW2:=HB2.out.trans (hW.mono HB2.out.size);have h:=zwx (l:=l++Fl.tM) (s:=bs) (ao:=va) (cap:=c) (HK.out W hW2).er (by have:=HLL.out;rw[List.length_append];have:Fl.tM.length=13:=rfl;omega) (HK.out W hW2).mg (HK.out W hW2).ml hbl (HBY.out.below hW);rw[<-hg]at h;have es:(⟨(l++Fl.tM).toArray⟩:ByteArray)=s++⟨#[115,101,116,32,122,122,122,122,122,122,32,49,10]⟩:=by
     rw[HSL.out];apply ByteArray.ext
     rw[ByteArray.data_append];simp[Fl.tM]
    rw[es]at h;exact h
   rw[<-hg]at e2;have hg0:((g.1:Int)==0)=false:=beq_eq_false_iff_ne.2 (by omega);have hg1:((g.1:Int) !=0)=true:=(by rw[bne_iff_ne];omega);have hs2:s.size<=8192:=(by have:=HLL.out;omega);rw[h0];clear hg e1 e2 hbs h0 hbl;generalize bs.length=bl at*
   go_wp2_with fail
   refine(HC1.out _ (Below.refl _ _)).mono ?_;rintro e w3 ⟨rfl,hb3⟩;have HB3:Hid (Below w.heap.size w w3):=HB2.out.trans (hb3.mono HB2.out.size);have HB23:Hid (Below w2.heap.size w2 w3):=hb3;clear hb3 HC1
   go_wp2_with fail
   refine(HC2.out _ HB23.out).mono ?_;rintro e w4 ⟨rfl,hb4⟩;have HB4:Hid (Below w.heap.size w w4):=HB3.out.trans (hb4.mono HB3.out.size);clear hb4 HC2;go_wp2;go_ret;exact⟨rfl,HB4.out⟩
  ·have e0:bs=[]:=by rw[hbs,HRES.out];exact Fl.inferE_bad (by rw[<-HRES.out];exact h0)
   have el:bs.length=0:=(by rw[e0];rfl);have hg1:((res.1:Int) !=0)=true:=(by rw[bne_iff_ne];omega);rw[el];clear e0 el hbs h0;go_wp2;go_ret;exact⟨rfl,HB2.out⟩
end Go.Proofs.YtminjljgedopkaaGreatDoor
