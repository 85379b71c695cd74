import Derived.Test.YtfhpibppblbgcaaGreatDoorM16
import Derived.Laws.CopyOwn
set_option linter.all false
set_option maxRecDepth 100000
set_option maxHeartbeats 40000000
namespace Go.Proofs.YtfhpibppblbgcaaGreatDoor
open Go.RowKit Go.Proofs.Tryz
variable{w w0 w' W3 W4:World}{v v' ov:Value}{lo base Rb Pb B Lq n d i:Nat}{news:List Value}{ws:List (List UInt8)}{rb:Nat->Nat}{t:Fl.cM}{r:Fl.RS}{s:Fl.aa}{f:Fl.aB}{fs:List Fl.aB}
def zcz(s:ByteArray)(k:Nat)(h:k<s.size)(hp:(s[k].toNat:Int)<97\/122<(s[k].toNat:Int)):Fl.dk s.data.toList=false:=by
 unfold Fl.dk;rw[yt7 Fl.fW s k h (by rw[yt6];omega)];rfl
def yk0(s:ByteArray)(h:s.data.toList.all Fl.fW=true):Fl.dk s.data.toList=(decide (0<s.size) && decide ((s.size:Int)<=6)):=by
 unfold Fl.dk;rw[h]
 have e:s.data.toList.length=s.size:=by simp
 rw[e,Bool.true_and];congr 1;simp only[decide_eq_decide];omega
def yk1(s:ByteArray)(w:World)(hs:s.size<=maxLen):Cq 14 #[.string s] w λe w'=>e=.returned (.bool (Fl.dk s.data.toList))/\w'=w:=by
 unfold maxLen at hs
 go_enter func14,ntmps14
 go_wp2
 go_loop [3] (λi=>∃k:Nat,k<=s.size/\i=Iq k/\(s.data.toList.take k).all Fl.fW=true) (λi=>s.size - (intOf i).toNat)
 case atStart=>exact⟨0,Nat.zero_le _,rfl,rfl⟩
 case round=>
  obtain⟨k,hk,rfl,aK⟩:=hrel;have HA:=Zz aK;clear aK
  by_cases a0:k<s.size
  ·go_wp2
   ·go_ret;exact⟨Zc (zcz s k a0 (by omega)).symm,rfl⟩
   ·go_round
    case rel=>exact⟨k+1,by omega,by go_num,zkv _ s k a0 HA (by rw[yt6];omega)⟩
    case measure=>simp[intOf];omega
   go_ret;exact⟨Zc (zcz s k a0 (by omega)).symm,rfl⟩
  have HN:=yk0 s (by rw[<-zp7 s k a0];exact HA);have HH:=Zz HN;clear HN;go_wp2
  ·go_ret;exact⟨Zc (by rw[HH.out];simp[*]),rfl⟩
  go_ret;exact⟨Zc (by rw[HH.out];simp[*]),rfl⟩
def Uc(s:ByteArray)(w:World)(hs:s.size<=maxLen):Cq 14 #[.string s] w λe w'=>e=.returned (.bool (Fl.dk s.toList))/\w'=w:=by
 rw[ByteArray.toList_eq];exact yk1 s w hs
def zw5(s:ByteArray)(w:World)(hs:s.size<=maxLen):Cq 15 #[.string s] w λe w'=>e=.returned (.bool (Fl.atom s.toList))/\w'=w:=by
 go_enter func15,ntmps15
 go_wp2_with (first|(go_at_call 14;refine(Uc s _ hs).mono ?_;rintro e w' ⟨rfl,rfl⟩)|(go_at_call 26;refine(yz0 s 9 _ hs (by decide)).mono ?_;rintro e w' ⟨rfl,rfl⟩))
 all_goals (go_ret;exact⟨Zc (by simp_all[Fl.atom]),rfl⟩)
def zcy(w:World):Cq 16 #[] w λe w'=>e=.returned (.slice (some (Aq w.heap.size 0)) 5 5)/\w'=w.alloc (.cells #[.string ⟨#[43]⟩,.string ⟨#[45]⟩,.string ⟨#[42]⟩,.string ⟨#[60]⟩,.string ⟨#[61,61]⟩] 9):=by
 go_enter func16,ntmps16
 go_wp2;go_ret;exact⟨rfl,rfl⟩
end Go.Proofs.YtfhpibppblbgcaaGreatDoor
namespace Go.Proofs.YtfhpibppblbgcaaGreatDoor
open Go.Proofs.Tryz
variable{w w0 w' W3 W4:World}{v v' ov:Value}{lo base Rb Pb B Lq n d i:Nat}{news:List Value}{ws:List (List UInt8)}{rb:Nat->Nat}{t:Fl.cM}{r:Fl.RS}{s:Fl.aa}{f:Fl.aB}{fs:List Fl.aB}
namespace Fl
def kT(l:List UInt8):Prop:=(l==[108,101,118,101,108])=true/\(l==[98,101,108,111,119])=false/\(l==[99,101,108,108])=false/\(l==[99,104,97,110,110,101,108])=false/\(l==[98,101,103,105,110])=false/\(l==[101,108,115,101])=false/\(l==[101,110,100])=false/\(l==[105,102])=false/\(l==[119,104,105,108,101])=false/\(l==[111,117,116])=false/\(l==[115,101,116])=false
def kS(l:List UInt8):Prop:=(l==[108,101,118,101,108])=false/\(l==[98,101,108,111,119])=true/\(l==[99,101,108,108])=false/\(l==[99,104,97,110,110,101,108])=false/\(l==[98,101,103,105,110])=false/\(l==[101,108,115,101])=false/\(l==[101,110,100])=false/\(l==[105,102])=false/\(l==[119,104,105,108,101])=false/\(l==[111,117,116])=false/\(l==[115,101,116])=false
def mi(l:List UInt8):Prop:=(l==[108,101,118,101,108])=false/\(l==[98,101,108,111,119])=false/\(l==[99,101,108,108])=true/\(l==[99,104,97,110,110,101,108])=false/\(l==[98,101,103,105,110])=false/\(l==[101,108,115,101])=false/\(l==[101,110,100])=false/\(l==[105,102])=false/\(l==[119,104,105,108,101])=false/\(l==[111,117,116])=false/\(l==[115,101,116])=false
def iB(l:List UInt8):Prop:=(l==[108,101,118,101,108])=false/\(l==[98,101,108,111,119])=false/\(l==[99,101,108,108])=false/\(l==[99,104,97,110,110,101,108])=true/\(l==[98,101,103,105,110])=false/\(l==[101,108,115,101])=false/\(l==[101,110,100])=false/\(l==[105,102])=false/\(l==[119,104,105,108,101])=false/\(l==[111,117,116])=false/\(l==[115,101,116])=false
def kR(l:List UInt8):Prop:=(l==[108,101,118,101,108])=false/\(l==[98,101,108,111,119])=false/\(l==[99,101,108,108])=false/\(l==[99,104,97,110,110,101,108])=false/\(l==[98,101,103,105,110])=true/\(l==[101,108,115,101])=false/\(l==[101,110,100])=false/\(l==[105,102])=false/\(l==[119,104,105,108,101])=false/\(l==[111,117,116])=false/\(l==[115,101,116])=false
def mh(l:List UInt8):Prop:=(l==[108,101,118,101,108])=false/\(l==[98,101,108,111,119])=false/\(l==[99,101,108,108])=false/\(l==[99,104,97,110,110,101,108])=false/\(l==[98,101,103,105,110])=false/\(l==[101,108,115,101])=true/\(l==[101,110,100])=false/\(l==[105,102])=false/\(l==[119,104,105,108,101])=false/\(l==[111,117,116])=false/\(l==[115,101,116])=false
def nh(l:List UInt8):Prop:=(l==[108,101,118,101,108])=false/\(l==[98,101,108,111,119])=false/\(l==[99,101,108,108])=false/\(l==[99,104,97,110,110,101,108])=false/\(l==[98,101,103,105,110])=false/\(l==[101,108,115,101])=false/\(l==[101,110,100])=true/\(l==[105,102])=false/\(l==[119,104,105,108,101])=false/\(l==[111,117,116])=false/\(l==[115,101,116])=false
def nF(l:List UInt8):Prop:=(l==[108,101,118,101,108])=false/\(l==[98,101,108,111,119])=false/\(l==[99,101,108,108])=false/\(l==[99,104,97,110,110,101,108])=false/\(l==[98,101,103,105,110])=false/\(l==[101,108,115,101])=false/\(l==[101,110,100])=false/\(l==[105,102])=true/\(l==[119,104,105,108,101])=false/\(l==[111,117,116])=false/\(l==[115,101,116])=false
def kQ(l:List UInt8):Prop:=(l==[108,101,118,101,108])=false/\(l==[98,101,108,111,119])=false/\(l==[99,101,108,108])=false/\(l==[99,104,97,110,110,101,108])=false/\(l==[98,101,103,105,110])=false/\(l==[101,108,115,101])=false/\(l==[101,110,100])=false/\(l==[105,102])=false/\(l==[119,104,105,108,101])=true/\(l==[111,117,116])=false/\(l==[115,101,116])=false
def ng(l:List UInt8):Prop:=(l==[108,101,118,101,108])=false/\(l==[98,101,108,111,119])=false/\(l==[99,101,108,108])=false/\(l==[99,104,97,110,110,101,108])=false/\(l==[98,101,103,105,110])=false/\(l==[101,108,115,101])=false/\(l==[101,110,100])=false/\(l==[105,102])=false/\(l==[119,104,105,108,101])=false/\(l==[111,117,116])=true/\(l==[115,101,116])=false
def nZ(l:List UInt8):Prop:=(l==[108,101,118,101,108])=false/\(l==[98,101,108,111,119])=false/\(l==[99,101,108,108])=false/\(l==[99,104,97,110,110,101,108])=false/\(l==[98,101,103,105,110])=false/\(l==[101,108,115,101])=false/\(l==[101,110,100])=false/\(l==[105,102])=false/\(l==[119,104,105,108,101])=false/\(l==[111,117,116])=false/\(l==[115,101,116])=true
def mf(l:List UInt8):Prop:=(l==[108,101,118,101,108])=false/\(l==[98,101,108,111,119])=false/\(l==[99,101,108,108])=false/\(l==[99,104,97,110,110,101,108])=false/\(l==[98,101,103,105,110])=false/\(l==[101,108,115,101])=false/\(l==[101,110,100])=false/\(l==[105,102])=false/\(l==[119,104,105,108,101])=false/\(l==[111,117,116])=false/\(l==[115,101,116])=false
def dZ(l:List UInt8):kT l\/kS l\/mi l\/iB l\/kR l\/mh l\/nh l\/nF l\/kQ l\/ng l\/nZ l\/mf l:=by
 by_cases b0:l=[108,101,118,101,108]
 ·subst b0;exact Or.inl (by unfold kT;decide)
 by_cases c0:l=[98,101,108,111,119]
 ·subst c0;exact Or.inr (Or.inl (by unfold kS;decide))
 by_cases f0:l=[99,101,108,108]
 ·subst f0;exact Or.inr (Or.inr (Or.inl (by unfold mi;decide)))
 by_cases a0:l=[99,104,97,110,110,101,108]
 ·subst a0;exact Or.inr (Or.inr (Or.inr (Or.inl (by unfold iB;decide))))
 by_cases d0:l=[98,101,103,105,110]
 ·subst d0;exact Or.inr (Or.inr (Or.inr (Or.inr (Or.inl (by unfold kR;decide)))))
 by_cases g0:l=[101,108,115,101]
 ·subst g0;exact Or.inr (Or.inr (Or.inr (Or.inr (Or.inr (Or.inl (by unfold mh;decide))))))
 by_cases h0:l=[101,110,100]
 ·subst h0;exact Or.inr (Or.inr (Or.inr (Or.inr (Or.inr (Or.inr (Or.inl (by unfold nh;decide)))))))
 by_cases k0:l=[105,102]
 ·subst k0;exact Or.inr (Or.inr (Or.inr (Or.inr (Or.inr (Or.inr (Or.inr (Or.inl (by unfold nF;decide))))))))
 by_cases e0:l=[119,104,105,108,101]
 ·subst e0;exact Or.inr (Or.inr (Or.inr (Or.inr (Or.inr (Or.inr (Or.inr (Or.inr (Or.inl (by unfold kQ;decide)))))))))
 by_cases i0:l=[111,117,116]
 ·subst i0;exact Or.inr (Or.inr (Or.inr (Or.inr (Or.inr (Or.inr (Or.inr (Or.inr (Or.inr (Or.inl (by unfold ng;decide))))))))))
 by_cases j0:l=[115,101,116]
 ·subst j0;exact Or.inr (Or.inr (Or.inr (Or.inr (Or.inr (Or.inr (Or.inr (Or.inr (Or.inr (Or.inr (Or.inl (by unfold nZ;decide)))))))))))
 exact Or.inr (Or.inr (Or.inr (Or.inr (Or.inr (Or.inr (Or.inr (Or.inr (Or.inr (Or.inr (Or.inr (by unfold mf;simp[b0,c0,f0,a0,d0,g0,h0,k0,e0,i0,j0])))))))))))
end Fl
open Go.RowKit
def line_1(b off cap:Nat)(x0:ByteArray)(w:World)(h0:x0.size<=maxLen)(c0:w.cell? (Aq b off)=some (.string x0)):
  Cq 8 #[.slice (some (Aq b off)) 1 cap] w λe w'=>e=.returned (.bool (Fl.aq [x0.toList]))/\w'=w:=by
 rcases Fl.dZ x0.toList with h|h|h|h|h|h|h|h|h|h|h|h
 all_goals obtain⟨k1,k2,k3,k4,k5,k6,k7,k8,k9,k10,k11⟩:=h
 all_goals
  go_enter func8,ntmps8
  go_wp2
  all_goals (go_ret;exact⟨Zc (by simp_all[Fl.aq,Fl.cT,Fl.bM,Fl.cN,Fl.bu,Fl.cC,Fl.dL,Fl.gy,Fl.iP,Fl.eZ,Fl.eD,Fl.eM]),rfl⟩)
def line_2(b off cap:Nat)(x0 x1:ByteArray)(w:World)(h0:x0.size<=maxLen)(c0:w.cell? (Aq b off)=some (.string x0))(h1:x1.size<=maxLen)(c1:w.cell? (Aq b (off+1))=some (.string x1)):
  Cq 8 #[.slice (some (Aq b off)) 2 cap] w λe w'=>e=.returned (.bool (Fl.aq [x0.toList,x1.toList]))/\w'=w:=by
 rcases Fl.dZ x0.toList with h|h|h|h|h|h|h|h|h|h|h|h
 all_goals obtain⟨k1,k2,k3,k4,k5,k6,k7,k8,k9,k10,k11⟩:=h
 all_goals
  go_enter func8,ntmps8
  go_wp2_with (first|(go_at_call_of 14 (Value.string x1);refine(Uc x1 _ h1).mono ?_;rintro e w' ⟨rfl,rfl⟩)|(go_at_call 15;refine(zw5 x1 _ h1).mono ?_;rintro e w' ⟨rfl,rfl⟩))
  all_goals (go_ret;exact⟨Zc (by simp_all[Fl.aq,Fl.cT,Fl.bM,Fl.cN,Fl.bu,Fl.cC,Fl.dL,Fl.gy,Fl.iP,Fl.eZ,Fl.eD,Fl.eM]),rfl⟩)
def line_3(b off cap:Nat)(x0 x1 x2:ByteArray)(w:World)(h0:x0.size<=maxLen)(c0:w.cell? (Aq b off)=some (.string x0))(h1:x1.size<=maxLen)(c1:w.cell? (Aq b (off+1))=some (.string x1))(h2:x2.size<=maxLen)(c2:w.cell? (Aq b (off+2))=some (.string x2)):
  Cq 8 #[.slice (some (Aq b off)) 3 cap] w λe w'=>e=.returned (.bool (Fl.aq [x0.toList,x1.toList,x2.toList]))/\w'=w:=by
 rcases Fl.dZ x0.toList with h|h|h|h|h|h|h|h|h|h|h|h
 all_goals obtain⟨k1,k2,k3,k4,k5,k6,k7,k8,k9,k10,k11⟩:=h
 all_goals
  go_enter func8,ntmps8
  go_wp2_with (first|(go_at_call_of 14 (Value.string x1);refine(Uc x1 _ h1).mono ?_;rintro e w' ⟨rfl,rfl⟩)|(go_at_call_of 14 (Value.string x2);refine(Uc x2 _ h2).mono ?_;rintro e w' ⟨rfl,rfl⟩)|(go_at_call 15;refine(zw5 x2 _ h2).mono ?_;rintro e w' ⟨rfl,rfl⟩))
  all_goals (go_ret;exact⟨Zc (by simp_all[Fl.aq,Fl.cT,Fl.bM,Fl.cN,Fl.bu,Fl.cC,Fl.dL,Fl.gy,Fl.iP,Fl.eZ,Fl.eD,Fl.eM]),rfl⟩)
def line_4(b off cap:Nat)(x0 x1 x2 x3:ByteArray)(w:World)(h0:x0.size<=maxLen)(c0:w.cell? (Aq b off)=some (.string x0))(h1:x1.size<=maxLen)(c1:w.cell? (Aq b (off+1))=some (.string x1))(h2:x2.size<=maxLen)(c2:w.cell? (Aq b (off+2))=some (.string x2))(h3:x3.size<=maxLen)(c3:w.cell? (Aq b (off+3))=some (.string x3)):
  Cq 8 #[.slice (some (Aq b off)) 4 cap] w λe w'=>e=.returned (.bool (Fl.aq [x0.toList,x1.toList,x2.toList,x3.toList]))/\w'=w:=by
 rcases Fl.dZ x0.toList with h|h|h|h|h|h|h|h|h|h|h|h
 all_goals obtain⟨k1,k2,k3,k4,k5,k6,k7,k8,k9,k10,k11⟩:=h
 all_goals
  go_enter func8,ntmps8
  go_wp2_with (first|(go_at_call_of 14 (Value.string x1);refine(Uc x1 _ h1).mono ?_;rintro e w' ⟨rfl,rfl⟩)|(go_at_call_of 14 (Value.string x2);refine(Uc x2 _ h2).mono ?_;rintro e w' ⟨rfl,rfl⟩)|(go_at_call 15;refine(zw5 x2 _ h2).mono ?_;rintro e w' ⟨rfl,rfl⟩))
  all_goals (go_ret;exact⟨Zc (by simp_all[Fl.aq,Fl.cT,Fl.bM,Fl.cN,Fl.bu,Fl.cC,Fl.dL,Fl.gy,Fl.iP,Fl.eZ,Fl.eD,Fl.eM]),rfl⟩)
def signList:List ByteArray:=[⟨#[43]⟩,⟨#[45]⟩,⟨#[42]⟩,⟨#[60]⟩,⟨#[61,61]⟩]
def yw5:bl signList=Fl.cH:=by
 simp[bl,signList,Fl.cH,ByteArray.toList_eq]
def yw6(w:World):zh0 (w.alloc (.cells #[.string ⟨#[43]⟩,.string ⟨#[45]⟩,.string ⟨#[42]⟩,.string ⟨#[60]⟩,.string ⟨#[61,61]⟩] 9)) (.slice (some (Aq w.heap.size 0)) 5 5) signList:=by
 refine⟨_,_,rfl,by decide,?_,λ_=>⟨_,_,rfl,?_⟩⟩
 ·intro s hs;simp[signList]at hs;rcases hs with rfl|rfl|rfl|rfl|rfl<;>decide
 intro i hi;have:i<5:=hi
 match i,this with
 |0,_=>simp[signList]
 |1,_=>simp[signList]
 |2,_=>simp[signList]
 |3,_=>simp[signList]
 |4,_=>simp[signList]
def line_5(b off cap:Nat)(x0 x1 x2 x3 x4:ByteArray)(w:World)(h1:x1.size<=maxLen)(h2:x2.size<=maxLen)(h4:x4.size<=maxLen)
  (c0:w.cell? (Aq b off)=some (.string x0)) (c1:w.cell? (Aq b (off+1))=some (.string x1)) (c2:w.cell? (Aq b (off+2))=some (.string x2))
  (c3:∀o,(w.alloc o).cell? (Aq b (off+3))=some (.string x3)) (c4:∀o,(w.alloc o).cell? (Aq b (off+4))=some (.string x4)):
  Cq 8 #[.slice (some (Aq b off)) 5 cap] w λe w'=>e=.returned (.bool (Fl.aq [x0.toList,x1.toList,x2.toList,x3.toList,x4.toList]))/\Bq w w':=by
 rcases Fl.dZ x0.toList with h|h|h|h|h|h|h|h|h|h|h|h
 all_goals obtain⟨k1,k2,k3,k4,k5,k6,k7,k8,k9,k10,k11⟩:=h
 case inr.inr.inr.inr.inr.inr.inr.inr.inr.inr.inl=>
  go_enter func8,ntmps8
  go_wp2_with (first|(go_at_call_of 14 (Value.string x1);refine(Uc x1 _ h1).mono ?_;rintro e w' ⟨rfl,rfl⟩)|(go_at_call_of 14 (Value.string x2);refine(Uc x2 _ h2).mono ?_;rintro e w' ⟨rfl,rfl⟩)|(go_at_call_of 15 (Value.string x2);refine(zw5 x2 _ h2).mono ?_;rintro e w' ⟨rfl,rfl⟩)|(go_at_call_of 15 (Value.string x4);refine(zw5 x4 _ h4).mono ?_;rintro e w' ⟨rfl,rfl⟩)|(go_at_call 16;refine(zcy _).mono ?_;rintro e w' ⟨rfl,rfl⟩)|(go_at_call 17;refine(zn8 _ signList x3 _ (yw6 _)).mono ?_;rintro e w' ⟨rfl,rfl⟩))
  all_goals (go_ret;exact⟨Zc (by simp_all[Fl.aq,yw5,Fl.cT,Fl.bM,Fl.cN,Fl.bu,Fl.cC,Fl.dL,Fl.gy,Fl.iP,Fl.eZ,Fl.eD,Fl.eM]<;>omega),bA⟩)
 all_goals
  go_enter func8,ntmps8
  go_wp2_with (first|(go_at_call_of 14 (Value.string x1);refine(Uc x1 _ h1).mono ?_;rintro e w' ⟨rfl,rfl⟩)|(go_at_call_of 14 (Value.string x2);refine(Uc x2 _ h2).mono ?_;rintro e w' ⟨rfl,rfl⟩)|(go_at_call_of 15 (Value.string x2);refine(zw5 x2 _ h2).mono ?_;rintro e w' ⟨rfl,rfl⟩))
  all_goals (go_ret;exact⟨Zc (by simp_all[Fl.aq,Fl.cT,Fl.bM,Fl.cN,Fl.bu,Fl.cC,Fl.dL,Fl.gy,Fl.iP,Fl.eZ,Fl.eD,Fl.eM]),Below.refl _ _⟩)
def line_6(b off n cap:Nat)(x0 x1 x2:ByteArray)(w:World)(hn:6<=n)(hm:n<=maxLen)(h1:x1.size<=maxLen)(h2:x2.size<=maxLen)
  (c0:w.cell? (Aq b off)=some (.string x0)) (c1:w.cell? (Aq b (off+1))=some (.string x1)) (c2:w.cell? (Aq b (off+2))=some (.string x2)):
  Cq 8 #[.slice (some (Aq b off)) n cap] w λe w'=>e=.returned (.bool false)/\w'=w:=by
 unfold maxLen at hm;have n1:((n:Int)==1)=false:=beq_eq_false_iff_ne.2 (by omega);have n2:((n:Int)==2)=false:=beq_eq_false_iff_ne.2 (by omega);have n3:((n:Int)==3)=false:=beq_eq_false_iff_ne.2 (by omega)
 have n5:((n:Int) !=5)=true:=by rw[bne_iff_ne];omega
 rcases Fl.dZ x0.toList with h|h|h|h|h|h|h|h|h|h|h|h
 all_goals obtain⟨k1,k2,k3,k4,k5,k6,k7,k8,k9,k10,k11⟩:=h
 all_goals
  go_enter func8,ntmps8
  go_wp2_with (first|(go_at_call_of 14 (Value.string x1);refine(Uc x1 _ h1).mono ?_;rintro e w' ⟨rfl,rfl⟩)|(go_at_call_of 14 (Value.string x2);refine(Uc x2 _ h2).mono ?_;rintro e w' ⟨rfl,rfl⟩)|(go_at_call_of 15 (Value.string x2);refine(zw5 x2 _ h2).mono ?_;rintro e w' ⟨rfl,rfl⟩))
  all_goals (go_ret;exact⟨rfl,rfl⟩)
def yw7{a:Addr}(h:w.cell? a=some v):a.block<w.heap.size:=Qe w a h
def yh5(v:Value)(ss:List ByteArray)(w:World)(hv:zh0 w v ss)(b0:ss≠[]):Cq 8 #[v] w λe w'=>e=.returned (.bool (Fl.aq (bl ss)))/\Bq w w':=by
 obtain⟨ao,cap,rfl,hl,cF,hc⟩:=hv;obtain⟨b,off,rfl,a0⟩:=hc b0
 match ss,b0 with
 |[x0],_=>
  refine(line_1 b off cap x0 w (cF x0 (by simp)) (by simpa using a0 0 (by simp))).mono ?_;rintro e w' ⟨rfl,rfl⟩;exact⟨rfl,Below.refl _ _⟩
 |[x0,x1],_=>
  refine(line_2 b off cap x0 x1 w (cF x0 (by simp)) (by simpa using a0 0 (by simp)) (cF x1 (by simp)) (by simpa using a0 1 (by simp))).mono ?_;rintro e w' ⟨rfl,rfl⟩;exact⟨rfl,Below.refl _ _⟩
 |[x0,x1,x2],_=>
  refine(line_3 b off cap x0 x1 x2 w (cF x0 (by simp)) (by simpa using a0 0 (by simp)) (cF x1 (by simp)) (by simpa using a0 1 (by simp)) (cF x2 (by simp)) (by simpa using a0 2 (by simp))).mono ?_;rintro e w' ⟨rfl,rfl⟩;exact⟨rfl,Below.refl _ _⟩
 |[x0,x1,x2,x3],_=>
  refine(line_4 b off cap x0 x1 x2 x3 w (cF x0 (by simp)) (by simpa using a0 0 (by simp)) (cF x1 (by simp)) (by simpa using a0 1 (by simp)) (cF x2 (by simp)) (by simpa using a0 2 (by simp)) (cF x3 (by simp)) (by simpa using a0 3 (by simp))).mono ?_;rintro e w' ⟨rfl,rfl⟩;exact⟨rfl,Below.refl _ _⟩
 |[x0,x1,x2,x3,x4],_=>
  have d3:w.cell? (Aq b (off+3))=some (.string x3):=(by simpa using a0 3 (by simp));have d4:w.cell? (Aq b (off+4))=some (.string x4):=(by simpa using a0 4 (by simp));exact line_5 b off cap x0 x1 x2 x3 x4 w (cF x1 (by simp)) (cF x2 (by simp)) (cF x4 (by simp)) (by simpa using a0 0 (by simp)) (by simpa using a0 1 (by simp)) (by simpa using a0 2 (by simp))
   (λo=>by rw[Qf w o _ (yw7 d3)];exact d3) (λo=>by rw[Qf w o _ (yw7 d4)];exact d4)
 |x0::x1::x2::x3::x4::x5::r,_=>
  refine(line_6 b off _ cap x0 x1 x2 w (by simp) hl (cF x1 (by simp)) (cF x2 (by simp)) (by simpa using a0 0 (by simp)) (by simpa using a0 1 (by simp)) (by simpa using a0 2 (by simp))).mono ?_;rintro e w' ⟨rfl,rfl⟩;exact⟨by simp[bl,Fl.aq],Below.refl _ _⟩
def Zr(j:Nat):Prop:=1<=j/\j<=13/\j≠7/\j≠9/\j≠11
def rTy(j:Nat):TypeId:=if j<=4 then 9 else if j=8 then 5 else if j=10 then 61 else 3
def rSz(j:Nat):Nat:=if j=10 then 10 else 1
structure Yl where
 n:Nat->Nat
 xs:Nat->List Value
 v:Nat->Value
 ae:Bool
 ap:Nat
 N:Nat
 leq:Value
 loc:Nat
 aX:Value
 fQ:Nat->Prop
 wk:World
def rrC(Pb:Nat)(m:Yl)(j:Nat):Value:=if j=0 then ptr Pb else if j=7 then .bool m.ae else if j=9 then Iq m.ap else m.v j
def rpC(m:Yl)(j:Nat):Value:=if j=0 then Iq m.N else if j=1 then m.leq else if j=4 then Iq m.loc else if j=5 then m.aX else m.v (10+j)
structure Zs(lo base Rb Pb:Nat)(w0 w:World)(m:Yl):Prop where
 bel:Below lo w0 w
 bL:lo<=Rb/\lo<=Pb/\Rb<base/\Pb<base/\Rb≠Pb/\base<=w.heap.size/\lo<=base
 cR:Zb w Rb 11 (rrC Pb m)
 cP:Zb w Pb 6 (rpC m)
 own:∀j,Zr j->w.ownsRow base (rTy j) (rSz j) (m.v j) (m.n j) (m.xs j)
 iR:∀i j b,Zr i->Zr j->i≠j->(m.v i).ownBlock=some b->(m.v j).ownBlock≠some b
 kp:∀b,m.fQ b->base<=b/\b<w.heap.size/\w.heap[b]?=m.wk.heap[b]?/\∀j,Zr j->(m.v j).ownBlock≠some b
def Yl.app(m:Yl)(j:Nat)(v:Value)(news:List Value):Yl:={m with n:=λi=>if i=j then m.n j+1 else m.n i,xs:=λi=>if i=j then m.xs j++news else m.xs i,v:=λi=>if i=j then v else m.v i}
section
variable{m:Yl}
def Zs.below(h:Zs lo base Rb Pb w0 w m)(hb:Bq w w'):Zs lo base Rb Pb w0 w' m:=by
 obtain⟨b1,b2,b3,b4,b5,b6,b7⟩:=h.bL;have hz:=hb.size;have q:∀b,b<w.heap.size->w'.heap[b]?=w.heap[b]?:=λb a0=>hb.block b a0;exact{bel:=h.bel.trans (hb.mono (by omega)),bL:=⟨b1,b2,b3,b4,b5,by omega,b7⟩,cR:=h.cR.block (q _ (by omega)),cP:=h.cP.block (q _ (by omega)),own:=λj hj=>Yw (h.own j hj) (λb hb=>q b ((h.own j hj).lt b hb).2),iR:=h.iR,kp:=λb hb=>have k:=h.kp b hb;⟨k.1,Qj k.2.1 hz,(q b k.2.1).trans k.2.2.1,k.2.2.2⟩}
def Zs.drew(h:Zs lo base Rb Pb w0 w m):Zs lo base Rb Pb w0 w.drew m:=h.below dA
def Zs.shape(h:Zs lo base Rb Pb w0 w m)(j:Nat)(hj:Zr j):∃a c,m.v j=.slice a (m.n j) c:=by
 rcases(h.own j hj).2 with⟨h1,h2⟩|⟨g,cp,cur,h1,_⟩
 ·exact⟨none,0,by rw[h1,h2]⟩
 exact⟨_,cp,h1⟩
def Zs.grow(h:Zs lo base Rb Pb w0 w m)(j:Nat)(hj:Zr j)(g0:Bq w W3)(h0:W4.ownsRow base (rTy j) (rSz j) v' (m.n j+1) (m.xs j++news))(b0:W3.grownBy W4 (m.v j).ownBlock)(f0:v'.ownBlock=(m.v j).ownBlock\/v'.ownBlock=some W3.heap.size):
  Below lo w0 W4/\base<=W4.heap.size/\(∀b,b<base->W4.heap[b]?=W3.heap[b]?)/\(∀i,Zr i->W4.ownsRow base (rTy i) (rSz i) ((m.app j v' news).v i) ((m.app j v' news).n i) ((m.app j v' news).xs i))/\
  (∀i k b,Zr i->Zr k->i≠k->((m.app j v' news).v i).ownBlock=some b->((m.app j v' news).v k).ownBlock≠some b)/\
  (∀b,m.fQ b->base<=b/\b<W4.heap.size/\W4.heap[b]?=m.wk.heap[b]?/\∀i,Zr i->((m.app j v' news).v i).ownBlock≠some b):=by
 have c0:=h.below g0;obtain⟨b1,b2,b3,b4,b5,b6,b7⟩:=c0.bL;have e0:=λi hi=>(h.own i hi).lt;have i0:=b0.size;have j0:=g0.size;refine⟨c0.bel.grown b0 (by omega) (λk hk=>by have:=(e0 j hj k hk).1;omega),by omega,λb hb=>b0.block b (by omega) (λhh=>by have:=(e0 j hj b hh.symm).1;omega),λi hi=>?_,λi k b hi hk hne hbi hbk=>?_,λb hb=>?_⟩
 ·show W4.ownsRow base (rTy i) (rSz i) (if i=j then v' else m.v i) (if i=j then m.n j+1 else m.n i) (if i=j then m.xs j++news else m.xs i)
  by_cases a0:i=j
  ·subst a0;simp only[if_true];exact h0
  simp only[a0,if_false];refine Yw (c0.own i hi) (λb hb=>b0.block b ((c0.own i hi).lt b hb).2 (λhh=>h.iR i j b hi hj a0 hb hh.symm))
 ·have hv:∀t,(m.app j v' news).v t=if t=j then v' else m.v t:=λ_=>rfl
  rw[hv]at hbi hbk
  by_cases a0:i=j
  ·have d0:k≠j:=λhh=>hne (a0.trans hh.symm)
   rw[if_pos a0]at hbi;rw[if_neg d0]at hbk;rcases f0 with h1|h1
   ·rw[h1]at hbi;exact h.iR j k b hj hk (Ne.symm d0) hbi hbk
   rw[h1]at hbi;simp only[Option.some.injEq]at hbi;have:=(e0 k hk b hbk).2;omega
  rw[if_neg a0]at hbi
  by_cases d0:k=j
  ·rw[if_pos d0]at hbk
   rcases f0 with h1|h1
   ·rw[h1]at hbk;exact h.iR i j b hi hj a0 hbi hbk
   rw[h1]at hbk;simp only[Option.some.injEq]at hbk;have:=(e0 i hi b hbi).2;omega
  rw[if_neg d0]at hbk;exact h.iR i k b hi hk hne hbi hbk
 obtain⟨k1,k2,k3,k4⟩:=c0.kp b hb;refine⟨k1,by omega,(b0.block b k2 (λhh=>k4 j hj hh.symm)).trans k3,λi hi=>?_⟩;show (if i=j then v' else m.v i).ownBlock≠some b
 by_cases a0:i=j
 ·rw[if_pos a0]
  rcases f0 with h1|h1
  ·rw[h1];exact k4 j hj
  rw[h1];intro hh;have:=(h.kp b hb).2.1;simp only[Option.some.injEq]at hh;omega
 rw[if_neg a0];exact k4 i hi
def Zs.jL(h:Zs lo base Rb Pb w0 w m)(j:Nat)(hj:Zr j)(d0:j<=10)(c0:Bq w W3)(e0:W4.ownsRow base (rTy j) (rSz j) v' (m.n j+1) (m.xs j++news))(f0:W3.grownBy W4 (m.v j).ownBlock)(g0:v'.ownBlock=(m.v j).ownBlock\/v'.ownBlock=some W3.heap.size):
  Zs lo base Rb Pb w0 (W4.setCell (Aq Rb j) v') (m.app j v' news):=by
 have a0:=h.below c0;obtain⟨b1,b2,b3,b4,b5,b6,b7⟩:=a0.bL;obtain⟨g1,g2,g3,g4,g5,g6⟩:=h.grow j hj c0 e0 f0 g0;refine{bel:=g1.setCell (by show lo<=Rb;omega) _,bL:=⟨b1,b2,b3,b4,b5,by rw[Zy];omega,b7⟩,cR:= ?_,cP:= ?_,own:=λi hi=>Yw (g4 i hi) (λb hb=>Zx _ _ _ _ _ (by have:=((g4 i hi).lt b hb).1;omega)),iR:=g5,kp:=λb hb=>have k:=g6 b hb;⟨k.1,by rw[Zy];exact k.2.1,(Zx _ _ _ _ _ (by have:=k.1;omega)).trans k.2.2.1,k.2.2.2⟩}
 ·refine((a0.cR.block (g3 _ b3)).set (j:=j) (by have:=hj.2.1;omega) v').congr (λi hi=>?_)
  obtain⟨h1,h2,h3,h4,h5⟩:=hj
  by_cases b0:i=j
  ·subst b0
   rw[if_pos rfl];show v'=rrC Pb (m.app i v' news) i;unfold rrC;rw[if_neg (by omega),if_neg (by omega),if_neg (by omega)];show v'=if i=i then v' else m.v i;rw[if_pos rfl]
  rw[if_neg b0];show rrC Pb m i=rrC Pb (m.app j v' news) i;unfold rrC
  by_cases i0:i=0
  ·rw[if_pos i0,if_pos i0]
  by_cases i7:i=7
  ·rw[if_neg i0,if_neg i0,if_pos i7,if_pos i7];rfl
  by_cases i9:i=9
  ·rw[if_neg i0,if_neg i0,if_neg i7,if_neg i7,if_pos i9,if_pos i9];rfl
  rw[if_neg i0,if_neg i0,if_neg i7,if_neg i7,if_neg i9,if_neg i9];show m.v i=if i=j then v' else m.v i;rw[if_neg b0]
 refine((a0.cP.block (g3 _ b4)).block (Zx _ _ _ _ _ (Ne.symm b5))).congr (λi hi=>?_);show rpC m i=rpC (m.app j v' news) i;unfold rpC;show (if i=0 then _ else if i=1 then m.leq else if i=4 then _ else if i=5 then m.aX else m.v (10+i))=(if i=0 then _ else if i=1 then m.leq else if i=4 then _ else if i=5 then m.aX else(if 10+i=j then v' else m.v (10+i)))
 by_cases i0:i=0
 ·rw[if_pos i0,if_pos i0];rfl
 rw[if_neg (show ¬10+i=j by omega)];rfl
def Zs.nE(h:Zs lo base Rb Pb w0 w m)(j:Nat)(hj:Zr j)(a0:j=12\/j=13)(c0:Bq w W3)(d0:W4.ownsRow base (rTy j) (rSz j) v' (m.n j+1) (m.xs j++news))(e0:W3.grownBy W4 (m.v j).ownBlock)(f0:v'.ownBlock=(m.v j).ownBlock\/v'.ownBlock=some W3.heap.size):
  Zs lo base Rb Pb w0 (W4.setCell (Aq Pb (j - 10)) v') (m.app j v' news):=by
 have b0:=h.below c0;obtain⟨b1,b2,b3,b4,b5,b6,b7⟩:=b0.bL;obtain⟨g1,g2,g3,g4,g5,g6⟩:=h.grow j hj c0 d0 e0 f0;refine{bel:=g1.setCell (by show lo<=Pb;omega) _,bL:=⟨b1,b2,b3,b4,b5,by rw[Zy];omega,b7⟩,cR:= ?_,cP:= ?_,own:=λi hi=>Yw (g4 i hi) (λb hb=>Zx _ _ _ _ _ (by have:=((g4 i hi).lt b hb).1;omega)),iR:=g5,kp:=λb hb=>have k:=g6 b hb;⟨k.1,by rw[Zy];exact k.2.1,(Zx _ _ _ _ _ (by have:=k.1;omega)).trans k.2.2.1,k.2.2.2⟩}
 ·refine((b0.cR.block (g3 _ b3)).block (Zx _ _ _ _ _ b5)).congr (λi hi=>?_)
  show rrC Pb m i=rrC Pb (m.app j v' news) i;unfold rrC;show (if i=0 then ptr Pb else if i=7 then .bool m.ae else if i=9 then Iq m.ap else m.v i)=(if i=0 then ptr Pb else if i=7 then .bool m.ae else if i=9 then Iq m.ap else(if i=j then v' else m.v i));rw[if_neg (show ¬i=j by omega)]
 refine((b0.cP.block (g3 _ b4)).set (j:=j - 10) (by omega) v').congr (λi hi=>?_);show (if i=j - 10 then v' else rpC m i)=rpC (m.app j v' news) i;rcases a0 with rfl|rfl
 ·rcases(show i=0\/i=1\/i=2\/i=3\/i=4\/i=5 by omega) with rfl|rfl|rfl|rfl|rfl|rfl<;>rfl
 rcases(show i=0\/i=1\/i=2\/i=3\/i=4\/i=5 by omega) with rfl|rfl|rfl|rfl|rfl|rfl<;>rfl
end
def Yr(l:List UInt8):(⟨l.toArray⟩:ByteArray).toList=l:=by rw[ByteArray.toList_eq]
def bl_mk(ws:List (List UInt8)):bl (ws.map λl=>(⟨l.toArray⟩:ByteArray))=ws:=by
 unfold bl;rw[List.map_map]
 conv=>rhs;rw[<-List.map_id ws]
 apply List.map_congr_left
 intro l _;exact Yr l
def Zf.nD(h:Zf B w v ws):zh0 w v (ws.map λl=>(⟨l.toArray⟩:ByteArray)):=by
 obtain⟨ao,cap,h1,h2,h3,h4,h5,h6⟩:=h;refine⟨ao,cap,by rw[List.length_map];exact h1,by rw[List.length_map];omega,λs hs=>?_,λhne=>?_⟩
 ·simp only[List.mem_map]at hs
  obtain⟨l,hl,rfl⟩:=hs;have:=h5 l hl;show l.toArray.size<=maxLen;simp[maxLen];omega
 obtain⟨b,off,e,hb,hc⟩:=h6 (by intro hh;apply hne;rw[hh];rfl);refine⟨b,off,e,λi hi=>?_⟩;rw[List.length_map]at hi;rw[hc i hi];simp[strV,Qa,hi]
def Yc(h:Zf B w v ws)(x:List UInt8):Cq 17 #[v,.string ⟨x.toArray⟩] w λe w'=>e=.returned (Iq (Fl.ai ws x))/\w'=w:=by
 have:=zn8 v _ (⟨x.toArray⟩:ByteArray) w h.nD;rw[bl_mk,Yr]at this;exact this
def yw8(x:List UInt8)(w:World)(hx:x.length<=100000):Cq 26 #[.string ⟨x.toArray⟩,Iq 9] w λe w'=>e=.returned (.tuple #[Iq (Fl.bZ x 9).1,.bool (Fl.bZ x 9).2])/\w'=w:=by
 have:=yz0 (⟨x.toArray⟩:ByteArray) 9 w (by show x.toArray.size<=maxLen;simp[maxLen];omega) (by omega);rw[Yr]at this;exact this
def Vm(s:Fl.aa)(bv ov:Value):List Value:=[Iq s.kind,Iq s.x,Iq s.aq,Iq s.e.op,.bool s.e.a.var,Iq s.e.a.v,.bool s.e.b.var,Iq s.e.b.v,bv,ov]
def Yt:Nat->(Nat->Prop)->World->Value->List Fl.aa->Prop
 |0,_,_,v,l=>l=[]/\v=Zq
 |d+1,S,w,v,l=>∃ao cap,v=.slice ao l.length cap/\l.length<=cap/\cap<=maxLen/\l.length<=16/\
   (l≠[]->∃b,ao=some (Aq b 0)/\S b/\∀i,i<l.length->∃bv ov,(∀j,j<10->w.cell? (Aq b (i*10+j))=some ((Vm (l.getD i noS) bv ov).getD j undef))/\Yt d S w bv (l.getD i noS).aX/\Yt d S w ov (l.getD i noS).aJ)
def Yt.kept{S S':Nat->Prop}{w w':World}(hS:∀b,S b->S' b)(hw:∀b,S b->w'.heap[b]?=w.heap[b]?):∀(d:Nat) (v:Value) (l:List Fl.aa),Yt d S w v l->Yt d S' w' v l
 |0,_,_,h=>h
 |d+1,v,l,h=>by
  obtain⟨ao,cap,h1,h2,h3,h4,h5⟩:=h;refine⟨ao,cap,h1,h2,h3,h4,λa0=>?_⟩;obtain⟨b,e,hb,hc⟩:=h5 a0;refine⟨b,e,hS b hb,λi hi=>?_⟩;obtain⟨bv,ov,g1,g2,g3⟩:=hc i hi;exact⟨bv,ov,λj hj=>(Qc (a:=(Aq b (i*10+j))) (hw b hb)).trans (g1 j hj),Yt.kept hS hw d bv _ g2,Yt.kept hS hw d ov _ g3⟩
def Yt.slice{d:Nat}{S:Nat->Prop}{w:World}{v:Value}{l:List Fl.aa}(h:Yt d S w v l):∃a n c,v=.slice a n c:=by
 cases d with
 |zero=>exact⟨_,_,_,h.2⟩
 |succ d=>obtain⟨ao,c,h1,-⟩:=h;exact⟨_,_,_,h1⟩
structure Ye(base:Nat)(w:World)(Lq:Nat)(rb:Nat->Nat)(n:Nat)(t:Fl.cM):Prop where
 c:∀i,i<n->w.cell? (Aq Lq i)=some (.slice (some (Aq (rb i) 0)) n n)
 r:∀i j,i<n->j<n->w.cell? (Aq (rb i) j)=some (.bool (t i j))
 z:∀i j,i<n->w.frozen? (Aq (rb i) j)=false
 inj:∀i j,i<n->j<n->i≠j->rb i≠rb j
 ge:base<=Lq/\∀i,i<n->base<=rb i/\rb i≠Lq
def Ye.lt(h:Ye base w Lq rb n t)(hn:0<n):Lq<w.heap.size/\∀i,i<n->rb i<w.heap.size:=
 ⟨Qe w _ (h.c 0 hn),λi hi=>Qe w _ (h.r i 0 hi hn)⟩
def Ye.kept(h:Ye base w Lq rb n t)(hk:∀b,base<=b->b<w.heap.size->w'.heap[b]?=w.heap[b]?):Ye base w' Lq rb n t:=
 ⟨λi hi=>(Qc (a:=(Aq Lq i)) (hk _ h.ge.1 (h.lt (by omega)).1)).trans (h.c i hi),λi j hi hj=>(Qc (a:=(Aq (rb i) j)) (hk _ (h.ge.2 i hi).1 ((h.lt (by omega)).2 i hi))).trans (h.r i j hi hj),λi j hi=>(Qd (a:=(Aq (rb i) j)) (hk _ (h.ge.2 i hi).1 ((h.lt (by omega)).2 i hi))).trans (h.z i j hi),h.inj,h.ge⟩
def Ye.nC(h:Ye base w Lq rb n t)(hL:0<n->w'.heap[Lq]?=w.heap[Lq]?)(hr:∀i,i<n->w'.heap[rb i]?=w.heap[rb i]?):Ye base w' Lq rb n t:=
 ⟨λi hi=>(Qc (a:=(Aq Lq i)) (hL (by omega))).trans (h.c i hi),λi j hi hj=>(Qc (a:=(Aq (rb i) j)) (hr i hi)).trans (h.r i j hi hj),λi j hi=>(Qd (a:=(Aq (rb i) j)) (hr i hi)).trans (h.z i j hi),h.inj,h.ge⟩
structure FlS where
 tag:Nat
 s:Fl.aa
def Zk(f:FlS):List Value:=
 if f.tag=0 then [Iq f.s.kind,Iq f.s.x,Iq f.s.aq,Iq f.s.e.op,.bool f.s.e.a.var,Iq f.s.e.a.v,.bool f.s.e.b.var,Iq f.s.e.b.v,Zq,Zq]
 else [Iq (if f.tag=1 then -1 else -2),Iq 0,Iq 0,Iq 0,.bool false,Iq 0,.bool false,Iq 0,Zq,Zq]
def Jt(l:List FlS):List Value:=l.flatMap Zk
def zz1(f:Fl.aB):Nat:=if f.kind=6 then 119 else if f.cI then 101 else 105
def Vx(l:List Fl.aB):List Value:=(l.map λf=>Value.int .u8 (zz1 f:Nat)).reverse
def zgv(m:Yl)(n:Nat)(t:Fl.cM):Prop:=m.N=n/\∃Lq rb,m.leq=.slice (some (Aq Lq 0)) n n/\Ye 0 m.wk Lq rb n t/\(0<n->m.fQ Lq)/\∀i,i<n->m.fQ (rb i)
structure Zg(r:Fl.RS)(fl:List FlS)(t:Nat)(m:Yl):Prop where
 r1:m.n 1=r.au.length/\m.xs 1=r.au.map strV
 r2:m.n 2=r.cells.length/\m.xs 2=r.cells.map strV
 r3:m.n 3=r.aj.length/\m.xs 3=r.aj.map strV
 r4:m.n 4=r.am.length/\m.xs 4=r.am.map strV
 r5:m.n 5=r.aM.length/\m.xs 5=Yi r.aM
 r6:m.n 6=r.aG.length/\m.xs 6=Yi r.aG
 r8:m.n 8=r.fr.length/\m.xs 8=Vx r.fr
 fO:m.n 10=fl.length/\m.xs 10=Jt fl
 iQ:m.n 12=r.aZ.length/\m.xs 12=Yi r.aZ
 iI:m.n 13=r.aY.length/\m.xs 13=Yi r.aY
 bg:m.ae=r.ae
 st:m.ap=r.ap
 nm:∀x∈r.au++(r.cells++(r.aj++r.am)),x.length<=100000
 lv:r.au.length<=6
 ce:r.cells.length<=6
 ch:r.aj.length<=3
 lo:r.am.length<=4
 sm:r.ap<=16
 fr:r.fr.length<=3
 lw:r.aM.length<=t
 ft:fl.length<=t
 pr:r.aM.length=r.aG.length
 bw:(∀x∈r.aM,x<r.au.length)/\(∀x∈r.aG,x<r.au.length)
 cl:r.aZ.length=r.cells.length
 hl:r.aY.length=r.aj.length
 lt:r.ae=true->zgv m r.au.length r.tab
section
variable{m:Yl}{fl:List FlS}{t:Nat}
def Zs.words(h:Zs lo base Rb Pb w0 w m)(j:Nat)(hj:Zr j)(ws:List (List UInt8))(hr:m.n j=ws.length/\m.xs j=ws.map strV)(hz:rSz j=1)(hl:ws.length<=100000)(a0:∀x∈ws,x.length<=100000):Zf w.heap.size w (m.v j) ws:=by
 have ho:=h.own j hj;rw[hr.2,hz]at ho;exact Zf.dE ho hl a0
def Zs.au(h:Zs lo base Rb Pb w0 w m)(hr:Zg r fl t m):Zf w.heap.size w (m.v 1) r.au:=h.words 1 (by unfold Zr;omega) _ hr.r1 rfl (by have:=hr.lv;omega) (λx hx=>hr.nm x (by simp[hx]))
def Zs.cells(h:Zs lo base Rb Pb w0 w m)(hr:Zg r fl t m):Zf w.heap.size w (m.v 2) r.cells:=h.words 2 (by unfold Zr;omega) _ hr.r2 rfl (by have:=hr.ce;omega) (λx hx=>hr.nm x (by simp[hx]))
def Zs.aj(h:Zs lo base Rb Pb w0 w m)(hr:Zg r fl t m):Zf w.heap.size w (m.v 3) r.aj:=h.words 3 (by unfold Zr;omega) _ hr.r3 rfl (by have:=hr.ch;omega) (λx hx=>hr.nm x (by simp[hx]))
def Zs.am(h:Zs lo base Rb Pb w0 w m)(hr:Zg r fl t m):Zf w.heap.size w (m.v 4) r.am:=h.words 4 (by unfold Zr;omega) _ hr.r4 rfl (by have:=hr.lo;omega) (λx hx=>hr.nm x (by simp[hx]))
def zsz(o:Option Fl.dM)(w:World)(e:Ending)(w':World):Prop:=
 Bq w w'/\(∀a,o=some a->e=.returned (.tuple #[.agg #[.bool a.var,Iq a.v],.bool true]))/\(o=none->∃v:Int,e=.returned (.tuple #[.agg #[.bool true,Iq v],.bool false]))
def zwy(h:Zs lo base Rb Pb w0 w m)(hr:Zg r fl t m)(x:List UInt8)(hx:x.length<=100000):
  Cq 28 #[Pq Rb,.string ⟨x.toArray⟩] w (zsz (r.atom x) w):=by
 have bL:=h.bL
 have f0:Rb<w.heap.size:=by omega
 have g0:Hid (∀W,Cq 26 #[.string ⟨x.toArray⟩,Iq 9] W λe w'=>e=.returned (.tuple #[Iq (Fl.bZ x 9).1,.bool (Fl.bZ x 9).2])/\w'=W):=λW=>yw8 x W hx;have h0:Hid (∀W,Bq w W->Cq 17 #[m.v 2,.string ⟨x.toArray⟩] W λe w'=>e=.returned (Iq (Fl.ai r.cells x))/\w'=W):=λW hW=>Yc ((h.below hW).cells hr) x;have i0:Hid (∀W,Bq w W->Cq 17 #[m.v 4,.string ⟨x.toArray⟩] W λe w'=>e=.returned (Iq (Fl.ai r.am x))/\w'=W):=λW hW=>Yc ((h.below hW).am hr) x;obtain⟨c2,k2,d0⟩:=h.shape 2 (by unfold Zr;omega);obtain⟨c4,k4,e0⟩:=h.shape 4 (by unfold Zr;omega);rw[hr.r2.1]at d0;rw[hr.r4.1]at e0;rw[d0]at h0;rw[e0]at i0;have q2:∀o,Cl (w.alloc o) Rb 2 (.slice c2 r.cells.length k2):=λo=>(Qf _ _ _ f0).trans (by rw[<-d0];exact h.cR.c 2 (by omega));have q4:∀o,Cl (w.alloc o) Rb 4 (.slice c4 r.am.length k4):=λo=>(Qf _ _ _ f0).trans (by rw[<-e0];exact h.cR.c 4 (by omega));have HB:Hid (∀o,Bq w (w.alloc o)):=λo=>bA;have b0:Hid (r.atom x=if(Fl.bZ x 9).2 then some ⟨false,(Fl.bZ x 9).1⟩ else if 0<=Fl.ai r.cells x then some ⟨true,(Fl.ai r.cells x).toNat⟩ else if 0<=Fl.ai r.am x then some ⟨true,r.cells.length+(Fl.ai r.am x).toNat⟩ else none):=rfl;obtain⟨aV,c0⟩:=nmE (r.atom x);rw[<-c0]at b0⊢;have m0:=Fl.aR r.cells x;have n0:=Fl.aR r.am x;have o0:=hr.ce;have cV:=hr.lo;generalize (Fl.bZ x 9).1=nv at*;generalize (Fl.bZ x 9).2=nb at*;generalize Fl.ai r.cells x=pc at*;generalize Fl.ai r.am x=pl at*
 have j0:(r.cells.length:Int)<=6:=by omega
 have k0: -1<=pc/\pc<=6:=by omega
 have l0: -1<=pl/\pl<=4:=by omega
 clear h hr c0 d0 e0
 cases nb with
 |true=>
  have HR:Hid (aV=some ⟨false,nv⟩):=(by show _=_;rw[b0.out];rfl)
  go_enter func28,ntmps28
  go_wp2_with fail
  refine(g0 _).mono ?_;rintro e w1 ⟨rfl,a0⟩;rw[a0];clear a0 w1;go_wp2;refine bodyPost_ret (v:=.tuple #[.agg #[.bool false,Iq nv],.bool true]) (by simp[results,results28,go_sem]) rfl ?_;rw[HR.out];exact⟨HB _,λa ha=>by simp only[Option.some.injEq]at ha;subst ha;rfl,λh=>by cases h⟩
 |false=>
  go_enter func28,ntmps28
  go_wp2_with fail
  refine(g0 _).mono ?_;rintro e w1 ⟨rfl,a0⟩;rw[a0];clear a0 w1
  go_wp2_with fail
  refine(h0 _ (HB _)).mono ?_;rintro e w1 ⟨rfl,a0⟩;rw[a0];clear a0 w1
  by_cases hp:0<=pc
  ·have HR:Hid (aV=some ⟨true,pc.toNat⟩):=by show _=_;rw[b0.out,if_neg (by decide),if_pos hp]
   have e1:((pc.toNat:Nat):Int)=pc:=(by omega);have E1:=Zz e1;clear e1;go_wp2;refine bodyPost_ret (v:=.tuple #[.agg #[.bool true,Iq pc],.bool true]) (by simp[results,results28,go_sem]) rfl ?_;rw[HR.out];exact⟨HB _,λa ha=>by simp only[Option.some.injEq]at ha;subst ha;rw[E1.out],λh=>by cases h⟩
  have p0:pc<0:=(by omega);clear hp
  go_wp2_with fail
  refine(i0 _ (HB _)).mono ?_;rintro e w1 ⟨rfl,a0⟩;rw[a0];clear a0 w1
  by_cases hl:0<=pl
  ·have HR:Hid (aV=some ⟨true,r.cells.length+pl.toNat⟩):=by show _=_;rw[b0.out,if_neg (by decide),if_neg (show ¬0<=pc by omega),if_pos hl]
   have E1:Hid (((r.cells.length+pl.toNat:Nat):Int)=(r.cells.length:Int)+pl):=(by show _=_;omega);have hd:decide (pl ≥ 0)=true:=decide_eq_true hl;go_wp2;refine bodyPost_ret (v:=.tuple #[.agg #[.bool true,Iq ((r.cells.length:Int)+pl)],.bool true]) (by simp[results,results28,go_sem,hl]) rfl ?_;rw[HR.out];exact⟨HB _,λa ha=>by simp only[Option.some.injEq]at ha;subst ha;rw[E1.out],λh=>by cases h⟩
  have HR:Hid (aV=none):=(by show _=_;rw[b0.out,if_neg (by decide),if_neg (show ¬0<=pc by omega),if_neg hl]);go_wp2;refine bodyPost_ret (v:=.tuple #[.agg #[.bool true,Iq ((r.cells.length:Int)+pl)],.bool false]) (by simp[results,results28,go_sem,hl]) rfl ?_;rw[HR.out];exact⟨HB _,λa ha=>(by cases ha),λh=>⟨_,rfl⟩⟩
end
def hdS(s:Fl.aa):Fl.aa:=⟨s.kind,s.x,s.aq,s.e,[],[]⟩
def Vt:FlS:=⟨1,noS⟩
def Xd:FlS:=⟨2,noS⟩
def zy2(s:Fl.aa):FlS:=⟨0,hdS s⟩
def zu5(K:List FlS->List Fl.aa->Prop)(p:List FlS)(s:Fl.aa):Prop:=
 ((s.kind=3\/s.kind=4)/\s.aX=[]/\s.aJ=[]/\p=[zy2 s])\/
 ((s.kind=5\/s.kind=6)/\∃f1,K f1 s.aX/\((s.aJ=[]/\p=zy2 s::(f1++[Xd]))\/∃f2,K f2 s.aJ/\p=zy2 s::(f1++Vt::(f2++[Xd]))))
def Uy(R:List FlS->Fl.aa->Prop):List FlS->List Fl.aa->Prop
 |fl,[]=>fl=[]
 |fl,s::l=>∃p q,fl=p++q/\R p s/\Uy R q l
def Uq:Nat->List FlS->List Fl.aa->Prop
 |0,fl,l=>fl=[]/\l=[]
 |d+1,fl,l=>Uy (zu5 (Uq d)) fl l
def Uy.snoc{R:List FlS->Fl.aa->Prop}:∀{l:List Fl.aa} {fl:List FlS},Uy R fl l->∀{p:List FlS} {s:Fl.aa},R p s->Uy R (fl++p) (l++[s])
 |[],fl,h,p,s,hp=>by
  have h0:fl=[]:=h;subst h0;exact⟨p,[],by simp,hp,rfl⟩
 |x::l,fl,h,p,s,hp=>by
  obtain⟨a,b,rfl,h1,h2⟩:=h;exact⟨a,b++p,by simp,h1,Uy.snoc h2 hp⟩
def Uq.nil(d:Nat):Uq d [] []:=by
 cases d with
 |zero=>exact⟨rfl,rfl⟩
 |succ d=>exact rfl
def zp2(d:Nat)(p:List FlS)(f:Fl.aB):Prop:=
 ∃f1,Uq (d+1) f1 f.first/\((f.cI=false/\p=⟨0,⟨f.kind,0,f.aq,f.e,[],[]⟩⟩::f1)\/(f.cI=true/\∃f2,Uq (d+1) f2 f.fm/\p=⟨0,⟨f.kind,0,f.aq,f.e,[],[]⟩⟩::(f1++Vt::f2)))
def FlatF:Nat->List FlS->List Fl.aB->Prop
 |_,fl,[]=>fl=[]
 |d,fl,f::fs=>∃a b,fl=a++b/\FlatF (d+1) a fs/\zp2 d b f
def Vw(fl:List FlS)(r:Fl.RS):Prop:=∃a b,fl=a++b/\Uq 4 a r.bC/\FlatF (3 - r.fr.length) b r.fr
def zp2.done{d:Nat}{p:List FlS}{f:Fl.aB}(h:zp2 d p f)(hk:f.kind=5\/f.kind=6)(hn:f.cI=false->f.fm=[]):zu5 (Uq (d+1)) (p++[Xd]) f.done:=by
 obtain⟨f1,h1,h2⟩:=h
 right
 refine⟨hk,f1,h1,?_⟩;rcases h2 with⟨h3,rfl⟩|⟨h3,f2,h4,rfl⟩
 ·left;exact⟨hn h3,rfl⟩
 right;exact⟨f2,h4,by simp;rfl⟩
def zp2.snoc{d:Nat}{p q:List FlS}{f:Fl.aB}{s:Fl.aa}(h:zp2 d p f)(hq:zu5 (Uq d) q s):zp2 d (p++q) (if f.cI then{f with fm:=f.fm++[s]} else{f with first:=f.first++[s]}):=by
 obtain⟨f1,h1,h2⟩:=h;rcases h2 with⟨h3,rfl⟩|⟨h3,f2,h4,rfl⟩
 ·rw[h3]
  exact⟨f1++q,Uy.snoc h1 hq,.inl ⟨rfl,by simp⟩⟩
 rw[h3];exact⟨f1,h1,.inr ⟨rfl,f2++q,Uy.snoc h4 hq,by simp⟩⟩
def yk2{fl:List FlS}(h:Vw fl r)(hk:s.kind=3\/s.kind=4)(h1:s.aX=[])(h2:s.aJ=[])(hl:r.fr.length<=3):Vw (fl++[zy2 s]) (r.put s):=by
 obtain⟨a,b,rfl,ha,hb⟩:=h;have hs:∀d,zu5 (Uq d) [zy2 s] s:=λd=> .inl ⟨hk,h1,h2,rfl⟩;unfold Fl.RS.put
 cases hf:r.fr with
 |nil=>
  rw[hf]at hb;have h0:b=[]:=hb;subst h0;exact⟨a++[zy2 s],[],by simp,Uy.snoc ha (hs 3),rfl⟩
 |cons f fs=>
  rw[hf]at hb;obtain⟨x,y,rfl,hx,hy⟩:=hb;exact⟨a,x++(y++[zy2 s]),by simp,ha,x,y++[zy2 s],rfl,hx,hy.snoc (hs _)⟩
def yuy{fl:List FlS}(h:Vw fl r)(kind aq:Nat)(e:Fl.dd)(hl:r.fr.length<3):Vw (fl++[⟨0,⟨kind,0,aq,e,[],[]⟩⟩]) (r.opens kind aq e):=by
 obtain⟨a,b,rfl,ha,hb⟩:=h
 have e1:3 - (r.fr.length+1)+1=3 - r.fr.length:=by omega
 refine⟨a,b++[⟨0,⟨kind,0,aq,e,[],[]⟩⟩],by simp,ha,b,[_],rfl,?_,[],Uq.nil _,.inl ⟨rfl,rfl⟩⟩;show FlatF (3 - (r.fr.length+1)+1) b r.fr;rw[e1];exact hb
def yux{fl:List FlS}(h:Vw fl r)(hf:r.fr=f::fs)(hd:f.cI=false)(hn:f.fm=[]):Vw (fl++[Vt]) r.cd:=by
 obtain⟨a,b,rfl,ha,hb⟩:=h;rw[hf]at hb;obtain⟨x,y,rfl,hx,f1,h1,h2⟩:=hb;unfold Fl.RS.cd;rw[hf];rcases h2 with⟨h3,rfl⟩|⟨h3,_⟩
 ·exact⟨a,x++(⟨0,⟨f.kind,0,f.aq,f.e,[],[]⟩⟩::(f1++Vt::[])),by simp,ha,x,_,rfl,hx,f1,h1,.inr ⟨rfl,[],by rw[show ({f with cI:=true}:Fl.aB).fm=[] from hn];exact Uq.nil _,rfl⟩⟩
 rw[hd]at h3;cases h3
def yo6{fl:List FlS}(h:Vw fl r)(hf:r.fr=f::fs)(hk:f.kind=5\/f.kind=6)(hn:f.cI=false->f.fm=[])(hl:r.fr.length<=3):Vw (fl++[Xd]) r.bE:=by
 obtain⟨a,b,rfl,ha,hb⟩:=h;rw[hf]at hb hl;obtain⟨x,y,rfl,hx,hy⟩:=hb;unfold Fl.RS.bE;rw[hf];have hd:=hy.done hk hn
 cases fs with
 |nil=>
  have h0:x=[]:=hx;subst h0;exact⟨a++(y++[Xd]),[],by simp,Uy.snoc ha hd,rfl⟩
 |cons g gs=>
  obtain⟨u,v,rfl,hu,hv⟩:=hx;simp only[List.length_cons]at hl hd hu hv;have e1:3 - (gs.length+1+1)+1=3 - (gs.length+1):=(by omega);refine⟨a,u++(v++(y++[Xd])),by simp,ha,u,v++(y++[Xd]),rfl,?_,?_⟩
  ·simp only[List.length_cons];rw[<-e1];exact hu
  simp only[List.length_cons];rw[<-e1];exact hv.snoc hd
def flatR0:Vw [] Fl.RS.zero:=⟨[],[],rfl,Uq.nil 4,rfl⟩
def dsV(ds:List (Fl.aa×Value×Value)):List Value:=ds.flatMap λx=>Vm x.1 x.2.1 x.2.2
def zu6(s:Fl.aa)(a b:Value):(Vm s a b).length=10:=rfl
def dsV_get(ds:List (Fl.aa×Value×Value))(i j:Nat)(hi:i<ds.length)(hj:j<10)(x:Fl.aa×Value×Value)(hx:ds[i]?=some x):(dsV ds)[i*10+j]?=some ((Vm x.1 x.2.1 x.2.2).getD j undef):=by
 induction ds generalizing i with
 |nil=>simp at hi
 |cons y ds ih=>
  unfold dsV at*;rw[List.flatMap_cons]
  cases i with
  |zero=>
   simp only[List.getElem?_cons_zero,Option.some.injEq]at hx;subst hx;rw[Nat.zero_mul,Nat.zero_add,List.getElem?_append_left (by rw[zu6];exact hj),Qa,Qb (by rw[zu6];exact hj)];rfl
  |succ i=>
   simp only[List.getElem?_cons_succ]at hx;rw[List.getElem?_append_right (by rw[zu6];omega),zu6,show (i+1)*10+j - 10=i*10+j by omega];exact ih i (by simpa using hi) hx
def BdS(B:Nat)(w:World)(ov:Value)(b:Nat):Prop:=B<=b/\b<w.heap.size/\ov.ownBlock≠some b
structure zt0(d B:Nat)(w:World)(ds:List (Fl.aa×Value×Value))(ov:Value):Prop where
 own:w.ownsRow B 61 10 ov ds.length (dsV ds)
 bd:∀x∈ds,Yt d (BdS B w ov) w x.2.1 x.1.aX/\Yt d (BdS B w ov) w x.2.2 x.1.aJ
 hz:B<=w.heap.size
def zt0.nil(d:Nat)(w:World):zt0 d w.heap.size w [] Zq:=⟨⟨rfl,.inl ⟨rfl,rfl⟩⟩,λx hx=>(by cases hx),Nat.le_refl _⟩
def zt0.below{ds:List (Fl.aa×Value×Value)}(h:zt0 d B w ds ov)(hb:Bq w w'):zt0 d B w' ds ov:=by
 have hz:=hb.size;have hk:∀b,BdS B w ov b->BdS B w' ov b:=λb hb=>⟨hb.1,by have:=hb.2.1;omega,hb.2.2⟩;have hw:∀b,BdS B w ov b->w'.heap[b]?=w.heap[b]?:=λb hb'=>hb.block b hb'.2.1;exact⟨Yw h.own (λb hv=>hb.block b (h.own.lt b hv).2),λx hx=>⟨Yt.kept hk hw _ _ _ (h.bd x hx).1,Yt.kept hk hw _ _ _ (h.bd x hx).2⟩,by have:=h.hz;omega⟩
def zt0.push{ds:List (Fl.aa×Value×Value)}{ov' bv o2:Value}(h:zt0 d B w ds ov)(hb:Bq w W3)(h1:Yt d (BdS B W3 ov) W3 bv s.aX)(h2:Yt d (BdS B W3 ov) W3 o2 s.aJ)
  (ho:W4.ownsRow B 61 10 ov' (ds.length+1) (dsV ds++Vm s bv o2)) (hg:W3.grownBy W4 ov.ownBlock) (a0:ov'.ownBlock=ov.ownBlock\/ov'.ownBlock=some W3.heap.size):zt0 d B W4 (ds++[(s,bv,o2)]) ov':=by
 have h3:=h.below hb;have hz:=hg.size
 have hk:∀b,BdS B W3 ov b->BdS B W4 ov' b:=λb hb=>⟨hb.1,by have:=hb.2.1;omega,λhh=>by
  rcases a0 with e|e
  ·rw[e]at hh;exact hb.2.2 hh
  rw[e]at hh;simp only[Option.some.injEq]at hh;have:=hb.2.1;omega⟩
 have hw:∀b,BdS B W3 ov b->W4.heap[b]?=W3.heap[b]?:=λb hb'=>hg.block b hb'.2.1 (Ne.symm hb'.2.2);refine⟨?_,λx hx=>?_,by have:=h3.hz;omega⟩
 ·rw[List.length_append,show dsV (ds++[(s,bv,o2)])=dsV ds++Vm s bv o2 by simp[dsV]];exact ho
 rcases List.mem_append.1 hx with hx|hx
 ·exact⟨Yt.kept hk hw _ _ _ (h3.bd x hx).1,Yt.kept hk hw _ _ _ (h3.bd x hx).2⟩
 simp only[List.mem_singleton]at hx;subst hx;exact⟨Yt.kept hk hw _ _ _ h1,Yt.kept hk hw _ _ _ h2⟩
def zt0.closed{ds:List (Fl.aa×Value×Value)}(h:zt0 d B w ds ov)(hl:ds.length<=16):Yt (d+1) (λb=>B<=b/\b<w.heap.size) w ov (ds.map (·.1)):=by
 rcases h.own.2 with⟨h1,h2⟩|⟨g,cap,cur,h1,h2,h3,h4,h5,h6,h7⟩
 ·have:ds=[]:=Qi h2
  subst this;exact⟨none,0,h1,by simp,by simp[maxLen],by simp,λhh=>absurd rfl hh⟩
 have a0:g<w.heap.size:=Classical.byContradiction λhn=>by rw[Array.getElem?_eq_none (by omega)]at h3;cases h3
 refine⟨_,cap,by rw[List.length_map];exact h1,by rw[List.length_map];exact h4,h5,by rw[List.length_map];exact hl,λb0=>⟨g,rfl,⟨h2,a0⟩,λi hi=>?_⟩⟩;rw[List.length_map]at hi;have hx:ds[i]?=some ds[i]:=Qb hi
 have hs:(ds.map (·.1)).getD i noS=ds[i].1:=by rw[Qa,List.getElem?_map,hx];rfl
 rw[hs];have hm:=h.bd ds[i] (List.getElem_mem hi);refine⟨ds[i].2.1,ds[i].2.2,λj hj=>?_,Yt.kept (λb hb=>⟨hb.1,hb.2.1⟩) (λ_ _=>rfl) _ _ _ hm.1,Yt.kept (λb hb=>⟨hb.1,hb.2.1⟩) (λ_ _=>rfl) _ _ _ hm.2⟩;have h8:=h.own.cells (g:=g) (by rw[h1];rfl) (i*10+j) _ (dsV_get ds i j hi hj _ hx)
 have h9:((Aq g 0):Addr).add (i*10+j)=(Aq g (i*10+j)):=by unfold Addr.add;split<;>simp_all
 rw[h9]at h8;exact h8
def zq6(w:World)(v:Value)(FL:List FlS):Prop:=
 ∃fa fc,v=.slice fa FL.length fc/\FL.length<=fc/\fc<=maxLen/\FL.length<=100000/\(FL≠[]->∃Fb,fa=some (Aq Fb 0)/\Fb<w.heap.size/\∀k,k<FL.length->∀j,j<10->w.cell? (Aq Fb (k*10+j))=some ((Zk (FL.getD k Xd)).getD j undef))
def zq6.below{FL:List FlS}(h:zq6 w v FL)(hb:Bq w w'):zq6 w' v FL:=by
 obtain⟨fa,fc,h1,h2,h3,h4,h5⟩:=h;refine⟨fa,fc,h1,h2,h3,h4,λa0=>?_⟩;obtain⟨Fb,e,hz,hc⟩:=h5 a0;exact⟨Fb,e,Qj hz hb.size,λk hk j hj=>(hb.cell (p:=(Aq Fb (k*10+j))) hz).trans (hc k hk j hj)⟩
def Stop(rest:List FlS):Prop:=rest=[]\/∃f r,rest=f::r/\f.tag≠0
def cE(l:List FlS):Nat:=l.countP λf=>f.tag==0
def Um(a b:List FlS):cE (a++b)=cE a+cE b:=by simp[cE]
def Uy.cE{R:List FlS->Fl.aa->Prop}(hR:∀p s,R p s->1<=cE p):∀{l:List Fl.aa} {fl:List FlS},Uy R fl l->l.length<=Go.Proofs.YtfhpibppblbgcaaGreatDoor.cE fl
 |[],_,_=>Nat.zero_le _
 |s::l,fl,h=>by
  obtain⟨p,q,rfl,h1,h2⟩:=h;rw[Um,List.length_cons];have:=hR p s h1;have:=Uy.cE hR h2;omega
def zu5.cE{K:List FlS->List Fl.aa->Prop}{p:List FlS}{s:Fl.aa}(h:zu5 K p s):1<=Go.Proofs.YtfhpibppblbgcaaGreatDoor.cE p:=by
 have hc:∀l,1<=Go.Proofs.YtfhpibppblbgcaaGreatDoor.cE (zy2 s::l):=λl=>by simp[Go.Proofs.YtfhpibppblbgcaaGreatDoor.cE,zy2]
 rcases h with⟨_,_,_,rfl⟩|⟨_,f1,_,⟨_,rfl⟩|⟨f2,_,rfl⟩⟩
 ·exact hc _
 ·exact hc _
 exact hc _
def Uq.cE{d:Nat}{fl:List FlS}{l:List Fl.aa}(h:Uq d fl l):l.length<=Go.Proofs.YtfhpibppblbgcaaGreatDoor.cE fl:=by
 cases d with
 |zero=>rw[h.2];exact Nat.zero_le _
 |succ d=>exact Uy.cE (λp s h=>zu5.cE h) h
def Zs.aside{m:Yl}(h:Zs lo base Rb Pb w0 w m)(a0:Below lo w0 w')(hz:base<=w'.heap.size)(hk:∀b,b=Rb\/b=Pb\/(∃j,Zr j/\(m.v j).ownBlock=some b)\/m.fQ b->w'.heap[b]?=w.heap[b]?)(hs:w.heap.size<=w'.heap.size):Zs lo base Rb Pb w0 w' m:=by
 obtain⟨b1,b2,b3,b4,b5,b6,b7⟩:=h.bL;exact{bel:=a0,bL:=⟨b1,b2,b3,b4,b5,hz,b7⟩,cR:=h.cR.block (hk _ (.inl rfl)),cP:=h.cP.block (hk _ (.inr (.inl rfl))),own:=λj hj=>Yw (h.own j hj) (λb hb=>hk b (.inr (.inr (.inl ⟨j,hj,hb⟩)))),iR:=h.iR,kp:=λb hb=>have k:=h.kp b hb;⟨k.1,Qj k.2.1 hs,(hk b (.inr (.inr (.inr hb)))).trans k.2.2.1,k.2.2.2⟩}
def Zm(k x:Int)(op:Int)(av:Bool)(an:Int)(bv:Bool)(bn:Int):Array Value:=#[Iq k,Iq x,Iq 0,Iq op,.bool av,Iq an,.bool bv,Iq bn,Zq,Zq]
section
variable{m:Yl}{fl:List FlS}{t:Nat}
def Zg.ic(h:Zg r fl t m)(x:List UInt8)(v:Value)(hx:x.length<=100000)(hl:r.am.length<4):Zg {r with am:=r.am++[x]} fl t (m.app 4 v [strV x]):=
 {
  r1:=h.r1,r2:=h.r2,r3:=h.r3,r4:=⟨by show m.n 4+1=_;rw[h.r4.1];simp,by show m.xs 4++_=_;rw[h.r4.2];simp⟩,r5:=h.r5,r6:=h.r6,r8:=h.r8,fO:=h.fO,iQ:=h.iQ,iI:=h.iI,bg:=h.bg,st:=h.st,nm:=λy hy=>by
   simp only[List.mem_append,List.mem_singleton]at hy;rcases hy with h1|h1|h1|h1|rfl
   ·exact h.nm y (by simp[h1])
   ·exact h.nm y (by simp[h1])
   ·exact h.nm y (by simp[h1])
   ·exact h.nm y (by simp[h1])
   exact hx
  lv:=h.lv,ce:=h.ce,ch:=h.ch,lo:=by simp;omega,sm:=h.sm,fr:=h.fr,lw:=h.lw,ft:=h.ft,pr:=h.pr,bw:=h.bw,cl:=h.cl,hl:=h.hl,lt:=h.lt}
def zk7{e:TypeId}{x:Value}{N:Nat}(hN:w.heap.size=N):∀j u,[x][j]?=some u->(w.alloc (.cells #[x] e)).cell? (((Aq N 0):Addr).add j)=some u:=by subst hN;exact Xv
def Yx{P:Program}{fn:Func}{p q:Tmp}{ty:TypeId}(h:fn.results=#[.cell p ty,.tmp q])(tmps:Array Value)(w:World)(ad:Addr)(v:Value)(ha:tmps.getD p undef=.pointer (some ad))(hl:(loadVar ty ad).run P w=.ok v w):
  (results fn tmps).run P w=.ok (.tuple #[v,tmps.getD q undef]) w:=by
 have ha':tmps[p]?.getD undef=.pointer (some ad):=by rw[<-ha,Array.getD_eq_getD_getElem?]
 simp only[results,h];simp[Sem.run_bind,Result.andThen,ha',asAddr,hl]
def Tryz.infoStmt10:(Tryz.prog.info? 61).map (·.size)=some 10:=by kernel_rfl
def Jm(u:World)(o:Obj)(k:Nat)(hk:u.heap.size=k):(u.alloc o).heap[k]?=some o:=by subst hk;exact heap_alloc_last u o
def Yy:Array Value:=#[Iq 0,Iq 0,Iq 0,Iq 0,.bool false,Iq 0,.bool false,Iq 0,Zq,Zq]
end
def zv4(d:Nat)(w:World)(k:Nat)(l:List Fl.aa)(e:Ending)(w':World):Prop:=
 Bq w w'/\∃oa on oc,e=.returned (.tuple #[.slice oa on oc,Iq k])/\Yt d (λb=>w.heap.size<=b/\b<w'.heap.size) w' (.slice oa on oc) l
def zf0(d:Nat)(FL:List FlS)(v:Value):Prop:=
 ∀(w:World) (i:Nat) (fl:List FlS) (l:List Fl.aa) (rest:List FlS),zq6 w v FL->i<=FL.length->FL.drop i=fl++rest->Uq d fl l->Stop rest->Cq 10 #[v,Iq i] w (zv4 d w (i+fl.length) l)
def Jy{FL:List FlS}{f:FlS}{r:List FlS}(h:FL.drop i=f::r):i<FL.length/\FL.getD i Xd=f/\FL.drop (i+1)=r:=by
 have hi:i<FL.length:=Classical.byContradiction λhn=>by rw[List.drop_of_length_le (by omega)]at h;cases h
 rw[List.drop_eq_getElem_cons hi]at h;injection h with h1 h2;exact⟨hi,by rw[Qa,Qb hi];exact h1,h2⟩
def zcx{FL:List FlS}{a b:List FlS}(h:FL.drop i=a++b)(hi:i<=FL.length):FL.drop (i+a.length)=b/\i+a.length<=FL.length:=by
 have h1:(FL.drop i).length=FL.length - i:=by simp
 have h2:FL.drop (i+a.length)=(FL.drop i).drop a.length:=by rw[List.drop_drop]
 rw[h]at h1 h2;simp only[List.length_append]at h1;exact⟨by rw[h2];simp,by omega⟩
def zq6.aq{FL:List FlS}{Fb fc:Nat}(h:zq6 w (.slice (some (Aq Fb 0)) n fc) FL)(i:Nat)(hi:i<FL.length):∀j,j<10->w.cell? (Aq Fb (i*10+j))=some ((Zk (FL.getD i Xd)).getD j undef):=by
 obtain⟨fa,c,h1,h2,h3,h4,h5⟩:=h;obtain⟨b,e,hz,hc⟩:=h5 (by rintro rfl;simp at hi);simp only[Value.slice.injEq]at h1;obtain⟨h6,-,-⟩:=h1;rw[e]at h6;simp only[Option.some.injEq,Addr.mk.injEq]at h6;rw[h6.1];exact hc i hi
def yk3(FL:List FlS)(v:Value):zf0 0 FL v:=by
 intro w i fl l rest hF hi hd hl hs;obtain⟨rfl,rfl⟩:=hl;simp only[List.nil_append]at hd;have a0:Hid (zv4 0 w (i+([]:List FlS).length) [] (.returned (.tuple #[Zq,Iq i])) w):=⟨Below.refl _ _,none,0,0,rfl,rfl,rfl⟩;obtain⟨fa,fc,rfl,h2,h3,h4,h5⟩:=id hF
 have e0:(i:Int)<=(FL.length:Int):=by omega
 have f0:(FL.length:Int)<=100000:=by omega
 rcases hs with rfl|⟨f,r,rfl,hf⟩
 ·have hn:¬(i:Int)<(FL.length:Int):=by
   intro hh
   have:i<FL.length:=by omega
   rw[List.drop_eq_getElem_cons this]at hd;cases hd
  clear hF h2 h3 h4 h5 hd
  go_enter func10,ntmps10
  go_wp2_with fail
  go_loopw [1,6] (λiv ov wr=>iv=Iq i/\ov=Zq/\wr=w) (λ_ _ _=>0)
  case atStart=>exact⟨rfl,rfl,rfl⟩
  case round=>
   obtain⟨rfl,rfl,b0⟩:=hrel;rw[b0];clear b0;go_wp2
   go_ret2
   exact a0
 obtain⟨g1,g2,g3⟩:=Jy hd;obtain⟨Fb,rfl,hz,hc⟩:=h5 (by rintro rfl;simp at g1);have c0:=hc i g1 0 (by omega);rw[g2,Nat.add_zero]at c0;obtain⟨kk,d0⟩:∃kk:Int,(Zk f).getD 0 undef=Iq kk/\kk<0:=by
  unfold Zk;rw[if_neg hf];refine⟨_,rfl,?_⟩
  split<;>decide
 rw[d0.1]at c0
 have g0:¬0<=kk:=by omega
 have hn:(i:Int)<(FL.length:Int):=by omega
 clear hF h2 h3 h4 h5 hd hc d0 g2 g3
 go_enter func10,ntmps10
 go_wp2_with fail
 go_loopw [1,6] (λiv ov wr=>iv=Iq i/\ov=Zq/\wr=w) (λ_ _ _=>0)
 case atStart=>exact⟨rfl,rfl,rfl⟩
 case round=>
  obtain⟨rfl,rfl,b0⟩:=hrel;rw[b0];clear b0;go_wp2
  go_ret2
  exact a0
end Go.Proofs.YtfhpibppblbgcaaGreatDoor
