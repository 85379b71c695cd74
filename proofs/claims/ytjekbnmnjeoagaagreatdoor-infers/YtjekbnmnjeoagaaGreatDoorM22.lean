import Derived.Test.YtjekbnmnjeoagaaGreatDoorM16
import Derived.Laws.CopyOwn
set_option linter.all false
set_option maxRecDepth 100000
set_option maxHeartbeats 40000000
namespace Go.Proofs.YtjekbnmnjeoagaaGreatDoor
open Go.RowKit Go.Proofs.Tryz
variable{w w0 w' W3 W4:World}{v v' ov:Value}{lo base Rb Pb B Lq n d i:Nat}{news:List Value}{ws:List (List UInt8)}{rb:Nat->Nat}{t:Fl.Tab}{r:Fl.RS}{s:Fl.Stmt}{f:Fl.Frame}{fs:List Fl.Frame}
def zfz(s:ByteArray)(k:Nat)(h:k<s.size)(hp:(s[k].toNat:Int)<97\/122<(s[k].toNat:Int)):Fl.named s.data.toList=false:=by
 unfold Fl.named;rw[yxy Fl.isLow s k h (by rw[yxz];omega)];rfl
def yo8(s:ByteArray)(h:s.data.toList.all Fl.isLow=true):Fl.named s.data.toList=(decide (0<s.size) && decide ((s.size:Int)<=6)):=by
 unfold Fl.named;rw[h]
 have e:s.data.toList.length=s.size:=by simp
 rw[e,Bool.true_and];congr 1;simp only[decide_eq_decide];omega
def yo9(s:ByteArray)(w:World)(hs:s.size<=maxLen):Cq 47 #[.string s] w λe w'=>e=.returned (.bool (Fl.named s.data.toList))/\w'=w:=by
 unfold maxLen at hs
 go_enter func47,ntmps47
 go_wp2
 go_loop [3] (λi=>∃k:Nat,k<=s.size/\i=Iq k/\(s.data.toList.take k).all Fl.isLow=true) (λi=>s.size - (intOf i).toNat)
 case atStart=>exact⟨0,Nat.zero_le _,rfl,rfl⟩
 case round=>
  obtain⟨k,hk,rfl,hall⟩:=hrel;have HA:=Zz hall;clear hall
  by_cases a0:k<s.size
  ·go_wp2
   ·go_ret;exact⟨Zm (zfz s k a0 (by omega)).symm,rfl⟩
   ·go_round
    case rel=>exact⟨k+1,by omega,by go_num,zmz _ s k a0 HA.out (by rw[yxz];omega)⟩
    case measure=>simp[intOf];omega
   go_ret;exact⟨Zm (zfz s k a0 (by omega)).symm,rfl⟩
  have HN:=yo8 s (by rw[<-zrx s k a0];exact HA.out);have HH:=Zz HN;clear HN;go_wp2
  ·go_ret;exact⟨Zm (by rw[HH.out];simp[*]),rfl⟩
  go_ret;exact⟨Zm (by rw[HH.out];simp[*]),rfl⟩
def Uo(s:ByteArray)(w:World)(hs:s.size<=maxLen):Cq 47 #[.string s] w λe w'=>e=.returned (.bool (Fl.named s.toList))/\w'=w:=by
 rw[ByteArray.toList_eq];exact yo9 s w hs
def zxy(s:ByteArray)(w:World)(hs:s.size<=maxLen):Cq 48 #[.string s] w λe w'=>e=.returned (.bool (Fl.atom s.toList))/\w'=w:=by
 go_enter func48,ntmps48
 go_wp2_with (first|(go_at_call 47;refine(Uo s _ hs).mono ?_;rintro e w' ⟨rfl,rfl⟩)|(go_at_call 83;refine(zdy s 9 _ hs (by decide)).mono ?_;rintro e w' ⟨rfl,rfl⟩))
 all_goals (go_ret;exact⟨Zm (by simp_all[Fl.atom]),rfl⟩)
def zfy(w:World):Cq 49 #[] w λe w'=>e=.returned (.slice (some (Aq w.heap.size 0)) 5 5)/\w'=w.alloc (.cells #[.string ⟨#[43]⟩,.string ⟨#[45]⟩,.string ⟨#[42]⟩,.string ⟨#[60]⟩,.string ⟨#[61,61]⟩] 9):=by
 go_enter func49,ntmps49
 go_wp2;go_ret;exact⟨rfl,rfl⟩
end Go.Proofs.YtjekbnmnjeoagaaGreatDoor
namespace Go.Proofs.YtjekbnmnjeoagaaGreatDoor
open Go.Proofs.Tryz
variable{w w0 w' W3 W4:World}{v v' ov:Value}{lo base Rb Pb B Lq n d i:Nat}{news:List Value}{ws:List (List UInt8)}{rb:Nat->Nat}{t:Fl.Tab}{r:Fl.RS}{s:Fl.Stmt}{f:Fl.Frame}{fs:List Fl.Frame}
namespace Fl
def IsLevel(l:List UInt8):Prop:=(l==[108,101,118,101,108])=true/\(l==[98,101,108,111,119])=false/\(l==[99,101,108,108])=false/\(l==[99,104,97,110,110,101,108])=false/\(l==[98,101,103,105,110])=false/\(l==[101,108,115,101])=false/\(l==[101,110,100])=false/\(l==[105,102])=false/\(l==[119,104,105,108,101])=false/\(l==[111,117,116])=false/\(l==[115,101,116])=false
def IsBelow(l:List UInt8):Prop:=(l==[108,101,118,101,108])=false/\(l==[98,101,108,111,119])=true/\(l==[99,101,108,108])=false/\(l==[99,104,97,110,110,101,108])=false/\(l==[98,101,103,105,110])=false/\(l==[101,108,115,101])=false/\(l==[101,110,100])=false/\(l==[105,102])=false/\(l==[119,104,105,108,101])=false/\(l==[111,117,116])=false/\(l==[115,101,116])=false
def IsCell(l:List UInt8):Prop:=(l==[108,101,118,101,108])=false/\(l==[98,101,108,111,119])=false/\(l==[99,101,108,108])=true/\(l==[99,104,97,110,110,101,108])=false/\(l==[98,101,103,105,110])=false/\(l==[101,108,115,101])=false/\(l==[101,110,100])=false/\(l==[105,102])=false/\(l==[119,104,105,108,101])=false/\(l==[111,117,116])=false/\(l==[115,101,116])=false
def IsChannel(l:List UInt8):Prop:=(l==[108,101,118,101,108])=false/\(l==[98,101,108,111,119])=false/\(l==[99,101,108,108])=false/\(l==[99,104,97,110,110,101,108])=true/\(l==[98,101,103,105,110])=false/\(l==[101,108,115,101])=false/\(l==[101,110,100])=false/\(l==[105,102])=false/\(l==[119,104,105,108,101])=false/\(l==[111,117,116])=false/\(l==[115,101,116])=false
def IsBegin(l:List UInt8):Prop:=(l==[108,101,118,101,108])=false/\(l==[98,101,108,111,119])=false/\(l==[99,101,108,108])=false/\(l==[99,104,97,110,110,101,108])=false/\(l==[98,101,103,105,110])=true/\(l==[101,108,115,101])=false/\(l==[101,110,100])=false/\(l==[105,102])=false/\(l==[119,104,105,108,101])=false/\(l==[111,117,116])=false/\(l==[115,101,116])=false
def IsElse(l:List UInt8):Prop:=(l==[108,101,118,101,108])=false/\(l==[98,101,108,111,119])=false/\(l==[99,101,108,108])=false/\(l==[99,104,97,110,110,101,108])=false/\(l==[98,101,103,105,110])=false/\(l==[101,108,115,101])=true/\(l==[101,110,100])=false/\(l==[105,102])=false/\(l==[119,104,105,108,101])=false/\(l==[111,117,116])=false/\(l==[115,101,116])=false
def IsEnd(l:List UInt8):Prop:=(l==[108,101,118,101,108])=false/\(l==[98,101,108,111,119])=false/\(l==[99,101,108,108])=false/\(l==[99,104,97,110,110,101,108])=false/\(l==[98,101,103,105,110])=false/\(l==[101,108,115,101])=false/\(l==[101,110,100])=true/\(l==[105,102])=false/\(l==[119,104,105,108,101])=false/\(l==[111,117,116])=false/\(l==[115,101,116])=false
def IsIf(l:List UInt8):Prop:=(l==[108,101,118,101,108])=false/\(l==[98,101,108,111,119])=false/\(l==[99,101,108,108])=false/\(l==[99,104,97,110,110,101,108])=false/\(l==[98,101,103,105,110])=false/\(l==[101,108,115,101])=false/\(l==[101,110,100])=false/\(l==[105,102])=true/\(l==[119,104,105,108,101])=false/\(l==[111,117,116])=false/\(l==[115,101,116])=false
def IsWhile(l:List UInt8):Prop:=(l==[108,101,118,101,108])=false/\(l==[98,101,108,111,119])=false/\(l==[99,101,108,108])=false/\(l==[99,104,97,110,110,101,108])=false/\(l==[98,101,103,105,110])=false/\(l==[101,108,115,101])=false/\(l==[101,110,100])=false/\(l==[105,102])=false/\(l==[119,104,105,108,101])=true/\(l==[111,117,116])=false/\(l==[115,101,116])=false
def IsOut(l:List UInt8):Prop:=(l==[108,101,118,101,108])=false/\(l==[98,101,108,111,119])=false/\(l==[99,101,108,108])=false/\(l==[99,104,97,110,110,101,108])=false/\(l==[98,101,103,105,110])=false/\(l==[101,108,115,101])=false/\(l==[101,110,100])=false/\(l==[105,102])=false/\(l==[119,104,105,108,101])=false/\(l==[111,117,116])=true/\(l==[115,101,116])=false
def IsSet(l:List UInt8):Prop:=(l==[108,101,118,101,108])=false/\(l==[98,101,108,111,119])=false/\(l==[99,101,108,108])=false/\(l==[99,104,97,110,110,101,108])=false/\(l==[98,101,103,105,110])=false/\(l==[101,108,115,101])=false/\(l==[101,110,100])=false/\(l==[105,102])=false/\(l==[119,104,105,108,101])=false/\(l==[111,117,116])=false/\(l==[115,101,116])=true
def IsNone(l:List UInt8):Prop:=(l==[108,101,118,101,108])=false/\(l==[98,101,108,111,119])=false/\(l==[99,101,108,108])=false/\(l==[99,104,97,110,110,101,108])=false/\(l==[98,101,103,105,110])=false/\(l==[101,108,115,101])=false/\(l==[101,110,100])=false/\(l==[105,102])=false/\(l==[119,104,105,108,101])=false/\(l==[111,117,116])=false/\(l==[115,101,116])=false
def word_cases(l:List UInt8):IsLevel l\/IsBelow l\/IsCell l\/IsChannel l\/IsBegin l\/IsElse l\/IsEnd l\/IsIf l\/IsWhile l\/IsOut l\/IsSet l\/IsNone l:=by
 by_cases b0:l=[108,101,118,101,108]
 ·subst b0;exact Or.inl (by unfold IsLevel;decide)
 by_cases c0:l=[98,101,108,111,119]
 ·subst c0;exact Or.inr (Or.inl (by unfold IsBelow;decide))
 by_cases f0:l=[99,101,108,108]
 ·subst f0;exact Or.inr (Or.inr (Or.inl (by unfold IsCell;decide)))
 by_cases a0:l=[99,104,97,110,110,101,108]
 ·subst a0;exact Or.inr (Or.inr (Or.inr (Or.inl (by unfold IsChannel;decide))))
 by_cases d0:l=[98,101,103,105,110]
 ·subst d0;exact Or.inr (Or.inr (Or.inr (Or.inr (Or.inl (by unfold IsBegin;decide)))))
 by_cases g0:l=[101,108,115,101]
 ·subst g0;exact Or.inr (Or.inr (Or.inr (Or.inr (Or.inr (Or.inl (by unfold IsElse;decide))))))
 by_cases h0:l=[101,110,100]
 ·subst h0;exact Or.inr (Or.inr (Or.inr (Or.inr (Or.inr (Or.inr (Or.inl (by unfold IsEnd;decide)))))))
 by_cases k0:l=[105,102]
 ·subst k0;exact Or.inr (Or.inr (Or.inr (Or.inr (Or.inr (Or.inr (Or.inr (Or.inl (by unfold IsIf;decide))))))))
 by_cases e0:l=[119,104,105,108,101]
 ·subst e0;exact Or.inr (Or.inr (Or.inr (Or.inr (Or.inr (Or.inr (Or.inr (Or.inr (Or.inl (by unfold IsWhile;decide)))))))))
 by_cases i0:l=[111,117,116]
 ·subst i0;exact Or.inr (Or.inr (Or.inr (Or.inr (Or.inr (Or.inr (Or.inr (Or.inr (Or.inr (Or.inl (by unfold IsOut;decide))))))))))
 by_cases j0:l=[115,101,116]
 ·subst j0;exact Or.inr (Or.inr (Or.inr (Or.inr (Or.inr (Or.inr (Or.inr (Or.inr (Or.inr (Or.inr (Or.inl (by unfold IsSet;decide)))))))))))
 exact Or.inr (Or.inr (Or.inr (Or.inr (Or.inr (Or.inr (Or.inr (Or.inr (Or.inr (Or.inr (Or.inr (by unfold IsNone;simp[b0,c0,f0,a0,d0,g0,h0,k0,e0,i0,j0])))))))))))
end Fl
open Go.RowKit
def line_1(b off cap:Nat)(x0:ByteArray)(w:World)(h0:x0.size<=maxLen)(c0:w.cell? (Aq b off)=some (.string x0)):
  Cq 24 #[.slice (some (Aq b off)) 1 cap] w λe w'=>e=.returned (.bool (Fl.line [x0.toList]))/\w'=w:=by
 rcases Fl.word_cases x0.toList with h|h|h|h|h|h|h|h|h|h|h|h
 all_goals obtain⟨k1,k2,k3,k4,k5,k6,k7,k8,k9,k10,k11⟩:=h
 all_goals
  go_enter func24,ntmps24
  go_wp2
  all_goals (go_ret;exact⟨Zm (by simp_all[Fl.line,Fl.wLevel,Fl.wBelow,Fl.wCell,Fl.wChannel,Fl.wBegin,Fl.wElse,Fl.wEnd,Fl.wIf,Fl.wWhile,Fl.wOut,Fl.wSet]),rfl⟩)
def line_2(b off cap:Nat)(x0 x1:ByteArray)(w:World)(h0:x0.size<=maxLen)(c0:w.cell? (Aq b off)=some (.string x0))(h1:x1.size<=maxLen)(c1:w.cell? (Aq b (off+1))=some (.string x1)):
  Cq 24 #[.slice (some (Aq b off)) 2 cap] w λe w'=>e=.returned (.bool (Fl.line [x0.toList,x1.toList]))/\w'=w:=by
 rcases Fl.word_cases x0.toList with h|h|h|h|h|h|h|h|h|h|h|h
 all_goals obtain⟨k1,k2,k3,k4,k5,k6,k7,k8,k9,k10,k11⟩:=h
 all_goals
  go_enter func24,ntmps24
  go_wp2_with (first|(go_at_call_of 47 (Value.string x1);refine(Uo x1 _ h1).mono ?_;rintro e w' ⟨rfl,rfl⟩)|(go_at_call 48;refine(zxy x1 _ h1).mono ?_;rintro e w' ⟨rfl,rfl⟩))
  all_goals (go_ret;exact⟨Zm (by simp_all[Fl.line,Fl.wLevel,Fl.wBelow,Fl.wCell,Fl.wChannel,Fl.wBegin,Fl.wElse,Fl.wEnd,Fl.wIf,Fl.wWhile,Fl.wOut,Fl.wSet]),rfl⟩)
def line_3(b off cap:Nat)(x0 x1 x2:ByteArray)(w:World)(h0:x0.size<=maxLen)(c0:w.cell? (Aq b off)=some (.string x0))(h1:x1.size<=maxLen)(c1:w.cell? (Aq b (off+1))=some (.string x1))(h2:x2.size<=maxLen)(c2:w.cell? (Aq b (off+2))=some (.string x2)):
  Cq 24 #[.slice (some (Aq b off)) 3 cap] w λe w'=>e=.returned (.bool (Fl.line [x0.toList,x1.toList,x2.toList]))/\w'=w:=by
 rcases Fl.word_cases x0.toList with h|h|h|h|h|h|h|h|h|h|h|h
 all_goals obtain⟨k1,k2,k3,k4,k5,k6,k7,k8,k9,k10,k11⟩:=h
 all_goals
  go_enter func24,ntmps24
  go_wp2_with (first|(go_at_call_of 47 (Value.string x1);refine(Uo x1 _ h1).mono ?_;rintro e w' ⟨rfl,rfl⟩)|(go_at_call_of 47 (Value.string x2);refine(Uo x2 _ h2).mono ?_;rintro e w' ⟨rfl,rfl⟩)|(go_at_call 48;refine(zxy x2 _ h2).mono ?_;rintro e w' ⟨rfl,rfl⟩))
  all_goals (go_ret;exact⟨Zm (by simp_all[Fl.line,Fl.wLevel,Fl.wBelow,Fl.wCell,Fl.wChannel,Fl.wBegin,Fl.wElse,Fl.wEnd,Fl.wIf,Fl.wWhile,Fl.wOut,Fl.wSet]),rfl⟩)
def line_4(b off cap:Nat)(x0 x1 x2 x3:ByteArray)(w:World)(h0:x0.size<=maxLen)(c0:w.cell? (Aq b off)=some (.string x0))(h1:x1.size<=maxLen)(c1:w.cell? (Aq b (off+1))=some (.string x1))(h2:x2.size<=maxLen)(c2:w.cell? (Aq b (off+2))=some (.string x2))(h3:x3.size<=maxLen)(c3:w.cell? (Aq b (off+3))=some (.string x3)):
  Cq 24 #[.slice (some (Aq b off)) 4 cap] w λe w'=>e=.returned (.bool (Fl.line [x0.toList,x1.toList,x2.toList,x3.toList]))/\w'=w:=by
 rcases Fl.word_cases x0.toList with h|h|h|h|h|h|h|h|h|h|h|h
 all_goals obtain⟨k1,k2,k3,k4,k5,k6,k7,k8,k9,k10,k11⟩:=h
 all_goals
  go_enter func24,ntmps24
  go_wp2_with (first|(go_at_call_of 47 (Value.string x1);refine(Uo x1 _ h1).mono ?_;rintro e w' ⟨rfl,rfl⟩)|(go_at_call_of 47 (Value.string x2);refine(Uo x2 _ h2).mono ?_;rintro e w' ⟨rfl,rfl⟩)|(go_at_call 48;refine(zxy x2 _ h2).mono ?_;rintro e w' ⟨rfl,rfl⟩))
  all_goals (go_ret;exact⟨Zm (by simp_all[Fl.line,Fl.wLevel,Fl.wBelow,Fl.wCell,Fl.wChannel,Fl.wBegin,Fl.wElse,Fl.wEnd,Fl.wIf,Fl.wWhile,Fl.wOut,Fl.wSet]),rfl⟩)
def signList:List ByteArray:=[⟨#[43]⟩,⟨#[45]⟩,⟨#[42]⟩,⟨#[60]⟩,⟨#[61,61]⟩]
def za8:bl signList=Fl.signs:=by
 simp[bl,signList,Fl.signs,ByteArray.toList_eq]
def za9(w:World):zkz (w.alloc (.cells #[.string ⟨#[43]⟩,.string ⟨#[45]⟩,.string ⟨#[42]⟩,.string ⟨#[60]⟩,.string ⟨#[61,61]⟩] 9)) (.slice (some (Aq w.heap.size 0)) 5 5) signList:=by
 refine⟨_,_,rfl,by decide,?_,λ_=>⟨_,_,rfl,?_⟩⟩
 ·intro s hs;simp[signList]at hs;rcases hs with rfl|rfl|rfl|rfl|rfl<;>decide
 intro i hi;have:i<5:=hi
 match i,this with
 |0,_=>simp[signList]
 |1,_=>simp[signList]
 |2,_=>simp[signList]
 |3,_=>simp[signList]
 |4,_=>simp[signList]
def line_5(b off cap:Nat)(x0 x1 x2 x3 x4:ByteArray)(w:World)(h1:x1.size<=maxLen)(h2:x2.size<=maxLen)(h4:x4.size<=maxLen)
  (c0:w.cell? (Aq b off)=some (.string x0)) (c1:w.cell? (Aq b (off+1))=some (.string x1)) (c2:w.cell? (Aq b (off+2))=some (.string x2))
  (c3:∀o,(w.alloc o).cell? (Aq b (off+3))=some (.string x3)) (c4:∀o,(w.alloc o).cell? (Aq b (off+4))=some (.string x4)):
  Cq 24 #[.slice (some (Aq b off)) 5 cap] w λe w'=>e=.returned (.bool (Fl.line [x0.toList,x1.toList,x2.toList,x3.toList,x4.toList]))/\Bq w w':=by
 rcases Fl.word_cases x0.toList with h|h|h|h|h|h|h|h|h|h|h|h
 all_goals obtain⟨k1,k2,k3,k4,k5,k6,k7,k8,k9,k10,k11⟩:=h
 case inr.inr.inr.inr.inr.inr.inr.inr.inr.inr.inl=>
  go_enter func24,ntmps24
  go_wp2_with (first|(go_at_call_of 47 (Value.string x1);refine(Uo x1 _ h1).mono ?_;rintro e w' ⟨rfl,rfl⟩)|(go_at_call_of 47 (Value.string x2);refine(Uo x2 _ h2).mono ?_;rintro e w' ⟨rfl,rfl⟩)|(go_at_call_of 48 (Value.string x2);refine(zxy x2 _ h2).mono ?_;rintro e w' ⟨rfl,rfl⟩)|(go_at_call_of 48 (Value.string x4);refine(zxy x4 _ h4).mono ?_;rintro e w' ⟨rfl,rfl⟩)|(go_at_call 49;refine(zfy _).mono ?_;rintro e w' ⟨rfl,rfl⟩)|(go_at_call 50;refine(zpy _ signList x3 _ (za9 _)).mono ?_;rintro e w' ⟨rfl,rfl⟩))
  all_goals (go_ret;exact⟨Zm (by simp_all[Fl.line,za8,Fl.wLevel,Fl.wBelow,Fl.wCell,Fl.wChannel,Fl.wBegin,Fl.wElse,Fl.wEnd,Fl.wIf,Fl.wWhile,Fl.wOut,Fl.wSet]<;>omega),bA⟩)
 all_goals
  go_enter func24,ntmps24
  go_wp2_with (first|(go_at_call_of 47 (Value.string x1);refine(Uo x1 _ h1).mono ?_;rintro e w' ⟨rfl,rfl⟩)|(go_at_call_of 47 (Value.string x2);refine(Uo x2 _ h2).mono ?_;rintro e w' ⟨rfl,rfl⟩)|(go_at_call_of 48 (Value.string x2);refine(zxy x2 _ h2).mono ?_;rintro e w' ⟨rfl,rfl⟩))
  all_goals (go_ret;exact⟨Zm (by simp_all[Fl.line,Fl.wLevel,Fl.wBelow,Fl.wCell,Fl.wChannel,Fl.wBegin,Fl.wElse,Fl.wEnd,Fl.wIf,Fl.wWhile,Fl.wOut,Fl.wSet]),Below.refl _ _⟩)
def line_6(b off n cap:Nat)(x0 x1 x2:ByteArray)(w:World)(hn:6<=n)(hm:n<=maxLen)(h1:x1.size<=maxLen)(h2:x2.size<=maxLen)
  (c0:w.cell? (Aq b off)=some (.string x0)) (c1:w.cell? (Aq b (off+1))=some (.string x1)) (c2:w.cell? (Aq b (off+2))=some (.string x2)):
  Cq 24 #[.slice (some (Aq b off)) n cap] w λe w'=>e=.returned (.bool false)/\w'=w:=by
 unfold maxLen at hm;have n1:((n:Int)==1)=false:=beq_eq_false_iff_ne.2 (by omega);have n2:((n:Int)==2)=false:=beq_eq_false_iff_ne.2 (by omega);have n3:((n:Int)==3)=false:=beq_eq_false_iff_ne.2 (by omega)
 have n5:((n:Int) !=5)=true:=by rw[bne_iff_ne];omega
 rcases Fl.word_cases x0.toList with h|h|h|h|h|h|h|h|h|h|h|h
 all_goals obtain⟨k1,k2,k3,k4,k5,k6,k7,k8,k9,k10,k11⟩:=h
 all_goals
  go_enter func24,ntmps24
  go_wp2_with (first|(go_at_call_of 47 (Value.string x1);refine(Uo x1 _ h1).mono ?_;rintro e w' ⟨rfl,rfl⟩)|(go_at_call_of 47 (Value.string x2);refine(Uo x2 _ h2).mono ?_;rintro e w' ⟨rfl,rfl⟩)|(go_at_call_of 48 (Value.string x2);refine(zxy x2 _ h2).mono ?_;rintro e w' ⟨rfl,rfl⟩))
  all_goals (go_ret;exact⟨rfl,rfl⟩)
def zaz{a:Addr}(h:w.cell? a=some v):a.block<w.heap.size:=Qe w a h
def yly(v:Value)(ss:List ByteArray)(w:World)(hv:zkz w v ss)(b0:ss≠[]):Cq 24 #[v] w λe w'=>e=.returned (.bool (Fl.line (bl ss)))/\Bq w w':=by
 obtain⟨ao,cap,rfl,hl,hsz,hc⟩:=hv;obtain⟨b,off,rfl,a0⟩:=hc b0
 match ss,b0 with
 |[x0],_=>
  refine(line_1 b off cap x0 w (hsz x0 (by simp)) (by simpa using a0 0 (by simp))).mono ?_;rintro e w' ⟨rfl,rfl⟩;exact⟨rfl,Below.refl _ _⟩
 |[x0,x1],_=>
  refine(line_2 b off cap x0 x1 w (hsz x0 (by simp)) (by simpa using a0 0 (by simp)) (hsz x1 (by simp)) (by simpa using a0 1 (by simp))).mono ?_;rintro e w' ⟨rfl,rfl⟩;exact⟨rfl,Below.refl _ _⟩
 |[x0,x1,x2],_=>
  refine(line_3 b off cap x0 x1 x2 w (hsz x0 (by simp)) (by simpa using a0 0 (by simp)) (hsz x1 (by simp)) (by simpa using a0 1 (by simp)) (hsz x2 (by simp)) (by simpa using a0 2 (by simp))).mono ?_;rintro e w' ⟨rfl,rfl⟩;exact⟨rfl,Below.refl _ _⟩
 |[x0,x1,x2,x3],_=>
  refine(line_4 b off cap x0 x1 x2 x3 w (hsz x0 (by simp)) (by simpa using a0 0 (by simp)) (hsz x1 (by simp)) (by simpa using a0 1 (by simp)) (hsz x2 (by simp)) (by simpa using a0 2 (by simp)) (hsz x3 (by simp)) (by simpa using a0 3 (by simp))).mono ?_;rintro e w' ⟨rfl,rfl⟩;exact⟨rfl,Below.refl _ _⟩
 |[x0,x1,x2,x3,x4],_=>
  have d3:w.cell? (Aq b (off+3))=some (.string x3):=(by simpa using a0 3 (by simp));have d4:w.cell? (Aq b (off+4))=some (.string x4):=(by simpa using a0 4 (by simp));exact line_5 b off cap x0 x1 x2 x3 x4 w (hsz x1 (by simp)) (hsz x2 (by simp)) (hsz x4 (by simp)) (by simpa using a0 0 (by simp)) (by simpa using a0 1 (by simp)) (by simpa using a0 2 (by simp))
   (λo=>by rw[Qf w o _ (zaz d3)];exact d3) (λo=>by rw[Qf w o _ (zaz d4)];exact d4)
 |x0::x1::x2::x3::x4::x5::r,_=>
  refine(line_6 b off _ cap x0 x1 x2 w (by simp) hl (hsz x1 (by simp)) (hsz x2 (by simp)) (by simpa using a0 0 (by simp)) (by simpa using a0 1 (by simp)) (by simpa using a0 2 (by simp))).mono ?_;rintro e w' ⟨rfl,rfl⟩;exact⟨by simp[bl,Fl.line],Below.refl _ _⟩
def Zt(j:Nat):Prop:=1<=j/\j<=13/\j≠7/\j≠9/\j≠11
def rTy(j:Nat):TypeId:=if j<=4 then 9 else if j=8 then 5 else if j=10 then 119 else 3
def rSz(j:Nat):Nat:=if j=10 then 10 else 1
structure Yq where
 n:Nat->Nat
 xs:Nat->List Value
 v:Nat->Value
 begun:Bool
 stmts:Nat
 N:Nat
 leq:Value
 loc:Nat
 body:Value
 keep:Nat->Prop
 wk:World
def rrC(Pb:Nat)(m:Yq)(j:Nat):Value:=if j=0 then ptr Pb else if j=7 then .bool m.begun else if j=9 then Iq m.stmts else m.v j
def rpC(m:Yq)(j:Nat):Value:=if j=0 then Iq m.N else if j=1 then m.leq else if j=4 then Iq m.loc else if j=5 then m.body else m.v (10+j)
structure Zv(lo base Rb Pb:Nat)(w0 w:World)(m:Yq):Prop where
 bel:Below lo w0 w
 hba:lo<=Rb/\lo<=Pb/\Rb<base/\Pb<base/\Rb≠Pb/\base<=w.heap.size/\lo<=base
 cR:Ze w Rb 11 (rrC Pb m)
 cP:Ze w Pb 6 (rpC m)
 own:∀j,Zt j->w.ownsRow base (rTy j) (rSz j) (m.v j) (m.n j) (m.xs j)
 dis:∀i j b,Zt i->Zt j->i≠j->(m.v i).ownBlock=some b->(m.v j).ownBlock≠some b
 kp:∀b,m.keep b->base<=b/\b<w.heap.size/\w.heap[b]?=m.wk.heap[b]?/\∀j,Zt j->(m.v j).ownBlock≠some b
def Yq.app(m:Yq)(j:Nat)(v:Value)(news:List Value):Yq:={m with n:=λi=>if i=j then m.n j+1 else m.n i,xs:=λi=>if i=j then m.xs j++news else m.xs i,v:=λi=>if i=j then v else m.v i}
section
variable{m:Yq}
def Zv.below(h:Zv lo base Rb Pb w0 w m)(hb:Bq w w'):Zv lo base Rb Pb w0 w' m:=by
 obtain⟨b1,b2,b3,b4,b5,b6,b7⟩:=h.hba;have hz:=hb.size;have q:∀b,b<w.heap.size->w'.heap[b]?=w.heap[b]?:=λb a0=>hb.block b a0;exact{bel:=h.bel.trans (hb.mono (by omega)),hba:=⟨b1,b2,b3,b4,b5,by omega,b7⟩,cR:=h.cR.block (q _ (by omega)),cP:=h.cP.block (q _ (by omega)),own:=λj hj=>Yy (h.own j hj) (λb hb=>q b ((h.own j hj).lt b hb).2),dis:=h.dis,kp:=λb hb=>have k:=h.kp b hb;⟨k.1,Qj k.2.1 hz,(q b k.2.1).trans k.2.2.1,k.2.2.2⟩}
def Zv.drew(h:Zv lo base Rb Pb w0 w m):Zv lo base Rb Pb w0 w.drew m:=h.below dA
def Zv.shape(h:Zv lo base Rb Pb w0 w m)(j:Nat)(hj:Zt j):∃a c,m.v j=.slice a (m.n j) c:=by
 rcases(h.own j hj).2 with⟨h1,h2⟩|⟨g,cp,cur,h1,_⟩
 ·exact⟨none,0,by rw[h1,h2]⟩
 exact⟨_,cp,h1⟩
def Zv.grow(h:Zv lo base Rb Pb w0 w m)(j:Nat)(hj:Zt j)(g0:Bq w W3)(h0:W4.ownsRow base (rTy j) (rSz j) v' (m.n j+1) (m.xs j++news))(b0:W3.grownBy W4 (m.v j).ownBlock)(f0:v'.ownBlock=(m.v j).ownBlock\/v'.ownBlock=some W3.heap.size):
  Below lo w0 W4/\base<=W4.heap.size/\(∀b,b<base->W4.heap[b]?=W3.heap[b]?)/\(∀i,Zt i->W4.ownsRow base (rTy i) (rSz i) ((m.app j v' news).v i) ((m.app j v' news).n i) ((m.app j v' news).xs i))/\
  (∀i k b,Zt i->Zt k->i≠k->((m.app j v' news).v i).ownBlock=some b->((m.app j v' news).v k).ownBlock≠some b)/\
  (∀b,m.keep b->base<=b/\b<W4.heap.size/\W4.heap[b]?=m.wk.heap[b]?/\∀i,Zt i->((m.app j v' news).v i).ownBlock≠some b):=by
 have c0:=h.below g0;obtain⟨b1,b2,b3,b4,b5,b6,b7⟩:=c0.hba;have e0:=λi hi=>(h.own i hi).lt;have i0:=b0.size;have j0:=g0.size;refine⟨c0.bel.grown b0 (by omega) (λk hk=>by have:=(e0 j hj k hk).1;omega),by omega,λb hb=>b0.block b (by omega) (λhh=>by have:=(e0 j hj b hh.symm).1;omega),λi hi=>?_,λi k b hi hk hne hbi hbk=>?_,λb hb=>?_⟩
 ·show W4.ownsRow base (rTy i) (rSz i) (if i=j then v' else m.v i) (if i=j then m.n j+1 else m.n i) (if i=j then m.xs j++news else m.xs i)
  by_cases a0:i=j
  ·subst a0;simp only[if_true];exact h0
  simp only[a0,if_false];refine Yy (c0.own i hi) (λb hb=>b0.block b ((c0.own i hi).lt b hb).2 (λhh=>h.dis i j b hi hj a0 hb hh.symm))
 ·have hv:∀t,(m.app j v' news).v t=if t=j then v' else m.v t:=λ_=>rfl
  rw[hv]at hbi hbk
  by_cases a0:i=j
  ·have d0:k≠j:=λhh=>hne (a0.trans hh.symm)
   rw[if_pos a0]at hbi;rw[if_neg d0]at hbk;rcases f0 with h1|h1
   ·rw[h1]at hbi;exact h.dis j k b hj hk (Ne.symm d0) hbi hbk
   rw[h1]at hbi;simp only[Option.some.injEq]at hbi;have:=(e0 k hk b hbk).2;omega
  rw[if_neg a0]at hbi
  by_cases d0:k=j
  ·rw[if_pos d0]at hbk
   rcases f0 with h1|h1
   ·rw[h1]at hbk;exact h.dis i j b hi hj a0 hbi hbk
   rw[h1]at hbk;simp only[Option.some.injEq]at hbk;have:=(e0 i hi b hbi).2;omega
  rw[if_neg d0]at hbk;exact h.dis i k b hi hk hne hbi hbk
 obtain⟨k1,k2,k3,k4⟩:=c0.kp b hb;refine⟨k1,by omega,(b0.block b k2 (λhh=>k4 j hj hh.symm)).trans k3,λi hi=>?_⟩;show (if i=j then v' else m.v i).ownBlock≠some b
 by_cases a0:i=j
 ·rw[if_pos a0]
  rcases f0 with h1|h1
  ·rw[h1];exact k4 j hj
  rw[h1];intro hh;have:=(h.kp b hb).2.1;simp only[Option.some.injEq]at hh;omega
 rw[if_neg a0];exact k4 i hi
def Zv.appR(h:Zv lo base Rb Pb w0 w m)(j:Nat)(hj:Zt j)(d0:j<=10)(c0:Bq w W3)(e0:W4.ownsRow base (rTy j) (rSz j) v' (m.n j+1) (m.xs j++news))(f0:W3.grownBy W4 (m.v j).ownBlock)(g0:v'.ownBlock=(m.v j).ownBlock\/v'.ownBlock=some W3.heap.size):
  Zv lo base Rb Pb w0 (W4.setCell (Aq Rb j) v') (m.app j v' news):=by
 have a0:=h.below c0;obtain⟨b1,b2,b3,b4,b5,b6,b7⟩:=a0.hba;obtain⟨g1,g2,g3,g4,g5,g6⟩:=h.grow j hj c0 e0 f0 g0;refine{bel:=g1.setCell (by show lo<=Rb;omega) _,hba:=⟨b1,b2,b3,b4,b5,by rw[Zy];omega,b7⟩,cR:= ?_,cP:= ?_,own:=λi hi=>Yy (g4 i hi) (λb hb=>Zx _ _ _ _ _ (by have:=((g4 i hi).lt b hb).1;omega)),dis:=g5,kp:=λb hb=>have k:=g6 b hb;⟨k.1,by rw[Zy];exact k.2.1,(Zx _ _ _ _ _ (by have:=k.1;omega)).trans k.2.2.1,k.2.2.2⟩}
 ·refine((a0.cR.block (g3 _ b3)).set (j:=j) (by have:=hj.2.1;omega) v').congr (λi hi=>?_)
  obtain⟨h1,h2,h3,h4,h5⟩:=hj
  by_cases b0:i=j
  ·subst b0
   rw[if_pos rfl];show v'=rrC Pb (m.app i v' news) i;unfold rrC;rw[if_neg (by omega),if_neg (by omega),if_neg (by omega)];show v'=if i=i then v' else m.v i;rw[if_pos rfl]
  rw[if_neg b0];show rrC Pb m i=rrC Pb (m.app j v' news) i;unfold rrC
  by_cases i0:i=0
  ·rw[if_pos i0,if_pos i0]
  by_cases i7:i=7
  ·rw[if_neg i0,if_neg i0,if_pos i7,if_pos i7];rfl
  by_cases i9:i=9
  ·rw[if_neg i0,if_neg i0,if_neg i7,if_neg i7,if_pos i9,if_pos i9];rfl
  rw[if_neg i0,if_neg i0,if_neg i7,if_neg i7,if_neg i9,if_neg i9];show m.v i=if i=j then v' else m.v i;rw[if_neg b0]
 refine((a0.cP.block (g3 _ b4)).block (Zx _ _ _ _ _ (Ne.symm b5))).congr (λi hi=>?_);show rpC m i=rpC (m.app j v' news) i;unfold rpC;show (if i=0 then _ else if i=1 then m.leq else if i=4 then _ else if i=5 then m.body else m.v (10+i))=(if i=0 then _ else if i=1 then m.leq else if i=4 then _ else if i=5 then m.body else(if 10+i=j then v' else m.v (10+i)))
 by_cases i0:i=0
 ·rw[if_pos i0,if_pos i0];rfl
 rw[if_neg (show ¬10+i=j by omega)];rfl
def Zv.appP(h:Zv lo base Rb Pb w0 w m)(j:Nat)(hj:Zt j)(a0:j=12\/j=13)(c0:Bq w W3)(d0:W4.ownsRow base (rTy j) (rSz j) v' (m.n j+1) (m.xs j++news))(e0:W3.grownBy W4 (m.v j).ownBlock)(f0:v'.ownBlock=(m.v j).ownBlock\/v'.ownBlock=some W3.heap.size):
  Zv lo base Rb Pb w0 (W4.setCell (Aq Pb (j - 10)) v') (m.app j v' news):=by
 have b0:=h.below c0;obtain⟨b1,b2,b3,b4,b5,b6,b7⟩:=b0.hba;obtain⟨g1,g2,g3,g4,g5,g6⟩:=h.grow j hj c0 d0 e0 f0;refine{bel:=g1.setCell (by show lo<=Pb;omega) _,hba:=⟨b1,b2,b3,b4,b5,by rw[Zy];omega,b7⟩,cR:= ?_,cP:= ?_,own:=λi hi=>Yy (g4 i hi) (λb hb=>Zx _ _ _ _ _ (by have:=((g4 i hi).lt b hb).1;omega)),dis:=g5,kp:=λb hb=>have k:=g6 b hb;⟨k.1,by rw[Zy];exact k.2.1,(Zx _ _ _ _ _ (by have:=k.1;omega)).trans k.2.2.1,k.2.2.2⟩}
 ·refine((b0.cR.block (g3 _ b3)).block (Zx _ _ _ _ _ b5)).congr (λi hi=>?_)
  show rrC Pb m i=rrC Pb (m.app j v' news) i;unfold rrC;show (if i=0 then ptr Pb else if i=7 then .bool m.begun else if i=9 then Iq m.stmts else m.v i)=(if i=0 then ptr Pb else if i=7 then .bool m.begun else if i=9 then Iq m.stmts else(if i=j then v' else m.v i));rw[if_neg (show ¬i=j by omega)]
 refine((b0.cP.block (g3 _ b4)).set (j:=j - 10) (by omega) v').congr (λi hi=>?_);show (if i=j - 10 then v' else rpC m i)=rpC (m.app j v' news) i;rcases a0 with rfl|rfl
 ·rcases(show i=0\/i=1\/i=2\/i=3\/i=4\/i=5 by omega) with rfl|rfl|rfl|rfl|rfl|rfl<;>rfl
 rcases(show i=0\/i=1\/i=2\/i=3\/i=4\/i=5 by omega) with rfl|rfl|rfl|rfl|rfl|rfl<;>rfl
end
def Yt(l:List UInt8):(⟨l.toArray⟩:ByteArray).toList=l:=by rw[ByteArray.toList_eq]
def bl_mk(ws:List (List UInt8)):bl (ws.map λl=>(⟨l.toArray⟩:ByteArray))=ws:=by
 unfold bl;rw[List.map_map]
 conv=>rhs;rw[<-List.map_id ws]
 apply List.map_congr_left
 intro l _;exact Yt l
def Zh.strs(h:Zh B w v ws):zkz w v (ws.map λl=>(⟨l.toArray⟩:ByteArray)):=by
 obtain⟨ao,cap,h1,h2,h3,h4,h5,h6⟩:=h;refine⟨ao,cap,by rw[List.length_map];exact h1,by rw[List.length_map];omega,λs hs=>?_,λhne=>?_⟩
 ·simp only[List.mem_map]at hs
  obtain⟨l,hl,rfl⟩:=hs;have:=h5 l hl;show l.toArray.size<=maxLen;simp[maxLen];omega
 obtain⟨b,off,e,hb,hc⟩:=h6 (by intro hh;apply hne;rw[hh];rfl);refine⟨b,off,e,λi hi=>?_⟩;rw[List.length_map]at hi;rw[hc i hi];simp[strV,Qa,hi]
def Yi(h:Zh B w v ws)(x:List UInt8):Cq 50 #[v,.string ⟨x.toArray⟩] w λe w'=>e=.returned (Iq (Fl.place ws x))/\w'=w:=by
 have:=zpy v _ (⟨x.toArray⟩:ByteArray) w h.strs;rw[bl_mk,Yt]at this;exact this
def zay(x:List UInt8)(w:World)(hx:x.length<=100000):Cq 83 #[.string ⟨x.toArray⟩,Iq 9] w λe w'=>e=.returned (.tuple #[Iq (Fl.number x 9).1,.bool (Fl.number x 9).2])/\w'=w:=by
 have:=zdy (⟨x.toArray⟩:ByteArray) 9 w (by show x.toArray.size<=maxLen;simp[maxLen];omega) (by omega);rw[Yt]at this;exact this
def Xh(s:Fl.Stmt)(bv ov:Value):List Value:=[Iq s.kind,Iq s.x,Iq s.line,Iq s.e.op,.bool s.e.a.var,Iq s.e.a.v,.bool s.e.b.var,Iq s.e.b.v,bv,ov]
def Zf:Nat->(Nat->Prop)->World->Value->List Fl.Stmt->Prop
 |0,_,_,v,l=>l=[]/\v=Zq
 |d+1,S,w,v,l=>∃ao cap,v=.slice ao l.length cap/\l.length<=cap/\cap<=maxLen/\l.length<=16/\
   (l≠[]->∃b,ao=some (Aq b 0)/\S b/\∀i,i<l.length->∃bv ov,(∀j,j<10->w.cell? (Aq b (i*10+j))=some ((Xh (l.getD i noS) bv ov).getD j undef))/\Zf d S w bv (l.getD i noS).body/\Zf d S w ov (l.getD i noS).other)
def Zf.kept{S S':Nat->Prop}{w w':World}(hS:∀b,S b->S' b)(hw:∀b,S b->w'.heap[b]?=w.heap[b]?):∀(d:Nat) (v:Value) (l:List Fl.Stmt),Zf d S w v l->Zf d S' w' v l
 |0,_,_,h=>h
 |d+1,v,l,h=>by
  obtain⟨ao,cap,h1,h2,h3,h4,h5⟩:=h;refine⟨ao,cap,h1,h2,h3,h4,λa0=>?_⟩;obtain⟨b,e,hb,hc⟩:=h5 a0;refine⟨b,e,hS b hb,λi hi=>?_⟩;obtain⟨bv,ov,g1,g2,g3⟩:=hc i hi;exact⟨bv,ov,λj hj=>(Qc (a:=(Aq b (i*10+j))) (hw b hb)).trans (g1 j hj),Zf.kept hS hw d bv _ g2,Zf.kept hS hw d ov _ g3⟩
def Zf.slice{d:Nat}{S:Nat->Prop}{w:World}{v:Value}{l:List Fl.Stmt}(h:Zf d S w v l):∃a n c,v=.slice a n c:=by
 cases d with
 |zero=>exact⟨_,_,_,h.2⟩
 |succ d=>obtain⟨ao,c,h1,-⟩:=h;exact⟨_,_,_,h1⟩
def exV(x:Fl.Expr):Value:=.agg #[Iq x.op,.bool x.a.var,Iq x.a.v,.bool x.b.var,Iq x.b.v]
structure Ym(base:Nat)(w:World)(Lq:Nat)(rb:Nat->Nat)(n:Nat)(t:Fl.Tab):Prop where
 c:∀i,i<n->w.cell? (Aq Lq i)=some (.slice (some (Aq (rb i) 0)) n n)
 r:∀i j,i<n->j<n->w.cell? (Aq (rb i) j)=some (.bool (t i j))
 z:∀i j,i<n->w.frozen? (Aq (rb i) j)=false
 inj:∀i j,i<n->j<n->i≠j->rb i≠rb j
 ge:base<=Lq/\∀i,i<n->base<=rb i/\rb i≠Lq
def Ym.lt(h:Ym base w Lq rb n t)(hn:0<n):Lq<w.heap.size/\∀i,i<n->rb i<w.heap.size:=
 ⟨Qe w _ (h.c 0 hn),λi hi=>Qe w _ (h.r i 0 hi hn)⟩
def Ym.kept(h:Ym base w Lq rb n t)(hk:∀b,base<=b->b<w.heap.size->w'.heap[b]?=w.heap[b]?):Ym base w' Lq rb n t:=
 ⟨λi hi=>(Qc (a:=(Aq Lq i)) (hk _ h.ge.1 (h.lt (by omega)).1)).trans (h.c i hi),λi j hi hj=>(Qc (a:=(Aq (rb i) j)) (hk _ (h.ge.2 i hi).1 ((h.lt (by omega)).2 i hi))).trans (h.r i j hi hj),λi j hi=>(Qd (a:=(Aq (rb i) j)) (hk _ (h.ge.2 i hi).1 ((h.lt (by omega)).2 i hi))).trans (h.z i j hi),h.inj,h.ge⟩
def Ym.moved(h:Ym base w Lq rb n t)(hL:0<n->w'.heap[Lq]?=w.heap[Lq]?)(hr:∀i,i<n->w'.heap[rb i]?=w.heap[rb i]?):Ym base w' Lq rb n t:=
 ⟨λi hi=>(Qc (a:=(Aq Lq i)) (hL (by omega))).trans (h.c i hi),λi j hi hj=>(Qc (a:=(Aq (rb i) j)) (hr i hi)).trans (h.r i j hi hj),λi j hi=>(Qd (a:=(Aq (rb i) j)) (hr i hi)).trans (h.z i j hi),h.inj,h.ge⟩
structure FlS where
 tag:Nat
 s:Fl.Stmt
def Zo(f:FlS):List Value:=
 if f.tag=0 then [Iq f.s.kind,Iq f.s.x,Iq f.s.line,Iq f.s.e.op,.bool f.s.e.a.var,Iq f.s.e.a.v,.bool f.s.e.b.var,Iq f.s.e.b.v,Zq,Zq]
 else [Iq (if f.tag=1 then -1 else -2),Iq 0,Iq 0,Iq 0,.bool false,Iq 0,.bool false,Iq 0,Zq,Zq]
def Ue(l:List FlS):List Value:=l.flatMap Zo
def Jm(f:Fl.Frame):Nat:=if f.kind=6 then 119 else if f.had then 101 else 105
def Xg(l:List Fl.Frame):List Value:=(l.map λf=>Value.int .u8 (Jm f:Nat)).reverse
def zi5(m:Yq)(n:Nat)(t:Fl.Tab):Prop:=m.N=n/\∃Lq rb,m.leq=.slice (some (Aq Lq 0)) n n/\Ym 0 m.wk Lq rb n t/\(0<n->m.keep Lq)/\∀i,i<n->m.keep (rb i)
structure Zj(r:Fl.RS)(fl:List FlS)(t:Nat)(m:Yq):Prop where
 r1:m.n 1=r.levels.length/\m.xs 1=r.levels.map strV
 r2:m.n 2=r.cells.length/\m.xs 2=r.cells.map strV
 r3:m.n 3=r.chans.length/\m.xs 3=r.chans.map strV
 r4:m.n 4=r.locals.length/\m.xs 4=r.locals.map strV
 r5:m.n 5=r.low.length/\m.xs 5=Yn r.low
 r6:m.n 6=r.high.length/\m.xs 6=Yn r.high
 r8:m.n 8=r.fr.length/\m.xs 8=Xg r.fr
 r10:m.n 10=fl.length/\m.xs 10=Ue fl
 r12:m.n 12=r.cellLv.length/\m.xs 12=Yn r.cellLv
 r13:m.n 13=r.chanLv.length/\m.xs 13=Yn r.chanLv
 bg:m.begun=r.begun
 st:m.stmts=r.stmts
 nm:∀x∈r.levels++(r.cells++(r.chans++r.locals)),x.length<=100000
 lv:r.levels.length<=6
 ce:r.cells.length<=6
 ch:r.chans.length<=3
 lo:r.locals.length<=4
 sm:r.stmts<=16
 fr:r.fr.length<=3
 lw:r.low.length<=t
 ft:fl.length<=t
 pr:r.low.length=r.high.length
 bw:(∀x∈r.low,x<r.levels.length)/\(∀x∈r.high,x<r.levels.length)
 cl:r.cellLv.length=r.cells.length
 hl:r.chanLv.length=r.chans.length
 lt:r.begun=true->zi5 m r.levels.length r.tab
section
variable{m:Yq}{fl:List FlS}{t:Nat}
def Zv.words(h:Zv lo base Rb Pb w0 w m)(j:Nat)(hj:Zt j)(ws:List (List UInt8))(hr:m.n j=ws.length/\m.xs j=ws.map strV)(hz:rSz j=1)(hl:ws.length<=100000)(a0:∀x∈ws,x.length<=100000):Zh w.heap.size w (m.v j) ws:=by
 have ho:=h.own j hj;rw[hr.2,hz]at ho;exact Zh.of_own ho hl a0
def Zv.levels(h:Zv lo base Rb Pb w0 w m)(hr:Zj r fl t m):Zh w.heap.size w (m.v 1) r.levels:=h.words 1 (by unfold Zt;omega) _ hr.r1 rfl (by have:=hr.lv;omega) (λx hx=>hr.nm x (by simp[hx]))
def Zv.cells(h:Zv lo base Rb Pb w0 w m)(hr:Zj r fl t m):Zh w.heap.size w (m.v 2) r.cells:=h.words 2 (by unfold Zt;omega) _ hr.r2 rfl (by have:=hr.ce;omega) (λx hx=>hr.nm x (by simp[hx]))
def Zv.chans(h:Zv lo base Rb Pb w0 w m)(hr:Zj r fl t m):Zh w.heap.size w (m.v 3) r.chans:=h.words 3 (by unfold Zt;omega) _ hr.r3 rfl (by have:=hr.ch;omega) (λx hx=>hr.nm x (by simp[hx]))
def Zv.locals(h:Zv lo base Rb Pb w0 w m)(hr:Zj r fl t m):Zh w.heap.size w (m.v 4) r.locals:=h.words 4 (by unfold Zt;omega) _ hr.r4 rfl (by have:=hr.lo;omega) (λx hx=>hr.nm x (by simp[hx]))
def zt6(o:Option Fl.Atom)(w:World)(e:Ending)(w':World):Prop:=
 Bq w w'/\(∀a,o=some a->e=.returned (.tuple #[.agg #[.bool a.var,Iq a.v],.bool true]))/\(o=none->∃v:Int,e=.returned (.tuple #[.agg #[.bool true,Iq v],.bool false]))
def zw0(h:Zv lo base Rb Pb w0 w m)(hr:Zj r fl t m)(x:List UInt8)(hx:x.length<=100000):
  Cq 85 #[Pq Rb,.string ⟨x.toArray⟩] w (zt6 (r.atom x) w):=by
 have hba:=h.hba
 have f0:Rb<w.heap.size:=by omega
 have g0:Hid (∀W,Cq 83 #[.string ⟨x.toArray⟩,Iq 9] W λe w'=>e=.returned (.tuple #[Iq (Fl.number x 9).1,.bool (Fl.number x 9).2])/\w'=W):=λW=>zay x W hx;have h0:Hid (∀W,Bq w W->Cq 50 #[m.v 2,.string ⟨x.toArray⟩] W λe w'=>e=.returned (Iq (Fl.place r.cells x))/\w'=W):=λW hW=>Yi ((h.below hW).cells hr) x;have i0:Hid (∀W,Bq w W->Cq 50 #[m.v 4,.string ⟨x.toArray⟩] W λe w'=>e=.returned (Iq (Fl.place r.locals x))/\w'=W):=λW hW=>Yi ((h.below hW).locals hr) x;obtain⟨c2,k2,d0⟩:=h.shape 2 (by unfold Zt;omega);obtain⟨c4,k4,e0⟩:=h.shape 4 (by unfold Zt;omega);rw[hr.r2.1]at d0;rw[hr.r4.1]at e0;rw[d0]at h0;rw[e0]at i0;have q2:∀o,(w.alloc o).cell? (Aq Rb 2)=some (.slice c2 r.cells.length k2):=λo=>(Qf _ _ _ f0).trans (by rw[<-d0];exact h.cR.c 2 (by omega));have q4:∀o,(w.alloc o).cell? (Aq Rb 4)=some (.slice c4 r.locals.length k4):=λo=>(Qf _ _ _ f0).trans (by rw[<-e0];exact h.cR.c 4 (by omega));have HB:Hid (∀o,Bq w (w.alloc o)):=λo=>bA;have b0:Hid (r.atom x=if(Fl.number x 9).2 then some ⟨false,(Fl.number x 9).1⟩ else if 0<=Fl.place r.cells x then some ⟨true,(Fl.place r.cells x).toNat⟩ else if 0<=Fl.place r.locals x then some ⟨true,r.cells.length+(Fl.place r.locals x).toNat⟩ else none):=rfl;obtain⟨res,c0⟩:=nmE (r.atom x);rw[<-c0]at b0⊢;have m0:=Fl.place_cases r.cells x;have n0:=Fl.place_cases r.locals x;have o0:=hr.ce;have hlo:=hr.lo;generalize (Fl.number x 9).1=nv at*;generalize (Fl.number x 9).2=nb at*;generalize Fl.place r.cells x=pc at*;generalize Fl.place r.locals x=pl at*
 have j0:(r.cells.length:Int)<=6:=by omega
 have k0: -1<=pc/\pc<=6:=by omega
 have l0: -1<=pl/\pl<=4:=by omega
 clear h hr c0 d0 e0
 cases nb with
 |true=>
  have HR:Hid (res=some ⟨false,nv⟩):=(by show _=_;rw[b0.out];rfl)
  go_enter func85,ntmps85
  go_wp2_with fail
  refine(g0.out _).mono ?_;rintro e w1 ⟨rfl,a0⟩;rw[a0];clear a0 w1;go_wp2;refine bodyPost_ret (v:=.tuple #[.agg #[.bool false,Iq nv],.bool true]) (by simp[results,results85,go_sem]) rfl ?_;rw[HR.out];exact⟨HB.out _,λa ha=>by simp only[Option.some.injEq]at ha;subst ha;rfl,λh=>by cases h⟩
 |false=>
  go_enter func85,ntmps85
  go_wp2_with fail
  refine(g0.out _).mono ?_;rintro e w1 ⟨rfl,a0⟩;rw[a0];clear a0 w1
  go_wp2_with fail
  refine(h0.out _ (HB.out _)).mono ?_;rintro e w1 ⟨rfl,a0⟩;rw[a0];clear a0 w1
  by_cases hp:0<=pc
  ·have HR:Hid (res=some ⟨true,pc.toNat⟩):=by show _=_;rw[b0.out,if_neg (by decide),if_pos hp]
   have e1:((pc.toNat:Nat):Int)=pc:=(by omega);have E1:=Zz e1;clear e1;go_wp2;refine bodyPost_ret (v:=.tuple #[.agg #[.bool true,Iq pc],.bool true]) (by simp[results,results85,go_sem]) rfl ?_;rw[HR.out];exact⟨HB.out _,λa ha=>by simp only[Option.some.injEq]at ha;subst ha;rw[E1.out],λh=>by cases h⟩
  have p0:pc<0:=(by omega);clear hp
  go_wp2_with fail
  refine(i0.out _ (HB.out _)).mono ?_;rintro e w1 ⟨rfl,a0⟩;rw[a0];clear a0 w1
  by_cases hl:0<=pl
  ·have HR:Hid (res=some ⟨true,r.cells.length+pl.toNat⟩):=by show _=_;rw[b0.out,if_neg (by decide),if_neg (show ¬0<=pc by omega),if_pos hl]
   have E1:Hid (((r.cells.length+pl.toNat:Nat):Int)=(r.cells.length:Int)+pl):=(by show _=_;omega);have hd:decide (pl ≥ 0)=true:=decide_eq_true hl;go_wp2;refine bodyPost_ret (v:=.tuple #[.agg #[.bool true,Iq ((r.cells.length:Int)+pl)],.bool true]) (by simp[results,results85,go_sem,hl]) rfl ?_;rw[HR.out];exact⟨HB.out _,λa ha=>by simp only[Option.some.injEq]at ha;subst ha;rw[E1.out],λh=>by cases h⟩
  have HR:Hid (res=none):=(by show _=_;rw[b0.out,if_neg (by decide),if_neg (show ¬0<=pc by omega),if_neg hl]);go_wp2;refine bodyPost_ret (v:=.tuple #[.agg #[.bool true,Iq ((r.cells.length:Int)+pl)],.bool false]) (by simp[results,results85,go_sem,hl]) rfl ?_;rw[HR.out];exact⟨HB.out _,λa ha=>(by cases ha),λh=>⟨_,rfl⟩⟩
end
def hdS(s:Fl.Stmt):Fl.Stmt:=⟨s.kind,s.x,s.line,s.e,[],[]⟩
def Xe:FlS:=⟨1,noS⟩
def Xl:FlS:=⟨2,noS⟩
def zz9(s:Fl.Stmt):FlS:=⟨0,hdS s⟩
def zv7(K:List FlS->List Fl.Stmt->Prop)(p:List FlS)(s:Fl.Stmt):Prop:=
 ((s.kind=3\/s.kind=4)/\s.body=[]/\s.other=[]/\p=[zz9 s])\/
 ((s.kind=5\/s.kind=6)/\∃f1,K f1 s.body/\((s.other=[]/\p=zz9 s::(f1++[Xl]))\/∃f2,K f2 s.other/\p=zz9 s::(f1++Xe::(f2++[Xl]))))
def Vk(R:List FlS->Fl.Stmt->Prop):List FlS->List Fl.Stmt->Prop
 |fl,[]=>fl=[]
 |fl,s::l=>∃p q,fl=p++q/\R p s/\Vk R q l
def Va:Nat->List FlS->List Fl.Stmt->Prop
 |0,fl,l=>fl=[]/\l=[]
 |d+1,fl,l=>Vk (zv7 (Va d)) fl l
def Vk.snoc{R:List FlS->Fl.Stmt->Prop}:∀{l:List Fl.Stmt} {fl:List FlS},Vk R fl l->∀{p:List FlS} {s:Fl.Stmt},R p s->Vk R (fl++p) (l++[s])
 |[],fl,h,p,s,hp=>by
  have h0:fl=[]:=h;subst h0;exact⟨p,[],by simp,hp,rfl⟩
 |x::l,fl,h,p,s,hp=>by
  obtain⟨a,b,rfl,h1,h2⟩:=h;exact⟨a,b++p,by simp,h1,Vk.snoc h2 hp⟩
def Va.nil(d:Nat):Va d [] []:=by
 cases d with
 |zero=>exact⟨rfl,rfl⟩
 |succ d=>exact rfl
def zr6(d:Nat)(p:List FlS)(f:Fl.Frame):Prop:=
 ∃f1,Va (d+1) f1 f.first/\((f.had=false/\p=⟨0,⟨f.kind,0,f.line,f.e,[],[]⟩⟩::f1)\/(f.had=true/\∃f2,Va (d+1) f2 f.els/\p=⟨0,⟨f.kind,0,f.line,f.e,[],[]⟩⟩::(f1++Xe::f2)))
def FlatF:Nat->List FlS->List Fl.Frame->Prop
 |_,fl,[]=>fl=[]
 |d,fl,f::fs=>∃a b,fl=a++b/\FlatF (d+1) a fs/\zr6 d b f
def Xf(fl:List FlS)(r:Fl.RS):Prop:=∃a b,fl=a++b/\Va 4 a r.top/\FlatF (3 - r.fr.length) b r.fr
def zr6.done{d:Nat}{p:List FlS}{f:Fl.Frame}(h:zr6 d p f)(hk:f.kind=5\/f.kind=6)(hn:f.had=false->f.els=[]):zv7 (Va (d+1)) (p++[Xl]) f.done:=by
 obtain⟨f1,h1,h2⟩:=h
 right
 refine⟨hk,f1,h1,?_⟩;rcases h2 with⟨h3,rfl⟩|⟨h3,f2,h4,rfl⟩
 ·left;exact⟨hn h3,rfl⟩
 right;exact⟨f2,h4,by simp;rfl⟩
def zr6.snoc{d:Nat}{p q:List FlS}{f:Fl.Frame}{s:Fl.Stmt}(h:zr6 d p f)(hq:zv7 (Va d) q s):zr6 d (p++q) (if f.had then{f with els:=f.els++[s]} else{f with first:=f.first++[s]}):=by
 obtain⟨f1,h1,h2⟩:=h;rcases h2 with⟨h3,rfl⟩|⟨h3,f2,h4,rfl⟩
 ·rw[h3]
  exact⟨f1++q,Vk.snoc h1 hq,.inl ⟨rfl,by simp⟩⟩
 rw[h3];exact⟨f1,h1,.inr ⟨rfl,f2++q,Vk.snoc h4 hq,by simp⟩⟩
def yoz{fl:List FlS}(h:Xf fl r)(hk:s.kind=3\/s.kind=4)(h1:s.body=[])(h2:s.other=[])(hl:r.fr.length<=3):Xf (fl++[zz9 s]) (r.put s):=by
 obtain⟨a,b,rfl,ha,hb⟩:=h;have hs:∀d,zv7 (Va d) [zz9 s] s:=λd=> .inl ⟨hk,h1,h2,rfl⟩;unfold Fl.RS.put
 cases hf:r.fr with
 |nil=>
  rw[hf]at hb;have h0:b=[]:=hb;subst h0;exact⟨a++[zz9 s],[],by simp,Vk.snoc ha (hs 3),rfl⟩
 |cons f fs=>
  rw[hf]at hb;obtain⟨x,y,rfl,hx,hy⟩:=hb;exact⟨a,x++(y++[zz9 s]),by simp,ha,x,y++[zz9 s],rfl,hx,hy.snoc (hs _)⟩
def yx1{fl:List FlS}(h:Xf fl r)(kind line:Nat)(e:Fl.Expr)(hl:r.fr.length<3):Xf (fl++[⟨0,⟨kind,0,line,e,[],[]⟩⟩]) (r.opens kind line e):=by
 obtain⟨a,b,rfl,ha,hb⟩:=h
 have e1:3 - (r.fr.length+1)+1=3 - r.fr.length:=by omega
 refine⟨a,b++[⟨0,⟨kind,0,line,e,[],[]⟩⟩],by simp,ha,b,[_],rfl,?_,[],Va.nil _,.inl ⟨rfl,rfl⟩⟩;show FlatF (3 - (r.fr.length+1)+1) b r.fr;rw[e1];exact hb
def yx2{fl:List FlS}(h:Xf fl r)(hf:r.fr=f::fs)(hd:f.had=false)(hn:f.els=[]):Xf (fl++[Xe]) r.elses:=by
 obtain⟨a,b,rfl,ha,hb⟩:=h;rw[hf]at hb;obtain⟨x,y,rfl,hx,f1,h1,h2⟩:=hb;unfold Fl.RS.elses;rw[hf];rcases h2 with⟨h3,rfl⟩|⟨h3,_⟩
 ·exact⟨a,x++(⟨0,⟨f.kind,0,f.line,f.e,[],[]⟩⟩::(f1++Xe::[])),by simp,ha,x,_,rfl,hx,f1,h1,.inr ⟨rfl,[],by rw[show ({f with had:=true}:Fl.Frame).els=[] from hn];exact Va.nil _,rfl⟩⟩
 rw[hd]at h3;cases h3
def ysy{fl:List FlS}(h:Xf fl r)(hf:r.fr=f::fs)(hk:f.kind=5\/f.kind=6)(hn:f.had=false->f.els=[])(hl:r.fr.length<=3):Xf (fl++[Xl]) r.ends:=by
 obtain⟨a,b,rfl,ha,hb⟩:=h;rw[hf]at hb hl;obtain⟨x,y,rfl,hx,hy⟩:=hb;unfold Fl.RS.ends;rw[hf];have hd:=hy.done hk hn
 cases fs with
 |nil=>
  have h0:x=[]:=hx;subst h0;exact⟨a++(y++[Xl]),[],by simp,Vk.snoc ha hd,rfl⟩
 |cons g gs=>
  obtain⟨u,v,rfl,hu,hv⟩:=hx;simp only[List.length_cons]at hl hd hu hv;have e1:3 - (gs.length+1+1)+1=3 - (gs.length+1):=(by omega);refine⟨a,u++(v++(y++[Xl])),by simp,ha,u,v++(y++[Xl]),rfl,?_,?_⟩
  ·simp only[List.length_cons];rw[<-e1];exact hu
  simp only[List.length_cons];rw[<-e1];exact hv.snoc hd
def flatR0:Xf [] Fl.RS.zero:=⟨[],[],rfl,Va.nil 4,rfl⟩
def dsV(ds:List (Fl.Stmt×Value×Value)):List Value:=ds.flatMap λx=>Xh x.1 x.2.1 x.2.2
def zv8(s:Fl.Stmt)(a b:Value):(Xh s a b).length=10:=rfl
def dsV_get(ds:List (Fl.Stmt×Value×Value))(i j:Nat)(hi:i<ds.length)(hj:j<10)(x:Fl.Stmt×Value×Value)(hx:ds[i]?=some x):(dsV ds)[i*10+j]?=some ((Xh x.1 x.2.1 x.2.2).getD j undef):=by
 induction ds generalizing i with
 |nil=>simp at hi
 |cons y ds ih=>
  unfold dsV at*;rw[List.flatMap_cons]
  cases i with
  |zero=>
   simp only[List.getElem?_cons_zero,Option.some.injEq]at hx;subst hx;rw[Nat.zero_mul,Nat.zero_add,List.getElem?_append_left (by rw[zv8];exact hj),Qa,Qb (by rw[zv8];exact hj)];rfl
  |succ i=>
   simp only[List.getElem?_cons_succ]at hx;rw[List.getElem?_append_right (by rw[zv8];omega),zv8,show (i+1)*10+j - 10=i*10+j by omega];exact ih i (by simpa using hi) hx
def BdS(B:Nat)(w:World)(ov:Value)(b:Nat):Prop:=B<=b/\b<w.heap.size/\ov.ownBlock≠some b
structure zu2(d B:Nat)(w:World)(ds:List (Fl.Stmt×Value×Value))(ov:Value):Prop where
 own:w.ownsRow B 119 10 ov ds.length (dsV ds)
 bd:∀x∈ds,Zf d (BdS B w ov) w x.2.1 x.1.body/\Zf d (BdS B w ov) w x.2.2 x.1.other
 hz:B<=w.heap.size
def zu2.nil(d:Nat)(w:World):zu2 d w.heap.size w [] Zq:=⟨⟨rfl,.inl ⟨rfl,rfl⟩⟩,λx hx=>(by cases hx),Nat.le_refl _⟩
def zu2.below{ds:List (Fl.Stmt×Value×Value)}(h:zu2 d B w ds ov)(hb:Bq w w'):zu2 d B w' ds ov:=by
 have hz:=hb.size;have hk:∀b,BdS B w ov b->BdS B w' ov b:=λb hb=>⟨hb.1,by have:=hb.2.1;omega,hb.2.2⟩;have hw:∀b,BdS B w ov b->w'.heap[b]?=w.heap[b]?:=λb hb'=>hb.block b hb'.2.1;exact⟨Yy h.own (λb hv=>hb.block b (h.own.lt b hv).2),λx hx=>⟨Zf.kept hk hw _ _ _ (h.bd x hx).1,Zf.kept hk hw _ _ _ (h.bd x hx).2⟩,by have:=h.hz;omega⟩
def zu2.push{ds:List (Fl.Stmt×Value×Value)}{ov' bv o2:Value}(h:zu2 d B w ds ov)(hb:Bq w W3)(h1:Zf d (BdS B W3 ov) W3 bv s.body)(h2:Zf d (BdS B W3 ov) W3 o2 s.other)
  (ho:W4.ownsRow B 119 10 ov' (ds.length+1) (dsV ds++Xh s bv o2)) (hg:W3.grownBy W4 ov.ownBlock) (a0:ov'.ownBlock=ov.ownBlock\/ov'.ownBlock=some W3.heap.size):zu2 d B W4 (ds++[(s,bv,o2)]) ov':=by
 have h3:=h.below hb;have hz:=hg.size
 have hk:∀b,BdS B W3 ov b->BdS B W4 ov' b:=λb hb=>⟨hb.1,by have:=hb.2.1;omega,λhh=>by
  rcases a0 with e|e
  ·rw[e]at hh;exact hb.2.2 hh
  rw[e]at hh;simp only[Option.some.injEq]at hh;have:=hb.2.1;omega⟩
 have hw:∀b,BdS B W3 ov b->W4.heap[b]?=W3.heap[b]?:=λb hb'=>hg.block b hb'.2.1 (Ne.symm hb'.2.2);refine⟨?_,λx hx=>?_,by have:=h3.hz;omega⟩
 ·rw[List.length_append,show dsV (ds++[(s,bv,o2)])=dsV ds++Xh s bv o2 by simp[dsV]];exact ho
 rcases List.mem_append.1 hx with hx|hx
 ·exact⟨Zf.kept hk hw _ _ _ (h3.bd x hx).1,Zf.kept hk hw _ _ _ (h3.bd x hx).2⟩
 simp only[List.mem_singleton]at hx;subst hx;exact⟨Zf.kept hk hw _ _ _ h1,Zf.kept hk hw _ _ _ h2⟩
def zu2.closed{ds:List (Fl.Stmt×Value×Value)}(h:zu2 d B w ds ov)(hl:ds.length<=16):Zf (d+1) (λb=>B<=b/\b<w.heap.size) w ov (ds.map (·.1)):=by
 rcases h.own.2 with⟨h1,h2⟩|⟨g,cap,cur,h1,h2,h3,h4,h5,h6,h7⟩
 ·have:ds=[]:=Qi h2
  subst this;exact⟨none,0,h1,by simp,by simp[maxLen],by simp,λhh=>absurd rfl hh⟩
 have a0:g<w.heap.size:=Classical.byContradiction λhn=>by rw[Array.getElem?_eq_none (by omega)]at h3;cases h3
 refine⟨_,cap,by rw[List.length_map];exact h1,by rw[List.length_map];exact h4,h5,by rw[List.length_map];exact hl,λb0=>⟨g,rfl,⟨h2,a0⟩,λi hi=>?_⟩⟩;rw[List.length_map]at hi;have hx:ds[i]?=some ds[i]:=Qb hi
 have hs:(ds.map (·.1)).getD i noS=ds[i].1:=by rw[Qa,List.getElem?_map,hx];rfl
 rw[hs];have hm:=h.bd ds[i] (List.getElem_mem hi);refine⟨ds[i].2.1,ds[i].2.2,λj hj=>?_,Zf.kept (λb hb=>⟨hb.1,hb.2.1⟩) (λ_ _=>rfl) _ _ _ hm.1,Zf.kept (λb hb=>⟨hb.1,hb.2.1⟩) (λ_ _=>rfl) _ _ _ hm.2⟩;have h8:=h.own.cells (g:=g) (by rw[h1];rfl) (i*10+j) _ (dsV_get ds i j hi hj _ hx)
 have h9:((Aq g 0):Addr).add (i*10+j)=(Aq g (i*10+j)):=by unfold Addr.add;split<;>simp_all
 rw[h9]at h8;exact h8
def zs9(w:World)(v:Value)(FL:List FlS):Prop:=
 ∃fa fc,v=.slice fa FL.length fc/\FL.length<=fc/\fc<=maxLen/\FL.length<=100000/\(FL≠[]->∃Fb,fa=some (Aq Fb 0)/\Fb<w.heap.size/\∀k,k<FL.length->∀j,j<10->w.cell? (Aq Fb (k*10+j))=some ((Zo (FL.getD k Xl)).getD j undef))
def zs9.below{FL:List FlS}(h:zs9 w v FL)(hb:Bq w w'):zs9 w' v FL:=by
 obtain⟨fa,fc,h1,h2,h3,h4,h5⟩:=h;refine⟨fa,fc,h1,h2,h3,h4,λa0=>?_⟩;obtain⟨Fb,e,hz,hc⟩:=h5 a0;exact⟨Fb,e,Qj hz hb.size,λk hk j hj=>(hb.cell (p:=(Aq Fb (k*10+j))) hz).trans (hc k hk j hj)⟩
def Stop(rest:List FlS):Prop:=rest=[]\/∃f r,rest=f::r/\f.tag≠0
def cnt(l:List FlS):Nat:=l.countP λf=>f.tag==0
def Uw(a b:List FlS):cnt (a++b)=cnt a+cnt b:=by simp[cnt]
def Vk.cnt{R:List FlS->Fl.Stmt->Prop}(hR:∀p s,R p s->1<=cnt p):∀{l:List Fl.Stmt} {fl:List FlS},Vk R fl l->l.length<=Go.Proofs.YtjekbnmnjeoagaaGreatDoor.cnt fl
 |[],_,_=>Nat.zero_le _
 |s::l,fl,h=>by
  obtain⟨p,q,rfl,h1,h2⟩:=h;rw[Uw,List.length_cons];have:=hR p s h1;have:=Vk.cnt hR h2;omega
def zv7.cnt{K:List FlS->List Fl.Stmt->Prop}{p:List FlS}{s:Fl.Stmt}(h:zv7 K p s):1<=Go.Proofs.YtjekbnmnjeoagaaGreatDoor.cnt p:=by
 have hc:∀l,1<=Go.Proofs.YtjekbnmnjeoagaaGreatDoor.cnt (zz9 s::l):=λl=>by simp[Go.Proofs.YtjekbnmnjeoagaaGreatDoor.cnt,zz9]
 rcases h with⟨_,_,_,rfl⟩|⟨_,f1,_,⟨_,rfl⟩|⟨f2,_,rfl⟩⟩
 ·exact hc _
 ·exact hc _
 exact hc _
def Va.cnt{d:Nat}{fl:List FlS}{l:List Fl.Stmt}(h:Va d fl l):l.length<=Go.Proofs.YtjekbnmnjeoagaaGreatDoor.cnt fl:=by
 cases d with
 |zero=>rw[h.2];exact Nat.zero_le _
 |succ d=>exact Vk.cnt (λp s h=>zv7.cnt h) h
def Zv.aside{m:Yq}(h:Zv lo base Rb Pb w0 w m)(a0:Below lo w0 w')(hz:base<=w'.heap.size)(hk:∀b,b=Rb\/b=Pb\/(∃j,Zt j/\(m.v j).ownBlock=some b)\/m.keep b->w'.heap[b]?=w.heap[b]?)(hs:w.heap.size<=w'.heap.size):Zv lo base Rb Pb w0 w' m:=by
 obtain⟨b1,b2,b3,b4,b5,b6,b7⟩:=h.hba;exact{bel:=a0,hba:=⟨b1,b2,b3,b4,b5,hz,b7⟩,cR:=h.cR.block (hk _ (.inl rfl)),cP:=h.cP.block (hk _ (.inr (.inl rfl))),own:=λj hj=>Yy (h.own j hj) (λb hb=>hk b (.inr (.inr (.inl ⟨j,hj,hb⟩)))),dis:=h.dis,kp:=λb hb=>have k:=h.kp b hb;⟨k.1,Qj k.2.1 hs,(hk b (.inr (.inr (.inr hb)))).trans k.2.2.1,k.2.2.2⟩}
def Zp(k x:Int)(op:Int)(av:Bool)(an:Int)(bv:Bool)(bn:Int):Array Value:=#[Iq k,Iq x,Iq 0,Iq op,.bool av,Iq an,.bool bv,Iq bn,Zq,Zq]
section
variable{m:Yq}{fl:List FlS}{t:Nat}
def Zj.addLocal(h:Zj r fl t m)(x:List UInt8)(v:Value)(hx:x.length<=100000)(hl:r.locals.length<4):Zj {r with locals:=r.locals++[x]} fl t (m.app 4 v [strV x]):=
 {
  r1:=h.r1,r2:=h.r2,r3:=h.r3,r4:=⟨by show m.n 4+1=_;rw[h.r4.1];simp,by show m.xs 4++_=_;rw[h.r4.2];simp⟩,r5:=h.r5,r6:=h.r6,r8:=h.r8,r10:=h.r10,r12:=h.r12,r13:=h.r13,bg:=h.bg,st:=h.st,nm:=λy hy=>by
   simp only[List.mem_append,List.mem_singleton]at hy;rcases hy with h1|h1|h1|h1|rfl
   ·exact h.nm y (by simp[h1])
   ·exact h.nm y (by simp[h1])
   ·exact h.nm y (by simp[h1])
   ·exact h.nm y (by simp[h1])
   exact hx
  lv:=h.lv,ce:=h.ce,ch:=h.ch,lo:=by simp;omega,sm:=h.sm,fr:=h.fr,lw:=h.lw,ft:=h.ft,pr:=h.pr,bw:=h.bw,cl:=h.cl,hl:=h.hl,lt:=h.lt}
def zm5{e:TypeId}{x:Value}{N:Nat}(hN:w.heap.size=N):∀j u,[x][j]?=some u->(w.alloc (.cells #[x] e)).cell? (((Aq N 0):Addr).add j)=some u:=by subst hN;exact Yc
def Za{P:Program}{fn:Func}{p q:Tmp}{ty:TypeId}(h:fn.results=#[.cell p ty,.tmp q])(tmps:Array Value)(w:World)(ad:Addr)(v:Value)(ha:tmps.getD p undef=.pointer (some ad))(hl:(loadVar ty ad).run P w=.ok v w):
  (results fn tmps).run P w=.ok (.tuple #[v,tmps.getD q undef]) w:=by
 have ha':tmps[p]?.getD undef=.pointer (some ad):=by rw[<-ha,Array.getD_eq_getD_getElem?]
 simp only[results,h];simp[Sem.run_bind,Result.andThen,ha',asAddr,hl]
def Tryz.infoStmt10:(Tryz.prog.info? 119).map (·.size)=some 10:=by kernel_rfl
def Jy(u:World)(o:Obj)(k:Nat)(hk:u.heap.size=k):(u.alloc o).heap[k]?=some o:=by subst hk;exact heap_alloc_last u o
def Zc:Array Value:=#[Iq 0,Iq 0,Iq 0,Iq 0,.bool false,Iq 0,.bool false,Iq 0,Zq,Zq]
end
def zw6(d:Nat)(w:World)(k:Nat)(l:List Fl.Stmt)(e:Ending)(w':World):Prop:=
 Bq w w'/\∃oa on oc,e=.returned (.tuple #[.slice oa on oc,Iq k])/\Zf d (λb=>w.heap.size<=b/\b<w'.heap.size) w' (.slice oa on oc) l
def zi6(d:Nat)(FL:List FlS)(v:Value):Prop:=
 ∀(w:World) (i:Nat) (fl:List FlS) (l:List Fl.Stmt) (rest:List FlS),zs9 w v FL->i<=FL.length->FL.drop i=fl++rest->Va d fl l->Stop rest->Cq 26 #[v,Iq i] w (zw6 d w (i+fl.length) l)
def Jv{FL:List FlS}{f:FlS}{r:List FlS}(h:FL.drop i=f::r):i<FL.length/\FL.getD i Xl=f/\FL.drop (i+1)=r:=by
 have hi:i<FL.length:=Classical.byContradiction λhn=>by rw[List.drop_of_length_le (by omega)]at h;cases h
 rw[List.drop_eq_getElem_cons hi]at h;injection h with h1 h2;exact⟨hi,by rw[Qa,Qb hi];exact h1,h2⟩
def zfx{FL:List FlS}{a b:List FlS}(h:FL.drop i=a++b)(hi:i<=FL.length):FL.drop (i+a.length)=b/\i+a.length<=FL.length:=by
 have h1:(FL.drop i).length=FL.length - i:=by simp
 have h2:FL.drop (i+a.length)=(FL.drop i).drop a.length:=by rw[List.drop_drop]
 rw[h]at h1 h2;simp only[List.length_append]at h1;exact⟨by rw[h2];simp,by omega⟩
def zs9.line{FL:List FlS}{Fb fc:Nat}(h:zs9 w (.slice (some (Aq Fb 0)) n fc) FL)(i:Nat)(hi:i<FL.length):∀j,j<10->w.cell? (Aq Fb (i*10+j))=some ((Zo (FL.getD i Xl)).getD j undef):=by
 obtain⟨fa,c,h1,h2,h3,h4,h5⟩:=h;obtain⟨b,e,hz,hc⟩:=h5 (by rintro rfl;simp at hi);simp only[Value.slice.injEq]at h1;obtain⟨h6,-,-⟩:=h1;rw[e]at h6;simp only[Option.some.injEq,Addr.mk.injEq]at h6;rw[h6.1];exact hc i hi
def yoy(FL:List FlS)(v:Value):zi6 0 FL v:=by
 intro w i fl l rest hF hi hd hl hs;obtain⟨rfl,rfl⟩:=hl;simp only[List.nil_append]at hd;have a0:Hid (zw6 0 w (i+([]:List FlS).length) [] (.returned (.tuple #[Zq,Iq i])) w):=⟨Below.refl _ _,none,0,0,rfl,rfl,rfl⟩;obtain⟨fa,fc,rfl,h2,h3,h4,h5⟩:=id hF
 have e0:(i:Int)<=(FL.length:Int):=by omega
 have f0:(FL.length:Int)<=100000:=by omega
 rcases hs with rfl|⟨f,r,rfl,hf⟩
 ·have hn:¬(i:Int)<(FL.length:Int):=by
   intro hh
   have:i<FL.length:=by omega
   rw[List.drop_eq_getElem_cons this]at hd;cases hd
  clear hF h2 h3 h4 h5 hd
  go_enter func26,ntmps26
  go_wp2_with fail
  go_loopw [1,6] (λiv ov wr=>iv=Iq i/\ov=Zq/\wr=w) (λ_ _ _=>0)
  case atStart=>exact⟨rfl,rfl,rfl⟩
  case round=>
   obtain⟨rfl,rfl,b0⟩:=hrel;rw[b0];clear b0;go_wp2
   go_ret2
   exact a0.out
 obtain⟨g1,g2,g3⟩:=Jv hd;obtain⟨Fb,rfl,hz,hc⟩:=h5 (by rintro rfl;simp at g1);have c0:=hc i g1 0 (by omega);rw[g2,Nat.add_zero]at c0;obtain⟨kk,d0⟩:∃kk:Int,(Zo f).getD 0 undef=Iq kk/\kk<0:=by
  unfold Zo;rw[if_neg hf];refine⟨_,rfl,?_⟩
  split<;>decide
 rw[d0.1]at c0
 have g0:¬0<=kk:=by omega
 have hn:(i:Int)<(FL.length:Int):=by omega
 clear hF h2 h3 h4 h5 hd hc d0 g2 g3
 go_enter func26,ntmps26
 go_wp2_with fail
 go_loopw [1,6] (λiv ov wr=>iv=Iq i/\ov=Zq/\wr=w) (λ_ _ _=>0)
 case atStart=>exact⟨rfl,rfl,rfl⟩
 case round=>
  obtain⟨rfl,rfl,b0⟩:=hrel;rw[b0];clear b0;go_wp2
  go_ret2
  exact a0.out
end Go.Proofs.YtjekbnmnjeoagaaGreatDoor
