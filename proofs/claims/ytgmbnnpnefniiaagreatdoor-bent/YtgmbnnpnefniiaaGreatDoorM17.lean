import Derived.Test.YtgmbnnpnefniiaaGreatDoorM10
import Derived.Test.YtgmbnnpnefniiaaGreatDoorM15
set_option linter.all false
set_option maxRecDepth 100000
set_option maxHeartbeats 40000000
namespace Go.Proofs.YtgmbnnpnefniiaaGreatDoor
open Go.Proofs.Tryz List Value Fl
variable{w w0 w' W3 W4:World}{v v' ov:Value}{lo base Rb Pb B t d i:Nat}{news:Vs}{ws:List L}{r:RS}{s:aa}{f:Fl.Frame}{fs:List Fl.Frame}
section
open Go.RowKit
def yz6(s:ByteArray)(k:Nat)(h:k<s.size)(hp:(s[k].toNat:Int)<97\/122<(s[k].toNat:Int)):cd s.data.toList=false:=by
 unfold cd;rw[yp9 fD s k h (by rw[yp8];omega)];rfl
def yf2(s:ByteArray)(h:s.data.toList.all fD=true):cd s.data.toList=(decide (0<s.size) && decide ((s.size:Int)<=6)):=by
 unfold cd;rw[h]
 have e:s.data.toList.length=s.size:=by simp
 rw[e,Bool.true_and];congr 1;simp only[decide_eq_decide];omega
def yf3(s:ByteArray)(w:World)(hs:s.size<=maxLen):E 27 #[.string s] w (Rq (.bool (cd s.data.toList)) w):=by
 unfold maxLen at hs
 go_enter func27,ntmps27
 go_wp2
 go_loop [3] (λi=>∃k:Nat,k<=s.size/\i=I k/\(s.data.toList.take k).all fD=true) (λi=>s.size - (intOf i).toNat)
 case atStart=>exact⟨0,Nat.zero_le _,rfl,rfl⟩
 case round=>
  obtain⟨k,hk,rfl,aT⟩:=hrel;have HA:=Z aT;clear aT
  by_cases a0:k<s.size
  ·go_wp2
   ·go_ret;exact⟨Zr (yz6 s k a0 (by omega)).symm,rfl⟩
   ·go_round
    case rel=>exact⟨k+1,by omega,by go_num,zi9 _ s k a0 HA (by rw[yp8];omega)⟩
    case measure=>simp[intOf];omega
   go_ret;exact⟨Zr (yz6 s k a0 (by omega)).symm,rfl⟩
  have HN:=yf2 s (by rw[<-zo9 s k a0];exact HA);have HH:=Z HN;clear HN;go_wp2
  ·go_ret;exact⟨Zr (by rw[HH.out];simp[*]),rfl⟩
  go_ret;exact⟨Zr (by rw[HH.out];simp[*]),rfl⟩
def Jy(s:ByteArray)(w:World)(hs:s.size<=maxLen):E 27 #[.string s] w (Rq (.bool (cd s.toList)) w):=by
 rw[ByteArray.toList_eq];exact yf3 s w hs
def zww(s:ByteArray)(w:World)(hs:s.size<=maxLen):E 28 #[.string s] w (Rq (.bool (atom s.toList)) w):=by
 go_enter func28,ntmps28
 go_wp2_with (first|(go_at_call 27;refine(Jy s _ hs).mono ?_;rintro e w' ⟨rfl,rfl⟩)|(go_at_call 51;refine(yw0 s 9 _ hs (by decide)).mono ?_;rintro e w' ⟨rfl,rfl⟩))
 all_goals (go_ret;exact⟨Zr (by simp_all[atom]),rfl⟩)
def yz7(w:World):E 29 #[] w λe w'=>e=.returned (Sq w.heap.size 0 5 5)/\w'=w.alloc (.cells #[.string ⟨#[43]⟩,.string ⟨#[45]⟩,.string ⟨#[42]⟩,.string ⟨#[60]⟩,.string ⟨#[61,61]⟩] 9):=by
 go_enter func29,ntmps29
 go_wp2;go_ret;exact⟨rfl,rfl⟩
end
namespace Fl
def jE(l:L):Prop:=(l==[108,101,118,101,108])=true/\(l==[98,101,108,111,119])=false/\(l==[99,101,108,108])=false/\(l==[99,104,97,110,110,101,108])=false/\(l==[98,101,103,105,110])=false/\(l==[101,108,115,101])=false/\(l==[101,110,100])=false/\(l==[105,102])=false/\(l==[119,104,105,108,101])=false/\(l==[111,117,116])=false/\(l==[115,101,116])=false
def jD(l:L):Prop:=(l==[108,101,118,101,108])=false/\(l==[98,101,108,111,119])=true/\(l==[99,101,108,108])=false/\(l==[99,104,97,110,110,101,108])=false/\(l==[98,101,103,105,110])=false/\(l==[101,108,115,101])=false/\(l==[101,110,100])=false/\(l==[105,102])=false/\(l==[119,104,105,108,101])=false/\(l==[111,117,116])=false/\(l==[115,101,116])=false
def lP(l:L):Prop:=(l==[108,101,118,101,108])=false/\(l==[98,101,108,111,119])=false/\(l==[99,101,108,108])=true/\(l==[99,104,97,110,110,101,108])=false/\(l==[98,101,103,105,110])=false/\(l==[101,108,115,101])=false/\(l==[101,110,100])=false/\(l==[105,102])=false/\(l==[119,104,105,108,101])=false/\(l==[111,117,116])=false/\(l==[115,101,116])=false
def iT(l:L):Prop:=(l==[108,101,118,101,108])=false/\(l==[98,101,108,111,119])=false/\(l==[99,101,108,108])=false/\(l==[99,104,97,110,110,101,108])=true/\(l==[98,101,103,105,110])=false/\(l==[101,108,115,101])=false/\(l==[101,110,100])=false/\(l==[105,102])=false/\(l==[119,104,105,108,101])=false/\(l==[111,117,116])=false/\(l==[115,101,116])=false
def jC(l:L):Prop:=(l==[108,101,118,101,108])=false/\(l==[98,101,108,111,119])=false/\(l==[99,101,108,108])=false/\(l==[99,104,97,110,110,101,108])=false/\(l==[98,101,103,105,110])=true/\(l==[101,108,115,101])=false/\(l==[101,110,100])=false/\(l==[105,102])=false/\(l==[119,104,105,108,101])=false/\(l==[111,117,116])=false/\(l==[115,101,116])=false
def lO(l:L):Prop:=(l==[108,101,118,101,108])=false/\(l==[98,101,108,111,119])=false/\(l==[99,101,108,108])=false/\(l==[99,104,97,110,110,101,108])=false/\(l==[98,101,103,105,110])=false/\(l==[101,108,115,101])=true/\(l==[101,110,100])=false/\(l==[105,102])=false/\(l==[119,104,105,108,101])=false/\(l==[111,117,116])=false/\(l==[115,101,116])=false
def mP(l:L):Prop:=(l==[108,101,118,101,108])=false/\(l==[98,101,108,111,119])=false/\(l==[99,101,108,108])=false/\(l==[99,104,97,110,110,101,108])=false/\(l==[98,101,103,105,110])=false/\(l==[101,108,115,101])=false/\(l==[101,110,100])=true/\(l==[105,102])=false/\(l==[119,104,105,108,101])=false/\(l==[111,117,116])=false/\(l==[115,101,116])=false
def nY(l:L):Prop:=(l==[108,101,118,101,108])=false/\(l==[98,101,108,111,119])=false/\(l==[99,101,108,108])=false/\(l==[99,104,97,110,110,101,108])=false/\(l==[98,101,103,105,110])=false/\(l==[101,108,115,101])=false/\(l==[101,110,100])=false/\(l==[105,102])=true/\(l==[119,104,105,108,101])=false/\(l==[111,117,116])=false/\(l==[115,101,116])=false
def jB(l:L):Prop:=(l==[108,101,118,101,108])=false/\(l==[98,101,108,111,119])=false/\(l==[99,101,108,108])=false/\(l==[99,104,97,110,110,101,108])=false/\(l==[98,101,103,105,110])=false/\(l==[101,108,115,101])=false/\(l==[101,110,100])=false/\(l==[105,102])=false/\(l==[119,104,105,108,101])=true/\(l==[111,117,116])=false/\(l==[115,101,116])=false
def mO(l:L):Prop:=(l==[108,101,118,101,108])=false/\(l==[98,101,108,111,119])=false/\(l==[99,101,108,108])=false/\(l==[99,104,97,110,110,101,108])=false/\(l==[98,101,103,105,110])=false/\(l==[101,108,115,101])=false/\(l==[101,110,100])=false/\(l==[105,102])=false/\(l==[119,104,105,108,101])=false/\(l==[111,117,116])=true/\(l==[115,101,116])=false
def mN(l:L):Prop:=(l==[108,101,118,101,108])=false/\(l==[98,101,108,111,119])=false/\(l==[99,101,108,108])=false/\(l==[99,104,97,110,110,101,108])=false/\(l==[98,101,103,105,110])=false/\(l==[101,108,115,101])=false/\(l==[101,110,100])=false/\(l==[105,102])=false/\(l==[119,104,105,108,101])=false/\(l==[111,117,116])=false/\(l==[115,101,116])=true
def lN(l:L):Prop:=(l==[108,101,118,101,108])=false/\(l==[98,101,108,111,119])=false/\(l==[99,101,108,108])=false/\(l==[99,104,97,110,110,101,108])=false/\(l==[98,101,103,105,110])=false/\(l==[101,108,115,101])=false/\(l==[101,110,100])=false/\(l==[105,102])=false/\(l==[119,104,105,108,101])=false/\(l==[111,117,116])=false/\(l==[115,101,116])=false
def di(l:L):jE l\/jD l\/lP l\/iT l\/jC l\/lO l\/mP l\/nY l\/jB l\/mO l\/mN l\/lN l:=by
 by_cases b0:l=[108,101,118,101,108]
 ·subst b0;exact Or.inl (by unfold jE;decide)
 by_cases c0:l=[98,101,108,111,119]
 ·subst c0;exact Or.inr (Or.inl (by unfold jD;decide))
 by_cases f0:l=[99,101,108,108]
 ·subst f0;exact Or.inr (Or.inr (Or.inl (by unfold lP;decide)))
 by_cases a0:l=[99,104,97,110,110,101,108]
 ·subst a0;exact Or.inr (Or.inr (Or.inr (Or.inl (by unfold iT;decide))))
 by_cases d0:l=[98,101,103,105,110]
 ·subst d0;exact Or.inr (Or.inr (Or.inr (Or.inr (Or.inl (by unfold jC;decide)))))
 by_cases g0:l=[101,108,115,101]
 ·subst g0;exact Or.inr (Or.inr (Or.inr (Or.inr (Or.inr (Or.inl (by unfold lO;decide))))))
 by_cases h0:l=[101,110,100]
 ·subst h0;exact Or.inr (Or.inr (Or.inr (Or.inr (Or.inr (Or.inr (Or.inl (by unfold mP;decide)))))))
 by_cases k0:l=[105,102]
 ·subst k0;exact Or.inr (Or.inr (Or.inr (Or.inr (Or.inr (Or.inr (Or.inr (Or.inl (by unfold nY;decide))))))))
 by_cases e0:l=[119,104,105,108,101]
 ·subst e0;exact Or.inr (Or.inr (Or.inr (Or.inr (Or.inr (Or.inr (Or.inr (Or.inr (Or.inl (by unfold jB;decide)))))))))
 by_cases i0:l=[111,117,116]
 ·subst i0;exact Or.inr (Or.inr (Or.inr (Or.inr (Or.inr (Or.inr (Or.inr (Or.inr (Or.inr (Or.inl (by unfold mO;decide))))))))))
 by_cases j0:l=[115,101,116]
 ·subst j0;exact Or.inr (Or.inr (Or.inr (Or.inr (Or.inr (Or.inr (Or.inr (Or.inr (Or.inr (Or.inr (Or.inl (by unfold mN;decide)))))))))))
 exact Or.inr (Or.inr (Or.inr (Or.inr (Or.inr (Or.inr (Or.inr (Or.inr (Or.inr (Or.inr (Or.inr (by unfold lN;simp[b0,c0,f0,a0,d0,g0,h0,k0,e0,i0,j0])))))))))))
end Fl
open Go.RowKit
def line_1(b off cap:Nat)(x0:ByteArray)(w:World)(h0:x0.size<=maxLen)(c0:w.cell? (O b off)=some (.string x0)):
  E 12 #[Sq b off 1 cap] w (Rq (.bool (Fl.aq [x0.toList])) w):=by
 rcases Fl.di x0.toList with h|h|h|h|h|h|h|h|h|h|h|h
 all_goals obtain⟨k1,k2,k3,k4,k5,k6,k7,k8,k9,k10,k11⟩:=h
 all_goals
  go_enter func12,ntmps12
  go_wp2
  all_goals (go_ret;exact⟨Zr (by simp_all[Fl.aq,ct,bY,cV,bz,cJ,dO,gv,ig,ei,eH,eP]),rfl⟩)
def line_2(b off cap:Nat)(x0 x1:ByteArray)(w:World)(h0:x0.size<=maxLen)(c0:w.cell? (O b off)=some (.string x0))(h1:x1.size<=maxLen)(c1:w.cell? (O b (off+1))=some (.string x1)):
  E 12 #[Sq b off 2 cap] w (Rq (.bool (Fl.aq [x0.toList,x1.toList])) w):=by
 rcases Fl.di x0.toList with h|h|h|h|h|h|h|h|h|h|h|h
 all_goals obtain⟨k1,k2,k3,k4,k5,k6,k7,k8,k9,k10,k11⟩:=h
 all_goals
  go_enter func12,ntmps12
  go_wp2_with (first|(go_at_call_of 27 (string x1);refine(Jy x1 _ h1).mono ?_;rintro e w' ⟨rfl,rfl⟩)|(go_at_call 28;refine(zww x1 _ h1).mono ?_;rintro e w' ⟨rfl,rfl⟩))
  all_goals (go_ret;exact⟨Zr (by simp_all[Fl.aq,ct,bY,cV,bz,cJ,dO,gv,ig,ei,eH,eP]),rfl⟩)
def line_3(b off cap:Nat)(x0 x1 x2:ByteArray)(w:World)(h0:x0.size<=maxLen)(c0:w.cell? (O b off)=some (.string x0))(h1:x1.size<=maxLen)(c1:w.cell? (O b (off+1))=some (.string x1))(h2:x2.size<=maxLen)(c2:w.cell? (O b (off+2))=some (.string x2)):
  E 12 #[Sq b off 3 cap] w (Rq (.bool (Fl.aq [x0.toList,x1.toList,x2.toList])) w):=by
 rcases Fl.di x0.toList with h|h|h|h|h|h|h|h|h|h|h|h
 all_goals obtain⟨k1,k2,k3,k4,k5,k6,k7,k8,k9,k10,k11⟩:=h
 all_goals
  go_enter func12,ntmps12
  go_wp2_with (first|(go_at_call_of 27 (string x1);refine(Jy x1 _ h1).mono ?_;rintro e w' ⟨rfl,rfl⟩)|(go_at_call_of 27 (string x2);refine(Jy x2 _ h2).mono ?_;rintro e w' ⟨rfl,rfl⟩)|(go_at_call 28;refine(zww x2 _ h2).mono ?_;rintro e w' ⟨rfl,rfl⟩))
  all_goals (go_ret;exact⟨Zr (by simp_all[Fl.aq,ct,bY,cV,bz,cJ,dO,gv,ig,ei,eH,eP]),rfl⟩)
def line_4(b off cap:Nat)(x0 x1 x2 x3:ByteArray)(w:World)(h0:x0.size<=maxLen)(c0:w.cell? (O b off)=some (.string x0))(h1:x1.size<=maxLen)(c1:w.cell? (O b (off+1))=some (.string x1))(h2:x2.size<=maxLen)(c2:w.cell? (O b (off+2))=some (.string x2))(h3:x3.size<=maxLen)(c3:w.cell? (O b (off+3))=some (.string x3)):
  E 12 #[Sq b off 4 cap] w (Rq (.bool (Fl.aq [x0.toList,x1.toList,x2.toList,x3.toList])) w):=by
 rcases Fl.di x0.toList with h|h|h|h|h|h|h|h|h|h|h|h
 all_goals obtain⟨k1,k2,k3,k4,k5,k6,k7,k8,k9,k10,k11⟩:=h
 all_goals
  go_enter func12,ntmps12
  go_wp2_with (first|(go_at_call_of 27 (string x1);refine(Jy x1 _ h1).mono ?_;rintro e w' ⟨rfl,rfl⟩)|(go_at_call_of 27 (string x2);refine(Jy x2 _ h2).mono ?_;rintro e w' ⟨rfl,rfl⟩)|(go_at_call 28;refine(zww x2 _ h2).mono ?_;rintro e w' ⟨rfl,rfl⟩))
  all_goals (go_ret;exact⟨Zr (by simp_all[Fl.aq,ct,bY,cV,bz,cJ,dO,gv,ig,ei,eH,eP]),rfl⟩)
def signList:List ByteArray:=[⟨#[43]⟩,⟨#[45]⟩,⟨#[42]⟩,⟨#[60]⟩,⟨#[61,61]⟩]
def ytv:bl signList=cW:=by
 simp[bl,signList,cW,ByteArray.toList_eq]
def ys0(w:World):zgv (w.alloc (.cells #[.string ⟨#[43]⟩,.string ⟨#[45]⟩,.string ⟨#[42]⟩,.string ⟨#[60]⟩,.string ⟨#[61,61]⟩] 9)) (Sq w.heap.size 0 5 5) signList:=by
 refine⟨_,_,rfl,by decide,?_,λ_=>⟨_,_,rfl,?_⟩⟩
 ·intro s hs;simp[signList]at hs;rcases hs with rfl|rfl|rfl|rfl|rfl<;>decide
 intro i hi;have:=hi
 match i,this with
 |0,_=>simp[signList]
 |1,_=>simp[signList]
 |2,_=>simp[signList]
 |3,_=>simp[signList]
 |4,_=>simp[signList]
def line_5(b off cap:Nat)(x0 x1 x2 x3 x4:ByteArray)(w:World)(h1:x1.size<=maxLen)(h2:x2.size<=maxLen)(h4:x4.size<=maxLen)
  (c0:w.cell? (O b off)=some (.string x0)) (c1:w.cell? (O b (off+1))=some (.string x1)) (c2:w.cell? (O b (off+2))=some (.string x2))
  (c3:∀o,(w.alloc o).cell? (O b (off+3))=some (.string x3)) (c4:∀o,(w.alloc o).cell? (O b (off+4))=some (.string x4)):
  E 12 #[Sq b off 5 cap] w (Rw (.bool (Fl.aq [x0.toList,x1.toList,x2.toList,x3.toList,x4.toList])) w):=by
 rcases Fl.di x0.toList with h|h|h|h|h|h|h|h|h|h|h|h
 all_goals obtain⟨k1,k2,k3,k4,k5,k6,k7,k8,k9,k10,k11⟩:=h
 case inr.inr.inr.inr.inr.inr.inr.inr.inr.inr.inl=>
  go_enter func12,ntmps12
  go_wp2_with (first|(go_at_call_of 27 (string x1);refine(Jy x1 _ h1).mono ?_;rintro e w' ⟨rfl,rfl⟩)|(go_at_call_of 27 (string x2);refine(Jy x2 _ h2).mono ?_;rintro e w' ⟨rfl,rfl⟩)|(go_at_call_of 28 (string x2);refine(zww x2 _ h2).mono ?_;rintro e w' ⟨rfl,rfl⟩)|(go_at_call_of 28 (string x4);refine(zww x4 _ h4).mono ?_;rintro e w' ⟨rfl,rfl⟩)|(go_at_call 29;refine(yz7 _).mono ?_;rintro e w' ⟨rfl,rfl⟩)|(go_at_call 30;refine(zm9 _ signList x3 _ (ys0 _)).mono ?_;rintro e w' ⟨rfl,rfl⟩))
  all_goals (go_ret;exact⟨Zr (by simp_all[Fl.aq,ytv,ct,bY,cV,bz,cJ,dO,gv,ig,ei,eH,eP]<;>omega),bA⟩)
 all_goals
  go_enter func12,ntmps12
  go_wp2_with (first|(go_at_call_of 27 (string x1);refine(Jy x1 _ h1).mono ?_;rintro e w' ⟨rfl,rfl⟩)|(go_at_call_of 27 (string x2);refine(Jy x2 _ h2).mono ?_;rintro e w' ⟨rfl,rfl⟩)|(go_at_call_of 28 (string x2);refine(zww x2 _ h2).mono ?_;rintro e w' ⟨rfl,rfl⟩))
  all_goals (go_ret;exact⟨Zr (by simp_all[Fl.aq,ct,bY,cV,bz,cJ,dO,gv,ig,ei,eH,eP]),Below.refl _ _⟩)
def line_6(b off n cap:Nat)(x0 x1 x2:ByteArray)(w:World)(hn:6<=n)(hm:n<=maxLen)(h1:x1.size<=maxLen)(h2:x2.size<=maxLen)
  (c0:w.cell? (O b off)=some (.string x0)) (c1:w.cell? (O b (off+1))=some (.string x1)) (c2:w.cell? (O b (off+2))=some (.string x2)):
  E 12 #[Sq b off n cap] w (Rq (.bool false) w):=by
 unfold maxLen at hm;have n1:((n:Int)==1)=false:=beq_eq_false_iff_ne.2 (by omega);have n2:((n:Int)==2)=false:=beq_eq_false_iff_ne.2 (by omega);have n3:((n:Int)==3)=false:=beq_eq_false_iff_ne.2 (by omega)
 have n5:((n:Int) !=5)=true:=by rw[bne_iff_ne];omega
 rcases Fl.di x0.toList with h|h|h|h|h|h|h|h|h|h|h|h
 all_goals obtain⟨k1,k2,k3,k4,k5,k6,k7,k8,k9,k10,k11⟩:=h
 all_goals
  go_enter func12,ntmps12
  go_wp2_with (first|(go_at_call_of 27 (string x1);refine(Jy x1 _ h1).mono ?_;rintro e w' ⟨rfl,rfl⟩)|(go_at_call_of 27 (string x2);refine(Jy x2 _ h2).mono ?_;rintro e w' ⟨rfl,rfl⟩)|(go_at_call_of 28 (string x2);refine(zww x2 _ h2).mono ?_;rintro e w' ⟨rfl,rfl⟩))
  all_goals (go_ret;exact⟨rfl,rfl⟩)
def ys1{a:Addr}(h:w.cell? a=some v):a.block<w.heap.size:=Qe w a h
def ybx(v:Value)(ss:List ByteArray)(w:World)(hv:zgv w v ss)(b0:ss≠[]):E 12 #[v] w (Rw (.bool (Fl.aq (bl ss))) w):=by
 obtain⟨ao,cap,rfl,hl,cD,hc⟩:=hv;obtain⟨b,off,rfl,a0⟩:=hc b0
 match ss,b0 with
 |[x0],_=>
  refine(line_1 b off cap x0 w (cD x0 (by simp)) (by simpa using a0 0 (by simp))).mono ?_;rintro e w' ⟨rfl,rfl⟩;exact⟨rfl,Below.refl _ _⟩
 |[x0,x1],_=>
  refine(line_2 b off cap x0 x1 w (cD x0 (by simp)) (by simpa using a0 0 (by simp)) (cD x1 (by simp)) (by simpa using a0 1 (by simp))).mono ?_;rintro e w' ⟨rfl,rfl⟩;exact⟨rfl,Below.refl _ _⟩
 |[x0,x1,x2],_=>
  refine(line_3 b off cap x0 x1 x2 w (cD x0 (by simp)) (by simpa using a0 0 (by simp)) (cD x1 (by simp)) (by simpa using a0 1 (by simp)) (cD x2 (by simp)) (by simpa using a0 2 (by simp))).mono ?_;rintro e w' ⟨rfl,rfl⟩;exact⟨rfl,Below.refl _ _⟩
 |[x0,x1,x2,x3],_=>
  refine(line_4 b off cap x0 x1 x2 x3 w (cD x0 (by simp)) (by simpa using a0 0 (by simp)) (cD x1 (by simp)) (by simpa using a0 1 (by simp)) (cD x2 (by simp)) (by simpa using a0 2 (by simp)) (cD x3 (by simp)) (by simpa using a0 3 (by simp))).mono ?_;rintro e w' ⟨rfl,rfl⟩;exact⟨rfl,Below.refl _ _⟩
 |[x0,x1,x2,x3,x4],_=>
  have d3:w.cell? (O b (off+3))=some (.string x3):=(by simpa using a0 3 (by simp));have d4:w.cell? (O b (off+4))=some (.string x4):=(by simpa using a0 4 (by simp));exact line_5 b off cap x0 x1 x2 x3 x4 w (cD x1 (by simp)) (cD x2 (by simp)) (cD x4 (by simp)) (by simpa using a0 0 (by simp)) (by simpa using a0 1 (by simp)) (by simpa using a0 2 (by simp))
   (λo=>by rw[Qf w o _ (ys1 d3)];exact d3) (λo=>by rw[Qf w o _ (ys1 d4)];exact d4)
 |x0::x1::x2::x3::x4::x5::r,_=>
  refine(line_6 b off _ cap x0 x1 x2 w (by simp) hl (cD x1 (by simp)) (cD x2 (by simp)) (by simpa using a0 0 (by simp)) (by simpa using a0 1 (by simp)) (by simpa using a0 2 (by simp))).mono ?_;rintro e w' ⟨rfl,rfl⟩;exact⟨by simp[bl,Fl.aq],Below.refl _ _⟩
def Zt(j:Nat):Prop:=1<=j/\j<=13/\j≠7/\j≠9/\j≠11
def rTy(j:Nat):TypeId:=if j<=4 then 9 else if j=8 then 5 else if j=10 then 91 else 3
def rSz(j:Nat):Nat:=if j=10 then 10 else 1
structure Yn where
 n:Nat->Nat
 xs:Nat->Vs
 v:Nat->Value
 ag:Bool
 am:Nat
 N:Nat
 leq:Value
 loc:Nat
 aZ:Value
 fY:Nat->Prop
 wk:World
def rrC(Pb:Nat)(m:Yn)(j:Nat):Value:=if j=0 then ptr Pb else if j=7 then .bool m.ag else if j=9 then I m.am else m.v j
def rpC(m:Yn)(j:Nat):Value:=if j=0 then I m.N else if j=1 then m.leq else if j=4 then I m.loc else if j=5 then m.aZ else m.v (10+j)
structure Zu(lo base Rb Pb:Nat)(w0 w:World)(m:Yn):Prop where
 bel:Below lo w0 w
 bU:lo<=Rb/\lo<=Pb/\Rb<base/\Pb<base/\Rb≠Pb/\base<=w.heap.size/\lo<=base
 cR:Ze w Rb 11 (rrC Pb m)
 cP:Ze w Pb 6 (rpC m)
 own:∀j,Zt j->w.ownsRow base (rTy j) (rSz j) (m.v j) (m.n j) (m.xs j)
 ij:∀i j b,Zt i->Zt j->i≠j->(m.v i).ownBlock=some b->(m.v j).ownBlock≠some b
 kp:∀b,m.fY b->base<=b/\b<w.heap.size/\w.heap[b]?=m.wk.heap[b]?/\∀j,Zt j->(m.v j).ownBlock≠some b
def Yn.app(m:Yn)(j:Nat)(v:Value)(news:Vs):Yn:={m with n:=λi=>if i=j then m.n j+1 else m.n i,xs:=λi=>if i=j then m.xs j++news else m.xs i,v:=λi=>if i=j then v else m.v i}
section
variable{m:Yn}
def Zu.below(h:Zu lo base Rb Pb w0 w m)(hb:D w w'):Zu lo base Rb Pb w0 w' m:=by
 obtain⟨b1,b2,b3,b4,b5,b6,b7⟩:=h.bU;have hz:=hb.size;have q:∀b,b<w.heap.size->w'.heap[b]?=w.heap[b]?:=λb a0=>hb.block b a0;exact{bel:=h.bel.trans (hb.mono (by omega)),bU:=⟨b1,b2,b3,b4,b5,by omega,b7⟩,cR:=h.cR.block (q _ (by omega)),cP:=h.cP.block (q _ (by omega)),own:=λj hj=>Yy (h.own j hj) (λb hb=>q b ((h.own j hj).lt b hb).2),ij:=h.ij,kp:=λb hb=>have k:=h.kp b hb;⟨k.1,Qj k.2.1 hz,(q b k.2.1).trans k.2.2.1,k.2.2.2⟩}
def Zu.drew(h:Zu lo base Rb Pb w0 w m):Zu lo base Rb Pb w0 w.drew m:=h.below dA
def Zu.shape(h:Zu lo base Rb Pb w0 w m)(j:Nat)(hj:Zt j):∃a c,m.v j=A a (m.n j) c:=by
 rcases(h.own j hj).2 with⟨h1,h2⟩|⟨g,cp,cur,h1,_⟩
 ·exact⟨none,0,by rw[h1,h2]⟩
 exact⟨_,cp,h1⟩
def Zu.grow(h:Zu lo base Rb Pb w0 w m)(j:Nat)(hj:Zt j)(g0:D w W3)(h0:W4.ownsRow base (rTy j) (rSz j) v' (m.n j+1) (m.xs j++news))(b0:W3.grownBy W4 (m.v j).ownBlock)(f0:v'.ownBlock=(m.v j).ownBlock\/v'.ownBlock=some W3.heap.size):
  Below lo w0 W4/\base<=W4.heap.size/\(∀b,b<base->W4.heap[b]?=W3.heap[b]?)/\(∀i,Zt i->W4.ownsRow base (rTy i) (rSz i) ((m.app j v' news).v i) ((m.app j v' news).n i) ((m.app j v' news).xs i))/\
  (∀i k b,Zt i->Zt k->i≠k->((m.app j v' news).v i).ownBlock=some b->((m.app j v' news).v k).ownBlock≠some b)/\
  (∀b,m.fY b->base<=b/\b<W4.heap.size/\W4.heap[b]?=m.wk.heap[b]?/\∀i,Zt i->((m.app j v' news).v i).ownBlock≠some b):=by
 have c0:=h.below g0;obtain⟨b1,b2,b3,b4,b5,b6,b7⟩:=c0.bU;have e0:=λi hi=>(h.own i hi).lt;have i0:=b0.size;have j0:=g0.size;refine⟨c0.bel.grown b0 (by omega) (λk hk=>by have:=(e0 j hj k hk).1;omega),by omega,λb hb=>b0.block b (by omega) (λhh=>by have:=(e0 j hj b hh.symm).1;omega),λi hi=>?_,λi k b hi hk hne hbi hbk=>?_,λb hb=>?_⟩
 ·show W4.ownsRow base (rTy i) (rSz i) (if i=j then v' else m.v i) (if i=j then m.n j+1 else m.n i) (if i=j then m.xs j++news else m.xs i)
  by_cases a0:i=j
  ·subst a0;simp only[if_true];exact h0
  simp only[a0,if_false];refine Yy (c0.own i hi) (λb hb=>b0.block b ((c0.own i hi).lt b hb).2 (λhh=>h.ij i j b hi hj a0 hb hh.symm))
 ·have hv:∀t,(m.app j v' news).v t=if t=j then v' else m.v t:=λ_=>rfl
  rw[hv]at hbi hbk
  by_cases a0:i=j
  ·have d0:k≠j:=λhh=>hne (a0.trans hh.symm)
   rw[G a0]at hbi;rw[U d0]at hbk;rcases f0 with h1|h1
   ·rw[h1]at hbi;exact h.ij j k b hj hk (Ne.symm d0) hbi hbk
   rw[h1]at hbi;simp only[Ql]at hbi;have:=(e0 k hk b hbk).2;omega
  rw[U a0]at hbi
  by_cases d0:k=j
  ·rw[G d0]at hbk
   rcases f0 with h1|h1
   ·rw[h1]at hbk;exact h.ij i j b hi hj a0 hbi hbk
   rw[h1]at hbk;simp only[Ql]at hbk;have:=(e0 i hi b hbi).2;omega
  rw[U d0]at hbk;exact h.ij i k b hi hk hne hbi hbk
 obtain⟨k1,k2,k3,k4⟩:=c0.kp b hb;refine⟨k1,by omega,(b0.block b k2 (λhh=>k4 j hj hh.symm)).trans k3,λi hi=>?_⟩;show (if i=j then v' else m.v i).ownBlock≠some b
 by_cases a0:i=j
 ·rw[G a0]
  rcases f0 with h1|h1
  ·rw[h1];exact k4 j hj
  rw[h1];intro hh;have:=(h.kp b hb).2.1;simp only[Ql]at hh;omega
 rw[U a0];exact k4 i hi
def Zu.jN(h:Zu lo base Rb Pb w0 w m)(j:Nat)(hj:Zt j)(d0:j<=10)(c0:D w W3)(e0:W4.ownsRow base (rTy j) (rSz j) v' (m.n j+1) (m.xs j++news))(f0:W3.grownBy W4 (m.v j).ownBlock)(g0:v'.ownBlock=(m.v j).ownBlock\/v'.ownBlock=some W3.heap.size):
  Zu lo base Rb Pb w0 (W4.setCell (O Rb j) v') (m.app j v' news):=by
 have a0:=h.below c0;obtain⟨b1,b2,b3,b4,b5,b6,b7⟩:=a0.bU;obtain⟨g1,g2,g3,g4,g5,g6⟩:=h.grow j hj c0 e0 f0 g0;refine{bel:=g1.setCell (by show lo<=Rb;omega) _,bU:=⟨b1,b2,b3,b4,b5,by rw[Zy];omega,b7⟩,cR:= ?_,cP:= ?_,own:=λi hi=>Yy (g4 i hi) (λb hb=>Zx _ _ _ _ _ (by have:=((g4 i hi).lt b hb).1;omega)),ij:=g5,kp:=λb hb=>have k:=g6 b hb;⟨k.1,by rw[Zy];exact k.2.1,(Zx _ _ _ _ _ (by have:=k.1;omega)).trans k.2.2.1,k.2.2.2⟩}
 ·refine((a0.cR.block (g3 _ b3)).set (j:=j) (by have:=hj.2.1;omega) v').congr (λi hi=>?_)
  obtain⟨h1,h2,h3,h4,h5⟩:=hj
  by_cases b0:i=j
  ·subst b0
   rw[G rfl];show v'=rrC Pb (m.app i v' news) i;unfold rrC;rw[U (by omega),U (by omega),U (by omega)];show v'=if i=i then v' else m.v i;rw[G rfl]
  rw[U b0];show rrC Pb m i=rrC Pb (m.app j v' news) i;unfold rrC
  by_cases i0:i=0
  ·rw[G i0,G i0]
  by_cases i7:i=7
  ·rw[U i0,U i0,G i7,G i7];rfl
  by_cases i9:i=9
  ·rw[U i0,U i0,U i7,U i7,G i9,G i9];rfl
  rw[U i0,U i0,U i7,U i7,U i9,U i9];show m.v i=if i=j then v' else m.v i;rw[U b0]
 refine((a0.cP.block (g3 _ b4)).block (Zx _ _ _ _ _ (Ne.symm b5))).congr (λi hi=>?_);show rpC m i=rpC (m.app j v' news) i;unfold rpC;show (if i=0 then _ else if i=1 then m.leq else if i=4 then _ else if i=5 then m.aZ else m.v (10+i))=(if i=0 then _ else if i=1 then m.leq else if i=4 then _ else if i=5 then m.aZ else(if 10+i=j then v' else m.v (10+i)))
 by_cases i0:i=0
 ·rw[G i0,G i0];rfl
 rw[U (show ¬10+i=j by omega)];rfl
def Zu.nJ(h:Zu lo base Rb Pb w0 w m)(j:Nat)(hj:Zt j)(a0:j=12\/j=13)(c0:D w W3)(d0:W4.ownsRow base (rTy j) (rSz j) v' (m.n j+1) (m.xs j++news))(e0:W3.grownBy W4 (m.v j).ownBlock)(f0:v'.ownBlock=(m.v j).ownBlock\/v'.ownBlock=some W3.heap.size):
  Zu lo base Rb Pb w0 (W4.setCell (O Pb (j - 10)) v') (m.app j v' news):=by
 have b0:=h.below c0;obtain⟨b1,b2,b3,b4,b5,b6,b7⟩:=b0.bU;obtain⟨g1,g2,g3,g4,g5,g6⟩:=h.grow j hj c0 d0 e0 f0;refine{bel:=g1.setCell (by show lo<=Pb;omega) _,bU:=⟨b1,b2,b3,b4,b5,by rw[Zy];omega,b7⟩,cR:= ?_,cP:= ?_,own:=λi hi=>Yy (g4 i hi) (λb hb=>Zx _ _ _ _ _ (by have:=((g4 i hi).lt b hb).1;omega)),ij:=g5,kp:=λb hb=>have k:=g6 b hb;⟨k.1,by rw[Zy];exact k.2.1,(Zx _ _ _ _ _ (by have:=k.1;omega)).trans k.2.2.1,k.2.2.2⟩}
 ·refine((b0.cR.block (g3 _ b3)).block (Zx _ _ _ _ _ b5)).congr (λi hi=>?_)
  show rrC Pb m i=rrC Pb (m.app j v' news) i;unfold rrC;show (if i=0 then ptr Pb else if i=7 then .bool m.ag else if i=9 then I m.am else m.v i)=(if i=0 then ptr Pb else if i=7 then .bool m.ag else if i=9 then I m.am else(if i=j then v' else m.v i));rw[U (show ¬i=j by omega)]
 refine((b0.cP.block (g3 _ b4)).set (j:=j - 10) (by omega) v').congr (λi hi=>?_);show (if i=j - 10 then v' else rpC m i)=rpC (m.app j v' news) i;rcases a0 with rfl|rfl
 ·rcases(show i=0\/i=1\/i=2\/i=3\/i=4\/i=5 by omega) with rfl|rfl|rfl|rfl|rfl|rfl<;>rfl
 rcases(show i=0\/i=1\/i=2\/i=3\/i=4\/i=5 by omega) with rfl|rfl|rfl|rfl|rfl|rfl<;>rfl
end
def Yw(l:L):(⟨l.toArray⟩:ByteArray).toList=l:=by rw[ByteArray.toList_eq]
def bl_mk(ws:List L):bl (ws.map λl=>(⟨l.toArray⟩:ByteArray))=ws:=by
 unfold bl;rw[map_map]
 conv=>rhs;rw[<-map_id ws]
 apply map_congr_left
 intro l _;exact Yw l
def Zi.nX(h:Zi B w v ws):zgv w v (ws.map λl=>(⟨l.toArray⟩:ByteArray)):=by
 obtain⟨ao,cap,h1,h2,h3,h4,h5,h6⟩:=h;refine⟨ao,cap,by rw[length_map];exact h1,by rw[length_map];omega,λs hs=>?_,λhne=>?_⟩
 ·simp only[mem_map]at hs
  obtain⟨l,hl,rfl⟩:=hs;have:=h5 l hl;show l.toArray.size<=maxLen;simp[maxLen];omega
 obtain⟨b,off,e,hb,hc⟩:=h6 (by intro hh;apply hne;rw[hh];rfl);refine⟨b,off,e,λi hi=>?_⟩;rw[length_map]at hi;rw[hc i hi];simp[strV,Qa,hi]
def Xt(h:Zi B w v ws)(x:L):E 30 #[v,Tq x] w (Rq (I (aj ws x)) w):=by
 have:=zm9 v _ (⟨x.toArray⟩:ByteArray) w h.nX;rw[bl_mk,Yw]at this;exact this
def ys2(x:L)(w:World)(hx:x.length<=100000):E 51 #[Tq x,I 9] w (Rq (.tuple #[I (bm x 9).1,.bool (bm x 9).2]) w):=by
 have:=yw0 (⟨x.toArray⟩:ByteArray) 9 w (by show x.toArray.size<=maxLen;simp[maxLen];omega) (by omega);rw[Yw]at this;exact this
structure FlS where
 tag:Nat
 s:aa
def Zp(f:FlS):Vs:=
 if f.tag=0 then [I f.s.kind,I f.s.x,I f.s.aq,I f.s.e.op,.bool f.s.e.a.var,I f.s.e.a.v,.bool f.s.e.b.var,I f.s.e.b.v,K,K]
 else [I (if f.tag=1 then -1 else -2),I 0,I 0,I 0,.bool false,I 0,.bool false,I 0,K,K]
def Jn(l:List FlS):Vs:=l.flatMap Zp
def zz8(f:Fl.Frame):Nat:=if f.kind=6 then 119 else if f.cU then 101 else 105
def Vy(l:List Fl.Frame):Vs:=(l.map λf=>int .u8 (zz8 f:Nat)).reverse
def zew(m:Yn)(n:Nat)(t:cY):Prop:=m.N=n/\∃Lq rb,m.leq=Sq Lq 0 n n/\Yj 0 m.wk Lq rb n t/\(0<n->m.fY Lq)/\∀i,i<n->m.fY (rb i)
structure Zj(r:RS)(fl:List FlS)(t:Nat)(m:Yn):Prop where
 r1:m.n 1=r.au.length/\m.xs 1=r.au.map strV
 r2:m.n 2=r.cells.length/\m.xs 2=r.cells.map strV
 r3:m.n 3=r.ai.length/\m.xs 3=r.ai.map strV
 r4:m.n 4=r.ap.length/\m.xs 4=r.ap.map strV
 r5:m.n 5=r.aE.length/\m.xs 5=Ym r.aE
 r6:m.n 6=r.aI.length/\m.xs 6=Ym r.aI
 r8:m.n 8=r.fr.length/\m.xs 8=Vy r.fr
 fX:m.n 10=fl.length/\m.xs 10=Jn fl
 iS:m.n 12=r.aW.length/\m.xs 12=Ym r.aW
 jx:m.n 13=r.aV.length/\m.xs 13=Ym r.aV
 bg:m.ag=r.ag
 st:m.am=r.am
 nm:∀x∈r.au++(r.cells++(r.ai++r.ap)),x.length<=100000
 lv:r.au.length<=6
 ce:r.cells.length<=6
 ch:r.ai.length<=3
 lo:r.ap.length<=4
 sm:r.am<=16
 fr:r.fr.length<=3
 lw:r.aE.length<=t
 ft:fl.length<=t
 pr:r.aE.length=r.aI.length
 bw:(∀x∈r.aE,x<r.au.length)/\(∀x∈r.aI,x<r.au.length)
 cl:r.aW.length=r.cells.length
 hl:r.aV.length=r.ai.length
 lt:r.ag=true->zew m r.au.length r.tab
section
variable{m:Yn}{fl:List FlS}
def Zu.words(h:Zu lo base Rb Pb w0 w m)(j:Nat)(hj:Zt j)(ws:List L)(hr:m.n j=ws.length/\m.xs j=ws.map strV)(hz:rSz j=1)(hl:ws.length<=100000)(a0:∀x∈ws,x.length<=100000):Zi w.heap.size w (m.v j) ws:=by
 have ho:=h.own j hj;rw[hr.2,hz]at ho;exact Zi.dp ho hl a0
def Zu.au(h:Zu lo base Rb Pb w0 w m)(hr:Zj r fl t m):Zi w.heap.size w (m.v 1) r.au:=h.words 1 (by unfold Zt;omega) _ hr.r1 rfl (by have:=hr.lv;omega) (λx hx=>hr.nm x (by simp[hx]))
def Zu.cells(h:Zu lo base Rb Pb w0 w m)(hr:Zj r fl t m):Zi w.heap.size w (m.v 2) r.cells:=h.words 2 (by unfold Zt;omega) _ hr.r2 rfl (by have:=hr.ce;omega) (λx hx=>hr.nm x (by simp[hx]))
def Zu.ai(h:Zu lo base Rb Pb w0 w m)(hr:Zj r fl t m):Zi w.heap.size w (m.v 3) r.ai:=h.words 3 (by unfold Zt;omega) _ hr.r3 rfl (by have:=hr.ch;omega) (λx hx=>hr.nm x (by simp[hx]))
def Zu.ap(h:Zu lo base Rb Pb w0 w m)(hr:Zj r fl t m):Zi w.heap.size w (m.v 4) r.ap:=h.words 4 (by unfold Zt;omega) _ hr.r4 rfl (by have:=hr.lo;omega) (λx hx=>hr.nm x (by simp[hx]))
def zo2(o:Option dK)(w:World)(e:Ending)(w':World):Prop:=
 D w w'/\(∀a,o=some a->e=.returned (.tuple #[.agg #[.bool a.var,I a.v],.bool true]))/\(o=none->∃v:Int,e=.returned (.tuple #[.agg #[.bool true,I v],.bool false]))
def ztw(h:Zu lo base Rb Pb w0 w m)(hr:Zj r fl t m)(x:L)(hx:x.length<=100000):
  E 53 #[F Rb,Tq x] w (zo2 (r.atom x) w):=by
 have bU:=h.bU
 have f0:Rb<w.heap.size:=by omega
 have g0:Y (∀W,E 51 #[Tq x,I 9] W (Rq (.tuple #[I (bm x 9).1,.bool (bm x 9).2]) W)):=λW=>ys2 x W hx;have h0:Y (∀W,D w W->E 30 #[m.v 2,Tq x] W (Rq (I (aj r.cells x)) W)):=λW hW=>Xt ((h.below hW).cells hr) x;have i0:Y (∀W,D w W->E 30 #[m.v 4,Tq x] W (Rq (I (aj r.ap x)) W)):=λW hW=>Xt ((h.below hW).ap hr) x;obtain⟨c2,k2,d0⟩:=h.shape 2 (by unfold Zt;omega);obtain⟨c4,k4,e0⟩:=h.shape 4 (by unfold Zt;omega);rw[hr.r2.1]at d0;rw[hr.r4.1]at e0;rw[d0]at h0;rw[e0]at i0;have q2:∀o,M (w.alloc o) Rb 2 (A c2 r.cells.length k2):=λo=>(Qf _ _ _ f0).trans (by rw[<-d0];exact h.cR.c 2 (by omega));have q4:∀o,M (w.alloc o) Rb 4 (A c4 r.ap.length k4):=λo=>(Qf _ _ _ f0).trans (by rw[<-e0];exact h.cR.c 4 (by omega));have HB:Y (∀o,D w (w.alloc o)):=λo=>bA;have b0:Y (r.atom x=if(bm x 9).2 then some ⟨false,(bm x 9).1⟩ else if 0<=aj r.cells x then some ⟨true,(aj r.cells x).toNat⟩ else if 0<=aj r.ap x then some ⟨true,r.cells.length+(aj r.ap x).toNat⟩ else none):=rfl;obtain⟨aX,c0⟩:=J (r.atom x);rw[<-c0]at b0⊢;have m0:=aQ r.cells x;have n0:=aQ r.ap x;have o0:=hr.ce;have bB:=hr.lo;generalize (bm x 9).1=nv at*;generalize (bm x 9).2=nb at*;generalize aj r.cells x=pc at*;generalize aj r.ap x=pl at*
 have j0:(r.cells.length:Int)<=6:=by omega
 have k0: -1<=pc/\pc<=6:=by omega
 have l0: -1<=pl/\pl<=4:=by omega
 clear h hr c0 d0 e0
 cases nb with
 |true=>
  have HR:Y (aX=some ⟨false,nv⟩):=(by show _=_;rw[b0.out];rfl)
  go_enter func53,ntmps53
  go_wp2_with fail
  refine(g0 _).mono ?_;rintro e w1 ⟨rfl,a0⟩;rw[a0];clear a0 w1;go_wp2;refine bodyPost_ret (v:=.tuple #[.agg #[.bool false,I nv],.bool true]) (by simp[results,results53,go_sem]) rfl ?_;rw[HR.out];exact⟨HB _,λa ha=>by simp only[Ql]at ha;subst ha;rfl,λh=>by cases h⟩
 |false=>
  go_enter func53,ntmps53
  go_wp2_with fail
  refine(g0 _).mono ?_;rintro e w1 ⟨rfl,a0⟩;rw[a0];clear a0 w1
  go_wp2_with fail
  refine(h0 _ (HB _)).mono ?_;rintro e w1 ⟨rfl,a0⟩;rw[a0];clear a0 w1
  by_cases hp:0<=pc
  ·have HR:Y (aX=some ⟨true,pc.toNat⟩):=by show _=_;rw[b0.out,U (by decide),G hp]
   have e1:((pc.toNat:Nat):Int)=pc:=(by omega);have E1:=Z e1;clear e1;go_wp2;refine bodyPost_ret (v:=.tuple #[.agg #[.bool true,I pc],.bool true]) (by simp[results,results53,go_sem]) rfl ?_;rw[HR.out];exact⟨HB _,λa ha=>by simp only[Ql]at ha;subst ha;rw[E1.out],λh=>by cases h⟩
  have p0:pc<0:=(by omega);clear hp
  go_wp2_with fail
  refine(i0 _ (HB _)).mono ?_;rintro e w1 ⟨rfl,a0⟩;rw[a0];clear a0 w1
  by_cases hl:0<=pl
  ·have HR:Y (aX=some ⟨true,r.cells.length+pl.toNat⟩):=by show _=_;rw[b0.out,U (by decide),U (show ¬0<=pc by omega),G hl]
   have E1:Y (((r.cells.length+pl.toNat:Nat):Int)=(r.cells.length:Int)+pl):=(by show _=_;omega);have hd:=decide_eq_true hl;go_wp2;refine bodyPost_ret (v:=.tuple #[.agg #[.bool true,I ((r.cells.length:Int)+pl)],.bool true]) (by simp[results,results53,go_sem,hl]) rfl ?_;rw[HR.out];exact⟨HB _,λa ha=>by simp only[Ql]at ha;subst ha;rw[E1.out],λh=>by cases h⟩
  have HR:Y (aX=none):=(by show _=_;rw[b0.out,U (by decide),U (show ¬0<=pc by omega),U hl]);go_wp2;refine bodyPost_ret (v:=.tuple #[.agg #[.bool true,I ((r.cells.length:Int)+pl)],.bool false]) (by simp[results,results53,go_sem,hl]) rfl ?_;rw[HR.out];exact⟨HB _,λa ha=>(by cases ha),λh=>⟨_,rfl⟩⟩
end
def hdS(s:aa):aa:=⟨s.kind,s.x,s.aq,s.e,[],[]⟩
def Xd:FlS:=⟨1,noS⟩
def Xq:FlS:=⟨2,noS⟩
def zy6(s:aa):FlS:=⟨0,hdS s⟩
def zt7(Wx:List FlS->List aa->Prop)(p:List FlS)(s:aa):Prop:=
 ((s.kind=3\/s.kind=4)/\s.aZ=[]/\s.aU=[]/\p=[zy6 s])\/
 ((s.kind=5\/s.kind=6)/\∃f1,Wx f1 s.aZ/\((s.aU=[]/\p=zy6 s::(f1++[Xq]))\/∃f2,Wx f2 s.aU/\p=zy6 s::(f1++Xd::(f2++[Xq]))))
def Vc(R:List FlS->aa->Prop):List FlS->List aa->Prop
 |fl,[]=>fl=[]
 |fl,s::l=>∃p q,fl=p++q/\R p s/\Vc R q l
def Us:Nat->List FlS->List aa->Prop
 |0,fl,l=>fl=[]/\l=[]
 |d+1,fl,l=>Vc (zt7 (Us d)) fl l
def Vc.snoc{R:List FlS->aa->Prop}:∀{l:List aa} {fl:List FlS},Vc R fl l->∀{p:List FlS} {s:aa},R p s->Vc R (fl++p) (l++[s])
 |[],fl,h,p,s,hp=>by
  have h0:fl=[]:=h;subst h0;exact⟨p,[],by simp,hp,rfl⟩
 |x::l,fl,h,p,s,hp=>by
  obtain⟨a,b,rfl,h1,h2⟩:=h;exact⟨a,b++p,by simp,h1,Vc.snoc h2 hp⟩
def Us.nil(d:Nat):Us d [] []:=by
 cases d with
 |zero=>exact⟨rfl,rfl⟩
 |succ d=>exact rfl
def zo3(d:Nat)(p:List FlS)(f:Fl.Frame):Prop:=
 ∃f1,Us (d+1) f1 f.first/\((f.cU=false/\p=⟨0,⟨f.kind,0,f.aq,f.e,[],[]⟩⟩::f1)\/(f.cU=true/\∃f2,Us (d+1) f2 f.fu/\p=⟨0,⟨f.kind,0,f.aq,f.e,[],[]⟩⟩::(f1++Xd::f2)))
def FlatF:Nat->List FlS->List Fl.Frame->Prop
 |_,fl,[]=>fl=[]
 |d,fl,f::fs=>∃a b,fl=a++b/\FlatF (d+1) a fs/\zo3 d b f
def Xi(fl:List FlS)(r:RS):Prop:=∃a b,fl=a++b/\Us 4 a r.bK/\FlatF (3 - r.fr.length) b r.fr
def zo3.done{d:Nat}{p:List FlS}{f:Fl.Frame}(h:zo3 d p f)(hk:f.kind=5\/f.kind=6)(hn:f.cU=false->f.fu=[]):zt7 (Us (d+1)) (p++[Xq]) f.done:=by
 obtain⟨f1,h1,h2⟩:=h
 right
 refine⟨hk,f1,h1,?_⟩;rcases h2 with⟨h3,rfl⟩|⟨h3,f2,h4,rfl⟩
 ·left;exact⟨hn h3,rfl⟩
 right;exact⟨f2,h4,by simp;rfl⟩
def zo3.snoc{d:Nat}{p q:List FlS}{f:Fl.Frame}{s:aa}(h:zo3 d p f)(hq:zt7 (Us d) q s):zo3 d (p++q) (if f.cU then{f with fu:=f.fu++[s]} else{f with first:=f.first++[s]}):=by
 obtain⟨f1,h1,h2⟩:=h;rcases h2 with⟨h3,rfl⟩|⟨h3,f2,h4,rfl⟩
 ·rw[h3]
  exact⟨f1++q,Vc.snoc h1 hq,.inl ⟨rfl,by simp⟩⟩
 rw[h3];exact⟨f1,h1,.inr ⟨rfl,f2++q,Vc.snoc h4 hq,by simp⟩⟩
def yf4{fl:List FlS}(h:Xi fl r)(hk:s.kind=3\/s.kind=4)(h1:s.aZ=[])(h2:s.aU=[])(hl:r.fr.length<=3):Xi (fl++[zy6 s]) (r.put s):=by
 obtain⟨a,b,rfl,ha,hb⟩:=h;have hs:∀d,zt7 (Us d) [zy6 s] s:=λd=> .inl ⟨hk,h1,h2,rfl⟩;unfold RS.put
 cases hf:r.fr with
 |nil=>
  rw[hf]at hb;have h0:b=[]:=hb;subst h0;exact⟨a++[zy6 s],[],by simp,Vc.snoc ha (hs 3),rfl⟩
 |cons f fs=>
  rw[hf]at hb;obtain⟨x,y,rfl,hx,hy⟩:=hb;exact⟨a,x++(y++[zy6 s]),by simp,ha,x,y++[zy6 s],rfl,hx,hy.snoc (hs _)⟩
def yqz{fl:List FlS}(h:Xi fl r)(kind aq:Nat)(e:dZ)(hl:r.fr.length<3):Xi (fl++[⟨0,⟨kind,0,aq,e,[],[]⟩⟩]) (r.opens kind aq e):=by
 obtain⟨a,b,rfl,ha,hb⟩:=h
 have e1:3 - (r.fr.length+1)+1=3 - r.fr.length:=by omega
 refine⟨a,b++[⟨0,⟨kind,0,aq,e,[],[]⟩⟩],by simp,ha,b,[_],rfl,?_,[],Us.nil _,.inl ⟨rfl,rfl⟩⟩;show FlatF (3 - (r.fr.length+1)+1) b r.fr;rw[e1];exact hb
def yqy{fl:List FlS}(h:Xi fl r)(hf:r.fr=f::fs)(hd:f.cU=false)(hn:f.fu=[]):Xi (fl++[Xd]) r.bF:=by
 obtain⟨a,b,rfl,ha,hb⟩:=h;rw[hf]at hb;obtain⟨x,y,rfl,hx,f1,h1,h2⟩:=hb;unfold RS.bF;rw[hf];rcases h2 with⟨h3,rfl⟩|⟨h3,_⟩
 ·exact⟨a,x++(⟨0,⟨f.kind,0,f.aq,f.e,[],[]⟩⟩::(f1++Xd::[])),by simp,ha,x,_,rfl,hx,f1,h1,.inr ⟨rfl,[],by rw[show ({f with cU:=true}:Fl.Frame).fu=[] from hn];exact Us.nil _,rfl⟩⟩
 rw[hd]at h3;cases h3
def yj4{fl:List FlS}(h:Xi fl r)(hf:r.fr=f::fs)(hk:f.kind=5\/f.kind=6)(hn:f.cU=false->f.fu=[])(hl:r.fr.length<=3):Xi (fl++[Xq]) r.bG:=by
 obtain⟨a,b,rfl,ha,hb⟩:=h;rw[hf]at hb hl;obtain⟨x,y,rfl,hx,hy⟩:=hb;unfold RS.bG;rw[hf];have hd:=hy.done hk hn
 cases fs with
 |nil=>
  have h0:x=[]:=hx;subst h0;exact⟨a++(y++[Xq]),[],by simp,Vc.snoc ha hd,rfl⟩
 |cons g gs=>
  obtain⟨u,v,rfl,hu,hv⟩:=hx;simp only[length_cons]at hl hd hu hv;have e1:3 - (gs.length+1+1)+1=3 - (gs.length+1):=(by omega);refine⟨a,u++(v++(y++[Xq])),by simp,ha,u,v++(y++[Xq]),rfl,?_,?_⟩
  ·simp only[length_cons];rw[<-e1];exact hu
  simp only[length_cons];rw[<-e1];exact hv.snoc hd
def flatR0:Xi [] RS.zero:=⟨[],[],rfl,Us.nil 4,rfl⟩
def dsV(ds:List (aa×Value×Value)):Vs:=ds.flatMap λx=>Xj x.1 x.2.1 x.2.2
def zt8(s:aa)(a b:Value):(Xj s a b).length=10:=rfl
def dsV_get(ds:List (aa×Value×Value))(i j:Nat)(hi:i<ds.length)(hj:j<10)(x:aa×Value×Value)(hx:ds[i]?=some x):(dsV ds)[i*10+j]?=some ((Xj x.1 x.2.1 x.2.2).getD j undef):=by
 induction ds generalizing i with
 |nil=>simp at hi
 |cons y ds ih=>
  unfold dsV at*;rw[flatMap_cons]
  cases i with
  |zero=>
   simp only[getElem?_cons_zero,Ql]at hx;subst hx;rw[Nat.zero_mul,Nat.zero_add,getElem?_append_left (by rw[zt8];exact hj),Qa,Qb (by rw[zt8];exact hj)];rfl
  |succ i=>
   simp only[getElem?_cons_succ]at hx;rw[getElem?_append_right (by rw[zt8];omega),zt8,show (i+1)*10+j - 10=i*10+j by omega];exact ih i (by simpa using hi) hx
def BdS(B:Nat)(w:World)(ov:Value)(b:Nat):Prop:=B<=b/\b<w.heap.size/\ov.ownBlock≠some b
structure zs6(d B:Nat)(w:World)(ds:List (aa×Value×Value))(ov:Value):Prop where
 own:w.ownsRow B 91 10 ov ds.length (dsV ds)
 bd:∀x∈ds,Zh d (BdS B w ov) w x.2.1 x.1.aZ/\Zh d (BdS B w ov) w x.2.2 x.1.aU
 hz:B<=w.heap.size
def zs6.nil(d:Nat)(w:World):zs6 d w.heap.size w [] K:=⟨⟨rfl,.inl ⟨rfl,rfl⟩⟩,λx hx=>(by cases hx),lE⟩
def zs6.below{ds:List (aa×Value×Value)}(h:zs6 d B w ds ov)(hb:D w w'):zs6 d B w' ds ov:=by
 have hz:=hb.size;have hk:∀b,BdS B w ov b->BdS B w' ov b:=λb hb=>⟨hb.1,by have:=hb.2.1;omega,hb.2.2⟩;have hw:∀b,BdS B w ov b->w'.heap[b]?=w.heap[b]?:=λb hb'=>hb.block b hb'.2.1;exact⟨Yy h.own (λb hv=>hb.block b (h.own.lt b hv).2),λx hx=>⟨Zh.kept hk hw _ _ _ (h.bd x hx).1,Zh.kept hk hw _ _ _ (h.bd x hx).2⟩,by have:=h.hz;omega⟩
def zs6.push{ds:List (aa×Value×Value)}{ov' bv o2:Value}(h:zs6 d B w ds ov)(hb:D w W3)(h1:Zh d (BdS B W3 ov) W3 bv s.aZ)(h2:Zh d (BdS B W3 ov) W3 o2 s.aU)
  (ho:W4.ownsRow B 91 10 ov' (ds.length+1) (dsV ds++Xj s bv o2)) (hg:W3.grownBy W4 ov.ownBlock) (a0:ov'.ownBlock=ov.ownBlock\/ov'.ownBlock=some W3.heap.size):zs6 d B W4 (ds++[(s,bv,o2)]) ov':=by
 have h3:=h.below hb;have hz:=hg.size
 have hk:∀b,BdS B W3 ov b->BdS B W4 ov' b:=λb hb=>⟨hb.1,by have:=hb.2.1;omega,λhh=>by
  rcases a0 with e|e
  ·rw[e]at hh;exact hb.2.2 hh
  rw[e]at hh;simp only[Ql]at hh;have:=hb.2.1;omega⟩
 have hw:∀b,BdS B W3 ov b->W4.heap[b]?=W3.heap[b]?:=λb hb'=>hg.block b hb'.2.1 (Ne.symm hb'.2.2);refine⟨?_,λx hx=>?_,by have:=h3.hz;omega⟩
 ·rw[length_append,show dsV (ds++[(s,bv,o2)])=dsV ds++Xj s bv o2 by simp[dsV]];exact ho
 rcases mem_append.1 hx with hx|hx
 ·exact⟨Zh.kept hk hw _ _ _ (h3.bd x hx).1,Zh.kept hk hw _ _ _ (h3.bd x hx).2⟩
 simp only[mem_singleton]at hx;subst hx;exact⟨Zh.kept hk hw _ _ _ h1,Zh.kept hk hw _ _ _ h2⟩
def zs6.closed{ds:List (aa×Value×Value)}(h:zs6 d B w ds ov)(hl:ds.length<=16):Zh (d+1) (λb=>B<=b/\b<w.heap.size) w ov (ds.map (·.1)):=by
 rcases h.own.2 with⟨h1,h2⟩|⟨g,cap,cur,h1,h2,h3,h4,h5,h6,h7⟩
 ·have:ds=[]:=Qi h2
  subst this;exact⟨none,0,h1,by simp,by simp[maxLen],by simp,λhh=>absurd rfl hh⟩
 have a0:g<w.heap.size:=Classical.byContradiction λhn=>by rw[Array.getElem?_eq_none (by omega)]at h3;cases h3
 refine⟨_,cap,by rw[length_map];exact h1,by rw[length_map];exact h4,h5,by rw[length_map];exact hl,λb0=>⟨g,rfl,⟨h2,a0⟩,λi hi=>?_⟩⟩;rw[length_map]at hi;have hx:ds[i]?=some ds[i]:=Qb hi
 have hs:(ds.map (·.1)).getD i noS=ds[i].1:=by rw[Qa,getElem?_map,hx];rfl
 rw[hs];have hm:=h.bd ds[i] (getElem_mem hi);refine⟨ds[i].2.1,ds[i].2.2,λj hj=>?_,Zh.kept (λb hb=>⟨hb.1,hb.2.1⟩) (λ_ _=>rfl) _ _ _ hm.1,Zh.kept (λb hb=>⟨hb.1,hb.2.1⟩) (λ_ _=>rfl) _ _ _ hm.2⟩;have h8:=h.own.cells (g:=g) (by rw[h1];rfl) (i*10+j) _ (dsV_get ds i j hi hj _ hx)
 have h9:((O g 0):Addr).add (i*10+j)=(O g (i*10+j)):=by unfold Addr.add;split<;>simp_all
 rw[h9]at h8;exact h8
def zp4(w:World)(v:Value)(FL:List FlS):Prop:=
 ∃fa fc,v=A fa FL.length fc/\FL.length<=fc/\fc<=maxLen/\FL.length<=100000/\(FL≠[]->∃Fb,fa=some (O Fb 0)/\Fb<w.heap.size/\∀k,k<FL.length->∀j,j<10->w.cell? (O Fb (k*10+j))=some ((Zp (FL.getD k Xq)).getD j undef))
def zp4.below{FL:List FlS}(h:zp4 w v FL)(hb:D w w'):zp4 w' v FL:=by
 obtain⟨fa,fc,h1,h2,h3,h4,h5⟩:=h;refine⟨fa,fc,h1,h2,h3,h4,λa0=>?_⟩;obtain⟨Fb,e,hz,hc⟩:=h5 a0;exact⟨Fb,e,Qj hz hb.size,λk hk j hj=>cT hb hz (hc k hk j hj)⟩
def Stop(rest:List FlS):Prop:=rest=[]\/∃f r,rest=f::r/\f.tag≠0
def bE(l:List FlS):Nat:=l.countP λf=>f.tag==0
def Up(a b:List FlS):bE (a++b)=bE a+bE b:=by simp[bE]
def Vc.bE{R:List FlS->aa->Prop}(hR:∀p s,R p s->1<=bE p):∀{l:List aa} {fl:List FlS},Vc R fl l->l.length<=Go.Proofs.YtgmbnnpnefniiaaGreatDoor.bE fl
 |[],_,_=>Nat.zero_le _
 |s::l,fl,h=>by
  obtain⟨p,q,rfl,h1,h2⟩:=h;rw[Up,length_cons];have:=hR p s h1;have:=Vc.bE hR h2;omega
def zt7.bE{Wx:List FlS->List aa->Prop}{p:List FlS}{s:aa}(h:zt7 Wx p s):1<=Go.Proofs.YtgmbnnpnefniiaaGreatDoor.bE p:=by
 have hc:∀l,1<=Go.Proofs.YtgmbnnpnefniiaaGreatDoor.bE (zy6 s::l):=λl=>by simp[Go.Proofs.YtgmbnnpnefniiaaGreatDoor.bE,zy6]
 rcases h with⟨_,_,_,rfl⟩|⟨_,f1,_,⟨_,rfl⟩|⟨f2,_,rfl⟩⟩
 ·exact hc _
 ·exact hc _
 exact hc _
def Us.bE{d:Nat}{fl:List FlS}{l:List aa}(h:Us d fl l):l.length<=Go.Proofs.YtgmbnnpnefniiaaGreatDoor.bE fl:=by
 cases d with
 |zero=>rw[h.2];exact Nat.zero_le _
 |succ d=>exact Vc.bE (λp s h=>zt7.bE h) h
def Zu.aside{m:Yn}(h:Zu lo base Rb Pb w0 w m)(a0:Below lo w0 w')(hz:base<=w'.heap.size)(hk:∀b,b=Rb\/b=Pb\/(∃j,Zt j/\(m.v j).ownBlock=some b)\/m.fY b->w'.heap[b]?=w.heap[b]?)(hs:w.heap.size<=w'.heap.size):Zu lo base Rb Pb w0 w' m:=by
 obtain⟨b1,b2,b3,b4,b5,b6,b7⟩:=h.bU;exact{bel:=a0,bU:=⟨b1,b2,b3,b4,b5,hz,b7⟩,cR:=h.cR.block (hk _ (.inl rfl)),cP:=h.cP.block (hk _ (.inr (.inl rfl))),own:=λj hj=>Yy (h.own j hj) (λb hb=>hk b (.inr (.inr (.inl ⟨j,hj,hb⟩)))),ij:=h.ij,kp:=λb hb=>have k:=h.kp b hb;⟨k.1,Qj k.2.1 hs,(hk b (.inr (.inr (.inr hb)))).trans k.2.2.1,k.2.2.2⟩}
def Zg(k x:Int)(op:Int)(av:Bool)(an:Int)(bv:Bool)(bn:Int):Array Value:=#[I k,I x,I 0,I op,.bool av,I an,.bool bv,I bn,K,K]
section
variable{m:Yn}{fl:List FlS}
def Zj.ip(h:Zj r fl t m)(x:L)(v:Value)(hx:x.length<=100000)(hl:r.ap.length<4):Zj {r with ap:=r.ap++[x]} fl t (m.app 4 v [strV x]):=
 {
  r1:=h.r1,r2:=h.r2,r3:=h.r3,r4:=⟨by show m.n 4+1=_;rw[h.r4.1];simp,by show m.xs 4++_=_;rw[h.r4.2];simp⟩,r5:=h.r5,r6:=h.r6,r8:=h.r8,fX:=h.fX,iS:=h.iS,jx:=h.jx,bg:=h.bg,st:=h.st,nm:=λy hy=>by
   simp only[mem_append,mem_singleton]at hy;rcases hy with h1|h1|h1|h1|rfl
   ·exact h.nm y (by simp[h1])
   ·exact h.nm y (by simp[h1])
   ·exact h.nm y (by simp[h1])
   ·exact h.nm y (by simp[h1])
   exact hx
  lv:=h.lv,ce:=h.ce,ch:=h.ch,lo:=by simp;omega,sm:=h.sm,fr:=h.fr,lw:=h.lw,ft:=h.ft,pr:=h.pr,bw:=h.bw,cl:=h.cl,hl:=h.hl,lt:=h.lt}
def zi2{e:TypeId}{x:Value}{N:Nat}(hN:w.heap.size=N):∀j u,[x][j]?=some u->(w.alloc (.cells #[x] e)).cell? (((O N 0):Addr).add j)=some u:=by subst hN;exact Xo
def zrv{P:Program}{fn:Func}{p q:Tmp}{ty:TypeId}(h:fn.results=#[.cell p ty,.tmp q])(tmps:Array Value)(w:World)(ad:Addr)(v:Value)(ha:tmps.getD p undef=.pointer (some ad))(hl:(loadVar ty ad).run P w=.ok v w):
  (results fn tmps).run P w=.ok (.tuple #[v,tmps.getD q undef]) w:=by
 have ha':tmps[p]?.getD undef=.pointer (some ad):=by rw[<-ha,Array.getD_eq_getD_getElem?]
 simp only[results,h];simp[Sem.run_bind,Result.andThen,ha',asAddr,hl]
def Tryz.infoStmt10:(Tryz.prog.info? 91).map (·.size)=some 10:=by kernel_rfl
def zyx(u:World)(o:Obj)(k:Nat)(hk:u.heap.size=k):(u.alloc o).heap[k]?=some o:=by subst hk;exact heap_alloc_last u o
def Yp:Array Value:=#[I 0,I 0,I 0,I 0,.bool false,I 0,.bool false,I 0,K,K]
end
def zu5(d:Nat)(w:World)(k:Nat)(l:List aa)(e:Ending)(w':World):Prop:=
 D w w'/\∃oa on oc,e=.returned (.tuple #[A oa on oc,I k])/\Zh d (λb=>w.heap.size<=b/\b<w'.heap.size) w' (A oa on oc) l
def zev(d:Nat)(FL:List FlS)(v:Value):Prop:=
 ∀(w:World) (i:Nat) (fl:List FlS) (l:List aa) (rest:List FlS),zp4 w v FL->i<=FL.length->FL.drop i=fl++rest->Us d fl l->Stop rest->E 14 #[v,I i] w (zu5 d w (i+fl.length) l)
def Je{FL:List FlS}{f:FlS}{r:List FlS}(h:FL.drop i=f::r):i<FL.length/\FL.getD i Xq=f/\FL.drop (i+1)=r:=by
 have hi:i<FL.length:=Classical.byContradiction λhn=>by rw[drop_of_length_le (by omega)]at h;cases h
 rw[drop_eq_getElem_cons hi]at h;injection h with h1 h2;exact⟨hi,by rw[Qa,Qb hi];exact h1,h2⟩
def yz8{FL:List FlS}{a b:List FlS}(h:FL.drop i=a++b)(hi:i<=FL.length):FL.drop (i+a.length)=b/\i+a.length<=FL.length:=by
 have h1:(FL.drop i).length=FL.length - i:=by simp
 have h2:FL.drop (i+a.length)=(FL.drop i).drop a.length:=by rw[drop_drop]
 rw[h]at h1 h2;simp only[length_append]at h1;exact⟨by rw[h2];simp,by omega⟩
def zp4.aq{FL:List FlS}{Fb fc:Nat}{n:Nat}(h:zp4 w (Sq Fb 0 n fc) FL)(i:Nat)(hi:i<FL.length):∀j,j<10->w.cell? (O Fb (i*10+j))=some ((Zp (FL.getD i Xq)).getD j undef):=by
 obtain⟨fa,c,h1,h2,h3,h4,h5⟩:=h;obtain⟨b,e,hz,hc⟩:=h5 (by rintro rfl;simp at hi);simp only[slice.injEq]at h1;obtain⟨h6,-,-⟩:=h1;rw[e]at h6;simp only[Ql,Addr.mk.injEq]at h6;rw[h6.1];exact hc i hi
def yf5(FL:List FlS)(v:Value):zev 0 FL v:=by
 intro w i fl l rest hF hi hd hl hs;obtain⟨rfl,rfl⟩:=hl;simp only[nil_append]at hd;have a0:Y (zu5 0 w (i+([]:List FlS).length) [] (.returned (.tuple #[K,I i])) w):=⟨Below.refl _ _,none,0,0,rfl,rfl,rfl⟩;obtain⟨fa,fc,rfl,h2,h3,h4,h5⟩:=id hF
 have e0:(i:Int)<=(FL.length:Int):=by omega
 have f0:(FL.length:Int)<=100000:=by omega
 rcases hs with rfl|⟨f,r,rfl,hf⟩
 ·have hn:¬(i:Int)<(FL.length:Int):=by
   intro hh
   have:i<FL.length:=by omega
   rw[drop_eq_getElem_cons this]at hd;cases hd
  clear hF h2 h3 h4 h5 hd
  go_enter func14,ntmps14
  go_wp2_with fail
  go_loopw [1,6] (λiv ov wr=>iv=I i/\ov=K/\wr=w) (λ_ _ _=>0)
  case atStart=>exact⟨rfl,rfl,rfl⟩
  case round=>
   obtain⟨rfl,rfl,b0⟩:=hrel;rw[b0];clear b0;go_wp2
   go_ret2
   exact a0
 obtain⟨g1,g2,g3⟩:=Je hd;obtain⟨Fb,rfl,hz,hc⟩:=h5 (by rintro rfl;simp at g1);have c0:=hc i g1 0 (by omega);rw[g2,Nat.add_zero]at c0;obtain⟨kk,d0⟩:∃kk:Int,(Zp f).getD 0 undef=I kk/\kk<0:=by
  unfold Zp;rw[U hf];refine⟨_,rfl,?_⟩
  split<;>decide
 rw[d0.1]at c0
 have g0:¬0<=kk:=by omega
 have hn:(i:Int)<(FL.length:Int):=by omega
 clear hF h2 h3 h4 h5 hd hc d0 g2 g3
 go_enter func14,ntmps14
 go_wp2_with fail
 go_loopw [1,6] (λiv ov wr=>iv=I i/\ov=K/\wr=w) (λ_ _ _=>0)
 case atStart=>exact⟨rfl,rfl,rfl⟩
 case round=>
  obtain⟨rfl,rfl,b0⟩:=hrel;rw[b0];clear b0;go_wp2
  go_ret2
  exact a0
end Go.Proofs.YtgmbnnpnefniiaaGreatDoor
