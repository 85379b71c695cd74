import Derived.Test.YtjmcibbdedlcoaaGreatDoorM11
import Derived.Laws.CopyOwn
set_option linter.all false
set_option maxRecDepth 100000
set_option maxHeartbeats 40000000
namespace Go.Proofs.YtjmcibbdedlcoaaGreatDoor
open Go.RowKit Go.Proofs.Tryz List World Value Fl
variable{w w0 w' W3 W4:World}{v v' ov:Value}{lo base Rb Pb B d Lq n N i k j:Nat}{news:Vs}{ws:List K}{l:List aa}{rb:Nat->Nat}{t T:Fl.cG}{r:RS}{s:aa}{f:Fl.Frame}{fs:List Fl.Frame}{e:TypeId}
def yz1(s:ByteArray)(k:Nat)(h:k<s.size)(hp:(s[k].toNat:Int)<97\/122<(s[k].toNat:Int)):dd s.data.toList=false:=by
 unfold dd;rw[yqy fD s k h (by rw[yqz];omega)];rfl
def yhy(s:ByteArray)(h:s.data.toList.all fD=true):dd s.data.toList=(decide (0<s.size) && decide ((s.size:Int)<=6)):=by
 unfold dd;rw[h]
 have e:s.data.toList.length=s.size:=by simp
 rw[e,Bool.true_and];congr 1;simp only[decide_eq_decide];omega
def yhx(s:ByteArray)(w:World)(hs:s.size<=maxLen):F 18 #[.string s] w (Rq (.bool (dd s.data.toList)) w):=by
 unfold maxLen at hs
 go_enter func18,ntmps18
 go_wp2
 go_loop [3] (λi=>∃k:Nat,k<=s.size/\i=I k/\(s.data.toList.take k).all fD=true) (λi=>s.size - (intOf i).toNat)
 case atStart=>exact⟨0,Nat.zero_le _,rfl,rfl⟩
 case round=>
  obtain⟨k,hk,rfl,aH⟩:=hrel;have HA:=A aH;clear aH
  by_cases a0:k<s.size
  ·go_wp2
   ·go_ret;exact⟨Zd (yz1 s k a0 (by omega)).symm,rfl⟩
   ·go_round
    case rel=>exact⟨k+1,by omega,by go_num,zh2 _ s k a0 HA (by rw[yqz];omega)⟩
    case measure=>simp[intOf];omega
   go_ret;exact⟨Zd (yz1 s k a0 (by omega)).symm,rfl⟩
  have HN:=yhy s (by rw[<-zn3 s k a0];exact HA);have HH:=A HN;clear HN;go_wp2
  ·go_ret;exact⟨Zd (by rw[HH.out];simp[*]),rfl⟩
  go_ret;exact⟨Zd (by rw[HH.out];simp[*]),rfl⟩
def Jt(s:ByteArray)(w:World)(hs:s.size<=maxLen):F 18 #[.string s] w (Rq (.bool (dd s.toList)) w):=by
 rw[ByteArray.toList_eq];exact yhx s w hs
def zv4(s:ByteArray)(w:World)(hs:s.size<=maxLen):F 19 #[.string s] w (Rq (.bool (atom s.toList)) w):=by
 go_enter func19,ntmps19
 go_wp2_with (first|(go_at_call 18;refine(Jt s _ hs).mono ?_;rintro e w' ⟨rfl,rfl⟩)|(go_at_call 31;refine(yxv s 9 _ hs (by decide)).mono ?_;rintro e w' ⟨rfl,rfl⟩))
 all_goals (go_ret;exact⟨Zd (by simp_all[atom]),rfl⟩)
def yz2(w:World):F 20 #[] w λe w'=>e=.returned (Sq w.heap.size 0 5 5)/\w'=w.alloc (.cells #[.string ⟨#[43]⟩,.string ⟨#[45]⟩,.string ⟨#[42]⟩,.string ⟨#[60]⟩,.string ⟨#[61,61]⟩] 9):=by
 go_enter func20,ntmps20
 go_wp2;go_ret;exact⟨rfl,rfl⟩
end Go.Proofs.YtjmcibbdedlcoaaGreatDoor
namespace Go.Proofs.YtjmcibbdedlcoaaGreatDoor
open Go.Proofs.Tryz List World Value Fl
variable{w w0 w' W3 W4:World}{v v' ov:Value}{lo base Rb Pb B d Lq n N i k j:Nat}{news:Vs}{ws:List K}{l:List aa}{rb:Nat->Nat}{t T:Fl.cG}{r:RS}{s:aa}{f:Fl.Frame}{fs:List Fl.Frame}{e:TypeId}
namespace Fl
def lV(l:K):Prop:=(l==[108,101,118,101,108])=true/\(l==[98,101,108,111,119])=false/\(l==[99,101,108,108])=false/\(l==[99,104,97,110,110,101,108])=false/\(l==[98,101,103,105,110])=false/\(l==[101,108,115,101])=false/\(l==[101,110,100])=false/\(l==[105,102])=false/\(l==[119,104,105,108,101])=false/\(l==[111,117,116])=false/\(l==[115,101,116])=false
def lU(l:K):Prop:=(l==[108,101,118,101,108])=false/\(l==[98,101,108,111,119])=true/\(l==[99,101,108,108])=false/\(l==[99,104,97,110,110,101,108])=false/\(l==[98,101,103,105,110])=false/\(l==[101,108,115,101])=false/\(l==[101,110,100])=false/\(l==[105,102])=false/\(l==[119,104,105,108,101])=false/\(l==[111,117,116])=false/\(l==[115,101,116])=false
def nr(l:K):Prop:=(l==[108,101,118,101,108])=false/\(l==[98,101,108,111,119])=false/\(l==[99,101,108,108])=true/\(l==[99,104,97,110,110,101,108])=false/\(l==[98,101,103,105,110])=false/\(l==[101,108,115,101])=false/\(l==[101,110,100])=false/\(l==[105,102])=false/\(l==[119,104,105,108,101])=false/\(l==[111,117,116])=false/\(l==[115,101,116])=false
def jY(l:K):Prop:=(l==[108,101,118,101,108])=false/\(l==[98,101,108,111,119])=false/\(l==[99,101,108,108])=false/\(l==[99,104,97,110,110,101,108])=true/\(l==[98,101,103,105,110])=false/\(l==[101,108,115,101])=false/\(l==[101,110,100])=false/\(l==[105,102])=false/\(l==[119,104,105,108,101])=false/\(l==[111,117,116])=false/\(l==[115,101,116])=false
def lT(l:K):Prop:=(l==[108,101,118,101,108])=false/\(l==[98,101,108,111,119])=false/\(l==[99,101,108,108])=false/\(l==[99,104,97,110,110,101,108])=false/\(l==[98,101,103,105,110])=true/\(l==[101,108,115,101])=false/\(l==[101,110,100])=false/\(l==[105,102])=false/\(l==[119,104,105,108,101])=false/\(l==[111,117,116])=false/\(l==[115,101,116])=false
def nk(l:K):Prop:=(l==[108,101,118,101,108])=false/\(l==[98,101,108,111,119])=false/\(l==[99,101,108,108])=false/\(l==[99,104,97,110,110,101,108])=false/\(l==[98,101,103,105,110])=false/\(l==[101,108,115,101])=true/\(l==[101,110,100])=false/\(l==[105,102])=false/\(l==[119,104,105,108,101])=false/\(l==[111,117,116])=false/\(l==[115,101,116])=false
def oP(l:K):Prop:=(l==[108,101,118,101,108])=false/\(l==[98,101,108,111,119])=false/\(l==[99,101,108,108])=false/\(l==[99,104,97,110,110,101,108])=false/\(l==[98,101,103,105,110])=false/\(l==[101,108,115,101])=false/\(l==[101,110,100])=true/\(l==[105,102])=false/\(l==[119,104,105,108,101])=false/\(l==[111,117,116])=false/\(l==[115,101,116])=false
def ph(l:K):Prop:=(l==[108,101,118,101,108])=false/\(l==[98,101,108,111,119])=false/\(l==[99,101,108,108])=false/\(l==[99,104,97,110,110,101,108])=false/\(l==[98,101,103,105,110])=false/\(l==[101,108,115,101])=false/\(l==[101,110,100])=false/\(l==[105,102])=true/\(l==[119,104,105,108,101])=false/\(l==[111,117,116])=false/\(l==[115,101,116])=false
def lS(l:K):Prop:=(l==[108,101,118,101,108])=false/\(l==[98,101,108,111,119])=false/\(l==[99,101,108,108])=false/\(l==[99,104,97,110,110,101,108])=false/\(l==[98,101,103,105,110])=false/\(l==[101,108,115,101])=false/\(l==[101,110,100])=false/\(l==[105,102])=false/\(l==[119,104,105,108,101])=true/\(l==[111,117,116])=false/\(l==[115,101,116])=false
def oO(l:K):Prop:=(l==[108,101,118,101,108])=false/\(l==[98,101,108,111,119])=false/\(l==[99,101,108,108])=false/\(l==[99,104,97,110,110,101,108])=false/\(l==[98,101,103,105,110])=false/\(l==[101,108,115,101])=false/\(l==[101,110,100])=false/\(l==[105,102])=false/\(l==[119,104,105,108,101])=false/\(l==[111,117,116])=true/\(l==[115,101,116])=false
def oN(l:K):Prop:=(l==[108,101,118,101,108])=false/\(l==[98,101,108,111,119])=false/\(l==[99,101,108,108])=false/\(l==[99,104,97,110,110,101,108])=false/\(l==[98,101,103,105,110])=false/\(l==[101,108,115,101])=false/\(l==[101,110,100])=false/\(l==[105,102])=false/\(l==[119,104,105,108,101])=false/\(l==[111,117,116])=false/\(l==[115,101,116])=true
def nj(l:K):Prop:=(l==[108,101,118,101,108])=false/\(l==[98,101,108,111,119])=false/\(l==[99,101,108,108])=false/\(l==[99,104,97,110,110,101,108])=false/\(l==[98,101,103,105,110])=false/\(l==[101,108,115,101])=false/\(l==[101,110,100])=false/\(l==[105,102])=false/\(l==[119,104,105,108,101])=false/\(l==[111,117,116])=false/\(l==[115,101,116])=false
def dN(l:K):lV l\/lU l\/nr l\/jY l\/lT l\/nk l\/oP l\/ph l\/lS l\/oO l\/oN l\/nj l:=by
 by_cases b0:l=[108,101,118,101,108]
 ·subst b0;exact Or.inl (by unfold lV;decide)
 by_cases c0:l=[98,101,108,111,119]
 ·subst c0;exact Or.inr (Or.inl (by unfold lU;decide))
 by_cases f0:l=[99,101,108,108]
 ·subst f0;exact Or.inr (Or.inr (Or.inl (by unfold nr;decide)))
 by_cases a0:l=[99,104,97,110,110,101,108]
 ·subst a0;exact Or.inr (Or.inr (Or.inr (Or.inl (by unfold jY;decide))))
 by_cases d0:l=[98,101,103,105,110]
 ·subst d0;exact Or.inr (Or.inr (Or.inr (Or.inr (Or.inl (by unfold lT;decide)))))
 by_cases g0:l=[101,108,115,101]
 ·subst g0;exact Or.inr (Or.inr (Or.inr (Or.inr (Or.inr (Or.inl (by unfold nk;decide))))))
 by_cases h0:l=[101,110,100]
 ·subst h0;exact Or.inr (Or.inr (Or.inr (Or.inr (Or.inr (Or.inr (Or.inl (by unfold oP;decide)))))))
 by_cases k0:l=[105,102]
 ·subst k0;exact Or.inr (Or.inr (Or.inr (Or.inr (Or.inr (Or.inr (Or.inr (Or.inl (by unfold ph;decide))))))))
 by_cases e0:l=[119,104,105,108,101]
 ·subst e0;exact Or.inr (Or.inr (Or.inr (Or.inr (Or.inr (Or.inr (Or.inr (Or.inr (Or.inl (by unfold lS;decide)))))))))
 by_cases i0:l=[111,117,116]
 ·subst i0;exact Or.inr (Or.inr (Or.inr (Or.inr (Or.inr (Or.inr (Or.inr (Or.inr (Or.inr (Or.inl (by unfold oO;decide))))))))))
 by_cases j0:l=[115,101,116]
 ·subst j0;exact Or.inr (Or.inr (Or.inr (Or.inr (Or.inr (Or.inr (Or.inr (Or.inr (Or.inr (Or.inr (Or.inl (by unfold oN;decide)))))))))))
 exact Or.inr (Or.inr (Or.inr (Or.inr (Or.inr (Or.inr (Or.inr (Or.inr (Or.inr (Or.inr (Or.inr (by unfold nj;simp[b0,c0,f0,a0,d0,g0,h0,k0,e0,i0,j0])))))))))))
end Fl
open Go.RowKit
def line_1(b off cap:Nat)(x0:ByteArray)(w:World)(h0:x0.size<=maxLen)(c0:w.cell? (Y b off)=some (.string x0)):
  F 11 #[Sq b off 1 cap] w (Rq (.bool (Fl.ap [x0.toList])) w):=by
 rcases Fl.dN x0.toList with h|h|h|h|h|h|h|h|h|h|h|h
 all_goals obtain⟨k1,k2,k3,k4,k5,k6,k7,k8,k9,k10,k11⟩:=h
 all_goals
  go_enter func11,ntmps11
  go_wp2
  all_goals (go_ret;exact⟨Zd (by simp_all[Fl.ap,cN,bO,cB,bk,dv,eq,gT,jo,eK,fY,fh]),rfl⟩)
def line_2(b off cap:Nat)(x0 x1:ByteArray)(w:World)(h0:x0.size<=maxLen)(c0:w.cell? (Y b off)=some (.string x0))(h1:x1.size<=maxLen)(c1:w.cell? (Y b (off+1))=some (.string x1)):
  F 11 #[Sq b off 2 cap] w (Rq (.bool (Fl.ap [x0.toList,x1.toList])) w):=by
 rcases Fl.dN x0.toList with h|h|h|h|h|h|h|h|h|h|h|h
 all_goals obtain⟨k1,k2,k3,k4,k5,k6,k7,k8,k9,k10,k11⟩:=h
 all_goals
  go_enter func11,ntmps11
  go_wp2_with (first|(go_at_call_of 18 (string x1);refine(Jt x1 _ h1).mono ?_;rintro e w' ⟨rfl,rfl⟩)|(go_at_call 19;refine(zv4 x1 _ h1).mono ?_;rintro e w' ⟨rfl,rfl⟩))
  all_goals (go_ret;exact⟨Zd (by simp_all[Fl.ap,cN,bO,cB,bk,dv,eq,gT,jo,eK,fY,fh]),rfl⟩)
def line_3(b off cap:Nat)(x0 x1 x2:ByteArray)(w:World)(h0:x0.size<=maxLen)(c0:w.cell? (Y b off)=some (.string x0))(h1:x1.size<=maxLen)(c1:w.cell? (Y b (off+1))=some (.string x1))(h2:x2.size<=maxLen)(c2:w.cell? (Y b (off+2))=some (.string x2)):
  F 11 #[Sq b off 3 cap] w (Rq (.bool (Fl.ap [x0.toList,x1.toList,x2.toList])) w):=by
 rcases Fl.dN x0.toList with h|h|h|h|h|h|h|h|h|h|h|h
 all_goals obtain⟨k1,k2,k3,k4,k5,k6,k7,k8,k9,k10,k11⟩:=h
 all_goals
  go_enter func11,ntmps11
  go_wp2_with (first|(go_at_call_of 18 (string x1);refine(Jt x1 _ h1).mono ?_;rintro e w' ⟨rfl,rfl⟩)|(go_at_call_of 18 (string x2);refine(Jt x2 _ h2).mono ?_;rintro e w' ⟨rfl,rfl⟩)|(go_at_call 19;refine(zv4 x2 _ h2).mono ?_;rintro e w' ⟨rfl,rfl⟩))
  all_goals (go_ret;exact⟨Zd (by simp_all[Fl.ap,cN,bO,cB,bk,dv,eq,gT,jo,eK,fY,fh]),rfl⟩)
def line_4(b off cap:Nat)(x0 x1 x2 x3:ByteArray)(w:World)(h0:x0.size<=maxLen)(c0:w.cell? (Y b off)=some (.string x0))(h1:x1.size<=maxLen)(c1:w.cell? (Y b (off+1))=some (.string x1))(h2:x2.size<=maxLen)(c2:w.cell? (Y b (off+2))=some (.string x2))(h3:x3.size<=maxLen)(c3:w.cell? (Y b (off+3))=some (.string x3)):
  F 11 #[Sq b off 4 cap] w (Rq (.bool (Fl.ap [x0.toList,x1.toList,x2.toList,x3.toList])) w):=by
 rcases Fl.dN x0.toList with h|h|h|h|h|h|h|h|h|h|h|h
 all_goals obtain⟨k1,k2,k3,k4,k5,k6,k7,k8,k9,k10,k11⟩:=h
 all_goals
  go_enter func11,ntmps11
  go_wp2_with (first|(go_at_call_of 18 (string x1);refine(Jt x1 _ h1).mono ?_;rintro e w' ⟨rfl,rfl⟩)|(go_at_call_of 18 (string x2);refine(Jt x2 _ h2).mono ?_;rintro e w' ⟨rfl,rfl⟩)|(go_at_call 19;refine(zv4 x2 _ h2).mono ?_;rintro e w' ⟨rfl,rfl⟩))
  all_goals (go_ret;exact⟨Zd (by simp_all[Fl.ap,cN,bO,cB,bk,dv,eq,gT,jo,eK,fY,fh]),rfl⟩)
def signList:List ByteArray:=[⟨#[43]⟩,⟨#[45]⟩,⟨#[42]⟩,⟨#[60]⟩,⟨#[61,61]⟩]
def yt2:bl signList=cC:=by
 simp[bl,signList,cC,ByteArray.toList_eq]
def yt3(w:World):zf4 (w.alloc (.cells #[.string ⟨#[43]⟩,.string ⟨#[45]⟩,.string ⟨#[42]⟩,.string ⟨#[60]⟩,.string ⟨#[61,61]⟩] 9)) (Sq w.heap.size 0 5 5) signList:=by
 refine⟨_,_,rfl,by decide,?_,λ_=>⟨_,_,rfl,?_⟩⟩
 ·intro s hs;simp[signList]at hs;rcases hs with rfl|rfl|rfl|rfl|rfl<;>decide
 intro i hi;have:i<5:=hi
 match i,this with
 |0,_=>simp[signList]
 |1,_=>simp[signList]
 |2,_=>simp[signList]
 |3,_=>simp[signList]
 |4,_=>simp[signList]
def line_5(b off cap:Nat)(x0 x1 x2 x3 x4:ByteArray)(w:World)(h1:x1.size<=maxLen)(h2:x2.size<=maxLen)(h4:x4.size<=maxLen)
  (c0:w.cell? (Y b off)=some (.string x0)) (c1:w.cell? (Y b (off+1))=some (.string x1)) (c2:w.cell? (Y b (off+2))=some (.string x2))
  (c3:∀o,(w.alloc o).cell? (Y b (off+3))=some (.string x3)) (c4:∀o,(w.alloc o).cell? (Y b (off+4))=some (.string x4)):
  F 11 #[Sq b off 5 cap] w (Rw (.bool (Fl.ap [x0.toList,x1.toList,x2.toList,x3.toList,x4.toList])) w):=by
 rcases Fl.dN x0.toList with h|h|h|h|h|h|h|h|h|h|h|h
 all_goals obtain⟨k1,k2,k3,k4,k5,k6,k7,k8,k9,k10,k11⟩:=h
 case inr.inr.inr.inr.inr.inr.inr.inr.inr.inr.inl=>
  go_enter func11,ntmps11
  go_wp2_with (first|(go_at_call_of 18 (string x1);refine(Jt x1 _ h1).mono ?_;rintro e w' ⟨rfl,rfl⟩)|(go_at_call_of 18 (string x2);refine(Jt x2 _ h2).mono ?_;rintro e w' ⟨rfl,rfl⟩)|(go_at_call_of 19 (string x2);refine(zv4 x2 _ h2).mono ?_;rintro e w' ⟨rfl,rfl⟩)|(go_at_call_of 19 (string x4);refine(zv4 x4 _ h4).mono ?_;rintro e w' ⟨rfl,rfl⟩)|(go_at_call 20;refine(yz2 _).mono ?_;rintro e w' ⟨rfl,rfl⟩)|(go_at_call 21;refine(zl8 _ signList x3 _ (yt3 _)).mono ?_;rintro e w' ⟨rfl,rfl⟩))
  all_goals (go_ret;exact⟨Zd (by simp_all[Fl.ap,yt2,cN,bO,cB,bk,dv,eq,gT,jo,eK,fY,fh]<;>omega),bA⟩)
 all_goals
  go_enter func11,ntmps11
  go_wp2_with (first|(go_at_call_of 18 (string x1);refine(Jt x1 _ h1).mono ?_;rintro e w' ⟨rfl,rfl⟩)|(go_at_call_of 18 (string x2);refine(Jt x2 _ h2).mono ?_;rintro e w' ⟨rfl,rfl⟩)|(go_at_call_of 19 (string x2);refine(zv4 x2 _ h2).mono ?_;rintro e w' ⟨rfl,rfl⟩))
  all_goals (go_ret;exact⟨Zd (by simp_all[Fl.ap,cN,bO,cB,bk,dv,eq,gT,jo,eK,fY,fh]),Below.refl _ _⟩)
def line_6(b off n cap:Nat)(x0 x1 x2:ByteArray)(w:World)(hn:6<=n)(hm:n<=maxLen)(h1:x1.size<=maxLen)(h2:x2.size<=maxLen)
  (c0:w.cell? (Y b off)=some (.string x0)) (c1:w.cell? (Y b (off+1))=some (.string x1)) (c2:w.cell? (Y b (off+2))=some (.string x2)):
  F 11 #[Sq b off n cap] w (Rq (.bool false) w):=by
 unfold maxLen at hm;have n1:((n:Int)==1)=false:=beq_eq_false_iff_ne.2 (by omega);have n2:((n:Int)==2)=false:=beq_eq_false_iff_ne.2 (by omega);have n3:((n:Int)==3)=false:=beq_eq_false_iff_ne.2 (by omega)
 have n5:((n:Int) !=5)=true:=by rw[bne_iff_ne];omega
 rcases Fl.dN x0.toList with h|h|h|h|h|h|h|h|h|h|h|h
 all_goals obtain⟨k1,k2,k3,k4,k5,k6,k7,k8,k9,k10,k11⟩:=h
 all_goals
  go_enter func11,ntmps11
  go_wp2_with (first|(go_at_call_of 18 (string x1);refine(Jt x1 _ h1).mono ?_;rintro e w' ⟨rfl,rfl⟩)|(go_at_call_of 18 (string x2);refine(Jt x2 _ h2).mono ?_;rintro e w' ⟨rfl,rfl⟩)|(go_at_call_of 19 (string x2);refine(zv4 x2 _ h2).mono ?_;rintro e w' ⟨rfl,rfl⟩))
  all_goals (go_ret;exact⟨rfl,rfl⟩)
def yt4{a:Addr}(h:w.cell? a=some v):a.block<w.heap.size:=Qe w a h
def ydz(v:Value)(ss:List ByteArray)(w:World)(hv:zf4 w v ss)(b0:ss≠[]):F 11 #[v] w (Rw (.bool (Fl.ap (bl ss))) w):=by
 obtain⟨ao,cap,rfl,hl,cH,hc⟩:=hv;obtain⟨b,off,rfl,a0⟩:=hc b0
 match ss,b0 with
 |[x0],_=>
  refine(line_1 b off cap x0 w (cH x0 (by simp)) (by simpa using a0 0 (by simp))).mono ?_;rintro e w' ⟨rfl,rfl⟩;exact⟨rfl,Below.refl _ _⟩
 |[x0,x1],_=>
  refine(line_2 b off cap x0 x1 w (cH x0 (by simp)) (by simpa using a0 0 (by simp)) (cH x1 (by simp)) (by simpa using a0 1 (by simp))).mono ?_;rintro e w' ⟨rfl,rfl⟩;exact⟨rfl,Below.refl _ _⟩
 |[x0,x1,x2],_=>
  refine(line_3 b off cap x0 x1 x2 w (cH x0 (by simp)) (by simpa using a0 0 (by simp)) (cH x1 (by simp)) (by simpa using a0 1 (by simp)) (cH x2 (by simp)) (by simpa using a0 2 (by simp))).mono ?_;rintro e w' ⟨rfl,rfl⟩;exact⟨rfl,Below.refl _ _⟩
 |[x0,x1,x2,x3],_=>
  refine(line_4 b off cap x0 x1 x2 x3 w (cH x0 (by simp)) (by simpa using a0 0 (by simp)) (cH x1 (by simp)) (by simpa using a0 1 (by simp)) (cH x2 (by simp)) (by simpa using a0 2 (by simp)) (cH x3 (by simp)) (by simpa using a0 3 (by simp))).mono ?_;rintro e w' ⟨rfl,rfl⟩;exact⟨rfl,Below.refl _ _⟩
 |[x0,x1,x2,x3,x4],_=>
  have d3:w.cell? (Y b (off+3))=some (.string x3):=(by simpa using a0 3 (by simp));have d4:w.cell? (Y b (off+4))=some (.string x4):=(by simpa using a0 4 (by simp));exact line_5 b off cap x0 x1 x2 x3 x4 w (cH x1 (by simp)) (cH x2 (by simp)) (cH x4 (by simp)) (by simpa using a0 0 (by simp)) (by simpa using a0 1 (by simp)) (by simpa using a0 2 (by simp))
   (λo=>by rw[Qf w o _ (yt4 d3)];exact d3) (λo=>by rw[Qf w o _ (yt4 d4)];exact d4)
 |x0::x1::x2::x3::x4::x5::r,_=>
  refine(line_6 b off _ cap x0 x1 x2 w (by simp) hl (cH x1 (by simp)) (cH x2 (by simp)) (by simpa using a0 0 (by simp)) (by simpa using a0 1 (by simp)) (by simpa using a0 2 (by simp))).mono ?_;rintro e w' ⟨rfl,rfl⟩;exact⟨by simp[bl,Fl.ap],Below.refl _ _⟩
def Zr(j:Nat):Prop:=1<=j/\j<=13/\j≠7/\j≠9/\j≠11
def rTy(j:Nat):TypeId:=if j<=4 then 9 else if j=8 then 5 else if j=10 then 75 else 3
def rSz(j:Nat):Nat:=if j=10 then 10 else 1
structure Yo where
 n:Nat->Nat
 xs:Nat->Vs
 v:Nat->Value
 ae:Bool
 am:Nat
 N:Nat
 leq:Value
 loc:Nat
 aZ:Value
 gy:Nat->Prop
 wk:World
def rrC(Pb:Nat)(m:Yo)(j:Nat):Value:=if j=0 then ptr Pb else if j=7 then .bool m.ae else if j=9 then I m.am else m.v j
def rpC(m:Yo)(j:Nat):Value:=if j=0 then I m.N else if j=1 then m.leq else if j=4 then I m.loc else if j=5 then m.aZ else m.v (10+j)
structure Zt(lo base Rb Pb:Nat)(w0 w:World)(m:Yo):Prop where
 bel:Below lo w0 w
 bP:lo<=Rb/\lo<=Pb/\Rb<base/\Pb<base/\Rb≠Pb/\base<=w.heap.size/\lo<=base
 cR:Zh w Rb 11 (rrC Pb m)
 cP:Zh w Pb 6 (rpC m)
 own:∀j,Zr j->w.ownsRow base (rTy j) (rSz j) (m.v j) (m.n j) (m.xs j)
 jp:∀i j b,Zr i->Zr j->i≠j->(m.v i).ownBlock=some b->(m.v j).ownBlock≠some b
 kp:∀b,m.gy b->base<=b/\b<w.heap.size/\w.heap[b]?=m.wk.heap[b]?/\∀j,Zr j->(m.v j).ownBlock≠some b
def Yo.app(m:Yo)(j:Nat)(v:Value)(news:Vs):Yo:={m with n:=λi=>if i=j then m.n j+1 else m.n i,xs:=λi=>if i=j then m.xs j++news else m.xs i,v:=λi=>if i=j then v else m.v i}
section
variable{m:Yo}
def Zt.below(h:Zt lo base Rb Pb w0 w m)(hb:E w w'):Zt lo base Rb Pb w0 w' m:=by
 obtain⟨b1,b2,b3,b4,b5,b6,b7⟩:=h.bP;have hz:=hb.size;have q:∀b,b<w.heap.size->w'.heap[b]?=w.heap[b]?:=λb a0=>hb.block b a0;exact{bel:=h.bel.trans (hb.mono (by omega)),bP:=⟨b1,b2,b3,b4,b5,by omega,b7⟩,cR:=h.cR.block (q _ (by omega)),cP:=h.cP.block (q _ (by omega)),own:=λj hj=>Zj (h.own j hj) (λb hb=>q b ((h.own j hj).lt b hb).2),jp:=h.jp,kp:=λb hb=>have k:=h.kp b hb;⟨k.1,Qj k.2.1 hz,(q b k.2.1).trans k.2.2.1,k.2.2.2⟩}
def Zt.drew(h:Zt lo base Rb Pb w0 w m):Zt lo base Rb Pb w0 w.drew m:=h.below dA
def Zt.shape(h:Zt lo base Rb Pb w0 w m)(j:Nat)(hj:Zr j):∃a c,m.v j=J a (m.n j) c:=by
 rcases(h.own j hj).2 with⟨h1,h2⟩|⟨g,cp,cur,h1,_⟩
 ·exact⟨none,0,by rw[h1,h2]⟩
 exact⟨_,cp,h1⟩
def Zt.grow(h:Zt lo base Rb Pb w0 w m)(j:Nat)(hj:Zr j)(g0:E w W3)(h0:W4.ownsRow base (rTy j) (rSz j) v' (m.n j+1) (m.xs j++news))(b0:W3.grownBy W4 (m.v j).ownBlock)(f0:v'.ownBlock=(m.v j).ownBlock\/v'.ownBlock=some W3.heap.size):
  Below lo w0 W4/\base<=W4.heap.size/\(∀b,b<base->W4.heap[b]?=W3.heap[b]?)/\(∀i,Zr i->W4.ownsRow base (rTy i) (rSz i) ((m.app j v' news).v i) ((m.app j v' news).n i) ((m.app j v' news).xs i))/\
  (∀i k b,Zr i->Zr k->i≠k->((m.app j v' news).v i).ownBlock=some b->((m.app j v' news).v k).ownBlock≠some b)/\
  (∀b,m.gy b->base<=b/\b<W4.heap.size/\W4.heap[b]?=m.wk.heap[b]?/\∀i,Zr i->((m.app j v' news).v i).ownBlock≠some b):=by
 have c0:=h.below g0;obtain⟨b1,b2,b3,b4,b5,b6,b7⟩:=c0.bP;have e0:=λi hi=>(h.own i hi).lt;have i0:=b0.size;have j0:=g0.size;refine⟨c0.bel.grown b0 (by omega) (λk hk=>by have:=(e0 j hj k hk).1;omega),by omega,λb hb=>b0.block b (by omega) (λhh=>by have:=(e0 j hj b hh.symm).1;omega),λi hi=>?_,λi k b hi hk hne hbi hbk=>?_,λb hb=>?_⟩
 ·show W4.ownsRow base (rTy i) (rSz i) (if i=j then v' else m.v i) (if i=j then m.n j+1 else m.n i) (if i=j then m.xs j++news else m.xs i)
  by_cases a0:i=j
  ·subst a0;simp only[if_true];exact h0
  simp only[a0,if_false];refine Zj (c0.own i hi) (λb hb=>b0.block b ((c0.own i hi).lt b hb).2 (λhh=>h.jp i j b hi hj a0 hb hh.symm))
 ·have hv:∀t,(m.app j v' news).v t=if t=j then v' else m.v t:=λ_=>rfl
  rw[hv]at hbi hbk
  by_cases a0:i=j
  ·have d0:k≠j:=λhh=>hne (a0.trans hh.symm)
   rw[G a0]at hbi;rw[Z d0]at hbk;rcases f0 with h1|h1
   ·rw[h1]at hbi;exact h.jp j k b hj hk (Ne.symm d0) hbi hbk
   rw[h1]at hbi;simp only[Ql]at hbi;have:=(e0 k hk b hbk).2;omega
  rw[Z a0]at hbi
  by_cases d0:k=j
  ·rw[G d0]at hbk
   rcases f0 with h1|h1
   ·rw[h1]at hbk;exact h.jp i j b hi hj a0 hbi hbk
   rw[h1]at hbk;simp only[Ql]at hbk;have:=(e0 i hi b hbi).2;omega
  rw[Z d0]at hbk;exact h.jp i k b hi hk hne hbi hbk
 obtain⟨k1,k2,k3,k4⟩:=c0.kp b hb;refine⟨k1,by omega,(b0.block b k2 (λhh=>k4 j hj hh.symm)).trans k3,λi hi=>?_⟩;show (if i=j then v' else m.v i).ownBlock≠some b
 by_cases a0:i=j
 ·rw[G a0]
  rcases f0 with h1|h1
  ·rw[h1];exact k4 j hj
  rw[h1];intro hh;have:=(h.kp b hb).2.1;simp only[Ql]at hh;omega
 rw[Z a0];exact k4 i hi
def Zt.kA(h:Zt lo base Rb Pb w0 w m)(j:Nat)(hj:Zr j)(d0:j<=10)(c0:E w W3)(e0:W4.ownsRow base (rTy j) (rSz j) v' (m.n j+1) (m.xs j++news))(f0:W3.grownBy W4 (m.v j).ownBlock)(g0:v'.ownBlock=(m.v j).ownBlock\/v'.ownBlock=some W3.heap.size):
  Zt lo base Rb Pb w0 (W4.setCell (Y Rb j) v') (m.app j v' news):=by
 have a0:=h.below c0;obtain⟨b1,b2,b3,b4,b5,b6,b7⟩:=a0.bP;obtain⟨g1,g2,g3,g4,g5,g6⟩:=h.grow j hj c0 e0 f0 g0;refine{bel:=g1.setCell (by show lo<=Rb;omega) _,bP:=⟨b1,b2,b3,b4,b5,by rw[Zy];omega,b7⟩,cR:= ?_,cP:= ?_,own:=λi hi=>Zj (g4 i hi) (λb hb=>Zx _ _ _ _ _ (by have:=((g4 i hi).lt b hb).1;omega)),jp:=g5,kp:=λb hb=>have k:=g6 b hb;⟨k.1,by rw[Zy];exact k.2.1,(Zx _ _ _ _ _ (by have:=k.1;omega)).trans k.2.2.1,k.2.2.2⟩}
 ·refine((a0.cR.block (g3 _ b3)).set (j:=j) (by have:=hj.2.1;omega) v').congr (λi hi=>?_)
  obtain⟨h1,h2,h3,h4,h5⟩:=hj
  by_cases b0:i=j
  ·subst b0
   rw[G rfl];show v'=rrC Pb (m.app i v' news) i;unfold rrC;rw[Z (by omega),Z (by omega),Z (by omega)];show v'=if i=i then v' else m.v i;rw[G rfl]
  rw[Z b0];show rrC Pb m i=rrC Pb (m.app j v' news) i;unfold rrC
  by_cases i0:i=0
  ·rw[G i0,G i0]
  by_cases i7:i=7
  ·rw[Z i0,Z i0,G i7,G i7];rfl
  by_cases i9:i=9
  ·rw[Z i0,Z i0,Z i7,Z i7,G i9,G i9];rfl
  rw[Z i0,Z i0,Z i7,Z i7,Z i9,Z i9];show m.v i=if i=j then v' else m.v i;rw[Z b0]
 refine((a0.cP.block (g3 _ b4)).block (Zx _ _ _ _ _ (Ne.symm b5))).congr (λi hi=>?_);show rpC m i=rpC (m.app j v' news) i;unfold rpC;show (if i=0 then _ else if i=1 then m.leq else if i=4 then _ else if i=5 then m.aZ else m.v (10+i))=(if i=0 then _ else if i=1 then m.leq else if i=4 then _ else if i=5 then m.aZ else(if 10+i=j then v' else m.v (10+i)))
 by_cases i0:i=0
 ·rw[G i0,G i0];rfl
 rw[Z (show ¬10+i=j by omega)];rfl
def Zt.pJ(h:Zt lo base Rb Pb w0 w m)(j:Nat)(hj:Zr j)(a0:j=12\/j=13)(c0:E w W3)(d0:W4.ownsRow base (rTy j) (rSz j) v' (m.n j+1) (m.xs j++news))(e0:W3.grownBy W4 (m.v j).ownBlock)(f0:v'.ownBlock=(m.v j).ownBlock\/v'.ownBlock=some W3.heap.size):
  Zt lo base Rb Pb w0 (W4.setCell (Y Pb (j - 10)) v') (m.app j v' news):=by
 have b0:=h.below c0;obtain⟨b1,b2,b3,b4,b5,b6,b7⟩:=b0.bP;obtain⟨g1,g2,g3,g4,g5,g6⟩:=h.grow j hj c0 d0 e0 f0;refine{bel:=g1.setCell (by show lo<=Pb;omega) _,bP:=⟨b1,b2,b3,b4,b5,by rw[Zy];omega,b7⟩,cR:= ?_,cP:= ?_,own:=λi hi=>Zj (g4 i hi) (λb hb=>Zx _ _ _ _ _ (by have:=((g4 i hi).lt b hb).1;omega)),jp:=g5,kp:=λb hb=>have k:=g6 b hb;⟨k.1,by rw[Zy];exact k.2.1,(Zx _ _ _ _ _ (by have:=k.1;omega)).trans k.2.2.1,k.2.2.2⟩}
 ·refine((b0.cR.block (g3 _ b3)).block (Zx _ _ _ _ _ b5)).congr (λi hi=>?_)
  show rrC Pb m i=rrC Pb (m.app j v' news) i;unfold rrC;show (if i=0 then ptr Pb else if i=7 then .bool m.ae else if i=9 then I m.am else m.v i)=(if i=0 then ptr Pb else if i=7 then .bool m.ae else if i=9 then I m.am else(if i=j then v' else m.v i));rw[Z (show ¬i=j by omega)]
 refine((b0.cP.block (g3 _ b4)).set (j:=j - 10) (by omega) v').congr (λi hi=>?_);show (if i=j - 10 then v' else rpC m i)=rpC (m.app j v' news) i;rcases a0 with rfl|rfl
 ·rcases(show i=0\/i=1\/i=2\/i=3\/i=4\/i=5 by omega) with rfl|rfl|rfl|rfl|rfl|rfl<;>rfl
 rcases(show i=0\/i=1\/i=2\/i=3\/i=4\/i=5 by omega) with rfl|rfl|rfl|rfl|rfl|rfl<;>rfl
end
def Yu(l:K):(⟨l.toArray⟩:ByteArray).toList=l:=by rw[ByteArray.toList_eq]
def bl_mk(ws:List K):bl (ws.map λl=>(⟨l.toArray⟩:ByteArray))=ws:=by
 unfold bl;rw[map_map]
 conv=>rhs;rw[<-map_id ws]
 apply map_congr_left
 intro l _;exact Yu l
def Zi.pg(h:Zi B w v ws):zf4 w v (ws.map λl=>(⟨l.toArray⟩:ByteArray)):=by
 obtain⟨ao,cap,h1,h2,h3,h4,h5,h6⟩:=h;refine⟨ao,cap,by rw[length_map];exact h1,by rw[length_map];omega,λs hs=>?_,λhne=>?_⟩
 ·simp only[mem_map]at hs
  obtain⟨l,hl,rfl⟩:=hs;have:=h5 l hl;show l.toArray.size<=maxLen;simp[maxLen];omega
 obtain⟨b,off,e,hb,hc⟩:=h6 (by intro hh;apply hne;rw[hh];rfl);refine⟨b,off,e,λi hi=>?_⟩;rw[length_map]at hi;rw[hc i hi];simp[strV,Qa,hi]
def Xl(h:Zi B w v ws)(x:K):F 21 #[v,Tq x] w (Rq (I (ai ws x)) w):=by
 have:=zl8 v _ (⟨x.toArray⟩:ByteArray) w h.pg;rw[bl_mk,Yu]at this;exact this
def yt5(x:K)(w:World)(hx:x.length<=100000):F 31 #[Tq x,I 9] w (Rq (.tuple #[I (bY x 9).1,.bool (bY x 9).2]) w):=by
 have:=yxv (⟨x.toArray⟩:ByteArray) 9 w (by show x.toArray.size<=maxLen;simp[maxLen];omega) (by omega);rw[Yu]at this;exact this
def Vq(s:aa)(bv ov:Value):Vs:=[I s.kind,I s.x,I s.ap,I s.e.op,.bool s.e.a.var,I s.e.a.v,.bool s.e.b.var,I s.e.b.v,bv,ov]
def Yw:Nat->(Nat->Prop)->World->Value->List aa->Prop
 |0,_,_,v,l=>l=[]/\v=Zq
 |d+1,S,w,v,l=>∃ao cap,v=J ao l.length cap/\l.length<=cap/\cap<=maxLen/\l.length<=16/\
   (l≠[]->∃b,ao=some (Y b 0)/\S b/\∀i,i<l.length->∃bv ov,(∀j,j<10->w.cell? (Y b (i*10+j))=some ((Vq (l.getD i noS) bv ov).getD j undef))/\Yw d S w bv (l.getD i noS).aZ/\Yw d S w ov (l.getD i noS).aP)
def Yw.kept{S S':Nat->Prop}{w w':World}(hS:∀b,S b->S' b)(hw:∀b,S b->w'.heap[b]?=w.heap[b]?):∀(d:Nat) (v:Value) (l:List aa),Yw d S w v l->Yw d S' w' v l
 |0,_,_,h=>h
 |d+1,v,l,h=>by
  obtain⟨ao,cap,h1,h2,h3,h4,h5⟩:=h;refine⟨ao,cap,h1,h2,h3,h4,λa0=>?_⟩;obtain⟨b,e,hb,hc⟩:=h5 a0;refine⟨b,e,hS b hb,λi hi=>?_⟩;obtain⟨bv,ov,g1,g2,g3⟩:=hc i hi;exact⟨bv,ov,λj hj=>cQ (hw b hb) (g1 j hj),Yw.kept hS hw d bv _ g2,Yw.kept hS hw d ov _ g3⟩
def Yw.slice{S:Nat->Prop}(h:Yw d S w v l):∃a n c,v=J a n c:=by
 cases d with
 |zero=>exact⟨_,_,_,h.2⟩
 |succ d=>obtain⟨ao,c,h1,-⟩:=h;exact⟨_,_,_,h1⟩
structure Yl(base:Nat)(w:World)(Lq:Nat)(rb:Nat->Nat)(n:Nat)(t:Fl.cG):Prop where
 c:∀i,i<n->w.cell? (Y Lq i)=some (Sq (rb i) 0 n n)
 r:∀i j,i<n->j<n->w.cell? (Y (rb i) j)=some (.bool (t i j))
 z:∀i j,i<n->w.frozen? (Y (rb i) j)=false
 inj:∀i j,i<n->j<n->i≠j->rb i≠rb j
 ge:base<=Lq/\∀i,i<n->base<=rb i/\rb i≠Lq
def Yl.lt(h:Yl base w Lq rb n t)(hn:0<n):Lq<w.heap.size/\∀i,i<n->rb i<w.heap.size:=
 ⟨Qe w _ (h.c 0 hn),λi hi=>Qe w _ (h.r i 0 hi hn)⟩
def Yl.kept(h:Yl base w Lq rb n t)(hk:∀b,base<=b->b<w.heap.size->w'.heap[b]?=w.heap[b]?):Yl base w' Lq rb n t:=
 ⟨λi hi=>cQ (hk _ h.ge.1 (h.lt (by omega)).1) (h.c i hi),λi j hi hj=>cQ (hk _ (h.ge.2 i hi).1 ((h.lt (by omega)).2 i hi)) (h.r i j hi hj),λi j hi=>fQ (hk _ (h.ge.2 i hi).1 ((h.lt (by omega)).2 i hi)) (h.z i j hi),h.inj,h.ge⟩
def Yl.pZ(h:Yl base w Lq rb n t)(hL:0<n->w'.heap[Lq]?=w.heap[Lq]?)(hr:∀i,i<n->w'.heap[rb i]?=w.heap[rb i]?):Yl base w' Lq rb n t:=
 ⟨λi hi=>cQ (hL (by omega)) (h.c i hi),λi j hi hj=>cQ (hr i hi) (h.r i j hi hj),λi j hi=>fQ (hr i hi) (h.z i j hi),h.inj,h.ge⟩
structure FlS where
 tag:Nat
 s:aa
def Zn(f:FlS):Vs:=
 if f.tag=0 then [I f.s.kind,I f.s.x,I f.s.ap,I f.s.e.op,.bool f.s.e.a.var,I f.s.e.a.v,.bool f.s.e.b.var,I f.s.e.b.v,Zq,Zq]
 else [I (if f.tag=1 then -1 else -2),I 0,I 0,I 0,.bool false,I 0,.bool false,I 0,Zq,Zq]
def Jg(l:List FlS):Vs:=l.flatMap Zn
def zzy(f:Fl.Frame):Nat:=if f.kind=6 then 119 else if f.cA then 101 else 105
def Xf(l:List Fl.Frame):Vs:=(l.map λf=>int .u8 (zzy f:Nat)).reverse
def zd0(m:Yo)(n:Nat)(t:Fl.cG):Prop:=m.N=n/\∃Lq rb,m.leq=Sq Lq 0 n n/\Yl 0 m.wk Lq rb n t/\(0<n->m.gy Lq)/\∀i,i<n->m.gy (rb i)
structure Zk(r:RS)(fl:List FlS)(t:Nat)(m:Yo):Prop where
 r1:m.n 1=r.au.length/\m.xs 1=r.au.map strV
 r2:m.n 2=r.cells.length/\m.xs 2=r.cells.map strV
 r3:m.n 3=r.aj.length/\m.xs 3=r.aj.map strV
 r4:m.n 4=r.ak.length/\m.xs 4=r.ak.map strV
 r5:m.n 5=r.aI.length/\m.xs 5=Ym r.aI
 r6:m.n 6=r.aF.length/\m.xs 6=Ym r.aF
 r8:m.n 8=r.fr.length/\m.xs 8=Xf r.fr
 gw:m.n 10=fl.length/\m.xs 10=Jg fl
 jX:m.n 12=r.aT.length/\m.xs 12=Ym r.aT
 jG:m.n 13=r.aS.length/\m.xs 13=Ym r.aS
 bg:m.ae=r.ae
 st:m.am=r.am
 nm:∀x∈r.au++(r.cells++(r.aj++r.ak)),x.length<=100000
 lv:r.au.length<=6
 ce:r.cells.length<=6
 ch:r.aj.length<=3
 lo:r.ak.length<=4
 sm:r.am<=16
 fr:r.fr.length<=3
 lw:r.aI.length<=t
 ft:fl.length<=t
 pr:r.aI.length=r.aF.length
 bw:(∀x∈r.aI,x<r.au.length)/\(∀x∈r.aF,x<r.au.length)
 cl:r.aT.length=r.cells.length
 hl:r.aS.length=r.aj.length
 lt:r.ae=true->zd0 m r.au.length r.tab
section
variable{m:Yo}{fl:List FlS}{t:Nat}
def Zt.words(h:Zt lo base Rb Pb w0 w m)(j:Nat)(hj:Zr j)(ws:List K)(hr:m.n j=ws.length/\m.xs j=ws.map strV)(hz:rSz j=1)(hl:ws.length<=100000)(a0:∀x∈ws,x.length<=100000):Zi w.heap.size w (m.v j) ws:=by
 have ho:=h.own j hj;rw[hr.2,hz]at ho;exact Zi.dD ho hl a0
def Zt.au(h:Zt lo base Rb Pb w0 w m)(hr:Zk r fl t m):Zi w.heap.size w (m.v 1) r.au:=h.words 1 (by unfold Zr;omega) _ hr.r1 rfl (by have:=hr.lv;omega) (λx hx=>hr.nm x (by simp[hx]))
def Zt.cells(h:Zt lo base Rb Pb w0 w m)(hr:Zk r fl t m):Zi w.heap.size w (m.v 2) r.cells:=h.words 2 (by unfold Zr;omega) _ hr.r2 rfl (by have:=hr.ce;omega) (λx hx=>hr.nm x (by simp[hx]))
def Zt.aj(h:Zt lo base Rb Pb w0 w m)(hr:Zk r fl t m):Zi w.heap.size w (m.v 3) r.aj:=h.words 3 (by unfold Zr;omega) _ hr.r3 rfl (by have:=hr.ch;omega) (λx hx=>hr.nm x (by simp[hx]))
def Zt.ak(h:Zt lo base Rb Pb w0 w m)(hr:Zk r fl t m):Zi w.heap.size w (m.v 4) r.ak:=h.words 4 (by unfold Zr;omega) _ hr.r4 rfl (by have:=hr.lo;omega) (λx hx=>hr.nm x (by simp[hx]))
def zo8(o:Option dI)(w:World)(e:Ending)(w':World):Prop:=
 E w w'/\(∀a,o=some a->e=.returned (.tuple #[.agg #[.bool a.var,I a.v],.bool true]))/\(o=none->∃v:Int,e=.returned (.tuple #[.agg #[.bool true,I v],.bool false]))
def zs2(h:Zt lo base Rb Pb w0 w m)(hr:Zk r fl t m)(x:K)(hx:x.length<=100000):
  F 33 #[M Rb,Tq x] w (zo8 (r.atom x) w):=by
 have bP:=h.bP
 have f0:Rb<w.heap.size:=by omega
 have g0:O (∀W,F 31 #[Tq x,I 9] W (Rq (.tuple #[I (bY x 9).1,.bool (bY x 9).2]) W)):=λW=>yt5 x W hx;have h0:O (∀W,E w W->F 21 #[m.v 2,Tq x] W (Rq (I (ai r.cells x)) W)):=λW hW=>Xl ((h.below hW).cells hr) x;have i0:O (∀W,E w W->F 21 #[m.v 4,Tq x] W (Rq (I (ai r.ak x)) W)):=λW hW=>Xl ((h.below hW).ak hr) x;obtain⟨c2,k2,d0⟩:=h.shape 2 (by unfold Zr;omega);obtain⟨c4,k4,e0⟩:=h.shape 4 (by unfold Zr;omega);rw[hr.r2.1]at d0;rw[hr.r4.1]at e0;rw[d0]at h0;rw[e0]at i0;have q2:∀o,D (w.alloc o) Rb 2 (J c2 r.cells.length k2):=λo=>(Qf _ _ _ f0).trans (by rw[<-d0];exact h.cR.c 2 (by omega));have q4:∀o,D (w.alloc o) Rb 4 (J c4 r.ak.length k4):=λo=>(Qf _ _ _ f0).trans (by rw[<-e0];exact h.cR.c 4 (by omega));have HB:O (∀o,E w (w.alloc o)):=λo=>bA;have b0:O (r.atom x=if(bY x 9).2 then some ⟨false,(bY x 9).1⟩ else if 0<=ai r.cells x then some ⟨true,(ai r.cells x).toNat⟩ else if 0<=ai r.ak x then some ⟨true,r.cells.length+(ai r.ak x).toNat⟩ else none):=rfl;obtain⟨aX,c0⟩:=U (r.atom x);rw[<-c0]at b0⊢;have m0:=aO r.cells x;have n0:=aO r.ak x;have o0:=hr.ce;have cq:=hr.lo;generalize (bY x 9).1=nv at*;generalize (bY x 9).2=nb at*;generalize ai r.cells x=pc at*;generalize ai r.ak x=pl at*
 have j0:(r.cells.length:Int)<=6:=by omega
 have k0: -1<=pc/\pc<=6:=by omega
 have l0: -1<=pl/\pl<=4:=by omega
 clear h hr c0 d0 e0
 cases nb with
 |true=>
  have HR:O (aX=some ⟨false,nv⟩):=(by show _=_;rw[b0.out];rfl)
  go_enter func33,ntmps33
  go_wp2_with fail
  refine(g0 _).mono ?_;rintro e w1 ⟨rfl,a0⟩;rw[a0];clear a0 w1;go_wp2;refine bodyPost_ret (v:=.tuple #[.agg #[.bool false,I nv],.bool true]) (by simp[results,results33,go_sem]) rfl ?_;rw[HR.out];exact⟨HB _,λa ha=>by simp only[Ql]at ha;subst ha;rfl,λh=>by cases h⟩
 |false=>
  go_enter func33,ntmps33
  go_wp2_with fail
  refine(g0 _).mono ?_;rintro e w1 ⟨rfl,a0⟩;rw[a0];clear a0 w1
  go_wp2_with fail
  refine(h0 _ (HB _)).mono ?_;rintro e w1 ⟨rfl,a0⟩;rw[a0];clear a0 w1
  by_cases hp:0<=pc
  ·have HR:O (aX=some ⟨true,pc.toNat⟩):=by show _=_;rw[b0.out,Z (by decide),G hp]
   have e1:((pc.toNat:Nat):Int)=pc:=(by omega);have E1:=A e1;clear e1;go_wp2;refine bodyPost_ret (v:=.tuple #[.agg #[.bool true,I pc],.bool true]) (by simp[results,results33,go_sem]) rfl ?_;rw[HR.out];exact⟨HB _,λa ha=>by simp only[Ql]at ha;subst ha;rw[E1.out],λh=>by cases h⟩
  have p0:pc<0:=(by omega);clear hp
  go_wp2_with fail
  refine(i0 _ (HB _)).mono ?_;rintro e w1 ⟨rfl,a0⟩;rw[a0];clear a0 w1
  by_cases hl:0<=pl
  ·have HR:O (aX=some ⟨true,r.cells.length+pl.toNat⟩):=by show _=_;rw[b0.out,Z (by decide),Z (show ¬0<=pc by omega),G hl]
   have E1:O (((r.cells.length+pl.toNat:Nat):Int)=(r.cells.length:Int)+pl):=(by show _=_;omega);have hd:decide (pl ≥ 0)=true:=decide_eq_true hl;go_wp2;refine bodyPost_ret (v:=.tuple #[.agg #[.bool true,I ((r.cells.length:Int)+pl)],.bool true]) (by simp[results,results33,go_sem,hl]) rfl ?_;rw[HR.out];exact⟨HB _,λa ha=>by simp only[Ql]at ha;subst ha;rw[E1.out],λh=>by cases h⟩
  have HR:O (aX=none):=(by show _=_;rw[b0.out,Z (by decide),Z (show ¬0<=pc by omega),Z hl]);go_wp2;refine bodyPost_ret (v:=.tuple #[.agg #[.bool true,I ((r.cells.length:Int)+pl)],.bool false]) (by simp[results,results33,go_sem,hl]) rfl ?_;rw[HR.out];exact⟨HB _,λa ha=>(by cases ha),λh=>⟨_,rfl⟩⟩
end
def hdS(s:aa):aa:=⟨s.kind,s.x,s.ap,s.e,[],[]⟩
def Xe:FlS:=⟨1,noS⟩
def Xk:FlS:=⟨2,noS⟩
def zyw(s:aa):FlS:=⟨0,hdS s⟩
def ztx(Wx:List FlS->List aa->Prop)(p:List FlS)(s:aa):Prop:=
 ((s.kind=3\/s.kind=4)/\s.aZ=[]/\s.aP=[]/\p=[zyw s])\/
 ((s.kind=5\/s.kind=6)/\∃f1,Wx f1 s.aZ/\((s.aP=[]/\p=zyw s::(f1++[Xk]))\/∃f2,Wx f2 s.aP/\p=zyw s::(f1++Xe::(f2++[Xk]))))
def Uu(R:List FlS->aa->Prop):List FlS->List aa->Prop
 |fl,[]=>fl=[]
 |fl,s::l=>∃p q,fl=p++q/\R p s/\Uu R q l
def Ul:Nat->List FlS->List aa->Prop
 |0,fl,l=>fl=[]/\l=[]
 |d+1,fl,l=>Uu (ztx (Ul d)) fl l
def Uu.snoc{R:List FlS->aa->Prop}:∀{l:List aa} {fl:List FlS},Uu R fl l->∀{p:List FlS} {s:aa},R p s->Uu R (fl++p) (l++[s])
 |[],fl,h,p,s,hp=>by
  have h0:fl=[]:=h;subst h0;exact⟨p,[],by simp,hp,rfl⟩
 |x::l,fl,h,p,s,hp=>by
  obtain⟨a,b,rfl,h1,h2⟩:=h;exact⟨a,b++p,by simp,h1,Uu.snoc h2 hp⟩
def Ul.nil(d:Nat):Ul d [] []:=by
 cases d with
 |zero=>exact⟨rfl,rfl⟩
 |succ d=>exact rfl
def zo9(d:Nat)(p:List FlS)(f:Fl.Frame):Prop:=
 ∃f1,Ul (d+1) f1 f.first/\((f.cA=false/\p=⟨0,⟨f.kind,0,f.ap,f.e,[],[]⟩⟩::f1)\/(f.cA=true/\∃f2,Ul (d+1) f2 f.fN/\p=⟨0,⟨f.kind,0,f.ap,f.e,[],[]⟩⟩::(f1++Xe::f2)))
def FlatF:Nat->List FlS->List Fl.Frame->Prop
 |_,fl,[]=>fl=[]
 |d,fl,f::fs=>∃a b,fl=a++b/\FlatF (d+1) a fs/\zo9 d b f
def Xd(fl:List FlS)(r:RS):Prop:=∃a b,fl=a++b/\Ul 4 a r.ct/\FlatF (3 - r.fr.length) b r.fr
def zo9.done{d:Nat}{p:List FlS}{f:Fl.Frame}(h:zo9 d p f)(hk:f.kind=5\/f.kind=6)(hn:f.cA=false->f.fN=[]):ztx (Ul (d+1)) (p++[Xk]) f.done:=by
 obtain⟨f1,h1,h2⟩:=h
 right
 refine⟨hk,f1,h1,?_⟩;rcases h2 with⟨h3,rfl⟩|⟨h3,f2,h4,rfl⟩
 ·left;exact⟨hn h3,rfl⟩
 right;exact⟨f2,h4,by simp;rfl⟩
def zo9.snoc{d:Nat}{p q:List FlS}{f:Fl.Frame}{s:aa}(h:zo9 d p f)(hq:ztx (Ul d) q s):zo9 d (p++q) (if f.cA then{f with fN:=f.fN++[s]} else{f with first:=f.first++[s]}):=by
 obtain⟨f1,h1,h2⟩:=h;rcases h2 with⟨h3,rfl⟩|⟨h3,f2,h4,rfl⟩
 ·rw[h3]
  exact⟨f1++q,Uu.snoc h1 hq,.inl ⟨rfl,by simp⟩⟩
 rw[h3];exact⟨f1,h1,.inr ⟨rfl,f2++q,Uu.snoc h4 hq,by simp⟩⟩
def yhw{fl:List FlS}(h:Xd fl r)(hk:s.kind=3\/s.kind=4)(h1:s.aZ=[])(h2:s.aP=[])(hl:r.fr.length<=3):Xd (fl++[zyw s]) (r.put s):=by
 obtain⟨a,b,rfl,ha,hb⟩:=h;have hs:∀d,ztx (Ul d) [zyw s] s:=λd=> .inl ⟨hk,h1,h2,rfl⟩;unfold RS.put
 cases hf:r.fr with
 |nil=>
  rw[hf]at hb;have h0:b=[]:=hb;subst h0;exact⟨a++[zyw s],[],by simp,Uu.snoc ha (hs 3),rfl⟩
 |cons f fs=>
  rw[hf]at hb;obtain⟨x,y,rfl,hx,hy⟩:=hb;exact⟨a,x++(y++[zyw s]),by simp,ha,x,y++[zyw s],rfl,hx,hy.snoc (hs _)⟩
def yrx{fl:List FlS}(h:Xd fl r)(kind ap:Nat)(e:da)(hl:r.fr.length<3):Xd (fl++[⟨0,⟨kind,0,ap,e,[],[]⟩⟩]) (r.opens kind ap e):=by
 obtain⟨a,b,rfl,ha,hb⟩:=h
 have e1:3 - (r.fr.length+1)+1=3 - r.fr.length:=by omega
 refine⟨a,b++[⟨0,⟨kind,0,ap,e,[],[]⟩⟩],by simp,ha,b,[_],rfl,?_,[],Ul.nil _,.inl ⟨rfl,rfl⟩⟩;show FlatF (3 - (r.fr.length+1)+1) b r.fr;rw[e1];exact hb
def yrw{fl:List FlS}(h:Xd fl r)(hf:r.fr=f::fs)(hd:f.cA=false)(hn:f.fN=[]):Xd (fl++[Xe]) r.cX:=by
 obtain⟨a,b,rfl,ha,hb⟩:=h;rw[hf]at hb;obtain⟨x,y,rfl,hx,f1,h1,h2⟩:=hb;unfold RS.cX;rw[hf];rcases h2 with⟨h3,rfl⟩|⟨h3,_⟩
 ·exact⟨a,x++(⟨0,⟨f.kind,0,f.ap,f.e,[],[]⟩⟩::(f1++Xe::[])),by simp,ha,x,_,rfl,hx,f1,h1,.inr ⟨rfl,[],by rw[show ({f with cA:=true}:Fl.Frame).fN=[] from hn];exact Ul.nil _,rfl⟩⟩
 rw[hd]at h3;cases h3
def yk1{fl:List FlS}(h:Xd fl r)(hf:r.fr=f::fs)(hk:f.kind=5\/f.kind=6)(hn:f.cA=false->f.fN=[])(hl:r.fr.length<=3):Xd (fl++[Xk]) r.bB:=by
 obtain⟨a,b,rfl,ha,hb⟩:=h;rw[hf]at hb hl;obtain⟨x,y,rfl,hx,hy⟩:=hb;unfold RS.bB;rw[hf];have hd:=hy.done hk hn
 cases fs with
 |nil=>
  have h0:x=[]:=hx;subst h0;exact⟨a++(y++[Xk]),[],by simp,Uu.snoc ha hd,rfl⟩
 |cons g gs=>
  obtain⟨u,v,rfl,hu,hv⟩:=hx;simp only[length_cons]at hl hd hu hv;have e1:3 - (gs.length+1+1)+1=3 - (gs.length+1):=(by omega);refine⟨a,u++(v++(y++[Xk])),by simp,ha,u,v++(y++[Xk]),rfl,?_,?_⟩
  ·simp only[length_cons];rw[<-e1];exact hu
  simp only[length_cons];rw[<-e1];exact hv.snoc hd
def flatR0:Xd [] RS.zero:=⟨[],[],rfl,Ul.nil 4,rfl⟩
def dsV(ds:List (aa×Value×Value)):Vs:=ds.flatMap λx=>Vq x.1 x.2.1 x.2.2
def ztw(s:aa)(a b:Value):(Vq s a b).length=10:=rfl
def dsV_get(ds:List (aa×Value×Value))(i j:Nat)(hi:i<ds.length)(hj:j<10)(x:aa×Value×Value)(hx:ds[i]?=some x):(dsV ds)[i*10+j]?=some ((Vq x.1 x.2.1 x.2.2).getD j undef):=by
 induction ds generalizing i with
 |nil=>simp at hi
 |cons y ds ih=>
  unfold dsV at*;rw[flatMap_cons]
  cases i with
  |zero=>
   simp only[getElem?_cons_zero,Ql]at hx;subst hx;rw[Nat.zero_mul,Nat.zero_add,getElem?_append_left (by rw[ztw];exact hj),Qa,Qb (by rw[ztw];exact hj)];rfl
  |succ i=>
   simp only[getElem?_cons_succ]at hx;rw[getElem?_append_right (by rw[ztw];omega),ztw,show (i+1)*10+j - 10=i*10+j by omega];exact ih i (by simpa using hi) hx
def BdS(B:Nat)(w:World)(ov:Value)(b:Nat):Prop:=B<=b/\b<w.heap.size/\ov.ownBlock≠some b
structure zs7(d B:Nat)(w:World)(ds:List (aa×Value×Value))(ov:Value):Prop where
 own:w.ownsRow B 75 10 ov ds.length (dsV ds)
 bd:∀x∈ds,Yw d (BdS B w ov) w x.2.1 x.1.aZ/\Yw d (BdS B w ov) w x.2.2 x.1.aP
 hz:B<=w.heap.size
def zs7.nil(d:Nat)(w:World):zs7 d w.heap.size w [] Zq:=⟨⟨rfl,.inl ⟨rfl,rfl⟩⟩,λx hx=>(by cases hx),lE⟩
def zs7.below{ds:List (aa×Value×Value)}(h:zs7 d B w ds ov)(hb:E w w'):zs7 d B w' ds ov:=by
 have hz:=hb.size;have hk:∀b,BdS B w ov b->BdS B w' ov b:=λb hb=>⟨hb.1,by have:=hb.2.1;omega,hb.2.2⟩;have hw:∀b,BdS B w ov b->w'.heap[b]?=w.heap[b]?:=λb hb'=>hb.block b hb'.2.1;exact⟨Zj h.own (λb hv=>hb.block b (h.own.lt b hv).2),λx hx=>⟨Yw.kept hk hw _ _ _ (h.bd x hx).1,Yw.kept hk hw _ _ _ (h.bd x hx).2⟩,by have:=h.hz;omega⟩
def zs7.push{ds:List (aa×Value×Value)}{ov' bv o2:Value}(h:zs7 d B w ds ov)(hb:E w W3)(h1:Yw d (BdS B W3 ov) W3 bv s.aZ)(h2:Yw d (BdS B W3 ov) W3 o2 s.aP)
  (ho:W4.ownsRow B 75 10 ov' (ds.length+1) (dsV ds++Vq s bv o2)) (hg:W3.grownBy W4 ov.ownBlock) (a0:ov'.ownBlock=ov.ownBlock\/ov'.ownBlock=some W3.heap.size):zs7 d B W4 (ds++[(s,bv,o2)]) ov':=by
 have h3:=h.below hb;have hz:=hg.size
 have hk:∀b,BdS B W3 ov b->BdS B W4 ov' b:=λb hb=>⟨hb.1,by have:=hb.2.1;omega,λhh=>by
  rcases a0 with e|e
  ·rw[e]at hh;exact hb.2.2 hh
  rw[e]at hh;simp only[Ql]at hh;have:=hb.2.1;omega⟩
 have hw:∀b,BdS B W3 ov b->W4.heap[b]?=W3.heap[b]?:=λb hb'=>hg.block b hb'.2.1 (Ne.symm hb'.2.2);refine⟨?_,λx hx=>?_,by have:=h3.hz;omega⟩
 ·rw[length_append,show dsV (ds++[(s,bv,o2)])=dsV ds++Vq s bv o2 by simp[dsV]];exact ho
 rcases mem_append.1 hx with hx|hx
 ·exact⟨Yw.kept hk hw _ _ _ (h3.bd x hx).1,Yw.kept hk hw _ _ _ (h3.bd x hx).2⟩
 simp only[mem_singleton]at hx;subst hx;exact⟨Yw.kept hk hw _ _ _ h1,Yw.kept hk hw _ _ _ h2⟩
def zs7.closed{ds:List (aa×Value×Value)}(h:zs7 d B w ds ov)(hl:ds.length<=16):Yw (d+1) (λb=>B<=b/\b<w.heap.size) w ov (ds.map (·.1)):=by
 rcases h.own.2 with⟨h1,h2⟩|⟨g,cap,cur,h1,h2,h3,h4,h5,h6,h7⟩
 ·have:ds=[]:=Qi h2
  subst this;exact⟨none,0,h1,by simp,by simp[maxLen],by simp,λhh=>absurd rfl hh⟩
 have a0:g<w.heap.size:=Classical.byContradiction λhn=>by rw[Array.getElem?_eq_none (by omega)]at h3;cases h3
 refine⟨_,cap,by rw[length_map];exact h1,by rw[length_map];exact h4,h5,by rw[length_map];exact hl,λb0=>⟨g,rfl,⟨h2,a0⟩,λi hi=>?_⟩⟩;rw[length_map]at hi;have hx:ds[i]?=some ds[i]:=Qb hi
 have hs:(ds.map (·.1)).getD i noS=ds[i].1:=by rw[Qa,getElem?_map,hx];rfl
 rw[hs];have hm:=h.bd ds[i] (getElem_mem hi);refine⟨ds[i].2.1,ds[i].2.2,λj hj=>?_,Yw.kept (λb hb=>⟨hb.1,hb.2.1⟩) (λ_ _=>rfl) _ _ _ hm.1,Yw.kept (λb hb=>⟨hb.1,hb.2.1⟩) (λ_ _=>rfl) _ _ _ hm.2⟩;have h8:=h.own.cells (g:=g) (by rw[h1];rfl) (i*10+j) _ (dsV_get ds i j hi hj _ hx)
 have h9:((Y g 0):Addr).add (i*10+j)=(Y g (i*10+j)):=by unfold Addr.add;split<;>simp_all
 rw[h9]at h8;exact h8
def zpx(w:World)(v:Value)(FL:List FlS):Prop:=
 ∃fa fc,v=J fa FL.length fc/\FL.length<=fc/\fc<=maxLen/\FL.length<=100000/\(FL≠[]->∃Fb,fa=some (Y Fb 0)/\Fb<w.heap.size/\∀k,k<FL.length->∀j,j<10->w.cell? (Y Fb (k*10+j))=some ((Zn (FL.getD k Xk)).getD j undef))
def zpx.below{FL:List FlS}(h:zpx w v FL)(hb:E w w'):zpx w' v FL:=by
 obtain⟨fa,fc,h1,h2,h3,h4,h5⟩:=h;refine⟨fa,fc,h1,h2,h3,h4,λa0=>?_⟩;obtain⟨Fb,e,hz,hc⟩:=h5 a0;exact⟨Fb,e,Qj hz hb.size,λk hk j hj=>cT hb hz (hc k hk j hj)⟩
def Stop(rest:List FlS):Prop:=rest=[]\/∃f r,rest=f::r/\f.tag≠0
def dy(l:List FlS):Nat:=l.countP λf=>f.tag==0
def Uf(a b:List FlS):dy (a++b)=dy a+dy b:=by simp[dy]
def Uu.dy{R:List FlS->aa->Prop}(hR:∀p s,R p s->1<=dy p):∀{l:List aa} {fl:List FlS},Uu R fl l->l.length<=Go.Proofs.YtjmcibbdedlcoaaGreatDoor.dy fl
 |[],_,_=>Nat.zero_le _
 |s::l,fl,h=>by
  obtain⟨p,q,rfl,h1,h2⟩:=h;rw[Uf,length_cons];have:=hR p s h1;have:=Uu.dy hR h2;omega
def ztx.dy{Wx:List FlS->List aa->Prop}{p:List FlS}{s:aa}(h:ztx Wx p s):1<=Go.Proofs.YtjmcibbdedlcoaaGreatDoor.dy p:=by
 have hc:∀l,1<=Go.Proofs.YtjmcibbdedlcoaaGreatDoor.dy (zyw s::l):=λl=>by simp[Go.Proofs.YtjmcibbdedlcoaaGreatDoor.dy,zyw]
 rcases h with⟨_,_,_,rfl⟩|⟨_,f1,_,⟨_,rfl⟩|⟨f2,_,rfl⟩⟩
 ·exact hc _
 ·exact hc _
 exact hc _
def Ul.dy{d:Nat}{fl:List FlS}{l:List aa}(h:Ul d fl l):l.length<=Go.Proofs.YtjmcibbdedlcoaaGreatDoor.dy fl:=by
 cases d with
 |zero=>rw[h.2];exact Nat.zero_le _
 |succ d=>exact Uu.dy (λp s h=>ztx.dy h) h
def Zt.aside{m:Yo}(h:Zt lo base Rb Pb w0 w m)(a0:Below lo w0 w')(hz:base<=w'.heap.size)(hk:∀b,b=Rb\/b=Pb\/(∃j,Zr j/\(m.v j).ownBlock=some b)\/m.gy b->w'.heap[b]?=w.heap[b]?)(hs:w.heap.size<=w'.heap.size):Zt lo base Rb Pb w0 w' m:=by
 obtain⟨b1,b2,b3,b4,b5,b6,b7⟩:=h.bP;exact{bel:=a0,bP:=⟨b1,b2,b3,b4,b5,hz,b7⟩,cR:=h.cR.block (hk _ (.inl rfl)),cP:=h.cP.block (hk _ (.inr (.inl rfl))),own:=λj hj=>Zj (h.own j hj) (λb hb=>hk b (.inr (.inr (.inl ⟨j,hj,hb⟩)))),jp:=h.jp,kp:=λb hb=>have k:=h.kp b hb;⟨k.1,Qj k.2.1 hs,(hk b (.inr (.inr (.inr hb)))).trans k.2.2.1,k.2.2.2⟩}
def Zg(k x:Int)(op:Int)(av:Bool)(an:Int)(bv:Bool)(bn:Int):Array Value:=#[I k,I x,I 0,I op,.bool av,I an,.bool bv,I bn,Zq,Zq]
section
variable{m:Yo}{fl:List FlS}{t:Nat}
def Zk.jy(h:Zk r fl t m)(x:K)(v:Value)(hx:x.length<=100000)(hl:r.ak.length<4):Zk {r with ak:=r.ak++[x]} fl t (m.app 4 v [strV x]):=
 {
  r1:=h.r1,r2:=h.r2,r3:=h.r3,r4:=⟨by show m.n 4+1=_;rw[h.r4.1];simp,by show m.xs 4++_=_;rw[h.r4.2];simp⟩,r5:=h.r5,r6:=h.r6,r8:=h.r8,gw:=h.gw,jX:=h.jX,jG:=h.jG,bg:=h.bg,st:=h.st,nm:=λy hy=>by
   simp only[mem_append,mem_singleton]at hy;rcases hy with h1|h1|h1|h1|rfl
   ·exact h.nm y (by simp[h1])
   ·exact h.nm y (by simp[h1])
   ·exact h.nm y (by simp[h1])
   ·exact h.nm y (by simp[h1])
   exact hx
  lv:=h.lv,ce:=h.ce,ch:=h.ch,lo:=by simp;omega,sm:=h.sm,fr:=h.fr,lw:=h.lw,ft:=h.ft,pr:=h.pr,bw:=h.bw,cl:=h.cl,hl:=h.hl,lt:=h.lt}
def ziz{x:Value}(hN:w.heap.size=N):∀j u,[x][j]?=some u->(w.alloc (.cells #[x] e)).cell? (((Y N 0):Addr).add j)=some u:=by subst hN;exact Xw
def zq0{P:Program}{fn:Func}{p q:Tmp}{ty:TypeId}(h:fn.results=#[.cell p ty,.tmp q])(tmps:Array Value)(w:World)(ad:Addr)(v:Value)(ha:tmps.getD p undef=.pointer (some ad))(hl:(loadVar ty ad).run P w=.ok v w):
  (results fn tmps).run P w=.ok (.tuple #[v,tmps.getD q undef]) w:=by
 have ha':tmps[p]?.getD undef=.pointer (some ad):=by rw[<-ha,Array.getD_eq_getD_getElem?]
 simp only[results,h];simp[Sem.run_bind,Result.andThen,ha',asAddr,hl]
def Tryz.infoStmt10:(Tryz.prog.info? 75).map (·.size)=some 10:=by kernel_rfl
def zx8(u:World)(o:Obj)(k:Nat)(hk:u.heap.size=k):(u.alloc o).heap[k]?=some o:=by subst hk;exact heap_alloc_last u o
def Yv:Array Value:=#[I 0,I 0,I 0,I 0,.bool false,I 0,.bool false,I 0,Zq,Zq]
end
def zu6(d:Nat)(w:World)(k:Nat)(l:List aa)(e:Ending)(w':World):Prop:=
 E w w'/\∃oa on oc,e=.returned (.tuple #[J oa on oc,I k])/\Yw d (λb=>w.heap.size<=b/\b<w'.heap.size) w' (J oa on oc) l
def zd1(d:Nat)(FL:List FlS)(v:Value):Prop:=
 ∀(w:World) (i:Nat) (fl:List FlS) (l:List aa) (rest:List FlS),zpx w v FL->i<=FL.length->FL.drop i=fl++rest->Ul d fl l->Stop rest->F 13 #[v,I i] w (zu6 d w (i+fl.length) l)
def Jo{FL:List FlS}{f:FlS}{r:List FlS}(h:FL.drop i=f::r):i<FL.length/\FL.getD i Xk=f/\FL.drop (i+1)=r:=by
 have hi:i<FL.length:=Classical.byContradiction λhn=>by rw[drop_of_length_le (by omega)]at h;cases h
 rw[drop_eq_getElem_cons hi]at h;injection h with h1 h2;exact⟨hi,by rw[Qa,Qb hi];exact h1,h2⟩
def yz3{FL:List FlS}{a b:List FlS}(h:FL.drop i=a++b)(hi:i<=FL.length):FL.drop (i+a.length)=b/\i+a.length<=FL.length:=by
 have h1:(FL.drop i).length=FL.length - i:=by simp
 have h2:FL.drop (i+a.length)=(FL.drop i).drop a.length:=by rw[drop_drop]
 rw[h]at h1 h2;simp only[length_append]at h1;exact⟨by rw[h2];simp,by omega⟩
def zpx.ap{FL:List FlS}{Fb fc:Nat}(h:zpx w (Sq Fb 0 n fc) FL)(i:Nat)(hi:i<FL.length):∀j,j<10->w.cell? (Y Fb (i*10+j))=some ((Zn (FL.getD i Xk)).getD j undef):=by
 obtain⟨fa,c,h1,h2,h3,h4,h5⟩:=h;obtain⟨b,e,hz,hc⟩:=h5 (by rintro rfl;simp at hi);simp only[slice.injEq]at h1;obtain⟨h6,-,-⟩:=h1;rw[e]at h6;simp only[Ql,Addr.mk.injEq]at h6;rw[h6.1];exact hc i hi
def yhv(FL:List FlS)(v:Value):zd1 0 FL v:=by
 intro w i fl l rest hF hi hd hl hs;obtain⟨rfl,rfl⟩:=hl;simp only[nil_append]at hd;have a0:O (zu6 0 w (i+([]:List FlS).length) [] (.returned (.tuple #[Zq,I i])) w):=⟨Below.refl _ _,none,0,0,rfl,rfl,rfl⟩;obtain⟨fa,fc,rfl,h2,h3,h4,h5⟩:=id hF
 have e0:(i:Int)<=(FL.length:Int):=by omega
 have f0:(FL.length:Int)<=100000:=by omega
 rcases hs with rfl|⟨f,r,rfl,hf⟩
 ·have hn:¬(i:Int)<(FL.length:Int):=by
   intro hh
   have:i<FL.length:=by omega
   rw[drop_eq_getElem_cons this]at hd;cases hd
  clear hF h2 h3 h4 h5 hd
  go_enter func13,ntmps13
  go_wp2_with fail
  go_loopw [1,6] (λiv ov wr=>iv=I i/\ov=Zq/\wr=w) (λ_ _ _=>0)
  case atStart=>exact⟨rfl,rfl,rfl⟩
  case round=>
   obtain⟨rfl,rfl,b0⟩:=hrel;rw[b0];clear b0;go_wp2
   go_ret2
   exact a0
 obtain⟨g1,g2,g3⟩:=Jo hd;obtain⟨Fb,rfl,hz,hc⟩:=h5 (by rintro rfl;simp at g1);have c0:=hc i g1 0 (by omega);rw[g2,Nat.add_zero]at c0;obtain⟨kk,d0⟩:∃kk:Int,(Zn f).getD 0 undef=I kk/\kk<0:=by
  unfold Zn;rw[Z hf];refine⟨_,rfl,?_⟩
  split<;>decide
 rw[d0.1]at c0
 have g0:¬0<=kk:=by omega
 have hn:(i:Int)<(FL.length:Int):=by omega
 clear hF h2 h3 h4 h5 hd hc d0 g2 g3
 go_enter func13,ntmps13
 go_wp2_with fail
 go_loopw [1,6] (λiv ov wr=>iv=I i/\ov=Zq/\wr=w) (λ_ _ _=>0)
 case atStart=>exact⟨rfl,rfl,rfl⟩
 case round=>
  obtain⟨rfl,rfl,b0⟩:=hrel;rw[b0];clear b0;go_wp2
  go_ret2
  exact a0
def Yw.nil(d:Nat)(S:Nat->Prop)(w:World):Yw d S w Zq []:=by
 cases d with
 |zero=>exact⟨rfl,rfl⟩
 |succ d=>exact⟨none,0,rfl,by simp,by simp[maxLen],by simp,λh=>absurd rfl h⟩
def Tryz.infoStmtP:(Tryz.prog.info? 75).map (λi=>(i.zero,i.size,i.bytes))=some (some (.agg Yv),10,112):=by kernel_rfl
def zvy{l:Vs}(hN:w.heap.size=N):∀j u,l[j]?=some u->(w.alloc (.cells l.toArray e)).cell? (((Y N 0):Addr).add j)=some u:=by
 intro j u hj;subst hN
 have h2:((Y w.heap.size 0):Addr).add j=(Y w.heap.size j):=by unfold Addr.add;split<;>simp_all
 rw[h2,cell?_alloc_new];simpa using hj
def ztx.head{Wx:List FlS->List aa->Prop}{p:List FlS}(h:ztx Wx p s):∃t,p=zyw s::t:=by
 rcases h with⟨_,_,_,rfl⟩|⟨_,f1,_,⟨_,rfl⟩|⟨f2,_,rfl⟩⟩
 ·exact⟨_,rfl⟩
 ·exact⟨_,rfl⟩
 exact⟨_,rfl⟩
def yrv(s:aa):Zn (zyw s)=Vq s Zq Zq:=rfl
structure zp1(d:Nat)(FL:List FlS)(w:World)(i:Nat)(fl:List FlS)(l:List aa)(rest:List FlS)(k:Nat)(ov:Value)(wr:World)(ds:List (aa×Value×Value))(fl2:List FlS)(l2:List aa):Prop where
 hk:k<=FL.length
 hd:FL.drop k=fl2++rest
 fc:Uu (ztx (Ul d)) fl2 l2
 hl:l=ds.map (·.1)++l2
 st:zs7 d w.heap.size wr ds ov
 be:E w wr
 le:k+fl2.length=i+fl.length
def zp1.bB{FL:List FlS}{fl:List FlS}{rest:List FlS}{oa:Option Addr}{on oc:Nat}{wr:World}{ds:List (aa×Value×Value)}{fl2:List FlS}(h:zp1 d FL w i fl l rest k (J oa on oc) wr ds fl2 [])(a0:dy FL<=16)(b0:Ul (d+1) fl l)(c0:∃a b,FL=a++fl++b):zu6 (d+1) w (i+fl.length) l (.returned (.tuple #[J oa on oc,I k])) wr:=by
 have h0:fl2=[]:=h.fc
 have hk:k=i+fl.length:=by have:=h.le;rw[h0]at this;simpa using this
 have hl:l=ds.map (·.1):=by have:=h.hl;simpa using this
 refine⟨h.be,oa,on,oc,by rw[hk],?_⟩;rw[hl];refine h.st.closed ?_;have h1:=Ul.dy b0;obtain⟨a,b,d0⟩:=c0;rw[d0,Uf,Uf]at a0;rw[hl,length_map]at h1;omega
def yg0{FL:List FlS}(H:zd1 d FL v)(M0:dy FL<=16):zd1 (d+1) FL v:=by
 intro w i fl l rest hF hi hd hl hs;obtain⟨fa,fc,hv,h2,h3,h4,h5⟩:=id hF;have F0:∃a b,FL=a++fl++b:=⟨FL.take i,rest,by rw[append_assoc,<-hd,take_append_drop]⟩
 have H1:(i:Int)<=(FL.length:Int):=by omega
 have I1:(FL.length:Int)<=100000:=by omega
 by_cases e0:FL=[]
 ·have r1:l=[]:=by
   have h1:=Ul.dy hl;obtain⟨a,b,C0⟩:=F0;rw[e0]at C0;have hf:fl=[]:=by
    have:=congrArg length C0;simp only[length_nil,length_append]at this;exact Qi (by omega)
   rw[hf]at h1;exact Qi (by simpa [dy] using h1)
  have N0:fl=[]:=by
   obtain⟨a,b,C0⟩:=F0;rw[e0]at C0;have:=congrArg length C0;simp only[length_nil,length_append]at this;exact Qi (by omega)
  have m0:O (zu6 (d+1) w (i+fl.length) l (.returned (.tuple #[Zq,I i])) w):=by
   rw[r1,N0];exact⟨Below.refl _ _,none,0,0,rfl,Yw.nil _ _ _⟩
  have hn:¬(i:Int)<(FL.length:Int):=(by rw[e0];simp);subst hv;clear hF h2 h3 h4 h5 hd H M0 F0 hl r1 N0 e0 hs
  go_enter func13,ntmps13
  go_wp2_with fail
  go_loopw [1,6] (λiv ov wr=>iv=I i/\ov=Zq/\wr=w) (λ_ _ _=>0)
  case atStart=>exact⟨rfl,rfl,rfl⟩
  case round=>
   obtain⟨rfl,rfl,u1⟩:=hrel;rw[u1];clear u1;go_wp2
   go_ret2
   exact m0
 obtain⟨Fb,J1,K1,-⟩:=h5 e0;subst J1;subst hv;have HF:=A hF;have HH:=A H;have L1:O (∀k oa on oc wr ds fl2,zp1 d FL w i fl l rest k (J oa on oc) wr ds fl2 []->zu6 (d+1) w (i+fl.length) l (.returned (.tuple #[J oa on oc,I k])) wr):=λk oa on oc wr ds fl2 h=>h.bB M0 hl F0;have V0:O (zp1 d FL w i fl l rest i Zq w [] fl l):=⟨hi,hd,hl,rfl,zs7.nil d w,Below.refl _ _,rfl⟩;have HS:=A hs;have M1:O (l.length<=16):=by
  show _<=_;have h1:=Ul.dy hl;obtain⟨a,b,C0⟩:=F0;rw[C0,Uf,Uf]at M0;omega
 obtain⟨n,hn⟩:=U (FL.length);have HN:=A hn
 have N1:(n:Int)<=(fc:Int):=by omega
 rw[<-hn]at HF HH I1;rw[<-hn];clear hF h2 h3 h4 h5 hd H M0 F0 hl hs H1 hn
 go_enter func13,ntmps13
 go_wp2_with fail
 go_loopw [1,6] (λiv ov wr=>∃(k:Nat) (ds:List (aa×Value×Value)) (fl2:List FlS) (l2:List aa),iv=I k/\zp1 d FL w i fl l rest k ov wr ds fl2 l2) (λiv _ _=>n - (intOf iv).toNat)
 case atStart=>exact⟨i,[],fl,l,rfl,V0⟩
 case round=>
  obtain⟨k,ds,fl2,l2,rfl,hR⟩:=hrel;obtain⟨oa,oc,rfl⟩:∃oa oc,u6=J oa ds.length oc:=by
   rcases hR.st.own.2 with⟨h1,h2⟩|⟨g,cp,cur,h1,_⟩
   ·exact⟨none,0,by rw[h1,h2]⟩
   exact⟨_,cp,h1⟩
  have HR:=A hR;have Y1:k<=n:=(by rw[HN.out];exact hR.hk);have G0:=HF.below hR.be
  cases l2 with
  |nil=>
   have N0:fl2=[]:=hR.fc;have n0:FL.drop k=rest:=(by have:=hR.hd;rw[N0]at this;simpa using this);have m0:O (zu6 (d+1) w (i+fl.length) l (.returned (.tuple #[J oa ds.length oc,I k])) wr):=L1 _ _ _ _ _ _ _ hR;clear hR V0 HR;rcases HS.out with hs|⟨f,r,hs,O1⟩
   ·have Z1:¬(k:Int)<(n:Int):=by
     intro hh
     have:k<FL.length:=by rw[<-HN.out];omega
     rw[hs,drop_eq_getElem_cons this]at n0;cases n0
    clear n0 hs G0;go_wp2
    go_ret2
    exact m0
   rw[hs]at n0;obtain⟨g1,g2,g3⟩:=Jo n0;have c0:=G0.ap k g1 0 (by omega);rw[g2,Nat.add_zero]at c0;obtain⟨kk,O0⟩:∃kk:Int,(Zn f).getD 0 undef=I kk/\kk<0:=by
    unfold Zn;rw[Z O1];refine⟨_,rfl,?_⟩
    split<;>decide
   rw[O0.1]at c0;have P1:¬0<=kk:=(by omega);have l0:(k:Int)<(n:Int):=(by rw[HN.out];omega);clear n0 hs G0 O0 g2 g3;go_wp2
   go_ret2
   exact m0
  |cons s l3=>
   obtain⟨p,q,W0,X0,hq⟩:=hR.fc;obtain⟨tl,o0⟩:=X0.head;have n0:FL.drop k=zyw s::(tl++(q++rest)):=(by rw[hR.hd,W0,o0];simp);obtain⟨g1,g2,g3⟩:=Jo n0;have l0:(k:Int)<(n:Int):=(by rw[HN.out];omega)
   have f0:∀j,j<10->D wr Fb (k*10+j) ((Vq s Zq Zq).getD j undef):=λj hj=>by
    have:=G0.ap k g1 j hj;rw[g2,yrv]at this;exact this
   have s0:D wr Fb (k*10) (I s.kind):=f0 0 (by omega);have s1:D wr Fb (k*10+1) (I s.x):=f0 1 (by omega);have s2:D wr Fb (k*10+2) (I s.ap):=f0 2 (by omega);have s3:D wr Fb (k*10+3) (I s.e.op):=f0 3 (by omega);have s4:D wr Fb (k*10+4) (.bool s.e.a.var):=f0 4 (by omega);have s5:D wr Fb (k*10+5) (I s.e.a.v):=f0 5 (by omega);have s6:D wr Fb (k*10+6) (.bool s.e.b.var):=f0 6 (by omega);have s7:D wr Fb (k*10+7) (I s.e.b.v):=f0 7 (by omega);have s8:D wr Fb (k*10+8) Zq:=f0 8 (by omega);have s9:D wr Fb (k*10+9) Zq:=f0 9 (by omega);have P1:(0:Int)<=(s.kind:Int):=(by omega);have Y0:=A X0;have HQ:=A hq;have x0:=A g3;have g0:O (fl2=p++q/\p=zyw s::tl):=⟨W0,o0⟩;have Z0:=A g1;have b1:=A G0;clear hR W0 X0 hq o0 n0 g2 g3 f0 G0 V0;obtain⟨i0,c1,d1,e1,i1⟩:=info_parts Tryz.infoStmtP;have j1:O (∀W,E wr W->W.ownsRow w.heap.size 75 10 (J oa ds.length oc) ds.length (dsV ds)):=λW hW=>(HR.st.below hW).own;have a2:ds.length<=100000:=by
    have h1:=HR.hl;have h2:=M1.out;rw[h1]at h2;simp only[length_append,length_map]at h2;omega
   have ee:=HR.st.hz;rcases Y0.out with⟨hk,x1,y1,hp⟩|⟨hk,f1,z1,h0⟩
   ·have H0:tl=[]:=by
     have:=g0.2;rw[hp]at this;injection this with _ h;exact h.symm
    have b5:((s.kind:Int)==5)=false:=by rcases hk with hk|hk<;>rw[hk]<;>decide
    have b6:((s.kind:Int)==6)=false:=by rcases hk with hk|hk<;>rw[hk]<;>decide
    have l1:O (∀o o',E wr ((wr.alloc o).alloc o')):=λo o'=>(bA).alloc (by simp) _
    have y0:O (∀v' W4,W4.ownsRow w.heap.size 75 10 v' (ds.length+1) (dsV ds++Vq s Zq Zq)->(∃o o',((wr.alloc o).alloc o').grownBy W4 (J oa ds.length oc).ownBlock)->(v'.ownBlock=(J oa ds.length oc).ownBlock\/v'.ownBlock=some (wr.heap.size+1+1))->zp1 d FL w i fl l rest (k+1) v' W4 (ds++[(s,Zq,Zq)]) q l3):=λv' W4 h1 h2 h3=>by
     obtain⟨o,o',h2⟩:=h2;have dx:=HR.st.push (l1 o o') (by rw[x1];exact Yw.nil _ _ _) (by rw[y1];exact Yw.nil _ _ _) h1 h2 (by simpa using h3);have l0:=HR.st.own.lt;refine⟨Z0,by rw[x0.out,H0];rfl,HQ,by rw[HR.hl];simp,dx,?_,?_⟩
     ·exact(HR.be.trans ((l1 o o').mono (by omega))).grown h2 (by simp;omega) (λb hb=>by have:=(l0 b hb).1;omega)
     have h4:=HR.le;rw[g0.1,hp]at h4;simp only[length_append,length_singleton]at h4;omega
    clear Y0 hk x1 y1 hp H0 HQ g0 x0
    go_wp2_with (at_builtin;refine Ap underlying34 c1 d1 e1 i1 rfl (j1 _ (l1 _ _)) rfl (Vq s Zq Zq) rfl rfl (zvy (by simp)) ?c2 ?c3 ?c4 ?c5 ?_)
    case c2=>intro u hu;simp only[Vq,mem_cons,not_mem_nil,or_false]at hu;rcases hu with rfl|rfl|rfl|rfl|rfl|rfl|rfl|rfl|rfl|rfl<;>rfl
    case c3=>unfold maxLen;omega
    case c4=>omega
    case c5=>simp;omega
    intro v' W4 a0 z0 d0;have A0:=y0 v' W4 a0 ⟨_,_,z0⟩ (by simpa using d0);obtain⟨va',vcap,rfl⟩:∃va vcap,v'=J va (ds.length+1) vcap:=by
     rcases a0.2 with⟨h1,h2⟩|⟨g,cp,cur,h1,_⟩
     ·omega
     exact⟨_,cp,h1⟩
    have I0:=A A0;clear A0 a0 z0 d0 y0;go_wp2
    go_roundw
    case rel=>exact⟨k+1,_,_,_,by go_num,I0⟩
    case measure=>simp[intOf];omega
   have O0:(((s.kind:Int)==5)=true)\/(((s.kind:Int)==5)=false/\((s.kind:Int)==6)=true):=by rcases hk with hk|hk<;>rw[hk]<;>decide
   obtain⟨rest1,p0,J0⟩:∃rest1,FL.drop (k+1)=f1++rest1/\Stop rest1:=by
    rcases h0 with⟨_,hp⟩|⟨f2,_,hp⟩
    ·have h1:=g0.2
     rw[hp]at h1;injection h1 with _ h1;exact⟨Xk::(q++rest),by rw[x0.out,<-h1];simp,.inr ⟨_,_,rfl,by decide⟩⟩
    have h1:=g0.2;rw[hp]at h1;injection h1 with _ h1;exact⟨Xe::(f2++[Xk]++(q++rest)),by rw[x0.out,<-h1];simp,.inr ⟨_,_,rfl,by decide⟩⟩
   have P0:=yz3 p0 (by have:=Z0.out;omega)
   have Q0:O (∀o,F 13 #[Sq Fb 0 n fc,I ((k:Int)+1)] (wr.alloc o) (zu6 d (wr.alloc o) (k+1+f1.length) s.aZ)):=λo=>by
    have h1:=HH (wr.alloc o) (k+1) f1 s.aZ rest1 (b1.below (bA)) Z0 p0 z1 J0;rw[show ((k+1:Nat):Int)=(k:Int)+1 by omega]at h1;exact h1
   have j0:=A h0;obtain⟨k1,D0⟩:=U (k+1+f1.length);rw[<-D0]at Q0 P0;have A1:=A D0;have R0:=A P0.1;have S0:=A p0;have Q1:k1<=n:=(by rw[HN.out];exact P0.2);have R1:k+1<=k1:=(by omega);clear h0 P0 p0 J0 D0 Y0 z1;rcases O0 with b5|⟨b5,b6⟩
   all_goals
    go_wp2_with fail
    refine(Q0 _).mono ?_;rintro e W1 ⟨T0,ba,bn,bc,rfl,B1⟩;have rS:W1.heap[wr.heap.size]?=some (.cells #[I s.kind,I s.x,I s.ap,I s.e.op,.bool s.e.a.var,I s.e.a.v,.bool s.e.b.var,I s.e.b.v,Zq,Zq] 75 (0,0)):=by
     rw[T0.block _ (by simp)];exact zx8 _ _ _ rfl
    have m1:wr.heap.size<W1.heap.size:=(by have:=T0.size;simp at this;omega);have n1:O (E wr W1):=(bA).trans (T0.mono (by simp));have C1:O (Yw d (λb=>wr.heap.size+1<=b/\b<W1.heap.size) W1 (J ba bn bc) s.aZ):=by
     show Yw _ _ _ _ _;have:=B1;simpa using this
    have K1:Fb<wr.heap.size:=Qe wr _ s0;have q0:=b1.below n1.out;have t0:D W1 wr.heap.size 0 (I s.kind):=cR 0 rS;have t1:D W1 wr.heap.size 1 (I s.x):=cR 1 rS;have t2:D W1 wr.heap.size 2 (I s.ap):=cR 2 rS;have t3:D W1 wr.heap.size 3 (I s.e.op):=cR 3 rS;have t4:D W1 wr.heap.size 4 (.bool s.e.a.var):=cR 4 rS;have t5:D W1 wr.heap.size 5 (I s.e.a.v):=cR 5 rS;have t6:D W1 wr.heap.size 6 (.bool s.e.b.var):=cR 6 rS;have t7:D W1 wr.heap.size 7 (I s.e.b.v):=cR 7 rS;have t8:D W1 wr.heap.size 8 Zq:=cR 8 rS;have t9:D W1 wr.heap.size 9 Zq:=cR 9 rS
    have tz:∀j,W1.frozen? (Y wr.heap.size j)=false:=λj=>by simp[frozen?,rS]
    have b2:wr.heap.size≠Fb:=(by omega);clear T0 B1 rS s1 s2 s3 s4 s5 s6 s7 s8 s9;rcases j0.out with⟨r0,hp⟩|⟨f2,D1,hp⟩
    ·have o0:tl=f1++[Xk]:=by
      have h1:=g0.2;rw[hp]at h1;injection h1 with _ h1;exact h1.symm
     have K0:FL.drop k1=Xk::(q++rest):=by
      have h1:=S0.out;rw[x0.out,o0,append_assoc]at h1;rw[R0.out];exact(append_cancel_left h1).symm
     obtain⟨g1,g2,g3⟩:=Jo K0;have c0:W1.cell? (Y Fb (k1*10))=some (I (-2)):=by
      have:=q0.ap k1 g1 0 (by omega);rw[g2]at this;exact this
     have o1:(k1:Int)<(n:Int):=(by rw[HN.out];omega);have E0:O (∀v o,E wr ((W1.setCell (Y wr.heap.size 8) v).alloc o)):=λv o=>(n1.setCell lE _).alloc (by rw[Zy];omega) _
     have y0:O (∀v' W4,W4.ownsRow w.heap.size 75 10 v' (ds.length+1) (dsV ds++Vq s (J ba bn bc) Zq)->(∃o,((W1.setCell (Y wr.heap.size 8) (J ba bn bc)).alloc o).grownBy W4 (J oa ds.length oc).ownBlock)->(v'.ownBlock=(J oa ds.length oc).ownBlock\/v'.ownBlock=some (W1.heap.size+1))->zp1 d FL w i fl l rest (k1+1) v' W4 (ds++[(s,J ba bn bc,Zq)]) q l3):=λv' W4 h1 h2 h3=>by
      obtain⟨o,h2⟩:=h2;have l0:=HR.st.own.lt;have k0:Yw d (BdS w.heap.size ((W1.setCell (Y wr.heap.size 8) (J ba bn bc)).alloc o) (J oa ds.length oc)) ((W1.setCell (Y wr.heap.size 8) (J ba bn bc)).alloc o) (J ba bn bc) s.aZ:=by
       refine Yw.kept (λb hb=>⟨by omega,by simp[Zy];omega,λhh=>by have:=(l0 b hh).2;omega⟩) (λb hb=>?_) _ _ _ C1.out;rw[Below.heap_alloc _ _ _ (by rw[Zy];omega),Zx _ _ _ _ _ (by omega)]
      have dx:=HR.st.push (E0 _ o) k0 (by rw[r0];exact Yw.nil _ _ _) h1 h2 (by rcases h3 with h3|h3;exact .inl h3;exact .inr (by rw[h3];simp[Zy]));refine⟨by omega,g3,HQ,by rw[HR.hl];simp,dx,?_,?_⟩
      ·exact(HR.be.trans ((E0 _ o).mono (by omega))).grown h2 (by simp[Zy];omega) (λb hb=>by have:=(l0 b hb).1;omega)
      have h4:=HR.le;have h5:=A1.out;rw[g0.1,hp]at h4;simp only[length_append,length_singleton,length_cons,length_nil]at h4;omega
     clear o0 K0 g2 g3 q0 r0 hp j0 S0 R0 x0 g0 HQ Q0
     go_wp2_with (at_builtin;refine Ap underlying34 c1 d1 e1 i1 rfl (j1 _ (E0 _ _)) rfl (Vq s (J ba bn bc) Zq) rfl rfl (zvy (by simp[Zy])) ?c2 ?c3 ?c4 ?c5 ?_)
     case c2=>intro u hu;simp only[Vq,mem_cons,not_mem_nil,or_false]at hu;rcases hu with rfl|rfl|rfl|rfl|rfl|rfl|rfl|rfl|rfl|rfl<;>rfl
     case c3=>unfold maxLen;omega
     case c4=>omega
     case c5=>simp[Zy];omega
     intro v' W4 a0 z0 d0;have A0:=y0 v' W4 a0 ⟨_,z0⟩ (by simpa [Zy] using d0);obtain⟨va',vcap,rfl⟩:∃va vcap,v'=J va (ds.length+1) vcap:=by
      rcases a0.2 with⟨h1,h2⟩|⟨g,cp,cur,h1,_⟩
      ·omega
      exact⟨_,cp,h1⟩
     have I0:=A A0;clear A0 a0 z0 d0 y0;go_wp2
     go_roundw
     case rel=>exact⟨k1+1,_,_,_,by go_num,I0⟩
     case measure=>simp[intOf];omega
    have o0:tl=f1++Xe::(f2++[Xk]):=by
     have h1:=g0.2;rw[hp]at h1;injection h1 with _ h1;exact h1.symm
    have K0:FL.drop k1=Xe::(f2++(Xk::(q++rest))):=by
     have h1:=S0.out;rw[x0.out,o0,append_assoc]at h1;rw[R0.out];have h2:=(append_cancel_left h1).symm;rw[h2];simp
    obtain⟨g1,g2,g3⟩:=Jo K0;have c0:W1.cell? (Y Fb (k1*10))=some (I (-1)):=by
     have:=q0.ap k1 g1 0 (by omega);rw[g2]at this;exact this
    have o1:(k1:Int)<(n:Int):=(by rw[HN.out];omega);have U0:=yz3 g3 (by omega);have L0:O (∀v,E wr (W1.setCell (Y wr.heap.size 8) v)):=λv=>n1.setCell lE _;obtain⟨k2,u0⟩:=U (k1+1+f2.length)
    have E1:O (∀v,F 13 #[Sq Fb 0 n fc,I ((k1:Int)+1)] (W1.setCell (Y wr.heap.size 8) v) (zu6 d (W1.setCell (Y wr.heap.size 8) v) k2 s.aP)):=λv=>by
     have h1:=HH (W1.setCell (Y wr.heap.size 8) v) (k1+1) f2 s.aP _ (b1.below (L0 v)) (by omega) g3 D1 (.inr ⟨_,_,rfl,by decide⟩);rw[show ((k1+1:Nat):Int)=(k1:Int)+1 by omega,<-u0]at h1;exact h1
    rw[<-u0]at U0;have S1:=A u0;have p1:k2+1<=n:=by
     obtain⟨a1,-,-⟩:=Jo U0.1;rw[HN.out];exact a1
    have T1:k1+1<=k2:=(by omega);have U1:O (FL.drop (k2+1)=q++rest):=(Jo U0.1).2.2;have HP:=A hp;clear o0 K0 g2 g3 q0 hp j0 S0 R0 x0 Q0 U0 u0 D1
    go_wp2_with fail
    refine(E1 _).mono ?_;rintro e W5 ⟨B0,ea,en,ec,rfl,F1⟩;have d2:wr.heap.size<W5.heap.size:=(by have:=B0.size;rw[Zy]at this;omega);have V1:O (E wr W5):=(L0 _).trans (B0.mono (by rw[Zy];omega));have X1:O (Yw d (λb=>W1.heap.size<=b/\b<W5.heap.size) W5 (J ea en ec) s.aP):=by
     show Yw _ _ _ _ _;have:=F1;rw[Zy]at this;exact this
    have q1:O (Yw d (λb=>wr.heap.size+1<=b/\b<W5.heap.size) W5 (J ba bn bc) s.aZ):=by
     refine Yw.kept (λb hb=>⟨hb.1,by have:=B0.size;rw[Zy]at this;omega⟩) (λb hb=>?_) _ _ _ C1.out;rw[B0.block b (by rw[Zy];omega),Zx _ _ _ _ _ (by omega)]
    have b0:∀j,j≠8->W5.cell? (Y wr.heap.size j)=W1.cell? (Y wr.heap.size j):=λj hj=>by
     refine(cT B0 (by rw[Zy];exact m1) (Qg _ _ _ _ ?_));intro hh;injection hh with _ h9;omega
    have v0:=(b0 0 (by omega)).trans t0;have v1:=(b0 1 (by omega)).trans t1;have v2:=(b0 2 (by omega)).trans t2;have v3:=(b0 3 (by omega)).trans t3;have v4:=(b0 4 (by omega)).trans t4;have v5:=(b0 5 (by omega)).trans t5;have v6:=(b0 6 (by omega)).trans t6;have v7:=(b0 7 (by omega)).trans t7;have v8:D W5 wr.heap.size 8 (J ba bn bc):=cT B0 (by rw[Zy];exact m1) (cell?_setCell_same' _ _ _ (by simp[t8]));have v9:=(b0 9 (by omega)).trans t9;have vz:∀j,W5.frozen? (Y wr.heap.size j)=false:=λj=>(B0.frozen (p:=(Y wr.heap.size j)) (by rw[Zy];exact m1)).trans (by rw[frozen?_setCell];exact tz j);have E0:O (∀v o,E wr ((W5.setCell (Y wr.heap.size 9) v).alloc o)):=λv o=>(V1.setCell lE _).alloc (by rw[Zy];omega) _
    have y0:O (∀v' W4,W4.ownsRow w.heap.size 75 10 v' (ds.length+1) (dsV ds++Vq s (J ba bn bc) (J ea en ec))->(∃o,((W5.setCell (Y wr.heap.size 9) (J ea en ec)).alloc o).grownBy W4 (J oa ds.length oc).ownBlock)->(v'.ownBlock=(J oa ds.length oc).ownBlock\/v'.ownBlock=some (W5.heap.size+1))->zp1 d FL w i fl l rest (k2+1) v' W4 (ds++[(s,J ba bn bc,J ea en ec)]) q l3):=λv' W4 h1 h2 h3=>by
     obtain⟨o,h2⟩:=h2;have l0:=HR.st.own.lt
     have G1:∀b,wr.heap.size<b->b<W5.heap.size->((W5.setCell (Y wr.heap.size 9) (J ea en ec)).alloc o).heap[b]?=W5.heap[b]?:=λb h8 h9=>by
      rw[Below.heap_alloc _ _ _ (by rw[Zy];omega),Zx _ _ _ _ _ (by omega)]
     have k0:Yw d (BdS w.heap.size ((W5.setCell (Y wr.heap.size 9) (J ea en ec)).alloc o) (J oa ds.length oc)) ((W5.setCell (Y wr.heap.size 9) (J ea en ec)).alloc o) (J ba bn bc) s.aZ:=Yw.kept (λb hb=>⟨by omega,by simp[Zy];omega,λhh=>by have:=(l0 b hh).2;omega⟩) (λb hb=>G1 b (by omega) hb.2) _ _ _ q1.out;have r0:Yw d (BdS w.heap.size ((W5.setCell (Y wr.heap.size 9) (J ea en ec)).alloc o) (J oa ds.length oc)) ((W5.setCell (Y wr.heap.size 9) (J ea en ec)).alloc o) (J ea en ec) s.aP:=Yw.kept (λb hb=>⟨by omega,by simp[Zy];omega,λhh=>by have:=(l0 b hh).2;omega⟩) (λb hb=>G1 b (by omega) hb.2) _ _ _ X1.out;have dx:=HR.st.push (E0 _ o) k0 r0 h1 h2 (by rcases h3 with h3|h3;exact .inl h3;exact .inr (by rw[h3];simp[Zy]));refine⟨by rw[<-HN.out];exact p1,U1,HQ,by rw[HR.hl];simp,dx,?_,?_⟩
     ·exact(HR.be.trans ((E0 _ o).mono (by omega))).grown h2 (by simp[Zy];omega) (λb hb=>by have:=(l0 b hb).1;omega)
     have h4:=HR.le;have h5:=A1.out;have h6:=S1.out;rw[g0.1,HP.out]at h4;simp only[length_append,length_singleton,length_cons,length_nil]at h4;omega
    clear B0 F1 b0 t0 t1 t2 t3 t4 t5 t6 t7 t8 t9 tz E1 g0 HQ HP
    go_wp2_with (at_builtin;refine Ap underlying34 c1 d1 e1 i1 rfl (j1 _ (E0 _ _)) rfl (Vq s (J ba bn bc) (J ea en ec)) rfl rfl (zvy (by simp[Zy])) ?c2 ?c3 ?c4 ?c5 ?_)
    case c2=>intro u hu;simp only[Vq,mem_cons,not_mem_nil,or_false]at hu;rcases hu with rfl|rfl|rfl|rfl|rfl|rfl|rfl|rfl|rfl|rfl<;>rfl
    case c3=>unfold maxLen;omega
    case c4=>omega
    case c5=>simp[Zy];omega
    intro v' W4 a0 z0 d0;have A0:=y0 v' W4 a0 ⟨_,z0⟩ (by simpa [Zy] using d0);obtain⟨va',vcap,rfl⟩:∃va vcap,v'=J va (ds.length+1) vcap:=by
     rcases a0.2 with⟨h1,h2⟩|⟨g,cp,cur,h1,_⟩
     ·omega
     exact⟨_,cp,h1⟩
    have I0:=A A0;clear A0 a0 z0 d0 y0;go_wp2
    go_roundw
    case rel=>exact⟨k2+1,_,_,_,by go_num,I0⟩
    case measure=>simp[intOf];omega
def ydy(d:Nat)(FL:List FlS)(v:Value)(a0:dy FL<=16):zd1 d FL v:=by
 induction d with
 |zero=>exact yhv FL v
 |succ d ih=>exact yg0 ih a0
end Go.Proofs.YtjmcibbdedlcoaaGreatDoor
namespace Go.Proofs.YtjmcibbdedlcoaaGreatDoor
open Go.Proofs.Tryz List World Value Fl
variable{w w0 w' W3 W4:World}{v v' ov:Value}{lo base Rb Pb B d Lq n N i k j:Nat}{news:Vs}{ws:List K}{l:List aa}{rb:Nat->Nat}{t T:Fl.cG}{r:RS}{s:aa}{f:Fl.Frame}{fs:List Fl.Frame}{e:TypeId}
namespace Fl
def mixTab(k:Nat)(T:cG)(i j:Nat):cG:=λa b=>if a<i\/(a=i/\b<j) then fd k T a b else T a b
def mix_zero(k:Nat)(T:cG):mixTab k T 0 0=T:=by
 funext a b
 simp[mixTab]
def mix_col(k:Nat)(T:cG)(i j a:Nat):mixTab k T i j a k=T a k:=by
 unfold mixTab
 by_cases h:a<i\/(a=i/\k<j)
 ·rw[G h];unfold fd;cases T a k<;>simp
 rw[Z h]
def ydx(k:Nat)(T:cG)(i j b:Nat):mixTab k T i j k b=T k b:=by
 unfold mixTab
 by_cases h:k<i\/(k=i/\b<j)
 ·rw[G h];unfold fd;cases T k b<;>simp
 rw[Z h]
def mix_step(k:Nat)(T:cG)(i j a b:Nat):mixTab k T i (j+1) a b=if a=i/\b=j then(mixTab k T i j i j||(mixTab k T i j i k && mixTab k T i j k j)) else mixTab k T i j a b:=by
 rw[mix_col,ydx]
 by_cases h:a=i/\b=j
 ·obtain⟨rfl,rfl⟩:=h
  rw[G ⟨rfl,rfl⟩];unfold mixTab;rw[G (by omega),Z (by omega)];rfl
 rw[Z h];unfold mixTab
 by_cases h2:a<i\/(a=i/\b<j)
 ·rw[G h2,G (by omega)]
 rw[Z h2,Z (by omega)]
def mix_row(k:Nat)(T:cG)(i n a b:Nat)(hb:b<n):mixTab k T i n a b=mixTab k T (i+1) 0 a b:=by
 unfold mixTab
 by_cases h:a<i\/(a=i/\b<n)
 ·rw[G h,G (by omega)]
 rw[Z h,Z (by omega)]
def mix_all(k:Nat)(T:cG)(n a b:Nat)(ha:a<n):mixTab k T n 0 a b=fd k T a b:=by
 unfold mixTab;rw[G (.inl ha)]
end Fl
open Go.RowKit
def Vi(n:Nat)(t:Fl.cG)(a b k j:Nat):Bool:=t a k && t b k && (range j).all λi=> !(t a i)||!(t b i)||t k i
def ziy(n:Nat)(t:Fl.cG)(a b k j:Nat):Vi n t a b k (j+1)=(Vi n t a b k j && (!(t a j)||!(t b j)||t k j)):=by
 unfold Vi;rw[range_succ,all_append];simp[Bool.and_assoc]
def yz4(p:Nat->Bool)(n k:Nat)(hk:k<n)(hp:p k=true)(dS:∀i,i<k->p i=false):de p n=(k:Int):=by
 unfold de;have:(range n).find? p=some k:=by
  rw[find?_eq_some_iff_append];refine⟨hp,range k,(range' (k+1) (n - k - 1)),?_,λx hx=>by simp at hx;simp[dS x hx]⟩;rw[range_eq_range',range_eq_range',show n=k+(n - k) by omega,<-range'_append_1,show n - k=1+(n - k - 1) by omega];simp;rw[Nat.add_comm 1,range'_succ]
 rw[this]
def zix(p:Nat->Bool)(n:Nat)(dS:∀i,i<n->p i=false):de p n= -1:=by
 unfold de;have:(range n).find? p=none:=by
  rw[find?_eq_none];intro x hx;simp at hx;simp[dS x hx]
 rw[this]
def yg1(h:Yl base w Lq rb n t)(Pb a b:Nat)(hn:n<=6)(ha:a<n)(hb:b<n)(p0:w.cell? (Y Pb 0)=some (I n))(p1:w.cell? (Y Pb 1)=some (Sq Lq 0 n n)):
  F 60 #[M Pb,I a,I b] w (Rq (I (join n t a b)) w):=by
 have HL:=A h
 have s0:(n:Int)<=6:=by omega
 have t0:(a:Int)<(n:Int):=by omega
 have u0:(b:Int)<(n:Int):=by omega
 have ca:=h.c a ha;have cb:=h.c b hb;have a0:O (join n t a b=de (cJ n t a b) n):=rfl;generalize join n t a b=aX at*;clear h
 go_enter func60,ntmps60
 go_wp2_with fail
 go_loopw [7] (λi wr=>wr=w/\∃k:Nat,k<=n/\i=I k/\∀x,x<k->cJ n t a b x=false) (λi _=>n - (intOf i).toNat)
 case atStart=>exact⟨rfl,0,Nat.zero_le _,rfl,λx hx=>by omega⟩
 case round=>
  obtain⟨b0,k,hk,rfl,dS⟩:=hrel;have g0:=A dS;rw[b0];clear dS b0 wr
  by_cases d0:k<n
  ·have k0:(k:Int)<(n:Int):=by omega
   have ck:=HL.c k d0;have x1:D w (rb a) k (.bool (t a k)):=HL.r a k ha d0;have x2:D w (rb b) k (.bool (t b k)):=HL.r b k hb d0;obtain⟨y1,h0⟩:∃y,y=t a k:=⟨_,rfl⟩;obtain⟨y2,i0⟩:∃y,y=t b k:=⟨_,rfl⟩;rw[<-h0]at x1;rw[<-i0]at x2;have l0:O (Vi n t a b k 0=(y1 && y2)):=(by show _=_;unfold Vi;simp[h0,i0]);have j0:=A d0
   have c0:O (∀ls:Bool,ls=(y1 && y2)->ls=Vi n t a b k 0):=λls h=>by rw[h];exact l0.symm
   clear h0 i0;have m0:O (∃y0,y0=(y1 && y2)):=⟨_,rfl⟩
   cases y1<;>cases y2
   all_goals
    have n0:O _:=c0 _ rfl
    go_wp2_with fail
    go_loopw [8,9] (λls i wr=>wr=w/\∃j:Nat,j<=n/\i=I j/\ls=.bool (Vi n t a b k j)) (λ_ i _=>n - (intOf i).toNat)
    case atStart=>exact⟨rfl,0,Nat.zero_le _,rfl,by rw[<-n0.out];rfl⟩
    case round=>
     obtain⟨b0,j,hj,rfl,rfl⟩:=hrel;rw[b0];clear b0 wr
     by_cases e0:j<n
     ·have o0:(j:Int)<(n:Int):=by omega
      have cj:=HL.c j e0;have z1:D w (rb a) j (.bool (t a j)):=HL.r a j ha e0;have z2:D w (rb b) j (.bool (t b j)):=HL.r b j hb e0;have z3:D w (rb k) j (.bool (t k j)):=HL.r k j j0 e0;have HS:O (Vi n t a b k (j+1)=(Vi n t a b k j && (!(t a j)||!(t b j)||t k j))):=ziy n t a b k j;generalize Vi n t a b k j=lj at*;generalize t a j=u1 at*;generalize t b j=u2 at*;generalize t k j=u3 at*
      cases lj<;>cases u1<;>cases u2<;>cases u3
      all_goals
       go_wp2
       go_roundw
       case rel=>exact⟨by first|rfl|trivial,j+1,by omega,by go_num,by rw[HS.out];rfl⟩
       case measure=>simp[intOf];omega
     have o0:¬(j:Int)<(n:Int):=(by omega)
     obtain rfl:j=n:=by omega
     cases f0:Vi j t a b k j with
     |true=>
      have HE:O (aX=(k:Int)):=(by show _=_;rw[a0.out];exact yz4 _ _ _ j0 f0 g0);clear f0;go_wp2;go_ret;exact⟨by rw[HE.out];rfl,rfl⟩
     |false=>
      have q0:O (∀x,x<k+1->cJ j t a b x=false):=λx hx=>by
       by_cases r0:x=k
       ·subst r0;exact f0
       exact g0 x (by omega)
      clear f0;go_wp2
      go_roundw
      case rel=>exact⟨by first|rfl|trivial,k+1,by omega,by go_num,q0⟩
      case measure=>simp[intOf];omega
  have k0:¬(k:Int)<(n:Int):=(by omega);have HE:O (aX= -1):=(by show _=_;rw[a0.out];exact zix _ _ (λx hx=>g0 x (by omega)));go_wp2;go_ret;exact⟨by rw[HE.out];rfl,rfl⟩
section
variable{t':Fl.cG}
def Yl.congr(h:Yl base w Lq rb n t)(ht:∀a b,a<n->b<n->t' a b=t a b):Yl base w Lq rb n t':=
 ⟨h.c,λi j hi hj=>by rw[ht i j hi hj];exact h.r i j hi hj,h.z,h.inj,h.ge⟩
def Yl.set(h:Yl base w Lq rb n t)(hi:i<n)(hj:j<n)(v:Bool):Yl base (w.setCell (Y (rb i) j) (.bool v)) Lq rb n (λa b=>if a=i/\b=j then v else t a b):=by
 refine⟨λa ha=>?_,λa b ha hb=>?_,λa b ha=>by rw[frozen?_setCell];exact h.z a b ha,h.inj,h.ge⟩
 ·refine(Qg _ _ _ _ ?_).trans (h.c a ha)
  intro hh;injection hh with h1 _;exact(h.ge.2 i hi).2 (by omega)
 by_cases a0:a=i/\b=j
 ·obtain⟨rfl,rfl⟩:=a0
  rw[G ⟨rfl,rfl⟩];exact cell?_setCell_same' _ _ _ (by simp[h.r a b ha hb])
 rw[Z a0];refine(Qg _ _ _ _ ?_).trans (h.r a b ha hb);intro hh;injection hh with h1 h2
 by_cases b0:a=i
 ·exact a0 ⟨b0,by omega⟩
 exact h.inj a i ha hi b0 (by omega)
def Yl.mix(h:Yl base w Lq rb n (Fl.mixTab k T i j))(hi:i<n)(hj:j<n):Yl base (w.setCell (Y (rb i) j) (.bool (Fl.mixTab k T i j i j||(Fl.mixTab k T i j i k && Fl.mixTab k T i j k j)))) Lq rb n (Fl.mixTab k T i (j+1)):=
 (h.set hi hj _).congr λa b _ _=>Fl.mix_step k T i j a b
def Yl.oF(h:Yl base w Lq rb n (Fl.mixTab k T i n)):Yl base w Lq rb n (Fl.mixTab k T (i+1) 0):=h.congr λa b _ hb=>(Fl.mix_row k T i n a b hb).symm
def Yl.oE(h:Yl base w Lq rb n (Fl.mixTab k T n 0)):Yl base w Lq rb n (Fl.fd k T):=h.congr λa b ha _=>(Fl.mix_all k T n a b ha).symm
def Yl.nD(h:Yl base w Lq rb n T):Yl base w Lq rb n (Fl.mixTab k T 0 0):=by rw[Fl.mix_zero];exact h
def yg2(aI aF:List Nat)(he:aI.length=aF.length)(p:Nat)(hp:p<aI.length)(hq:p<aF.length)(a b:Nat):fu (aI.take (p+1)) (aF.take (p+1)) a b=if a=aI[p]/\b=aF[p] then true else fu (aI.take p) (aF.take p) a b:=by
 unfold fu;rw[take_succ_eq_append_getElem hp,take_succ_eq_append_getElem hq,zip_append (by simp;omega),any_append]
 by_cases h:a=aI[p]/\b=aF[p]
 ·obtain⟨rfl,rfl⟩:=h
  simp
 rw[Z h];have h2:([aI[p]].zip [aF[p]]).any (λp=>p.1==a && p.2==b)=false:=by
  simp;intro h3 h4;exact h ⟨h3.symm,h4.symm⟩
 rw[h2,Bool.or_false]
def Yl.pair{aI aF:List Nat}{p:Nat}(h:Yl base w Lq rb n (fu (aI.take p) (aF.take p)))(he:aI.length=aF.length)(hp:p<aI.length)(hq:p<aF.length)(hi:aI[p]<n)(hj:aF[p]<n):Yl base (w.setCell ⟨rb aI[p],aF[p],none⟩ (.bool true)) Lq rb n (fu (aI.take (p+1)) (aF.take (p+1))):=
 (h.set hi hj true).congr λa b _ _=>yg2 aI aF he p hp hq a b
end
def Tryz.infoBoolR:(Tryz.prog.info? 4).map (λi=>(i.zero,i.size,i.bytes))=some (some (.bool false),1,1):=by kernel_rfl
def Tryz.infoRowR:(Tryz.prog.info? 39).map (λi=>(i.zero,i.size,i.bytes))=some (some Zq,1,24):=by kernel_rfl
def Vu(n:Nat)(v:Value):Vs:=replicate n v
def yt6(n:Nat)(v:Value)(hv:v.cells=#[v]):madeCells v.cells ((n:Int).toNat*1)=(Vu n v).toArray:=by
 apply Array.ext
 ·simp[madeCells,Vu]
 intro i h1 h2;simp[madeCells,Vu,hv,Nat.mod_one]
def yg3(W:World)(n:Nat)(hn:n<=6):(Instr.makeSlice 39 (I n) (I n)).run prog W=.ok (Sq W.heap.size 0 n n) (W.alloc (.cells (Vu n (.bool false)).toArray 4)):=by
 obtain⟨i0,b0,c0,a0,d0⟩:=info_parts Tryz.infoBoolR;have h:=run_makeSlice (w:=W) 39 4 i0 (.bool false) underlying39 b0 c0 .i64 .i64 (n:Int) (n:Int) (by omega) (Int.le_refl _) (by rw[a0];simp;omega) (by rw[d0];omega) (by omega);rw[h,a0,yt6 n _ rfl,Qm]
def yg4(W:World)(n:Nat)(hn:n<=6):(Instr.makeSlice 33 (I n) (I n)).run prog W=.ok (Sq W.heap.size 0 n n) (W.alloc (.cells (Vu n Zq).toArray 39)):=by
 obtain⟨i0,b0,c0,a0,d0⟩:=info_parts Tryz.infoRowR;have h:=run_makeSlice (w:=W) 33 39 i0 Zq underlying33 b0 c0 .i64 .i64 (n:Int) (n:Int) (by omega) (Int.le_refl _) (by rw[a0];simp;omega) (by rw[d0];omega) (by omega);rw[h,a0,yt6 n _ rfl,Qm]
structure zt3(base:Nat)(w:World)(Lq:Nat)(rb:Nat->Nat)(n i:Nat):Prop where
 c:∀a,a<i->w.cell? (Y Lq a)=some (Sq (rb a) 0 n n)
 o:∀a,i<=a->a<n->w.cell? (Y Lq a)=some Zq
 zL:∀a,w.frozen? (Y Lq a)=false
 r:∀a b,a<i->b<n->w.cell? (Y (rb a) b)=some (.bool (a==b))
 z:∀a b,a<i->w.frozen? (Y (rb a) b)=false
 inj:∀a b,a<i->b<i->a≠b->rb a≠rb b
 ge:base<=Lq/\Lq<w.heap.size/\∀a,a<i->base<=rb a/\rb a≠Lq/\rb a<w.heap.size
 le:i<=n
section
def zt3.all(h:zt3 base w Lq rb n n):Yl base w Lq rb n (fu (([]:List Nat)) []):=
 ⟨h.c,λa b ha hb=>by rw[h.r a b ha hb];simp[fu],h.z,h.inj,h.ge.1,λa ha=>⟨(h.ge.2.2 a ha).1,(h.ge.2.2 a ha).2.1⟩⟩
def zt3.ae(w:World)(n:Nat)(base:Nat)(hb:base<=w.heap.size)(rb:Nat->Nat):zt3 base (w.alloc (.cells (Vu n Zq).toArray 39)) w.heap.size rb n 0:=by
 have hc:=Zh.new w (Vu n Zq) 39;refine⟨λa ha=>absurd ha (by omega),λa _ ha=>?_,hc.z,λa b ha=>absurd ha (by omega),λa b ha=>absurd ha (by omega),λa b ha=>absurd ha (by omega),⟨hb,by simp,λa ha=>absurd ha (by omega)⟩,by omega⟩;rw[hc.c a (by simp[Vu];exact ha)];simp[rw_,Vu,ha]
def zt3.next(h:zt3 base w Lq rb n i)(hi:i<n):zt3 base (((w.alloc (.cells (Vu n (.bool false)).toArray 4)).setCell (Y Lq i) (Sq w.heap.size 0 n n)).setCell (Y w.heap.size i) (.bool true)) Lq (λa=>if a=i then w.heap.size else rb a) n (i+1):=by
 have hc:=Zh.new w (Vu n (.bool false)) 4;have c0:=h.ge.2.1;have hB:E w (w.alloc (.cells (Vu n (.bool false)).toArray 4)):=bA
 have b0:∀p:Addr,p.block<w.heap.size->p≠(Y Lq i)->(((w.alloc (.cells (Vu n (.bool false)).toArray 4)).setCell (Y Lq i) (Sq w.heap.size 0 n n)).setCell (Y w.heap.size i) (.bool true)).cell? p=w.cell? p:=λp hp d0=>
  (Qg _ _ _ _ (by intro hh;have h9:=congrArg Addr.block hh;simp only at h9;omega)).trans ((Qg _ _ _ _ (λhh=>d0 (by rw[hh]))).trans (hB.cell (p:=p) hp))
 refine⟨λa ha=>?_,λa h1 h2=>?_,λa=>?_,λa b ha hb=>?_,λa b ha=>?_,λa b ha hb d0=>?_,⟨h.ge.1,?_,λa ha=>?_⟩,by omega⟩
 ·by_cases a0:a=i
  ·subst a0
   rw[G rfl];refine(Qg _ _ _ _ (by intro hh;injection hh with h1 _;omega)).trans ?_;exact cell?_setCell_same' _ _ _ (by rw[hB.cell (p:=(Y Lq a)) c0,h.o a lE hi];rfl)
  rw[Z a0,b0 _ c0 (by intro hh;injection hh with _ h2;exact a0 (by omega))];exact h.c a (by omega)
 ·rw[b0 _ c0 (by intro hh;injection hh with _ h2;omega)]
  exact h.o a (by omega) h2
 ·rw[frozen?_setCell,frozen?_setCell]
  exact(hB.frozen (p:=(Y Lq a)) c0).trans (h.zL a)
 ·by_cases a0:a=i
  ·subst a0
   rw[G rfl]
   have h0:∀b,b<n->((w.alloc (.cells (Vu n (.bool false)).toArray 4)).setCell (Y Lq a) (Sq w.heap.size 0 n n)).cell? (Y w.heap.size b)=some (.bool false):=λb hb=>by
    refine(Qg _ _ _ _ (by intro hh;injection hh with h1 _;omega)).trans ?_;rw[hc.c b (by simp[Vu];exact hb)];simp[rw_,Vu,hb]
   by_cases f0:b=a
   ·subst f0
    rw[cell?_setCell_same' _ _ _ (by rw[h0 b hb];rfl)];simp
   rw[Qg _ _ _ _ (by intro hh;injection hh with _ h2;exact f0 (by omega)),h0 b hb];simp;omega
  rw[Z a0];have hg:=h.ge.2.2 a (by omega);rw[b0 _ hg.2.2 (by intro hh;injection hh with h1 _;exact hg.2.1 h1)];exact h.r a b (by omega) hb
 ·rw[frozen?_setCell,frozen?_setCell]
  by_cases a0:a=i
  ·rw[G a0];exact hc.z b
  rw[Z a0];exact(hB.frozen (p:=(Y (rb a) b)) (h.ge.2.2 a (by omega)).2.2).trans (h.z a b (by omega))
 ·by_cases a0:a=i
  ·have e0:b≠i:=λhh=>d0 (a0.trans hh.symm)
   rw[G a0,Z e0];have:=(h.ge.2.2 b (by omega)).2.2;omega
  rw[Z a0]
  by_cases e0:b=i
  ·rw[G e0]
   have:=(h.ge.2.2 a (by omega)).2.2;omega
  rw[Z e0];exact h.inj a b (by omega) (by omega) d0
 ·rw[Zy,Zy];have:=hB.size;omega
 rw[Zy,Zy]
 have hz:(w.alloc (.cells (Vu n (.bool false)).toArray 4)).heap.size=w.heap.size+1:=by simp
 by_cases a0:a=i
 ·rw[G a0];have:=h.ge.1;exact⟨by omega,by omega,by omega⟩
 rw[Z a0];have:=h.ge.2.2 a (by omega);exact⟨this.1,this.2.1,by omega⟩
end
end Go.Proofs.YtjmcibbdedlcoaaGreatDoor
