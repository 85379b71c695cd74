import Derived.Test.YtfhpibppblbgcaaGreatDoorM06
import Derived.Test.YtfhpibppblbgcaaGreatDoorM12
set_option linter.all false
set_option maxRecDepth 100000
set_option maxHeartbeats 40000000
namespace Go.Proofs.YtfhpibppblbgcaaGreatDoor
open Go.RowKit Go.Proofs.Tryz
variable{w wr w0 w' W w1 w2:World}{b o n a k Lb k1 lo base R Pb lm vm cm:Nat}{P:Program}{p:Value}
def zx1(w:World)(b o:Nat)(t:Fl.cM):Prop:=∀i j,i<6->j<6->w.cell? (Aq b (o+i*6+j))=some (.bool (t i j))
structure Vd(w w':World)(b o n:Nat):Prop where
 g:w.grownBy w' (some b)
 s:w'.heap.size=w.heap.size
 c:∀j,j<o\/o+n<=j->w'.cell? (Aq b j)=w.cell? (Aq b j)
 z:∀j,w'.frozen? (Aq b j)=w.frozen? (Aq b j)
def Vd.refl(w:World)(b o n:Nat):Vd w w b o n:=⟨World.grownBy.refl _ _,rfl,λ_ _=>rfl,λ_=>rfl⟩
def Vd.trans{w w1 w2:World}{b o n:Nat}(h:Vd w w1 b o n)(k:Vd w1 w2 b o n):Vd w w2 b o n:=
 ⟨⟨k.g.os.trans h.g.os,k.g.tape.trans h.g.tape,k.g.output.trans h.g.output,Nat.le_trans h.g.size k.g.size,λi hi a0=>(k.g.block i (Qj hi h.g.size) a0).trans (h.g.block i hi a0)⟩,k.s.trans h.s,λj hj=>(k.c j hj).trans (h.c j hj),λj=>(k.z j).trans (h.z j)⟩
def Vd.set(w:World)(b o n j:Nat)(v:Value)(hj:o<=j/\j<o+n):Vd w (w.setCell (Aq b j) v) b o n:=
 ⟨⟨rfl,rfl,rfl,by rw[Zy];exact Nat.le_refl _,λi hi a0=>Zx _ _ _ _ _ (by simpa using a0)⟩,Zy _ _ _,λk hk=>Qg _ _ _ _ (by intro hh;injection hh with _ h2;omega),λk=>World.frozen?_setCell _ _ _ _⟩
def zx1.set{t:Fl.cM}(h:zx1 w b o t)(x y:Nat)(hx:x<6)(hy:y<6)(v:Bool):zx1 (w.setCell (Aq b (o+x*6+y)) (.bool v)) b o (λi j=>if i=x/\j=y then v else t i j):=by
 intro i j hi hj;show _=some (Value.bool (if i=x/\j=y then v else t i j))
 by_cases a0:i=x/\j=y
 ·obtain⟨rfl,rfl⟩:=a0
  rw[if_pos ⟨rfl,rfl⟩];exact World.cell?_setCell_same' _ _ _ (by simp[h i j hi hj])
 rw[if_neg a0];refine(Qg _ _ _ _ ?_).trans (h i j hi hj);intro hh;injection hh with _ h2;apply a0;omega
namespace Fl
def gZ(n:Nat)(t:cM):Nat:=((List.range n).map λi=>((List.range n).map λj=>if t i j then 0 else 1).sum).sum
def ig(l:List Nat)(f g:Nat->Nat)(h:∀x∈l,f x<=g x):(l.map f).sum<=(l.map g).sum:=by
 induction l with
 |nil=>simp
 |cons x r ih=>simp only[List.map_cons,List.sum_cons];have:=h x (by simp);have:=ih (λy hy=>h y (by simp[hy]));omega
def ie(l:List Nat)(f g:Nat->Nat)(h:∀x∈l,f x<=g x)(z:Nat)(hz:z∈l)(a0:f z<g z):(l.map f).sum<(l.map g).sum:=by
 induction l with
 |nil=>cases hz
 |cons x r ih=>
  simp only[List.map_cons,List.sum_cons];have h1:=h x (by simp);rcases List.mem_cons.1 hz with rfl|hz
  ·have:=ig r f g (λy hy=>h y (by simp[hy]));omega
  have:=ih (λy hy=>h y (by simp[hy])) hz;omega
def kB(n:Nat)(t:cM)(x y:Nat)(hx:x<n)(hy:y<n)(h:t x y=false):gZ n (λi j=>if i=x/\j=y then true else t i j)<gZ n t:=by
 unfold gZ;refine ie _ _ _ (λi _=>ig _ _ _ (λj _=>?_)) x (by simpa using hx) (ie _ _ _ (λj _=>?_) y (by simpa using hy) ?_)
 ·by_cases a0:i=x/\j=y
  ·simp[a0]
  simp[a0]
 ·by_cases a0:j=y
  ·simp[a0]
  simp[a0]
 simp[h]
end Fl
def isYes:Option Value->Bool
 |some (.bool b)=>b
 |_=>false
def zdz{t:Fl.cM}(h:zx1 w b o t)(hn:n<=6):Fl.gZ n (λi j=>isYes (w.cell? (Aq b (o+i*6+j))))=Fl.gZ n t:=by
 unfold Fl.gZ
 congr 1
 apply List.map_congr_left
 intro i hi
 congr 1
 apply List.map_congr_left
 intro j hj;simp only[h i j (by simp at hi;omega) (by simp at hj;omega),isYes]
def yy9(b o n:Nat)(t:Fl.cM)(w:World)(hn:n<=6)(ht:zx1 w b o t)(hz:∀j,w.frozen? (Aq b j)=false):
  Cq 153 #[.pointer (some (Aq b o)),Iq n] w λe w'=>e=.returned (.tuple #[])/\Vd w w' b o 36/\∃t',zx1 w' b o t'/\(∀i j,i<n->j<n->t' i j=Fl.fw n t i j):=by
 have HT:=Zz ht;have HZ:=Zz hz;clear ht hz
 go_enter func153,ntmps153
 obtain⟨J,hJ⟩:=nmE (α:=Act->World->Prop) (λa' w'=>∃(t':Fl.cM),(∃(u2 u3 u4 u5 u6 u7 u8 u9 u10 u11 u12 u13 u14 u15 u16 u17 u18 u19 u20 u21 u22 u23 u24 u25 u26 u27 u28 u29 u30 u31 u32 u33 u34 u35 u36 u37 u38 u39 u40 u41 u42 u43 u44 u45 u46 u47 u48 u49 u50 u51 u52 u53:Value),a'={tmps:=#[.pointer (some (Aq b o)),Iq n,u2,u3,u4,u5,u6,u7,u8,u9,u10,u11,u12,u13,u14,u15,u16,u17,u18,u19,u20,u21,u22,u23,u24,u25,u26,u27,u28,u29,u30,u31,u32,u33,u34,u35,u36,u37,u38,u39,u40,u41,u42,u43,u44,u45,u46,u47,u48,u49,u50,u51,u52,u53],defers:=[]})/\Vd w w' b o 36/\zx1 w' b o t'/\(∀i j,t i j=true->t' i j=true)/\(∀i j,i<n->j<n->t' i j=true->Fl.fw n t i j=true));obtain⟨μ,hμ⟩:=nmE (α:=Act->World->Nat) (λa' w'=>Fl.gZ n (λi j=>isYes (w'.cell? (Aq b (o+i*6+j)))));have HJ:=Zz hJ;have y0:=Zz hμ;refine zq8 0 J μ ?_ ?_
 ·rw[hJ];exact⟨t,⟨_,_,_,_,_,_,_,_,_,_,_,_,_,_,_,_,_,_,_,_,_,_,_,_,_,_,_,_,_,_,_,_,_,_,_,_,_,_,_,_,_,_,_,_,_,_,_,_,_,_,_,_,rfl⟩,Vd.refl _ _ _ _,HT,λ_ _ h=>h,λi j _ _ h=>Fl.lO _ _ _ _ h⟩
 intro a' W p0;rw[hJ]at p0;obtain⟨t',⟨u2,u3,u4,u5,u6,u7,u8,u9,u10,u11,u12,u13,u14,u15,u16,u17,u18,u19,u20,u21,u22,u23,u24,u25,u26,u27,u28,u29,u30,u31,u32,u33,u34,u35,u36,u37,u38,u39,u40,u41,u42,u43,u44,u45,u46,u47,u48,u49,u50,u51,u52,u53,rfl⟩,hs,hT',i0,j0⟩:=p0;have HS:=Zz hs;have h0:=Zz hT';have k0:=Zz i0;have b0:=Zz j0
 have L0:(n:Int)<=6:=by omega
 clear hs hT' i0 j0 hJ hμ
 go_wp2_with fail
 go_loopw [8] (λi wr=>wr=W/\∃k:Nat,k<=n/\i=Iq k/\∀x y z,x<k->y<n->z<n->t' x y=true->t' y z=true->t' x z=true) (λi _=>n - (intOf i).toNat)
 case atStart=>exact⟨rfl,0,by omega,rfl,λx y z hx=>by omega⟩
 case round=>
  obtain⟨f0,k1,M0,rfl,q0⟩:=hrel;have r0:=Zz q0;rw[f0];clear q0 f0 wr
  by_cases l0:k1<n
  ·have z0:(k1:Int)<(n:Int):=by omega
   go_wp2_with fail
   go_loopw [12] (λi wr2=>wr2=W/\∃k:Nat,k<=n/\i=Iq k/\∀y z,y<k->z<n->t' k1 y=true->t' y z=true->t' k1 z=true) (λi _=>n - (intOf i).toNat)
   case atStart=>exact⟨rfl,0,by omega,rfl,λy z hy=>by omega⟩
   case round=>
    obtain⟨f0,k2,N0,rfl,s0⟩:=hrel;have t0:=Zz s0;rw[f0];clear s0 f0 wr
    by_cases g0:k2<n
    ·have A0:(k2:Int)<(n:Int):=by omega
     go_wp2_with fail
     go_loopw [16] (λi wr3=>wr3=W/\∃k:Nat,k<=n/\i=Iq k/\∀z,z<k->t' k1 k2=true->t' k2 z=true->t' k1 z=true) (λi _=>n - (intOf i).toNat)
     case atStart=>exact⟨rfl,0,by omega,rfl,λz hz=>by omega⟩
     case round=>
      obtain⟨f0,k3,O0,rfl,u0⟩:=hrel;have v0:=Zz u0;rw[f0];clear u0 f0 wr
      by_cases m0:k3<n
      ·have B0:(k3:Int)<(n:Int):=by omega
       have q12:=h0 k1 k2 (by omega) (by omega);have q23:=h0 k2 k3 (by omega) (by omega);have q13:=h0 k1 k3 (by omega) (by omega);have qz:∀j,W.frozen? (Aq b j)=false:=λj=>(HS.z j).trans (HZ j);obtain⟨x12,c0⟩:∃x,x=t' k1 k2:=⟨_,rfl⟩;obtain⟨x23,d0⟩:∃x,x=t' k2 k3:=⟨_,rfl⟩;obtain⟨x13,e0⟩:∃x,x=t' k1 k3:=⟨_,rfl⟩;rw[<-c0]at q12;rw[<-d0]at q23;rw[<-e0]at q13;have C0:=Zz c0;have D0:=Zz d0;have E0:=Zz e0
       have F0:Hid ((x12=true->x23=true->x13=true)->∀z,z<k3+1->t' k1 k2=true->t' k2 z=true->t' k1 z=true):=λh z hz h1 h2=>by
        by_cases G0:z=k3
        ·subst G0;rw[<-e0];exact h (by rw[c0];exact h1) (by rw[d0];exact h2)
        exact v0 z (by omega) h1 h2
       clear c0 d0 e0
       cases x12<;>cases x23<;>cases x13
       case true.true.false=>
        have H0:Hid (∀a',(∃(u2 u3 u4 u5 u6 u7 u8 u9 u10 u11 u12 u13 u14 u15 u16 u17 u18 u19 u20 u21 u22 u23 u24 u25 u26 u27 u28 u29 u30 u31 u32 u33 u34 u35 u36 u37 u38 u39 u40 u41 u42 u43 u44 u45 u46 u47 u48 u49 u50 u51 u52 u53:Value),a'={tmps:=#[.pointer (some (Aq b o)),Iq n,u2,u3,u4,u5,u6,u7,u8,u9,u10,u11,u12,u13,u14,u15,u16,u17,u18,u19,u20,u21,u22,u23,u24,u25,u26,u27,u28,u29,u30,u31,u32,u33,u34,u35,u36,u37,u38,u39,u40,u41,u42,u43,u44,u45,u46,u47,u48,u49,u50,u51,u52,u53],defers:=[]})->∀a0,J a' (W.setCell (Aq b (o+k1*6+k3)) (.bool true))/\μ a' (W.setCell (Aq b (o+k1*6+k3)) (.bool true))<μ a0 W):=λa' ha' a0=>by
         have x0:=h0.set k1 k3 (by omega) (by omega) true;refine⟨?_,?_⟩
         ·rw[HJ.out]
          refine⟨_,ha',HS.trans (Vd.set _ _ _ _ _ _ (by omega)),x0,λi j h=>?_,λi j hi hj h=>?_⟩
          ·show (if i=k1/\j=k3 then true else t' i j)=true
           split
           ·rfl
           exact k0 i j h
          have h':(if i=k1/\j=k3 then true else t' i j)=true:=h
          by_cases n0:i=k1/\j=k3
          ·rw[n0.1,n0.2]
           exact Fl.it _ _ k2 _ _ g0 (b0 _ _ l0 g0 C0.symm) (b0 _ _ g0 m0 D0.symm)
          rw[if_neg n0]at h';exact b0 i j hi hj h'
         rw[y0.out];show Fl.gZ n _<Fl.gZ n _;rw[zdz x0 hn,zdz h0 hn];exact Fl.kB n t' k1 k3 l0 m0 E0.symm
        go_wp2_with fail
        go_step3
        exact⟨rfl,H0 _ ⟨_,_,_,_,_,_,_,_,_,_,_,_,_,_,_,_,_,_,_,_,_,_,_,_,_,_,_,_,_,_,_,_,_,_,_,_,_,_,_,_,_,_,_,_,_,_,_,_,_,_,_,_,rfl⟩ _⟩
       all_goals
        have I0:Hid (∀z,z<k3+1->t' k1 k2=true->t' k2 z=true->t' k1 z=true):=F0 (by decide);go_wp2
        go_roundw
        case rel=>exact⟨by first|rfl|trivial,k3+1,by omega,by go_num,I0⟩
        case measure=>simp[intOf];omega
      have B0:¬(k3:Int)<(n:Int):=(by omega);go_wp2
      go_roundw
      case rel=>
       refine⟨by first|rfl|trivial,k2+1,by omega,by go_num,λy z hy hz h1 h2=>?_⟩
       by_cases J0:y=k2
       ·subst J0;exact v0 z (by omega) h1 h2
       exact t0 y z (by omega) hz h1 h2
      case measure=>simp[intOf];omega
    have A0:¬(k2:Int)<(n:Int):=(by omega);go_wp2
    go_roundw
    case rel=>
     refine⟨by first|rfl|trivial,k1+1,by omega,by go_num,λx y z hx hy hz h1 h2=>?_⟩
     by_cases K0:x=k1
     ·subst K0;exact t0 y z (by omega) hz h1 h2
     exact r0 x y z (by omega) hy hz h1 h2
    case measure=>simp[intOf];omega
  have z0:¬(k1:Int)<(n:Int):=(by omega);have o0:Hid (∀i j,i<n->j<n->t' i j=Fl.fw n t i j):=Fl.kJ n t t' (λa b c ha hb hc h1 h2=>r0 a b c (by omega) hb hc h1 h2) (λi j _ _ h=>k0 i j h) b0.out
  go_wp2_with fail
  simp only[Exit.jump]
  go_end0
  exact⟨rfl,HS,t',h0,o0⟩
def yq2{t:Fl.cM}(h:t a k=false):Fl.cQ n t a b k=false:=by simp[Fl.cQ,h]
def yq3{t:Fl.cM}(h:t b k=false):Fl.cQ n t a b k=false:=by simp[Fl.cQ,h]
def yq4{t:Fl.cM}{j:Nat}(hj:j<n)(h1:t a j=true)(h2:t b j=true)(h3:t k j=false):Fl.cQ n t a b k=false:=by
 rw[Bool.eq_false_iff];intro h;have:=((Fl.dB n t a b k).1 h).2.2 j hj h1 h2
 rw[h3]at this;cases this
def zdy(n a b:Nat)(t:Fl.cM)(f:FuncId)(cap:Array Value)(w:World)(hn:n<=6)(ha:a<n)(hb:b<n)(B0:∀args W,(callFunc f args).run prog W=.ok (.enter f args) W)
  (hf:∀x y:Nat,x<n->y<n->Cq f (#[Iq x,Iq y]++cap) w λe w'=>e=.returned (.bool (t x y))/\w'=w):
  Cq 165 #[Iq n,Iq a,Iq b,.func (.func f) #[] cap] w λe w'=>e=.returned (Iq (Fl.join n t a b))/\w'=w:=by
 have HF:=Zz hf
 have C0:(n:Int)<=6:=by omega
 clear hf
 go_enter func165,ntmps165
 go_wp2_with fail
 go_step3
 go_wp2_with fail
 go_step3
 go_wp2_with fail
 go_loopw [12] (λi wr=>wr=w/\∃k:Nat,k<=n/\i=Iq k/\∀j,j<k->Fl.cQ n t a b j=false) (λi _=>n - (intOf i).toNat)
 case atStart=>exact⟨rfl,0,by omega,rfl,λj hj=>by omega⟩
 case round=>
  obtain⟨b0,k,hk,rfl,hc⟩:=hrel;have HC:=Zz hc;rw[b0];clear hc b0 wr
  by_cases c0:k<n
  ·have hI:(k:Int)<(n:Int):=by omega
   have h0:Hid (Fl.cQ n t a b k=false->∀j,j<k+1->Fl.cQ n t a b j=false):=λh j hj=>by
    by_cases u0:j=k
    ·subst u0;exact h
    exact HC j (by omega)
   obtain⟨xa,i0⟩:∃x,x=t a k:=⟨_,rfl⟩;obtain⟨xb,j0⟩:∃x,x=t b k:=⟨_,rfl⟩;have n0:=Zz i0;have o0:=Zz j0;have k0:=HF a k ha c0;have l0:=HF b k hb c0;rw[<-i0]at k0;rw[<-j0]at l0;have HCA':Hid _:=k0;have HCB':Hid _:=l0;clear i0 j0 k0 l0
   go_wp2_with fail
   refine Calls.mono HCA' ?_;rintro e w1 ⟨rfl,a0⟩;rw[a0];clear a0 HCA'
   cases xa with
   |false=>
    have HN:Hid (∀j,j<k+1->Fl.cQ n t a b j=false):=h0 (yq2 n0.symm);go_wp2
    go_roundw
    case rel=>exact⟨by first|rfl|trivial,k+1,by omega,by go_num,HN⟩
    case measure=>simp[intOf];omega
   |true=>
    go_wp2_with fail
    refine Calls.mono HCB' ?_;rintro e w1 ⟨rfl,a0⟩;rw[a0];clear a0 HCB'
    cases xb with
    |false=>
     have HN:Hid (∀j,j<k+1->Fl.cQ n t a b j=false):=h0 (yq3 o0.symm);go_wp2
     go_roundw
     case rel=>exact⟨by first|rfl|trivial,k+1,by omega,by go_num,HN⟩
     case measure=>simp[intOf];omega
    |true=>
     go_wp2_with fail
     go_loopw [28] (λi wr=>wr=w/\∃d:Nat,d<=n/\i=Iq d/\∀j,j<d->t a j=true->t b j=true->t k j=true) (λi _=>n - (intOf i).toNat)
     case atStart=>exact⟨rfl,0,by omega,rfl,λj hj=>by omega⟩
     case round=>
      obtain⟨b0,d,hd,rfl,p0⟩:=hrel;have q0:=Zz p0;rw[b0];clear p0 b0 wr
      by_cases d0:d<n
      ·have v0:(d:Int)<(n:Int):=by omega
       obtain⟨ya,e0⟩:∃x,x=t a d:=⟨_,rfl⟩;obtain⟨yb,f0⟩:∃x,x=t b d:=⟨_,rfl⟩;obtain⟨yc,g0⟩:∃x,x=t k d:=⟨_,rfl⟩;have C1:=HF a d ha d0;have C2:=HF b d hb d0;have C3:=HF k d c0 d0;rw[<-e0]at C1;rw[<-f0]at C2;rw[<-g0]at C3;have r0:=Zz C1;have s0:=Zz C2;have t0:=Zz C3;have x0:=Zz e0;have y0:=Zz f0;have z0:=Zz g0
       have m0:Hid ((ya=true->yb=true->yc=true)->∀j,j<d+1->t a j=true->t b j=true->t k j=true):=λh j hj h1 h2=>by
        by_cases A0:j=d
        ·subst A0;rw[<-g0];exact h (by rw[e0];exact h1) (by rw[f0];exact h2)
        exact q0 j (by omega) h1 h2
       clear C1 C2 C3 e0 f0 g0
       go_wp2_with fail
       refine Calls.mono r0 ?_;rintro e w1 ⟨rfl,a0⟩;rw[a0];clear a0 r0
       cases ya with
       |false=>
        have HN:Hid (∀j,j<d+1->t a j=true->t b j=true->t k j=true):=m0 (by simp);go_wp2
        go_roundw
        case rel=>exact⟨by first|rfl|trivial,d+1,by omega,by go_num,HN⟩
        case measure=>simp[intOf];omega
       |true=>
        go_wp2_with fail
        refine Calls.mono s0 ?_;rintro e w1 ⟨rfl,a0⟩;rw[a0];clear a0 s0
        cases yb with
        |false=>
         have HN:Hid (∀j,j<d+1->t a j=true->t b j=true->t k j=true):=m0 (by simp);go_wp2
         go_roundw
         case rel=>exact⟨by first|rfl|trivial,d+1,by omega,by go_num,HN⟩
         case measure=>simp[intOf];omega
        |true=>
         go_wp2_with fail
         refine Calls.mono t0 ?_;rintro e w1 ⟨rfl,a0⟩;rw[a0];clear a0 t0
         cases yc with
         |true=>
          have HN:Hid (∀j,j<d+1->t a j=true->t b j=true->t k j=true):=m0 (by simp);go_wp2
          go_roundw
          case rel=>exact⟨by first|rfl|trivial,d+1,by omega,by go_num,HN⟩
          case measure=>simp[intOf];omega
         |false=>
          have HN:Hid (∀j,j<k+1->Fl.cQ n t a b j=false):=h0 (yq4 d0 x0.symm y0.symm z0.symm);go_wp2;exact⟨⟨by first|rfl|trivial,k+1,by omega,by go_num,HN⟩,by simp[intOf];omega⟩
      have v0:¬(d:Int)<(n:Int):=(by omega);have HJ:Hid (Fl.join n t a b=(k:Int)):=Fl.gw c0 ((Fl.dB n t a b k).2 ⟨n0.symm,o0.symm,λj hj h1 h2=>q0 j (by omega) h1 h2⟩) HC.out
      go_wp2_with fail
      go_ret;exact⟨by rw[HJ.out];rfl,rfl⟩
  have hI:¬(k:Int)<(n:Int):=(by omega);have HJ:Hid (Fl.join n t a b= -1):=Fl.gI (λj hj=>HC j (by omega))
  go_wp2_with fail
  go_ret;exact⟨by rw[HJ.out];rfl,rfl⟩
structure Vz(w w':World)(b o n:Nat):Prop where
 g:w.grownBy w' (some b)
 c:∀j,j<o\/o+n<=j->w'.cell? (Aq b j)=w.cell? (Aq b j)
 z:∀j,w'.frozen? (Aq b j)=w.frozen? (Aq b j)
def Vz.refl(w:World)(b o n:Nat):Vz w w b o n:=⟨World.grownBy.refl _ _,λ_ _=>rfl,λ_=>rfl⟩
def Vz.trans{w w1 w2:World}{b o n:Nat}(h:Vz w w1 b o n)(k:Vz w1 w2 b o n):Vz w w2 b o n:=
 ⟨⟨k.g.os.trans h.g.os,k.g.tape.trans h.g.tape,k.g.output.trans h.g.output,Nat.le_trans h.g.size k.g.size,λi hi a0=>(k.g.block i (Qj hi h.g.size) a0).trans (h.g.block i hi a0)⟩,λj hj=>(k.c j hj).trans (h.c j hj),λj=>(k.z j).trans (h.z j)⟩
def Vz.set(w:World)(b o n j:Nat)(v:Value)(hj:o<=j/\j<o+n):Vz w (w.setCell (Aq b j) v) b o n:=
 ⟨(Vd.set w b o n j v hj).g,(Vd.set w b o n j v hj).c,(Vd.set w b o n j v hj).z⟩
def Vz.alloc{w:World}{b o n:Nat}(x:Obj)(hb:b<w.heap.size):Vz w (w.alloc x) b o n:=
 have hq:(w.alloc x).heap[b]?=w.heap[b]?:=((Below.refl w.heap.size w).alloc (Nat.le_refl _) x).block b hb
 ⟨World.grownBy_alloc _ _ _,λj _=>Qc (a:=(Aq b j)) hq,λj=>Qd (a:=(Aq b j)) hq⟩
def Vz.block{w w':World}{b o n:Nat}(h:Vz w w' b o n)(k:Nat)(hk:k<w.heap.size)(a0:k≠b):w'.heap[k]?=w.heap[k]?:=h.g.block k hk (by simpa using a0)
def yq5(cb Lb x y:Nat)(b:Bool)(w:World)(hx:x<6)(hy:y<6)(hc:w.cell? (Aq cb 0)=some (Pq Lb))(ht:w.cell? (Aq Lb (1+x*6+y))=some (.bool b)):
  Cq 163 #[Iq x,Iq y,Pq cb] w λe w'=>e=.returned (.bool b)/\w'=w:=by
 have a0:(x:Int)<6:=by omega
 have b0:(y:Int)<6:=by omega
 go_enter func163,ntmps163
 go_wp2;go_ret;exact⟨rfl,rfl⟩
def yyz(cb Lb x y:Nat)(b:Bool)(w:World)(hx:x<6)(hy:y<6)(hc:w.cell? (Aq cb 0)=some (Pq Lb))(ht:w.cell? (Aq Lb (1+y*6+x))=some (.bool b)):
  Cq 164 #[Iq x,Iq y,Pq cb] w λe w'=>e=.returned (.bool b)/\w'=w:=by
 have a0:(x:Int)<6:=by omega
 have b0:(y:Int)<6:=by omega
 go_enter func164,ntmps164
 go_wp2;go_ret;exact⟨rfl,rfl⟩
def yyy(n:Nat)(t:Fl.cM)(i j:Nat):Fl.bW n t i j=(!((i !=j) && t i j && t j i) && (!decide (Fl.join n t i j<0) && !decide (Fl.fU n t i j<0))):=by
 unfold Fl.bW
 congr 2
 ·simp only[<-decide_not];congr 1;simp
 simp only[<-decide_not];congr 1;simp
def ym7(Lb n:Nat)(t:Fl.cM)(w:World)(e:Ending)(w':World):Prop:=
 Vz w w' Lb 37 36/\((e=.returned (.bool true)/\∀i j,i<n->j<n->Fl.bW n t i j=true/\w'.cell? (Aq Lb (37+i*6+j))=some (Iq (Fl.join n t i j)))\/(e=.returned (.bool false)/\∃i j,i<n/\j<n/\Fl.bW n t i j=false))
structure zx2(Lb n:Nat)(t:Fl.cM)(w:World)(k1 k2:Nat)(wr:World):Prop where
 tu:Vz w wr Lb 37 36
 cb:wr.cell? (Aq w.heap.size 0)=some (Pq Lb)
 ex:∀k,37<=k->k<73->∃v,wr.cell? (Aq Lb k)=some v
 dn:∀i j,(i<k1/\j<n)\/(i=k1/\j<k2)->Fl.bW n t i j=true/\wr.cell? (Aq Lb (37+i*6+j))=some (Iq (Fl.join n t i j))
def zx2.next{t:Fl.cM}{k2:Nat}(h:zx2 Lb n t w k1 k2 wr)(hL:Lb<w.heap.size)(hn:n<=6)(h1:k1<n)(h2:k2<n)(hp:Fl.bW n t k1 k2=true):zx2 Lb n t w k1 (k2+1) (wr.setCell (Aq Lb (37+k1*6+k2)) (Iq (Fl.join n t k1 k2))):=by
 obtain⟨v,hv⟩:=h.ex (37+k1*6+k2) (by omega) (by omega);refine⟨h.tu.trans (Vz.set _ _ _ _ _ _ (by omega)),?_,λk hk b0=>?_,λi j hij=>?_⟩
 ·refine(Qg _ _ _ _ ?_).trans h.cb
  intro hh;injection hh with h3;omega
 ·by_cases a0:k=37+k1*6+k2
  ·exact⟨_,by rw[a0];exact World.cell?_setCell_same' _ _ _ (by simp[hv])⟩
  obtain⟨u,hu⟩:=h.ex k hk b0;exact⟨u,(Qg _ _ _ _ (by intro hh;injection hh with _ h3;exact a0 (by omega))).trans hu⟩
 by_cases he:i=k1/\j=k2
 ·obtain⟨rfl,rfl⟩:=he
  exact⟨hp,World.cell?_setCell_same' _ _ _ (by simp[hv])⟩
 have hd:=h.dn i j (by omega);refine⟨hd.1,(Qg _ _ _ _ ?_).trans hd.2⟩;intro hh;injection hh with _ h3;apply he;omega
def zx2.row{t:Fl.cM}(h:zx2 Lb n t w k1 n wr):zx2 Lb n t w (k1+1) 0 wr:=⟨h.tu,h.cb,h.ex,λi j a0=>h.dn i j (by omega)⟩
def zbw(Lb n:Nat)(t:Fl.cM)(w:World)(hn:n<=6)(o0:w.cell? (Aq Lb 0)=some (Iq n))(ht:zx1 w Lb 1 t)(hj:∀k,37<=k->k<73->∃v,w.cell? (Aq Lb k)=some v)(hz:∀j,w.frozen? (Aq Lb j)=false):
  Cq 154 #[Pq Lb] w (ym7 Lb n t w):=by
 have F0:∀(fn:Fn) (first cap:Array Value) (w:World),(Instr.makeFunc fn first cap).run prog w=.ok (.func fn first cap) w:=λ_ _ _ _=>rfl;have p0:Lb<w.heap.size:=Qe w _ o0;have HT:=Zz ht;have HJ:=Zz hj;have HZ:=Zz hz;have x0:=Zz o0
 have G0:(n:Int)<=6:=by omega
 have c0:∀o,Cl (w.alloc o) Lb 0 (Iq n):=λo=>(Qf _ _ _ p0).trans o0;clear ht hj hz o0
 go_enter func154,ntmps154
 go_wp2_with fail
 go_step3
 go_wp2_with fail
 go_step3
 go_wp2_with fail
 clear c0
 go_loopw [5,17] (λv i wr=>v=.bool true/\∃k:Nat,k<=n/\i=Iq k/\zx2 Lb n t w k 0 wr) (λ_ i _=>n - (intOf i).toNat)
 case atStart=>exact⟨rfl,0,by omega,rfl,Vz.alloc _ p0,World.cell?_alloc_new _ _ _ _,λk hk y0=>(by obtain⟨v,hv⟩:=HJ k hk y0;exact⟨v,(Qf _ _ _ p0).trans hv⟩),λi j hij=>by omega⟩
 case round=>
  obtain⟨rfl,k1,H0,rfl,z0⟩:=hrel;have l0:=Zz z0;clear z0
  by_cases b0:k1<n
  ·have B0:(k1:Int)<(n:Int):=by omega
   have cb1:=l0.cb;have c01:Cl wr Lb 0 (Iq n):=(l0.tu.c 0 (by omega)).trans x0.out
   go_wp2_with fail
   clear cb1 c01;obtain⟨wo,C0⟩:=nmE (wr);subst C0
   go_loopw [5,24] (λv i wr2=>v=.bool true/\∃k:Nat,k<=n/\i=Iq k/\zx2 Lb n t w k1 k wr2) (λ_ i _=>n - (intOf i).toNat)
   case atStart=>exact⟨rfl,0,by omega,rfl,l0⟩
   case round=>
    obtain⟨rfl,k2,y0,rfl,A0⟩:=hrel;have e0:=Zz A0;clear A0
    by_cases d0:k2<n
    ·have D0:(k2:Int)<(n:Int):=by omega
     have cb2:=e0.cb;have c02:Cl wr Lb 0 (Iq n):=(e0.tu.c 0 (by omega)).trans x0.out;have q0:Hid (∀i j,i<6->j<6->Cl wr Lb (1+i*6+j) (.bool (t i j))):=λi j hi hj=>(e0.tu.c (1+i*6+j) (by omega)).trans (HT i j hi hj);have q12:=q0 k1 k2 (by omega) (by omega);have q21:=q0 k2 k1 (by omega) (by omega)
     have f0:Hid (Cq 165 #[Iq n,Iq k1,Iq k2,.func (.func 163) #[] #[Pq w.heap.size]] wr λe w'=>e=.returned (Iq (Fl.join n t k1 k2))/\w'=wr):=
      zdy n k1 k2 t 163 #[Pq w.heap.size] wr hn b0 d0 (λargs W=>by kernel_rfl) (λx y hx hy=>yq5 w.heap.size Lb x y (t x y) wr (by omega) (by omega) cb2 (q0 x y (by omega) (by omega)))
     have g0:Hid (Cq 165 #[Iq n,Iq k1,Iq k2,.func (.func 164) #[] #[Pq w.heap.size]] wr λe w'=>e=.returned (Iq (Fl.fU n t k1 k2))/\w'=wr):=
      zdy n k1 k2 (λi j=>t j i) 164 #[Pq w.heap.size] wr hn b0 d0 (λargs W=>by kernel_rfl) (λx y hx hy=>yyz w.heap.size Lb x y (t y x) wr (by omega) (by omega) cb2 (q0 y x (by omega) (by omega)))
     obtain⟨jn,m0⟩:=nmE (Fl.join n t k1 k2);obtain⟨mt,s0⟩:=nmE (Fl.fU n t k1 k2);obtain⟨x12,j0⟩:∃x,x=t k1 k2:=⟨_,rfl⟩;obtain⟨x21,k0⟩:∃x,x=t k2 k1:=⟨_,rfl⟩;rw[<-m0]at f0;rw[<-s0]at g0;rw[<-j0]at q12;rw[<-k0]at q21;have hP:=yyy n t k1 k2;rw[<-m0,<-s0,<-j0,<-k0]at hP;have HP:=Zz hP;have I0:=Zz m0;obtain⟨ve,J0⟩:=e0.ex (37+k1*6+k2) (by omega) (by omega);have K0:∀j,wr.frozen? (Aq Lb j)=false:=λj=>(e0.tu.z j).trans (HZ j)
     have t0:Hid (Fl.bW n t k1 k2=true->zx2 Lb n t w k1 (k2+1) (wr.setCell (Aq Lb (37+k1*6+k2)) (Iq jn))):=λhp=>by rw[m0];exact e0.next p0 hn b0 d0 hp
     clear hP m0 s0 j0 k0
     by_cases r0:k1=k2
     ·have u0:((k1:Int) !=(k2:Int))=false:=by rw[r0];simp
      have v0:Hid ((k1 !=k2)=false):=(by show _=_;rw[r0];simp);clear r0
      go_wp2_with fail
      refine f0.mono ?_;rintro e w1 ⟨rfl,a0⟩;rw[a0];clear a0 w1
      go_wp2_with fail
      refine g0.mono ?_;rintro e w1 ⟨rfl,a0⟩;rw[a0];clear a0 w1 f0 g0;have n0:Hid (((k1 !=k2) && x12 && x21)=false):=(by show _=_;rw[v0.out];rfl)
      by_cases h0:jn<0
      ·skip
       have HB:Hid (Fl.bW n t k1 k2=false):=(by show _=_;rw[HP.out];simp[h0])
       go_wp2_with fail
       try rw[Exit.noGoto_ret]
       go_ret;exact⟨e0.tu,.inr ⟨rfl,k1,k2,b0,d0,HB⟩⟩
      by_cases i0:mt<0
      ·skip
       have HB:Hid (Fl.bW n t k1 k2=false):=(by show _=_;rw[HP.out];simp[i0])
       go_wp2_with fail
       try rw[Exit.noGoto_ret]
       go_ret;exact⟨e0.tu,.inr ⟨rfl,k1,k2,b0,d0,HB⟩⟩
      have HG:Hid (zx2 Lb n t w k1 (k2+1) (wr.setCell (Aq Lb (37+k1*6+k2)) (Iq jn))):=t0 (by rw[HP.out,n0.out];simp[h0,i0]);go_wp2
      go_roundw
      case rel=>exact⟨by first|rfl|trivial,k2+1,by omega,by go_num,HG⟩
      case measure=>simp[intOf];omega
     have u0:((k1:Int) !=(k2:Int))=true:=(by rw[bne_iff_ne];omega);have v0:Hid ((k1 !=k2)=true):=bne_iff_ne.2 r0
     cases x12 with
     |false=>
      go_wp2_with fail
      refine f0.mono ?_;rintro e w1 ⟨rfl,a0⟩;rw[a0];clear a0 w1
      go_wp2_with fail
      refine g0.mono ?_;rintro e w1 ⟨rfl,a0⟩;rw[a0];clear a0 w1 f0 g0;have n0:Hid (((k1 !=k2) && false && x21)=false):=(by show _=_;simp)
      by_cases h0:jn<0
      ·skip
       have HB:Hid (Fl.bW n t k1 k2=false):=(by show _=_;rw[HP.out];simp[h0])
       go_wp2_with fail
       try rw[Exit.noGoto_ret]
       go_ret;exact⟨e0.tu,.inr ⟨rfl,k1,k2,b0,d0,HB⟩⟩
      by_cases i0:mt<0
      ·skip
       have HB:Hid (Fl.bW n t k1 k2=false):=(by show _=_;rw[HP.out];simp[i0])
       go_wp2_with fail
       try rw[Exit.noGoto_ret]
       go_ret;exact⟨e0.tu,.inr ⟨rfl,k1,k2,b0,d0,HB⟩⟩
      have HG:Hid (zx2 Lb n t w k1 (k2+1) (wr.setCell (Aq Lb (37+k1*6+k2)) (Iq jn))):=t0 (by rw[HP.out,n0.out];simp[h0,i0]);go_wp2
      go_roundw
      case rel=>exact⟨by first|rfl|trivial,k2+1,by omega,by go_num,HG⟩
      case measure=>simp[intOf];omega
     |true=>
      cases x21 with
      |false=>
       go_wp2_with fail
       refine f0.mono ?_;rintro e w1 ⟨rfl,a0⟩;rw[a0];clear a0 w1
       go_wp2_with fail
       refine g0.mono ?_;rintro e w1 ⟨rfl,a0⟩;rw[a0];clear a0 w1 f0 g0;have n0:Hid (((k1 !=k2) && true && false)=false):=(by show _=_;simp)
       by_cases h0:jn<0
       ·skip
        have HB:Hid (Fl.bW n t k1 k2=false):=(by show _=_;rw[HP.out];simp[h0])
        go_wp2_with fail
        try rw[Exit.noGoto_ret]
        go_ret;exact⟨e0.tu,.inr ⟨rfl,k1,k2,b0,d0,HB⟩⟩
       by_cases i0:mt<0
       ·skip
        have HB:Hid (Fl.bW n t k1 k2=false):=(by show _=_;rw[HP.out];simp[i0])
        go_wp2_with fail
        try rw[Exit.noGoto_ret]
        go_ret;exact⟨e0.tu,.inr ⟨rfl,k1,k2,b0,d0,HB⟩⟩
       have HG:Hid (zx2 Lb n t w k1 (k2+1) (wr.setCell (Aq Lb (37+k1*6+k2)) (Iq jn))):=t0 (by rw[HP.out,n0.out];simp[h0,i0]);go_wp2
       go_roundw
       case rel=>exact⟨by first|rfl|trivial,k2+1,by omega,by go_num,HG⟩
       case measure=>simp[intOf];omega
      |true=>
       go_wp2_with fail
       refine f0.mono ?_;rintro e w1 ⟨rfl,a0⟩;rw[a0];clear a0 w1
       go_wp2_with fail
       refine g0.mono ?_;rintro e w1 ⟨rfl,a0⟩;rw[a0];clear a0 w1 f0 g0;have HB:Hid (Fl.bW n t k1 k2=false):=(by show _=_;rw[HP.out];rw[v0.out];rfl)
       go_wp2_with fail
       try rw[Exit.noGoto_ret]
       go_ret;exact⟨e0.tu,.inr ⟨rfl,k1,k2,b0,d0,HB⟩⟩
    have D0:¬(k2:Int)<(n:Int):=(by omega)
    obtain rfl:k2=n:=by omega
    have E0:Hid (zx2 Lb k2 t w (k1+1) 0 wr):=e0.row;go_wp2
    go_roundw
    case rel=>exact⟨by first|rfl|trivial,k1+1,by omega,by go_num,E0⟩
    case measure=>simp[intOf];omega
  have B0:¬(k1:Int)<(n:Int):=(by omega)
  go_wp2_with fail
  try rw[Exit.noGoto_ret]
  go_ret;exact⟨l0.tu,.inl ⟨rfl,λi j hi hj=>l0.dn i j (.inl ⟨by omega,hj⟩)⟩⟩
def zfw(Lb n:Nat)(t:Fl.cM)(w:World)(hn:n<=6)(i0:0<n)(j0:w.cell? (Aq Lb 0)=some (Iq n))(ht:zx1 w Lb 1 t)(hl:w.cell? (Aq Lb 73)=some (Iq 0))(hz:∀j,w.frozen? (Aq Lb j)=false):
  Cq 155 #[Pq Lb] w λe w'=>e=.returned (.tuple #[])/\Vz w w' Lb 73 1/\w'.cell? (Aq Lb 73)=some (Iq (Fl.di t n)):=by
 have HT:=Zz ht;have HZ:=Zz hz
 have n0:(n:Int)<=6:=by omega
 have HL:=Zz hl;clear ht hz hl
 go_enter func155,ntmps155
 go_wp2_with fail
 clear j0
 go_loopw [7] (λi wr=>∃k:Nat,k<=n/\i=Iq k/\Vz w wr Lb 73 1/\Cl wr Lb 73 (Iq (Fl.di t k))) (λi _=>n - (intOf i).toNat)
 case atStart=>exact⟨0,by omega,rfl,Vz.refl _ _ _ _,HL⟩
 case round=>
  obtain⟨k,hk,rfl,d0,cV⟩:=hrel;have a0:=Zz d0;clear d0
  by_cases o0:k<n
  ·have hI:(k:Int)<(n:Int):=by omega
   have k0:=Fl.fy t i0 k (by omega);have q:=(a0.c (1+k*6+Fl.di t k) (by omega)).trans (HT k (Fl.di t k) (by omega) (by omega));have hz':∀j,wr.frozen? (Aq Lb j)=false:=λj=>(a0.z j).trans (HZ j);obtain⟨lo,hlo'⟩:∃lo,lo=Fl.di t k:=⟨_,rfl⟩;rw[<-hlo']at cV k0 q;have b0:Fl.di t (k+1)=if t k lo then k else lo:=(by rw[hlo'];rfl);have e0:=Zz b0;obtain⟨xk,c0⟩:∃x,x=t k lo:=⟨_,rfl⟩;rw[<-c0]at q;have f0:=Zz c0;have l0:(lo:Int)<6:=(by omega);have m0:(k:Int)<6:=(by omega);clear b0 hlo' c0
   go_wp2_with fail
   refine wp_region_still_lit (by kernel_rfl) (by kernel_rfl) ?_
   iterate 11 still_step
   refine wpStill_nil ?_
   change Exit.then _ _ _ _ wr.drew
   have g0:Cl wr.drew Lb 73 (Iq lo):=cV;have h0:Hid (Vz w wr.drew Lb 73 1):=⟨⟨a0.g.os,a0.g.tape,a0.g.output,a0.g.size,a0.g.block⟩,a0.c,a0.z⟩;have p0:∀j,wr.drew.frozen? (Aq Lb j)=false:=hz';clear cV q hz' a0;generalize wr.drew=W at*
   cases xk with
   |true=>
    have HN:Hid (Fl.di t (k+1)=k):=(by show _=_;rw[e0.out,<-f0.out];rfl);have HS:Hid (Vz w (W.setCell (Aq Lb 73) (Iq k)) Lb 73 1/\Cl (W.setCell (Aq Lb 73) (Iq k)) Lb 73 (Iq k)):=⟨h0.trans (Vz.set _ _ _ _ _ _ (by omega)),World.cell?_setCell_same' _ _ _ (by simp[g0])⟩;go_wp2
    go_roundw
    case rel=>exact⟨k+1,by omega,by go_num,HS.1,by rw[HN.out];exact HS.2⟩
    case measure=>simp[intOf];omega
   |false=>
    have HN:Hid (Fl.di t (k+1)=lo):=(by show _=_;rw[e0.out,<-f0.out];rfl);go_wp2
    go_roundw
    case rel=>exact⟨k+1,by omega,by go_num,h0,by rw[HN.out];exact g0⟩
    case measure=>simp[intOf];omega
  obtain rfl:k=n:=by omega
  have hI:¬(k:Int)<(k:Int):=(by omega)
  go_wp2_with fail
  go_end0
  exact⟨rfl,a0,cV⟩
def zo1(t:Fl.cM):List Value:=(List.range 36).map λk=> .bool (t (k / 6) (k % 6))
def ys1(t:Fl.cM)(i j:Nat)(hi:i<6)(hj:j<6):(zo1 t)[i*6+j]?=some (.bool (t i j)):=by
 have e1:(i*6+j) / 6=i:=by omega
 have e2:(i*6+j) % 6=j:=by omega
 unfold zo1;rw[List.getElem?_map,List.getElem?_range (by omega)];simp only[Option.map_some,e1,e2]
def zo2(n:Nat)(t:Fl.cM):List Value:=[Iq n]++zo1 t++List.replicate 36 (Iq 0)++[Iq 0]
def zj5(w:World)(g o:Nat)(ty:TypeId)(cs:List Value)(d:TypeDesc)(hc:∀j v,cs[j]?=some v->w.cell? (Aq g (o+j))=some v)
  (hu:P.underlying ty=some d) (hd:(match d with| .struct _| .array _ _=>true|_=>false)=true) (hi:(P.info? ty).map (·.size)=some cs.length):
  (Instr.loadAt ty (.pointer (some (Aq g o)))).run P w=.ok (.agg cs.toArray) w:=by
 have hl:(loadCells (Aq g o) cs.length).run P w=.ok cs.toArray w:=
  run_loadCells_list (P:=P) w (Aq g o) cs (λj v hv=>by
   have a0:((Aq g o):Addr).add j=(Aq g (o+j)):=by unfold Addr.add;split<;>simp_all
   rw[a0];exact hc j v hv)
 cases hq:P.info? ty with
 |none=>simp[hq]at hi
 |some i=>
  have hs:i.size=cs.length:=(by simpa [hq] using hi);have b0:(isAgg ty).run P w=.ok true w:=by
   unfold isAgg;rw[Sem.run_bind,run_underlying hu w]
   cases d<;>simp_all
  simp only[Instr.loadAt,Instr.sureAddr,Sem.run_bind,Sem.run_pure,Result.andThen];unfold loadVar;simp[Sem.run_bind,b0,sizeOf,typeInfo,hq,hs,hl,Result.andThen]
def Tryz.infoTab:(Tryz.prog.info? 95).map (·.size)=some 36:=by kernel_rfl
def zj6(t:Fl.cM):(zo1 t).length=36:=by simp[zo1]
def ym8(n:Nat)(t:Fl.cM)(w:World):(Instr.build 227 #[(0,.int .i64 n),(1,.agg (zo1 t).toArray)]).run prog w=.ok (.agg (zo2 n t).toArray) w:=by kernel_rfl
def yq6(n:Nat)(t:Fl.cM):(zo2 n t)[0]?=some (.int .i64 n)/\(∀i j,i<6->j<6->(zo2 n t)[1+i*6+j]?=some (.bool (t i j)))/\(∀k,37<=k->k<73->∃v,(zo2 n t)[k]?=some v)/\(zo2 n t)[73]?=some (.int .i64 0):=by
 have hl:(zo1 t).length=36:=zj6 t;refine⟨rfl,λi j hi hj=>?_,λk hk hk2=>?_,?_⟩
 ·unfold zo2
  rw[List.append_assoc,List.append_assoc,List.singleton_append,Nat.add_assoc,Nat.add_comm 1,List.getElem?_cons_succ,List.getElem?_append_left (by omega)];exact ys1 t i j hi hj
 ·have:k<(zo2 n t).length:=by simp[zo2,hl];omega
  exact⟨_,Qb this⟩
 rfl
def zg1{o:Oper}{a:Act}(x:Operand)(ty:TypeId)(ho:o.op=.load ty x)(g q:Nat)(hx:a.eval x=.pointer (some ⟨g,q,none⟩))(cs:List Value)(d:TypeDesc)(hc:∀j v,cs[j]?=some v->w.cell? ⟨g,q+j,none⟩=some v)
  (hu:P.underlying ty=some d) (hd:(match d with| .struct _| .array _ _=>true|_=>false)=true) (hi:(P.info? ty).map (·.size)=some cs.length):(execOp a.eval o).run P w=.ok (.value (.agg cs.toArray)) w:=by
 unfold execOp;simp only[ho,Sem.run_bind,hx,zj5 w g q ty cs d hc hu hd hi,Result.andThen_ok,Sem.run_pure]
def zo3{o:Oper}{a:Act}(t:TypeId)(parts:Array (Nat×Operand))(ho:o.op=.build t parts)(arr:Array Value)(vals:Array (Nat×Value))(hv:(parts.map λ(i,x)=>(i,a.eval x))=vals)
  (eP:(Instr.build t vals).run P w=.ok (.agg arr) w):(execOp a.eval o).run P w=.ok (.value (.agg arr)) w:=by
 unfold execOp;simp only[ho,Sem.run_bind,hv,eP,Result.andThen_ok,Sem.run_pure]
namespace Fl
def jT(n:Nat)(t r:cM)(h:∀i j,i<n->j<n->t i j=r i j):∀k,k<=n->∀i j,i<n->j<n->fw k t i j=fw k r i j
 |0,_,i,j,hi,hj=>h i j hi hj
 |k+1,hk,i,j,hi,hj=>by
  have ih:=jT n t r h k (by omega);simp only[fw,eH,ih i j hi hj,ih i k hi (by omega),ih k j (by omega) hj]
def gG(n:Nat)(t r:cM)(hn:0<n)(h:∀i j,i<n->j<n->t i j=r i j):∀k,k<=n->di t k=di r k
 |0,_=>rfl
 |k+1,hk=>by
  have ih:=gG n t r hn h k (by omega);simp only[di,ih,h k (di r k) (by omega) (fy r hn k (by omega))]
end Fl
def ym9(n:Nat)(t:Fl.cM)(w:World)(e:Ending)(w':World):Prop:=
 Below w.heap.size w w'/\((Fl.bt n (Fl.fw n t)=true/\e=.returned (.tuple #[ptr w.heap.size,.bool true])/\w.heap.size<w'.heap.size/\∀r:Fl.cM,(∀i j,i<n->j<n->Fl.fw n t i j=r i j)->Fl.lN n r->Ur w' w.heap.size n r)\/(Fl.bt n (Fl.fw n t)=false/\e=.returned (.tuple #[.pointer none,.bool false])))
def zq1(h:Below lo w0 w)(hg:w.grownBy w' (some b))(hb:lo<=b)(hz:lo<=w.heap.size):Below lo w0 w':=
 h.grown hg hz (λk hk=>by simp only[Option.some.injEq]at hk;omega)
def yvv(R n:Nat)(t:Fl.cM)(w:World)(hn:n<=6)(c3:w.cell? ⟨R,3,none⟩=some (.int .i64 n))(ht:zx1 w R 4 t):
  Calls prog 139 #[.pointer (some ⟨R,3,none⟩)] w (ym9 n t w):=by
 have HT:=Zz ht;have D0:R<w.heap.size:=Qe w _ c3
 have E0:∀j v,(zo1 t)[j]?=some v->w.drew.cell? ⟨R,4+j,none⟩=some v:=λj v hv=>by
  have hj:j<36:=(by rw[<-zj6 t];exact(List.getElem?_eq_some_iff.1 hv).1);have h1:=ys1 t (j / 6) (j % 6) (by omega) (by omega);rw[show j / 6*6+j % 6=j by omega]at h1;rw[h1]at hv;simp only[Option.some.injEq]at hv;have h2:=ht (j / 6) (j % 6) (by omega) (by omega);rw[show 4+j / 6*6+j % 6=4+j by omega,hv]at h2;exact h2
 have t0:=Zz E0;obtain⟨tl,r0⟩:=nmE (zo1 t);obtain⟨ll,u0⟩:=nmE (zo2 n t)
 have F0:Hid (∀W:World,(Instr.build 227 #[(0,.int .i64 n),(1,.agg tl.toArray)]).run prog W=.ok (.agg ll.toArray) W):=λW=>by rw[r0,u0];exact ym8 n t W
 have G0:=Zz r0;have H0:=Zz u0;rw[<-r0]at t0;clear ht E0 r0 u0
 go_enter func139,ntmps139
 go_wp2_with fail
 refine wp_region_still_tail 9 (by kernel_rfl) (by kernel_rfl) ?_;simp only[List.take_succ_cons,List.take_zero,List.drop_succ_cons,List.drop_zero]
 iterate 7 still_step
 refine Xh rfl (.agg tl.toArray) (zg1 _ 95 rfl R 4 rfl tl _ t0.out underlying95 rfl (by rw[G0.out,zj6];exact Tryz.infoTab)) ?_;refine Xh rfl (.agg ll.toArray) (zo3 227 _ rfl ll.toArray _ (by kernel_rfl) (F0 _)) ?_;refine wpStill_nil ?_
 go_wp2_with fail
 obtain⟨W,hW⟩:=nmE ((w.alloc (.cells ll.toArray 227)).drew);obtain⟨Lb,h0⟩:=nmE (w.heap.size)
 have hB:Below w.heap.size w W:=by rw[hW];exact(bA).drew
 have i0:∀k v,ll[k]?=some v->W.cell? ⟨Lb,k,none⟩=some v:=λk v hv=>by
  rw[hW,h0];show (w.alloc (.cells ll.toArray 227)).cell? _=_;rw[World.cell?_alloc_new];simpa using hv
 have v0:∀k,W.frozen? ⟨Lb,k,none⟩=false:=λk=>by
  rw[hW,h0];show (w.alloc (.cells ll.toArray 227)).frozen? _=_;rw[World.frozen?,heap_alloc_new];simp
 have cF:W.heap.size=w.heap.size+1:=by rw[hW];simp
 obtain⟨k0,k1,k2,k3⟩:=yq6 n t;rw[<-H0.out]at k0 k1 k2 k3;have I0:Hid (zx1 W Lb 1 t):=λi j hi hj=>i0 _ _ (k1 i j hi hj);have a0:W.cell? ⟨Lb,0,none⟩=some (.int .i64 n):=i0 _ _ k0
 have J0:Hid (∀k,37<=k->k<73->∃v,W.cell? ⟨Lb,k,none⟩=some v):=λk hk x0=>by obtain⟨v,hv⟩:=k2 k hk x0;exact⟨v,i0 _ _ hv⟩
 have j0:Hid (W.cell? ⟨Lb,73,none⟩=some (.int .i64 0)):=i0 _ _ k3;have K0:=Zz v0;have HB:=Zz hB;have d3:W.cell? ⟨R,3,none⟩=some (.int .i64 n):=(hB.cell (p:=⟨R,3,none⟩) D0).trans c3;have L0:=Zz a0;have e0:=Zz h0
 have hsz':W.heap.size=Lb+1:=by omega
 have M0:=Zz hsz';have N0:Hid (Calls prog 153 #[.pointer (some ⟨Lb,1,none⟩),.int .i64 n] W.drew λe w'=>e=.returned (.tuple #[])/\Vd W.drew w' Lb 1 36/\∃t',zx1 w' Lb 1 t'/\(∀i j,i<n->j<n->t' i j=Fl.fw n t i j)):=yy9 Lb 1 n t W.drew hn I0 v0;rw[<-hW,<-h0];clear hW h0 hB i0 v0 cF hsz' k0 k1 k2 k3 c3 D0 F0 t0 G0 H0 HT;refine wp_region_still_tail 7 (by kernel_rfl) (by kernel_rfl) ?_;simp only[List.take_succ_cons,List.take_zero,List.drop_succ_cons,List.drop_zero]
 iterate 7 still_step
 refine wpStill_nil ?_;clear d3 a0
 go_wp2_with fail
 refine N0.mono ?_;rintro e W2 ⟨rfl,f0,t',ht',y0⟩;have V0:=Zz f0;have O0:=Zz ht';have W0:=Zz y0;have b0:W2.cell? ⟨Lb,0,none⟩=some (.int .i64 n):=(f0.c 0 (by omega)).trans L0.out;have P0:Hid (Below w.heap.size w W2):=by
  refine zq1 HB.drew f0.g (by rw[e0.out];exact Nat.le_refl _) ?_;have:=M0.out;have:=e0.out;simp;omega
 have Q0:Hid (∀k,W2.frozen? ⟨Lb,k,none⟩=false):=λk=>(f0.z k).trans (K0 k);have X0:Hid (W2.cell? ⟨Lb,73,none⟩=some (.int .i64 0)):=(f0.c 73 (by omega)).trans j0.out
 have Y0:Hid (∀k,37<=k->k<73->∃v,W2.cell? ⟨Lb,k,none⟩=some v):=λk hk x0=>by obtain⟨v,hv⟩:=J0 k hk x0;exact⟨v,(f0.c k (by omega)).trans hv⟩
 have Z0:Hid (W2.heap.size=Lb+1):=by show _=_;rw[f0.s];exact M0
 have l0:Hid (Fl.bt n t'=Fl.bt n (Fl.fw n t)):=Fl.fA y0;clear f0 ht' y0 N0 V0 I0 J0 j0 K0 L0
 by_cases z0:n=0
 ·have b1:((n:Int)==0)=true:=by rw[z0];rfl
  have A0:Hid (Fl.bt n (Fl.fw n t)=false):=(by show _=_;rw[z0];rfl);clear z0;go_wp2
  go_ret2
  exact⟨P0,.inr ⟨A0,rfl⟩⟩
 have b1:((n:Int)==0)=false:=by rw[Qh];omega
 have B0:0<n:=by omega
 have R0:Hid (Calls prog 154 #[.pointer (some ⟨Lb,0,none⟩)] W2 (ym7 Lb n t' W2)):=zbw Lb n t' W2 hn b0 O0 Y0 Q0.out;have a1:=Zz b0
 go_wp2_with fail
 refine R0.mono ?_;rintro e W3 ⟨g0,m0⟩;have S0:Hid (Below w.heap.size w W3):=by
  refine zq1 P0 g0.g (by rw[e0.out];exact Nat.le_refl _) ?_;have:=Z0.out;have:=e0.out;omega
 clear b0 R0;rcases m0 with⟨rfl,aK⟩|⟨rfl,i,j,hi,hj,n0⟩
 ·have c1:Hid (Fl.bt n (Fl.fw n t)=true):=by
   show _=_;rw[<-l0.out];exact(Fl.eg n t').2 ⟨B0,λi j hi hj=>(aK i j hi hj).1⟩
  have o0:Hid (zx1 W3 Lb 1 t'):=λi j hi hj=>(g0.c (1+i*6+j) (by omega)).trans (O0 i j hi hj);have s0:W3.cell? ⟨Lb,0,none⟩=some (.int .i64 n):=(g0.c 0 (by omega)).trans a1.out;have T0:Hid (∀k,W3.frozen? ⟨Lb,k,none⟩=false):=λk=>(g0.z k).trans (Q0 k);have d1:Hid (∀i j,i<n->j<n->W3.cell? ⟨Lb,37+i*6+j,none⟩=some (.int .i64 (Fl.join n t' i j))):=λi j hi hj=>(aK i j hi hj).2;have U0:Hid (Calls prog 155 #[.pointer (some ⟨Lb,0,none⟩)] W3 λe w'=>e=.returned (.tuple #[])/\Vz W3 w' Lb 73 1/\w'.cell? ⟨Lb,73,none⟩=some (.int .i64 (Fl.di t' n))):=zfw Lb n t' W3 hn B0 s0 o0 ((g0.c 73 (by omega)).trans X0) T0.out;have e1:=Zz s0;have f1:Lb<W3.heap.size:=Qe W3 _ s0;clear g0 aK s0
  go_wp2_with fail
  refine U0.mono ?_;rintro e W4 ⟨rfl,c0,p0⟩;have q0:Hid (Below w.heap.size w W4/\w.heap.size<W4.heap.size/\∀r:Fl.cM,(∀i j,i<n->j<n->Fl.fw n t i j=r i j)->Fl.lN n r->Ur W4 w.heap.size n r):=by
   rw[<-e0.out];refine⟨?_,by have:=c0.g.size;omega,λr hr C0=>?_⟩
   ·rw[e0.out]
    exact zq1 S0 c0.g (by rw[e0.out];exact Nat.le_refl _) (by have:=e0.out;omega)
   have d0:∀i j,i<n->j<n->t' i j=r i j:=λi j hi hj=>(W0 i j hi hj).trans (hr i j hi hj);refine⟨λj=>(c0.z j).trans (T0 j),(c0.c 0 (by omega)).trans e1,λi j hi hj=>?_,λi j hi hj=>?_,?_⟩
   ·rw[<-d0 i j hi hj,show 1+6*i+j=1+i*6+j by omega]
    exact(c0.c _ (by omega)).trans (o0 i j (by omega) (by omega))
   ·rw[<-Fl.ir d0 hi hj,show 37+6*i+j=37+i*6+j by omega]
    exact(c0.c _ (by omega)).trans (d1 i j hi hj)
   rw[p0,Fl.gG n t' r B0 d0 n (Nat.le_refl _),Fl.gh C0]
  clear c0 p0 U0;go_wp2
  go_ret2
  exact⟨q0.1,.inl ⟨c1,by rw[<-e0.out];rfl,q0.2⟩⟩
 have A0:Hid (Fl.bt n (Fl.fw n t)=false):=by
  show _=_;rw[<-l0.out,Bool.eq_false_iff];intro h;have:=((Fl.eg n t').1 h).2 i j hi hj
  rw[n0]at this;cases this
 clear g0 n0;go_wp2
 go_ret2
 exact⟨S0,.inr ⟨A0,rfl⟩⟩
section
variable{r:Fl.RS}{aq:Int}{m:Xt}
def Zn.ku(h:Zn lo base R Pb lm vm cm w0 w r aq m)(hb:r.ae=false)(c0:Fl.bt r.au.length r.tab=true)(hW:Bq w W)(hz:w.heap.size<W.heap.size)(hl:Ur W w.heap.size r.au.length r.tab):
  ∃m',Zn lo base R Pb lm vm cm w0 ((W.setCell (Aq Pb 0) (ptr w.heap.size)).setCell (Aq R 2) (.bool true)) {r with ae:=true} aq m':=by
 obtain⟨b1,b2,b3,b4,b5,b6⟩:=h.bL;obtain⟨l1,l2,l3,l4,l5⟩:=h.cV;obtain⟨n1,n2,n3,n4,n5,n6,n7,n8,n9,n10⟩:=h.nd;have hk:=h.below hW;obtain⟨WF,b0⟩:=nmE ((W.setCell (Aq Pb 0) (ptr w.heap.size)).setCell (Aq R 2) (.bool true));rw[<-b0]
 have g0:WF.heap.size=W.heap.size:=by rw[b0,Zy,Zy]
 have q:∀b,b≠R->b≠Pb->WF.heap[b]?=W.heap[b]?:=λb h1 h2=>by rw[b0,Zx _ _ _ _ _ h1,Zx _ _ _ _ _ h2]
 have d0:∀b,m.aC b≠5->b≠w.heap.size:=λb hb'=>by have:=h.re.wh b hb';omega
 have a0:=hk.re.ot (w':=WF) 6 (by decide) (λb=>if b=w.heap.size then 0 else m.aC b) (λb h5 _=>⟨if_neg (d0 b h5),q b (by have:=h.re.wh b h5;omega) (by have:=h.re.wh b h5;omega)⟩);refine⟨{m with pl:=ptr w.heap.size,aC:=λb=>if b=w.heap.size then 0 else m.aC b},?_⟩;refine{ok:= ?ok,bel:= ?bel,fx:=λb f1 f2 f3 f4 f5 f6=>((q b f2 f3).trans (hW.block b (by omega))).trans (h.fx b f1 f2 f3 f4 f5 f6),cV:=h.cV,bL:=⟨b1,b2,b3,b4,b5,by omega⟩,nd:=h.nd,cR:= ?cR,cP:= ?cP,nl:=hk.nl.block (q _ (Ne.symm n2) (Ne.symm n5)),nv:=hk.nv.block (q _ (Ne.symm n3) (Ne.symm n6)),nc:=hk.nc.block (q _ (Ne.symm n4) (Ne.symm n7)),tab:=h.tab,re:= ?re}
 case ok=>
  exact{cn:=h.ok.cn,lv:=h.ok.lv,ce:=h.ok.ce,ch:=h.ok.ch,lo:=h.ok.lo,st:=h.ok.st,fr:=h.ok.fr,cl:=h.ok.cl,hl:=h.ok.hl,cD:=h.ok.cD,dy:=h.ok.dy,head:=λhh=>(by cases hh),below:=h.ok.below,bD:=h.ok.bD,bF:=h.ok.bF,fT:=λ_=>c0}
 case bel=>rw[b0];exact(hk.bel.setCell l2 _).setCell l1 _
 case cR=>
  have hc:=(hk.cR.block (w':=W.setCell (Aq Pb 0) (ptr w.heap.size)) (Zx _ _ _ _ _ n1)).set (j:=2) (by omega) (.bool true);rw[<-b0]at hc;refine hc.congr λj hj=>?_
  by_cases h2:j=2
  ·subst h2;rfl
  rw[if_neg h2];unfold Vq
  by_cases hs:j=0\/j=1\/j=3\/j=40\/j=41\/j=42\/j=43\/j=44
  ·rcases hs with rfl|rfl|rfl|rfl|rfl|rfl|rfl|rfl<;>rfl
  rw[if_neg (show ¬j=0 by omega),if_neg (show ¬j=1 by omega),if_neg h2,if_neg (show ¬j=0 by omega),if_neg (show ¬j=1 by omega),if_neg h2]
 case cP=>
  have hc:=(hk.cP.set (j:=0) (by omega) (ptr w.heap.size)).block (w':=WF) (by rw[b0];exact Zx _ _ _ _ _ (Ne.symm n1));refine hc.congr λk hk=>?_;rcases(show k=0\/k=1\/k=2\/k=3\/k=4 by omega) with rfl|rfl|rfl|rfl|rfl<;>rfl
 case re=>
  exact{
      wh:=λb hb'=>by
       by_cases f0:b=w.heap.size
       ·omega
       have e0:(if b=w.heap.size then 0 else m.aC b)≠5:=hb';rw[if_neg f0]at e0;have:=h.re.wh b e0;omega
      oc:=(a0.oc (by decide)).1,tc:=(a0.oc (by decide)).2,oh:=(a0.oh (by decide)).1,th:=(a0.oh (by decide)).2,pb:=(a0.pb (by decide)).1,tb:=(a0.pb (by decide)).2,fa:=a0.fa (.inl (by decide)),oo:=(a0.oo (by decide)).1,to:=(a0.oo (by decide)).2,la:=λ_=>⟨w.heap.size,rfl,if_pos rfl,hl.block (q _ (by omega) (by omega))⟩}
def ymz(h:Zn lo base R Pb lm vm cm w0 w r aq m)(l0:r.ae=false)(v:Value)(k:List UInt8)(hv:∃ao n c,v=.slice ao n c):
  Cq 108 #[Pq R,v] w (Zd lo base R Pb lm vm cm w0 aq (r.head [k])):=by
 obtain⟨ao,vn,vc,rfl⟩:=hv;obtain⟨aV,d0⟩:=nmE (r.head [k]);rw[<-d0]
 have e0:Hid (aV=if Fl.bt r.au.length r.tab then(0,{r with ae:=true}) else(6,r)):=by show _=_;rw[d0];rfl
 have m0:=h.ok.lv
 have n0:Hid (Cq 139 #[.pointer (some (Aq R 3))] w (ym9 r.au.length m.t w)):=yvv R r.au.length m.t w m0 (h.cR.c 3 (by omega)) (λi j hi hj=>by
  have:=h.cR.c (4+i*6+j) (by omega)
  rw[yy7 _ _ _ _ _ _ _ _ _ hi hj]at this;exact this)
 have a0:∀i j,i<r.au.length->j<r.au.length->Fl.fw r.au.length m.t i j=r.tab i j:=λi j hi hj=>by
  refine Fl.jT _ _ _ (λa b ha hb=>?_) _ (Nat.le_refl _) i j hi hj;rw[h.tab a b (by omega) (by omega)];simp[ha]
 have g0:Hid (Fl.bt r.au.length (Fl.fw r.au.length m.t)=Fl.bt r.au.length r.tab):=Fl.fA a0;have o0:=Zz a0;have HH:=Zz h;clear h d0 a0
 go_enter func108,ntmps108
 go_wp2_with fail
 refine n0.mono ?_;rintro e W ⟨b0,f0⟩;have HW:Hid (Zn lo base R Pb lm vm cm w0 W r aq m):=HH.below b0;have bL:=HW.bL;have cV:=HW.cV;have q0:=HW.nd;rcases f0 with⟨hl,rfl,hz,h0⟩|⟨hl,rfl⟩
 ·rw[g0.out]at hl
  have HR:Hid (aV=(0,{r with ae:=true})):=(by show _=_;rw[e0.out,if_pos hl]);have HF:Hid (∃m',Zn lo base R Pb lm vm cm w0 ((W.setCell (Aq Pb 0) (ptr w.heap.size)).setCell (Aq R 2) (.bool true)) {r with ae:=true} aq m'):=HH.ku l0 hl b0 hz (h0 r.tab o0 (Fl.RS.fT hl));have i0:Hid (Cq 61 #[Pq R,.bool true,Iq 6] W λe w'=>e=.returned (.tuple #[])/\w'=W):=Xc R 6 W;have c0:Cl W R 0 (Pq Pb):=HW.cR.c 0 (by omega);have p0:Cl W Pb 0 m.pl:=HW.cP.c 0 (by omega);have zP:=HW.cP.z;have zR:=HW.cR.z;have c2:∀v,Cl (W.setCell (Aq Pb 0) v) R 2 (.bool r.ae):=λv=>(Qc (a:=(Aq R 2)) (Zx _ _ _ _ _ q0.1)).trans (HW.cR.c 2 (by omega))
  have zR2:∀v j,(W.setCell (Aq Pb 0) v).frozen? (Aq R j)=false:=λv j=>by rw[World.frozen?_setCell];exact zR j
  obtain⟨pv,j0⟩:=nmE (m.pl);rw[<-j0]at p0;clear h0 hl b0 j0;unfold ptr at HF⊢
  go_wp2_with fail
  refine i0.mono ?_;rintro e w1 ⟨rfl,k0⟩;rw[k0];clear k0 w1 i0;go_wp2
  go_end0
  obtain⟨m',hm'⟩:=HF.out;exact Zd.fS HR rfl hm'
 rw[g0.out]at hl
 have HR:Hid (aV=(6,r)):=by show _=_;rw[e0.out,if_neg (by rw[hl];decide)]
 have r0:Hid (Cq 61 #[Pq R,.bool false,Iq 6] W λe w'=>e=.panicked (Ze 6 aq)/\Bq W w'):=Yd R 6 aq W (HW.cR.c 1 (by omega));clear hl b0
 go_wp2_with fail
 refine r0.mono ?_;rintro e w1 ⟨rfl,s0⟩;exact⟨rfl,Zd.eh HR (by decide) rfl (HW.gone s0)⟩
end
def zq2(w w':World)(b:Nat):Prop:=w.heap.size<=b/\b<w'.heap.size
def Fl.RS.my(r:Fl.RS)(x:List UInt8):r.atom x=if(Fl.bZ x 9).2 then some ⟨false,(Fl.bZ x 9).1⟩ else if 0<=Fl.ai (r.cells++r.am) x then some ⟨true,(Fl.ai (r.cells++r.am) x).toNat⟩ else none:=by
 unfold Fl.RS.atom;rw[Fl.eW];have h1:=Fl.aR r.cells x;have h2:=Fl.aR r.am x
 by_cases hn:(Fl.bZ x 9).2=true
 ·rw[if_pos hn,if_pos hn]
 rw[if_neg hn,if_neg hn]
 by_cases hc:0<=Fl.ai r.cells x
 ·rw[if_pos hc,if_pos hc,if_pos hc]
 rw[if_neg hc,if_neg hc]
 by_cases hl:0<=Fl.ai r.am x
 ·rw[if_pos hl,if_pos hl,if_pos (by omega)]
  congr 2;omega
 rw[if_neg hl,if_neg hl,if_neg (by omega)]
def yyx(o:Option Fl.dM)(aq:Int)(w:World)(e:Ending)(w':World):Prop:=
 Bq w w'/\(∀a,o=some a->∃p,e=.returned p/\Xu (zq2 w w') w' p a)/\(o=none->e=.panicked (Ze 4 aq))
def yyw(w:World)(k v:Int)(a:Fl.dM)(hk:k=if a.var then 1 else 0)(hv:v=a.v)(hW:Bq w W):Xu (zq2 w (W.alloc (.cells #[Iq k,Iq v,.pointer none,.pointer none] 259))) (W.alloc (.cells #[Iq k,Iq v,.pointer none,.pointer none] 259)) (Pq W.heap.size) a:=by
 refine⟨W.heap.size,rfl,⟨hW.size,by simp⟩,?_⟩;rw[<-hk,<-hv];exact Zb.new W [Iq k,Iq v,.pointer none,.pointer none] _
section
variable{r:Fl.RS}{aq:Int}{m:Xt}
def zg2(h:Zn lo base R Pb lm vm cm w0 w r aq m)(x:List UInt8)(hx:x.length<=100000):
  Cq 156 #[Pq R,.string ⟨x.toArray⟩] w (yyx (r.atom x) aq w):=by
 have a0:=zk0 x w hx;have b0:=Fl.iE x;obtain⟨ra,g0⟩:=nmE (r.atom x);have c0:=Fl.RS.my r x;rw[<-g0]at c0⊢;obtain⟨nb,hnb⟩:=nmE ((Fl.bZ x 9).2);obtain⟨nv,i0⟩:=nmE ((Fl.bZ x 9).1);obtain⟨pl,e0⟩:=nmE (Fl.ai (r.cells++r.am) x);rw[<-hnb,<-i0]at b0 c0;rw[<-e0]at c0;rw[b0]at a0;have j0:Hid (ra=if nb then some ⟨false,nv⟩ else if 0<=pl then some ⟨true,pl.toNat⟩ else none):=c0;have HH:Hid (Zn lo base R Pb lm vm cm w0 w r aq m):=h;have m0:Hid (pl=Fl.ai (r.cells++r.am) x):=e0;clear b0 c0 g0 hnb i0 e0 h
 cases nb with
 |true=>
  have HN:Hid (Cq 148 #[.string ⟨x.toArray⟩] w λe w'=>e=.returned (.tuple #[Iq nv,.bool true])/\Bq w w'):=a0;have HR:Hid (ra=some ⟨false,nv⟩):=j0.out;clear a0
  go_enter func156,ntmps156
  go_wp2_with fail
  refine HN.mono ?_;rintro e W ⟨rfl,hb⟩;have HB:Hid (Bq w W):=hb;clear hb HN;go_wp2;go_ret;exact⟨HB.alloc HB.size _,λa ha=>⟨_,rfl,by rw[HR.out]at ha;simp only[Option.some.injEq]at ha;subst ha;exact yyw w 0 nv ⟨false,nv⟩ rfl rfl HB⟩,λhn=>by rw[HR.out]at hn;cases hn⟩
 |false=>
  have HN:Hid (Cq 148 #[.string ⟨x.toArray⟩] w λe w'=>e=.returned (.tuple #[Iq 0,.bool false])/\Bq w w'):=a0;have HR:Hid (ra=if 0<=pl then some ⟨true,pl.toNat⟩ else none):=j0.out;clear a0
  go_enter func156,ntmps156
  go_wp2_with fail
  refine HN.mono ?_;rintro e W ⟨rfl,hb⟩;have HB:Hid (Bq w W):=hb;have HW:Hid (Zn lo base R Pb lm vm cm w0 W r aq m):=HH.below hb;obtain⟨mx,tb,n0,f0,hmx⟩:=HW.nv.io x hx;rw[<-m0.out]at f0 hmx;have k0:Hid (tb=decide (0<=pl)):=f0;have o0:Hid (mx=max 0 pl):=hmx;have c41:Cl W R 41 (.map (some vm)):=HW.cR.c 41 (by omega);have p0:Hid (Cq 61 #[Pq R,.bool false,Iq 4] W λe w'=>e=.panicked (Ze 4 aq)/\Bq W w'):=Yd R 4 aq W (HW.cR.c 1 (by omega));have q0:Hid (Cq 61 #[Pq R,.bool true,Iq 4] W λe w'=>e=.returned (.tuple #[])/\w'=W):=Xc R 4 W;have hz:=hb.size;clear hb HN f0 hmx
  cases tb with
  |true=>
   have h0:0<=pl:=(by have:=k0.out;simpa using this);have d0:Hid (ra=some ⟨true,pl.toNat⟩):=(by show _=_;rw[HR.out,if_pos h0]);have r0:Hid (mx=pl):=(by show _=_;rw[o0.out];omega)
   go_wp2_with fail
   refine q0.mono ?_;rintro e w1 ⟨rfl,l0⟩;rw[l0];clear l0 w1 n0 c41;go_wp2;go_ret;exact⟨HB.alloc HB.size _,λa ha=>⟨_,rfl,by rw[d0.out]at ha;simp only[Option.some.injEq]at ha;subst ha;exact yyw w 1 mx ⟨true,pl.toNat⟩ rfl (by rw[r0.out];simp;omega) HB⟩,λhn=>by rw[d0.out]at hn;cases hn⟩
  |false=>
   have h0:¬0<=pl:=(by have:=k0.out;simpa using this);have d0:Hid (ra=none):=(by show _=_;rw[HR.out,if_neg h0])
   go_wp2_with fail
   refine p0.mono ?_;rintro e w1 ⟨rfl,s0⟩;exact⟨rfl,HB.trans (s0.mono (by omega)),λa ha=>(by rw[d0.out]at ha;cases ha),λ_=>rfl⟩
end
def zqv(o:Option Fl.dd)(aq:Int)(w:World)(e:Ending)(w':World):Prop:=
 Bq w w'/\(∀x,o=some x->∃pb,e=.returned (Pq pb)/\zxz (zq2 w w') w' (ptr pb) x)/\(o=none->e=.panicked (Ze 4 aq))
def Xu.later{a:Fl.dM}(h:Xu (zq2 w w1) w1 p a)(hb:Bq w1 w2):Xu (zq2 w w2) w2 p a:=
 h.kept (λb hb'=>⟨hb'.1,Qj hb'.2 hb.size⟩) (λb hb'=>hb.block b hb'.2)
def Xu.lower{a:Fl.dM}(h:Xu (zq2 w1 w2) w2 p a)(hz:w.heap.size<=w1.heap.size):Xu (zq2 w w2) w2 p a:=
 h.kept (λb hb'=>⟨Nat.le_trans hz hb'.1,hb'.2⟩) (λ_ _=>rfl)
section
variable{r:Fl.RS}{aq:Int}{m:Xt}
def zg3(h:Zn lo base R Pb lm vm cm w0 w r aq m)(b off cap:Nat)(x:List UInt8)(hx:x.length<=100000)(f0:1<=cap)(i0:w.cell? (Aq b off)=some (.string ⟨x.toArray⟩)):
  Cq 140 #[Pq R,.slice (some (Aq b off)) 1 cap] w (zqv (r.value [x]) aq w):=by
 have HS:Hid (Cq 156 #[Pq R,.string ⟨x.toArray⟩] w (yyx (r.atom x) aq w)):=zg2 h x hx;clear h
 go_enter func140,ntmps140
 go_wp2_with fail
 refine HS.mono ?_;rintro e W ⟨hb,d0,a0⟩;have HB:=Zz hb;clear hb HS
 cases b0:r.atom x with
 |none=>
  obtain rfl:=a0 b0;exact⟨rfl,HB,λy hy=>(by simp[Fl.RS.value,b0]at hy),λ_=>rfl⟩
 |some a=>
  obtain⟨p,rfl,c0⟩:=d0 a b0;obtain⟨vb,rfl,g0⟩:=id c0;have h0:=Zz c0;have e0:=Zz b0;clear c0 d0 a0 b0 g0;unfold ptr;go_wp2;go_ret;refine⟨HB,λy hy=>⟨vb,rfl,?_⟩,λhn=>?_⟩
  ·simp only[Fl.RS.value,e0.out,Option.map_some,Option.some.injEq]at hy
   subst hy;exact .inl ⟨rfl,h0⟩
  simp[Fl.RS.value,e0.out]at hn
def yq7(h:Zn lo base R Pb lm vm cm w0 w r aq m)(b off cap:Nat)(x o y:List UInt8)(hx:x.length<=100000)(ho:o.length<=100000)(hy:y.length<=100000)(n0:0<=Fl.ai Fl.cH o)(A0:3<=cap)
  (l0:w.cell? (Aq b off)=some (.string ⟨x.toArray⟩)) (B0:w.cell? (Aq b (off+1))=some (.string ⟨o.toArray⟩)) (o0:w.cell? (Aq b (off+2))=some (.string ⟨y.toArray⟩)):
  Cq 140 #[Pq R,.slice (some (Aq b off)) 3 cap] w (zqv (r.value [x,o,y]) aq w):=by
 obtain⟨ov,m0⟩:=nmE (α:=Int) (Fl.ai Fl.cH o)
 have u0:Hid (∀W,Cq 149 #[.string ⟨o.toArray⟩] W λe w'=>e=.returned (.tuple #[Iq ov,.bool true])/\w'=W):=λW=>by
  have:=zox o W ho;rw[show (((Fl.ai Fl.cH o).toNat:Nat):Int)=ov by rw[m0];omega,show decide (0<=Fl.ai Fl.cH o)=true by simpa using n0]at this;exact this
 have HS:Hid (∀W z,z.length<=100000->Zn lo base R Pb lm vm cm w0 W r aq m->Cq 156 #[Pq R,.string ⟨z.toArray⟩] W (yyx (r.atom z) aq W)):=λW z hz hW=>zg2 hW z hz;have HH:=Zz h
 have p0:0<=ov:=by rw[m0];exact n0
 obtain⟨aV,b0⟩:=nmE (r.value [x,o,y]);rw[<-b0]
 have e0:Hid (aV=(r.atom x).bind λa=>(r.atom y).map λc=>⟨ov,a,c⟩):=by show _=_;rw[b0,m0];rfl
 clear h m0 n0 b0
 go_enter func140,ntmps140
 go_wp2_with fail
 refine(u0 _).mono ?_;rintro e w1 ⟨rfl,v0⟩;rw[v0];clear v0 w1 u0 B0
 go_wp2_with fail
 refine zyv (λW=>Cl W b off (.string ⟨x.toArray⟩)/\Cl W b (off+2) (.string ⟨y.toArray⟩)) [] [(0,0),(0,1),(0,2),(0,3),(0,4),(0,6),(0,7),(0,8),(0,9),(1,5),(1,10),(0,11),(1,12),(0,13)] [] (by kernel_rfl) (by kernel_rfl) rfl [(_,_),(_,_),(_,_),(_,_),(_,_),(_,_),(_,_),(_,_),(_,_),(_,_),(_,_),(_,_),(_,_),(_,_)] rfl (λc a d v w h=>by cases d<;>exact h) ⟨l0,o0⟩ (λops hG=>?_);clear hG;simp only[List.getElem_toArray,List.getElem_cons_succ,List.getElem_cons_zero]
 iterate 9 refine Xf rfl (kE (by rintro _ ⟨k0,k1⟩;go_simp<;>rfl) (by go_simp<;>rfl) ?_)
 refine Zt ?_;have hbz:b<w.heap.size:=Qe w _ l0
 go_wp2_with fail
 refine(HS w.drew x hx HH.drew).mono ?_;rintro e W ⟨hb,g0,a0⟩;have hB:Bq w W:=(Below.refl w.heap.size w).drew.trans hb;have HB:=Zz hB;have HW:Hid (Zn lo base R Pb lm vm cm w0 W r aq m):=HH.below hB;have d0:Cl W b off (.string ⟨x.toArray⟩):=(hB.cell (p:=(Aq b off)) hbz).trans l0;have d2:Cl W b (off+2) (.string ⟨y.toArray⟩):=(hB.cell (p:=(Aq b (off+2))) hbz).trans o0;have hz:=hB.size;clear l0 o0 hb hB
 cases h0:r.atom x with
 |none=>
  obtain rfl:=a0 h0;have HN:aV=none:=(by rw[e0.out,h0];rfl);exact⟨rfl,HB,λy hy=>(by rw[HN]at hy;cases hy),λ_=>rfl⟩
 |some a=>
  obtain⟨p,rfl,q0⟩:=g0 a h0;obtain⟨xb,rfl,-⟩:=id q0;have C0:Hid (Xu (zq2 w W) W (ptr xb) a):=by
   refine Xu.kept q0 (λb' hb'=>?_) (λ_ _=>rfl);exact⟨by have:=hb'.1;simpa using this,hb'.2⟩
  have x0:Hid (aV=(r.atom y).map λc=>⟨ov,a,c⟩):=(by show _=_;rw[e0.out,h0];rfl);clear q0 g0 a0 h0;unfold ptr
  go_wp2_with fail
  refine⟨⟨d0,d2⟩,?_⟩;refine Zt ?_
  go_wp2_with fail
  refine(HS W y hy HW).mono ?_;rintro e W2 ⟨i0,g0,a0⟩;have r0:=Zz i0;have f0:Cl W2 b off (.string ⟨x.toArray⟩):=(i0.cell (p:=(Aq b off)) (by show b<_;omega)).trans d0;have f2:Cl W2 b (off+2) (.string ⟨y.toArray⟩):=(i0.cell (p:=(Aq b (off+2))) (by show b<_;omega)).trans d2;have E0:=i0.size;clear d0 d2 i0
  cases j0:r.atom y with
  |none=>
   obtain rfl:=a0 j0;have HN:aV=none:=(by rw[x0.out,j0];rfl);exact⟨rfl,HB.trans (r0.mono (by omega)),λy hy=>(by rw[HN]at hy;cases hy),λ_=>rfl⟩
  |some c=>
   obtain⟨p,rfl,s0⟩:=g0 c j0;obtain⟨yb,rfl,-⟩:=id s0;have D0:Hid (Xu (zq2 w W2) W2 (ptr yb) c):=Xu.lower s0 (by omega);have t0:Hid (Xu (zq2 w W2) W2 (ptr xb) a):=Xu.later C0 r0.out;have y0:Hid (aV=some ⟨ov,a,c⟩):=(by show _=_;rw[x0.out,j0];rfl);have c0:Hid (Bq w W2):=HB.trans (r0.mono (by omega));have f0':∀o,Cl (W2.alloc o) b off (.string ⟨x.toArray⟩):=λo=>(Qf _ _ _ (by show b<_;omega)).trans f0;have f2':∀o,Cl (W2.alloc o) b (off+2) (.string ⟨y.toArray⟩):=λo=>(Qf _ _ _ (by show b<_;omega)).trans f2;clear s0 g0 a0 j0;unfold ptr
   go_wp2_with fail
   refine⟨⟨f0,f2⟩,?_⟩;refine Xf rfl (kE (by intro w' hw';go_simp<;>rfl) (by go_simp<;>rfl) ?_);refine Zt ?_
   go_wp2_with fail
   refine⟨⟨f0' _,f2' _⟩,?_⟩;refine Xf rfl (kE (by intro w' hw';go_simp<;>rfl) (by go_simp<;>rfl) ?_);refine Zu ?_;go_wp2;go_ret;refine⟨c0.alloc c0.size _,λz hz'=>⟨_,rfl,?_⟩,λhn=>(by rw[y0.out]at hn;cases hn)⟩;rw[y0.out]at hz';simp only[Option.some.injEq]at hz';subst hz';have z0:Bq W2 (W2.alloc (.cells #[Iq 2,Iq ov,Pq xb,Pq yb] 259)):=bA;refine .inr ⟨p0,W2.heap.size,ptr xb,ptr yb,rfl,⟨c0.size,by simp⟩,?_,Xu.later t0 z0,Xu.later D0 z0⟩;exact Zb.new W2 [Iq 2,Iq ov,ptr xb,ptr yb] _
end
end Go.Proofs.YtfhpibppblbgcaaGreatDoor
