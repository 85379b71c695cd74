import Derived.Test.YtjekbnmnjeoagaaGreatDoorM07
import Derived.Laws.CopyOwn
import Derived.DeepKeys4
set_option linter.all false
set_option maxRecDepth 100000
set_option maxHeartbeats 40000000
namespace Go.Proofs.YtjekbnmnjeoagaaGreatDoor
open Go.RowKit Go.Proofs.Tryz
variable{w w' w0:World}{lv wv:Value}{i T B b Xb Fb:Nat}{cs lvs:List Value}{x y:Fl.Node}{ws acc:List Fl.Node}
def zzx(l:List Fl.Node)(k j:Nat):Bool:=(List.range j).any (λj=>decide (k<j) && (prem (Fl.nth l j)).any (·==(k:Int)))
def zc7(l:List Fl.Node)(k:Nat):zzx l k (k+1)=false:=by
 unfold zzx;rw[List.any_eq_false];intro x hx
 have:¬k<x:=by simp at hx;omega
 simp[this]
def yy1(l:List Fl.Node)(k j:Nat)(h:k<j):zzx l k (j+1)=(zzx l k j||(prem (Fl.nth l j)).any (·==(k:Int))):=by
 unfold zzx;rw[List.range_succ,List.any_append];simp[h]
def yy2(ns:List Fl.Node)(v:Value)(B:Nat)(w:World)(hB:B<=w.heap.size)(hv:Yu B w v ns):
  Cq 32 #[v] w λe w'=>e=.returned (Iq (Fl.shaped ns))/\Bq w w':=by
 obtain⟨ao,cap,rfl,hc,hm,hx⟩:=hv;unfold maxLen at hm;have HX:Hid (Yu B w (.slice ao ns.length cap) ns):=⟨ao,cap,rfl,hc,hm,hx⟩;clear hx
 go_enter func32,ntmps32
 go_wp2
 go_loopw [3] (λi wr=>∃k:Nat,k<=ns.length/\i=Iq k/\(∀j,j<k->Fl.bad ns j=false)/\Bq w wr) (λi _=>ns.length - (intOf i).toNat)
 case atStart=>exact⟨0,by omega,rfl,λj hj=>by omega,Below.refl _ _⟩
 case round=>
  obtain⟨k,hk,rfl,hno,m0⟩:=hrel;have HN:=Zz hno;clear hno;have U0:=m0.size
  by_cases e0:k<ns.length
  ·obtain⟨b,off,rfl⟩:∃b off,ao=some (Aq b off):=by
    obtain⟨ao',cap',hv',_,_,hx'⟩:=HX.out;obtain⟨b,off,ha,_⟩:=hx' (by intro h;rw[h]at e0;simp at e0);simp only[Value.slice.injEq]at hv';exact⟨b,off,hv'.1.trans ha⟩
   obtain⟨V0,lv,h0,h1,h2,h3,h4,h5,h6⟩:=(HX.out.below (m0.mono hB)).at e0;have HS:Hid (Cq 63 #[Ju (Fl.nth ns k) lv] wr λe w'=>e=.returned (.bool (Fl.sound (Fl.nth ns k)))/\Bq wr w'):=yq4 _ _ B _ (by omega) h0;clear h0
   go_wp2_with fail
   refine(HS.out).mono ?_;rintro e w1 ⟨rfl,G0⟩;clear HS h1 h2 h3 h4 h5 h6;have d0:Bq w w1:=m0.trans (G0.mono U0);have W0:=d0.size
   by_cases p0:Fl.sound (Fl.nth ns k)=true
   ·rw[p0]
    obtain⟨_,lv1,h0,h1,h2,h3,h4,h5,h6⟩:=(HX.out.below (d0.mono hB)).at e0;have HP:Hid (Cq 64 #[Ju (Fl.nth ns k) lv1] w1 λe w'=>∃v,e=.returned v/\Zw w'.heap.size w' v (prem (Fl.nth ns k))/\Bq w1 w'):=zo5 _ _ B _ (by omega) h0;have X0:=Zz p0;clear h0 p0
    go_wp2_with fail
    refine(HP.out).mono ?_;rintro e w2 ⟨pv,rfl,z0,H0⟩;clear HP h1 h2 h3 h4 h5 h6;have l0:Bq w w2:=d0.trans (H0.mono W0);obtain⟨pao,pcap,rfl,_,A0,q0⟩:=z0;generalize hps:prem (Fl.nth ns k)=ps at*;have I0:=Zz hps;have r0:=Zz q0;clear hps q0 H0 G0 m0 d0;unfold maxLen at A0;go_wp2
    go_loop [6] (λi=>∃j:Nat,j<=ps.length/\i=Iq j/\∀t,t<j->¬(k:Int)<=ps.getD t 0) (λi=>ps.length - (intOf i).toNat)
    case atStart=>exact⟨0,by omega,rfl,λt ht=>by omega⟩
    case round=>
     obtain⟨j,hj,rfl,J0⟩:=hrel;have B0:=Zz J0;clear J0
     by_cases f0:j<ps.length
     ·obtain⟨pb,po,rfl,Y0,a0⟩:=r0.out (by intro h;rw[h]at f0;simp at f0)
      have C0:=a0 j f0;obtain⟨x,hx⟩:=nmE (ps.getD j 0);rw[<-hx]at C0;have x0:=Zz hx;have Z0:(j:Int)<(ps.length:Int):=(by omega);clear a0 hx
      by_cases a1:(k:Int)<=x
      ·have b0:Fl.bad ns k=true:=by
        have h1:(prem (Fl.nth ns k)).any (λp=>decide ((k:Int)<=p))=true:=by
         rw[I0.out,List.any_eq_true];exact⟨x,by rw[x0.out];exact Ur f0,by simpa using a1⟩
        simp[Fl.bad,h1]
       have HF:Hid (Fl.shaped ns=(k:Int)):=(by unfold Fl.shaped;rw[Fl.find_first _ _ k HN.out e0 b0];rfl);clear b0;go_wp2;go_ret;exact⟨Vc HF.out.symm,l0⟩
      go_wp2
      go_round
      case rel=>exact⟨j+1,by omega,by go_num,λt ht=>by
       by_cases h:t<j
       ·exact B0.out t h
       have:t=j:=by omega
       subst this;rw[<-x0.out];omega⟩
      case measure=>simp[intOf];omega
     have s0:(prem (Fl.nth ns k)).any (λp=>decide ((k:Int)<=p))=false:=by
      rw[I0.out,List.any_eq_false];intro x hx;obtain⟨i,hi,rfl⟩:=List.getElem_of_mem hx;have:=B0.out i (by omega);rw[Qa,Qb hi]at this;simpa using this
     have b1:=Zz s0;clear s0 B0 r0;go_wp2
     go_loopw [7] (λi wr=>∃j:Nat,j<=k/\i=Iq j/\(∀t,t<j->Fl.eqNode (Fl.nth ns t) (Fl.nth ns k)=false)/\Bq w wr) (λi _=>k - (intOf i).toNat)
     case atStart=>exact⟨0,by omega,rfl,λt ht=>by omega,l0⟩
     case round=>
      clear l0;obtain⟨i,hi,rfl,K0,n0⟩:=hrel;have L0:=Zz K0;clear K0;have M0:=n0.size
      by_cases c1:i<k
      ·obtain⟨_,li,i0,i1,i2,i3,i4,i5,i6⟩:=(HX.out.below (n0.mono hB)).at (show i<ns.length from by omega)
       obtain⟨_,lk,k0,k1,k2,k3,k4,k5,k6⟩:=(HX.out.below (n0.mono hB)).at e0
       have HE:Hid (∀wz,Below B wr wz->Cq 65 #[Ju (Fl.nth ns i) li,Ju (Fl.nth ns k) lk] wz λe w'=>e=.returned (.bool (Fl.eqNode (Fl.nth ns i) (Fl.nth ns k)))/\Bq wz w'):=
        λwz hz=>zg9 _ _ _ _ B _ (by have:=hz.size;omega) (i0.below hz) (k0.below hz)
       clear i0 k0;have n1:(i:Int)<(k:Int):=(by omega);have o1:(i:Int)<(ns.length:Int):=(by omega);have d1:(k:Int)<(ns.length:Int):=(by omega)
       by_cases t0:Fl.eqNode (Fl.nth ns i) (Fl.nth ns k)=true
       ·rw[t0]at HE
        have b0:Fl.bad ns k=true:=by
         have h2:(List.range k).any (λi=>Fl.eqNode (Fl.nth ns i) (Fl.nth ns k))=true:=by
          rw[List.any_eq_true];exact⟨i,by simpa using c1,t0⟩
         simp[Fl.bad,h2]
        have HF:Hid (Fl.shaped ns=(k:Int)):=(by unfold Fl.shaped;rw[Fl.find_first _ _ k HN.out e0 b0];rfl);clear b0 t0
        go_wp2_with fail
        go_region_with (go_at_call 65;refine(HE.out _ dA).mono ?_;rintro e w4 ⟨rfl,g0⟩)
        all_goals
         go_wp2;go_ret;exact⟨Vc HF.out.symm,n0.trans (dA.trans (g0.mono M0))⟩
       have heq':Fl.eqNode (Fl.nth ns i) (Fl.nth ns k)=false:=(by simpa using t0);rw[heq']at HE;have e1:=Zz heq';clear t0 heq'
       go_wp2_with fail
       go_region_with (go_at_call 65;refine(HE.out _ dA).mono ?_;rintro e w4 ⟨rfl,g0⟩)
       all_goals
        go_wp2
        go_roundw
        case rel=>exact⟨i+1,by omega,by go_num,λt ht=>by
         by_cases h:t<i
         ·exact L0.out t h
         have:t=i:=by omega
         subst this;exact e1.out,n0.trans (dA.trans (g0.mono M0))⟩
        case measure=>simp[intOf];omega
      have b0:Fl.bad ns k=false:=by
       have h2:(List.range k).any (λi=>Fl.eqNode (Fl.nth ns i) (Fl.nth ns k))=false:=by
        rw[List.any_eq_false];intro x hx;rw[L0.out x (by simp at hx;omega)];simp
       simp[Fl.bad,X0.out,b1.out,h2]
      have f1:=Zz b0;clear b0;go_wp2
      go_roundw
      case rel=>exact⟨k+1,by omega,by go_num,λj hj=>by
       by_cases h:j<k
       ·exact HN.out j h
       have:j=k:=by omega
       subst this;exact f1.out,n0⟩
      case measure=>simp[intOf];omega
   have D0:Fl.sound (Fl.nth ns k)=false:=(by simpa using p0);rw[D0];have b0:Fl.bad ns k=true:=(by simp[Fl.bad,D0]);have c0:Fl.shaped ns=(k:Int):=(by unfold Fl.shaped;rw[Fl.find_first _ _ k HN.out e0 b0]);have HF:=Zz c0;clear p0 D0 b0 c0;go_wp2;go_ret;exact⟨Vc HF.out.symm,d0⟩
  have j0:(List.range ns.length).find? (Fl.bad ns)=none:=Fl.find_none _ _ (λj hj=>HN.out j (by omega));have N0:=Zz j0;clear j0 HN;go_wp2
  go_loopw [9] (λi wr=>∃k:Nat,(k=0\/k+1<=ns.length)/\i=Iq k/\(∀j,j<k->(!Fl.used ns j)=false)/\Bq w wr) (λi _=>ns.length - (intOf i).toNat)
  case atStart=>exact⟨0,Or.inl rfl,rfl,λj hj=>by omega,m0⟩
  case round=>
   clear m0 hk e0;rename_i kk0 _ _;obtain⟨k2,p1,rfl,v0,g0⟩:=hrel;have E0:=Zz v0;clear v0;have q1:=g0.size
   by_cases d1:(k2:Int)<(ns.length:Int) - 1
   ·go_wp2
    go_loopw [10,11] (λu i wr=>∃j:Nat,k2<j/\j<=ns.length/\i=Iq j/\u=.bool (zzx ns k2 j)/\Bq w wr) (λ_ i _=>ns.length - (intOf i).toNat)
    case atStart=>exact⟨k2+1,by omega,by omega,by go_num,by rw[zc7],g0⟩
    case round=>
     clear g0;obtain⟨j,g1,r1,rfl,rfl,o0⟩:=hrel;have j1:=o0.size
     by_cases f0:j<ns.length
     ·obtain⟨b,off,rfl⟩:∃b off,ao=some (Aq b off):=by
       obtain⟨ao',cap',hv',_,_,hx'⟩:=HX.out;obtain⟨b,off,ha,_⟩:=hx' (by intro h;rw[h]at f0;simp at f0);simp only[Value.slice.injEq]at hv';exact⟨b,off,hv'.1.trans ha⟩
      obtain⟨V0,lv,h0,h1,h2,h3,h4,h5,h6⟩:=(HX.out.below (o0.mono hB)).at f0;have HP:Hid (Cq 64 #[Ju (Fl.nth ns j) lv] wr λe w'=>∃v,e=.returned v/\Zw w'.heap.size w' v (prem (Fl.nth ns j))/\Bq wr w'):=zo5 _ _ B _ (by omega) h0;clear h0;have Z0:(j:Int)<(ns.length:Int):=(by omega);have v0:zzx ns k2 (j+1)=(zzx ns k2 j||(prem (Fl.nth ns j)).any (·==(k2:Int))):=yy1 ns k2 j g1;generalize hu0:zzx ns k2 j=u0 at*
      go_wp2_with fail
      refine(HP.out).mono ?_;rintro e w6 ⟨pv,rfl,z0,O0⟩;clear HP h1 h2 h3 h4 h5 h6 hu0;have F0:Bq w w6:=o0.trans (O0.mono j1);obtain⟨pao,pcap,rfl,_,A0,q0⟩:=z0;generalize hps:prem (Fl.nth ns j)=ps at*;have l1:=Zz v0;have r0:=Zz q0;clear hps q0 O0 o0 v0;unfold maxLen at A0;go_wp2
      go_loop [10,13] (λu i=>∃t:Nat,t<=ps.length/\i=Iq t/\u=.bool (u0||(ps.take t).any (·==(k2:Int)))) (λ_ i=>ps.length - (intOf i).toNat)
      case atStart=>exact⟨0,by omega,rfl,by simp⟩
      case round=>
       obtain⟨t,ht,rfl,rfl⟩:=hrel
       by_cases y0:t<ps.length
       ·obtain⟨pb,po,rfl,Y0,a0⟩:=r0.out (by intro h;rw[h]at y0;simp at y0)
        have C0:=a0 t y0;have P0:(ps.take (t+1)).any (·==(k2:Int))=((ps.take t).any (·==(k2:Int))||(ps.getD t 0==(k2:Int))):=by
         rw[Fl.take_snocI _ t y0,List.any_append];simp
        have Q0:=Zz P0;obtain⟨x,hx⟩:=nmE (ps.getD t 0);rw[<-hx]at C0;have x0:=Zz hx;have s1:(t:Int)<(ps.length:Int):=(by omega);clear a0 hx P0;generalize hac:(u0||(ps.take t).any (·==(k2:Int)))=acc at*;have R0:=Zz hac;clear hac
        cases acc
        ·go_wp2
         go_round
         case rel=>exact⟨t+1,by omega,by go_num,by rw[Q0.out,<-Bool.or_assoc,R0.out,<-x0.out];simp⟩
         case measure=>simp[intOf];omega
        go_wp2
        go_round
        case rel=>exact⟨t+1,by omega,by go_num,by rw[Q0.out,<-Bool.or_assoc,R0.out];simp⟩
        case measure=>simp[intOf];omega
       have hall:ps.take t=ps:=List.take_of_length_le (by omega);have m1:=Zz hall;clear hall r0;go_wp2
       go_roundw
       case rel=>exact⟨j+1,by omega,by omega,by go_num,by rw[l1.out,m1.out],F0⟩
       case measure=>simp[intOf];omega
     have S0:zzx ns k2 j=Fl.used ns k2:=(by rw[show j=ns.length by omega];rfl);generalize hu0:zzx ns k2 j=u0 at*;have T0:=Zz S0;clear S0 hu0
     cases u0
     ·have c0:Fl.shaped ns=(k2:Int):=by
       unfold Fl.shaped;rw[N0.out];simp only;rw[Fl.find_first (λk=> !Fl.used ns k) _ k2 E0.out (by omega) (by rw[<-T0.out];rfl)]
      have HF:=Zz c0;clear c0;go_wp2;go_ret;exact⟨Vc HF.out.symm,o0⟩
     go_wp2
     go_roundw
     case rel=>exact⟨k2+1,Or.inr (by omega),by go_num,λj hj=>by
      by_cases h:j<k2
      ·exact E0.out j h
      have:j=k2:=by omega
      subst this;rw[<-T0.out];rfl,o0⟩
     case measure=>simp[intOf];omega
   have c0:Fl.shaped ns= -1:=by
    unfold Fl.shaped;rw[N0.out];simp only;rw[Fl.find_none (λk=> !Fl.used ns k) _ (λj hj=>E0.out j (by omega))]
   have HF:=Zz c0;clear c0;go_wp2;go_ret;exact⟨Vc HF.out.symm,g0⟩
def Uu(nd:Fl.Node):List Value:=[.int .i64 nd.kind,.int .i64 nd.level,.int .i64 nd.a,.int .i64 nd.b,.int .i64 nd.c,.int .i64 nd.list.length]
def zw4(nd:Fl.Node):List Value:=Uu nd++List.replicate 16 (Value.int .i64 0)
def Yo(nd:Fl.Node):List Value:=Uu nd++(nd.list.map (Value.int .i64)++List.replicate (16 - nd.list.length) (Value.int .i64 0))
def zzw(nd:Fl.Node)(h:nd.list.length<=16):(Yo nd).length=22:=by simp[Yo,Uu];omega
def zc8(nd:Fl.Node):(Yo nd).toArray.all (·.oneCell')=true:=by
 rw[List.all_toArray,List.all_eq_true];intro x hx;simp only[Yo,Uu,List.mem_append,List.mem_cons,List.mem_map,List.mem_replicate,List.not_mem_nil,or_false]at hx;rcases hx with(rfl|rfl|rfl|rfl|rfl|rfl)|⟨y,_,rfl⟩|⟨_,rfl⟩<;>rfl
def zh1(nd:Fl.Node):splice (zw4 nd) 6 (nd.list.map (Value.int .i64))=Yo nd:=by
 unfold splice zw4 Yo;have h6:(Uu nd).length=6:=rfl;rw[List.take_left' h6,List.drop_append,List.drop_of_length_le (by rw[h6];simp),List.nil_append,List.drop_replicate,h6];simp
def Tryz.infoInt1:(Tryz.prog.info? 3).map (·.size)=some 1:=by kernel_rfl
def Tryz.infoContent:(Tryz.prog.info? 264).map (·.size)=some 22:=by kernel_rfl
def zp2{nb no:Nat}{nd:Fl.Node}(h:Vm w nb no nd lv)(u0:nd.list.length<=16):
  Calls prog 145 #[.pointer (some ⟨nb,no,none⟩)] w λe w'=>e=.returned (.agg (Yo nd).toArray)/\Below w.heap.size w w':=by
 obtain⟨ao,cap,rfl,z0,hm,hx⟩:=id h.hl;have HX:=Zz hx;clear hx;unfold maxLen at hm;have i0:nb<w.heap.size:=Qe w _ h.c0;have H5:=Zz h.c5
 have a0:∀o,(w.alloc o).cell? ⟨nb,no,none⟩=some (.int .i64 nd.kind):=λo=>by rw[World.cell?_alloc_past _ _ _ i0];exact h.c0
 have a1:∀o,(w.alloc o).cell? ⟨nb,no+1,none⟩=some (.int .i64 nd.level):=λo=>by rw[World.cell?_alloc_past _ _ _ i0];exact h.c1
 have a2:∀o,(w.alloc o).cell? ⟨nb,no+2,none⟩=some (.int .i64 nd.a):=λo=>by rw[World.cell?_alloc_past _ _ _ i0];exact h.c2
 have a3:∀o,(w.alloc o).cell? ⟨nb,no+3,none⟩=some (.int .i64 nd.b):=λo=>by rw[World.cell?_alloc_past _ _ _ i0];exact h.c3
 have a4:∀o,(w.alloc o).cell? ⟨nb,no+4,none⟩=some (.int .i64 nd.c):=λo=>by rw[World.cell?_alloc_past _ _ _ i0];exact h.c4
 have a5:∀o,(w.alloc o).cell? ⟨nb,no+5,none⟩=some (.slice ao nd.list.length cap):=λo=>by rw[World.cell?_alloc_past _ _ _ i0];exact h.c5
 clear h
 go_enter func145,ntmps145
 go_wp2_with fail
 obtain⟨W0,e0⟩:=nmE (w.alloc (.cells #[.int .i64 0,.int .i64 0,.int .i64 0,.int .i64 0,.int .i64 0,.int .i64 0,.int .i64 0,.int .i64 0,.int .i64 0,.int .i64 0,.int .i64 0,.int .i64 0,.int .i64 0,.int .i64 0,.int .i64 0,.int .i64 0,.int .i64 0,.int .i64 0,.int .i64 0,.int .i64 0,.int .i64 0,.int .i64 0] 264));rw[<-e0]
 have d0:nb<W0.heap.size:=by rw[e0];simp;omega
 have b0:W0.cell? ⟨nb,no,none⟩=some (.int .i64 nd.kind):=by rw[e0];exact a0 _
 have b1:W0.cell? ⟨nb,no+1,none⟩=some (.int .i64 nd.level):=by rw[e0];exact a1 _
 have b2:W0.cell? ⟨nb,no+2,none⟩=some (.int .i64 nd.a):=by rw[e0];exact a2 _
 have b3:W0.cell? ⟨nb,no+3,none⟩=some (.int .i64 nd.b):=by rw[e0];exact a3 _
 have b4:W0.cell? ⟨nb,no+4,none⟩=some (.int .i64 nd.c):=by rw[e0];exact a4 _
 have b5:W0.cell? ⟨nb,no+5,none⟩=some (.slice ao nd.list.length cap):=by rw[e0];exact a5 _
 have p0:=Zz e0;clear e0 a0 a1 a2 a3 a4 a5;obtain⟨S,hS⟩:=nmE (α:=World->Prop) (λw'=>w'.cell? ⟨nb,no,none⟩=some (.int .i64 nd.kind)/\w'.cell? ⟨nb,no+1,none⟩=some (.int .i64 nd.level)/\w'.cell? ⟨nb,no+2,none⟩=some (.int .i64 nd.a)/\w'.cell? ⟨nb,no+3,none⟩=some (.int .i64 nd.b)/\w'.cell? ⟨nb,no+4,none⟩=some (.int .i64 nd.c)/\w'.cell? ⟨nb,no+5,none⟩=some (.slice ao nd.list.length cap))
 have HS:Hid (∀w',S w'->w'.cell? ⟨nb,no,none⟩=some (.int .i64 nd.kind)/\w'.cell? ⟨nb,no+1,none⟩=some (.int .i64 nd.level)/\w'.cell? ⟨nb,no+2,none⟩=some (.int .i64 nd.a)/\w'.cell? ⟨nb,no+3,none⟩=some (.int .i64 nd.b)/\w'.cell? ⟨nb,no+4,none⟩=some (.int .i64 nd.c)/\w'.cell? ⟨nb,no+5,none⟩=some (.slice ao nd.list.length cap)):=λw' h=>by rw[hS]at h;exact h
 have q0:Hid (∀o,S (W0.drew.alloc o)):=λo=>by
  have d0:nb<W0.drew.heap.size:=d0;rw[hS];exact⟨(World.cell?_alloc_past _ _ _ d0).trans b0,(World.cell?_alloc_past _ _ _ d0).trans b1,(World.cell?_alloc_past _ _ _ d0).trans b2,(World.cell?_alloc_past _ _ _ d0).trans b3,(World.cell?_alloc_past _ _ _ d0).trans b4,(World.cell?_alloc_past _ _ _ d0).trans b5⟩
 refine zk3 (S:=S) 26 (by kernel_rfl) (by kernel_rfl) rfl (λc a d v w h=>by cases d<;>exact h) _ _ rfl rfl rfl rfl (by rw[hS];exact⟨b0,b1,b2,b3,b4,b5⟩) ?_;clear hS;simp only[List.take_succ_cons,List.take_zero];refine yz8 (λL HL=>?_)
 repeat refine yz7 rfl (kE (by intro w' hw;obtain⟨s0,s1,s2,s3,s4,s5⟩:=HS.out w' hw;go_simp<;>rfl) (by go_simp<;>rfl) ?_)
 refine HL.out _ ⟨.pointer (some ⟨W0.drew.heap.size,0,none⟩),W0.drew.alloc (.cells #[.int .i64 0,.int .i64 0,.int .i64 0,.int .i64 0,.int .i64 0,.int .i64 0,.int .i64 0,.int .i64 0,.int .i64 0,.int .i64 0,.int .i64 0,.int .i64 0,.int .i64 0,.int .i64 0,.int .i64 0,.int .i64 0,.int .i64 0,.int .i64 0,.int .i64 0,.int .i64 0,.int .i64 0,.int .i64 0] 264),W0.drew.alloc (.cells #[.int .i64 nd.kind,.int .i64 nd.level,.int .i64 nd.a,.int .i64 nd.b,.int .i64 nd.c,.int .i64 nd.list.length,.int .i64 0,.int .i64 0,.int .i64 0,.int .i64 0,.int .i64 0,.int .i64 0,.int .i64 0,.int .i64 0,.int .i64 0,.int .i64 0,.int .i64 0,.int .i64 0,.int .i64 0,.int .i64 0,.int .i64 0,.int .i64 0] 264),by kernel_rfl,q0.out _,zix _ _ 264 rfl _ _ _ rfl rfl Tryz.infoContent rfl (by kernel_rfl),q0.out _,?_⟩;clear HL;obtain⟨W1,l0⟩:=nmE (W0.drew.alloc (.cells #[.int .i64 nd.kind,.int .i64 nd.level,.int .i64 nd.a,.int .i64 nd.b,.int .i64 nd.c,.int .i64 nd.list.length,.int .i64 0,.int .i64 0,.int .i64 0,.int .i64 0,.int .i64 0,.int .i64 0,.int .i64 0,.int .i64 0,.int .i64 0,.int .i64 0,.int .i64 0,.int .i64 0,.int .i64 0,.int .i64 0,.int .i64 0,.int .i64 0] 264));rw[<-l0]
 have hC:W0.drew.heap.size=w.heap.size+1:=by rw[p0.out];simp
 rw[hC]
 have m0:W1.heap[w.heap.size+1]?=some (.cells (zw4 nd).toArray 264 (0,0)):=by rw[l0,<-hC];exact heap_alloc_last _ _
 have f0:W1.heap[w.heap.size]?=some (.cells (List.replicate 22 (Value.int .i64 0)).toArray 264 (0,0)):=by
  rw[l0,Below.heap_alloc _ _ _ (by rw[hC];omega)];show W0.heap[w.heap.size]?=_;rw[p0.out];exact heap_alloc_last _ _
 have j0:Below w.heap.size w W1:=by
  rw[l0];refine Below.alloc ?_ (by rw[hC];omega) _;rw[p0.out];exact(bA).drew
 have k5:W1.cell? ⟨nb,no+5,none⟩=some (.slice ao nd.list.length cap):=(j0.cell (p:=⟨nb,no+5,none⟩) i0).trans H5.out;have n0:=Zz m0;have g0:=Zz f0;have k0:=Zz j0;clear l0 m0 f0 j0 hC b0 b1 b2 b3 b4 b5 HS q0 p0 d0
 go_wp2_with fail
 go_still_tail 6,(by kernel_rfl)
 refine wpList_copy_splice rfl (.tmp 31) (.tmp 35) 27 27 rfl 3 underlying27 Tryz.infoInt1 _ _ _ _ _ _ rfl rfl (w.heap.size+1) 6 (zw4 nd) 264 n0.out (nd.list.map (Value.int .i64)) ?hn ?hpos ?hfit ?h1 (w.heap.size+1) W1 ?hb ?hBg ?_
 case hn=>simp only[List.length_map];show nd.list.length=min nd.list.length 16;omega
 case hpos=>
  intro hpos;refine⟨rfl,?_⟩;obtain⟨bb,off,A0,B0,o0⟩:=HX.out (by intro h0;rw[h0]at hpos;simp at hpos);refine⟨_,A0,λj u hj=>?_⟩;have hj':j<nd.list.length:=(by have:=(List.getElem?_eq_some_iff.1 hj).1;simpa using this)
  have h2:(⟨bb,off,none⟩:Addr).add j=⟨bb,off+j,none⟩:=by unfold Addr.add;split<;>simp_all
  rw[h2];have h3:W1.cell? ⟨bb,off+j,none⟩=some u:=by
   rw[k0.out.cell (p:=⟨bb,off+j,none⟩) B0,o0 j hj'];rw[List.getElem?_map,Qb hj']at hj;simp only[Option.map_some,Option.some.injEq]at hj;rw[<-hj,Qa,Qb hj'];rfl
  exact h3
 case hfit=>simp only[zw4,Uu,List.length_append,List.length_map,List.length_replicate,List.length_cons,List.length_nil];omega
 case h1=>intro u hu;obtain⟨y,_,rfl⟩:=List.mem_map.1 hu;rfl
 case hb=>exact(Below.refl _ _).drew
 case hBg=>omega
 intro w2 v0 r0
 have hg2':w2.heap[w.heap.size+1]?=some (.cells (Yo nd).toArray 264 (0,0)):=by rw[v0.out,zh1]
 have x0:w2.heap[w.heap.size]?=some (.cells (List.replicate 22 (Value.int .i64 0)).toArray 264 (0,0)):=(r0.block _ (by omega)).trans g0.out;have HG:=Zz hg2';have y0:=Zz x0;have C0:Hid (Below w.heap.size w w2):=k0.out.trans (r0.mono (by omega));have HI:Hid ((prog.info? 264).map (·.size)=some (Yo nd).toArray.size):=by
  show _=_;rw[Tryz.infoContent];simp only[List.size_toArray,zzw nd u0]
 clear v0 hg2' x0 r0 n0 g0 k0 HX H5 k5;generalize hcl:(Yo nd).toArray=cl at*
 have t0:Hid (cl.all (·.oneCell')=true):=by show _=_;rw[<-hcl];exact zc8 nd
 have D0:Hid ((List.replicate 22 (Value.int .i64 0)).toArray.size=cl.size):=by show _=_;rw[<-hcl];simp only[List.size_toArray,List.length_replicate,zzw nd u0]
 have E0:=Zz hcl;clear hcl
 go_wp2_with (first|(refine zty rfl _ 264 rfl _ rfl cl _ _ HG.out _ underlying264 rfl HI.out ?_)|(refine Xy rfl _ _ 264 rfl _ rfl _ cl rfl _ y0.out HI.out D0.out t0.out ?_))
 refine bodyPost_ret (v:=.agg cl) ?_ rfl ⟨by rw[E0.out],below_setRow C0.out (Nat.le_refl _) _⟩;exact zp1 (p:=2) (ty:=264) results145 _ _ ⟨w.heap.size,0,none⟩ _ rfl (run_loadVar_row _ _ _ _ cl _ _ (setRow_heap _ _ _ _ _ _ y0.out) underlying264 rfl HI.out)
open Go.Maps Go.WideMaps
def Tryz.laidOut:laidOutB Tryz.prog=true:=by kernel_rfl
def yu0:(264:TypeId)<prog.types.size:=of_decide_eq_true (by kernel_rfl)
def yy3:(match prog.underlying 264 with|some (.array _ _)|some (.struct _)=>true|_=>false)=true:=by rw[underlying264]
def Ux:Keyed prog 264:=Keyed.of_law (deep_law_laid Tryz.laidOut (m:=4) (by omega) yu0 (by kernel_rfl) yy3)
def zh2{α β:Type}{f:α->Option β}:∀(l:List α),(∀x∈l,∃y,f x=some y)->∃ys,l.mapM f=some ys
 |[],_=>⟨[],rfl⟩
 |x::l,h=>by
  obtain⟨y,hy⟩:=h x (by simp);obtain⟨ys,a0⟩:=zh2 l (λz hz=>h z (by simp[hz]));exact⟨y::ys,by simp[List.mapM_cons,hy,a0]⟩
def map_ex{α:Type}{f:α->Option (List Lit)}{l:List α}(h:∃ys,l.mapM f=some ys):∃y,Option.map List.flatten (l.mapM f)=some y:=by
 obtain⟨ys,a0⟩:=h;exact⟨ys.flatten,by rw[a0];rfl⟩
def zc9{l:List Value}(h:i<l.length):(l.drop i).take 1=[l[i]]:=by
 rw[List.drop_eq_getElem_cons h];rfl
def zj2(cs:List Value):Prop:=∀v∈cs,∃x:Int,v=.int .i64 x/\(Lit.int .i64 x).wf=true
def yq6(d:Nat){v:Value}(h:∃x:Int,v=.int .i64 x/\(Lit.int .i64 x).wf=true):∃y,prog.keyLits (d+1) 3 [v]=some y:=by
 obtain⟨x,rfl,hw⟩:=h;exact⟨[.int .i64 x],by simp[Program.keyLits,underlying3,hw]⟩
def zcz:prog.cellsOf 3=1:=by kernel_rfl
def zcy:prog.cellsOf 262=16:=by kernel_rfl
def zo6:prog.cellsOf 264=22:=by kernel_rfl
def keyArr(d:Nat)(hl:cs.length=16)(h:zj2 cs):∃y,prog.keyLits (d+2) 262 cs=some y:=by
 have hm:∃ys,(List.range 16).mapM (λi=>prog.keyLits (d+1) 3 ((cs.drop (i*prog.cellsOf 3)).take (prog.cellsOf 3)))=some ys:=by
  refine zh2 _ (λi hi=>?_);rw[zcz,Nat.mul_one,zc9 (by simp at hi;omega)];exact yq6 d (h _ (List.getElem_mem _))
 obtain⟨ys,a0⟩:=hm;refine⟨ys.flatten,?_⟩;unfold Program.keyLits;simp only[underlying262,zcy,hl,if_true,a0,Option.map_some]
def yu1(d:Nat)(hl:cs.length=22)(h:zj2 cs):∃y,prog.keyLits (d+3) 264 cs=some y:=by
 unfold Program.keyLits;simp only[underlying264,zo6,hl];rw[if_pos ⟨trivial,by kernel_rfl⟩]
 have q:∀i,i<6->∃y,prog.keyLits (d+2) 3 (List.take (prog.cellsOf 3) (List.drop i cs))=some y:=λi hi=>by
  rw[zcz,zc9 (by omega)];exact yq6 (d+1) (h _ (List.getElem_mem _))
 have qa:∃y,prog.keyLits (d+2) 262 (List.take (prog.cellsOf 262) (List.drop 6 cs))=some y:=by
  rw[zcy];exact keyArr d (by simp;omega) (λv hv=>h v (List.mem_of_mem_drop (List.mem_of_mem_take hv)))
 refine map_ex (zh2 _ (λf hf=>?_));simp only[List.mem_cons,List.not_mem_nil,or_false]at hf;rcases hf with rfl|rfl|rfl|rfl|rfl|rfl|rfl
 ·exact q 0 (by omega)
 ·exact q 1 (by omega)
 ·exact q 2 (by omega)
 ·exact q 3 (by omega)
 ·exact q 4 (by omega)
 ·exact q 5 (by omega)
 exact qa
def yq7:3<=prog.types.size+1:=of_decide_eq_true (by kernel_rfl)
def key_ex(hl:cs.length=22)(h:zj2 cs):∃kl,keyOf prog 264 (.agg cs.toArray)=some kl:=by
 obtain⟨d,hd⟩:∃d,prog.types.size+1=d+3:=⟨prog.types.size+1 - 3,by have:=yq7;omega⟩;obtain⟨y,hy⟩:=yu1 d hl h
 have hf:(Value.agg cs.toArray).formed prog 264=true:=by simp[Value.formed,underlying264,zo6,hl]
 have hk:prog.keyType 264=true:=by kernel_rfl
 refine⟨.string (keyBytes y),?_⟩;unfold keyOf;rw[underlying264];simp only[hf,hk,Bool.and_self,if_true,Value.cells,hd,hy,Option.map_some]
namespace Fl
def fits(nd:Node):Prop:=inR nd.kind=true/\inR nd.level=true/\inR nd.a=true/\inR nd.b=true/\inR nd.c=true/\nd.list.length<=16/\nd.list.all inR=true
end Fl
def zsv{x:Int}(h:Fl.inR x=true):(Lit.int .i64 x).wf=true:=by
 simp only[Fl.inR,Bool.and_eq_true,decide_eq_true_eq]at h;exact WalkArith.wf_i64 (by omega)
def yy4{nd:Fl.Node}(h:Fl.fits nd):zj2 (Yo nd):=by
 obtain⟨h0,h1,h2,h3,h4,h5,h6⟩:=h;intro v hv;simp only[Yo,Uu,List.mem_append,List.mem_cons,List.mem_map,List.mem_replicate,List.not_mem_nil,or_false]at hv;rcases hv with(rfl|rfl|rfl|rfl|rfl|rfl)|⟨y,hy,rfl⟩|⟨_,rfl⟩
 ·exact⟨_,rfl,zsv h0⟩
 ·exact⟨_,rfl,zsv h1⟩
 ·exact⟨_,rfl,zsv h2⟩
 ·exact⟨_,rfl,zsv h3⟩
 ·exact⟨_,rfl,zsv h4⟩
 ·exact⟨_,rfl,WalkArith.wf_i64 (by omega)⟩
 ·exact⟨_,rfl,zsv (List.all_eq_true.1 h6 y hy)⟩
 exact⟨_,rfl,WalkArith.wf_i64 (by omega)⟩
def Ul(P:Program)(nd:Fl.Node):Lit:=(keyOf P 264 (.agg (Yo nd).toArray)).getD .nil
def zq1{nd:Fl.Node}(h:Fl.fits nd):keyOf prog 264 (.agg (Yo nd).toArray)=some (Ul prog nd):=by
 obtain⟨kl,hk⟩:=key_ex (zzw nd h.2.2.2.2.2.1) (yy4 h);unfold Ul;rw[hk];rfl
def zcx(h:Yo x=Yo y):x=y:=by
 unfold Yo at h;have h1:=List.append_inj_left h rfl;have h2:=List.append_inj_right h rfl;obtain⟨xk,xl,xa,xb,xc,xs⟩:=x;obtain⟨yk,yl,ya,yb,yc,ys⟩:=y;simp only[Uu,List.cons.injEq,Value.int.injEq,true_and,and_true]at h1;obtain⟨rfl,rfl,rfl,rfl,rfl,hn⟩:=h1
 have hn':xs.length=ys.length:=by omega
 have h3:=List.append_inj_left h2 (by simpa using hn');have h4:xs=ys:=by
  simp only at h3;exact(List.map_inj_right (λa b a0=>by injection a0)).1 h3
 rw[h4]
def zo7(hx:Fl.fits x)(hy:Fl.fits y)(h:Ul prog x=Ul prog y):x=y:=by
 have h1:=zq1 hx;rw[h]at h1;have:=Ux.inj h1 (zq1 hy);simp only[Value.agg.injEq]at this;exact zcx (by have:=congrArg Array.toList this;simpa using this)
def zo8(w:World)(T B:Nat)(seen:List Fl.Node):Prop:=
 w.cell? ⟨T,0,none⟩=some (.map (some B))/\∃n D,n<=seen.length/\w.ownsMap (H:=Unit) prog 264 (plainElem prog 3) B n D/\∀nd,Fl.fits nd->(Maps.has D (Ul prog nd)=true ↔ nd∈seen)
def zo8.kept{w w':World}{T B:Nat}{seen:List Fl.Node}(h:zo8 w T B seen){row:Option Nat}(g:w.grownBy w' row)(hT:some T≠row)(hB:some B≠row):zo8 w' T B seen:=by
 obtain⟨h1,n,D,h2,h3,h4⟩:=h;exact⟨g.cell h1 hT,n,D,h2,h3.kept g hB,h4⟩
def yw1(w:World):(zeroValue 3).run prog w=.ok (.int .i64 0) w:=by kernel_rfl
def ym5(w:World):Calls prog 139 #[] w λe w'=>e=.returned (.pointer (some ⟨w.heap.size+1,0,none⟩))/\zo8 w' (w.heap.size+1) w.heap.size []/\Below w.heap.size w w'/\w'.heap.size=w.heap.size+2:=by
 have a0:= @run_makeMap prog
 go_enter func139,ntmps139
 go_wp2;go_ret;refine⟨rfl,⟨?_,0,.map [],Nat.le_refl _,(World.ownsMap_made w _ _ _).alloc _,λnd _=>?_⟩,?_,?_⟩
 ·simp
 ·simp[Maps.has]
 ·exact((bA).alloc (by simp) _)
 simp
def ym6{seen:List Fl.Node}{nd:Fl.Node}(h:zo8 w T B seen)(hf:Fl.fits nd)(hn:seen.length<=1000000):
  Calls prog 144 #[.pointer (some ⟨T,0,none⟩),.agg (Yo nd).toArray] w λe w'=>∃(c:Int) (t:Bool),e=.returned (.tuple #[.int .i64 c,.bool (!t)])/\(t=true ↔ nd∈seen)/\zo8 w' T B (nd::seen)/\w.grownBy w' (some B):=by
 obtain⟨hT,n,D,C0,d0,hD⟩:=h;have i0:=zq1 hf;have HI:Hid ((prog.info? 264).map (·.size)=some (Yo nd).toArray.size):=by
  show _=_;rw[Tryz.infoContent];simp only[List.size_toArray,zzw nd hf.2.2.2.2.2.1]
 generalize hcl:(Yo nd).toArray=cl at*;have u0:T<w.heap.size:=Qe w _ hT;have v0:=d0.lt;have HK:Hid (keyOf prog 264 (.agg cl)=some (Ul prog nd)):=i0;have HO:Hid (w.ownsMap (H:=Unit) prog 264 (plainElem prog 3) B n D):=d0;have k0:Hid (∀nd,Fl.fits nd->(Maps.has D (Ul prog nd)=true ↔ nd∈seen)):=hD;have HT:Hid (w.cell? ⟨T,0,none⟩=some (.map (some B))):=hT;clear i0 d0 hD hcl hT
 go_enter func144,ntmps144
 go_wp2_with fail
 obtain⟨W0,l0⟩:=nmE (w.alloc (.cells cl 264));rw[<-l0]
 have g0:w.grownBy W0 none:=by rw[l0];exact World.grownBy_alloc _ _ _
 have o0:W0.cell? ⟨T,0,none⟩=some (.map (some B)):=g0.cell HT.out (by simp);have a0:W0.ownsMap (H:=Unit) prog 264 (plainElem prog 3) B n D:=HO.out.kept g0 (by simp)
 have HX:Hid (W0.heap[w.heap.size]?=some (.cells cl 264 (0,0))):=by show _=_;rw[l0];exact heap_alloc_last _ _
 have p0:Hid (W0.ownsMap (H:=Unit) prog 264 (plainElem prog 3) B n D):=a0;have f0:Hid (w.grownBy W0 none):=g0;obtain⟨v,ps,n0,hv⟩:=a0.drew.look_ok Ux underlying326 (yw1 _) (zd:=.lit (.int .i64 0)) (zp:=[]) (plainElem_int underlying3 (by decide)) HK.out;obtain⟨c,rfl,hc,x0⟩:=plainElem_int_inv underlying3 hv;obtain⟨t,ht⟩:=nmE (Maps.has D (Ul prog nd));rw[<-ht]at n0;have q0:Hid ((Instr.lookup 326 (.map (some B)) (.agg cl) true).run prog W0.drew=.ok (.tuple #[.int .i64 c,.bool t]) W0.drew):=n0;have r0:Hid (t=Maps.has D (Ul prog nd)):=ht;clear l0 g0 a0 n0 hv hc x0 HO ht;refine wp_region_still_lit (by kernel_rfl) (by kernel_rfl) ?_
 iterate 4 still_step
 refine Xr rfl (.agg cl) (Jh _ 264 rfl w.heap.size rfl cl _ _ HX.out _ underlying264 rfl HI.out) ?_;refine Xr rfl (.tuple #[.int .i64 c,.bool t]) (Uh _ _ 326 rfl (.map (some B)) (.agg cl) _ rfl rfl q0.out) ?_
 repeat still_step
 refine wpStill_nil ?_;have m0:W0.drew.cell? ⟨T,0,none⟩=some (.map (some B)):=o0;have b0:Hid (w.grownBy W0.drew none):=⟨f0.out.os,f0.out.tape,f0.out.output,f0.out.size,f0.out.block⟩;have h0:Hid (W0.drew.ownsMap (H:=Unit) prog 264 (plainElem prog 3) B n D):=p0.out;have s0:Hid (W0.drew.heap[w.heap.size]?=some (.cells cl 264 (0,0))):=HX.out
 change Exit.then _ _ _ _ W0.drew
 generalize W0.drew=W1 at*;clear o0 f0 p0 HX q0
 cases t with
 |true=>
  have hmem:nd∈seen:=(k0.out nd hf).1 r0.out.symm;have j0:Hid (nd∈seen):=hmem;clear hmem;go_wp2
  go_ret2
  refine⟨c,true,rfl,⟨λ_=>j0.out,λ_=>rfl⟩,⟨m0,n,D,by simp;omega,h0.out,λnd' hf'=>?_⟩,⟨b0.out.os,b0.out.tape,b0.out.output,b0.out.size,λk hk _=>b0.out.block k hk (by simp)⟩⟩;rw[k0.out nd' hf',List.mem_cons];exact⟨λh=> .inr h,λh=>h.elim (λe=>by rw[e];exact j0.out) id⟩
 |false=>
  have hno:nd ∉ seen:=λh=>by have:=(k0.out nd hf).2 h;rw[<-r0.out]at this;cases this
  have y0:Hid (nd ∉ seen):=hno;have D0:=h0.out.size_le;clear hno
  go_wp2_with (at_len;refine wpList_len_own _ rfl _ 326 rfl 264 3 underlying326 _ B n D rfl h0.out ?_)
  refine wp_region_still_tail 6 (by kernel_rfl) (by kernel_rfl) ?_;simp only[List.take_succ_cons,List.take_zero,List.drop_succ_cons,List.drop_zero]
  iterate 4 still_step
  refine Xr rfl (.agg cl) (Jh _ 264 rfl w.heap.size rfl cl _ _ s0.out _ underlying264 rfl HI.out) ?_
  still_step
  refine wpStill_nil ?_;have t0:Hid (W1.drew.ownsMap (H:=Unit) prog 264 (plainElem prog 3) B n D):=h0.out;refine wpList_mapUpdate_own W1.drew rfl _ _ _ 326 rfl 264 3 Ux underlying326 _ B n D rfl t0.out (by unfold maxLen;omega) _ _ _ rfl rfl HK.out _ [] (plainElem_int underlying3 (WalkArith.wf_i64 (by omega))) ?_;intro w2 c0 e0;have z0:Hid (zo8 w2 T B (nd::seen)):=by
   refine⟨?_,n+1,_,by simp;omega,c0,λnd' hf'=>?_⟩
   ·have hTB:T≠B:=by
     intro e;obtain⟨es,clock,hb,_⟩:=h0.out;subst e;simp[World.cell?,hb]at m0
    exact e0.cell m0 (by simpa using hTB)
   by_cases he:nd'=nd
   ·subst he
    rw[Maps.has_put_same h0.out.isMap (Ux.key HK.out)];simp
   rw[Maps.has_put_other (λh=>he (zo7 hf' hf h)),k0.out nd' hf',List.mem_cons];exact⟨λh=> .inr h,λh=>h.elim (λe=>absurd e he) id⟩
  have A0:Hid (w.grownBy w2 (some B)):=⟨e0.os.trans b0.out.os,e0.tape.trans b0.out.tape,e0.output.trans b0.out.output,Nat.le_trans b0.out.size e0.size,λk hk B0=>(e0.block k (Nat.lt_of_lt_of_le hk b0.out.size) B0).trans (b0.out.block k hk (by simp))⟩;clear c0 e0 t0 m0 s0;go_wp2
  go_ret2
  exact⟨_,false,rfl,⟨λh=>(by cases h),λh=>absurd h y0.out⟩,z0.out,A0.out⟩
def Uf(w:World)(T B:Nat)(ws:List Fl.Node):Prop:=
 w.cell? ⟨T,0,none⟩=some (.map (some B))/\∃n D,n<=ws.length/\w.ownsMap (H:=Unit) prog 264 (plainElem prog 3) B n D/\Maps.size D=ws.length/\(∀nd,Fl.fits nd->(Maps.has D (Ul prog nd)=true ↔ nd∈ws))/\∀(i:Nat) (hi:i<ws.length),Fl.fits ws[i]/\∀z,D.atKey (Ul prog ws[i]) z=.lit (.int .i64 (i:Int))
def Uf.kept{w w':World}{T B:Nat}{ws:List Fl.Node}(h:Uf w T B ws){row:Option Nat}(g:w.grownBy w' row)(hT:some T≠row)(hB:some B≠row):Uf w' T B ws:=by
 obtain⟨h1,n,D,h2,h3,h4⟩:=h;exact⟨g.cell h1 hT,n,D,h2,h3.kept g hB,h4⟩
def yq8{nd:Fl.Node}(h:Uf w T B ws)(hf:Fl.fits nd)(hn:ws.length<=100000000):
  Calls prog 144 #[.pointer (some ⟨T,0,none⟩),.agg (Yo nd).toArray] w λe w'=>((∃(i:Nat) (hi:i<ws.length),ws[i]=nd/\e=.returned (.tuple #[.int .i64 (i:Int),.bool false])/\Uf w' T B ws)\/(nd ∉ ws/\e=.returned (.tuple #[.int .i64 (ws.length:Int),.bool true])/\Uf w' T B (ws++[nd])))/\w.grownBy w' (some B):=by
 obtain⟨hT,n,D,B0,e0,hsz,hD,t0⟩:=h;have o0:Hid (∀(i:Nat) (hi:i<ws.length),Fl.fits ws[i]/\∀z,D.atKey (Ul prog ws[i]) z=.lit (.int .i64 (i:Int))):=t0;have j0:Hid (Maps.size D=ws.length):=hsz;clear t0 hsz;have i0:=zq1 hf;have HI:Hid ((prog.info? 264).map (·.size)=some (Yo nd).toArray.size):=by
  show _=_;rw[Tryz.infoContent];simp only[List.size_toArray,zzw nd hf.2.2.2.2.2.1]
 generalize hcl:(Yo nd).toArray=cl at*;have C0:T<w.heap.size:=Qe w _ hT;have D0:=e0.lt;have HK:Hid (keyOf prog 264 (.agg cl)=some (Ul prog nd)):=i0;have HO:Hid (w.ownsMap (H:=Unit) prog 264 (plainElem prog 3) B n D):=e0;have k0:Hid (∀nd,Fl.fits nd->(Maps.has D (Ul prog nd)=true ↔ nd∈ws)):=hD;have HT:Hid (w.cell? ⟨T,0,none⟩=some (.map (some B))):=hT;clear i0 e0 hD hcl hT
 go_enter func144,ntmps144
 go_wp2_with fail
 obtain⟨W0,l0⟩:=nmE (w.alloc (.cells cl 264));rw[<-l0]
 have g0:w.grownBy W0 none:=by rw[l0];exact World.grownBy_alloc _ _ _
 have u0:W0.cell? ⟨T,0,none⟩=some (.map (some B)):=g0.cell HT.out (by simp);have a0:W0.ownsMap (H:=Unit) prog 264 (plainElem prog 3) B n D:=HO.out.kept g0 (by simp)
 have HX:Hid (W0.heap[w.heap.size]?=some (.cells cl 264 (0,0))):=by show _=_;rw[l0];exact heap_alloc_last _ _
 have v0:Hid (W0.ownsMap (H:=Unit) prog 264 (plainElem prog 3) B n D):=a0;have h0:Hid (w.grownBy W0 none):=g0;obtain⟨v,ps,p0,hv⟩:=a0.drew.look_ok Ux underlying326 (yw1 _) (zd:=.lit (.int .i64 0)) (zp:=[]) (plainElem_int underlying3 (by decide)) HK.out;obtain⟨c,rfl,hc,E0⟩:=plainElem_int_inv underlying3 hv;have F0:Hid (D.atKey (Ul prog nd) (.lit (.int .i64 0))=.lit (.int .i64 c)):=congrArg Prod.fst hc;obtain⟨t,ht⟩:=nmE (Maps.has D (Ul prog nd));rw[<-ht]at p0;have x0:Hid ((Instr.lookup 326 (.map (some B)) (.agg cl) true).run prog W0.drew=.ok (.tuple #[.int .i64 c,.bool t]) W0.drew):=p0;have q0:Hid (t=Maps.has D (Ul prog nd)):=ht;clear l0 g0 a0 p0 hv hc E0 HO ht;refine wp_region_still_lit (by kernel_rfl) (by kernel_rfl) ?_
 iterate 4 still_step
 refine Xr rfl (.agg cl) (Jh _ 264 rfl w.heap.size rfl cl _ _ HX.out _ underlying264 rfl HI.out) ?_;refine Xr rfl (.tuple #[.int .i64 c,.bool t]) (Uh _ _ 326 rfl (.map (some B)) (.agg cl) _ rfl rfl x0.out) ?_
 repeat still_step
 refine wpStill_nil ?_;have m0:W0.drew.cell? ⟨T,0,none⟩=some (.map (some B)):=u0;have b0:Hid (w.grownBy W0.drew none):=⟨h0.out.os,h0.out.tape,h0.out.output,h0.out.size,h0.out.block⟩;have c0:Hid (W0.drew.ownsMap (H:=Unit) prog 264 (plainElem prog 3) B n D):=v0.out;have y0:Hid (W0.drew.heap[w.heap.size]?=some (.cells cl 264 (0,0))):=HX.out
 change Exit.then _ _ _ _ W0.drew
 generalize W0.drew=W1 at*;clear u0 h0 v0 HX x0
 cases t with
 |true=>
  have hmem:nd∈ws:=(k0.out nd hf).1 q0.out.symm;have r0:Hid (nd∈ws):=hmem;clear hmem;go_wp2
  go_ret2
  obtain⟨i,hi,n0⟩:=List.getElem_of_mem r0.out;have G0:c=(i:Int):=by
   have h5:=(o0.out i hi).2 (.lit (.int .i64 0));rw[n0,F0.out]at h5;injection h5 with h5;injection h5
  exact⟨.inl ⟨i,hi,n0,by rw[G0];rfl,⟨m0,n,D,B0,c0.out,j0.out,k0.out,o0.out⟩⟩,⟨b0.out.os,b0.out.tape,b0.out.output,b0.out.size,λk hk _=>b0.out.block k hk (by simp)⟩⟩
 |false=>
  have hno:nd ∉ ws:=λh=>by have:=(k0.out nd hf).2 h;rw[<-q0.out]at this;cases this
  have z0:Hid (nd ∉ ws):=hno;have K0:=c0.out.size_le;clear hno
  go_wp2_with (at_len;refine wpList_len_own _ rfl _ 326 rfl 264 3 underlying326 _ B n D rfl c0.out ?_)
  refine wp_region_still_tail 6 (by kernel_rfl) (by kernel_rfl) ?_;simp only[List.take_succ_cons,List.take_zero,List.drop_succ_cons,List.drop_zero]
  iterate 4 still_step
  refine Xr rfl (.agg cl) (Jh _ 264 rfl w.heap.size rfl cl _ _ y0.out _ underlying264 rfl HI.out) ?_
  still_step
  refine wpStill_nil ?_;have A0:Hid (W1.drew.ownsMap (H:=Unit) prog 264 (plainElem prog 3) B n D):=c0.out;refine wpList_mapUpdate_own W1.drew rfl _ _ _ 326 rfl 264 3 Ux underlying326 _ B n D rfl A0.out (by unfold maxLen;omega) _ _ _ rfl rfl HK.out _ [] (plainElem_int underlying3 (WalkArith.wf_i64 (by omega))) ?_;intro w2 d0 f0;have H0:Hid (Uf w2 T B (ws++[nd])):=by
   refine⟨?_,n+1,_,by simp;omega,d0,?_,λnd' hf'=>?_,λi hi=>?_⟩
   ·have hTB:T≠B:=by
     intro e;obtain⟨es,clock,hb,_⟩:=c0.out;subst e;simp[World.cell?,hb]at m0
    exact f0.cell m0 (by simpa using hTB)
   ·rw[Maps.size_put (c0.out.tidy Ux),<-q0.out,j0.out];simp
   ·by_cases he:nd'=nd
    ·subst he
     rw[Maps.has_put_same c0.out.isMap (Ux.key HK.out)];simp
    rw[Maps.has_put_other (λh=>he (zo7 hf' hf h)),k0.out nd' hf',List.mem_append,List.mem_singleton];exact⟨λh=> .inl h,λh=>h.elim id (λe=>absurd e he)⟩
   by_cases s0:i<ws.length
   ·rw[List.getElem_append_left s0]
    have h6:=o0.out i s0;refine⟨h6.1,λz=>?_⟩;rw[Maps.atKey_put_other (λh=>z0.out (by rw[<-zo7 h6.1 hf h];exact List.getElem_mem s0))];exact h6.2 z
   have n0:i=ws.length:=(by rw[List.length_append,List.length_singleton]at hi;omega);subst n0;rw[List.getElem_append_right (Nat.le_refl _)];simp only[Nat.sub_self,List.getElem_cons_zero];refine⟨hf,λz=>?_⟩;rw[Maps.atKey_put_same c0.out.isMap (Ux.key HK.out)];rw[j0.out]
  have I0:Hid (w.grownBy w2 (some B)):=⟨f0.os.trans b0.out.os,f0.tape.trans b0.out.tape,f0.output.trans b0.out.output,Nat.le_trans b0.out.size f0.size,λk hk J0=>(f0.block k (Nat.lt_of_lt_of_le hk b0.out.size) J0).trans (b0.out.block k hk (by simp))⟩;clear d0 f0 A0 m0 y0;go_wp2
  go_ret2
  exact⟨.inr ⟨z0.out,by rw[j0.out];rfl,H0.out⟩,I0.out⟩
end Go.Proofs.YtjekbnmnjeoagaaGreatDoor
namespace Go.Proofs.YtjekbnmnjeoagaaGreatDoor
open Go.RowKit Go.Proofs.Tryz
variable{w w' w0:World}{lv wv:Value}{i T B b Xb Fb:Nat}{cs lvs:List Value}{x y:Fl.Node}{ws acc:List Fl.Node}
def Tryz.infoNodeW:(Tryz.prog.info? 92).map (λi=>(i.zero,i.size,i.bytes))=some (some (.agg #[.int .i64 0,.int .i64 0,.int .i64 0,.int .i64 0,.int .i64 0,.slice none 0 0]),6,64):=by kernel_rfl
def Uk(w:World)(b:Nat):Prop:=∃cs fr,w.heap[b]?=some (.cells cs 3 fr)
def Uk.of(h:Uk w b)(e:w'.heap[b]?=w.heap[b]?):Uk w' b:=by
 obtain⟨cs,fr,h1⟩:=h;exact⟨cs,fr,e.trans h1⟩
def Uk.lt(h:Uk w b):b<w.heap.size:=by
 obtain⟨cs,fr,h1⟩:=h;rcases Nat.lt_or_ge b w.heap.size with h|h
 ·exact h
 rw[Array.getElem?_eq_none h]at h1;cases h1
structure Yh(w0 w:World)(Xb T B Fb:Nat)(wv:Value)(acc:List Fl.Node)(lvs:List Value):Prop where
 x0:w0.heap.size<=B/\B<T/\T<Xb
 hz:Xb<w.heap.size
 c0:w.cell? ⟨Xb,0,none⟩=some (.pointer (some ⟨Fb,0,none⟩))
 c1:w.cell? ⟨Xb,1,none⟩=some wv
 c2:w.cell? ⟨Xb,2,none⟩=some (.pointer (some ⟨T,0,none⟩))
 fz:∀j,w.frozen? ⟨Xb,j,none⟩=false
 se:Uf w T B acc
 hl:lvs.length=acc.length
 ow:w.ownsRow (Xb+1) 92 6 wv acc.length (flat acc lvs)
 li:∀p,p∈Xo acc lvs->Vh w p.1 p.2 (.slice none 0 0) wv/\(p.2≠[]->∀b,p.1.ownBlock=some b->Xb<b/\Uk w b)
 be:Below w0.heap.size w0 w
structure zj3(w0 w:World)(Xb T B Fb:Nat)(wv:Value)(acc:List Fl.Node)(lvs:List Value):Prop where
 x0:w0.heap.size<=B/\B<T/\T<Xb
 hz:Xb<w.heap.size
 c0:w.cell? ⟨Xb,0,none⟩=some (.pointer (some ⟨Fb,0,none⟩))
 c1:w.cell? ⟨Xb,1,none⟩=some wv
 c2:w.cell? ⟨Xb,2,none⟩=some (.pointer (some ⟨T,0,none⟩))
 fz:∀j,w.frozen? ⟨Xb,j,none⟩=false
 hl:lvs.length=acc.length
 ow:w.ownsRow (Xb+1) 92 6 wv acc.length (flat acc lvs)
 li:∀p,p∈Xo acc lvs->Vh w p.1 p.2 (.slice none 0 0) wv/\(p.2≠[]->∀b,p.1.ownBlock=some b->Xb<b/\Uk w b)
 be:Below w0.heap.size w0 w
structure Yw(w w':World)(Xb B:Nat)(wv wv':Value):Prop where
 os:w'.os=w.os
 tp:w'.tape=w.tape
 ou:w'.output=w.output
 sz:w.heap.size<=w'.heap.size
 bl:∀c,c<w.heap.size->c≠Xb->c≠B->some c≠wv.ownBlock->w'.heap[c]?=w.heap[c]?
 ow:wv'.ownBlock=wv.ownBlock\/∃g,wv'.ownBlock=some g/\w.heap.size<=g
def Yw.of_below(h:Below w.heap.size w w'):Yw w w' Xb B wv wv:=⟨h.os,h.tape,h.output,h.size,λc hc _ _ _=>h.block c hc,.inl rfl⟩
def Yw.trans{w w' w'':World}{Xb B:Nat}{wv wv' wv'':Value}(h:Yw w w' Xb B wv wv')(h':Yw w' w'' Xb B wv' wv''):Yw w w'' Xb B wv wv'':=by
 refine⟨h'.os.trans h.os,h'.tp.trans h.tp,h'.ou.trans h.ou,Nat.le_trans h.sz h'.sz,λc h1 h2 h3 h4=>?_,?_⟩
 ·refine(h'.bl c (Nat.lt_of_lt_of_le h1 h.sz) h2 h3 (λhh=>?_)).trans (h.bl c h1 h2 h3 h4)
  rcases h.ow with e|⟨g,e,hg⟩
  ·exact h4 (hh.trans e)
  rw[e]at hh;injection hh with hh;omega
 rcases h'.ow with e|⟨g,e,hg⟩
 ·rw[e];exact h.ow
 exact .inr ⟨g,e,Nat.le_trans h.sz hg⟩
def Yh.below{w0 w w':World}{Xb T B Fb:Nat}{wv:Value}{acc:List Fl.Node}{lvs:List Value}(h:Yh w0 w Xb T B Fb wv acc lvs)(hb:Below w.heap.size w w'):Yh w0 w' Xb T B Fb wv acc lvs:=by
 have og:w.grownBy w' none:=⟨hb.os,hb.tape,hb.output,hb.size,λk hk _=>hb.block k hk⟩;have hx:=h.hz;exact⟨h.x0,Nat.lt_of_lt_of_le hx hb.size,(hb.cell (p:=⟨Xb,0,none⟩) hx).trans h.c0,(hb.cell (p:=⟨Xb,1,none⟩) hx).trans h.c1,(hb.cell (p:=⟨Xb,2,none⟩) hx).trans h.c2,λj=>(hb.frozen (p:=⟨Xb,j,none⟩) hx).trans (h.fz j),h.se.kept og (by simp) (by simp),h.hl,Je h.ow hb,λp hp=>⟨(h.li p hp).1.below hb,λhn b hbb=>⟨((h.li p hp).2 hn b hbb).1,((h.li p hp).2 hn b hbb).2.of (hb.block b ((h.li p hp).2 hn b hbb).2.lt)⟩⟩,h.be.trans (hb.mono h.be.size)⟩
def yu2{nd:Fl.Node}(hi:i<ws.length)(he:ws[i]=nd)(hu:∀j,(hj:j<ws.length)->ws[j]=nd->j=i):Fl.put1 ws nd=((i:Int),ws):=by
 have nth_at:∀j,(hj:j<ws.length)->Fl.nth ws j=ws[j]:=λj hj=>by unfold Fl.nth;rw[Qa,Qb hj];rfl
 have hf:(List.range ws.length).find? (λj=>Fl.eqNode (Fl.nth ws j) nd)=some i:=by
  have h1:=zn6 (f:=λj=>Fl.eqNode (Fl.nth ws j) nd) (l:=List.range ws.length) (k:=i) (by simpa using hi) (λt ht=>?_) ?_
  ·simpa using h1
  ·simp only[List.getElem_range]
   cases hc:Fl.eqNode (Fl.nth ws t) nd
   ·rfl
   have h2:=(Fl.eqNode_iff _ _).1 hc;rw[nth_at t (by omega)]at h2;have:=hu t (by omega) h2;omega
  simp only[List.getElem_range];exact(Fl.eqNode_iff _ _).2 (by rw[nth_at i hi];exact he)
 unfold Fl.put1;rw[hf]
def ym7{nd:Fl.Node}(h:nd ∉ ws):Fl.put1 ws nd=((ws.length:Int),ws++[nd]):=by
 have hf:(List.range ws.length).find? (λj=>Fl.eqNode (Fl.nth ws j) nd)=none:=by
  rw[List.find?_eq_none];intro j hj hc;rw[List.mem_range]at hj;have h2:=(Fl.eqNode_iff _ _).1 hc;unfold Fl.nth at h2;rw[Qa,Qb hj]at h2;exact h (by rw[<-h2];exact List.getElem_mem hj)
 unfold Fl.put1;rw[hf]
def Uf.once(h:Uf w T B ws){j:Nat}(hi:i<ws.length)(hj:j<ws.length)(he:ws[j]=ws[i]):j=i:=by
 obtain⟨-,n,D,-,-,-,-,h4⟩:=h;have h5:=(h4 i hi).2 (.lit (.int .i64 0));have h6:=(h4 j hj).2 (.lit (.int .i64 0));rw[he,h5]at h6;injection h6 with h6;injection h6 with _ h6;omega
def zq2{row:Option Nat}{xs:List Int}(h:Zw w.heap.size w lv xs)(hg:w.grownBy w' row)(a0:xs≠[]->∀b,lv.ownBlock=some b->some b≠row):Zw w'.heap.size w' lv xs:=by
 obtain⟨ao,cap,rfl,h1,h2,h3⟩:=h;refine⟨ao,cap,rfl,h1,h2,λhn=>?_⟩;obtain⟨b,off,rfl,hb,hc⟩:=h3 hn;refine⟨b,off,rfl,Qj hb hg.size,λi hi=>?_⟩;exact(Qc (a:=(Aq b (off+i))) (hg.block b hb (a0 hn b rfl))).trans (hc i hi)
def Yh.pre(h:Yh w0 w Xb T B Fb wv acc lvs)(hg:w.grownBy w' (some B)):zj3 w0 w' Xb T B Fb wv acc lvs:=by
 obtain⟨x1,x2,x3⟩:=h.x0
 have a0:some Xb≠some B:=by simp;omega
 have b0:wv.ownBlock≠some B:=λhh=>by have:=(h.ow.lt B hh).1;omega
 refine⟨h.x0,Qj h.hz hg.size,hg.cell h.c0 a0,hg.cell h.c1 a0,hg.cell h.c2 a0,λj=>(Qd (w:=w) (hg.block Xb h.hz a0)).trans (h.fz j),h.hl,h.ow.kept hg (.inr b0),λp hp=>?_,h.be.grown hg (Nat.le_trans x1 (by have:=h.hz;omega)) (λk hk=>by injection hk with hk;omega)⟩;obtain⟨hk,hx⟩:=h.li p hp;exact⟨⟨zq2 hk.1 hg (λhn b hb=>by have:=(hx hn b hb).1;simp;omega),hk.2⟩,λhn b hb=>⟨(hx hn b hb).1,(hx hn b hb).2.of (hg.block b (hx hn b hb).2.lt (by have:=(hx hn b hb).1;simp;omega))⟩⟩
def Yh.seen(h:Yh w0 w Xb T B Fb wv acc lvs)(hg:w.grownBy w' (some B))(hs:Uf w' T B acc):Yh w0 w' Xb T B Fb wv acc lvs:=
 ⟨(h.pre hg).x0,(h.pre hg).hz,(h.pre hg).c0,(h.pre hg).c1,(h.pre hg).c2,(h.pre hg).fz,hs,(h.pre hg).hl,(h.pre hg).ow,(h.pre hg).li,(h.pre hg).be⟩
def zj3.push{W1 W2:World}{wv' lvn:Value}{nd:Fl.Node}(h:zj3 w0 w Xb T B Fb wv acc lvs)(hs:Uf w T B (acc++[nd]))(hb:Bq w W1)(hi:Zw w.heap.size w lvn nd.list)(hf:nd.list≠[]->∀b,lvn.ownBlock=some b->Xb<b/\some b≠wv.ownBlock/\Uk w b)
  (ho:W2.ownsRow (Xb+1) 92 6 wv' (acc.length+1) (flat acc lvs++Yl nd lvn)) (hg:W1.grownBy W2 wv.ownBlock) (hw:wv'.ownBlock=wv.ownBlock\/wv'.ownBlock=some W1.heap.size):
  Yh w0 (W2.setCell (Aq Xb 1) wv') Xb T B Fb wv' (acc++[nd]) (lvs++[lvn]):=by
 obtain⟨x1,x2,x3⟩:=h.x0;have hz:=h.hz;have hsz:=hb.size;have d0:=hg.size
 have b0:∀c,wv.ownBlock=some c->Xb<c/\c<w.heap.size:=λc hc=>by have:=h.ow.lt c hc;omega
 have ne:∀c,c<=Xb->some c≠wv.ownBlock:=λc hc hh=>by have:=b0 c hh.symm;omega
 have c0:W2.cell? (Aq Xb 0)=some (Pq Fb):=hg.cell ((hb.cell (p:=(Aq Xb 0)) hz).trans h.c0) (ne Xb (Nat.le_refl _));have c1:W2.cell? (Aq Xb 1)=some wv:=hg.cell ((hb.cell (p:=(Aq Xb 1)) hz).trans h.c1) (ne Xb (Nat.le_refl _));have c2:W2.cell? (Aq Xb 2)=some (Pq T):=hg.cell ((hb.cell (p:=(Aq Xb 2)) hz).trans h.c2) (ne Xb (Nat.le_refl _));have og:w.grownBy W1 none:=⟨hb.os,hb.tape,hb.output,hb.size,λk hk _=>hb.block k hk⟩;have gs:W2.grownBy (W2.setCell (Aq Xb 1) wv') (some Xb):=⟨rfl,rfl,rfl,by rw[Zy];exact Nat.le_refl _,λk hk hn=>Zx _ _ _ _ _ (λe=>hn (by rw[e]))⟩;have se:Uf (W2.setCell (Aq Xb 1) wv') T B (acc++[nd]):=((hs.kept og (by simp) (by simp)).kept hg (ne T (by omega)) (ne B (by omega))).kept gs (by simp;omega) (by simp;omega);have hk:∀p,p∈Xo (acc++[nd]) (lvs++[lvn])->Vh W2 p.1 p.2 Zq wv'/\(p.2≠[]->∀b,p.1.ownBlock=some b->Xb<b/\Uk W2 b):=by
  intro p hp;rw[Jt _ _ _ _ h.hl,List.mem_append,List.mem_singleton]at hp;rcases hp with hp|hp
  ·obtain⟨k1,k2⟩:=h.li p hp
   exact⟨(k1.below hb).second hg hw,λhn b a0=>⟨(k2 hn b a0).1,(k2 hn b a0).2.of ((hg.block b (Qj (k2 hn b a0).2.lt hsz) (by rw[<-a0];exact(k1.2 hn).2)).trans (hb.block b (k2 hn b a0).2.lt))⟩⟩
  subst hp;refine⟨Vh.second (nv:=wv) ⟨Un hi hb,λhn=>?_⟩ hg hw,λhn b a0=>⟨(hf hn b a0).1,(hf hn b a0).2.2.of ((hg.block b (Qj (hf hn b a0).2.2.lt hsz) (hf hn b a0).2.1).trans (hb.block b (hf hn b a0).2.2.lt))⟩⟩;obtain⟨ao,cap,e,-,-,h3⟩:=hi;obtain⟨b,off,e2,-,-⟩:=h3 hn;have h5:lvn.ownBlock=some b:=(by rw[e,e2];rfl);refine⟨by rw[h5];simp[Value.ownBlock],by rw[h5];exact(hf hn b h5).2.1⟩
 refine⟨h.x0,by rw[Zy];omega,(Qg _ _ _ _ (by intro hh;injection hh with _ h5;omega)).trans c0,World.cell?_setCell_same' _ _ _ (by rw[c1];rfl),(Qg _ _ _ _ (by intro hh;injection hh with _ h5;omega)).trans c2,λj=>by rw[World.frozen?_setCell];exact(Qd (w:=W1) (hg.block Xb (by omega) (ne Xb (Nat.le_refl _)))).trans ((hb.frozen (p:=(Aq Xb j)) hz).trans (h.fz j)),se,by simp[h.hl],?_,λp hp=>⟨(hk p hp).1.set (λhx hh=>by have:=((hk p hp).2 hx Xb hh).1;omega),λhn b a0=>⟨((hk p hp).2 hn b a0).1,((hk p hp).2 hn b a0).2.of (Zx _ _ _ _ _ (by have:=((hk p hp).2 hn b a0).1;omega))⟩⟩,?_⟩
 ·rw[zv9 _ _ _ _ h.hl,List.length_append,List.length_singleton];exact ownsRow_setCell_below ho (by simp) wv'
 exact((h.be.trans (hb.mono (by omega))).grown hg (by omega) (λk hk=>by have:=b0 k hk;omega)).setCell (by show w0.heap.size<=Xb;omega) _
end Go.Proofs.YtjekbnmnjeoagaaGreatDoor
