import Derived.Test.YtfhpibppblbgcaaGreatDoorM02
import Derived.Test.YtfhpibppblbgcaaGreatDoorM04
import Derived.Deep.RegionWith
import Derived.BigQuiet
import Derived.Maps.OwnSet
import Derived.ChangeMaps5
set_option linter.all false
set_option maxRecDepth 100000
set_option maxHeartbeats 40000000
namespace Go.Proofs.YtfhpibppblbgcaaGreatDoor
open Go.RowKit Go.Proofs.Tryz
variable{b cap p n base Lb Pb:Nat}{ao:Option Addr}{s:List UInt8}{w w':World}{P:Program}{Q:Exit->Act->World->Prop}{a:Fl.dM}{l:List Oper}{names:List (List UInt8)}{S:Nat->Prop}{v:Value}{t:Fl.cM}{e:Fl.dd}{vs:List Int}
def zr3(n p:Int)(w:World):Cq 56 #[Iq n,Iq p] w λe w'=>e=.panicked (Ze n p)/\Bq w w':=by
 go_enter func56,ntmps56
 go_wp2;exact⟨rfl,rfl,Below.refl _ _⟩
def Jr(b:Nat)(p:Int)(w:World):Cq 87 #[Pq b,.bool true,Iq p] w λe w'=>e=.returned (.tuple #[])/\w'=w:=by
 go_enter func87,ntmps87
 go_wp2
 go_end0
 exact⟨rfl,rfl⟩
def Vv(b:Nat)(p:Int)(w:World):Cq 87 #[Pq b,.bool false,Iq p] w λe w'=>e=.panicked (Ze 8 p)/\Bq w w':=by
 go_enter func87,ntmps87
 go_wp2_with (go_at_call 56;refine(zr3 _ _ _).mono ?_;rintro e w' ⟨rfl,hb⟩)
 exact⟨rfl,rfl,hb⟩
def zf8(h:Dr w b ao cap s p)(a0:p<s.length):
  Cq 88 #[Pq b] w λe w'=>e=.returned (.int .u8 (s.getD p 0).toNat)/\Mv w w' b/\w'.cell? (Aq b 1)=some (Iq ((p+1:Nat):Int)):=by
 obtain⟨bb,bo,rfl,b0,hc⟩:=h.at a0;have c0:=h.c0;have c1:=h.c1;have f1:=h.f1;have hs:=h.hs;generalize (s.getD p 0).toNat=x at*;clear h
 go_enter func88,ntmps88
 go_wp2_with fail
 go_still_tail 16,(by kernel_rfl)
 go_wp2_with (go_at_call 87;refine(Jr _ _ _).mono ?_;rintro e w' ⟨rfl,rfl⟩)
 go_quiet (fail)
 go_wp2;go_ret;exact⟨rfl,(Mv.set _ _ _).drew.drewN _,by simp;exact World.cell?_setCell_same' _ _ _ (by simp[c1])⟩
def zj0(h:Dr w b ao cap s p)(a0:¬p<s.length):
  Cq 88 #[Pq b] w λe w'=>e=.panicked (Ze 8 s.length)/\Mv w w' b:=by
 have hlb:=h.lt;have c0:=h.c0;have c1:=h.c1;have f1:=h.f1;have hs:=h.hs;clear h
 go_enter func88,ntmps88
 go_wp2_with fail
 go_still_tail 16,(by kernel_rfl)
 go_wp2_with (go_at_call 87;refine(Vv _ _ _).mono ?_;rintro e w' ⟨rfl,hb⟩;exact⟨rfl,rfl,Mv.cW (dA.trans hb) hlb⟩)
def Xg{id:Nat}{a:Act}(n g d g' d':Nat)(hm:P.follows .mixedOrders=true)(hB:Region.lexTailB .any l.toArray n=true)(hg:((l.toArray[g]?).bind λx=>x.dst)=some d)(hg':((l.toArray[g']?).bind λx=>x.dst)=some d')
  (h:∀ops:Array Oper,((ops[g]?).bind λx=>x.dst)=some d->((ops[g']?).bind λx=>x.dst)=some d'->wpStill P ops {w with drawn:=w.drawn+1} (λa'=>wpList P ops Q (l.drop n) a' {w with drawn:=w.drawn+1}) (l.take n) a):(Code.region id l.toArray true).wp P Q a w:=
 wp_region_still_tail n hm hB (h _ hg hg')
def Vi:Array Value:=#[
 .string ⟨#[108,101,118,101,108]⟩,.string ⟨#[110]⟩,.bool true,.func (.func 104) #[] #[],.string ⟨#[98,101,108,111,119]⟩,.string ⟨#[110,110]⟩,.bool true,.func (.func 105) #[] #[],.string ⟨#[99,101,108,108]⟩,.string ⟨#[110,110]⟩,.bool true,.func (.func 106) #[] #[],.string ⟨#[99,104,97,110,110,101,108]⟩,.string ⟨#[110,110]⟩,.bool true,.func (.func 107) #[] #[],.string ⟨#[98,101,103,105,110]⟩,.string ⟨#[]⟩,.bool true,.func (.func 108) #[] #[],.string ⟨#[115,101,116]⟩,.string ⟨#[110,97]⟩,.bool false,.func (.func 109) #[] #[],.string ⟨#[115,101,116]⟩,.string ⟨#[110,97,111,97]⟩,.bool false,.func (.func 109) #[] #[],.string ⟨#[111,117,116]⟩,.string ⟨#[110,97]⟩,.bool false,.func (.func 110) #[] #[],.string ⟨#[105,102]⟩,.string ⟨#[97]⟩,.bool false,.func (.func 111) #[] #[],.string ⟨#[101,108,115,101]⟩,.string ⟨#[]⟩,.bool false,.func (.func 112) #[] #[],.string ⟨#[119,104,105,108,101]⟩,.string ⟨#[97]⟩,.bool false,.func (.func 113) #[] #[],.string ⟨#[101,110,100]⟩,.string ⟨#[]⟩,.bool false,.func (.func 114) #[] #[]]
def znz(k:Nat):Nat:=[104,105,106,107,108,109,109,110,111,112,113,114].getD k 0
def yn5(k:Nat)(h:k<12):Vi[k*4]?=some (.string ⟨(Fl.dH k).1.toArray⟩)/\Vi[k*4+1]?=some (.string ⟨(Fl.dH k).2.1.toArray⟩)/\Vi[k*4+2]?=some (.bool (Fl.dH k).2.2)/\Vi[k*4+3]?=some (.func (.func (znz k)) #[] #[]):=by
 rcases(show k=0\/k=1\/k=2\/k=3\/k=4\/k=5\/k=6\/k=7\/k=8\/k=9\/k=10\/k=11 by omega) with rfl|rfl|rfl|rfl|rfl|rfl|rfl|rfl|rfl|rfl|rfl|rfl<;>exact⟨rfl,rfl,rfl,rfl⟩
def yn6(k:Nat)(h:k<12):(∀c∈(Fl.dH k).2.1,c=110\/c=97\/c=111)/\(Fl.dH k).2.1.length<=4:=by
 rcases(show k=0\/k=1\/k=2\/k=3\/k=4\/k=5\/k=6\/k=7\/k=8\/k=9\/k=10\/k=11 by omega) with rfl|rfl|rfl|rfl|rfl|rfl|rfl|rfl|rfl|rfl|rfl|rfl<;>decide
def zh2(k:Nat)(h:k<12):∀args W,(callFunc (znz k) args).run prog W=.ok (.enter (znz k) args) W:=by
 intro args W;rcases(show k=0\/k=1\/k=2\/k=3\/k=4\/k=5\/k=6\/k=7\/k=8\/k=9\/k=10\/k=11 by omega) with rfl|rfl|rfl|rfl|rfl|rfl|rfl|rfl|rfl|rfl|rfl|rfl<;>kernel_rfl
def zb8(w:World):Cq 57 #[] w λe w'=>e=.returned (.slice (some (Aq w.heap.size 0)) 12 12)/\w'=w.alloc (.cells Vi 217):=by
 go_enter func57,ntmps57
 go_wp2_with fail
 go_ret;exact⟨rfl,rfl⟩
def Xc(b:Nat)(n:Int)(w:World):Cq 61 #[Pq b,.bool true,Iq n] w λe w'=>e=.returned (.tuple #[])/\w'=w:=by
 go_enter func61,ntmps61
 go_wp2
 go_end0
 exact⟨rfl,rfl⟩
def Yd(b:Nat)(n p:Int)(w:World)(hp:w.cell? (Aq b 1)=some (Iq p)):Cq 61 #[Pq b,.bool false,Iq n] w λe w'=>e=.panicked (Ze n p)/\Bq w w':=by
 go_enter func61,ntmps61
 go_wp2_with (go_at_call 56;refine(zr3 _ _ _).mono ?_;rintro e w' ⟨rfl,hb⟩)
 exact⟨rfl,rfl,hb⟩
def Tryz.infoLineRule:(Tryz.prog.info? 217).map (·.size)=some 4:=by kernel_rfl
def lrOne(a b:ByteArray)(c:Bool)(f:Nat):(#[.string a,.string b,.bool c,.func (.func f) #[] #[]]:Array Value).all (·.oneCell')=true:=by kernel_rfl
def yv7(R T:Nat)(b off n cap:Nat)(ws:List (List UInt8))(aq:Int)(ae:Bool)(w:World)(G:World->Prop)(Rp:Int->Int->World->Prop)
  (hT:w.heap[T]?=some (.cells Vi 217 (0,0))) (R0:Zf w.heap.size w (.slice (some (Aq b off)) n cap) ws) (S0:ws≠[])
  (hl:w.cell? (Aq R 1)=some (Iq aq)) (T0:w.cell? (Aq R 2)=some (.bool ae))
  (p0:(∀k,k<12->Fl.bT ws k=false)->∀W,Bq w W->Rp 2 aq W)
  (U0:∀k,k<12->Fl.bT ws k=true->(Fl.dH k).2.2=ae->∀W,Bq w W->Rp 3 aq W)
  (g0:∀k,k<12->Fl.bT ws k=true->(Fl.dH k).2.2≠ae->∀W v,Bq w W->Zf w.heap.size W v (ws.drop 1)->v.ownBlock=some b->Cq (znz k) #[Pq R,v] W λe W'=>(e=.returned (.tuple #[])/\G W')\/∃n p,e=.panicked (Ze n p)/\Rp n p W'):
  Cq 60 #[Pq R,.slice (some (Aq T 0)) 12 12,.slice (some (Aq b off)) n cap] w λe W'=>(e=.returned (.tuple #[])/\G W')\/∃n p,e=.panicked (Ze n p)/\Rp n p W':=by
 have HT:=Zz hT;have HW:=Zz R0;have HL:=Zz hl;have V0:=Zz T0;have H0:=Zz p0;have W0:=Zz U0;have h0:=Zz g0;clear hT R0 hl T0 p0 U0 g0
 go_enter func60,ntmps60
 go_wp2_with fail
 go_loopw [10] (λi wr=>∃(k:Nat),k<=12/\i=Iq k/\Bq w wr/\∀j,j<k->Fl.bT ws j=false) (λi _=>12 - (intOf i).toNat)
 case atStart=>exact⟨0,by omega,rfl,Below.refl _ _,λj hj=>by omega⟩
 case round=>
  obtain⟨k,hk,rfl,b0,du⟩:=hrel;have B0:=Zz du;have HB:=Zz b0;have i1:T<w.heap.size:=(Array.getElem?_eq_some_iff.1 HT).1;have s0:R<w.heap.size:=Qe w (Aq R 1) HL.out;have j1:=b0.size;clear du
  by_cases i0:k<12
  ·have X0:wr.heap[T]?=some (.cells Vi 217 (0,0)):=(b0.block T i1).trans HT.out
   obtain⟨Y0,Z0,a1,b1⟩:=yn5 k i0
   have hc:∀j v,Vi[k*4+j]?=some v->wr.cell? (Aq T (k*4+j))=some v:=λj v hv=>by
    unfold World.cell?;simp only[X0];simpa using hv
   have q0:wr.cell? (Aq T (k*4))=some (.string ⟨(Fl.dH k).1.toArray⟩):=hc 0 _ (by simpa using Y0);have q1:=hc 1 _ Z0;have q2:=hc 2 _ a1;have q3:=hc 3 _ b1;obtain⟨wd,I0⟩:=nmE ((Fl.dH k).1);obtain⟨sh,C0⟩:=nmE ((Fl.dH k).2.1);obtain⟨ah,J0⟩:=nmE ((Fl.dH k).2.2);obtain⟨fn,K0⟩:=nmE (znz k);rw[<-I0]at q0;rw[<-C0]at q1;rw[<-J0]at q2;rw[<-K0]at q3;obtain⟨ao',cap',c1,u1,L0,v1,k1,d1⟩:=HW.out;simp only[Value.slice.injEq]at c1;obtain⟨rfl,rfl,rfl⟩:=c1;obtain⟨b',off',e1,l1,j0⟩:=d1 S0;simp only[Option.some.injEq,Addr.mk.injEq,and_true]at e1;obtain⟨rfl,rfl⟩:=e1;obtain⟨x,hx⟩:=nmE (ws.getD 0 []);have M0:0<ws.length:=List.length_pos_iff.2 S0;have N0:wr.cell? (Aq b off)=some (.string ⟨x.toArray⟩):=by
    rw[b0.cell (p:=(Aq b off)) l1,hx];have:=j0 0 M0;simpa [strV] using this
   have HX:=Zz hx;have D0:=Zz K0;have E0:=Zz J0;have t0:Hid (Fl.bT ws k=(x==wd && Fl.bY sh (ws.drop 1))):=(by show _=_;rw[hx,I0,C0];rfl);have F0:Hid ((∀c∈sh,c=110\/c=97\/c=111)/\sh.length<=4):=(by show _/\_;rw[C0];exact yn6 k i0);have x1:(k:Int)<12:=(by omega);clear hc Y0 Z0 a1 b1 I0 C0 J0 K0 hx j0 X0 d1 k1
   go_wp2_with (refine Jk rfl _ _ 217 rfl wr _ #[.string ⟨wd.toArray⟩,.string ⟨sh.toArray⟩,.bool ah,.func (.func fn) #[] #[]] rfl rfl Tryz.infoLineRule (by rfl) (lrOne _ _ _ _) ?_)
   obtain⟨W1,e0⟩:=nmE (wr.alloc (.cells #[.string ⟨wd.toArray⟩,.string ⟨sh.toArray⟩,.bool ah,.func (.func fn) #[] #[]] 217));obtain⟨rb,k0⟩:=nmE (wr.heap.size);rw[<-e0,<-k0];have f1:Bq w W1:=(by rw[e0];exact b0.alloc j1 _);have r0:W1.cell? (Aq rb 0)=some (.string ⟨wd.toArray⟩):=(by rw[e0,k0];exact World.cell?_alloc_new _ _ _ _);have r1:W1.cell? (Aq rb 1)=some (.string ⟨sh.toArray⟩):=(by rw[e0,k0];exact World.cell?_alloc_new _ _ _ _);have r2:W1.cell? (Aq rb 2)=some (.bool ah):=(by rw[e0,k0];exact World.cell?_alloc_new _ _ _ _);have r3:W1.cell? (Aq rb 3)=some (.func (.func fn) #[] #[]):=(by rw[e0,k0];exact World.cell?_alloc_new _ _ _ _);have g1:W1.cell? (Aq b off)=some (.string ⟨x.toArray⟩):=(by rw[e0];exact(Qf _ _ _ (Qe wr _ N0)).trans N0);have u0:=Zz f1;have y1:w.heap.size<W1.heap.size:=(by rw[e0];simp;omega);have G0:rb<W1.heap.size:=(by rw[e0,k0];simp);clear q0 q1 q2 q3 N0 e0 k0 b0 f1;unfold maxLen at L0
   cases O0:x==wd with
   |false=>
    have v0:Hid (∀j,j<k+1->Fl.bT ws j=false):=λj hj=>by
     by_cases x0:j=k
     ·subst x0;rw[t0.out,O0];rfl
     exact B0 j (by omega)
    refine Xg 11 6 _ 6 _ (by kernel_rfl) (by kernel_rfl) rfl rfl (λops hY h1=>?_);simp only[List.take_succ_cons,List.take_zero,List.drop_succ_cons,List.drop_zero]
    iterate 11 still_step
    refine wpStill_nil ?_;go_wp2
    go_roundw
    case rel=>exact⟨k+1,by omega,by go_num,u0.drew,v0⟩
    case measure=>simp[intOf];omega
   |true=>
    have m1:(1:Int)<=(ws.length:Int):=(by omega);have n1:(ws.length:Int)<=(cap:Int):=(by omega)
    by_cases y0:cap=1
    ·subst y0
     refine Xg 11 6 _ 6 _ (by kernel_rfl) (by kernel_rfl) rfl rfl (λops hY h1=>?_);simp only[List.take_succ_cons,List.take_zero,List.drop_succ_cons,List.drop_zero]
     iterate 11 still_step
     refine wpStill_nil ?_
     go_wp2_with fail
     have l0:∀W,Bq w W->Zf w.heap.size W (.slice (some (Aq b off)) 0 0) (ws.drop 1):=λW hW=>by
      have:ws.drop 1=[]:=List.drop_eq_nil_of_le (by omega);rw[this];exact⟨_,_,rfl,by simp,by simp[maxLen],by simp,by simp,λh=>absurd rfl h⟩
     have P0:=Zz l0;have HF:=yz2 w.heap.size sh (.slice (some (Aq b off)) 0 0) (ws.drop 1) W1.drew (l0 _ u0.drew) (by simp;omega) F0.1 F0.2;clear l0;refine HF.mono ?_;clear HF;rintro e W2 ⟨rfl,c0⟩;have d0:Hid (Bq w W2):=u0.drew.trans (c0.mono (by simp;omega));have s2:W2.cell? (Aq rb 2)=some (.bool ah):=(c0.cell (p:=(Aq rb 2)) (by simpa using G0)).trans r2;have s3:W2.cell? (Aq rb 3)=some (.func (.func fn) #[] #[]):=(c0.cell (p:=(Aq rb 3)) (by simpa using G0)).trans r3;have t2:W2.cell? (Aq R 2)=some (.bool ae):=(d0.cell (p:=(Aq R 2)) s0).trans V0.out;have t1:W2.cell? (Aq R 1)=some (Iq aq):=(d0.cell (p:=(Aq R 1)) s0).trans HL.out;have o1:w.heap.size<W2.heap.size:=(by have:=c0.size;simp at this;omega);clear c0 r0 r1 r2 r3 g1
     cases a0:Fl.bY sh (ws.drop 1) with
     |false=>
      have v0:Hid (∀j,j<k+1->Fl.bT ws j=false):=λj hj=>by
       by_cases x0:j=k
       ·subst x0;rw[t0.out,a0];simp
       exact B0 j (by omega)
      clear a0 s2 s3 t1 t2;go_wp2
      go_roundw
      case rel=>exact⟨k+1,by omega,by go_num,d0,v0⟩
      case measure=>simp[intOf];omega
     |true=>
      have z0:Hid (Fl.bT ws k=true):=(by show _=_;rw[t0.out,O0,a0];rfl);clear a0
      by_cases m0:ah=ae
      ·subst m0
       have f0:Hid (Cq 61 #[Pq R,.bool false,Iq 3] W2.drew λe w'=>e=.panicked (Ze 3 aq)/\Below W2.drew.heap.size W2.drew w'):=Yd R 3 aq W2.drew t1;have b9:(ah !=ah)=false:=(by simp)
       go_wp2_with fail
       go_still_tail 8,(by kernel_rfl)
       go_wp2_with fail
       refine f0.mono ?_;rintro e W3 ⟨rfl,Q0⟩;exact⟨rfl,.inr ⟨_,_,rfl,W0 k i0 z0 E0.symm W3 (d0.drew.trans (Q0.mono (by simp;omega)))⟩⟩
      have b9:(ah==ae)=false:=beq_eq_false_iff_ne.2 m0;have f0:Hid (Cq 61 #[Pq R,.bool true,Iq 3] W2.drew λe w'=>e=.returned (.tuple #[])/\w'=W2.drew):=Xc R 3 W2.drew;have p1:∀args W,(callFunc fn args).run prog W=.ok (.enter fn args) W:=(by rw[D0.out];exact zh2 k i0)
      go_wp2_with fail
      go_still_tail 8,(by kernel_rfl)
      go_wp2_with fail
      refine f0.mono ?_;rintro e W3 ⟨rfl,n0⟩;have u3:W3.cell? (Aq rb 3)=some (.func (.func fn) #[] #[]):=(by rw[n0];exact s3);have A0:Hid (Bq w W3):=(by rw[n0];exact d0.drew);clear n0 s2 s3 t1 t2 f0
      go_wp2_with fail
      go_still_tail 5,(by kernel_rfl)
      go_wp2_with fail
      have o0:=h0 k i0 z0 (by rw[<-E0.out];exact m0) W3.drew (.slice (some (Aq b off)) 0 0) A0.drew (P0 _ A0.drew) rfl;rw[<-D0.out]at o0;refine o0.mono ?_;clear o0;rintro e W4 (⟨rfl,hG⟩|⟨n,p,rfl,hR⟩)
      ·have HG:=Zz hG
       clear hG;go_wp2
       (try simp only[Exit.inBlock,Exit.then])
       refine bodyPost_ret (results_none rfl _ _ _) rfl ?_;exact .inl ⟨rfl,HG⟩
      exact⟨rfl,.inr ⟨_,_,rfl,hR⟩⟩
    skip
    refine Xg 11 6 _ 6 _ (by kernel_rfl) (by kernel_rfl) rfl rfl (λops hY h1=>?_);simp only[List.take_succ_cons,List.take_zero,List.drop_succ_cons,List.drop_zero]
    iterate 11 still_step
    refine wpStill_nil ?_
    go_wp2_with fail
    have l0:∀W,Bq w W->Zf w.heap.size W (.slice (some (Aq b (off+1))) (ws.length - 1) (cap - 1)) (ws.drop 1):=λW hW=>by
     exact(HW.below hW).drop 1 (by omega)
    have P0:=Zz l0;have HF:=yz2 w.heap.size sh (.slice (some (Aq b (off+1))) (ws.length - 1) (cap - 1)) (ws.drop 1) W1.drew (l0 _ u0.drew) (by simp;omega) F0.1 F0.2;clear l0;refine HF.mono ?_;clear HF;rintro e W2 ⟨rfl,c0⟩;have d0:Hid (Bq w W2):=u0.drew.trans (c0.mono (by simp;omega));have s2:W2.cell? (Aq rb 2)=some (.bool ah):=(c0.cell (p:=(Aq rb 2)) (by simpa using G0)).trans r2;have s3:W2.cell? (Aq rb 3)=some (.func (.func fn) #[] #[]):=(c0.cell (p:=(Aq rb 3)) (by simpa using G0)).trans r3;have t2:W2.cell? (Aq R 2)=some (.bool ae):=(d0.cell (p:=(Aq R 2)) s0).trans V0.out;have t1:W2.cell? (Aq R 1)=some (Iq aq):=(d0.cell (p:=(Aq R 1)) s0).trans HL.out;have o1:w.heap.size<W2.heap.size:=(by have:=c0.size;simp at this;omega);clear c0 r0 r1 r2 r3 g1
    cases a0:Fl.bY sh (ws.drop 1) with
    |false=>
     have v0:Hid (∀j,j<k+1->Fl.bT ws j=false):=λj hj=>by
      by_cases x0:j=k
      ·subst x0;rw[t0.out,a0];simp
      exact B0 j (by omega)
     clear a0 s2 s3 t1 t2;go_wp2
     go_roundw
     case rel=>exact⟨k+1,by omega,by go_num,d0,v0⟩
     case measure=>simp[intOf];omega
    |true=>
     have z0:Hid (Fl.bT ws k=true):=(by show _=_;rw[t0.out,O0,a0];rfl);clear a0
     by_cases m0:ah=ae
     ·subst m0
      have f0:Hid (Cq 61 #[Pq R,.bool false,Iq 3] W2.drew λe w'=>e=.panicked (Ze 3 aq)/\Below W2.drew.heap.size W2.drew w'):=Yd R 3 aq W2.drew t1;have b9:(ah !=ah)=false:=(by simp)
      go_wp2_with fail
      go_still_tail 8,(by kernel_rfl)
      go_wp2_with fail
      refine f0.mono ?_;rintro e W3 ⟨rfl,Q0⟩;exact⟨rfl,.inr ⟨_,_,rfl,W0 k i0 z0 E0.symm W3 (d0.drew.trans (Q0.mono (by simp;omega)))⟩⟩
     have b9:(ah==ae)=false:=beq_eq_false_iff_ne.2 m0;have f0:Hid (Cq 61 #[Pq R,.bool true,Iq 3] W2.drew λe w'=>e=.returned (.tuple #[])/\w'=W2.drew):=Xc R 3 W2.drew;have p1:∀args W,(callFunc fn args).run prog W=.ok (.enter fn args) W:=(by rw[D0.out];exact zh2 k i0)
     go_wp2_with fail
     go_still_tail 8,(by kernel_rfl)
     go_wp2_with fail
     refine f0.mono ?_;rintro e W3 ⟨rfl,n0⟩;have u3:W3.cell? (Aq rb 3)=some (.func (.func fn) #[] #[]):=(by rw[n0];exact s3);have A0:Hid (Bq w W3):=(by rw[n0];exact d0.drew);clear n0 s2 s3 t1 t2 f0
     go_wp2_with fail
     go_still_tail 5,(by kernel_rfl)
     go_wp2_with fail
     have o0:=h0 k i0 z0 (by rw[<-E0.out];exact m0) W3.drew (.slice (some (Aq b (off+1))) (ws.length - 1) (cap - 1)) A0.drew (P0 _ A0.drew) rfl;rw[<-D0.out]at o0;refine o0.mono ?_;clear o0;rintro e W4 (⟨rfl,hG⟩|⟨n,p,rfl,hR⟩)
     ·have HG:=Zz hG
      clear hG;go_wp2
      (try simp only[Exit.inBlock,Exit.then])
      refine bodyPost_ret (results_none rfl _ _ _) rfl ?_;exact .inl ⟨rfl,HG⟩
     exact⟨rfl,.inr ⟨_,_,rfl,hR⟩⟩
  obtain rfl:k=12:=by omega
  have s1:Hid (∀W,Bq w W->Cq 61 #[Pq R,.bool false,Iq 2] W λe w'=>e=.panicked (Ze 2 aq)/\Bq W w'):=λW hW=>Yd R 2 aq W ((hW.cell (p:=(Aq R 1)) s0).trans HL);clear b0
  go_wp2_with fail
  refine(s1 _ HB).mono ?_;rintro e w2 ⟨rfl,c0⟩;exact⟨rfl,.inr ⟨_,_,rfl,H0 B0 w2 (HB.trans (c0.mono (by omega)))⟩⟩
open Go.Maps Go.WideMaps
namespace Fl
def dh(w:List UInt8):∀(l:List (List UInt8)) (i:Nat),bp i w l=if bp 0 w l<0 then -1 else(i:Int)+bp 0 w l
 |[],i=>by simp[bp]
 |x::r,i=>by
  simp only[bp]
  by_cases hx:(x==w)=true
  ·simp only[hx,if_true];simp
  simp only[show (x==w)=false by simpa using hx,Bool.false_eq_true,if_false];rw[dh w r (i+1),dh w r (0+1)]
  by_cases h:bp 0 w r<0
  ·simp[h]
  simp only[h,if_false];rw[if_neg (by omega)];omega
def aR(l:List (List UInt8))(w:List UInt8):ai l w= -1\/(0<=ai l w/\ai l w<l.length):=by
 unfold ai
 induction l with
 |nil=>left;rfl
 |cons x r ih=>
  simp only[bp,List.length_cons]
  by_cases hx:(x==w)=true
  ·right;simp only[hx,if_true];omega
  simp only[show (x==w)=false by simpa using hx,Bool.false_eq_true,if_false];rw[dh];rcases ih with h|h
  ·left;rw[h];rfl
  right;rw[if_neg (by omega)];omega
def eW(a b:List (List UInt8))(w:List UInt8):ai (a++b) w=if 0<=ai a w then ai a w else if 0<=ai b w then(a.length:Int)+ai b w else -1:=by
 induction a with
 |nil=>
  rcases aR b w with h|h
  ·simp[ai,bp]at h⊢;rw[h];simp
  have:¬(0<=ai ([]:List (List UInt8)) w):=by simp[ai,bp]
  simp only[List.nil_append,this,if_false,h.1,if_true,List.length_nil];omega
 |cons x r ih=>
  unfold ai at ih⊢;simp only[List.cons_append,bp,List.length_cons]
  by_cases hx:(x==w)=true
  ·simp[hx]
  simp only[show (x==w)=false by simpa using hx,Bool.false_eq_true,if_false];rw[dh w (r++b),dh w r (0+1),ih];have h1:=aR r w;have h2:=aR b w;unfold ai at h1 h2;rcases h1 with h1|h1
  ·rw[h1];simp only[show ¬(0:Int)<= -1 by omega,if_false]
   rcases h2 with h2|h2
   ·rw[h2];simp
   simp only[h2.1,if_true];rw[if_neg (by omega)];simp only[show (-1:Int)<0 by omega,if_true,show ¬(0:Int)<= -1 by omega,if_false];push_cast;omega
  simp only[h1.1,if_true];rw[if_neg (by omega),if_pos (by omega)]
def gC(a:List (List UInt8))(w:List UInt8)(h:ai a w<0):ai (a++[w]) w=a.length:=by
 rw[eW,if_neg (by omega)]
 have:ai [w] w=0:=by simp[ai,bp]
 rw[this];simp
def gU(a:List (List UInt8))(w x:List UInt8)(h:x≠w):ai (a++[w]) x=ai a x:=by
 rw[eW]
 have:ai [w] x= -1:=by simp[ai,bp,Ne.symm h]
 rw[this];rcases aR a x with h1|h1
 ·rw[h1];simp
 simp[h1.1]
end Fl
def Yu(w:World)(b:Nat)(names:List (List UInt8)):Prop:=
 ∃n D,w.ownsMap (H:=Unit) prog 9 (plainElem prog 3) b n D/\n<=names.length/\Maps.size D=names.length/\Tidy D/\IsMap D/\
  ∀x,Maps.has D (.string x)=decide (0<=Fl.ai names x)/\D.atKey (.string x) (.lit (.int .i64 0))=.lit (.int .i64 (max 0 (Fl.ai names x)))
def zny:Keyed prog 9:=string_keyed underlying9
def yjx(w:World):(zeroValue 3).run prog w=.ok (.int .i64 0) w:=by kernel_rfl
def yn7(x:List UInt8)(h:x.length<=100000):keyOf prog 9 (.string ⟨x.toArray⟩)=some (.string x):=by
 have:=keyOf_string_mk (P:=prog) underlying9 (s:=⟨x.toArray⟩) (by show x.toArray.size<=_;simp[maxLen];omega);simpa using this
def Yu.kept{w w':World}{b:Nat}{names:List (List UInt8)}(h:Yu w b names){row:Option Nat}(g:w.grownBy w' row)(hb:some b≠row):Yu w' b names:=by
 obtain⟨n,D,h1,h2⟩:=h;exact⟨n,D,h1.kept g hb,h2⟩
def Yu.block(h:Yu w b names)(hb:w'.heap[b]?=w.heap[b]?):Yu w' b names:=by
 obtain⟨n,D,⟨es,clock,h1,h1'⟩,h2⟩:=h;exact⟨n,D,⟨es,clock,by rw[hb];exact h1,h1'⟩,h2⟩
def Yu.lt{w:World}{b:Nat}{names:List (List UInt8)}(h:Yu w b names):b<w.heap.size:=by
 obtain⟨n,D,h1,h2⟩:=h;exact h1.lt
def Yu.made(w:World):Yu (w.alloc (.map #[] 0)) w.heap.size []:=
 ⟨0,.map [],World.ownsMap_made w _ _ _,Nat.le_refl _,rfl,(World.ownsMap_made (H:=Unit) w prog 9 (plainElem prog 3)).tidy zny,(World.ownsMap_made (H:=Unit) w prog 9 (plainElem prog 3)).isMap,λx=>⟨by simp[Maps.has,Fl.ai,Fl.bp],by simp[DataW.atKey,Fl.ai,Fl.bp];decide⟩⟩
def Yu.look(h:Yu w b names)(x:List UInt8)(hx:x.length<=100000):
  (Instr.lookup 92 (.map (some b)) (.string ⟨x.toArray⟩) true).run prog w=.ok (.tuple #[.int .i64 (max 0 (Fl.ai names x)),.bool (decide (0<=Fl.ai names x))]) w:=by
 obtain⟨n,D,h1,h2,h3,h4,h5,h6⟩:=h;obtain⟨v,ps,hr,hv⟩:=h1.look_ok zny underlying92 (yjx w) (zd:=.lit (.int .i64 0)) (zp:=[]) (plainElem_int underlying3 (by decide)) (yn7 x hx);obtain⟨c,rfl,hc,_⟩:=plainElem_int_inv underlying3 hv;rw[(h6 x).2]at hc;rw[hr,(h6 x).1];simp only[Prod.mk.injEq,DataW.lit.injEq,Lit.int.injEq,true_and]at hc;rw[hc.1]
def Yu.io(h:Yu w b names)(x:List UInt8)(hx:x.length<=100000):
  ∃(mx:Int) (tb:Bool),(Instr.lookup 92 (.map (some b)) (.string ⟨x.toArray⟩) true).run prog w=.ok (.tuple #[.int .i64 mx,.bool tb]) w/\tb=decide (0<=Fl.ai names x)/\mx=max 0 (Fl.ai names x):=⟨_,_,h.look x hx,rfl,rfl⟩
def Yu.len{w:World}{b:Nat}{names:List (List UInt8)}(h:Yu w b names)(ty:TypeId):(Builtin.len_ #[92] ty #[.map (some b)]).run prog w=.ok (.int .i64 names.length) w:=by
 obtain⟨n,D,h1,h2,h3,h4⟩:=h;rw[h1.len underlying92 ty,h3]
def Yu.put(h:Yu w b names)(x:List UInt8)(hx:x.length<=100000)(du:Fl.ai names x<0)(hn:names.length<=100):
  ∃w',(Instr.mapUpdate 92 (.map (some b)) (.string ⟨x.toArray⟩) (.int .i64 names.length)).run prog w=.ok () w'/\Yu w' b (names++[x])/\w.grownBy w' (some b):=by
 obtain⟨n,D,h1,h2,h3,h4,h5,h6⟩:=h;obtain⟨w',hr,ho,ht⟩:=h1.store zny underlying92 (by unfold maxLen;omega) (yn7 x hx) (plainElem_int underlying3 (show (Lit.int .i64 (names.length:Int)).wf=true from WalkArith.wf_i64 (by omega)));refine⟨w',hr,⟨n+1,_,ho,by simp;omega,?_,ho.tidy zny,ho.isMap,λy=>?_⟩,ht.grown⟩
 ·rw[size_put h4,(h6 x).1,h3];simp[du]
 by_cases hy:y=x
 ·subst hy
  rw[has_put_same h5 (by simp[WideAt.IsKeyLit]),atKey_put_same h5 (by simp[WideAt.IsKeyLit]),Fl.gC _ _ du];simp
 have a0:(Lit.string y)≠ .string x:=by simpa using hy
 rw[has_put_other a0,atKey_put_other a0,Fl.gU _ _ _ hy];exact h6 y
end Go.Proofs.YtfhpibppblbgcaaGreatDoor
namespace Go.Proofs.YtfhpibppblbgcaaGreatDoor
open Go.RowKit Go.Proofs.Tryz
variable{b cap p n base Lb Pb:Nat}{ao:Option Addr}{s:List UInt8}{w w':World}{P:Program}{Q:Exit->Act->World->Prop}{a:Fl.dM}{l:List Oper}{names:List (List UInt8)}{S:Nat->Prop}{v:Value}{t:Fl.cM}{e:Fl.dd}{vs:List Int}
structure Zb(w:World)(b n:Nat)(f:Nat->Value):Prop where
 c:∀j,j<n->w.cell? (Aq b j)=some (f j)
 z:∀j,w.frozen? (Aq b j)=false
abbrev rw_(l:List Value):Nat->Value:=λi=>l.getD i undef
def ptr(b:Nat):Value:=Pq b
def Zb.block{f:Nat->Value}(h:Zb w b n f)(hb:w'.heap[b]?=w.heap[b]?):Zb w' b n f:=
 ⟨λj hj=>(Qc (a:=(Aq b j)) hb).trans (h.c j hj),λj=>(Qd (a:=(Aq b j)) hb).trans (h.z j)⟩
def Zb.set{f:Nat->Value}(h:Zb w b n f){j:Nat}(hj:j<n)(v:Value):Zb (w.setCell (Aq b j) v) b n (λi=>if i=j then v else f i):=by
 refine⟨λi hi=>?_,λi=>by rw[World.frozen?_setCell];exact h.z i⟩
 by_cases a0:i=j
 ·subst a0;rw[if_pos rfl];exact World.cell?_setCell_same' _ _ _ (by simp[h.c i hi])
 rw[if_neg a0];refine(Qg _ _ _ _ ?_).trans (h.c i hi);intro hh;injection hh with _ h2;exact a0 (by omega)
def Zb.lt{f:Nat->Value}(h:Zb w b n f)(hn:0<n):b<w.heap.size:=Qe w (Aq b 0) (h.c 0 hn)
def Zb.new(w:World)(l:List Value)(t:TypeId):Zb (w.alloc (.cells l.toArray t)) w.heap.size l.length (rw_ l):=by
 refine⟨λj hj=>?_,λj=>by rw[World.frozen?,heap_alloc_new];simp⟩;rw[World.cell?_alloc_new];simp[rw_,Qa,hj]
def Zb.congr{f g:Nat->Value}(h:Zb w b n f)(hg:∀j,j<n->f j=g j):Zb w b n g:=⟨λj hj=>by rw[<-hg j hj];exact h.c j hj,h.z⟩
def Zx(w:World)(b j:Nat)(v:Value)(k:Nat)(hk:k≠b):(w.setCell (Aq b j) v).heap[k]?=w.heap[k]?:=Below.heap_setCell w (Aq b j) v k hk
def Zy(w:World)(a:Addr)(v:Value):(w.setCell a v).heap.size=w.heap.size:=by simp[World.setCell]
def Xu(S:Nat->Prop)(w:World)(p:Value)(a:Fl.dM):Prop:=
 ∃vb,p=ptr vb/\S vb/\Zb w vb 4 (rw_ [Iq (if a.var then 1 else 0),Iq a.v,.pointer none,.pointer none])
def zxz(S:Nat->Prop)(w:World)(p:Value)(e:Fl.dd):Prop:=
 (e.op= -1/\Xu S w p e.a)\/(0<=e.op/\∃vb x y,p=ptr vb/\S vb/\Zb w vb 4 (rw_ [Iq 2,Iq e.op,x,y])/\Xu S w x e.a/\Xu S w y e.b)
def zz6(K:(Nat->Prop)->World->Value->List Fl.aa->Prop)(S:Nat->Prop)(w:World)(p:Value)(s:Fl.aa):Prop:=
 ∃sb vp fv ev,p=ptr sb/\S sb/\Zb w sb 6 (rw_ [Iq s.kind,Iq s.aq,Iq s.x,vp,fv,ev])/\zxz S w vp s.e/\K S w fv s.aX/\K S w ev s.aJ
def noS:Fl.aa:=⟨0,0,0,⟨-1,⟨false,0⟩,⟨false,0⟩⟩,[],[]⟩
def Zh:Nat->(Nat->Prop)->World->Value->List Fl.aa->Prop
 |0,_,_,v,l=>l=[]/\v=Zq
 |d+1,S,w,v,l=>∃ao cap,v=.slice ao l.length cap/\l.length<=cap/\cap<=maxLen/\l.length<=16/\
   (l≠[]->∃b off,ao=some (Aq b off)/\S b/\∀i,i<l.length->∃p,w.cell? (Aq b (off+i))=some p/\zz6 (Zh d) S w p (l.getD i noS))
section
variable{S':Nat->Prop}
def Xu.kept{p:Value}(h:Xu S w p a)(hS:∀b,S b->S' b)(hw:∀b,S b->w'.heap[b]?=w.heap[b]?):Xu S' w' p a:=by
 obtain⟨vb,h1,h2,h3⟩:=h;exact⟨vb,h1,hS _ h2,h3.block (hw _ h2)⟩
def zxz.kept{p:Value}{e:Fl.dd}(h:zxz S w p e)(hS:∀b,S b->S' b)(hw:∀b,S b->w'.heap[b]?=w.heap[b]?):zxz S' w' p e:=by
 rcases h with⟨h1,h2⟩|⟨h1,vb,x,y,h2,h3,h4,h5,h6⟩
 ·exact .inl ⟨h1,h2.kept hS hw⟩
 exact .inr ⟨h1,vb,x,y,h2,hS _ h3,h4.block (hw _ h3),h5.kept hS hw,h6.kept hS hw⟩
def zz6.kept{K:(Nat->Prop)->World->Value->List Fl.aa->Prop}(hK:∀v l,K S w v l->K S' w' v l){p:Value}{s:Fl.aa}(h:zz6 K S w p s)(hS:∀b,S b->S' b)(hw:∀b,S b->w'.heap[b]?=w.heap[b]?):zz6 K S' w' p s:=by
 obtain⟨sb,vp,fv,ev,h1,h2,h3,h4,h5,h6⟩:=h;exact⟨sb,vp,fv,ev,h1,hS _ h2,h3.block (hw _ h2),h4.kept hS hw,hK _ _ h5,hK _ _ h6⟩
def Zh.kept(hS:∀b,S b->S' b)(hw:∀b,S b->w'.heap[b]?=w.heap[b]?):∀(d:Nat) (v:Value) (l:List Fl.aa),Zh d S w v l->Zh d S' w' v l
 |0,_,_,h=>h
 |d+1,v,l,h=>by
  obtain⟨ao,cap,h1,h2,h3,h4,h5⟩:=h;refine⟨ao,cap,h1,h2,h3,h4,λa0=>?_⟩;obtain⟨b,off,e,hb,hc⟩:=h5 a0;refine⟨b,off,e,hS b hb,λi hi=>?_⟩;obtain⟨p,hp,b0⟩:=hc i hi;exact⟨p,(Qc (a:=(Aq b (off+i))) (hw b hb)).trans hp,b0.kept (λv l h=>Zh.kept hS hw d v l h) hS hw⟩
end
def Zh.nil(d:Nat)(S:Nat->Prop)(w:World):Zh d S w Zq []:=by
 cases d with
 |zero=>exact⟨rfl,rfl⟩
 |succ d=>exact⟨none,0,rfl,by simp,by simp[maxLen],by simp,λh=>absurd rfl h⟩
def Yn(d:Nat)(S:Nat->Prop)(base:Nat)(w:World)(v:Value)(ts:List Fl.aa)(tl:List Value):Prop:=
 ∃ps:List Value,w.ownsRow base 156 1 v (ps.length+tl.length) (ps++tl)/\ps.length=ts.length/\∀i,i<ts.length->zz6 (Zh d) S w (ps.getD i undef) (ts.getD i noS)
def Yn.kept{d:Nat}{S S':Nat->Prop}{base:Nat}{w w':World}{v:Value}{ts:List Fl.aa}{tl:List Value}(h:Yn d S base w v ts tl)(hS:∀b,S b->S' b)(hw:∀b,S b->w'.heap[b]?=w.heap[b]?)(hv:∀b,v.ownBlock=some b->w'.heap[b]?=w.heap[b]?):Yn d S' base w' v ts tl:=by
 obtain⟨ps,h1,h2,h3⟩:=h;refine⟨ps,⟨h1.1,?_⟩,h2,λi hi=>(h3 i hi).kept (λv l h=>Zh.kept hS hw d v l h) hS hw⟩;rcases h1.2 with⟨rfl,h0⟩|⟨g,cap,cur,rfl,hb,hg,hr⟩
 ·exact .inl ⟨rfl,h0⟩
 exact .inr ⟨g,cap,cur,rfl,hb,by rw[hv g rfl];exact hg,hr⟩
def Yn.closed{d:Nat}{ts:List Fl.aa}(h:Yn d S base w v ts [])(hv:∀b,v.ownBlock=some b->S b)(hl:ts.length<=16):Zh (d+1) S w v ts:=by
 obtain⟨ps,h1,h2,h3⟩:=h;simp only[List.append_nil,List.length_nil,Nat.add_zero]at h1;rcases h1.2 with⟨rfl,h0⟩|⟨g,cap,cur,rfl,hb,hg,b0,a0,c0,ht⟩
 ·have:ts=[]:=Qi (by omega)
  subst this;exact Zh.nil _ _ _
 refine⟨_,cap,by rw[<-h2],by omega,a0,hl,λd0=>⟨g,0,rfl,hv g rfl,λi hi=>⟨ps.getD i undef,?_,h3 i hi⟩⟩⟩;have h4:=h1.cells (g:=g) rfl i (ps.getD i undef) (by rw[Qa,Qb (by omega)];simp)
 have h5:((Aq g 0):Addr).add i=(Aq g (0+i)):=by unfold Addr.add;split<;>simp_all
 rw[h5]at h4;exact h4
structure GF where
 sb:Nat
 ob:Nat
 vp:Value
 fv:Value
 ev:Value
def GF.act(g:GF)(f:Fl.aB):Value:=if f.cI then g.ev else g.fv
structure zw7(aC:Nat->Nat)(base:Nat)(w:World)(d i:Nat)(tl:List Value)(f:Fl.aB)(g:GF):Prop where
 ts:aC g.sb=10+3*i
 to:aC g.ob=11+3*i
 ta:∀b,(g.act f).ownBlock=some b->aC b=12+3*i
 co:Zb w g.ob 2 (rw_ [ptr g.sb,.bool f.cI])
 cs:Zb w g.sb 6 (rw_ [Iq f.kind,Iq f.aq,Iq 0,g.vp,g.fv,g.ev])
 hv:zxz (λb=>aC b=0) w g.vp f.e
 pa:Yn d (λb=>aC b=0) base w (g.act f) (if f.cI then f.fm else f.first) tl
 pf:f.cI=true->Zh (d+1) (λb=>aC b=0) w g.fv f.first
 pe:f.cI=false->g.ev=Zq/\f.fm=[]
def Vh(aC:Nat->Nat)(base:Nat)(w:World):Nat->List Value->List Fl.aB->List GF->Prop
 |_,_,[],[]=>True
 |d,tl,f::fs,g::gs=>zw7 aC base w d fs.length tl f g/\Vh aC base w (d+1) [ptr g.sb] fs gs
 |_,_,_,_=>False
def zw7.kept{aC who':Nat->Nat}{base:Nat}{w w':World}{d i:Nat}{tl:List Value}{f:Fl.aB}{g:GF}(h:zw7 aC base w d i tl f g)(hS:∀b,aC b=0\/aC b=10+3*i\/aC b=11+3*i\/aC b=12+3*i->who' b=aC b/\w'.heap[b]?=w.heap[b]?):zw7 who' base w' d i tl f g:=by
 have h0:∀b,aC b=0->who' b=0:=λb hb=>by rw[(hS b (.inl hb)).1];exact hb
 have h1:∀b,aC b=0->w'.heap[b]?=w.heap[b]?:=λb hb=>(hS b (.inl hb)).2;exact⟨by rw[(hS _ (.inr (.inl h.ts))).1];exact h.ts,by rw[(hS _ (.inr (.inr (.inl h.to)))).1];exact h.to,λb hb=>by have:=h.ta b hb;rw[(hS b (.inr (.inr (.inr this)))).1];exact this,h.co.block (hS _ (.inr (.inr (.inl h.to)))).2,h.cs.block (hS _ (.inr (.inl h.ts))).2,h.hv.kept h0 h1,h.pa.kept h0 h1 (λb hb=>(hS b (.inr (.inr (.inr (h.ta b hb))))).2),λhh=>Zh.kept h0 h1 _ _ _ (h.pf hh),h.pe⟩
def Vh.kept{aC who':Nat->Nat}{base:Nat}{w w':World}:∀{d:Nat} {tl:List Value} {fs:List Fl.aB} {gs:List GF},Vh aC base w d tl fs gs->(∀b,aC b=0\/(10<=aC b/\aC b<10+3*fs.length)->who' b=aC b/\w'.heap[b]?=w.heap[b]?)->Vh who' base w' d tl fs gs
 |_,_,[],[],_,_=>trivial
 |d,tl,f::fs,g::gs,h,hS=>by
  refine⟨h.1.kept (λb hb=>hS b ?_),Vh.kept h.2 (λb hb=>hS b ?_)⟩
  ·simp only[List.length_cons];omega
  simp only[List.length_cons];omega
 |_,_,[],_::_,h,_=>h.elim
 |_,_,_::_,[],h,_=>h.elim
def Vh.len{aC:Nat->Nat}{base:Nat}{w:World}:∀{d:Nat} {tl:List Value} {fs:List Fl.aB} {gs:List GF},Vh aC base w d tl fs gs->gs.length=fs.length
 |_,_,[],[],_=>rfl
 |d,tl,f::fs,g::gs,h=>by simp[Vh.len h.2]
 |_,_,[],_::_,h=>h.elim
 |_,_,_::_,[],h=>h.elim
structure Ur(w:World)(Lb n:Nat)(t:Fl.cM):Prop where
 z:∀j,w.frozen? (Aq Lb j)=false
 c0:w.cell? (Aq Lb 0)=some (Iq n)
 cu:∀i j,i<n->j<n->w.cell? (Aq Lb (1+6*i+j))=some (.bool (t i j))
 cj:∀i j,i<n->j<n->w.cell? (Aq Lb (37+6*i+j))=some (Iq (Fl.join n t i j))
 cl:w.cell? (Aq Lb 73)=some (Iq (Fl.dC n t))
def Ur.block(h:Ur w Lb n t)(hb:w'.heap[Lb]?=w.heap[Lb]?):Ur w' Lb n t:=
 have q:∀j,w'.cell? (Aq Lb j)=w.cell? (Aq Lb j):=λj=>Qc (a:=(Aq Lb j)) hb
 ⟨λj=>(Qd (a:=(Aq Lb j)) hb).trans (h.z j),(q _).trans h.c0,λi j hi hj=>(q _).trans (h.cu i j hi hj),λi j hi hj=>(q _).trans (h.cj i j hi hj),(q _).trans h.cl⟩
structure Xt where
 aC:Nat->Nat
 pl:Value
 bD:Value
 bF:Value
 bv:Value
 ov:Value
 gs:List GF
 t:Fl.cM
def Vq(Pb lm vm cm:Nat)(aq:Int)(r:Fl.RS)(m:Xt)(j:Nat):Value:=
 if j=0 then ptr Pb else if j=1 then Iq aq else if j=2 then .bool r.ae else if j=3 then Iq r.au.length
 else if j=40 then .map (some lm) else if j=41 then .map (some vm) else if j=42 then .map (some cm) else if j=43 then m.ov else if j=44 then Iq r.ap
 else .bool (m.t ((j - 4) / 6) ((j - 4) % 6))
def Yi(l:List Nat):List Value:=l.map λ(x:Nat)=>Value.int .i64 (x:Int)
def Jj(k:Nat):Nat->List Fl.aB->Prop
 |_,[]=>True
 |t,f::fs=>f.first.length+(if f.cI then 0 else t)<=k/\f.fm.length+(if f.cI then t else 0)<=k/\Jj k 1 fs
def Jj.mono{k k':Nat}(hk:k<=k'):∀{t t':Nat} {fs:List Fl.aB},t'<=t->Jj k t fs->Jj k' t' fs
 |_,_,[],_,_=>trivial
 |t,t',f::fs,ht,h=>by
  refine⟨?_,?_,Jj.mono hk (Nat.le_refl _) h.2.2⟩
  ·have:=h.1;split at this<;>simp_all<;>omega
  have:=h.2.1;split at this<;>simp_all<;>omega
def zl6(k:Nat)(fs:List Fl.aB)(n:Nat):Prop:=n+min fs.length 1<=k/\Jj k 0 fs
def zl6.mono{k k':Nat}{fs:List Fl.aB}{n:Nat}(h:zl6 k fs n)(hk:k<=k'):zl6 k' fs n:=⟨by have:=h.1;omega,Jj.mono hk (Nat.le_refl _) h.2⟩
structure RsOk(r:Fl.RS):Prop where
 cn:zl6 r.ap r.fr r.bC.length
 lv:r.au.length<=6
 ce:r.cells.length<=6
 ch:r.aj.length<=3
 lo:r.am.length<=4
 st:r.ap<=16
 fr:r.fr.length<=3
 cl:r.aZ.length=r.cells.length
 hl:r.aY.length=r.aj.length
 cD:r.aM.length=r.aG.length
 below:∀p∈r.aM.zip r.aG,p.1<r.au.length/\p.2<r.au.length
 bD:∀x∈r.aZ,x<r.au.length
 bF:∀x∈r.aY,x<r.au.length
 dy:∀f∈r.fr,f.kind=5\/f.kind=6
 head:r.ae=false->r.am=[]/\r.ap=0/\r.bC=[]/\r.fr=[]
 fT:r.ae=true->Fl.bt r.au.length r.tab=true
def Va:List GF->List Value
 |[]=>[]
 |g::gs=>match Va gs with
  |[]=>[ptr g.sb]
  |v::_=>[v]
structure zu8(base:Nat)(w:World)(r:Fl.RS)(m:Xt):Prop where
 wh:∀b,m.aC b≠5->base<=b/\b<w.heap.size
 oc:w.ownsRow base 3 1 m.bD r.aZ.length (Yi r.aZ)
 tc:∀b,m.bD.ownBlock=some b->m.aC b=3
 oh:w.ownsRow base 3 1 m.bF r.aY.length (Yi r.aY)
 th:∀b,m.bF.ownBlock=some b->m.aC b=4
 pb:Yn 3 (λb=>m.aC b=0) base w m.bv r.bC (Va m.gs)
 tb:∀b,m.bv.ownBlock=some b->m.aC b=1
 fa:Vh m.aC base w (3 - r.fr.length) [] r.fr m.gs
 oo:w.ownsRow base 250 1 m.ov r.fr.length ((m.gs.map λg=>ptr g.ob).reverse)
 to:∀b,m.ov.ownBlock=some b->m.aC b=2
 la:r.ae=true->∃Lb,m.pl=ptr Lb/\m.aC Lb=0/\Ur w Lb r.au.length r.tab
structure Zn(lo base R Pb lm vm cm:Nat)(w0 w:World)(r:Fl.RS)(aq:Int)(m:Xt):Prop where
 ok:RsOk r
 bel:Below lo w0 w
 fx:∀b,b<base->b≠R->b≠Pb->b≠lm->b≠vm->b≠cm->w.heap[b]?=w0.heap[b]?
 cV:lo<=R/\lo<=Pb/\lo<=lm/\lo<=vm/\lo<=cm
 bL:R<base/\Pb<base/\lm<base/\vm<base/\cm<base/\base<=w.heap.size
 nd:R≠Pb/\R≠lm/\R≠vm/\R≠cm/\Pb≠lm/\Pb≠vm/\Pb≠cm/\lm≠vm/\lm≠cm/\vm≠cm
 cR:Zb w R 45 (Vq Pb lm vm cm aq r m)
 cP:Zb w Pb 5 (rw_ [m.pl,m.bD,m.bF,Iq r.am.length,m.bv])
 nl:Yu w lm r.au
 nv:Yu w vm (r.cells++r.am)
 nc:Yu w cm r.aj
 tab:∀i j,i<6->j<6->m.t i j=(decide (i<r.au.length) && Fl.eQ r.aM r.aG i j)
 re:zu8 base w r m
def Yw{e:TypeId}{k:Nat}{xs:List Value}(h:w.ownsRow base e k v n xs)(hv:∀b,v.ownBlock=some b->w'.heap[b]?=w.heap[b]?):w'.ownsRow base e k v n xs:=by
 refine⟨h.1,?_⟩;rcases h.2 with⟨rfl,h0⟩|⟨g,cap,cur,rfl,hb,hg,hr⟩
 ·exact .inl ⟨rfl,h0⟩
 exact .inr ⟨g,cap,cur,rfl,hb,by rw[hv g rfl];exact hg,hr⟩
def zu8.kept{base:Nat}{w w':World}{r:Fl.RS}{m:Xt}(h:zu8 base w r m)(hz:w.heap.size<=w'.heap.size)(qw:∀b,m.aC b≠5->w'.heap[b]?=w.heap[b]?):zu8 base w' r m:=
 {wh:=λb hw=>by have:=h.wh b hw;omega,oc:=Yw h.oc (λb hv=>qw b (by rw[h.tc b hv];decide)),tc:=h.tc,oh:=Yw h.oh (λb hv=>qw b (by rw[h.th b hv];decide)),th:=h.th,pb:=h.pb.kept (λ_ h=>h) (λb hv=>qw b (by rw[hv];decide)) (λb hv=>qw b (by rw[h.tb b hv];decide)),tb:=h.tb,fa:=h.fa.kept (λb hv=>⟨rfl,qw b (by omega)⟩),oo:=Yw h.oo (λb hv=>qw b (by rw[h.to b hv];decide)),to:=h.to,la:=λhg=>by obtain⟨Lb,l1,l2,l3⟩:=h.la hg;exact⟨Lb,l1,l2,l3.block (qw Lb (by rw[l2];decide))⟩}
section
variable{lo R lm vm cm:Nat}{w0:World}{r:Fl.RS}{aq:Int}{m:Xt}
def Zn.below(h:Zn lo base R Pb lm vm cm w0 w r aq m)(hb:Bq w w'):Zn lo base R Pb lm vm cm w0 w' r aq m:=by
 obtain⟨b1,b2,b3,b4,b5,b6⟩:=h.bL;have hz:=hb.size;have q:∀b,b<w.heap.size->w'.heap[b]?=w.heap[b]?:=λb a0=>hb.block b a0;exact{ok:=h.ok,bel:=h.bel.trans (hb.mono (by have:=h.cV;omega)),fx:=λb f1 f2 f3 f4 f5 f6=>(q b (by omega)).trans (h.fx b f1 f2 f3 f4 f5 f6),cV:=h.cV,bL:=⟨b1,b2,b3,b4,b5,by omega⟩,nd:=h.nd,cR:=h.cR.block (q _ (by omega)),cP:=h.cP.block (q _ (by omega)),nl:=h.nl.block (q _ (by omega)),nv:=h.nv.block (q _ (by omega)),nc:=h.nc.block (q _ (by omega)),tab:=h.tab,re:=h.re.kept hz (λb hw=>q b (h.re.wh b hw).2)}
def Zn.drew(h:Zn lo base R Pb lm vm cm w0 w r aq m):Zn lo base R Pb lm vm cm w0 w.drew r aq m:=h.below dA
end
end Go.Proofs.YtfhpibppblbgcaaGreatDoor
namespace Go.Proofs.YtfhpibppblbgcaaGreatDoor
open Go.Proofs.Tryz
variable{b cap p n base Lb Pb:Nat}{ao:Option Addr}{s:List UInt8}{w w':World}{P:Program}{Q:Exit->Act->World->Prop}{a:Fl.dM}{l:List Oper}{names:List (List UInt8)}{S:Nat->Prop}{v:Value}{t:Fl.cM}{e:Fl.dd}{vs:List Int}
namespace Fl
def nd(x:List ar)(k:Int):ar:=nth x k.toNat
def dw(k:Int):Nat:=if k<=2 then 0 else if k<=6 then 1 else 2
def bN(p:aS)(ls:List Int):List Int:=p.cells.map (λ(x:Nat)=>(x:Int))++ls
def aL(p:aS)(a b:Int):Bool:=p.leq a.toNat b.toNat
def dS(p:aS)(x:List ar)(n:ar)(lv:List Int):Bool:=
 decide (n.a<lv.length) && (decide (dw (nd x n.b).kind=0) && (aL p (nd x n.b).ag (lv.getD n.a.toNat 0) && aL p n.ag (lv.getD n.a.toNat 0)))
def cJ(p:aS)(x:List ar)(n:ar)(w:Int):Bool:=
 decide (dw (nd x n.a).kind=0) && (decide (dw (nd x w).kind=2) && (aL p (nd x n.a).ag (nd x w).ag && aL p n.ag (nd x w).ag))
def bS(p:aS)(ls:List Int)(x:List ar)(n:ar):Bool:=
 if n.kind=0 then true
 else if n.kind=1 then decide (n.a<(bN p ls).length) && aL p ((bN p ls).getD n.a.toNat 0) n.ag
 else if n.kind=2 then decide (n.a<5) && (decide (dw (nd x n.b).kind=0) && (decide (dw (nd x n.c).kind=0) && (aL p (nd x n.b).ag n.ag && aL p (nd x n.c).ag n.ag)))
 else if n.kind=3 then dS p x n (bN p ls)
 else if n.kind=4 then dS p x n (p.aj.map λ(y:Nat)=>(y:Int))
 else if n.kind=5 then cJ p x n n.b && cJ p x n n.c
 else if n.kind=6 then cJ p x n n.b
 else n.aU.all λk=>decide (dw (nd x k).kind=1) && aL p n.ag (nd x k).ag
def follows(p:aS)(ls:List Int)(x:List ar)(n:ar):Bool:=decide (n.ag<p.n) && bS p ls x n
def da(x:List ar)(k:Int)(a:dM):Bool:=decide ((nd x k).kind=if a.var then 1 else 0) && decide ((nd x k).a=a.v)
def dv(x:List ar)(k:Int)(e:dd):Bool:=
 if e.op<0 then da x k e.a else decide ((nd x k).kind=2) && (decide ((nd x k).a=e.op) && (da x (nd x k).b e.a && da x (nd x k).c e.b))
def eY(K:Int->List aa->Bool)(x:List ar)(k:Int)(s:aa):Bool:=
  decide ((nd x k).kind=s.kind) &&
  (if s.kind=5 then dv x (nd x k).a s.e && (K (nd x k).b s.aX && K (nd x k).c s.aJ)
   else if s.kind=6 then dv x (nd x k).a s.e && K (nd x k).b s.aX
   else decide ((nd x k).a=s.x) && dv x (nd x k).b s.e)
def cU:Nat->List ar->Int->List aa->Bool
 |0,x,k,l=>decide ((nd x k).kind=7) && (decide ((nd x k).aU=[]) && decide (l=[]))
 |d+1,x,k,l=>decide ((nd x k).kind=7) && (decide ((nd x k).aU.length=l.length) && (List.range l.length).all λi=>eY (cU d x) x ((nd x k).aU.getD i 0) (l.getD i noS))
def check(p:aS)(ls:List Int)(x:List ar):Nat×Int:=
 if ls.length≠p.am\/(ls.any λv=>decide ((p.n:Int)<=v))=true then(10,-1)
 else match (List.range x.length).find? (λk=> !follows p ls x (nth x k)) with
  |some k=>(9,(k:Int))
  |none=>if cU 4 x ((x.length:Int) - 1) p.aX then(0,-1) else(10,-1)
end Fl
namespace Fl
def jn(p:aS)(a b:Int):Int:=join p.n p.leq a.toNat b.toNat
def aM(p:aS):Int:=(dC p.n p.leq:Int)
def bV(p:aS)(vs:List Int)(a:dM):Int:=if a.var then vs.getD a.v 0 else aM p
def br(p:aS)(vs:List Int)(e:dd):Int:=if e.op<0 then bV p vs e.a else jn p (bV p vs e.a) (bV p vs e.b)
def aI(K:List aa->Int->List (aa×Int))(p:aS)(vs:List Int)(u:Int)(s:aa):List (aa×Int):=
 if s.kind=3\/s.kind=4 then [(s,jn p u (br p vs s.e))]
 else if s.kind=5\/s.kind=6 then K s.aX (jn p u (br p vs s.e))++K s.aJ (jn p u (br p vs s.e)) else []
def bz(p:aS)(vs:List Int):Nat->List aa->Int->List (aa×Int)
 |0,_,_=>[]
 |d+1,l,u=>l.flatMap (aI (bz p vs d) p vs u)
def bR(p:aS)(vs:List Int)(m:aa×Int):Bool:=aL p m.2 ((if m.1.kind=4 then p.aj.map (λ(x:Nat)=>(x:Int)) else vs).getD m.1.x 0)
def bU(p:aS)(s:aa):Bool:=decide (s.kind=3) && decide (p.cells.length<=s.x)
def js(p:aS)(vs:List Int):Option (List Int):=
 match (bz p vs 4 p.aX (aM p)).find? (λm=>bU p m.1 && !bR p vs m) with
 |some m=>some (vs.set m.1.x (jn p (vs.getD m.1.x 0) m.2))
 |none=>none
def raise(p:aS):Nat->List Int->List Int
 |0,vs=>vs
 |f+1,vs=>match js p vs with
  |some vs'=>raise p f vs'
  |none=>vs
def cf(p:aS)(vs:List Int):Nat:=
 match (bz p vs 4 p.aX (aM p)).find? (λm=> !bR p vs m) with
 |some m=>m.1.aq
 |none=>0
def cO(ws:List ar)(n:ar):Int×List ar:=
 match (List.range ws.length).find? (λi=>dI (nth ws i) n) with
 |some i=>((i:Int),ws)
 |none=>((ws.length:Int),ws++[n])
def bP(p:aS)(vs:List Int)(ws:List ar)(a:dM):Int×List ar:=
 cO ws ⟨if a.var then 1 else 0,bV p vs a,a.v,0,0,[]⟩
def db(p:aS)(vs:List Int)(ws:List ar)(e:dd):Int×List ar:=
 if e.op<0 then bP p vs ws e.a
 else cO (bP p vs (bP p vs ws e.a).2 e.b).2 ⟨2,br p vs e,e.op,(bP p vs ws e.a).1,(bP p vs (bP p vs ws e.a).2 e.b).1,[]⟩
def dt(K:List ar->List aa->Int->Int×List ar)(p:aS)(vs:List Int)(u:Int)(ws:List ar)(s:aa):Int×List ar:=
 let v:=db p vs ws s.e
 let l:=jn p u (br p vs s.e)
 if s.kind=5 then cO (K (K v.2 s.aX l).2 s.aJ l).2 ⟨5,u,v.1,(K v.2 s.aX l).1,(K (K v.2 s.aX l).2 s.aJ l).1,[]⟩
 else if s.kind=6 then cO (K v.2 s.aX l).2 ⟨6,u,v.1,(K v.2 s.aX l).1,0,[]⟩
 else cO v.2 ⟨s.kind,u,s.x,v.1,0,[]⟩
def bJ(W:List ar->aa->Int×List ar):List ar->List aa->List Int×List ar
 |ws,[]=>([],ws)
 |ws,s::l=>((W ws s).1::(bJ W (W ws s).2 l).1,(bJ W (W ws s).2 l).2)
def aF(p:aS)(vs:List Int):Nat->List ar->List aa->Int->Int×List ar
 |0,ws,_,u=>cO ws ⟨7,u,0,0,0,[]⟩
 |d+1,ws,l,u=>cO (bJ (dt (aF p vs d) p vs u) ws l).2 ⟨7,u,0,0,0,(bJ (dt (aF p vs d) p vs u) ws l).1⟩
def start(p:aS):List Int:=bN p (List.replicate p.am (aM p))
def bI(p:aS):List Int:=raise p 25 (start p)
def bH(p:aS):Nat×List Int×List ar:=
 if 0<cf p (bI p) then(cf p (bI p),[],[])
 else(0,(bI p).drop p.cells.length,(aF p (bI p) 4 [] p.aX (aM p)).2)
end Fl
open Go.RowKit
section
def zt4(h:Ur w Lb n t):Cq 63 #[Pq Lb] w λe w'=>e=.returned (Iq (Fl.dC n t))/\w'=w:=by
 have c0:=h.cl;clear h
 go_enter func63,ntmps63
 go_wp2;go_ret;exact⟨rfl,rfl⟩
def zp8(h:Ur w Lb n t)(hn:n<=6)(a b:Nat)(ha:a<n)(hb:b<n):Cq 67 #[Pq Lb,Iq a,Iq b] w λe w'=>e=.returned (Iq (Fl.join n t a b))/\w'=w:=by
 have c:=h.cj a b ha hb
 have a0:(a:Int)<6:=by omega
 have b0:(b:Int)<6:=by omega
 have e:37+6*a+b=37+a*6+b:=by omega
 rw[e]at c;clear h e
 go_enter func67,ntmps67
 go_wp2;go_ret;exact⟨rfl,rfl⟩
def yn8(h:Ur w Lb n t)(hn:n<=6)(a b:Nat)(ha:a<n)(hb:b<n):Cq 120 #[Pq Lb,Iq a,Iq b] w λe w'=>e=.returned (.bool (t a b))/\w'=w:=by
 have c:=h.cu a b ha hb
 have a0:(a:Int)<6:=by omega
 have b0:(b:Int)<6:=by omega
 have e:1+6*a+b=1+a*6+b:=by omega
 rw[e]at c;clear h e
 go_enter func120,ntmps120
 go_wp2;go_ret;exact⟨rfl,rfl⟩
end
namespace Fl
structure aS.Lv(p:aS):Prop where
 n6:p.n<=6
 fT:lN p.n p.leq
 ce:∀y∈p.cells,y<p.n
 ch:∀y∈p.aj,y<p.n
def dX(p:aS)(vs:List Int):Prop:=vs.length=p.cells.length+p.am/\∀i,i<vs.length->0<=vs.getD i 0/\vs.getD i 0<p.n
def aS.Lv.aM{p:aS}(h:p.Lv):0<=aM p/\aM p<p.n:=by
 have:=(iq h.fT).1;unfold Fl.aM;omega
def aS.Lv.join{p:aS}(h:p.Lv){a b:Nat}(ha:a<p.n)(hb:b<p.n):∃k,k<p.n/\Fl.join p.n p.leq a b=(k:Int):=by
 obtain⟨k,h1,h2,_⟩:=h.fT.ki a b ha hb;exact⟨k,h1,h2⟩
def aS.Lv.jn{p:aS}(h:p.Lv){a b:Int}(ha:0<=a/\a<p.n)(hb:0<=b/\b<p.n):0<=Fl.jn p a b/\Fl.jn p a b<p.n:=by
 obtain⟨k,h1,h2⟩:=h.join (a:=a.toNat) (b:=b.toNat) (by omega) (by omega);unfold Fl.jn;rw[h2];omega
end Fl
structure LvIn(w:World)(Pb Lb:Nat)(p:Fl.aS):Prop where
 hz:Pb<w.heap.size/\Lb<w.heap.size
 p0:w.cell? (Aq Pb 0)=some (Pq Lb)
 la:Ur w Lb p.n p.leq
 lv:p.Lv
def LvIn.below{p:Fl.aS}(h:LvIn w Pb Lb p)(hb:Bq w w'):LvIn w' Pb Lb p:=
 ⟨⟨Qj h.hz.1 hb.size,Qj h.hz.2 hb.size⟩,(hb.cell (p:=(Aq Pb 0)) h.hz.1).trans h.p0,h.la.block (hb.block _ h.hz.2),h.lv⟩
def zt5(vs:List Int)(a:Fl.dM):Prop:=a.var=true->a.v<vs.length
def yn9(vs:List Int)(e:Fl.dd):Prop:=zt5 vs e.a/\(0<=e.op->zt5 vs e.b)
def ztw(h:Fl.cX vs.length e):yn9 vs e:=by
 obtain⟨-,-,h1,h2⟩:=h;unfold Fl.dU at h1 h2;exact⟨λhv=>by rwa [if_pos hv]at h1,λ_ hv=>by rwa [if_pos hv]at h2⟩
def zu9{B:Nat}{l:List Int}(h:Zv B w v l){i:Nat}(hi:i<l.length):∃b off cap,v=.slice (some (Aq b off)) l.length cap/\l.length<=cap/\l.length<=maxLen/\b<B/\w.cell? (Aq b (off+i))=some (Iq (l.getD i 0)):=by
 obtain⟨ao,cap,rfl,h1,h2,h3⟩:=h;obtain⟨b,off,rfl,hb,hc⟩:=h3 (by intro e;rw[e]at hi;cases hi);exact⟨b,off,cap,rfl,h1,h2,hb,hc i hi⟩
section
variable{p:Fl.aS}{vv:Value}
def zs3(h:LvIn w Pb Lb p)(vi:Zv w.heap.size w vv vs)(ha:Xu S w v a)(ho:zt5 vs a):
  Cq 162 #[Pq Pb,v,vv] w λe w'=>e=.returned (Iq (Fl.bV p vs a))/\Bq w w':=by
 obtain⟨vb,rfl,-,hc⟩:=ha;have c0:Cl w vb 0 (Iq (if a.var then 1 else 0)):=hc.c 0 (by omega);have c1:Cl w vb 1 (Iq a.v):=hc.c 1 (by omega);have a0:vb<w.heap.size:=hc.lt (by omega);have p0:=h.p0;obtain⟨hP,hL⟩:=h.hz;have HL:Hid (∀W,Bq w W->Cq 63 #[Pq Lb] W λe w'=>e=.returned (Iq (Fl.dC p.n p.leq))/\w'=W):=λW hW=>zt4 (h.below hW).la;unfold ptr
 cases hv:a.var
 ·rw[hv]at c0
  have HR:Hid (Fl.bV p vs a=(Fl.dC p.n p.leq:Int)):=(by show _=_;unfold Fl.bV Fl.aM;rw[hv];rfl);rw[HR.out];clear HR h vi ho hc hv
  go_enter func162,ntmps162
  go_wp2_with (go_at_call 63;refine(HL _ (Below.refl _ _)).mono ?_;rintro e w1 ⟨rfl,rfl⟩)
  go_ret;exact⟨rfl,Below.refl _ _⟩
 rw[hv]at c0;obtain⟨b,off,cap,rfl,k1,k2,k3,k4⟩:=zu9 vi (ho hv)
 have HR:Hid (Fl.bV p vs a=vs.getD a.v 0):=by show _=_;unfold Fl.bV;rw[hv];rfl
 have k5:(a.v:Int)<(vs.length:Int):=by have:=ho hv;omega
 rw[HR.out];clear HR h vi ho hc hv HL
 go_enter func162,ntmps162
 go_wp2;go_ret;exact⟨rfl,Below.refl _ _⟩
def zy5(h:p.Lv)(hv:∀i,i<vs.length->0<=vs.getD i 0/\vs.getD i 0<p.n)(ho:zt5 vs a):∃k:Nat,k<p.n/\Fl.bV p vs a=(k:Int):=by
 unfold Fl.bV
 cases hb:a.var
 ·exact⟨(Fl.aM p).toNat,by have:=h.aM;omega,by have:=h.aM;simp;omega⟩
 have:=hv a.v (ho hb);exact⟨(vs.getD a.v 0).toNat,by omega,by simp only[if_true];omega⟩
def yv8(h:LvIn w Pb Lb p)(vi:Zv w.heap.size w vv vs)(hv:∀i,i<vs.length->0<=vs.getD i 0/\vs.getD i 0<p.n)(hS:∀b,S b->b<w.heap.size)(he:zxz S w v e)(ho:yn9 vs e):
  Cq 162 #[Pq Pb,v,vv] w λr w'=>r=.returned (Iq (Fl.br p vs e))/\Bq w w':=by
 rcases he with⟨h1,h2⟩|⟨h1,vb,x,y,rfl,h3,h4,h5,h6⟩
 ·have e1:Fl.br p vs e=Fl.bV p vs e.a:=by unfold Fl.br;rw[if_pos (by omega)]
  rw[e1];exact zs3 h vi h2 ho.1
 obtain⟨la,d0,ela⟩:=zy5 h.lv hv ho.1;obtain⟨lb,hlb,elb⟩:=zy5 h.lv hv (ho.2 h1)
 have e1:Fl.br p vs e=Fl.join p.n p.leq la lb:=by unfold Fl.br Fl.jn;rw[if_neg (by omega),ela,elb,Int.toNat_natCast,Int.toNat_natCast]
 rw[e1];have c0:Cl w vb 0 (Iq 2):=h4.c 0 (by omega);have c2:Cl w vb 2 x:=h4.c 2 (by omega);have c3:Cl w vb 3 y:=h4.c 3 (by omega);have e0:vb<w.heap.size:=hS vb h3;obtain⟨hP,hL⟩:=h.hz;have p0:=h.p0;have HS:Hid (∀W,Bq w W->Cl W Pb 0 (Pq Lb)/\Cl W vb 2 x/\Cl W vb 3 y):=λW hW=>⟨(hW.cell (p:=(Aq Pb 0)) hP).trans p0,(hW.cell (p:=(Aq vb 2)) e0).trans c2,(hW.cell (p:=(Aq vb 3)) e0).trans c3⟩
 have HA:Hid (∀W,Bq w W->Cq 162 #[Pq Pb,x,vv] W λr w'=>r=.returned (Iq (la:Nat))/\Bq W w'):=λW hW=>by
  have:=zs3 (h.below hW) ((vi.below hW).mono hW.size) (h5.kept (λ_ h=>h) (λb hb=>hW.block b (hS b hb))) ho.1;rw[ela]at this;exact this
 have HB:Hid (∀W,Bq w W->Cq 162 #[Pq Pb,y,vv] W λr w'=>r=.returned (Iq (lb:Nat))/\Bq W w'):=λW hW=>by
  have:=zs3 (h.below hW) ((vi.below hW).mono hW.size) (h6.kept (λ_ h=>h) (λb hb=>hW.block b (hS b hb))) (ho.2 h1);rw[elb]at this;exact this
 have HJ:Hid (∀W,Bq w W->Cq 67 #[Pq Lb,Iq la,Iq lb] W λr w'=>r=.returned (Iq (Fl.join p.n p.leq la lb))/\w'=W):=λW hW=>zp8 (h.below hW).la h.lv.n6 la lb d0 hlb;generalize Fl.join p.n p.leq la lb=aV at*;clear h vi hv hS h1 h3 h4 h5 h6 ela elb e1 d0 hlb ho;unfold ptr
 go_enter func162,ntmps162
 go_wp2_with fail
 refine Yj HS dA [(0,0),(0,1),(0,2),(0,3),(0,4),(0,5),(0,6),(0,7),(0,8),(0,9),(0,11),(0,12),(0,13),(0,14),(0,15),(0,16),(1,10),(1,17),(1,18),(0,19)] [] [] (by kernel_rfl) (λc a d v w h=>by cases d<;>exact h) (λops _=>?_)
 iterate 16 refine Zw rfl (by rintro _ ⟨_,_,_⟩;go_simp<;>rfl) (by go_simp<;>rfl) ?_
 refine Zt ?_
 go_wp2_with fail
 refine(HA _ dA).mono ?_;rintro e1 W1 ⟨rfl,f0⟩;have a0:Hid (Bq w W1):=dA.trans f0;clear f0
 go_wp2_with fail
 refine⟨HS _ a0,?_⟩;refine Zt ?_
 go_wp2_with fail
 refine(HB _ a0).mono ?_;rintro e2 W2 ⟨rfl,g0⟩;have b0:Hid (Bq w W2):=a0.trans (g0.mono a0.size);clear g0
 go_wp2_with fail
 refine⟨HS _ b0,?_⟩;refine Zt ?_
 go_wp2_with fail
 refine(HJ _ b0).mono ?_;rintro e3 W3 ⟨rfl,rfl⟩
 go_wp2_with fail
 refine⟨HS _ b0,?_⟩;refine Zw rfl (by rintro _ ⟨_,_,_⟩;go_simp<;>rfl) (by go_simp<;>rfl) ?_;refine Zu ?_;go_wp2;go_ret;exact⟨rfl,b0⟩
end
def znx{id:Nat}{a:Act}(G:List (Nat×Nat))(hm:P.follows .mixedOrders=true)(hB:Region.lexB .any l.toArray=true)(hg:(G.all λg=>((l.toArray[g.1]?).bind λx=>x.dst)==some g.2)=true)
  (h:∀ops:Array Oper,(∀g∈G,((ops[g.1]?).bind λx=>x.dst)=some g.2)->wpStill P ops w.drew (λa'=>Q .normal a' w.drew) l a):(Code.region id l.toArray true).wp P Q a w:=
 wp_region_still_lit hm hB (h _ λg hgm=>by have:=List.all_eq_true.1 hg g hgm;simpa using this)
def At(W:World):List (Addr×Value)->Prop
 |[]=>True
 |q::l=>(q.1.block<W.heap.size/\W.cell? q.1=some q.2)/\At W l
def At.below{W W':World}(hb:Bq W W'):∀{l:List (Addr×Value)},At W l->At W' l
 |[],_=>trivial
 |_::_,⟨⟨h1,h2⟩,h3⟩=>⟨⟨Qj h1 hb.size,(hb.cell h1).trans h2⟩,At.below hb h3⟩
def At.node{W:World}{l:List (Addr×Value)}(h:At W l)(k lv a b c:Int)(v:Value)(T:TypeId)(N:Nat)(hN:W.heap.size=N):At (W.alloc (.cells #[Iq k,Iq lv,Iq a,Iq b,Iq c,v] T)) (((Aq N 0),Iq k)::((Aq N 1),Iq lv)::((Aq N 2),Iq a)::((Aq N 3),Iq b)::((Aq N 4),Iq c)::((Aq N 5),v)::l):=by
 subst hN;exact⟨⟨by simp,by simp⟩,⟨by simp,by simp⟩,⟨by simp,by simp⟩,⟨by simp,by simp⟩,⟨by simp,by simp⟩,⟨by simp,by simp⟩,h.below (bA)⟩
end Go.Proofs.YtfhpibppblbgcaaGreatDoor
