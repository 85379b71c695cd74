import Derived.Test.YtminjljgedopkaaGreatDoorM23
import Derived.Test.YtminjljgedopkaaGreatDoorM28
import Derived.Test.YtminjljgedopkaaGreatDoorM31
import Derived.Test.YtminjljgedopkaaGreatDoorM34
set_option linter.all false
set_option maxRecDepth 100000
set_option maxHeartbeats 40000000
namespace Go.Proofs.YtminjljgedopkaaGreatDoor
open Go.RowKit Go.Proofs.Tryz
def ys9:∀k,k<30->ztz[k*3]?=some (.string ⟨(Fl.wrongT.getD k ([],0,0)).1.toArray⟩)/\ztz[k*3+1]?=some (.int .i64 (Fl.wrongT.getD k ([],0,0)).2.1)/\ztz[k*3+2]?=some (.int .i64 (Fl.wrongT.getD k ([],0,0)).2.2):=by
 intro k hk
 have h:k=0\/k=1\/k=2\/k=3\/k=4\/k=5\/k=6\/k=7\/k=8\/k=9\/k=10\/k=11\/k=12\/k=13\/k=14\/k=15\/k=16\/k=17\/k=18\/k=19\/k=20\/k=21\/k=22\/k=23\/k=24\/k=25\/k=26\/k=27\/k=28\/k=29:=by omega
 rcases h with rfl|rfl|rfl|rfl|rfl|rfl|rfl|rfl|rfl|rfl|rfl|rfl|rfl|rfl|rfl|rfl|rfl|rfl|rfl|rfl|rfl|rfl|rfl|rfl|rfl|rfl|rfl|rfl|rfl|rfl<;>exact⟨by kernel_rfl,by kernel_rfl,by kernel_rfl⟩
def ysz(k:Nat)(hk:k<30):Fl.inferE (Fl.readProg (Fl.wrongT.getD k ([],0,0)).1)=((Fl.wrongT.getD k ([],0,0)).2.1,(Fl.wrongT.getD k ([],0,0)).2.2,[])/\(Fl.wrongT.getD k ([],0,0)).1.length<=1000:=by
 have hl:Fl.wrongT.length=30:=by kernel_rfl
 have hm:Fl.wrongT.getD k ([],0,0)∈Fl.wrongT:=by
  rw[List.getD_eq_getElem?_getD,List.getElem?_eq_getElem (by omega)];exact List.getElem_mem _
 refine⟨of_decide_eq_true (List.all_eq_true.1 Fl.wrongT_all _ hm),?_⟩
 have h2:(Fl.wrongT.all λx=>decide (x.1.length<=1000))=true:=by kernel_rfl
 exact of_decide_eq_true (List.all_eq_true.1 h2 _ hm)
def tK_inf2:Fl.inferE (Fl.readProg Fl.tK)=(0,-1,(Fl.inferE (Fl.readProg Fl.tK)).2.2):=by kernel_rfl
def zr6(w:World):Below w.heap.size w (Us w)/\(Us w).heap.size=w.heap.size+14:=⟨ywv w,ys6 w⟩
def ysy(a:Int)(w:World)(ha: -9223372036854775808<=a/\a<=9223372036854775807)(hk:zp1 w)(hpw:Va w):
  Calls prog 7 #[.int .i64 a] w λe w'=>e=.returned (.bool true)/\Below w.heap.size w w':=by
 have HK:Hid (∀V,Below w.heap.size w V->zp1 V/\Va V):=λV hV=>⟨hk.below hV,hpw.below (Nat.le_refl _) hV⟩
 have HIN:Hid (∀V k,Below w.heap.size w V->k<30->Calls prog 14 #[.string ⟨(Fl.wrongT.getD k ([],0,0)).1.toArray⟩] V (zr1 ((Fl.wrongT.getD k ([],0,0)).2.1,(Fl.wrongT.getD k ([],0,0)).2.2,[]) V)):=λV k hV hk=>by
  obtain⟨h1,h2⟩:=ysz k hk;have h:=zo7 (w:=V) (l:=(Fl.wrongT.getD k ([],0,0)).1) (HK.out V hV).1.er (by omega) (HK.out V hV).1.mg (HK.out V hV).1.ml;rw[h1]at h;exact h
 have HTK:Hid (∀V,Below w.heap.size w V->Calls prog 14 #[.string ⟨Fl.tK.toArray⟩] V (zr1 (0,-1,(Fl.inferE (Fl.readProg Fl.tK)).2.2) V)):=λV hV=>by
  have h:=zo7 (w:=V) (l:=Fl.tK) (HK.out V hV).1.er (by decide) (HK.out V hV).1.mg (HK.out V hV).1.ml;rw[tK_inf2]at h;exact h
 have hbK:(Fl.inferE (Fl.readProg Fl.tK)).2.2.length<=1000:=of_decide_eq_true (by kernel_rfl)
 have HTX:Hid (∀V ao cap,Below w.heap.size w V->zy4 V ao (Fl.inferE (Fl.readProg Fl.tK)).2.2->Calls prog 11 #[.slice ao (Fl.inferE (Fl.readProg Fl.tK)).2.2.length cap] V λe w'=>e=.returned (.tuple #[.string ⟨Fl.aK.toArray⟩,.int .i64 0,.int .i64 (-1)])/\Below V.heap.size V w'):=λV ao cap hV hb=>by
  refine(yw9 (HK.out V hV).1.er (HK.out V hV).2 (by omega) hb).mono ?_;rintro e w' ⟨h1,-,h3⟩;have h4:=h3 Fl.tK_inf.2.2;rw[Fl.tK_inf.2.1]at h4;exact⟨h4,h1⟩
 generalize (Fl.inferE (Fl.readProg Fl.tK)).2.2=bK at*;clear hk hpw hbK;obtain⟨sT,hsT⟩:∃sT:ByteArray,sT=⟨Fl.tK.toArray⟩:=⟨_,rfl⟩;obtain⟨sA,hsA⟩:∃sA:ByteArray,sA=⟨Fl.aK.toArray⟩:=⟨_,rfl⟩;rw[<-hsT]at HTK;rw[<-hsA]at HTX;have eT:(⟨((List.append (List.append [108,101,118,101,108,32,108,111,119,10,108,101,118,101,108,32,104,105,103,104,10,98,101,108,111,119,32,108,111,119,32,104,105,103,104] [10,99,101,108,108,32,97,32,108,111,119,10,99,101,108,108,32,115,32,104,105,103,104,10,99,104,97,110,110,101,108,32,112,117,98]) (List.append [32,108,111,119,10,99,104,97,110,110,101,108,32,115,101,99,32,104,105,103,104,10,98,101,103,105,110,10,115,101,116,32,120,32,115] [32,43,32,49,10,105,102,32,97,10,111,117,116,32,115,101,99,32,120,10,101,110,100,10,115,101,116,32,120,32,115,32,43,32,49,10])):List UInt8).toArray⟩:ByteArray)=sT:=hsT.symm;have eA:(⟨((List.append (List.append [108,111,99,97,108,115,32,49,10,48,32,118,97,114,32,49,32,49,10,49,32,110,117,109,32,48,32,49,10,50,32,111,112,32] [49,32,48,32,48,32,49,10,51,32,115,101,116,32,48,32,50,32,50,10,52,32,118,97,114,32,48,32,48,10,53,32,118,97,114]) (List.append [32,49,32,50,10,54,32,111,117,116,32,48,32,49,32,53,10,55,32,98,108,111,99,107,32,48,32,54,10,56,32,98,108,111] [99,107,32,48,10,57,32,105,102,32,48,32,52,32,55,32,56,10,49,48,32,98,108,111,99,107,32,48,32,51,32,57,32,51,10])):List UInt8).toArray⟩:ByteArray)=sA:=hsA.symm;clear hsT hsA
 go_enter func7,ntmps7
 rw[eT,eA];clear eT eA
 go_wp2_with fail
 refine(yww _).mono ?_;rintro e W1 ⟨rfl,hW1⟩
 have HB1:Hid (Below w.heap.size w W1):=by show Below _ _ _;rw[hW1];exact bA
 have HR1:Hid (W1.heap[w.heap.size]?=some (.cells ztz.toArray 49 (0,0))):=by show _=_;rw[hW1];exact heap_alloc_last _ _
 have hz1:W1.heap.size=w.heap.size+1:=by rw[hW1];simp
 clear hW1
 go_wp2_with fail
 refine(yp2 _).mono ?_;rintro e W2 ⟨rfl,hW2⟩
 have HB2:Hid (Below w.heap.size w W2):=by show Below _ _ _;rw[hW2];exact HB1.out.trans ((zr6 W1).1.mono HB1.out.size)
 have HR2:Hid (W2.heap[w.heap.size]?=some (.cells ztz.toArray 49 (0,0))):=by show _=_;rw[hW2];exact((zr6 W1).1.block _ (by omega)).trans HR1.out
 have HW2:Hid (W2=Us W1/\W1.heap.size=w.heap.size+1):=⟨hW2,hz1⟩
 have hz2:W2.heap.size=w.heap.size+15:=by rw[hW2,(zr6 W1).2,hz1]
 have hz2':w.heap.size<W2.heap.size:=by omega
 clear hW2 HR1 hz2
 go_wp2_with fail
 refine(ys5 a 37 _ ha ⟨by omega,by omega⟩).mono ?_;rintro e W3 ⟨rfl,rfl⟩;have hk37:=yqw a (n:=37) (by omega);obtain⟨k,hke⟩:∃k,k=zr4 a 37:=⟨_,rfl⟩;rw[<-hke]at hk37⊢;clear hke
 by_cases h30:k<30
 ·have hkI:(k:Int)<30:=by omega
  obtain⟨r1,r2,r3⟩:=ys9 k h30;rw[<-List.getElem?_toArray]at r1 r2 r3;have c1:W3.cell? ⟨w.heap.size,k*3,none⟩=_:=(cell_of_row _ _ (k*3) _ _ (0,0) HR2.out).trans r1
  have HC:Hid (∀V,Below W3.heap.size W3 V->V.cell? ⟨w.heap.size,k*3+1,none⟩=some (.int .i64 (Fl.wrongT.getD k ([],0,0)).2.1)/\V.cell? ⟨w.heap.size,k*3+2,none⟩=some (.int .i64 (Fl.wrongT.getD k ([],0,0)).2.2)):=λV hV=>
   ⟨(hV.cell (p:=⟨w.heap.size,k*3+1,none⟩) hz2').trans ((cell_of_row _ _ (k*3+1) _ _ (0,0) HR2.out).trans r2),(hV.cell (p:=⟨w.heap.size,k*3+2,none⟩) hz2').trans ((cell_of_row _ _ (k*3+2) _ _ (0,0) HR2.out).trans r3)⟩
  have HI:Hid (∀V,Below w.heap.size w V->Calls prog 14 #[.string ⟨(Fl.wrongT.getD k ([],0,0)).1.toArray⟩] V (zr1 ((Fl.wrongT.getD k ([],0,0)).2.1,(Fl.wrongT.getD k ([],0,0)).2.2,[]) V)):=λV hV=>HIN.out V k hV h30;generalize Fl.wrongT.getD k ([],0,0)=x at*;clear r1 r2 r3
  go_wp2_with fail
  refine(HI.out _ HB2.out).mono ?_;rintro e W4 ⟨hb4,va,n,c,rfl,ho⟩;obtain rfl:n=0:=(zy4.of_own ho).1;have HB4:Hid (Below w.heap.size w W4):=HB2.out.trans (hb4.mono HB2.out.size);obtain⟨q1,q2⟩:=HC.out _ hb4;have hz4:w.heap.size<W4.heap.size:=(by have:=hb4.size;omega);clear hb4 ho HC HI c1;go_wp2;go_ret;exact⟨rfl,HB4.out⟩
 ·have hkI:¬(k:Int)<30:=by omega
  by_cases h36:k=36
  ·subst h36
   go_wp2_with fail
   refine(HTK.out _ HB2.out).mono ?_;rintro e W4 ⟨hb4,va,n,c,rfl,ho⟩;have hby:=(zy4.of_own ho).2;have hn:n=bK.length:=(zy4.of_own ho).1;have HB4:Hid (Below w.heap.size w W4):=HB2.out.trans (hb4.mono HB2.out.size);have HTX2:Hid (Calls prog 11 #[.slice va n c] W4 λe w'=>e=.returned (.tuple #[.string sA,.int .i64 0,.int .i64 (-1)])/\Below W4.heap.size W4 w'):=by
    rw[hn];exact HTX.out W4 va c HB4.out hby
   clear hb4 ho hby hn
   go_wp2_with fail
   refine HTX2.out.mono ?_;rintro e W5 ⟨rfl,hb5⟩;have HB5:Hid (Below w.heap.size w W5):=HB4.out.trans (hb5.mono HB4.out.size);clear hb5 HTX2;go_wp2;go_ret;exact⟨rfl,HB5.out⟩
  ·obtain⟨j,hjk⟩:∃j,k=30+j:=⟨k - 30,by omega⟩
   have hj:j<6:=(by omega);have hkj:(k:Int) - 30=(j:Int):=(by omega);have hj6:((j:Int)==6)=false:=beq_eq_false_iff_ne.2 (by omega);have hjI:(j:Int)<6:=(by omega);obtain⟨rb,hrb⟩:∃rb,rb=w.heap.size+1+13:=⟨_,rfl⟩;rw[<-hrb]
   by_cases h3:j=3
   ·obtain⟨st,hst⟩:∃st:ByteArray,st=⟨Fl.rt3.toArray⟩:=⟨_,rfl⟩
    have hcell:∀i v,(zk7 W1.heap.size).toArray[18+i]?=some v->W3.cell? ⟨rb,j*6+i,none⟩=some v:=λi v h=>by
     rw[HW2.out.1,hrb,<-HW2.out.2,h3];exact Zj W1 (18+i) v h
    have HS:Hid (∀V,Below W3.heap.size W3 V->V.cell? ⟨rb,j*6,none⟩=some (.string st)/\V.cell? ⟨rb,j*6+1,none⟩=some (.slice none 0 0)/\V.cell? ⟨rb,j*6+2,none⟩=some (.int .i64 1)):=λV hV=>by
     have q:∀(b k:Nat) (v:Value),W3.cell? ⟨b,k,none⟩=some v->V.cell? ⟨b,k,none⟩=some v:=λb k v hv=>(hV.cell (p:=⟨b,k,none⟩) (World.block_lt_of_cell? W3 _ hv)).trans hv;exact⟨q _ _ _ (hcell 0 _ (by rw[hst];rfl)),q _ _ _ (hcell 1 _ rfl),q _ _ _ (hcell 2 _ rfl)⟩
    obtain⟨pl,hpl⟩:∃pl,pl=(Fl.readProg Fl.rt3).2.1:=⟨_,rfl⟩
    have HR:Hid (∀V,Below W3.heap.size W3 V->Calls prog 20 #[.string st,.slice none 0 0,.int .i64 1] V λe w'=>Below V.heap.size V w'/\e=.returned (.tuple #[.agg #[.slice none 0 0,.slice none 0 0,.bool false],.int .i64 2,.int .i64 pl])):=λV hV=>by
     have hV2:=HB2.out.trans (hV.mono HB2.out.size);have q2:(Fl.readProg Fl.rt3).1=2:=(by kernel_rfl);rw[hst];refine(zhy (w:=V) (l:=Fl.rt3) (cv:=.slice none 0 0) (cs:=[]) 1 1 (by decide) (HK.out V hV2).1.er (by decide) (HK.out V hV2).1.mg (HK.out V hV2).1.ml ⟨none,0,rfl,Nat.le_refl _,by unfold maxLen;omega,λ_ h=>(by cases h),λh=>absurd rfl h⟩ (by simp)).mono ?_;rintro e w' ⟨hb,hc⟩;refine⟨hb,?_⟩;rcases hc with⟨-,he⟩|⟨h9,-⟩|⟨h9,-⟩
     ·rw[q2,<-hpl]at he;exact he
     ·rw[q2]at h9;cases h9
     ·rw[q2]at h9;cases h9
    have hnil:∀V:World,(binOp BinOp.eql 50 (.slice none 0 0) (.slice none 0 0)).run prog V=.ok (.bool true) V:=λV=>by kernel_rfl
    clear hst hrb hjk h36 h30 hcell hpl h3
    go_wp2_with fail
    go_cut [15,16,17] (λp e at_ wc=>(∃xb,p=.pointer (some ⟨xb,0,none⟩))/\e=.int .i64 2/\at_=.int .i64 pl/\Below W3.heap.size W3 wc)
    case first=>
     refine Jo (λV=>Below W3.heap.size W3 V/\V.cell? ⟨rb,j*6,none⟩=some (.string st)/\V.cell? ⟨rb,j*6+1,none⟩=some (.slice none 0 0)/\V.cell? ⟨rb,j*6+2,none⟩=some (.int .i64 1)) [(0,0),(0,1),(0,2),(0,3),(0,4),(0,5),(0,6),(0,7),(0,8),(0,9),(0,10),(0,11),(0,12),(0,13),(0,14)] 15 20 [(0,16),(0,17),(0,18),(0,19),(1,20),(1,21),(0,22),(0,23)] [(1,15),(0,16),(0,17),(0,18),(0,19),(1,21),(0,22),(0,23)] (by kernel_rfl) (by kernel_rfl) rfl rfl [(_,_),(_,_),(_,_),(_,_),(_,_),(_,_),(_,_),(_,_),(_,_),(_,_),(_,_),(_,_),(_,_),(_,_),(_,_)] [(_,_),(_,_),(_,_),(_,_),(_,_),(_,_),(_,_),(_,_)] [(_,_),(_,_),(_,_),(_,_),(_,_),(_,_),(_,_),(_,_)] _ _ rfl rfl rfl rfl rfl (λc a d v w h=>by cases d<;>exact h) ⟨(Below.refl _ _).drew,HS.out _ (Below.refl _ _).drew⟩ (λops=>?_);simp only[List.getElem_toArray,List.getElem_cons_succ,List.getElem_cons_zero]
     iterate 15 refine Ye rfl (kE (by rintro _ ⟨_,_,_,_⟩;go_simp<;>rfl) (by go_simp<;>rfl) ?_)
     refine Vx ⟨⟨(Below.refl _ _).drew,HS.out _ (Below.refl _ _).drew⟩,?_,?_⟩
     ·unfold zy3
      go_wp2_with fail
      refine(HR.out _ (Below.refl _ _).drew).mono ?_;rintro e1 W4 ⟨hb4,rfl⟩;have HB4:Hid (Below W3.heap.size W3 W4):=(Below.refl _ _).drew.trans hb4;clear hb4
      go_wp2_with fail
      refine⟨⟨HB4.out,HS.out _ HB4.out⟩,?_⟩
      iterate 4 refine Ye rfl (kE (by rintro _ ⟨_,_,_,_⟩;go_simp<;>rfl) (by go_simp<;>rfl) ?_)
      refine Xl ?_
      go_wp2_with fail
      refine⟨⟨HB4.out.alloc HB4.out.size _,HS.out _ (HB4.out.alloc HB4.out.size _)⟩,?_⟩;refine Xl ?_
      go_wp2_with fail
      refine⟨⟨HB4.out.alloc HB4.out.size _,HS.out _ (HB4.out.alloc HB4.out.size _)⟩,?_⟩
      iterate 2 refine Ye rfl (kE (by rintro _ ⟨_,_,_,_⟩;go_simp<;>rfl) (by go_simp<;>rfl) ?_)
      refine Vx ⟨⟨HB4.out.alloc HB4.out.size _,HS.out _ (HB4.out.alloc HB4.out.size _)⟩,?_⟩;rename_i hmeet;refine hmeet _ _ ?_
      go_meet
      case rel=>exact⟨⟨_,rfl⟩,rfl,rfl,HB4.out.alloc HB4.out.size _⟩
     ·unfold zy3
      obtain⟨W0,hW0⟩:∃W0,W0=(W3.alloc (.cells #[.slice none 0 0,.slice none 0 0,.bool false] 53)).drew:=⟨_,rfl⟩;have HB0:Hid (Below W3.heap.size W3 W0):=(by show Below _ _ _;rw[hW0];exact bA.drew);have HR0:Hid (W0.heap[W3.heap.size]?=some (.cells #[.slice none 0 0,.slice none 0 0,.bool false] 53 (0,0))):=(by show _=_;rw[hW0];exact heap_alloc_last W3 _);have hz0:W3.heap.size<W0.heap.size:=(by rw[hW0];simp)
      go_wp2_with fail
      rw[<-hW0];clear hW0;refine⟨⟨HB0.out,HS.out _ HB0.out⟩,?_⟩;refine Xl ?_
      go_wp2_with fail
      refine(HR.out _ HB0.out).mono ?_;rintro e1 W4 ⟨hb4,rfl⟩;have HB4:Hid (Below W3.heap.size W3 W4):=HB0.out.trans (hb4.mono HB0.out.size);have HR4:Hid (W4.heap[W3.heap.size]?=some (.cells #[.slice none 0 0,.slice none 0 0,.bool false] 53 (0,0))):=(hb4.block _ hz0).trans HR0.out;clear hb4 HB0 HR0
      go_wp2_with fail
      refine⟨⟨HB4.out,HS.out _ HB4.out⟩,?_⟩
      iterate 4 refine Ye rfl (kE (by rintro _ ⟨_,_,_,_⟩;go_simp<;>rfl) (by go_simp<;>rfl) ?_)
      refine Xl ?_;refine Vq rfl (.tmp 15) (.tmp 110) 53 rfl W3.heap.size rfl _ #[.slice none 0 0,.slice none 0 0,.bool false] rfl 53 HR4.out (by kernel_rfl) rfl (by simp[Value.oneCell']) ?_;have hrb:=below_setRow HB4.out (Nat.le_refl _) #[.slice none 0 0,.slice none 0 0,.bool false];generalize W4.setRow W3.heap.size #[.slice none 0 0,.slice none 0 0,.bool false]=W5 at*;have HB5:Hid (Below W3.heap.size W3 W5):=hrb;clear hrb HR4
      go_wp2_with fail
      refine⟨⟨HB5.out,HS.out _ HB5.out⟩,?_⟩
      iterate 2 refine Ye rfl (kE (by rintro _ ⟨_,_,_,_⟩;go_simp<;>rfl) (by go_simp<;>rfl) ?_)
      refine Vx ⟨⟨HB5.out,HS.out _ HB5.out⟩,?_⟩;rename_i hmeet;refine hmeet _ _ ?_
      go_meet
      case rel=>exact⟨⟨_,rfl⟩,rfl,rfl,HB5.out⟩
    case rest=>
     obtain⟨⟨xb,rfl⟩,rfl,rfl,hbc⟩:=hcut;have HBC:Hid (Below w.heap.size w wc):=HB2.out.trans (hbc.mono HB2.out.size);obtain⟨-,k1,-⟩:=HS.out wc hbc;clear hbc;go_wp2;go_ret;exact⟨rfl,HBC.out⟩
   ·obtain⟨t,cs,f,F,es,sent,d,cb,eb,sa,sn,hrr⟩:=ys8 W1 j hj h3
    rw[<-HW2.out.1,HW2.out.2,<-hrb]at hrr;have HRR:Hid (Ur W3 rb j t cs f F es sent d cb eb sa sn):=hrr
    have HRUN:Hid (∀V,Below W3.heap.size W3 V->Calls prog 20 #[.string ⟨t.toArray⟩,.slice (some ⟨cb,0,none⟩) 2 2,.int .i64 f] V (zc7 (Fl.readProg t) cs F V)):=λV hV=>by
     have hV2:=HB2.out.trans (hV.mono HB2.out.size);exact zhy f F hrr.fl (HK.out V hV2).1.er (by have:=hrr.tl;omega) (HK.out V hV2).1.mg (HK.out V hV2).1.ml (hrr.below hV).u32 (by rw[hrr.cl.1];omega)
    obtain⟨st,hst⟩:∃st:ByteArray,st=⟨t.toArray⟩:=⟨_,rfl⟩;rw[<-hst]at HRUN;have HS:Hid (∀V,Below W3.heap.size W3 V->V.cell? ⟨rb,j*6,none⟩=some (.string st)/\V.cell? ⟨rb,j*6+1,none⟩=some (.slice (some ⟨cb,0,none⟩) 2 2)/\V.cell? ⟨rb,j*6+2,none⟩=some (.int .i64 f)):=λV hV=>⟨by rw[hst];exact(hrr.below hV).c0,(hrr.below hV).c1,(hrr.below hV).c2⟩
    have HR:Hid (∀V,Below W3.heap.size W3 V->Calls prog 20 #[.string st,.slice (some ⟨cb,0,none⟩) 2 2,.int .i64 f] V λe w'=>Below V.heap.size V w'/\∃Lb sa2 sc2,e=.returned (.tuple #[.agg #[.slice (some ⟨Lb,0,none⟩) 2 2,.slice sa2 sn sc2,.bool d],.int .i64 0,.int .i64 (-1)])/\(V.heap.size<=Lb/\Lb<w'.heap.size)/\w'.heap[Lb]?=some (.cells (Xm es).toArray 58 (0,0))/\w'.ownsRow V.heap.size 60 2 (.slice sa2 sn sc2) sent.length (Xn sent)):=λV hV=>by
     refine(HRUN.out V hV).mono ?_;rintro e w' ⟨hb,hc⟩;refine⟨hb,?_⟩;rcases hc with⟨h9,-⟩|⟨-,h9,-⟩|⟨-,-,Lb,sa2,sn2,sc2,he,hE⟩
     ·exact absurd hrr.q0 h9
     ·exact absurd (hrr.cl.1.trans hrr.qc.symm) h9
     ·have hl:=hrr.cl.1
      rw[hl,hrr.rd]at he;have hos:=hE.os;have hsn:=yqx hos;rw[hrr.rs]at hos hsn;obtain rfl:sn2=sn:=hsn.trans hrr.sl.symm;have hrow:=hE.row;rw[hl,hrr.rv]at hrow;exact⟨Lb,sa2,sc2,he,⟨hE.lb,hE.lt⟩,hrow,hos⟩
    clear hrr hst hrb hjk h36 h30 HRUN
    go_wp2_with fail
    have hdk:decide ((k:Int)<30)=false:=decide_eq_false (by omega);rw[hdk]
    go_cut [15,16,17] (λp e at_ wc=>∃xb Lb sa2 sc2 base,p=.pointer (some ⟨xb,0,none⟩)/\e=.int .i64 0/\at_=.int .i64 (-1)/\Below W3.heap.size W3 wc/\wc.heap[xb]?=some (.cells #[.slice (some ⟨Lb,0,none⟩) 2 2,.slice sa2 sn sc2,.bool d] 53 (0,0))/\wc.heap[Lb]?=some (.cells (Xm es).toArray 58 (0,0))/\wc.ownsRow base 60 2 (.slice sa2 sn sc2) sent.length (Xn sent))
    case first=>
     refine Jo (λV=>Below W3.heap.size W3 V/\V.cell? ⟨rb,j*6,none⟩=some (.string st)/\V.cell? ⟨rb,j*6+1,none⟩=some (.slice (some ⟨cb,0,none⟩) 2 2)/\V.cell? ⟨rb,j*6+2,none⟩=some (.int .i64 f)) [(0,0),(0,1),(0,2),(0,3),(0,4),(0,5),(0,6),(0,7),(0,8),(0,9),(0,10),(0,11),(0,12),(0,13),(0,14)] 15 20 [(0,16),(0,17),(0,18),(0,19),(1,20),(1,21),(0,22),(0,23)] [(1,15),(0,16),(0,17),(0,18),(0,19),(1,21),(0,22),(0,23)] (by kernel_rfl) (by kernel_rfl) rfl rfl [(_,_),(_,_),(_,_),(_,_),(_,_),(_,_),(_,_),(_,_),(_,_),(_,_),(_,_),(_,_),(_,_),(_,_),(_,_)] [(_,_),(_,_),(_,_),(_,_),(_,_),(_,_),(_,_),(_,_)] [(_,_),(_,_),(_,_),(_,_),(_,_),(_,_),(_,_),(_,_)] _ _ rfl rfl rfl rfl rfl (λc a d v w h=>by cases d<;>exact h) ⟨(Below.refl _ _).drew,HS.out _ (Below.refl _ _).drew⟩ (λops=>?_);simp only[List.getElem_toArray,List.getElem_cons_succ,List.getElem_cons_zero]
     iterate 15 refine Ye rfl (kE (by rintro _ ⟨_,_,_,_⟩;go_simp<;>rfl) (by go_simp<;>rfl) ?_)
     refine Vx ⟨⟨(Below.refl _ _).drew,HS.out _ (Below.refl _ _).drew⟩,?_,?_⟩
     ·unfold zy3
      go_wp2_with fail
      refine(HR.out _ (Below.refl _ _).drew).mono ?_;rintro e1 W4 ⟨hb4,Lb,sa2,sc2,rfl,hLz,hrow,hos⟩;have HB4:Hid (Below W3.heap.size W3 W4):=(Below.refl _ _).drew.trans hb4;have HM:Hid (Lb<W4.heap.size/\W4.heap[Lb]?=some (.cells (Xm es).toArray 58 (0,0))/\W4.ownsRow W3.drew.heap.size 60 2 (.slice sa2 sn sc2) sent.length (Xn sent)):=⟨hLz.2,hrow,hos⟩;clear hb4 hLz hrow hos
      go_wp2_with fail
      refine⟨⟨HB4.out,HS.out _ HB4.out⟩,?_⟩
      iterate 4 refine Ye rfl (kE (by rintro _ ⟨_,_,_,_⟩;go_simp<;>rfl) (by go_simp<;>rfl) ?_)
      refine Xl ?_
      go_wp2_with fail
      refine⟨⟨HB4.out.alloc HB4.out.size _,HS.out _ (HB4.out.alloc HB4.out.size _)⟩,?_⟩;refine Xl ?_
      go_wp2_with fail
      refine⟨⟨HB4.out.alloc HB4.out.size _,HS.out _ (HB4.out.alloc HB4.out.size _)⟩,?_⟩
      iterate 2 refine Ye rfl (kE (by rintro _ ⟨_,_,_,_⟩;go_simp<;>rfl) (by go_simp<;>rfl) ?_)
      refine Vx ⟨⟨HB4.out.alloc HB4.out.size _,HS.out _ (HB4.out.alloc HB4.out.size _)⟩,?_⟩;rename_i hmeet;refine hmeet _ _ ?_
      go_meet
      case rel=>
       exact⟨_,Lb,sa2,sc2,_,rfl,rfl,rfl,HB4.out.alloc HB4.out.size _,heap_alloc_last _ _,(Below.heap_alloc _ _ _ HM.out.1).trans HM.out.2.1,Zh HM.out.2.2 (λb hb=>Below.heap_alloc _ _ _ (HM.out.2.2.lt b hb).2)⟩
     ·unfold zy3
      obtain⟨W0,hW0⟩:∃W0,W0=(W3.alloc (.cells #[.slice none 0 0,.slice none 0 0,.bool false] 53)).drew:=⟨_,rfl⟩;have HB0:Hid (Below W3.heap.size W3 W0):=(by show Below _ _ _;rw[hW0];exact bA.drew);have HR0:Hid (W0.heap[W3.heap.size]?=some (.cells #[.slice none 0 0,.slice none 0 0,.bool false] 53 (0,0))):=(by show _=_;rw[hW0];exact heap_alloc_last W3 _);have hz0:W3.heap.size<W0.heap.size:=(by rw[hW0];simp)
      go_wp2_with fail
      rw[<-hW0];clear hW0;refine⟨⟨HB0.out,HS.out _ HB0.out⟩,?_⟩;refine Xl ?_
      go_wp2_with fail
      refine(HR.out _ HB0.out).mono ?_;rintro e1 W4 ⟨hb4,Lb,sa2,sc2,rfl,hLz,hrow,hos⟩;have HB4:Hid (Below W3.heap.size W3 W4):=HB0.out.trans (hb4.mono HB0.out.size);have HR4:Hid (W4.heap[W3.heap.size]?=some (.cells #[.slice none 0 0,.slice none 0 0,.bool false] 53 (0,0))):=(hb4.block _ hz0).trans HR0.out;have HM:Hid (W0.heap.size<=Lb/\W4.heap[Lb]?=some (.cells (Xm es).toArray 58 (0,0))/\W4.ownsRow W0.heap.size 60 2 (.slice sa2 sn sc2) sent.length (Xn sent)):=⟨hLz.1,hrow,hos⟩;clear hb4 hLz hrow hos HB0 HR0
      go_wp2_with fail
      refine⟨⟨HB4.out,HS.out _ HB4.out⟩,?_⟩
      iterate 4 refine Ye rfl (kE (by rintro _ ⟨_,_,_,_⟩;go_simp<;>rfl) (by go_simp<;>rfl) ?_)
      refine Xl ?_;refine Vq rfl (.tmp 15) (.tmp 110) 53 rfl W3.heap.size rfl _ #[.slice (some ⟨Lb,0,none⟩) 2 2,.slice sa2 sn sc2,.bool d] rfl 53 HR4.out (by kernel_rfl) rfl (by simp[Value.oneCell']) ?_;have hrow2:=setRow_heap W4 W3.heap.size _ #[.slice (some ⟨Lb,0,none⟩) 2 2,.slice sa2 sn sc2,.bool d] _ _ HR4.out;have hrb:=below_setRow HB4.out (Nat.le_refl _) #[.slice (some ⟨Lb,0,none⟩) 2 2,.slice sa2 sn sc2,.bool d];have hoth:∀b,b≠W3.heap.size->(W4.setRow W3.heap.size #[.slice (some ⟨Lb,0,none⟩) 2 2,.slice sa2 sn sc2,.bool d]).heap[b]?=W4.heap[b]?:=λb hb=>setRow_other _ _ _ _ hb;generalize W4.setRow W3.heap.size #[.slice (some ⟨Lb,0,none⟩) 2 2,.slice sa2 sn sc2,.bool d]=W5 at*
      have HE5:Hid (W5.heap[W3.heap.size]?=some (.cells #[.slice (some ⟨Lb,0,none⟩) 2 2,.slice sa2 sn sc2,.bool d] 53 (0,0))/\W5.heap[Lb]?=some (.cells (Xm es).toArray 58 (0,0))/\W5.ownsRow W0.heap.size 60 2 (.slice sa2 sn sc2) sent.length (Xn sent)):=
       ⟨hrow2,(hoth Lb (by have:=HM.out.1;omega)).trans HM.out.2.1,Zh HM.out.2.2 (λb hb=>hoth b (by have:=(HM.out.2.2.lt b hb).1;omega))⟩
      have HB5:Hid (Below W3.heap.size W3 W5):=hrb;clear hrow2 hrb hoth HM HR4
      go_wp2_with fail
      refine⟨⟨HB5.out,HS.out _ HB5.out⟩,?_⟩
      iterate 2 refine Ye rfl (kE (by rintro _ ⟨_,_,_,_⟩;go_simp<;>rfl) (by go_simp<;>rfl) ?_)
      refine Vx ⟨⟨HB5.out,HS.out _ HB5.out⟩,?_⟩;rename_i hmeet;refine hmeet _ _ ?_
      go_meet
      case rel=>exact⟨_,Lb,sa2,sc2,_,rfl,rfl,rfl,HB5.out,HE5.out.1,HE5.out.2.1,HE5.out.2.2⟩
    case rest=>
     obtain⟨xb,Lb,sa2,sc2,base,rfl,rfl,rfl,hbc,hx,hl,hos⟩:=hcut;have HRC:Hid (Ur wc rb j t cs f F es sent d cb eb sa sn):=HRR.out.below hbc;have HBC:Hid (Below w.heap.size w wc):=HB2.out.trans (hbc.mono HB2.out.size)
     have HLC:Hid (∀V,Below wc.heap.size wc V->V.cell? ⟨xb,0,none⟩=some (.slice (some ⟨Lb,0,none⟩) 2 2)/\V.cell? ⟨xb,1,none⟩=some (.slice sa2 sn sc2)/\V.cell? ⟨xb,2,none⟩=some (.bool d)/\V.cell? ⟨Lb,0,none⟩=some (.int .u32 (es.getD 0 0))/\V.cell? ⟨Lb,1,none⟩=some (.int .u32 (es.getD 1 0))):=λV hV=>by
      have q:∀(b k:Nat) (v:Value),wc.cell? ⟨b,k,none⟩=some v->V.cell? ⟨b,k,none⟩=some v:=λb k v hv=>(hV.cell (p:=⟨b,k,none⟩) (World.block_lt_of_cell? wc _ hv)).trans hv;have he:=HRC.out.el;refine⟨q _ _ _ (cell_of_row _ _ 0 _ _ (0,0) hx),q _ _ _ (cell_of_row _ _ 1 _ _ (0,0) hx),q _ _ _ (cell_of_row _ _ 2 _ _ (0,0) hx),q _ _ _ ?_,q _ _ _ ?_⟩
      ·rw[cell_of_row _ _ 0 _ _ (0,0) hl,List.getElem?_toArray];exact zz6 _ 0 (by omega)
      ·rw[cell_of_row _ _ 1 _ _ (0,0) hl,List.getElem?_toArray];exact zz6 _ 1 (by omega)
     have HOS:Hid (wc.ownsRow base 60 2 (.slice sa2 sn sc2) sent.length (Xn sent)):=hos;have hss:=HRC.out.sl;have HSS:Hid (sn=sent.length):=hss;have hsnI:(sn:Int)<=1000000:=by
      have h9:sent.length<=3:=HRC.out.sb;omega
     obtain⟨x0,x1,x2,l0,l1⟩:=HLC.out wc (Below.refl _ _);have k1:=HRC.out.c1;have k4:=HRC.out.c4;have k5:=HRC.out.c5
     have hnil:∀V:World,(binOp BinOp.eql 50 (.slice (some ⟨cb,0,none⟩) 2 2) (.slice none 0 0)).run prog V=.ok (.bool false) V:=λV=>by kernel_rfl
     clear hbc hx hl hos hss
     go_wp2_with fail
     refine zxy [(2,123),(12,133),(18,139)] (by kernel_rfl) (by kernel_rfl) (by kernel_rfl) (λops hG=>?_);have g1:=hG (2,123) (by simp);have g2:=hG (12,133) (by simp);have g3:=hG (18,139) (by simp);simp only at g1 g2 g3;clear hG
     iterate 30 still_step
     refine wpStill_nil ?_;clear x0 x1 x2 l0 l1 k1 k4 k5 hnil g1 g2 g3
     go_wp2_with fail
     go_loopw [18] (λi wr=>Below wc.heap.size wc wr/\∃i2:Nat,i2<=sn/\i=.int .i64 i2) (λi _=>sn - (intOf i).toNat)
     case atStart=>exact⟨(Below.refl _ _).drew,0,Nat.zero_le _,rfl⟩
     case round=>
      obtain⟨hbv,i,hi,rfl⟩:=hrel;have HBV:Hid (Below wc.heap.size wc wr):=hbv;clear hbv;obtain⟨x0,x1,x2,l0,l1⟩:=HLC.out wr HBV.out;have hrv:=HRC.out.below HBV.out
      by_cases hlt:i<sn
      ·have hiI:(i:Int)<(sn:Int):=by omega
       obtain⟨g,rfl,hgz,r1,r2⟩:=ywx (Zh HOS.out (λb hb=>HBV.out.block b (HOS.out.lt b hb).2)) (show i<sent.length by rw[<-HSS.out];exact hlt);obtain⟨g2,rfl,r3,r4⟩:=hrv.se i hlt;have k4:=hrv.c4;obtain⟨p1,hp1⟩:∃p1,p1=(sent.getD i (0,0)).1:=⟨_,rfl⟩;obtain⟨p2,hp2⟩:∃p2,p2=(sent.getD i (0,0)).2:=⟨_,rfl⟩;rw[<-hp1]at r1 r3;rw[<-hp2]at r2 r4
       have HS6:Hid (∀V,Below wr.heap.size wr V->V.cell? ⟨xb,1,none⟩=some (.slice (some ⟨g,0,none⟩) sn sc2)/\V.cell? ⟨rb,j*6+4,none⟩=some (.slice (some ⟨g2,0,none⟩) sn sn)/\V.cell? ⟨g,i*2,none⟩=some (.int .i64 p1)/\V.cell? ⟨g,i*2+1,none⟩=some (.int .u32 p2)/\V.cell? ⟨g2,i*2,none⟩=some (.int .i64 p1)/\V.cell? ⟨g2,i*2+1,none⟩=some (.int .u32 p2)):=λV hV=>by
        have q:∀(b k:Nat) (v:Value),wr.cell? ⟨b,k,none⟩=some v->V.cell? ⟨b,k,none⟩=some v:=λb k v hv=>(hV.cell (p:=⟨b,k,none⟩) (World.block_lt_of_cell? wr _ hv)).trans hv;exact⟨q _ _ _ x1,q _ _ _ k4,q _ _ _ r1,q _ _ _ r2,q _ _ _ r3,q _ _ _ r4⟩
       clear hrv r1 r2 r3 r4 hp1 hp2 k4 x0 x2 l0 l1 hgz
       go_wp2_with fail
       clear x1;refine Yy HS6 (Below.refl _ _).drew [] [] [] (by kernel_rfl) (λc a d v w h=>by cases d<;>exact h) (λops _=>?_)
       iterate 14 refine Ze rfl (by rintro _ ⟨_,_,_,_,_,_⟩;go_simp<;>rfl) (by go_simp<;>rfl) ?_
       refine Yt ?_;go_wp2
       go_roundw
       case rel=>exact⟨HBV.out.drew,i+1,by omega,by go_num⟩
       case measure=>simp[intOf];omega
      ·have hiI:¬(i:Int)<(sn:Int):=by omega
       have k3:=hrv.c3;have e0:=hrv.e0;have e1:=hrv.e1;obtain⟨v0,hv0⟩:∃v0,v0=es.getD 0 0:=⟨_,rfl⟩;obtain⟨v1,hv1⟩:∃v1,v1=es.getD 1 0:=⟨_,rfl⟩;rw[<-hv0]at l0 e0;rw[<-hv1]at l1 e1;clear hrv hv0 hv1 x2
       go_wp2_with fail
       refine zxy [(12,184)] (by kernel_rfl) (by kernel_rfl) (by kernel_rfl) (λops hG=>?_);have g1:=hG (12,184) (by simp);simp only at g1;clear hG
       iterate 27 still_step
       refine wpStill_nil ?_;go_wp2;go_ret;exact⟨rfl,(HBC.out.trans (HBV.out.mono HBC.out.size)).drew⟩
end Go.Proofs.YtminjljgedopkaaGreatDoor
