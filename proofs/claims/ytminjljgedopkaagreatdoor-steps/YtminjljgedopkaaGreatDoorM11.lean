import Derived.Test.YtminjljgedopkaaGreatDoorM10
set_option linter.all false
set_option maxRecDepth 100000
set_option maxHeartbeats 40000000
namespace Go.Proofs.YtminjljgedopkaaGreatDoor
open Go.RowKit Go.Proofs.Tryz
section
variable{w:World}{Cb Pb Lb Rl nb no:Nat}{vv nv hv lv:Value}{p:Fl.Prog}{vs:List Int}{x:List Fl.Node}{n:Fl.Node}
def zp2(h:Yh w Cb Pb Lb Rl vv nv hv p vs x)(hn:zy7 w nb no n lv)(ha:POk p x n.a)(within:Int)(hw:POk p x within)(hl:0<=n.level/\n.level<p.n):
  Calls prog 163 #[.pointer (some ⟨Cb,0,none⟩),.pointer (some ⟨nb,no,none⟩),.int .i64 within] w λe w'=>e=.returned (.bool (Fl.guards p x n within))/\Below w.heap.size w w':=by
 obtain⟨an,d0⟩:∃an:Nat,(an:Int)=n.a:=⟨n.a.toNat,by have:=ha.1;omega⟩;obtain⟨wn,e0⟩:∃wn:Nat,(wn:Int)=within:=⟨within.toNat,by have:=hw.1;omega⟩;have g0:=hn.hz;have n1:=hn.c1;have n2:=hn.c2;rw[<-d0]at n2;have f0:Hid (∀W,Below w.heap.size w W->Calls prog 160 #[.pointer (some ⟨Cb,0,none⟩),.int .i64 0,.int .i64 an] W λe w'=>e=.returned (.bool (decide (Fl.role (Fl.nd x n.a).kind=0)))/\w'=W.drew):=λW hW=>zl2 (h.below hW) 0 n.a ha an d0;have h0:Hid (∀W,Below w.heap.size w W->Calls prog 160 #[.pointer (some ⟨Cb,0,none⟩),.int .i64 2,.int .i64 wn] W λe w'=>e=.returned (.bool (decide (Fl.role (Fl.nd x within).kind=2)))/\w'=W.drew):=λW hW=>zl2 (h.below hW) 2 within hw wn e0;have i0:Hid (∀W,Below w.heap.size w W->Calls prog 161 #[.pointer (some ⟨Cb,0,none⟩),.int .i64 an] W λe w'=>e=.returned (.int .i64 (Fl.nd x n.a).level)/\w'=W):=λW hW=>zw3 (h.below hW) n.a ha an d0;have j0:Hid (∀W,Below w.heap.size w W->Calls prog 161 #[.pointer (some ⟨Cb,0,none⟩),.int .i64 wn] W λe w'=>e=.returned (.int .i64 (Fl.nd x within).level)/\w'=W):=λW hW=>zw3 (h.below hW) within hw wn e0;have HS:Hid (∀W,Below w.heap.size w W->W.cell? ⟨nb,no+1,none⟩=some (.int .i64 n.level)/\W.cell? ⟨nb,no+2,none⟩=some (.int .i64 (an:Nat))/\True/\True/\True):=λW hW=>⟨(hW.cell (p:=⟨nb,no+1,none⟩) g0).trans n1,(hW.cell (p:=⟨nb,no+2,none⟩) g0).trans n2,trivial,trivial,trivial⟩;have HU:Hid (∀W v,Below w.heap.size w W->Zy W.heap.size W v [(Fl.nd x n.a).level,n.level]->Calls prog 159 #[.pointer (some ⟨Cb,0,none⟩),.int .i64 (Fl.nd x within).level,v] W λe w'=>e=.returned (.bool (Fl.under p (Fl.nd x n.a).level (Fl.nd x within).level && Fl.under p n.level (Fl.nd x within).level))/\w'=W):=λW v hW hv2=>znw (h.below hW) _ ⟨hw.2.2.1,hw.2.2.2.1⟩ _ _ ⟨ha.2.2.1,ha.2.2.2.1⟩ hl v hv2;have b0:Hid (Fl.guards p x n within=(decide (Fl.role (Fl.nd x n.a).kind=0) && (decide (Fl.role (Fl.nd x within).kind=2) && (Fl.under p (Fl.nd x n.a).level (Fl.nd x within).level && Fl.under p n.level (Fl.nd x within).level)))):=rfl;generalize decide (Fl.role (Fl.nd x n.a).kind=0)=isa at*;generalize decide (Fl.role (Fl.nd x within).kind=2)=isw at*;generalize (Fl.under p (Fl.nd x n.a).level (Fl.nd x within).level && Fl.under p n.level (Fl.nd x within).level)=un at*;generalize (Fl.nd x n.a).level=la at*;generalize (Fl.nd x within).level=lw at*;obtain⟨res,c0⟩:=nmE (Fl.guards p x n within);rw[<-c0]at b0⊢;rw[<-e0];clear h hn d0 n1 n2 ha hw e0 c0
 cases isa with
 |true=>
  cases isw with
  |true=>
   go_enter func163,ntmps163
   go_wp2_with fail
   refine Yv HS ((Below.refl _ _).drew) [(0,0),(0,1),(0,2),(0,3),(0,4),(1,5),(0,6),(0,7),(0,8),(1,9),(0,10),(0,11),(0,12),(0,13),(0,14),(0,16),(0,17),(0,18),(0,19),(0,20),(0,22),(0,23),(0,24),(0,25),(1,15),(1,21),(1,26),(1,27),(0,28),(0,29)] [] [(6,13),(11,18)] (by kernel_rfl) (λc a d v w h=>by cases d<;>exact h) (λops ⟨g1,g2,_⟩=>?_)
   iterate 5 refine Zx rfl (by rintro _ ⟨_,_,_,_,_⟩;go_simp<;>rfl) (by go_simp<;>rfl) ?_
   refine Zo ?_
   go_wp2_with fail
   refine(f0.out _ ((Below.refl _ _).drew)).mono ?_;rintro e W1 ⟨rfl,a0⟩;rw[a0];clear a0 W1
   go_wp2_with fail
   refine⟨HS.out _ ((Below.refl _ _).drew.drew),?_⟩
   iterate 3 refine Zx (by first|rfl|simp[Region.wanted,yielded,g1,Act.put]) (by rintro _ ⟨_,_,_,_,_⟩;go_simp<;>rfl) (by go_simp<;>rfl) ?_
   refine Zi (by simp[Region.wanted,yielded,g1,Act.put]) ?_
   go_wp2_with fail
   refine(h0.out _ ((Below.refl _ _).drew.drew)).mono ?_;rintro e W1 ⟨rfl,a0⟩;rw[a0];clear a0 W1
   go_wp2_with fail
   refine⟨HS.out _ ((Below.refl _ _).drew.drew.drew),?_⟩
   iterate 14 refine Zx (by first|rfl|simp[Region.wanted,yielded,g2,Act.put]) (by rintro _ ⟨_,_,_,_,_⟩;go_simp<;>rfl) (by go_simp<;>rfl) ?_
   refine Zi (by simp[Region.wanted,yielded,g2,Act.put]) ?_
   go_wp2_with fail
   refine(j0.out _ ((Below.refl _ _).drew.drew.drew)).mono ?_;rintro e W1 ⟨rfl,a0⟩;rw[a0];clear a0 W1
   go_wp2_with fail
   refine⟨HS.out _ ((Below.refl _ _).drew.drew.drew),?_⟩;refine Zi (by simp[Region.wanted,yielded,g2,Act.put]) ?_
   go_wp2_with fail
   refine(i0.out _ ((Below.refl _ _).drew.drew.drew)).mono ?_;rintro e W1 ⟨rfl,a0⟩;rw[a0];clear a0 W1
   go_wp2_with fail
   refine⟨HS.out _ ((Below.refl _ _).drew.drew.drew),?_⟩;refine Zi (by simp[Region.wanted,yielded,g2,Act.put]) ?_
   go_wp2_with fail
   refine⟨HS.out _ ((bA).drew.drew.drew),?_⟩;refine Zi (by simp[Region.wanted,yielded,g2,Act.put]) ?_
   go_wp2_with fail
   refine(HU.out _ _ ((bA).drew.drew.drew) (zk7 w _ _)).mono ?_;rintro e W1 ⟨rfl,a0⟩;rw[a0];clear a0 W1
   go_wp2_with fail
   refine⟨HS.out _ ((bA).drew.drew.drew),?_⟩
   iterate 2 refine Zx rfl (by rintro _ ⟨_,_,_,_,_⟩;go_simp<;>rfl) (by go_simp<;>rfl) ?_
   refine Zs ?_;go_wp2;go_ret;exact⟨cbE b0.out,(bA).drew.drew.drew⟩
  |false=>
   go_enter func163,ntmps163
   go_wp2_with fail
   refine Yv HS ((Below.refl _ _).drew) [(0,0),(0,1),(0,2),(0,3),(0,4),(1,5),(0,6),(0,7),(0,8),(1,9),(0,10),(0,11),(0,12),(0,13),(0,14),(0,16),(0,17),(0,18),(0,19),(0,20),(0,22),(0,23),(0,24),(0,25),(1,15),(1,21),(1,26),(1,27),(0,28),(0,29)] [] [(6,13),(11,18)] (by kernel_rfl) (λc a d v w h=>by cases d<;>exact h) (λops ⟨g1,g2,_⟩=>?_)
   iterate 5 refine Zx rfl (by rintro _ ⟨_,_,_,_,_⟩;go_simp<;>rfl) (by go_simp<;>rfl) ?_
   refine Zo ?_
   go_wp2_with fail
   refine(f0.out _ ((Below.refl _ _).drew)).mono ?_;rintro e W1 ⟨rfl,a0⟩;rw[a0];clear a0 W1
   go_wp2_with fail
   refine⟨HS.out _ ((Below.refl _ _).drew.drew),?_⟩
   iterate 3 refine Zx (by first|rfl|simp[Region.wanted,yielded,g1,Act.put]) (by rintro _ ⟨_,_,_,_,_⟩;go_simp<;>rfl) (by go_simp<;>rfl) ?_
   refine Zi (by simp[Region.wanted,yielded,g1,Act.put]) ?_
   go_wp2_with fail
   refine(h0.out _ ((Below.refl _ _).drew.drew)).mono ?_;rintro e W1 ⟨rfl,a0⟩;rw[a0];clear a0 W1
   go_wp2_with fail
   refine⟨HS.out _ ((Below.refl _ _).drew.drew.drew),?_⟩
   iterate 2 refine Zx rfl (by rintro _ ⟨_,_,_,_,_⟩;go_simp<;>rfl) (by go_simp<;>rfl) ?_
   iterate 12
    refine Yw rfl (c:=false) (by simp[yielded,g2,Act.put]) (by decide) ?_
   refine Zr rfl (c:=false) (by simp[yielded,g2,Act.put]) (by decide) (HS.out _ (Below.refl _ _).drew.drew.drew) ?_;refine Zr rfl (c:=false) (by simp[yielded,g2,Act.put]) (by decide) (HS.out _ (Below.refl _ _).drew.drew.drew) ?_;refine Zr rfl (c:=false) (by simp[yielded,g2,Act.put]) (by decide) (HS.out _ (Below.refl _ _).drew.drew.drew) ?_;refine Zr rfl (c:=false) (by simp[yielded,g2,Act.put]) (by decide) (HS.out _ (Below.refl _ _).drew.drew.drew) ?_
   iterate 2 refine Zx rfl (by rintro _ ⟨_,_,_,_,_⟩;go_simp<;>rfl) (by go_simp<;>rfl) ?_
   refine Zs ?_;go_wp2;go_ret;exact⟨cbE b0.out,(Below.refl _ _).drew.drew.drew⟩
 |false=>
  go_enter func163,ntmps163
  go_wp2_with fail
  refine Yv HS ((Below.refl _ _).drew) [(0,0),(0,1),(0,2),(0,3),(0,4),(1,5),(0,6),(0,7),(0,8),(1,9),(0,10),(0,11),(0,12),(0,13),(0,14),(0,16),(0,17),(0,18),(0,19),(0,20),(0,22),(0,23),(0,24),(0,25),(1,15),(1,21),(1,26),(1,27),(0,28),(0,29)] [] [(6,13),(11,18)] (by kernel_rfl) (λc a d v w h=>by cases d<;>exact h) (λops ⟨g1,g2,_⟩=>?_)
  iterate 5 refine Zx rfl (by rintro _ ⟨_,_,_,_,_⟩;go_simp<;>rfl) (by go_simp<;>rfl) ?_
  refine Zo ?_
  go_wp2_with fail
  refine(f0.out _ ((Below.refl _ _).drew)).mono ?_;rintro e W1 ⟨rfl,a0⟩;rw[a0];clear a0 W1
  go_wp2_with fail
  refine⟨HS.out _ ((Below.refl _ _).drew.drew),?_⟩;refine Zx rfl (by rintro _ ⟨_,_,_,_,_⟩;go_simp<;>rfl) (by go_simp<;>rfl) ?_
  iterate 2
   refine Yw rfl (c:=false) (by simp[yielded,g1,Act.put]) (by decide) ?_
  refine Zr rfl (c:=false) (by simp[yielded,g1,Act.put]) (by decide) (HS.out _ (Below.refl _ _).drew.drew) ?_
  iterate 2 refine Zx rfl (by rintro _ ⟨_,_,_,_,_⟩;go_simp<;>rfl) (by go_simp<;>rfl) ?_
  iterate 12
   refine Yw rfl (c:=false) (by simp[yielded,g2,Act.put]) (by decide) ?_
  refine Zr rfl (c:=false) (by simp[yielded,g2,Act.put]) (by decide) (HS.out _ (Below.refl _ _).drew.drew) ?_;refine Zr rfl (c:=false) (by simp[yielded,g2,Act.put]) (by decide) (HS.out _ (Below.refl _ _).drew.drew) ?_;refine Zr rfl (c:=false) (by simp[yielded,g2,Act.put]) (by decide) (HS.out _ (Below.refl _ _).drew.drew) ?_;refine Zr rfl (c:=false) (by simp[yielded,g2,Act.put]) (by decide) (HS.out _ (Below.refl _ _).drew.drew) ?_
  iterate 2 refine Zx rfl (by rintro _ ⟨_,_,_,_,_⟩;go_simp<;>rfl) (by go_simp<;>rfl) ?_
  refine Zs ?_;go_wp2;go_ret;exact⟨cbE b0.out,(Below.refl _ _).drew.drew⟩
def zcw(h:Yh w Cb Pb Lb Rl vv nv hv p vs x)(hn:zy7 w nb no n lv)(hb:POk p x n.b)(hc:POk p x n.c)(hl:0<=n.level/\n.level<p.n):
  Calls prog 117 #[.pointer (some ⟨Cb,0,none⟩),.pointer (some ⟨nb,no,none⟩)] w λe w'=>e=.returned (.bool (decide (n.a<5) && (decide (Fl.role (Fl.nd x n.b).kind=0) && (decide (Fl.role (Fl.nd x n.c).kind=0) && (Fl.under p (Fl.nd x n.b).level n.level && Fl.under p (Fl.nd x n.c).level n.level)))))/\Below w.heap.size w w':=by
 obtain⟨bn,c0⟩:∃bn:Nat,(bn:Int)=n.b:=⟨n.b.toNat,by have:=hb.1;omega⟩;obtain⟨cn,d0⟩:∃cn:Nat,(cn:Int)=n.c:=⟨n.c.toNat,by have:=hc.1;omega⟩;have e0:=hn.hz;have n1:=hn.c1;have n2:=hn.c2;have n3:=hn.c3;have n4:=hn.c4;rw[<-c0]at n3;rw[<-d0]at n4;have f0:Hid (∀W,Below w.heap.size w W->Calls prog 160 #[.pointer (some ⟨Cb,0,none⟩),.int .i64 0,.int .i64 bn] W λe w'=>e=.returned (.bool (decide (Fl.role (Fl.nd x n.b).kind=0)))/\w'=W.drew):=λW hW=>zl2 (h.below hW) 0 n.b hb bn c0;have g0:Hid (∀W,Below w.heap.size w W->Calls prog 160 #[.pointer (some ⟨Cb,0,none⟩),.int .i64 0,.int .i64 cn] W λe w'=>e=.returned (.bool (decide (Fl.role (Fl.nd x n.c).kind=0)))/\w'=W.drew):=λW hW=>zl2 (h.below hW) 0 n.c hc cn d0;have h0:Hid (∀W,Below w.heap.size w W->Calls prog 161 #[.pointer (some ⟨Cb,0,none⟩),.int .i64 bn] W λe w'=>e=.returned (.int .i64 (Fl.nd x n.b).level)/\w'=W):=λW hW=>zw3 (h.below hW) n.b hb bn c0;have i0:Hid (∀W,Below w.heap.size w W->Calls prog 161 #[.pointer (some ⟨Cb,0,none⟩),.int .i64 cn] W λe w'=>e=.returned (.int .i64 (Fl.nd x n.c).level)/\w'=W):=λW hW=>zw3 (h.below hW) n.c hc cn d0;have HS:Hid (∀W,Below w.heap.size w W->W.cell? ⟨nb,no+1,none⟩=some (.int .i64 n.level)/\W.cell? ⟨nb,no+2,none⟩=some (.int .i64 n.a)/\W.cell? ⟨nb,no+3,none⟩=some (.int .i64 (bn:Nat))/\W.cell? ⟨nb,no+4,none⟩=some (.int .i64 (cn:Nat))/\True):=λW hW=>⟨(hW.cell (p:=⟨nb,no+1,none⟩) e0).trans n1,(hW.cell (p:=⟨nb,no+2,none⟩) e0).trans n2,(hW.cell (p:=⟨nb,no+3,none⟩) e0).trans n3,(hW.cell (p:=⟨nb,no+4,none⟩) e0).trans n4,trivial⟩;have HU:Hid (∀W v,Below w.heap.size w W->Zy W.heap.size W v [(Fl.nd x n.b).level,(Fl.nd x n.c).level]->Calls prog 159 #[.pointer (some ⟨Cb,0,none⟩),.int .i64 n.level,v] W λe w'=>e=.returned (.bool (Fl.under p (Fl.nd x n.b).level n.level && Fl.under p (Fl.nd x n.c).level n.level))/\w'=W):=λW v hW hv2=>znw (h.below hW) _ hl _ _ ⟨hb.2.2.1,hb.2.2.2.1⟩ ⟨hc.2.2.1,hc.2.2.2.1⟩ v hv2;generalize decide (Fl.role (Fl.nd x n.b).kind=0)=isa at*;generalize decide (Fl.role (Fl.nd x n.c).kind=0)=isw at*;generalize (Fl.under p (Fl.nd x n.b).level n.level && Fl.under p (Fl.nd x n.c).level n.level)=un at*;generalize (Fl.nd x n.b).level=la at*;generalize (Fl.nd x n.c).level=lw at*;clear h hn n1 n2 n3 n4 hb hc c0 d0
 by_cases h5:n.a<5
 ·have b0:Hid ((decide (n.a<5) && (isa && (isw && un)))=(isa && (isw && un))):=by show _=_;rw[decide_eq_true h5,Bool.true_and]
  cases isa with
  |true=>
   cases isw with
   |true=>
    go_enter func117,ntmps117
    go_wp2_with fail
    refine Yv HS ((Below.refl _ _).drew) [(0,0),(0,1),(0,2),(0,3),(0,4),(0,5),(0,6),(0,7),(0,8),(0,9),(0,10),(1,11),(0,12),(0,13),(0,14),(0,15),(0,16),(0,17),(0,18),(1,19),(0,20),(0,21),(0,22),(0,23),(0,24),(0,25),(0,26),(0,27),(0,28),(0,29),(0,30),(0,31),(0,33),(0,34),(0,35),(0,36),(0,37),(1,32),(1,38),(1,39),(1,40),(0,41),(0,42)] [] [(5,10),(13,18),(21,26)] (by kernel_rfl) (λc a d v w h=>by cases d<;>exact h) (λops ⟨g1,g2,g3,_⟩=>?_)
    iterate 11 refine Zx (by first|rfl|simp[Region.wanted,yielded,g1,Act.put]) (by rintro _ ⟨_,_,_,_,_⟩;go_simp<;>rfl) (by go_simp<;>rfl) ?_
    refine Zi (by simp[Region.wanted,yielded,g1,Act.put]) ?_
    go_wp2_with fail
    refine(f0.out _ ((Below.refl _ _).drew)).mono ?_;rintro e W1 ⟨rfl,a0⟩;rw[a0];clear a0 W1
    go_wp2_with fail
    refine⟨HS.out _ ((Below.refl _ _).drew.drew),?_⟩
    iterate 7 refine Zx (by first|rfl|simp[Region.wanted,yielded,g2,Act.put]) (by rintro _ ⟨_,_,_,_,_⟩;go_simp<;>rfl) (by go_simp<;>rfl) ?_
    refine Zi (by simp[Region.wanted,yielded,g2,Act.put]) ?_
    go_wp2_with fail
    refine(g0.out _ ((Below.refl _ _).drew.drew)).mono ?_;rintro e W1 ⟨rfl,a0⟩;rw[a0];clear a0 W1
    go_wp2_with fail
    refine⟨HS.out _ ((Below.refl _ _).drew.drew.drew),?_⟩
    iterate 17 refine Zx (by first|rfl|simp[Region.wanted,yielded,g3,Act.put]) (by rintro _ ⟨_,_,_,_,_⟩;go_simp<;>rfl) (by go_simp<;>rfl) ?_
    refine Zi (by simp[Region.wanted,yielded,g3,Act.put]) ?_
    go_wp2_with fail
    refine(h0.out _ ((Below.refl _ _).drew.drew.drew)).mono ?_;rintro e W1 ⟨rfl,a0⟩;rw[a0];clear a0 W1
    go_wp2_with fail
    refine⟨HS.out _ ((Below.refl _ _).drew.drew.drew),?_⟩;refine Zi (by simp[Region.wanted,yielded,g3,Act.put]) ?_
    go_wp2_with fail
    refine(i0.out _ ((Below.refl _ _).drew.drew.drew)).mono ?_;rintro e W1 ⟨rfl,a0⟩;rw[a0];clear a0 W1
    go_wp2_with fail
    refine⟨HS.out _ ((Below.refl _ _).drew.drew.drew),?_⟩;refine Zi (by simp[Region.wanted,yielded,g3,Act.put]) ?_
    go_wp2_with fail
    refine⟨HS.out _ ((bA).drew.drew.drew),?_⟩;refine Zi (by simp[Region.wanted,yielded,g3,Act.put]) ?_
    go_wp2_with fail
    refine(HU.out _ _ ((bA).drew.drew.drew) (zk7 w _ _)).mono ?_;rintro e W1 ⟨rfl,a0⟩;rw[a0];clear a0 W1
    go_wp2_with fail
    refine⟨HS.out _ ((bA).drew.drew.drew),?_⟩
    iterate 2 refine Zx rfl (by rintro _ ⟨_,_,_,_,_⟩;go_simp<;>rfl) (by go_simp<;>rfl) ?_
    refine Zs ?_;go_wp2;go_ret;exact⟨cbE b0.out,(bA).drew.drew.drew⟩
   |false=>
    go_enter func117,ntmps117
    go_wp2_with fail
    refine Yv HS ((Below.refl _ _).drew) [(0,0),(0,1),(0,2),(0,3),(0,4),(0,5),(0,6),(0,7),(0,8),(0,9),(0,10),(1,11),(0,12),(0,13),(0,14),(0,15),(0,16),(0,17),(0,18),(1,19),(0,20),(0,21),(0,22),(0,23),(0,24),(0,25),(0,26),(0,27),(0,28),(0,29),(0,30),(0,31),(0,33),(0,34),(0,35),(0,36),(0,37),(1,32),(1,38),(1,39),(1,40),(0,41),(0,42)] [] [(5,10),(13,18),(21,26)] (by kernel_rfl) (λc a d v w h=>by cases d<;>exact h) (λops ⟨g1,g2,g3,_⟩=>?_)
    iterate 11 refine Zx (by first|rfl|simp[Region.wanted,yielded,g1,Act.put]) (by rintro _ ⟨_,_,_,_,_⟩;go_simp<;>rfl) (by go_simp<;>rfl) ?_
    refine Zi (by simp[Region.wanted,yielded,g1,Act.put]) ?_
    go_wp2_with fail
    refine(f0.out _ ((Below.refl _ _).drew)).mono ?_;rintro e W1 ⟨rfl,a0⟩;rw[a0];clear a0 W1
    go_wp2_with fail
    refine⟨HS.out _ ((Below.refl _ _).drew.drew),?_⟩
    iterate 7 refine Zx (by first|rfl|simp[Region.wanted,yielded,g2,Act.put]) (by rintro _ ⟨_,_,_,_,_⟩;go_simp<;>rfl) (by go_simp<;>rfl) ?_
    refine Zi (by simp[Region.wanted,yielded,g2,Act.put]) ?_
    go_wp2_with fail
    refine(g0.out _ ((Below.refl _ _).drew.drew)).mono ?_;rintro e W1 ⟨rfl,a0⟩;rw[a0];clear a0 W1
    go_wp2_with fail
    refine⟨HS.out _ ((Below.refl _ _).drew.drew.drew),?_⟩
    iterate 2 refine Zx rfl (by rintro _ ⟨_,_,_,_,_⟩;go_simp<;>rfl) (by go_simp<;>rfl) ?_
    iterate 15
     refine Yw rfl (c:=false) (by simp[yielded,g3,Act.put]) (by decide) ?_
    refine Zr rfl (c:=false) (by simp[yielded,g3,Act.put]) (by decide) (HS.out _ (Below.refl _ _).drew.drew.drew) ?_;refine Zr rfl (c:=false) (by simp[yielded,g3,Act.put]) (by decide) (HS.out _ (Below.refl _ _).drew.drew.drew) ?_;refine Zr rfl (c:=false) (by simp[yielded,g3,Act.put]) (by decide) (HS.out _ (Below.refl _ _).drew.drew.drew) ?_;refine Zr rfl (c:=false) (by simp[yielded,g3,Act.put]) (by decide) (HS.out _ (Below.refl _ _).drew.drew.drew) ?_
    iterate 2 refine Zx rfl (by rintro _ ⟨_,_,_,_,_⟩;go_simp<;>rfl) (by go_simp<;>rfl) ?_
    refine Zs ?_;go_wp2;go_ret;exact⟨cbE b0.out,(Below.refl _ _).drew.drew.drew⟩
  |false=>
   go_enter func117,ntmps117
   go_wp2_with fail
   refine Yv HS ((Below.refl _ _).drew) [(0,0),(0,1),(0,2),(0,3),(0,4),(0,5),(0,6),(0,7),(0,8),(0,9),(0,10),(1,11),(0,12),(0,13),(0,14),(0,15),(0,16),(0,17),(0,18),(1,19),(0,20),(0,21),(0,22),(0,23),(0,24),(0,25),(0,26),(0,27),(0,28),(0,29),(0,30),(0,31),(0,33),(0,34),(0,35),(0,36),(0,37),(1,32),(1,38),(1,39),(1,40),(0,41),(0,42)] [] [(5,10),(13,18),(21,26)] (by kernel_rfl) (λc a d v w h=>by cases d<;>exact h) (λops ⟨g1,g2,g3,_⟩=>?_)
   iterate 11 refine Zx (by first|rfl|simp[Region.wanted,yielded,g1,Act.put]) (by rintro _ ⟨_,_,_,_,_⟩;go_simp<;>rfl) (by go_simp<;>rfl) ?_
   refine Zi (by simp[Region.wanted,yielded,g1,Act.put]) ?_
   go_wp2_with fail
   refine(f0.out _ ((Below.refl _ _).drew)).mono ?_;rintro e W1 ⟨rfl,a0⟩;rw[a0];clear a0 W1
   go_wp2_with fail
   refine⟨HS.out _ ((Below.refl _ _).drew.drew),?_⟩
   iterate 2 refine Zx rfl (by rintro _ ⟨_,_,_,_,_⟩;go_simp<;>rfl) (by go_simp<;>rfl) ?_
   iterate 5
    refine Yw rfl (c:=false) (by simp[yielded,g2,Act.put]) (by decide) ?_
   refine Zr rfl (c:=false) (by simp[yielded,g2,Act.put]) (by decide) (HS.out _ (Below.refl _ _).drew.drew) ?_
   iterate 2 refine Zx rfl (by rintro _ ⟨_,_,_,_,_⟩;go_simp<;>rfl) (by go_simp<;>rfl) ?_
   iterate 15
    refine Yw rfl (c:=false) (by simp[yielded,g3,Act.put]) (by decide) ?_
   refine Zr rfl (c:=false) (by simp[yielded,g3,Act.put]) (by decide) (HS.out _ (Below.refl _ _).drew.drew) ?_;refine Zr rfl (c:=false) (by simp[yielded,g3,Act.put]) (by decide) (HS.out _ (Below.refl _ _).drew.drew) ?_;refine Zr rfl (c:=false) (by simp[yielded,g3,Act.put]) (by decide) (HS.out _ (Below.refl _ _).drew.drew) ?_;refine Zr rfl (c:=false) (by simp[yielded,g3,Act.put]) (by decide) (HS.out _ (Below.refl _ _).drew.drew) ?_
   iterate 2 refine Zx rfl (by rintro _ ⟨_,_,_,_,_⟩;go_simp<;>rfl) (by go_simp<;>rfl) ?_
   refine Zs ?_;go_wp2;go_ret;exact⟨cbE b0.out,(Below.refl _ _).drew.drew⟩
 have b0:Hid ((decide (n.a<5) && (isa && (isw && un)))=false):=by show _=_;rw[decide_eq_false h5,Bool.false_and]
 have d5:(n.a<5)=False:=eq_false h5;clear h5
 go_enter func117,ntmps117
 go_wp2_with fail
 refine Yv HS ((Below.refl _ _).drew) [(0,0),(0,1),(0,2),(0,3),(0,4),(0,5),(0,6),(0,7),(0,8),(0,9),(0,10),(1,11),(0,12),(0,13),(0,14),(0,15),(0,16),(0,17),(0,18),(1,19),(0,20),(0,21),(0,22),(0,23),(0,24),(0,25),(0,26),(0,27),(0,28),(0,29),(0,30),(0,31),(0,33),(0,34),(0,35),(0,36),(0,37),(1,32),(1,38),(1,39),(1,40),(0,41),(0,42)] [] [(5,10),(13,18),(21,26)] (by kernel_rfl) (λc a d v w h=>by cases d<;>exact h) (λops ⟨g1,g2,g3,_⟩=>?_)
 iterate 6 refine Zx rfl (by rintro _ ⟨_,_,_,_,_⟩;go_simp<;>rfl) (by go_simp<;>rfl) ?_
 iterate 5
  refine Yw rfl (c:=false) (by simp[yielded,g1,Act.put,d5]) (by decide) ?_
 refine Zr rfl (c:=false) (by simp[yielded,g1,Act.put,d5]) (by decide) (HS.out _ (Below.refl _ _).drew) ?_
 iterate 2 refine Zx rfl (by rintro _ ⟨_,_,_,_,_⟩;go_simp<;>rfl) (by go_simp<;>rfl) ?_
 iterate 5
  refine Yw rfl (c:=false) (by simp[yielded,g2,Act.put,d5]) (by decide) ?_
 refine Zr rfl (c:=false) (by simp[yielded,g2,Act.put,d5]) (by decide) (HS.out _ (Below.refl _ _).drew) ?_
 iterate 2 refine Zx rfl (by rintro _ ⟨_,_,_,_,_⟩;go_simp<;>rfl) (by go_simp<;>rfl) ?_
 iterate 15
  refine Yw rfl (c:=false) (by simp[yielded,g3,Act.put,d5]) (by decide) ?_
 refine Zr rfl (c:=false) (by simp[yielded,g3,Act.put,d5]) (by decide) (HS.out _ (Below.refl _ _).drew) ?_;refine Zr rfl (c:=false) (by simp[yielded,g3,Act.put,d5]) (by decide) (HS.out _ (Below.refl _ _).drew) ?_;refine Zr rfl (c:=false) (by simp[yielded,g3,Act.put,d5]) (by decide) (HS.out _ (Below.refl _ _).drew) ?_;refine Zr rfl (c:=false) (by simp[yielded,g3,Act.put,d5]) (by decide) (HS.out _ (Below.refl _ _).drew) ?_
 iterate 2 refine Zx rfl (by rintro _ ⟨_,_,_,_,_⟩;go_simp<;>rfl) (by go_simp<;>rfl) ?_
 refine Zs ?_;go_wp2;go_ret;exact⟨cbE b0.out,(Below.refl _ _).drew⟩
end
section
variable{w:World}{Cb Pb Lb Rl nb no:Nat}{vv nv hv lv:Value}{p:Fl.Prog}{vs:List Int}{x:List Fl.Node}{n:Fl.Node}
def Xi{B:Nat}{w:World}{v:Value}{l:List Int}(h:Zy B w v l):∃a c,v=.slice a l.length c:=by obtain⟨a,c,e,-⟩:=h;exact⟨a,c,e⟩
def zf4(a b:Value):Calls prog 115 #[a,b] w λe w'=>e=.returned (.bool true)/\Below w.heap.size w w':=by
 go_enter func115,ntmps115
 go_wp2;go_ret;exact⟨rfl,Below.refl _ _⟩
def zf5(h:Yh w Cb Pb Lb Rl vv nv hv p vs x)(hn:zy7 w nb no n lv)(ha:0<=n.a)(hb:POk p x n.b)(hl:0<=n.level/\n.level<p.n)(b0:∀y∈vs,0<=y/\y<p.n)(c0:vs.length<=100):
  Calls prog 118 #[.pointer (some ⟨Cb,0,none⟩),.pointer (some ⟨nb,no,none⟩)] w λe w'=>e=.returned (.bool (Fl.mayGo p x n vs))/\Below w.heap.size w w':=by
 have HM:Hid (Calls prog 162 #[.pointer (some ⟨Cb,0,none⟩),.pointer (some ⟨nb,no,none⟩),vv] w λe w'=>e=.returned (.bool (Fl.mayGo p x n vs))/\Below w.heap.size w w'):=zd1 h hn ha hb hl vv vs h.vi b0 c0;obtain⟨a,c,rfl⟩:=Xi h.vi;have c1:=h.c1;clear h hn hb
 go_enter func118,ntmps118
 go_wp2_with fail
 refine HM.out.mono ?_;rintro e w1 ⟨rfl,a0⟩;have HW:=Zz a0;clear a0;go_wp2;go_ret;exact⟨rfl,HW.out⟩
def zf6(h:Yh w Cb Pb Lb Rl vv nv hv p vs x)(hn:zy7 w nb no n lv)(ha:0<=n.a)(hb:POk p x n.b)(hl:0<=n.level/\n.level<p.n)(d0:∀y∈p.chans,y<p.n)(e0:p.chans.length<=100):
  Calls prog 119 #[.pointer (some ⟨Cb,0,none⟩),.pointer (some ⟨nb,no,none⟩)] w λe w'=>e=.returned (.bool (Fl.mayGo p x n (p.chans.map λ(y:Nat)=>(y:Int))))/\Below w.heap.size w w':=by
 have HM:Hid (Calls prog 162 #[.pointer (some ⟨Cb,0,none⟩),.pointer (some ⟨nb,no,none⟩),hv] w λe w'=>e=.returned (.bool (Fl.mayGo p x n (p.chans.map λ(y:Nat)=>(y:Int))))/\Below w.heap.size w w'):=zd1 h hn ha hb hl hv _ h.hi (by intro y hy;obtain⟨z,hz,rfl⟩:=List.mem_map.1 hy;have:=d0 z hz;omega) (by simpa using e0);obtain⟨a,c,a0⟩:=Xi h.hi;rw[List.length_map]at a0;subst a0;have c0:=h.c0;have p2:=h.p2;clear h hn hb
 go_enter func119,ntmps119
 go_wp2_with fail
 refine HM.out.mono ?_;rintro e w1 ⟨rfl,b0⟩;have HW:=Zz b0;clear b0;go_wp2;go_ret;exact⟨rfl,HW.out⟩
def zk8(h:Yh w Cb Pb Lb Rl vv nv hv p vs x)(hn:zy7 w nb no n lv)(ha:POk p x n.a)(hb:POk p x n.b)(hl:0<=n.level/\n.level<p.n):
  Calls prog 121 #[.pointer (some ⟨Cb,0,none⟩),.pointer (some ⟨nb,no,none⟩)] w λe w'=>e=.returned (.bool (Fl.guards p x n n.b))/\Below w.heap.size w w':=by
 have HM:Hid (Calls prog 163 #[.pointer (some ⟨Cb,0,none⟩),.pointer (some ⟨nb,no,none⟩),.int .i64 n.b] w λe w'=>e=.returned (.bool (Fl.guards p x n n.b))/\Below w.heap.size w w'):=zp2 h hn ha n.b hb hl;have n3:=hn.c3;clear h hn hb ha
 go_enter func121,ntmps121
 go_wp2_with fail
 refine HM.out.mono ?_;rintro e w1 ⟨rfl,a0⟩;have HW:=Zz a0;clear a0;go_wp2;go_ret;exact⟨rfl,HW.out⟩
def zcv(h:Yh w Cb Pb Lb Rl vv nv hv p vs x)(hn:zy7 w nb no n lv)(ha:POk p x n.a)(hb:POk p x n.b)(hc:POk p x n.c)(hl:0<=n.level/\n.level<p.n):
  Calls prog 120 #[.pointer (some ⟨Cb,0,none⟩),.pointer (some ⟨nb,no,none⟩)] w λe w'=>e=.returned (.bool (Fl.guards p x n n.b && Fl.guards p x n n.c))/\Below w.heap.size w w':=by
 have HM:Hid (Calls prog 163 #[.pointer (some ⟨Cb,0,none⟩),.pointer (some ⟨nb,no,none⟩),.int .i64 n.b] w λe w'=>e=.returned (.bool (Fl.guards p x n n.b))/\Below w.heap.size w w'):=zp2 h hn ha n.b hb hl;have HN:Hid (∀W,Below w.heap.size w W->W.cell? ⟨nb,no+4,none⟩=some (.int .i64 n.c)/\Calls prog 163 #[.pointer (some ⟨Cb,0,none⟩),.pointer (some ⟨nb,no,none⟩),.int .i64 n.c] W λe w'=>e=.returned (.bool (Fl.guards p x n n.c))/\Below W.heap.size W w'):=λW hW=>⟨(hn.below hW).c4,zp2 (h.below hW) (hn.below hW) ha n.c hc hl⟩;have n3:=hn.c3;generalize Fl.guards p x n n.b=gb at*;generalize Fl.guards p x n n.c=gc at*;clear h hn hb ha hc
 go_enter func120,ntmps120
 go_wp2_with fail
 refine HM.out.mono ?_;rintro e w1 ⟨rfl,a0⟩;have HW:=Zz a0;obtain⟨n4,hg⟩:=HN.out w1 a0;have HG:=Zz hg;clear a0 hg HN
 cases gb with
 |false=>
  go_wp2;go_ret;exact⟨rfl,HW.out⟩
 |true=>
  go_wp2_with fail
  refine HG.out.mono ?_;rintro e w2 ⟨rfl,b0⟩;have c0:Hid (Below w.heap.size w w2):=HW.out.trans (b0.mono HW.out.size);clear b0;go_wp2;go_ret;exact⟨rfl,c0.out⟩
end
def zw4(p:Fl.Prog)(x:List Fl.Node)(n:Fl.Node)(k:Int):Bool:=decide (Fl.role (Fl.nd x k).kind=1) && Fl.under p n.level (Fl.nd x k).level
section
variable{w:World}{Cb Pb Lb Rl nb no:Nat}{vv nv hv lv:Value}{p:Fl.Prog}{vs:List Int}{x:List Fl.Node}{n:Fl.Node}
def zk9(h:Yh w Cb Pb Lb Rl vv nv hv p vs x)(hn:zy7 w nb no n lv)(hk:∀k∈n.list,POk p x k)(t0:n.list.length<=100)(hl:0<=n.level/\n.level<p.n):
  Calls prog 122 #[.pointer (some ⟨Cb,0,none⟩),.pointer (some ⟨nb,no,none⟩)] w λe w'=>e=.returned (.bool (n.list.all (zw4 p x n)))/\Below w.heap.size w w':=by
 obtain⟨ao,cap,rfl,hc,-,f0⟩:=hn.li;have n5:=hn.c5;have HS:Hid (∀W,Below w.heap.size w W->Below w.heap.size w W/\W.cell? ⟨nb,no+1,none⟩=some (.int .i64 n.level)):=λW hW=>⟨hW,(hn.below hW).c1⟩
 have HE:Hid (∀i,(hi:i<n.list.length)->∃b off,ao=some ⟨b,off,none⟩/\∃y:Nat,(y:Int)=n.list[i]/\(∀W,Below w.heap.size w W->W.cell? ⟨b,off+i,none⟩=some (.int .i64 (y:Int)))/\(∀W,Below w.heap.size w W->Calls prog 160 #[.pointer (some ⟨Cb,0,none⟩),.int .i64 1,.int .i64 y] W λe w'=>e=.returned (.bool (decide (Fl.role (Fl.nd x n.list[i]).kind=1)))/\w'=W.drew)/\
   (∀W,Below w.heap.size w W->Calls prog 161 #[.pointer (some ⟨Cb,0,none⟩),.int .i64 y] W λe w'=>e=.returned (.int .i64 (Fl.nd x n.list[i]).level)/\w'=W)/\
   (∀W v,Below w.heap.size w W->Zy W.heap.size W v [n.level]->Calls prog 159 #[.pointer (some ⟨Cb,0,none⟩),.int .i64 (Fl.nd x n.list[i]).level,v] W λe w'=>e=.returned (.bool (Fl.under p n.level (Fl.nd x n.list[i]).level))/\w'=W)):=λi hi=>by
  obtain⟨b,off,e,hbz,u0⟩:=f0 (by intro h;rw[h]at hi;simp at hi);have hp:=hk n.list[i] (List.getElem_mem hi);have hy:((n.list[i].toNat:Nat):Int)=n.list[i]:=(by have:=hp.1;omega);refine⟨b,off,e,n.list[i].toNat,hy,λW hW=>?_,λW hW=>zl2 (h.below hW) 1 _ hp _ hy,λW hW=>zw3 (h.below hW) _ hp _ hy,λW v hW hv=>?_⟩
  ·rw[hy]
   refine(hW.cell (p:=⟨b,off+i,none⟩) hbz).trans ?_;rw[u0 i hi,Qa,Qb hi];rfl
  obtain⟨tn,v0⟩:∃tn:Nat,(tn:Int)=(Fl.nd x n.list[i]).level:=⟨(Fl.nd x n.list[i]).level.toNat,by have:=hp.2.2.1;omega⟩;have h1:=znx (h.below hW) tn (by have:=hp.2.2.2.1;omega) v [n.level] hv (by simp) (by intro u hu;simp at hu;subst hu;exact hl);rw[v0]at h1;simpa using h1
 have x0:(n.list.length:Int)<=100:=by omega
 have y0:(n.list.length:Int)<=(cap:Int):=by omega
 obtain⟨L,hL⟩:=nmE (n.list);rw[<-hL]at n5 x0 y0 hc t0⊢
 have z0:Hid (∀i,(hi:i<L.length)->∃b off,ao=some ⟨b,off,none⟩/\∃(y:Nat) (isb un:Bool) (lvk:Int),(∀W,Below w.heap.size w W->W.cell? ⟨b,off+i,none⟩=some (.int .i64 (y:Int)))/\(∀W,Below w.heap.size w W->Calls prog 160 #[.pointer (some ⟨Cb,0,none⟩),.int .i64 1,.int .i64 y] W λe w'=>e=.returned (.bool isb)/\w'=W.drew)/\
   (∀W,Below w.heap.size w W->Calls prog 161 #[.pointer (some ⟨Cb,0,none⟩),.int .i64 y] W λe w'=>e=.returned (.int .i64 lvk)/\w'=W)/\
   (∀W v,Below w.heap.size w W->Zy W.heap.size W v [n.level]->Calls prog 159 #[.pointer (some ⟨Cb,0,none⟩),.int .i64 lvk,v] W λe w'=>e=.returned (.bool un)/\w'=W)/\zw4 p x n L[i]=(isb && un)):=λi hi=>by
  subst hL;obtain⟨b,off,e,y,hy,h1,h2,h3,h4⟩:=HE.out i hi;exact⟨b,off,e,y,_,_,_,h1,h2,h3,h4,rfl⟩
 clear h hn f0 hk HE hL
 go_enter func122,ntmps122
 go_wp2_with fail
 go_loopw [12] (λi wr=>Below w.heap.size w wr/\∃k:Nat,k<=L.length/\i=.int .i64 k/\(L.take k).all (zw4 p x n)=true) (λi _=>L.length - (intOf i).toNat)
 case atStart=>exact⟨Below.refl _ _,0,Nat.zero_le _,rfl,rfl⟩
 case round=>
  obtain⟨k0,k,hk,rfl,hall⟩:=hrel;have a0:=Zz k0;have i0:=Zz hall;clear k0 hall
  by_cases j0:k<L.length
  ·have A0:(k:Int)<(L.length:Int):=by omega
   obtain⟨b,off,rfl,y,isb,un,lvk,l0,m0,n0,o0,p0⟩:=z0.out k j0;have cy:=l0 wr a0.out;have q0:=Zz m0;have r0:=Zz n0;have HU:=Zz o0;obtain⟨yk,s0⟩:=nmE (L[k]);have e0:Hid (yk∈L/\L.take (k+1)=L.take k++[yk]/\zw4 p x n yk=(isb && un)):=(by rw[s0];exact⟨List.getElem_mem j0,List.take_succ_eq_append_getElem j0,p0⟩)
   have c0:Hid ((isb && un)=false->L.all (zw4 p x n)=false):=λh0=>by
    rw[List.all_eq_false];exact⟨yk,e0.out.1,by rw[e0.out.2.2,h0];simp⟩
   have g0:Hid ((isb && un)=true->(L.take (k+1)).all (zw4 p x n)=true):=λh0=>by
    rw[e0.out.2.1,List.all_append,i0.out,List.all_cons,e0.out.2.2,h0];rfl
   have d0:Hid (Below w.heap.size w (wr.alloc (.cells #[.int .i64 n.level] 3)).drew.drew):=((a0.out.alloc a0.out.size _).drew).drew;clear l0 m0 n0 o0 p0 s0
   cases isb with
   |false=>
    have HF:Hid (L.all (zw4 p x n)=false):=c0.out rfl
    go_wp2_with fail
    refine zo6 (λW=>Below w.heap.size w W/\W.cell? ⟨nb,no+1,none⟩=some (.int .i64 n.level)) [(0,0),(0,1),(1,2),(0,3),(0,4),(0,5),(0,6),(0,7),(0,9),(0,10),(0,11),(0,12)] 8 13 [(1,14),(0,15),(0,16)] [(4,20)] (by kernel_rfl) (by kernel_rfl) rfl [(_,_),(_,_),(_,_),(_,_),(_,_),(_,_),(_,_),(_,_),(_,_),(_,_),(_,_),(_,_)] [(_,_),(_,_),(_,_)] _ _ rfl rfl rfl rfl (λc a d v w h=>by cases d<;>exact h) (HS.out _ (a0.out.drew)) (λops hG=>?_);have g1:=hG (4,20) (by simp);simp only at g1;clear hG;simp only[List.getElem_toArray,List.getElem_cons_succ,List.getElem_cons_zero]
    iterate 2 refine Xn rfl (kE (by rintro _ ⟨_,_⟩;go_simp<;>rfl) (by go_simp<;>rfl) ?_)
    refine Jr ?_
    go_wp2_with fail
    refine(q0.out _ (a0.out.drew)).mono ?_;rintro e W1 ⟨rfl,b0⟩;rw[b0];clear b0 W1
    go_wp2_with fail
    refine⟨HS.out _ (a0.out.drew.drew),?_⟩
    iterate 2 refine Xn rfl (kE (by rintro _ ⟨_,_⟩;go_simp<;>rfl) (by go_simp<;>rfl) ?_)
    iterate 7
     refine zn9 rfl (c:=true) (by simp[yielded,g1,Act.put]) (by decide) ?_
    refine Vk ⟨HS.out _ (a0.out.drew.drew),?_,?_⟩
    ·unfold zt3
     refine wpList_skip (by simp[Region.wanted,yielded,g1,Act.put]) ⟨HS.out _ (a0.out.drew.drew),?_⟩;refine wpList_skip (by simp[Region.wanted,yielded,g1,Act.put]) ⟨HS.out _ (a0.out.drew.drew),?_⟩;refine znz rfl (c:=true) (by simp[yielded,g1,Act.put]) (by decide) (HS.out _ (a0.out.drew.drew)) ?_;refine zn9 rfl (c:=true) (by simp[yielded,g1,Act.put]) (by decide) ?_;refine Xn rfl (kE (by rintro _ ⟨_,_⟩;go_simp<;>rfl) (by go_simp<;>rfl) ?_);refine Vk ⟨HS.out _ (a0.out.drew.drew),?_⟩;clear g1;go_wp2;go_ret;exact⟨cbE HF.out,a0.out.drew.drew⟩
    unfold zt3;refine wpList_skip (by simp[Region.wanted,yielded,g1,Act.put]) ⟨HS.out _ (a0.out.drew.drew),?_⟩;refine wpList_skip (by simp[Region.wanted,yielded,g1,Act.put]) ⟨HS.out _ (a0.out.drew.drew),?_⟩;refine znz rfl (c:=true) (by simp[yielded,g1,Act.put]) (by decide) (HS.out _ (a0.out.drew.drew)) ?_;refine zn9 rfl (c:=true) (by simp[yielded,g1,Act.put]) (by decide) ?_;refine Xn rfl (kE (by rintro _ ⟨_,_⟩;go_simp<;>rfl) (by go_simp<;>rfl) ?_);refine Vk ⟨HS.out _ (a0.out.drew.drew),?_⟩;clear g1;go_wp2;go_ret;exact⟨cbE HF.out,a0.out.drew.drew⟩
   |true=>
    go_wp2_with fail
    refine zo6 (λW=>Below w.heap.size w W/\W.cell? ⟨nb,no+1,none⟩=some (.int .i64 n.level)) [(0,0),(0,1),(1,2),(0,3),(0,4),(0,5),(0,6),(0,7),(0,9),(0,10),(0,11),(0,12)] 8 13 [(1,14),(0,15),(0,16)] [(4,20)] (by kernel_rfl) (by kernel_rfl) rfl [(_,_),(_,_),(_,_),(_,_),(_,_),(_,_),(_,_),(_,_),(_,_),(_,_),(_,_),(_,_)] [(_,_),(_,_),(_,_)] _ _ rfl rfl rfl rfl (λc a d v w h=>by cases d<;>exact h) (HS.out _ (a0.out.drew)) (λops hG=>?_);have g1:=hG (4,20) (by simp);simp only at g1;clear hG;simp only[List.getElem_toArray,List.getElem_cons_succ,List.getElem_cons_zero]
    iterate 2 refine Xn rfl (kE (by rintro _ ⟨_,_⟩;go_simp<;>rfl) (by go_simp<;>rfl) ?_)
    refine Jr ?_
    go_wp2_with fail
    refine(q0.out _ (a0.out.drew)).mono ?_;rintro e W1 ⟨rfl,b0⟩;rw[b0];clear b0 W1
    go_wp2_with fail
    refine⟨HS.out _ (a0.out.drew.drew),?_⟩
    iterate 2 refine Xn rfl (kE (by rintro _ ⟨_,_⟩;go_simp<;>rfl) (by go_simp<;>rfl) ?_)
    iterate 7 refine zf2 rfl (by simp[yielded,g1,Act.put]) (kE (by rintro _ ⟨_,_⟩;go_simp<;>rfl) (by go_simp<;>rfl) ?_)
    refine Vk ⟨HS.out _ (a0.out.drew.drew),?_,?_⟩
    ·unfold zt3
     refine Xy (by simp[Region.wanted,yielded,g1,Act.put]) ?_
     go_wp2_with fail
     refine(r0.out _ (a0.out.drew.drew)).mono ?_;rintro e W1 ⟨rfl,b0⟩;rw[b0];clear b0 W1
     go_wp2_with fail
     refine⟨HS.out _ (a0.out.drew.drew),?_⟩;refine Xy (by simp[Region.wanted,yielded,g1,Act.put]) ?_
     go_wp2_with fail
     refine⟨HS.out _ (d0.out),?_⟩;refine ziz (by simp[Region.wanted,yielded,g1,Act.put]) ?_
     go_wp2_with fail
     refine(HU.out _ _ (d0.out) (zk6 wr _)).mono ?_;rintro e W1 ⟨rfl,b0⟩;rw[b0];clear b0 W1
     go_wp2_with fail
     refine⟨HS.out _ (d0.out),?_⟩;refine zf2 rfl (by simp[yielded,g1,Act.put]) (kE (by rintro _ ⟨_,_⟩;go_simp<;>rfl) (by go_simp<;>rfl) ?_);refine Xn rfl (kE (by rintro _ ⟨_,_⟩;go_simp<;>rfl) (by go_simp<;>rfl) ?_);refine Vk ⟨HS.out _ (d0.out),?_⟩;clear g1
     cases un with
     |false=>
      have HF:Hid (L.all (zw4 p x n)=false):=c0.out rfl;go_wp2;go_ret;exact⟨cbE HF.out,d0.out⟩
     |true=>
      have HN:Hid ((L.take (k+1)).all (zw4 p x n)=true):=g0.out rfl;go_wp2
      go_roundw
      case rel=>exact⟨d0.out,k+1,by omega,by go_num,HN.out⟩
      case measure=>simp[intOf];omega
    unfold zt3;refine Xy (by simp[Region.wanted,yielded,g1,Act.put]) ?_
    go_wp2_with fail
    refine⟨HS.out _ (d0.out),?_⟩;refine Xy (by simp[Region.wanted,yielded,g1,Act.put]) ?_
    go_wp2_with fail
    refine(r0.out _ (d0.out)).mono ?_;rintro e W1 ⟨rfl,b0⟩;rw[b0];clear b0 W1
    go_wp2_with fail
    refine⟨HS.out _ (d0.out),?_⟩;refine ziz (by simp[Region.wanted,yielded,g1,Act.put]) ?_
    go_wp2_with fail
    refine(HU.out _ _ (d0.out) (zk6 wr _)).mono ?_;rintro e W1 ⟨rfl,b0⟩;rw[b0];clear b0 W1
    go_wp2_with fail
    refine⟨HS.out _ (d0.out),?_⟩;refine zf2 rfl (by simp[yielded,g1,Act.put]) (kE (by rintro _ ⟨_,_⟩;go_simp<;>rfl) (by go_simp<;>rfl) ?_);refine Xn rfl (kE (by rintro _ ⟨_,_⟩;go_simp<;>rfl) (by go_simp<;>rfl) ?_);refine Vk ⟨HS.out _ (d0.out),?_⟩;clear g1
    cases un with
    |false=>
     have HF:Hid (L.all (zw4 p x n)=false):=c0.out rfl;go_wp2;go_ret;exact⟨cbE HF.out,d0.out⟩
    |true=>
     have HN:Hid ((L.take (k+1)).all (zw4 p x n)=true):=g0.out rfl;go_wp2
     go_roundw
     case rel=>exact⟨d0.out,k+1,by omega,by go_num,HN.out⟩
     case measure=>simp[intOf];omega
  have A0:¬(k:Int)<(L.length:Int):=(by omega);have HT:Hid (L.all (zw4 p x n)=true):=by
   show _=_;have h1:=i0.out;rw[List.take_of_length_le (by omega)]at h1;exact h1
  go_wp2;go_ret;exact⟨cbE HT.out,a0.out⟩
end
structure NdOk(p:Fl.Prog)(x:List Fl.Node)(n:Fl.Node):Prop where
 kd:0<=n.kind/\n.kind<=7
 lv:0<=n.level
 k1:n.kind=1->0<=n.a
 k2:n.kind=2->POk p x n.b/\POk p x n.c
 k3:n.kind=3\/n.kind=4->0<=n.a/\POk p x n.b
 k5:n.kind=5\/n.kind=6->POk p x n.a/\POk p x n.b
 k6:n.kind=5->POk p x n.c
 k7:n.kind=7->(∀k∈n.list,POk p x k)/\n.list.length<=100
section
variable{w:World}{Cb Pb Lb Rl nb no:Nat}{vv nv hv lv:Value}{p:Fl.Prog}{ls:List Int}{x:List Fl.Node}{n:Fl.Node}
def yl9(h:Yh w Cb Pb Lb Rl vv nv hv p (Fl.vars p ls) x)(hn:zy7 w nb no n lv)(ho:NdOk p x n)(hl:n.level<p.n)(b0:∀y∈Fl.vars p ls,0<=y/\y<p.n)(c0:(Fl.vars p ls).length<=100)(d0:∀y∈p.chans,y<p.n)(e0:p.chans.length<=100)(kd:Nat)(f0:(kd:Int)=n.kind):
  Calls prog (ziw kd) #[.pointer (some ⟨Cb,0,none⟩),.pointer (some ⟨nb,no,none⟩)] w λe w'=>e=.returned (.bool (Fl.ruleOf p ls x n))/\Below w.heap.size w w':=by
 have hk:=ho.kd;have a0:0<=n.level/\n.level<p.n:=⟨ho.lv,hl⟩;rcases(show kd=0\/kd=1\/kd=2\/kd=3\/kd=4\/kd=5\/kd=6\/kd=7 by omega) with rfl|rfl|rfl|rfl|rfl|rfl|rfl|rfl
 ·have e:Fl.ruleOf p ls x n=true:=by unfold Fl.ruleOf;rw[if_pos (by omega)]
  rw[e];exact zf4 _ _
 ·have e:Fl.ruleOf p ls x n=(decide (n.a<(Fl.vars p ls).length) && Fl.under p ((Fl.vars p ls).getD n.a.toNat 0) n.level):=by unfold Fl.ruleOf;rw[if_neg (by omega),if_pos (by omega)]
  rw[e];exact zf3 h hn (ho.k1 (by omega)) a0 b0 c0
 ·have e:Fl.ruleOf p ls x n=(decide (n.a<5) && (decide (Fl.role (Fl.nd x n.b).kind=0) && (decide (Fl.role (Fl.nd x n.c).kind=0) && (Fl.under p (Fl.nd x n.b).level n.level && Fl.under p (Fl.nd x n.c).level n.level)))):=by unfold Fl.ruleOf;rw[if_neg (by omega),if_neg (by omega),if_pos (by omega)]
  rw[e];exact zcw h hn (ho.k2 (by omega)).1 (ho.k2 (by omega)).2 a0
 ·have e:Fl.ruleOf p ls x n=Fl.mayGo p x n (Fl.vars p ls):=by unfold Fl.ruleOf;rw[if_neg (by omega),if_neg (by omega),if_neg (by omega),if_pos (by omega)]
  rw[e];exact zf5 h hn (ho.k3 (by omega)).1 (ho.k3 (by omega)).2 a0 b0 c0
 ·have e:Fl.ruleOf p ls x n=Fl.mayGo p x n (p.chans.map λ(y:Nat)=>(y:Int)):=by unfold Fl.ruleOf;rw[if_neg (by omega),if_neg (by omega),if_neg (by omega),if_neg (by omega),if_pos (by omega)]
  rw[e];exact zf6 h hn (ho.k3 (by omega)).1 (ho.k3 (by omega)).2 a0 d0 e0
 ·have e:Fl.ruleOf p ls x n=(Fl.guards p x n n.b && Fl.guards p x n n.c):=by unfold Fl.ruleOf;rw[if_neg (by omega),if_neg (by omega),if_neg (by omega),if_neg (by omega),if_neg (by omega),if_pos (by omega)]
  rw[e];exact zcv h hn (ho.k5 (by omega)).1 (ho.k5 (by omega)).2 (ho.k6 (by omega)) a0
 ·have e:Fl.ruleOf p ls x n=Fl.guards p x n n.b:=by unfold Fl.ruleOf;rw[if_neg (by omega),if_neg (by omega),if_neg (by omega),if_neg (by omega),if_neg (by omega),if_neg (by omega),if_pos (by omega)]
  rw[e];exact zk8 h hn (ho.k5 (by omega)).1 (ho.k5 (by omega)).2 a0
 have e:Fl.ruleOf p ls x n=n.list.all (zw4 p x n):=by unfold Fl.ruleOf;rw[if_neg (by omega),if_neg (by omega),if_neg (by omega),if_neg (by omega),if_neg (by omega),if_neg (by omega),if_neg (by omega)];rfl
 rw[e];exact zk9 h hn (ho.k7 (by omega)).1 (ho.k7 (by omega)).2 a0
def ywy(h:Yh w Cb Pb Lb Rl vv nv hv p (Fl.vars p ls) x)(hn:zy7 w nb no n lv)(ho:NdOk p x n)(f0:∀y∈Fl.vars p ls,0<=y/\y<p.n)(g0:(Fl.vars p ls).length<=100)(h0:∀y∈p.chans,y<p.n)(i0:p.chans.length<=100):
  Calls prog 123 #[.pointer (some ⟨Cb,0,none⟩),.pointer (some ⟨nb,no,none⟩)] w λe w'=>e=.returned (.bool (Fl.follows p ls x n))/\Below w.heap.size w w':=by
 obtain⟨kd,e0⟩:∃kd:Nat,(kd:Int)=n.kind:=⟨n.kind.toNat,by have:=ho.kd;omega⟩
 have k0:kd<8:=by have:=ho.kd;omega
 have l0:(kd:Int)<8:=by omega
 obtain⟨f,hf⟩:=nmE (ziw kd)
 have HS:Hid (∀W,Below w.heap.size w W->W.cell? ⟨Cb,0,none⟩=some (.pointer (some ⟨Pb,0,none⟩))/\W.cell? ⟨Pb,0,none⟩=some (.pointer (some ⟨Lb,0,none⟩))/\W.cell? ⟨Cb,3,none⟩=some (.slice (some ⟨Rl,0,none⟩) 8 8)/\W.cell? ⟨nb,no,none⟩=some (.int .i64 (kd:Nat))/\W.cell? ⟨nb,no+1,none⟩=some (.int .i64 n.level)/\W.cell? ⟨Rl,kd*2+1,none⟩=some (.func (.func f) #[] #[])):=λW hW=>by
  have h1:=h.below hW;have h2:=hn.below hW;exact⟨h1.c0,h1.p0,h1.c3,by rw[e0];exact h2.c0,h2.c1,by rw[hf];exact(h1.ru kd k0).2⟩
 have a0:Hid (∀W,Below w.heap.size w W->Calls prog 114 #[.pointer (some ⟨Lb,0,none⟩),.int .i64 n.level] W λe w'=>e=.returned (.bool (decide (0<=n.level/\n.level<p.n)))/\w'=W):=λW hW=>yu6 (h.below hW).la n.level
 by_cases hl:n.level<p.n
 ·have HR:Hid (∀W,Below w.heap.size w W->Calls prog f #[.pointer (some ⟨Cb,0,none⟩),.pointer (some ⟨nb,no,none⟩)] W λe w'=>e=.returned (.bool (Fl.ruleOf p ls x n))/\Below W.heap.size W w'):=λW hW=>by rw[hf];exact yl9 (h.below hW) (hn.below hW) ho hl f0 g0 h0 i0 kd e0
  have d0:Hid (Fl.follows p ls x n=Fl.ruleOf p ls x n):=(by show _=_;unfold Fl.follows;rw[decide_eq_true hl,Bool.true_and]);rw[decide_eq_true (show 0<=n.level/\n.level<p.n from⟨ho.lv,hl⟩)]at a0;generalize Fl.ruleOf p ls x n=ru at*;clear h hn ho f0 g0 h0 i0 e0;rcases(show kd=0\/kd=1\/kd=2\/kd=3\/kd=4\/kd=5\/kd=6\/kd=7 by omega) with hk|hk|hk|hk|hk|hk|hk|hk
  all_goals
   rw[hk]at hf;simp[ziw]at hf;have HF:=Zz hf;clear hf hk
   go_enter func123,ntmps123
   go_wp2_with fail
   refine Zv HS ((Below.refl _ _).drew) [11,26] [] [(12,17)] (by kernel_rfl) (λc a d v w h=>by cases d<;>exact h) (λops ⟨g1,_⟩=>?_)
   iterate 11 refine Zx rfl (by rintro _ ⟨_,_,_,_,_,_⟩;go_simp<;>rfl) (by go_simp<;>rfl) ?_
   refine Zo ?_
   go_wp2_with fail
   refine(a0.out _ (Below.refl _ _).drew).mono ?_;rintro e W1 ⟨rfl,b0⟩;rw[b0];clear b0 W1
   go_wp2_with fail
   refine⟨HS.out _ (Below.refl _ _).drew,?_⟩
   iterate 14 refine Zx (by first|rfl|simp[Region.wanted,yielded,g1,Act.put]) (by rintro _ ⟨_,_,_,_,_,_⟩;go_simp<;>rfl) (by go_simp<;>rfl) ?_
   refine Zi (by simp[Region.wanted,yielded,g1,Act.put]) ?_;have m0:=HF.out;subst m0
   go_wp2_with fail
   refine(HR.out _ (Below.refl _ _).drew).mono ?_;rintro e W1 ⟨rfl,b0⟩;have j0:Hid (Below w.heap.size w W1):=(Below.refl _ _).drew.trans b0;clear b0
   go_wp2_with fail
   refine⟨HS.out _ j0.out,?_⟩
   iterate 2 refine Zx rfl (by rintro _ ⟨_,_,_,_,_,_⟩;go_simp<;>rfl) (by go_simp<;>rfl) ?_
   refine Zs ?_;go_wp2;go_ret;exact⟨cbE d0.out,j0.out⟩
 have d0:Hid (Fl.follows p ls x n=false):=by show _=_;unfold Fl.follows;rw[decide_eq_false hl,Bool.false_and]
 rw[decide_eq_false (show ¬(0<=n.level/\n.level<p.n) from λh=>hl h.2)]at a0;clear h hn ho f0 g0 h0 i0 e0 hf
 go_enter func123,ntmps123
 go_wp2_with fail
 refine Zv HS ((Below.refl _ _).drew) [11,26] [] [(12,17)] (by kernel_rfl) (λc a d v w h=>by cases d<;>exact h) (λops ⟨g1,_⟩=>?_)
 iterate 11 refine Zx rfl (by rintro _ ⟨_,_,_,_,_,_⟩;go_simp<;>rfl) (by go_simp<;>rfl) ?_
 refine Zo ?_
 go_wp2_with fail
 refine(a0.out _ (Below.refl _ _).drew).mono ?_;rintro e W1 ⟨rfl,b0⟩;rw[b0];clear b0 W1
 go_wp2_with fail
 refine⟨HS.out _ (Below.refl _ _).drew,?_⟩;refine Zx rfl (by rintro _ ⟨_,_,_,_,_,_⟩;go_simp<;>rfl) (by go_simp<;>rfl) ?_
 iterate 13
  refine Yw rfl (c:=false) (by simp[yielded,g1,Act.put]) (by decide) ?_
 refine Zr rfl (c:=false) (by simp[yielded,g1,Act.put]) (by decide) (HS.out _ (Below.refl _ _).drew) ?_
 iterate 2 refine Zx rfl (by rintro _ ⟨_,_,_,_,_,_⟩;go_simp<;>rfl) (by go_simp<;>rfl) ?_
 refine Zs ?_;go_wp2;go_ret;exact⟨cbE d0.out,(Below.refl _ _).drew⟩
end
def Xk(p:Fl.Prog)(ls:List Int)(x:List Fl.Node):Int:=match (List.range x.length).find? (λk=> !Fl.follows p ls x (Fl.nth x k)) with
 |some k=>(k:Int)
 |none=> -1
section
variable{w:World}{Cb Pb Lb Rl:Nat}{vv nv hv:Value}{p:Fl.Prog}{ls:List Int}{x:List Fl.Node}
def Yh.nodeAt{vs:List Int}(h:Yh w Cb Pb Lb Rl vv nv hv p vs x)(k:Nat)(hk:k<x.length):∃b off cap lv,nv=.slice (some ⟨b,off,none⟩) x.length cap/\zy7 w b (off+k*6) (Fl.nth x k) lv:=by
 obtain⟨ao,cap,e,-,-,h4⟩:=h.no;obtain⟨b,off,e2,hb,hc⟩:=h4 (by rintro rfl;simp at hk);obtain⟨lv,h0,h1,h2,h3,h5,h6,h7⟩:=hc k hk;exact⟨b,off,cap,lv,by rw[e,e2],⟨hb,h1,h2,h3,h5,h6,h7,h0⟩⟩
def ziv(h:Yh w Cb Pb Lb Rl vv nv hv p (Fl.vars p ls) x)(hx:∀k,k<x.length->(∀j,j<k->Fl.follows p ls x (Fl.nth x j)=true)->NdOk p x (Fl.nth x k))(B0:x.length<=100000)(k0:∀y∈Fl.vars p ls,0<=y/\y<p.n)(l0:(Fl.vars p ls).length<=100)(m0:∀y∈p.chans,y<p.n)(n0:p.chans.length<=100):
  Calls prog 69 #[.pointer (some ⟨Cb,0,none⟩)] w λe w'=>e=.returned (.int .i64 (Xk p ls x))/\Below w.heap.size w w':=by
 have HC:Hid (∀W,Below w.heap.size w W->W.cell? ⟨Cb,2,none⟩=some nv):=λW hW=>(h.below hW).c2
 have HF:Hid (∀k,k<x.length->(∀j,j<k->Fl.follows p ls x (Fl.nth x j)=true)->∃b off cap,nv=.slice (some ⟨b,off,none⟩) x.length cap/\∀W,Below w.heap.size w W->Calls prog 123 #[.pointer (some ⟨Cb,0,none⟩),.pointer (some ⟨b,off+k*6,none⟩)] W λe w'=>e=.returned (.bool (Fl.follows p ls x (Fl.nth x k)))/\Below W.heap.size W w'):=λk hk hall=>by
  obtain⟨b,off,cap,lv,e,v0⟩:=h.nodeAt k hk;exact⟨b,off,cap,e,λW hW=>ywy (h.below hW) (v0.below hW) (hx k hk hall) k0 l0 m0 n0⟩
 have x0:Hid (∃a c,nv=.slice a x.length c):=by obtain⟨a,c,e,-⟩:=h.no;exact⟨a,c,e⟩
 have b0:Hid (∀k,k<x.length->(∀j,j<k->Fl.follows p ls x (Fl.nth x j)=true)->Fl.follows p ls x (Fl.nth x k)=false->Xk p ls x=k):=λk hk hall h0=>by
  unfold Xk;rw[Fl.find_first _ _ k (λj hj=>by rw[hall j hj];rfl) hk (by rw[h0];rfl)]
 have e0:Hid ((∀j,j<x.length->Fl.follows p ls x (Fl.nth x j)=true)->Xk p ls x= -1):=λhall=>by
  unfold Xk;rw[Fl.find_none _ _ (λj hj=>by rw[hall j hj];rfl)]
 have y0:(x.length:Int)<=100000:=by omega
 obtain⟨a0,c0,j0⟩:=x0.out;have c2:=h.c2;rw[j0]at c2;obtain⟨fw,o0⟩:=nmE (Xk p ls x);rw[<-o0]at b0 e0⊢;have C0:=Zz j0;clear h hx k0 l0 m0 n0 j0 o0
 go_enter func69,ntmps69
 go_wp2_with fail
 go_loopw [9] (λi wr=>Below w.heap.size w wr/\∃k:Nat,k<=x.length/\i=.int .i64 k/\∀j,j<k->Fl.follows p ls x (Fl.nth x j)=true) (λi _=>x.length - (intOf i).toNat)
 case atStart=>exact⟨Below.refl _ _,0,Nat.zero_le _,rfl,λj hj=>by omega⟩
 case round=>
  obtain⟨p0,k,hk,rfl,hall⟩:=hrel;have i0:=Zz p0;have d0:=Zz hall;clear p0 hall
  by_cases q0:k<x.length
  ·have z0:(k:Int)<(x.length:Int):=by omega
   obtain⟨b,off,cap,e,f0⟩:=HF.out k q0 d0.out;have cw:=HC.out wr i0.out;rw[e]at cw;have g0:Hid (Calls prog 123 #[.pointer (some ⟨Cb,0,none⟩),.pointer (some ⟨b,off+k*6,none⟩)] wr λe w'=>e=.returned (.bool (Fl.follows p ls x (Fl.nth x k)))/\Below wr.heap.size wr w'):=f0 wr i0.out;have r0:Hid (Fl.follows p ls x (Fl.nth x k)=false->fw=(k:Int)):=λh0=>b0.out k q0 d0.out h0
   have s0:Hid (Fl.follows p ls x (Fl.nth x k)=true->∀j,j<k+1->Fl.follows p ls x (Fl.nth x j)=true):=λh0 j hj=>by
    by_cases A0:j=k
    ·rw[A0];exact h0
    exact d0.out j (by omega)
   generalize Fl.follows p ls x (Fl.nth x k)=fk at g0 r0 s0;clear e f0
   go_wp2_with fail
   refine g0.out.mono ?_;rintro e w1 ⟨rfl,t0⟩;have u0:Hid (Below w.heap.size w w1):=i0.out.trans (t0.mono i0.out.size);clear t0
   cases fk with
   |false=>
    have HE:Hid (fw=(k:Int)):=r0.out rfl;go_wp2;go_ret;exact⟨congrArg (λb=>Ending.returned (.int .i64 b)) HE.out.symm,u0.out⟩
   |true=>
    have HN:Hid (∀j,j<k+1->Fl.follows p ls x (Fl.nth x j)=true):=s0.out rfl;go_wp2
    go_roundw
    case rel=>exact⟨u0.out,k+1,by omega,by go_num,HN.out⟩
    case measure=>simp[intOf];omega
  have z0:¬(k:Int)<(x.length:Int):=(by omega);have HE:Hid (fw= -1):=e0.out (λj hj=>d0.out j (by omega));go_wp2;go_ret;exact⟨congrArg (λb=>Ending.returned (.int .i64 b)) HE.out.symm,i0.out⟩
end
section
variable{w:World}{Pb Lb:Nat}{p:Fl.Prog}
def zb0(i0:Vn w Lb p.n p.leq)(p0:w.cell? ⟨Pb,0,none⟩=some (.pointer (some ⟨Lb,0,none⟩)))(p3:w.cell? ⟨Pb,3,none⟩=some (.int .i64 p.locals))(v:Value)(ls:List Int)(hl:Zy w.heap.size w v ls)(n0:ls.length<=100000):
  Calls prog 67 #[.pointer (some ⟨Pb,0,none⟩),v] w λe w'=>e=.returned (.bool (decide (ls.length=p.locals/\∀y∈ls,0<=y/\y<p.n)))/\w'=w:=by
 obtain⟨ao,cap,rfl,hc,-,a0⟩:=hl;have g0:Hid (∀y:Int,Calls prog 114 #[.pointer (some ⟨Lb,0,none⟩),.int .i64 y] w λe w'=>e=.returned (.bool (decide (0<=y/\y<p.n)))/\w'=w):=λy=>yu6 i0 y
 have l0:Hid (∀i,(hi:i<ls.length)->∃b off,ao=some ⟨b,off,none⟩/\w.cell? ⟨b,off+i,none⟩=some (.int .i64 ls[i])):=λi hi=>by
  obtain⟨b,off,e,-,h1⟩:=a0 (by rintro rfl;simp at hi);exact⟨b,off,e,by rw[h1 i hi,Qa,Qb hi];rfl⟩
 have o0:(ls.length:Int)<=100000:=by omega
 have q0:(ls.length:Int)<=(cap:Int):=by omega
 obtain⟨m,hm⟩:=nmE (p.locals);rw[<-hm]at p3⊢;obtain⟨res,b0⟩:=nmE (decide (ls.length=m/\∀y∈ls,0<=y/\y<(p.n:Int)));rw[<-b0];have d0:=Zz b0;clear i0 a0 hm b0
 go_enter func67,ntmps67
 go_wp2_with fail
 go_loopw [9] (λi wr=>wr=w/\∃k:Nat,k<=ls.length/\i=.int .i64 k/\∀y∈ls.take k,0<=y/\y<(p.n:Int)) (λi _=>ls.length - (intOf i).toNat)
 case atStart=>exact⟨rfl,0,Nat.zero_le _,rfl,λy hy=>by simp at hy⟩
 case round=>
  obtain⟨j0,k,hk,rfl,hall⟩:=hrel;have e0:=Zz hall;rw[j0];clear j0 hall wr
  by_cases h0:k<ls.length
  ·have m0:(k:Int)<(ls.length:Int):=by omega
   obtain⟨b,off,rfl,cy⟩:=l0.out k h0;obtain⟨y,hy⟩:=nmE (ls[k]);rw[<-hy]at cy;have f0:Hid (y∈ls/\ls.take (k+1)=ls.take k++[y]):=(by rw[hy];exact⟨List.getElem_mem h0,List.take_succ_eq_append_getElem h0⟩);clear hy
   go_wp2_with fail
   refine(g0.out y).mono ?_;rintro e w1 ⟨rfl,k0⟩;rw[k0];clear k0 w1
   by_cases c0:0<=y/\y<(p.n:Int)
   ·have HN:Hid (∀z∈ls.take (k+1),0<=z/\z<(p.n:Int)):=λz hz=>by
     rw[f0.out.2]at hz;rcases List.mem_append.1 hz with h1|h1
     ·exact e0.out z h1
     simp at h1;subst h1;exact c0
    rw[decide_eq_true c0];clear c0;go_wp2
    go_roundw
    case rel=>exact⟨by first|rfl|trivial,k+1,by omega,by go_num,HN.out⟩
    case measure=>simp[intOf];omega
   have HE:Hid (res=false):=(by show _=_;rw[d0.out];exact decide_eq_false (λh=>c0 (h.2 y f0.out.1)));rw[decide_eq_false c0];clear c0;go_wp2;go_ret;exact⟨cbE HE.out,rfl⟩
  have m0:¬(k:Int)<(ls.length:Int):=(by omega);have HE:Hid (res=((ls.length:Int)==(m:Int))):=by
   have h1:=e0.out;rw[List.take_of_length_le (by omega)]at h1;show _=_;rw[d0.out,<-yu7]
   congr 1
   exact propext ⟨λh=>h.1,λh=>⟨h,h1⟩⟩
  go_wp2;go_ret;exact⟨cbE HE.out,rfl⟩
end
end Go.Proofs.YtminjljgedopkaaGreatDoor
