import Derived.Test.YtaaejabalinojaaGreatDoorM05
set_option linter.all false
set_option maxRecDepth 100000
set_option maxHeartbeats 40000000
namespace Go.Proofs.YtaaejabalinojaaGreatDoor
open Go.RowKit Go.Proofs.Tryz
section
variable{w:World}{Cb Pb Lb Rl nb no:Nat}{vv nv hv lv:Value}{p:Fl.Prog}{vs:List Int}{x:List Fl.Node}{n:Fl.Node}
def znz(h:Ya w Cb Pb Lb Rl vv nv hv p vs x)(ro:Nat)(j:Int)(hj:POk p x j)(jn:Nat)(a0:(jn:Int)=j):Calls prog 114 #[.pointer (some ⟨Cb,0,none⟩),.int .i64 ro,.int .i64 jn] w λe w'=>e=.returned (.bool (decide (Fl.role (Fl.nd x j).kind=ro)))/\w'=w.drew:=by
 have e:jn=j.toNat:=by omega
 subst e;exact is_any h ro j.toNat hj.2.1 ⟨hj.2.2.2.2.1,hj.2.2.2.2.2⟩
def zwv(h:Ya w Cb Pb Lb Rl vv nv hv p vs x)(j:Int)(hj:POk p x j)(jn:Nat)(a0:(jn:Int)=j):Calls prog 115 #[.pointer (some ⟨Cb,0,none⟩),.int .i64 jn] w λe w'=>e=.returned (.int .i64 (Fl.nd x j).level)/\w'=w:=by
 have e:jn=j.toNat:=by omega
 subst e;exact ys3 h j.toNat hj.2.1
def zo4(h:Ya w Cb Pb Lb Rl vv nv hv p vs x)(top:Int)(ht:0<=top/\top<p.n)(y z:Int)(hy:0<=y/\y<p.n)(hz:0<=z/\z<p.n)(v:Value)(a0:Zv w.heap.size w v [y,z]):Calls prog 113 #[.pointer (some ⟨Cb,0,none⟩),.int .i64 top,v] w λe w'=>e=.returned (.bool (Fl.under p y top && Fl.under p z top))/\w'=w:=by
 obtain⟨tn,b0⟩:∃tn:Nat,(tn:Int)=top:=⟨top.toNat,by omega⟩;have h1:=zo3 h tn (by omega) v [y,z] a0 (by simp) (by intro u hu;simp at hu;rcases hu with rfl|rfl;exact hy;exact hz);rw[b0]at h1;simpa using h1
def zf8(h:Ya w Cb Pb Lb Rl vv nv hv p vs x)(hn:Jy w nb no n lv)(ha:0<=n.a)(hb:POk p x n.b)(hl:0<=n.level/\n.level<p.n)(lvv:Value)(ls:List Int)(n0:Zv w.heap.size w lvv ls)(h0:∀y∈ls,0<=y/\y<p.n)(q0:ls.length<=100):
  Calls prog 116 #[.pointer (some ⟨Cb,0,none⟩),.pointer (some ⟨nb,no,none⟩),lvv] w λe w'=>e=.returned (.bool (Fl.mayGo p x n ls))/\Below w.heap.size w w':=by
 obtain⟨an,i0⟩:∃an:Nat,(an:Int)=n.a:=⟨n.a.toNat,by omega⟩;obtain⟨bn,f0⟩:∃bn:Nat,(bn:Int)=n.b:=⟨n.b.toNat,by have:=hb.1;omega⟩;have e0:=hn.hz;obtain⟨ao,cap,rfl,hc,-,b0⟩:=n0;have n1:=hn.c1;have n2:=hn.c2;have n3:=hn.c3;rw[<-i0]at n2;rw[<-f0]at n3
 have o0:(ls.length:Int)<=100:=by omega
 have k0:Hid (∀W,Below w.heap.size w W->Calls prog 114 #[.pointer (some ⟨Cb,0,none⟩),.int .i64 0,.int .i64 bn] W λe w'=>e=.returned (.bool (decide (Fl.role (Fl.nd x n.b).kind=0)))/\w'=W.drew):=λW hW=>znz (h.below hW) 0 n.b hb bn f0;have p0:Hid (∀W,Below w.heap.size w W->Calls prog 115 #[.pointer (some ⟨Cb,0,none⟩),.int .i64 bn] W λe w'=>e=.returned (.int .i64 (Fl.nd x n.b).level)/\w'=W):=λW hW=>zwv (h.below hW) n.b hb bn f0
 by_cases g0:an<ls.length
 ·obtain⟨b,off,rfl,hbz,l0⟩:=b0 (by rintro rfl;simp at g0)
  have cy:=l0 an g0;obtain⟨y,hy⟩:=nmE (ls.getD an 0);have m0:0<=y/\y<p.n:=by
   have h1:=h0 ls[an] (List.getElem_mem g0);rw[hy,Qa,Qb g0];exact h1
  rw[<-hy]at cy;have j0:(an:Int)<(ls.length:Int):=(by omega);have HS:Hid (∀W,Below w.heap.size w W->W.cell? ⟨nb,no+1,none⟩=some (.int .i64 n.level)/\W.cell? ⟨nb,no+2,none⟩=some (.int .i64 (an:Nat))/\W.cell? ⟨nb,no+3,none⟩=some (.int .i64 (bn:Nat))/\W.cell? ⟨b,off+an,none⟩=some (.int .i64 y)/\True):=λW hW=>⟨(hW.cell (p:=⟨nb,no+1,none⟩) e0).trans n1,(hW.cell (p:=⟨nb,no+2,none⟩) e0).trans n2,(hW.cell (p:=⟨nb,no+3,none⟩) e0).trans n3,(hW.cell (p:=⟨b,off+an,none⟩) hbz).trans cy,trivial⟩;have HU:Hid (∀W v,Below w.heap.size w W->Zv W.heap.size W v [(Fl.nd x n.b).level,n.level]->Calls prog 113 #[.pointer (some ⟨Cb,0,none⟩),.int .i64 y,v] W λe w'=>e=.returned (.bool (Fl.under p (Fl.nd x n.b).level y && Fl.under p n.level y))/\w'=W):=λW v hW hv2=>zo4 (h.below hW) y m0 _ _ ⟨hb.2.2.1,hb.2.2.2.1⟩ hl v hv2;have a0:Hid (Fl.mayGo p x n ls=(decide (Fl.role (Fl.nd x n.b).kind=0) && (Fl.under p (Fl.nd x n.b).level y && Fl.under p n.level y))):=by
   show _=_;unfold Fl.mayGo;rw[decide_eq_true (show n.a<ls.length by omega),Bool.true_and,hy,show n.a.toNat=an by omega]
  generalize decide (Fl.role (Fl.nd x n.b).kind=0)=isv at*;generalize (Fl.under p (Fl.nd x n.b).level y && Fl.under p n.level y)=un at*;generalize (Fl.nd x n.b).level=lb at*;obtain⟨res,c0⟩:=nmE (Fl.mayGo p x n ls);rw[<-c0]at a0⊢;clear h hn b0 l0 h0 hy m0 i0 n1 n2 n3 cy hb f0 c0
  cases isv with
  |true=>
   go_enter func116,ntmps116
   go_wp2_with fail
   refine Yc HS ((Below.refl _ _).drew) [(0,0),(0,1),(0,2),(0,3),(0,4),(0,5),(0,6),(0,7),(0,8),(0,9),(0,10),(0,11),(0,12),(1,13),(0,14),(0,15),(0,16),(0,17),(0,18),(0,19),(0,20),(0,21),(0,22),(0,23),(0,24),(0,25),(0,26),(0,27),(0,28),(0,30),(0,31),(0,32),(0,33),(1,29),(1,34),(1,35),(0,36),(0,37)] [] [(7,14),(15,22)] (by kernel_rfl) (λc a d v w h=>by cases d<;>exact h) (λops ⟨g1,g2,_⟩=>?_)
   iterate 13 refine Zw (by first|rfl|simp[Region.wanted,yielded,g1,Act.put]) (by rintro _ ⟨_,_,_,_,_⟩;go_simp<;>rfl) (by go_simp<;>rfl) ?_
   refine Zc (by simp[Region.wanted,yielded,g1,Act.put]) ?_
   go_wp2_with fail
   refine(k0.out _ ((Below.refl _ _).drew)).mono ?_;rintro e W1 ⟨rfl,d0⟩;rw[d0];clear d0 W1
   go_wp2_with fail
   refine⟨HS.out _ ((Below.refl _ _).drew.drew),?_⟩
   iterate 19 refine Zw (by first|rfl|simp[Region.wanted,yielded,g2,Act.put]) (by rintro _ ⟨_,_,_,_,_⟩;go_simp<;>rfl) (by go_simp<;>rfl) ?_
   refine Zc (by simp[Region.wanted,yielded,g2,Act.put]) ?_
   go_wp2_with fail
   refine(p0.out _ ((Below.refl _ _).drew.drew)).mono ?_;rintro e W1 ⟨rfl,d0⟩;rw[d0];clear d0 W1
   go_wp2_with fail
   refine⟨HS.out _ ((Below.refl _ _).drew.drew),?_⟩;refine Zc (by simp[Region.wanted,yielded,g2,Act.put]) ?_
   go_wp2_with fail
   refine⟨HS.out _ ((bA).drew.drew),?_⟩;refine Zc (by simp[Region.wanted,yielded,g2,Act.put]) ?_
   go_wp2_with fail
   refine(HU.out _ _ ((bA).drew.drew) (zl1 w _ _)).mono ?_;rintro e W1 ⟨rfl,d0⟩;rw[d0];clear d0 W1
   go_wp2_with fail
   refine⟨HS.out _ ((bA).drew.drew),?_⟩
   iterate 2 refine Zw rfl (by rintro _ ⟨_,_,_,_,_⟩;go_simp<;>rfl) (by go_simp<;>rfl) ?_
   refine Zs ?_;go_wp2;go_ret;exact⟨cbE a0.out,(bA).drew.drew⟩
  |false=>
   go_enter func116,ntmps116
   go_wp2_with fail
   refine Yc HS ((Below.refl _ _).drew) [(0,0),(0,1),(0,2),(0,3),(0,4),(0,5),(0,6),(0,7),(0,8),(0,9),(0,10),(0,11),(0,12),(1,13),(0,14),(0,15),(0,16),(0,17),(0,18),(0,19),(0,20),(0,21),(0,22),(0,23),(0,24),(0,25),(0,26),(0,27),(0,28),(0,30),(0,31),(0,32),(0,33),(1,29),(1,34),(1,35),(0,36),(0,37)] [] [(7,14),(15,22)] (by kernel_rfl) (λc a d v w h=>by cases d<;>exact h) (λops ⟨g1,g2,_⟩=>?_)
   iterate 13 refine Zw (by first|rfl|simp[Region.wanted,yielded,g1,Act.put]) (by rintro _ ⟨_,_,_,_,_⟩;go_simp<;>rfl) (by go_simp<;>rfl) ?_
   refine Zc (by simp[Region.wanted,yielded,g1,Act.put]) ?_
   go_wp2_with fail
   refine(k0.out _ ((Below.refl _ _).drew)).mono ?_;rintro e W1 ⟨rfl,d0⟩;rw[d0];clear d0 W1
   go_wp2_with fail
   refine⟨HS.out _ ((Below.refl _ _).drew.drew),?_⟩
   iterate 2 refine Zw rfl (by rintro _ ⟨_,_,_,_,_⟩;go_simp<;>rfl) (by go_simp<;>rfl) ?_
   iterate 17
    refine Ys rfl (c:=false) (by simp[yielded,g2,Act.put]) (by decide) ?_
   refine Zp rfl (c:=false) (by simp[yielded,g2,Act.put]) (by decide) (HS.out _ (Below.refl _ _).drew.drew) ?_;refine Zp rfl (c:=false) (by simp[yielded,g2,Act.put]) (by decide) (HS.out _ (Below.refl _ _).drew.drew) ?_;refine Zp rfl (c:=false) (by simp[yielded,g2,Act.put]) (by decide) (HS.out _ (Below.refl _ _).drew.drew) ?_
   iterate 2 refine Zw rfl (by rintro _ ⟨_,_,_,_,_⟩;go_simp<;>rfl) (by go_simp<;>rfl) ?_
   refine Zs ?_;go_wp2;go_ret;exact⟨cbE a0.out,(Below.refl _ _).drew.drew⟩
 have j0:¬(an:Int)<(ls.length:Int):=by omega
 have HS:Hid (∀W,Below w.heap.size w W->W.cell? ⟨nb,no+1,none⟩=some (.int .i64 n.level)/\W.cell? ⟨nb,no+2,none⟩=some (.int .i64 (an:Nat))/\W.cell? ⟨nb,no+3,none⟩=some (.int .i64 (bn:Nat))/\True/\True):=λW hW=>⟨(hW.cell (p:=⟨nb,no+1,none⟩) e0).trans n1,(hW.cell (p:=⟨nb,no+2,none⟩) e0).trans n2,(hW.cell (p:=⟨nb,no+3,none⟩) e0).trans n3,trivial,trivial⟩;have a0:Hid (Fl.mayGo p x n ls=false):=by
  show _=_;unfold Fl.mayGo;rw[decide_eq_false (show ¬n.a<ls.length by omega),Bool.false_and]
 obtain⟨res,c0⟩:=nmE (Fl.mayGo p x n ls);rw[<-c0]at a0⊢;clear h hn b0 h0 i0 n1 n2 n3 hb f0 c0
 go_enter func116,ntmps116
 go_wp2_with fail
 refine Yc HS ((Below.refl _ _).drew) [(0,0),(0,1),(0,2),(0,3),(0,4),(0,5),(0,6),(0,7),(0,8),(0,9),(0,10),(0,11),(0,12),(1,13),(0,14),(0,15),(0,16),(0,17),(0,18),(0,19),(0,20),(0,21),(0,22),(0,23),(0,24),(0,25),(0,26),(0,27),(0,28),(0,30),(0,31),(0,32),(0,33),(1,29),(1,34),(1,35),(0,36),(0,37)] [] [(7,14),(15,22)] (by kernel_rfl) (λc a d v w h=>by cases d<;>exact h) (λops ⟨g1,g2,_⟩=>?_)
 iterate 8 refine Zw rfl (by rintro _ ⟨_,_,_,_,_⟩;go_simp<;>rfl) (by go_simp<;>rfl) ?_
 iterate 5
  refine Ys rfl (c:=false) (by simp[yielded,g1,Act.put]) (by decide) ?_
 refine Zp rfl (c:=false) (by simp[yielded,g1,Act.put]) (by decide) (HS.out _ (Below.refl _ _).drew) ?_
 iterate 2 refine Zw rfl (by rintro _ ⟨_,_,_,_,_⟩;go_simp<;>rfl) (by go_simp<;>rfl) ?_
 iterate 17
  refine Ys rfl (c:=false) (by simp[yielded,g2,Act.put]) (by decide) ?_
 refine Zp rfl (c:=false) (by simp[yielded,g2,Act.put]) (by decide) (HS.out _ (Below.refl _ _).drew) ?_;refine Zp rfl (c:=false) (by simp[yielded,g2,Act.put]) (by decide) (HS.out _ (Below.refl _ _).drew) ?_;refine Zp rfl (c:=false) (by simp[yielded,g2,Act.put]) (by decide) (HS.out _ (Below.refl _ _).drew) ?_
 iterate 2 refine Zw rfl (by rintro _ ⟨_,_,_,_,_⟩;go_simp<;>rfl) (by go_simp<;>rfl) ?_
 refine Zs ?_;go_wp2;go_ret;exact⟨cbE a0.out,(Below.refl _ _).drew⟩
end
section
variable{w:World}{Cb Pb Lb Rl nb no:Nat}{vv nv hv lv:Value}{p:Fl.Prog}{vs:List Int}{x:List Fl.Node}{n:Fl.Node}
def zq0(h:Ya w Cb Pb Lb Rl vv nv hv p vs x)(hn:Jy w nb no n lv)(ha:POk p x n.a)(within:Int)(hw:POk p x within)(hl:0<=n.level/\n.level<p.n):
  Calls prog 117 #[.pointer (some ⟨Cb,0,none⟩),.pointer (some ⟨nb,no,none⟩),.int .i64 within] w λe w'=>e=.returned (.bool (Fl.guards p x n within))/\Below w.heap.size w w':=by
 obtain⟨an,d0⟩:∃an:Nat,(an:Int)=n.a:=⟨n.a.toNat,by have:=ha.1;omega⟩;obtain⟨wn,e0⟩:∃wn:Nat,(wn:Int)=within:=⟨within.toNat,by have:=hw.1;omega⟩;have g0:=hn.hz;have n1:=hn.c1;have n2:=hn.c2;rw[<-d0]at n2;have f0:Hid (∀W,Below w.heap.size w W->Calls prog 114 #[.pointer (some ⟨Cb,0,none⟩),.int .i64 0,.int .i64 an] W λe w'=>e=.returned (.bool (decide (Fl.role (Fl.nd x n.a).kind=0)))/\w'=W.drew):=λW hW=>znz (h.below hW) 0 n.a ha an d0;have h0:Hid (∀W,Below w.heap.size w W->Calls prog 114 #[.pointer (some ⟨Cb,0,none⟩),.int .i64 2,.int .i64 wn] W λe w'=>e=.returned (.bool (decide (Fl.role (Fl.nd x within).kind=2)))/\w'=W.drew):=λW hW=>znz (h.below hW) 2 within hw wn e0;have i0:Hid (∀W,Below w.heap.size w W->Calls prog 115 #[.pointer (some ⟨Cb,0,none⟩),.int .i64 an] W λe w'=>e=.returned (.int .i64 (Fl.nd x n.a).level)/\w'=W):=λW hW=>zwv (h.below hW) n.a ha an d0;have j0:Hid (∀W,Below w.heap.size w W->Calls prog 115 #[.pointer (some ⟨Cb,0,none⟩),.int .i64 wn] W λe w'=>e=.returned (.int .i64 (Fl.nd x within).level)/\w'=W):=λW hW=>zwv (h.below hW) within hw wn e0;have HS:Hid (∀W,Below w.heap.size w W->W.cell? ⟨nb,no+1,none⟩=some (.int .i64 n.level)/\W.cell? ⟨nb,no+2,none⟩=some (.int .i64 (an:Nat))/\True/\True/\True):=λW hW=>⟨(hW.cell (p:=⟨nb,no+1,none⟩) g0).trans n1,(hW.cell (p:=⟨nb,no+2,none⟩) g0).trans n2,trivial,trivial,trivial⟩;have HU:Hid (∀W v,Below w.heap.size w W->Zv W.heap.size W v [(Fl.nd x n.a).level,n.level]->Calls prog 113 #[.pointer (some ⟨Cb,0,none⟩),.int .i64 (Fl.nd x within).level,v] W λe w'=>e=.returned (.bool (Fl.under p (Fl.nd x n.a).level (Fl.nd x within).level && Fl.under p n.level (Fl.nd x within).level))/\w'=W):=λW v hW hv2=>zo4 (h.below hW) _ ⟨hw.2.2.1,hw.2.2.2.1⟩ _ _ ⟨ha.2.2.1,ha.2.2.2.1⟩ hl v hv2;have b0:Hid (Fl.guards p x n within=(decide (Fl.role (Fl.nd x n.a).kind=0) && (decide (Fl.role (Fl.nd x within).kind=2) && (Fl.under p (Fl.nd x n.a).level (Fl.nd x within).level && Fl.under p n.level (Fl.nd x within).level)))):=rfl;generalize decide (Fl.role (Fl.nd x n.a).kind=0)=isa at*;generalize decide (Fl.role (Fl.nd x within).kind=2)=isw at*;generalize (Fl.under p (Fl.nd x n.a).level (Fl.nd x within).level && Fl.under p n.level (Fl.nd x within).level)=un at*;generalize (Fl.nd x n.a).level=la at*;generalize (Fl.nd x within).level=lw at*;obtain⟨res,c0⟩:=nmE (Fl.guards p x n within);rw[<-c0]at b0⊢;rw[<-e0];clear h hn d0 n1 n2 ha hw e0 c0
 cases isa with
 |true=>
  cases isw with
  |true=>
   go_enter func117,ntmps117
   go_wp2_with fail
   refine Yc HS ((Below.refl _ _).drew) [(0,0),(0,1),(0,2),(0,3),(0,4),(1,5),(0,6),(0,7),(0,8),(1,9),(0,10),(0,11),(0,12),(0,13),(0,14),(0,16),(0,17),(0,18),(0,19),(0,20),(0,22),(0,23),(0,24),(0,25),(1,15),(1,21),(1,26),(1,27),(0,28),(0,29)] [] [(6,13),(11,18)] (by kernel_rfl) (λc a d v w h=>by cases d<;>exact h) (λops ⟨g1,g2,_⟩=>?_)
   iterate 5 refine Zw rfl (by rintro _ ⟨_,_,_,_,_⟩;go_simp<;>rfl) (by go_simp<;>rfl) ?_
   refine Zk ?_
   go_wp2_with fail
   refine(f0.out _ ((Below.refl _ _).drew)).mono ?_;rintro e W1 ⟨rfl,a0⟩;rw[a0];clear a0 W1
   go_wp2_with fail
   refine⟨HS.out _ ((Below.refl _ _).drew.drew),?_⟩
   iterate 3 refine Zw (by first|rfl|simp[Region.wanted,yielded,g1,Act.put]) (by rintro _ ⟨_,_,_,_,_⟩;go_simp<;>rfl) (by go_simp<;>rfl) ?_
   refine Zc (by simp[Region.wanted,yielded,g1,Act.put]) ?_
   go_wp2_with fail
   refine(h0.out _ ((Below.refl _ _).drew.drew)).mono ?_;rintro e W1 ⟨rfl,a0⟩;rw[a0];clear a0 W1
   go_wp2_with fail
   refine⟨HS.out _ ((Below.refl _ _).drew.drew.drew),?_⟩
   iterate 14 refine Zw (by first|rfl|simp[Region.wanted,yielded,g2,Act.put]) (by rintro _ ⟨_,_,_,_,_⟩;go_simp<;>rfl) (by go_simp<;>rfl) ?_
   refine Zc (by simp[Region.wanted,yielded,g2,Act.put]) ?_
   go_wp2_with fail
   refine(j0.out _ ((Below.refl _ _).drew.drew.drew)).mono ?_;rintro e W1 ⟨rfl,a0⟩;rw[a0];clear a0 W1
   go_wp2_with fail
   refine⟨HS.out _ ((Below.refl _ _).drew.drew.drew),?_⟩;refine Zc (by simp[Region.wanted,yielded,g2,Act.put]) ?_
   go_wp2_with fail
   refine(i0.out _ ((Below.refl _ _).drew.drew.drew)).mono ?_;rintro e W1 ⟨rfl,a0⟩;rw[a0];clear a0 W1
   go_wp2_with fail
   refine⟨HS.out _ ((Below.refl _ _).drew.drew.drew),?_⟩;refine Zc (by simp[Region.wanted,yielded,g2,Act.put]) ?_
   go_wp2_with fail
   refine⟨HS.out _ ((bA).drew.drew.drew),?_⟩;refine Zc (by simp[Region.wanted,yielded,g2,Act.put]) ?_
   go_wp2_with fail
   refine(HU.out _ _ ((bA).drew.drew.drew) (zl1 w _ _)).mono ?_;rintro e W1 ⟨rfl,a0⟩;rw[a0];clear a0 W1
   go_wp2_with fail
   refine⟨HS.out _ ((bA).drew.drew.drew),?_⟩
   iterate 2 refine Zw rfl (by rintro _ ⟨_,_,_,_,_⟩;go_simp<;>rfl) (by go_simp<;>rfl) ?_
   refine Zs ?_;go_wp2;go_ret;exact⟨cbE b0.out,(bA).drew.drew.drew⟩
  |false=>
   go_enter func117,ntmps117
   go_wp2_with fail
   refine Yc HS ((Below.refl _ _).drew) [(0,0),(0,1),(0,2),(0,3),(0,4),(1,5),(0,6),(0,7),(0,8),(1,9),(0,10),(0,11),(0,12),(0,13),(0,14),(0,16),(0,17),(0,18),(0,19),(0,20),(0,22),(0,23),(0,24),(0,25),(1,15),(1,21),(1,26),(1,27),(0,28),(0,29)] [] [(6,13),(11,18)] (by kernel_rfl) (λc a d v w h=>by cases d<;>exact h) (λops ⟨g1,g2,_⟩=>?_)
   iterate 5 refine Zw rfl (by rintro _ ⟨_,_,_,_,_⟩;go_simp<;>rfl) (by go_simp<;>rfl) ?_
   refine Zk ?_
   go_wp2_with fail
   refine(f0.out _ ((Below.refl _ _).drew)).mono ?_;rintro e W1 ⟨rfl,a0⟩;rw[a0];clear a0 W1
   go_wp2_with fail
   refine⟨HS.out _ ((Below.refl _ _).drew.drew),?_⟩
   iterate 3 refine Zw (by first|rfl|simp[Region.wanted,yielded,g1,Act.put]) (by rintro _ ⟨_,_,_,_,_⟩;go_simp<;>rfl) (by go_simp<;>rfl) ?_
   refine Zc (by simp[Region.wanted,yielded,g1,Act.put]) ?_
   go_wp2_with fail
   refine(h0.out _ ((Below.refl _ _).drew.drew)).mono ?_;rintro e W1 ⟨rfl,a0⟩;rw[a0];clear a0 W1
   go_wp2_with fail
   refine⟨HS.out _ ((Below.refl _ _).drew.drew.drew),?_⟩
   iterate 2 refine Zw rfl (by rintro _ ⟨_,_,_,_,_⟩;go_simp<;>rfl) (by go_simp<;>rfl) ?_
   iterate 12
    refine Ys rfl (c:=false) (by simp[yielded,g2,Act.put]) (by decide) ?_
   refine Zp rfl (c:=false) (by simp[yielded,g2,Act.put]) (by decide) (HS.out _ (Below.refl _ _).drew.drew.drew) ?_;refine Zp rfl (c:=false) (by simp[yielded,g2,Act.put]) (by decide) (HS.out _ (Below.refl _ _).drew.drew.drew) ?_;refine Zp rfl (c:=false) (by simp[yielded,g2,Act.put]) (by decide) (HS.out _ (Below.refl _ _).drew.drew.drew) ?_;refine Zp rfl (c:=false) (by simp[yielded,g2,Act.put]) (by decide) (HS.out _ (Below.refl _ _).drew.drew.drew) ?_
   iterate 2 refine Zw rfl (by rintro _ ⟨_,_,_,_,_⟩;go_simp<;>rfl) (by go_simp<;>rfl) ?_
   refine Zs ?_;go_wp2;go_ret;exact⟨cbE b0.out,(Below.refl _ _).drew.drew.drew⟩
 |false=>
  go_enter func117,ntmps117
  go_wp2_with fail
  refine Yc HS ((Below.refl _ _).drew) [(0,0),(0,1),(0,2),(0,3),(0,4),(1,5),(0,6),(0,7),(0,8),(1,9),(0,10),(0,11),(0,12),(0,13),(0,14),(0,16),(0,17),(0,18),(0,19),(0,20),(0,22),(0,23),(0,24),(0,25),(1,15),(1,21),(1,26),(1,27),(0,28),(0,29)] [] [(6,13),(11,18)] (by kernel_rfl) (λc a d v w h=>by cases d<;>exact h) (λops ⟨g1,g2,_⟩=>?_)
  iterate 5 refine Zw rfl (by rintro _ ⟨_,_,_,_,_⟩;go_simp<;>rfl) (by go_simp<;>rfl) ?_
  refine Zk ?_
  go_wp2_with fail
  refine(f0.out _ ((Below.refl _ _).drew)).mono ?_;rintro e W1 ⟨rfl,a0⟩;rw[a0];clear a0 W1
  go_wp2_with fail
  refine⟨HS.out _ ((Below.refl _ _).drew.drew),?_⟩;refine Zw rfl (by rintro _ ⟨_,_,_,_,_⟩;go_simp<;>rfl) (by go_simp<;>rfl) ?_
  iterate 2
   refine Ys rfl (c:=false) (by simp[yielded,g1,Act.put]) (by decide) ?_
  refine Zp rfl (c:=false) (by simp[yielded,g1,Act.put]) (by decide) (HS.out _ (Below.refl _ _).drew.drew) ?_
  iterate 2 refine Zw rfl (by rintro _ ⟨_,_,_,_,_⟩;go_simp<;>rfl) (by go_simp<;>rfl) ?_
  iterate 12
   refine Ys rfl (c:=false) (by simp[yielded,g2,Act.put]) (by decide) ?_
  refine Zp rfl (c:=false) (by simp[yielded,g2,Act.put]) (by decide) (HS.out _ (Below.refl _ _).drew.drew) ?_;refine Zp rfl (c:=false) (by simp[yielded,g2,Act.put]) (by decide) (HS.out _ (Below.refl _ _).drew.drew) ?_;refine Zp rfl (c:=false) (by simp[yielded,g2,Act.put]) (by decide) (HS.out _ (Below.refl _ _).drew.drew) ?_;refine Zp rfl (c:=false) (by simp[yielded,g2,Act.put]) (by decide) (HS.out _ (Below.refl _ _).drew.drew) ?_
  iterate 2 refine Zw rfl (by rintro _ ⟨_,_,_,_,_⟩;go_simp<;>rfl) (by go_simp<;>rfl) ?_
  refine Zs ?_;go_wp2;go_ret;exact⟨cbE b0.out,(Below.refl _ _).drew.drew⟩
def zdz(h:Ya w Cb Pb Lb Rl vv nv hv p vs x)(hn:Jy w nb no n lv)(hb:POk p x n.b)(hc:POk p x n.c)(hl:0<=n.level/\n.level<p.n):
  Calls prog 84 #[.pointer (some ⟨Cb,0,none⟩),.pointer (some ⟨nb,no,none⟩)] w λe w'=>e=.returned (.bool (decide (n.a<5) && (decide (Fl.role (Fl.nd x n.b).kind=0) && (decide (Fl.role (Fl.nd x n.c).kind=0) && (Fl.under p (Fl.nd x n.b).level n.level && Fl.under p (Fl.nd x n.c).level n.level)))))/\Below w.heap.size w w':=by
 obtain⟨bn,c0⟩:∃bn:Nat,(bn:Int)=n.b:=⟨n.b.toNat,by have:=hb.1;omega⟩;obtain⟨cn,d0⟩:∃cn:Nat,(cn:Int)=n.c:=⟨n.c.toNat,by have:=hc.1;omega⟩;have e0:=hn.hz;have n1:=hn.c1;have n2:=hn.c2;have n3:=hn.c3;have n4:=hn.c4;rw[<-c0]at n3;rw[<-d0]at n4;have f0:Hid (∀W,Below w.heap.size w W->Calls prog 114 #[.pointer (some ⟨Cb,0,none⟩),.int .i64 0,.int .i64 bn] W λe w'=>e=.returned (.bool (decide (Fl.role (Fl.nd x n.b).kind=0)))/\w'=W.drew):=λW hW=>znz (h.below hW) 0 n.b hb bn c0;have g0:Hid (∀W,Below w.heap.size w W->Calls prog 114 #[.pointer (some ⟨Cb,0,none⟩),.int .i64 0,.int .i64 cn] W λe w'=>e=.returned (.bool (decide (Fl.role (Fl.nd x n.c).kind=0)))/\w'=W.drew):=λW hW=>znz (h.below hW) 0 n.c hc cn d0;have h0:Hid (∀W,Below w.heap.size w W->Calls prog 115 #[.pointer (some ⟨Cb,0,none⟩),.int .i64 bn] W λe w'=>e=.returned (.int .i64 (Fl.nd x n.b).level)/\w'=W):=λW hW=>zwv (h.below hW) n.b hb bn c0;have i0:Hid (∀W,Below w.heap.size w W->Calls prog 115 #[.pointer (some ⟨Cb,0,none⟩),.int .i64 cn] W λe w'=>e=.returned (.int .i64 (Fl.nd x n.c).level)/\w'=W):=λW hW=>zwv (h.below hW) n.c hc cn d0;have HS:Hid (∀W,Below w.heap.size w W->W.cell? ⟨nb,no+1,none⟩=some (.int .i64 n.level)/\W.cell? ⟨nb,no+2,none⟩=some (.int .i64 n.a)/\W.cell? ⟨nb,no+3,none⟩=some (.int .i64 (bn:Nat))/\W.cell? ⟨nb,no+4,none⟩=some (.int .i64 (cn:Nat))/\True):=λW hW=>⟨(hW.cell (p:=⟨nb,no+1,none⟩) e0).trans n1,(hW.cell (p:=⟨nb,no+2,none⟩) e0).trans n2,(hW.cell (p:=⟨nb,no+3,none⟩) e0).trans n3,(hW.cell (p:=⟨nb,no+4,none⟩) e0).trans n4,trivial⟩;have HU:Hid (∀W v,Below w.heap.size w W->Zv W.heap.size W v [(Fl.nd x n.b).level,(Fl.nd x n.c).level]->Calls prog 113 #[.pointer (some ⟨Cb,0,none⟩),.int .i64 n.level,v] W λe w'=>e=.returned (.bool (Fl.under p (Fl.nd x n.b).level n.level && Fl.under p (Fl.nd x n.c).level n.level))/\w'=W):=λW v hW hv2=>zo4 (h.below hW) _ hl _ _ ⟨hb.2.2.1,hb.2.2.2.1⟩ ⟨hc.2.2.1,hc.2.2.2.1⟩ v hv2;generalize decide (Fl.role (Fl.nd x n.b).kind=0)=isa at*;generalize decide (Fl.role (Fl.nd x n.c).kind=0)=isw at*;generalize (Fl.under p (Fl.nd x n.b).level n.level && Fl.under p (Fl.nd x n.c).level n.level)=un at*;generalize (Fl.nd x n.b).level=la at*;generalize (Fl.nd x n.c).level=lw at*;clear h hn n1 n2 n3 n4 hb hc c0 d0
 by_cases h5:n.a<5
 ·have b0:Hid ((decide (n.a<5) && (isa && (isw && un)))=(isa && (isw && un))):=by show _=_;rw[decide_eq_true h5,Bool.true_and]
  cases isa with
  |true=>
   cases isw with
   |true=>
    go_enter func84,ntmps84
    go_wp2_with fail
    refine Yc HS ((Below.refl _ _).drew) [(0,0),(0,1),(0,2),(0,3),(0,4),(0,5),(0,6),(0,7),(0,8),(0,9),(0,10),(1,11),(0,12),(0,13),(0,14),(0,15),(0,16),(0,17),(0,18),(1,19),(0,20),(0,21),(0,22),(0,23),(0,24),(0,25),(0,26),(0,27),(0,28),(0,29),(0,30),(0,31),(0,33),(0,34),(0,35),(0,36),(0,37),(1,32),(1,38),(1,39),(1,40),(0,41),(0,42)] [] [(5,10),(13,18),(21,26)] (by kernel_rfl) (λc a d v w h=>by cases d<;>exact h) (λops ⟨g1,g2,g3,_⟩=>?_)
    iterate 11 refine Zw (by first|rfl|simp[Region.wanted,yielded,g1,Act.put]) (by rintro _ ⟨_,_,_,_,_⟩;go_simp<;>rfl) (by go_simp<;>rfl) ?_
    refine Zc (by simp[Region.wanted,yielded,g1,Act.put]) ?_
    go_wp2_with fail
    refine(f0.out _ ((Below.refl _ _).drew)).mono ?_;rintro e W1 ⟨rfl,a0⟩;rw[a0];clear a0 W1
    go_wp2_with fail
    refine⟨HS.out _ ((Below.refl _ _).drew.drew),?_⟩
    iterate 7 refine Zw (by first|rfl|simp[Region.wanted,yielded,g2,Act.put]) (by rintro _ ⟨_,_,_,_,_⟩;go_simp<;>rfl) (by go_simp<;>rfl) ?_
    refine Zc (by simp[Region.wanted,yielded,g2,Act.put]) ?_
    go_wp2_with fail
    refine(g0.out _ ((Below.refl _ _).drew.drew)).mono ?_;rintro e W1 ⟨rfl,a0⟩;rw[a0];clear a0 W1
    go_wp2_with fail
    refine⟨HS.out _ ((Below.refl _ _).drew.drew.drew),?_⟩
    iterate 17 refine Zw (by first|rfl|simp[Region.wanted,yielded,g3,Act.put]) (by rintro _ ⟨_,_,_,_,_⟩;go_simp<;>rfl) (by go_simp<;>rfl) ?_
    refine Zc (by simp[Region.wanted,yielded,g3,Act.put]) ?_
    go_wp2_with fail
    refine(h0.out _ ((Below.refl _ _).drew.drew.drew)).mono ?_;rintro e W1 ⟨rfl,a0⟩;rw[a0];clear a0 W1
    go_wp2_with fail
    refine⟨HS.out _ ((Below.refl _ _).drew.drew.drew),?_⟩;refine Zc (by simp[Region.wanted,yielded,g3,Act.put]) ?_
    go_wp2_with fail
    refine(i0.out _ ((Below.refl _ _).drew.drew.drew)).mono ?_;rintro e W1 ⟨rfl,a0⟩;rw[a0];clear a0 W1
    go_wp2_with fail
    refine⟨HS.out _ ((Below.refl _ _).drew.drew.drew),?_⟩;refine Zc (by simp[Region.wanted,yielded,g3,Act.put]) ?_
    go_wp2_with fail
    refine⟨HS.out _ ((bA).drew.drew.drew),?_⟩;refine Zc (by simp[Region.wanted,yielded,g3,Act.put]) ?_
    go_wp2_with fail
    refine(HU.out _ _ ((bA).drew.drew.drew) (zl1 w _ _)).mono ?_;rintro e W1 ⟨rfl,a0⟩;rw[a0];clear a0 W1
    go_wp2_with fail
    refine⟨HS.out _ ((bA).drew.drew.drew),?_⟩
    iterate 2 refine Zw rfl (by rintro _ ⟨_,_,_,_,_⟩;go_simp<;>rfl) (by go_simp<;>rfl) ?_
    refine Zs ?_;go_wp2;go_ret;exact⟨cbE b0.out,(bA).drew.drew.drew⟩
   |false=>
    go_enter func84,ntmps84
    go_wp2_with fail
    refine Yc HS ((Below.refl _ _).drew) [(0,0),(0,1),(0,2),(0,3),(0,4),(0,5),(0,6),(0,7),(0,8),(0,9),(0,10),(1,11),(0,12),(0,13),(0,14),(0,15),(0,16),(0,17),(0,18),(1,19),(0,20),(0,21),(0,22),(0,23),(0,24),(0,25),(0,26),(0,27),(0,28),(0,29),(0,30),(0,31),(0,33),(0,34),(0,35),(0,36),(0,37),(1,32),(1,38),(1,39),(1,40),(0,41),(0,42)] [] [(5,10),(13,18),(21,26)] (by kernel_rfl) (λc a d v w h=>by cases d<;>exact h) (λops ⟨g1,g2,g3,_⟩=>?_)
    iterate 11 refine Zw (by first|rfl|simp[Region.wanted,yielded,g1,Act.put]) (by rintro _ ⟨_,_,_,_,_⟩;go_simp<;>rfl) (by go_simp<;>rfl) ?_
    refine Zc (by simp[Region.wanted,yielded,g1,Act.put]) ?_
    go_wp2_with fail
    refine(f0.out _ ((Below.refl _ _).drew)).mono ?_;rintro e W1 ⟨rfl,a0⟩;rw[a0];clear a0 W1
    go_wp2_with fail
    refine⟨HS.out _ ((Below.refl _ _).drew.drew),?_⟩
    iterate 7 refine Zw (by first|rfl|simp[Region.wanted,yielded,g2,Act.put]) (by rintro _ ⟨_,_,_,_,_⟩;go_simp<;>rfl) (by go_simp<;>rfl) ?_
    refine Zc (by simp[Region.wanted,yielded,g2,Act.put]) ?_
    go_wp2_with fail
    refine(g0.out _ ((Below.refl _ _).drew.drew)).mono ?_;rintro e W1 ⟨rfl,a0⟩;rw[a0];clear a0 W1
    go_wp2_with fail
    refine⟨HS.out _ ((Below.refl _ _).drew.drew.drew),?_⟩
    iterate 2 refine Zw rfl (by rintro _ ⟨_,_,_,_,_⟩;go_simp<;>rfl) (by go_simp<;>rfl) ?_
    iterate 15
     refine Ys rfl (c:=false) (by simp[yielded,g3,Act.put]) (by decide) ?_
    refine Zp rfl (c:=false) (by simp[yielded,g3,Act.put]) (by decide) (HS.out _ (Below.refl _ _).drew.drew.drew) ?_;refine Zp rfl (c:=false) (by simp[yielded,g3,Act.put]) (by decide) (HS.out _ (Below.refl _ _).drew.drew.drew) ?_;refine Zp rfl (c:=false) (by simp[yielded,g3,Act.put]) (by decide) (HS.out _ (Below.refl _ _).drew.drew.drew) ?_;refine Zp rfl (c:=false) (by simp[yielded,g3,Act.put]) (by decide) (HS.out _ (Below.refl _ _).drew.drew.drew) ?_
    iterate 2 refine Zw rfl (by rintro _ ⟨_,_,_,_,_⟩;go_simp<;>rfl) (by go_simp<;>rfl) ?_
    refine Zs ?_;go_wp2;go_ret;exact⟨cbE b0.out,(Below.refl _ _).drew.drew.drew⟩
  |false=>
   go_enter func84,ntmps84
   go_wp2_with fail
   refine Yc HS ((Below.refl _ _).drew) [(0,0),(0,1),(0,2),(0,3),(0,4),(0,5),(0,6),(0,7),(0,8),(0,9),(0,10),(1,11),(0,12),(0,13),(0,14),(0,15),(0,16),(0,17),(0,18),(1,19),(0,20),(0,21),(0,22),(0,23),(0,24),(0,25),(0,26),(0,27),(0,28),(0,29),(0,30),(0,31),(0,33),(0,34),(0,35),(0,36),(0,37),(1,32),(1,38),(1,39),(1,40),(0,41),(0,42)] [] [(5,10),(13,18),(21,26)] (by kernel_rfl) (λc a d v w h=>by cases d<;>exact h) (λops ⟨g1,g2,g3,_⟩=>?_)
   iterate 11 refine Zw (by first|rfl|simp[Region.wanted,yielded,g1,Act.put]) (by rintro _ ⟨_,_,_,_,_⟩;go_simp<;>rfl) (by go_simp<;>rfl) ?_
   refine Zc (by simp[Region.wanted,yielded,g1,Act.put]) ?_
   go_wp2_with fail
   refine(f0.out _ ((Below.refl _ _).drew)).mono ?_;rintro e W1 ⟨rfl,a0⟩;rw[a0];clear a0 W1
   go_wp2_with fail
   refine⟨HS.out _ ((Below.refl _ _).drew.drew),?_⟩
   iterate 2 refine Zw rfl (by rintro _ ⟨_,_,_,_,_⟩;go_simp<;>rfl) (by go_simp<;>rfl) ?_
   iterate 5
    refine Ys rfl (c:=false) (by simp[yielded,g2,Act.put]) (by decide) ?_
   refine Zp rfl (c:=false) (by simp[yielded,g2,Act.put]) (by decide) (HS.out _ (Below.refl _ _).drew.drew) ?_
   iterate 2 refine Zw rfl (by rintro _ ⟨_,_,_,_,_⟩;go_simp<;>rfl) (by go_simp<;>rfl) ?_
   iterate 15
    refine Ys rfl (c:=false) (by simp[yielded,g3,Act.put]) (by decide) ?_
   refine Zp rfl (c:=false) (by simp[yielded,g3,Act.put]) (by decide) (HS.out _ (Below.refl _ _).drew.drew) ?_;refine Zp rfl (c:=false) (by simp[yielded,g3,Act.put]) (by decide) (HS.out _ (Below.refl _ _).drew.drew) ?_;refine Zp rfl (c:=false) (by simp[yielded,g3,Act.put]) (by decide) (HS.out _ (Below.refl _ _).drew.drew) ?_;refine Zp rfl (c:=false) (by simp[yielded,g3,Act.put]) (by decide) (HS.out _ (Below.refl _ _).drew.drew) ?_
   iterate 2 refine Zw rfl (by rintro _ ⟨_,_,_,_,_⟩;go_simp<;>rfl) (by go_simp<;>rfl) ?_
   refine Zs ?_;go_wp2;go_ret;exact⟨cbE b0.out,(Below.refl _ _).drew.drew⟩
 have b0:Hid ((decide (n.a<5) && (isa && (isw && un)))=false):=by show _=_;rw[decide_eq_false h5,Bool.false_and]
 have d5:(n.a<5)=False:=eq_false h5;clear h5
 go_enter func84,ntmps84
 go_wp2_with fail
 refine Yc HS ((Below.refl _ _).drew) [(0,0),(0,1),(0,2),(0,3),(0,4),(0,5),(0,6),(0,7),(0,8),(0,9),(0,10),(1,11),(0,12),(0,13),(0,14),(0,15),(0,16),(0,17),(0,18),(1,19),(0,20),(0,21),(0,22),(0,23),(0,24),(0,25),(0,26),(0,27),(0,28),(0,29),(0,30),(0,31),(0,33),(0,34),(0,35),(0,36),(0,37),(1,32),(1,38),(1,39),(1,40),(0,41),(0,42)] [] [(5,10),(13,18),(21,26)] (by kernel_rfl) (λc a d v w h=>by cases d<;>exact h) (λops ⟨g1,g2,g3,_⟩=>?_)
 iterate 6 refine Zw rfl (by rintro _ ⟨_,_,_,_,_⟩;go_simp<;>rfl) (by go_simp<;>rfl) ?_
 iterate 5
  refine Ys rfl (c:=false) (by simp[yielded,g1,Act.put,d5]) (by decide) ?_
 refine Zp rfl (c:=false) (by simp[yielded,g1,Act.put,d5]) (by decide) (HS.out _ (Below.refl _ _).drew) ?_
 iterate 2 refine Zw rfl (by rintro _ ⟨_,_,_,_,_⟩;go_simp<;>rfl) (by go_simp<;>rfl) ?_
 iterate 5
  refine Ys rfl (c:=false) (by simp[yielded,g2,Act.put,d5]) (by decide) ?_
 refine Zp rfl (c:=false) (by simp[yielded,g2,Act.put,d5]) (by decide) (HS.out _ (Below.refl _ _).drew) ?_
 iterate 2 refine Zw rfl (by rintro _ ⟨_,_,_,_,_⟩;go_simp<;>rfl) (by go_simp<;>rfl) ?_
 iterate 15
  refine Ys rfl (c:=false) (by simp[yielded,g3,Act.put,d5]) (by decide) ?_
 refine Zp rfl (c:=false) (by simp[yielded,g3,Act.put,d5]) (by decide) (HS.out _ (Below.refl _ _).drew) ?_;refine Zp rfl (c:=false) (by simp[yielded,g3,Act.put,d5]) (by decide) (HS.out _ (Below.refl _ _).drew) ?_;refine Zp rfl (c:=false) (by simp[yielded,g3,Act.put,d5]) (by decide) (HS.out _ (Below.refl _ _).drew) ?_;refine Zp rfl (c:=false) (by simp[yielded,g3,Act.put,d5]) (by decide) (HS.out _ (Below.refl _ _).drew) ?_
 iterate 2 refine Zw rfl (by rintro _ ⟨_,_,_,_,_⟩;go_simp<;>rfl) (by go_simp<;>rfl) ?_
 refine Zs ?_;go_wp2;go_ret;exact⟨cbE b0.out,(Below.refl _ _).drew⟩
end
section
variable{w:World}{Cb Pb Lb Rl nb no:Nat}{vv nv hv lv:Value}{p:Fl.Prog}{vs:List Int}{x:List Fl.Node}{n:Fl.Node}
def Uf{B:Nat}{w:World}{v:Value}{l:List Int}(h:Zv B w v l):∃a c,v=.slice a l.length c:=by obtain⟨a,c,e,-⟩:=h;exact⟨a,c,e⟩
def zh8(a b:Value):Calls prog 82 #[a,b] w λe w'=>e=.returned (.bool true)/\Below w.heap.size w w':=by
 go_enter func82,ntmps82
 go_wp2;go_ret;exact⟨rfl,Below.refl _ _⟩
def zh9(h:Ya w Cb Pb Lb Rl vv nv hv p vs x)(hn:Jy w nb no n lv)(ha:0<=n.a)(hb:POk p x n.b)(hl:0<=n.level/\n.level<p.n)(b0:∀y∈vs,0<=y/\y<p.n)(c0:vs.length<=100):
  Calls prog 85 #[.pointer (some ⟨Cb,0,none⟩),.pointer (some ⟨nb,no,none⟩)] w λe w'=>e=.returned (.bool (Fl.mayGo p x n vs))/\Below w.heap.size w w':=by
 have HM:Hid (Calls prog 116 #[.pointer (some ⟨Cb,0,none⟩),.pointer (some ⟨nb,no,none⟩),vv] w λe w'=>e=.returned (.bool (Fl.mayGo p x n vs))/\Below w.heap.size w w'):=zf8 h hn ha hb hl vv vs h.vi b0 c0;obtain⟨a,c,rfl⟩:=Uf h.vi;have c1:=h.c1;clear h hn hb
 go_enter func85,ntmps85
 go_wp2_with fail
 refine HM.out.mono ?_;rintro e w1 ⟨rfl,a0⟩;have HW:=Zz a0;clear a0;go_wp2;go_ret;exact⟨rfl,HW.out⟩
def zhz(h:Ya w Cb Pb Lb Rl vv nv hv p vs x)(hn:Jy w nb no n lv)(ha:0<=n.a)(hb:POk p x n.b)(hl:0<=n.level/\n.level<p.n)(d0:∀y∈p.chans,y<p.n)(e0:p.chans.length<=100):
  Calls prog 86 #[.pointer (some ⟨Cb,0,none⟩),.pointer (some ⟨nb,no,none⟩)] w λe w'=>e=.returned (.bool (Fl.mayGo p x n (p.chans.map λ(y:Nat)=>(y:Int))))/\Below w.heap.size w w':=by
 have HM:Hid (Calls prog 116 #[.pointer (some ⟨Cb,0,none⟩),.pointer (some ⟨nb,no,none⟩),hv] w λe w'=>e=.returned (.bool (Fl.mayGo p x n (p.chans.map λ(y:Nat)=>(y:Int))))/\Below w.heap.size w w'):=zf8 h hn ha hb hl hv _ h.hi (by intro y hy;obtain⟨z,hz,rfl⟩:=List.mem_map.1 hy;have:=d0 z hz;omega) (by simpa using e0);obtain⟨a,c,a0⟩:=Uf h.hi;rw[List.length_map]at a0;subst a0;have c0:=h.c0;have p2:=h.p2;clear h hn hb
 go_enter func86,ntmps86
 go_wp2_with fail
 refine HM.out.mono ?_;rintro e w1 ⟨rfl,b0⟩;have HW:=Zz b0;clear b0;go_wp2;go_ret;exact⟨rfl,HW.out⟩
def zl2(h:Ya w Cb Pb Lb Rl vv nv hv p vs x)(hn:Jy w nb no n lv)(ha:POk p x n.a)(hb:POk p x n.b)(hl:0<=n.level/\n.level<p.n):
  Calls prog 88 #[.pointer (some ⟨Cb,0,none⟩),.pointer (some ⟨nb,no,none⟩)] w λe w'=>e=.returned (.bool (Fl.guards p x n n.b))/\Below w.heap.size w w':=by
 have HM:Hid (Calls prog 117 #[.pointer (some ⟨Cb,0,none⟩),.pointer (some ⟨nb,no,none⟩),.int .i64 n.b] w λe w'=>e=.returned (.bool (Fl.guards p x n n.b))/\Below w.heap.size w w'):=zq0 h hn ha n.b hb hl;have n3:=hn.c3;clear h hn hb ha
 go_enter func88,ntmps88
 go_wp2_with fail
 refine HM.out.mono ?_;rintro e w1 ⟨rfl,a0⟩;have HW:=Zz a0;clear a0;go_wp2;go_ret;exact⟨rfl,HW.out⟩
def zdy(h:Ya w Cb Pb Lb Rl vv nv hv p vs x)(hn:Jy w nb no n lv)(ha:POk p x n.a)(hb:POk p x n.b)(hc:POk p x n.c)(hl:0<=n.level/\n.level<p.n):
  Calls prog 87 #[.pointer (some ⟨Cb,0,none⟩),.pointer (some ⟨nb,no,none⟩)] w λe w'=>e=.returned (.bool (Fl.guards p x n n.b && Fl.guards p x n n.c))/\Below w.heap.size w w':=by
 have HM:Hid (Calls prog 117 #[.pointer (some ⟨Cb,0,none⟩),.pointer (some ⟨nb,no,none⟩),.int .i64 n.b] w λe w'=>e=.returned (.bool (Fl.guards p x n n.b))/\Below w.heap.size w w'):=zq0 h hn ha n.b hb hl;have HN:Hid (∀W,Below w.heap.size w W->W.cell? ⟨nb,no+4,none⟩=some (.int .i64 n.c)/\Calls prog 117 #[.pointer (some ⟨Cb,0,none⟩),.pointer (some ⟨nb,no,none⟩),.int .i64 n.c] W λe w'=>e=.returned (.bool (Fl.guards p x n n.c))/\Below W.heap.size W w'):=λW hW=>⟨(hn.below hW).c4,zq0 (h.below hW) (hn.below hW) ha n.c hc hl⟩;have n3:=hn.c3;generalize Fl.guards p x n n.b=gb at*;generalize Fl.guards p x n n.c=gc at*;clear h hn hb ha hc
 go_enter func87,ntmps87
 go_wp2_with fail
 refine HM.out.mono ?_;rintro e w1 ⟨rfl,a0⟩;have HW:=Zz a0;obtain⟨n4,hg⟩:=HN.out w1 a0;have HG:=Zz hg;clear a0 hg HN
 cases gb with
 |false=>
  go_wp2;go_ret;exact⟨rfl,HW.out⟩
 |true=>
  go_wp2_with fail
  refine HG.out.mono ?_;rintro e w2 ⟨rfl,b0⟩;have c0:Hid (Below w.heap.size w w2):=HW.out.trans (b0.mono HW.out.size);clear b0;go_wp2;go_ret;exact⟨rfl,c0.out⟩
end
def Xj(P:Program)(ops:Array Oper)(S:World->Prop)(Q:Exit->Act->World->Prop)(E:Act->World->Prop):List (Nat×Oper)->Act->World->Prop
 |[],a,w=>S w/\E a w
 |(0,o)::l,a,w=>∃v,YieldsIf P ops S o v a/\Xj P ops S Q E l (a.put o.dst v) w
 |(_+1,o)::l,a,w=>wpList P ops (Exit.then (λa1 w1=>S w1/\Xj P ops S Q E l a1 w1) Q) [o] a w
def zv8(ops:Array Oper):List Nat->List (Nat×Nat)->Bool
 |_,[]=>true
 |pre,(0,i)::l=>Region.free .any ops (Zm ops.size pre) i && ((Region.ready .any ops (Zm ops.size pre)).contains i && zv8 ops (pre++[i]) l)
 |pre,(_+1,i)::l=>decide (Region.ready .any ops (Zm ops.size pre)=[i]) && zv8 ops (pre++[i]) l
section
variable{P:Program}{ops:Array Oper}{Q:Exit->Act->World->Prop}{S:World->Prop}{E:Act->World->Prop}
def Yf{o:Oper}{l:List (Nat×Oper)}{a:Act}{w:World}(hg:o.guard=none)
  (h:∀K:Act->Prop,(∀a',Xj P ops S Q E l a' w->K a')->∃v,(∀w,S w->(execOp a.eval o).run P w=.ok (.value v) w)/\K (a.put o.dst v)):Xj P ops S Q E ((0,o)::l) a w:=by
 obtain⟨v,h1,h2⟩:=h (λa'=>Xj P ops S Q E l a' w) (λ_ h=>h);exact⟨v,.inl ⟨by simp[Region.wanted,hg],h1⟩,h2⟩
def zxy{o:Oper}{l:List (Nat×Oper)}{a:Act}{w:World}(h:wpList P ops (Exit.then (λa1 w1=>S w1/\Xj P ops S Q E l a1 w1) Q) [o] a w):Xj P ops S Q E ((1,o)::l) a w:=h
def Ux{a:Act}{w:World}(h:S w/\E a w):Xj P ops S Q E [] a w:=h
def zt5(f:Nat)(hs:Region.noSelect ops=true)(hQ:∀c a d v w,Q (.panic c) (Act.put a d v) w->Q (.panic c) a w):
  ∀(st:List (Nat×Nat)) (so:List (Nat×Oper)) (pre:List Nat) (a:Act) (w:World),S w->st.map (λp=>(p.1,ops[p.2]?))=so.map (λp=>(p.1,some p.2))->zv8 ops pre st=true->
  (∀a w,E a w->S w->Uc P ops Q S [] f (Zm ops.size (pre++st.map (·.2))) a w)->
  Xj P ops S Q E so a w->Uc P ops Q S [] (f+st.length) (Zm ops.size pre) a w
 |[],so,pre,a,w,hS,a0,hB,hE,h=>by
  have:so=[]:=by cases so with|nil=>rfl|cons o so=>simp at a0
  subst this;have:=hE a w h.2 h.1;simpa using this
 |(0,i)::st,so,pre,a,w,hS,a0,hB,hE,h=>by
  cases so with
  |nil=>simp at a0
  |cons p so=>
   obtain⟨c,o⟩:=p;simp only[List.map_cons,List.cons.injEq,Prod.mk.injEq]at a0;obtain⟨⟨rfl,ho⟩,a0⟩:=a0;simp only[zv8,Bool.and_eq_true]at hB;obtain⟨v,h1,h2⟩:=h;have ih:=zt5 f hs hQ st so (pre++[i]) (a.put o.dst v) w hS a0 hB.2.2 (λa w hE' hS'=>by have:=hE a w hE' hS';simpa using this) h2;rw[Ym]at ih;have:=zt4 ho (Region.noSelect_spec hs) (λc a w h=>hQ c a _ _ w h) (by simp) (f+st.length) _ a w (Region.free_spec ho hB.1) (by simpa using hB.2.1) h1 hS ih;simpa [Nat.add_assoc] using this
 |(k+1,i)::st,so,pre,a,w,hS,a0,hB,hE,h=>by
  cases so with
  |nil=>simp at a0
  |cons p so=>
   obtain⟨c,o⟩:=p;simp only[List.map_cons,List.cons.injEq,Prod.mk.injEq]at a0;obtain⟨⟨rfl,ho⟩,a0⟩:=a0;simp only[zv8,Bool.and_eq_true,decide_eq_true_eq]at hB;rw[List.length_cons,<-Nat.add_assoc];refine⟨λh0=>(by rw[hB.1]at h0;cases h0),λx hx=>?_⟩;rw[hB.1]at hx;simp only[List.mem_singleton]at hx;subst hx;refine wpOp_mono (λa1 w1 hk=>⟨λ_=>hk.1,?_⟩) (Uk ho h);have ih:=zt5 f hs hQ st so (pre++[x]) a1 w1 hk.1 a0 hB.2 (λa w hE' hS'=>by have:=hE a w hE' hS';simpa using this) hk.2
   rwa [Ym]at ih
end
section
variable{P:Program}{ops:Array Oper}{Q:Exit->Act->World->Prop}{S:World->Prop}{E:Act->World->Prop}
def zhy{o:Oper}{l:List (Nat×Oper)}{a:Act}{w:World}{j:Nat}{b:Bool}(hg:o.guard=some (j,b))(hy:yielded ops a.tmps j=some b)
  (h:∀K:Act->Prop,(∀a',Xj P ops S Q E l a' w->K a')->∃v,(∀w,S w->(execOp a.eval o).run P w=.ok (.value v) w)/\K (a.put o.dst v)):Xj P ops S Q E ((0,o)::l) a w:=by
 obtain⟨v,h1,h2⟩:=h (λa'=>Xj P ops S Q E l a' w) (λ_ h=>h);exact⟨v,.inl ⟨by simp[Region.wanted,hg,hy],h1⟩,h2⟩
def zo5{o:Oper}{l:List (Nat×Oper)}{a:Act}{w:World}{j:Nat}{b c:Bool}(hg:o.guard=some (j,b))(hy:yielded ops a.tmps j=some c)(a0:(some c==some b)=false)
  (h:Xj P ops S Q E l (a.put o.dst undef) w):Xj P ops S Q E ((0,o)::l) a w:=⟨undef,.inr ⟨by simpa [Region.wanted,hg,hy] using a0,rfl⟩,h⟩
def zj8{l:List (Nat×Oper)}{a:Act}{w:World}{dst:Option Tmp}{op:Op}{ty:TypeId}{pos:String}{after:Array Edge}{guard:Option (Nat×Bool)}
  (hw:Region.wanted {dst:=dst,op:=op,type:=ty,pos:=pos,after:=after,guard:=guard} (yielded ops a.tmps)=true) (h:wpList P ops (Exit.then (λa1 w1=>S w1/\Xj P ops S Q E l a1 w1) Q) [{dst:=dst,op:=op,type:=ty,pos:=pos,after:=after,guard:=none}] a w):
  Xj P ops S Q E ((1,{dst:=dst,op:=op,type:=ty,pos:=pos,after:=after,guard:=guard})::l) a w:=Us hw h
def zo6{o:Oper}{l:List (Nat×Oper)}{a:Act}{w:World}{j:Nat}{b c:Bool}(hg:o.guard=some (j,b))(hy:yielded ops a.tmps j=some c)(a0:(some c==some b)=false)(hS:S w)
  (h:Xj P ops S Q E l (a.put o.dst undef) w):Xj P ops S Q E ((1,o)::l) a w:=wpList_skip (by simpa [Region.wanted,hg,hy] using a0) ⟨hS,h⟩
def zt6(P:Program)(ops:Array Oper)(S:World->Prop)(Q:Exit->Act->World->Prop)(so3:List (Nat×Oper))(ox oy:Oper)(a:Act)(w:World):Prop:=
 wpList P ops (Exit.then (λa1 w1=>S w1/\wpList P ops (Exit.then (λa2 w2=>S w2/\Xj P ops S Q (λa3 w3=>Q .normal a3 w3) so3 a2 w2) Q) [oy] a1 w1) Q) [ox] a w
def zp4{id:Nat}{a:Act}{w:World}{l:List Oper}(S:World->Prop)(st:List (Nat×Nat))(i j:Nat)(st3 G:List (Nat×Nat))(hm:P.follows .mixedOrders=true)
  (hB:(Region.noSelect l.toArray && (zv8 l.toArray [] st && (decide (Region.ready .any l.toArray (Zm l.toArray.size (st.map (·.2)))=[i,j]) && (decide (Region.ready .any l.toArray (Zm l.toArray.size (st.map (·.2)++[i]))=[j]) && (decide (Region.ready .any l.toArray (Zm l.toArray.size (st.map (·.2)++[j]))=[i]) && (zv8 l.toArray (st.map (·.2)++[i]++[j]) st3 && (zv8 l.toArray (st.map (·.2)++[j]++[i]) st3 && (decide (Region.ready .any l.toArray (Zm l.toArray.size (st.map (·.2)++[i]++[j]++st3.map (·.2)))=[]) && (decide (Region.ready .any l.toArray (Zm l.toArray.size (st.map (·.2)++[j]++[i]++st3.map (·.2)))=[]) && G.all (λp=>decide (((l.toArray[p.1]?).bind λx=>x.dst)=some p.2)))))))))))=true)
  (hlen:l.length=st3.length+2+st.length) (so so3:List (Nat×Oper)) (oi oj:Oper) (c0:st.map (λp=>(p.1,l.toArray[p.2]?))=so.map (λp=>(p.1,some p.2))) (a0:st3.map (λp=>(p.1,l.toArray[p.2]?))=so3.map (λp=>(p.1,some p.2))) (hi:l.toArray[i]?=some oi) (hj:l.toArray[j]?=some oj)
  (hQ:∀c a d v w,Q (.panic c) (Act.put a d v) w->Q (.panic c) a w) (hS:S w.drew)
  (h:∀ops:Array Oper,(∀p∈G,((ops[p.1]?).bind λx=>x.dst)=some p.2)->Xj P ops S Q (λa' w'=>zt6 P ops S Q so3 oi oj a' w'/\zt6 P ops S Q so3 oj oi a' w') so a w.drew):(Code.region id l.toArray true).wp P Q a w:=by
 simp only[Bool.and_eq_true,decide_eq_true_eq,List.all_eq_true]at hB;obtain⟨hs,hh,r0,ri,rj,t1,t2,e1,e2,hG⟩:=hB;have key:=zt5 (P:=P) (Q:=Q) (S:=S) (ops:=l.toArray) (st3.length+2) hs hQ st so [] a w.drew hS c0 hh ?_ (h l.toArray hG)
 ·refine wp_region_any hm (zx4 (S:=S) (late:=[]) _ _ _ _ ?_)
  have e:l.toArray.size=st3.length+2+st.length:=(by simp[hlen]);rw[<-e]at key;simpa [Zm] using key
 intro a' w' hE hS'
 have step:∀(x y:Nat) (ox oy:Oper),l.toArray[x]?=some ox->l.toArray[y]?=some oy->Region.ready .any l.toArray (Zm l.toArray.size (st.map (·.2)++[x]))=[y]->zv8 l.toArray (st.map (·.2)++[x]++[y]) st3=true->Region.ready .any l.toArray (Zm l.toArray.size (st.map (·.2)++[x]++[y]++st3.map (·.2)))=[]->
   zt6 P l.toArray S Q so3 ox oy a' w'->wpOp P l.toArray Q x (λa1 w1=>(x ∉ ([]:List Nat)->S w1)/\Uc P l.toArray Q S [] (st3.length+1) ((Zm l.toArray.size ([]++st.map (·.2))).setIfInBounds x true) a1 w1) a' w':=by
  intro x y ox oy hx hy h1 h2 h3 hw;refine wpOp_mono (λa1 w1 hk=>⟨λ_=>hk.1,?_⟩) (Uk hx hw);have e1:(Zm l.toArray.size ([]++st.map (·.2))).setIfInBounds x true=Zm l.toArray.size (st.map (·.2)++[x]):=(by rw[Ym];rfl);rw[e1];refine⟨λh0=>(by rw[h1]at h0;cases h0),λz hz=>?_⟩;rw[h1]at hz;simp only[List.mem_singleton]at hz;subst hz;refine wpOp_mono (λa2 w2 b0=>⟨λ_=>b0.1,?_⟩) (Uk hy hk.2);have e2:(Zm l.toArray.size (st.map (·.2)++[x])).setIfInBounds z true=Zm l.toArray.size (st.map (·.2)++[x]++[z]):=(Ym _ _ _).symm;rw[e2];have:=zt5 (P:=P) (Q:=Q) (S:=S) (ops:=l.toArray) (E:=λa3 w3=>Q .normal a3 w3) 0 hs hQ st3 so3 (st.map (·.2)++[x]++[z]) a2 w2 b0.1 a0 h2 (λa3 w3 hE3 _=>⟨h3,hE3⟩) b0.2;simpa using this
 refine⟨λh0=>?_,λz hz=>?_⟩
 ·simp only[List.nil_append]at h0;rw[r0]at h0;cases h0
 simp only[List.nil_append]at hz;rw[r0]at hz;simp only[List.mem_cons,List.not_mem_nil,or_false]at hz;rcases hz with rfl|rfl
 ·exact step _ j oi oj hi hj ri t1 e1 hE.1
 exact step _ i oj oi hj hi rj t2 e2 hE.2
end
def zv0(p:Fl.Prog)(x:List Fl.Node)(n:Fl.Node)(k:Int):Bool:=decide (Fl.role (Fl.nd x k).kind=1) && Fl.under p n.level (Fl.nd x k).level
section
variable{w:World}{Cb Pb Lb Rl nb no:Nat}{vv nv hv lv:Value}{p:Fl.Prog}{vs:List Int}{x:List Fl.Node}{n:Fl.Node}
def zl3(h:Ya w Cb Pb Lb Rl vv nv hv p vs x)(hn:Jy w nb no n lv)(hk:∀k∈n.list,POk p x k)(t0:n.list.length<=100)(hl:0<=n.level/\n.level<p.n):
  Calls prog 89 #[.pointer (some ⟨Cb,0,none⟩),.pointer (some ⟨nb,no,none⟩)] w λe w'=>e=.returned (.bool (n.list.all (zv0 p x n)))/\Below w.heap.size w w':=by
 obtain⟨ao,cap,rfl,hc,-,f0⟩:=hn.li;have n5:=hn.c5;have HS:Hid (∀W,Below w.heap.size w W->Below w.heap.size w W/\W.cell? ⟨nb,no+1,none⟩=some (.int .i64 n.level)):=λW hW=>⟨hW,(hn.below hW).c1⟩
 have HE:Hid (∀i,(hi:i<n.list.length)->∃b off,ao=some ⟨b,off,none⟩/\∃y:Nat,(y:Int)=n.list[i]/\(∀W,Below w.heap.size w W->W.cell? ⟨b,off+i,none⟩=some (.int .i64 (y:Int)))/\(∀W,Below w.heap.size w W->Calls prog 114 #[.pointer (some ⟨Cb,0,none⟩),.int .i64 1,.int .i64 y] W λe w'=>e=.returned (.bool (decide (Fl.role (Fl.nd x n.list[i]).kind=1)))/\w'=W.drew)/\
   (∀W,Below w.heap.size w W->Calls prog 115 #[.pointer (some ⟨Cb,0,none⟩),.int .i64 y] W λe w'=>e=.returned (.int .i64 (Fl.nd x n.list[i]).level)/\w'=W)/\
   (∀W v,Below w.heap.size w W->Zv W.heap.size W v [n.level]->Calls prog 113 #[.pointer (some ⟨Cb,0,none⟩),.int .i64 (Fl.nd x n.list[i]).level,v] W λe w'=>e=.returned (.bool (Fl.under p n.level (Fl.nd x n.list[i]).level))/\w'=W)):=λi hi=>by
  obtain⟨b,off,e,hbz,u0⟩:=f0 (by intro h;rw[h]at hi;simp at hi);have hp:=hk n.list[i] (List.getElem_mem hi);have hy:((n.list[i].toNat:Nat):Int)=n.list[i]:=(by have:=hp.1;omega);refine⟨b,off,e,n.list[i].toNat,hy,λW hW=>?_,λW hW=>znz (h.below hW) 1 _ hp _ hy,λW hW=>zwv (h.below hW) _ hp _ hy,λW v hW hv=>?_⟩
  ·rw[hy]
   refine(hW.cell (p:=⟨b,off+i,none⟩) hbz).trans ?_;rw[u0 i hi,Qa,Qb hi];rfl
  obtain⟨tn,v0⟩:∃tn:Nat,(tn:Int)=(Fl.nd x n.list[i]).level:=⟨(Fl.nd x n.list[i]).level.toNat,by have:=hp.2.2.1;omega⟩;have h1:=zo3 (h.below hW) tn (by have:=hp.2.2.2.1;omega) v [n.level] hv (by simp) (by intro u hu;simp at hu;subst hu;exact hl);rw[v0]at h1;simpa using h1
 have x0:(n.list.length:Int)<=100:=by omega
 have y0:(n.list.length:Int)<=(cap:Int):=by omega
 obtain⟨L,hL⟩:=nmE (n.list);rw[<-hL]at n5 x0 y0 hc t0⊢
 have z0:Hid (∀i,(hi:i<L.length)->∃b off,ao=some ⟨b,off,none⟩/\∃(y:Nat) (isb un:Bool) (lvk:Int),(∀W,Below w.heap.size w W->W.cell? ⟨b,off+i,none⟩=some (.int .i64 (y:Int)))/\(∀W,Below w.heap.size w W->Calls prog 114 #[.pointer (some ⟨Cb,0,none⟩),.int .i64 1,.int .i64 y] W λe w'=>e=.returned (.bool isb)/\w'=W.drew)/\
   (∀W,Below w.heap.size w W->Calls prog 115 #[.pointer (some ⟨Cb,0,none⟩),.int .i64 y] W λe w'=>e=.returned (.int .i64 lvk)/\w'=W)/\
   (∀W v,Below w.heap.size w W->Zv W.heap.size W v [n.level]->Calls prog 113 #[.pointer (some ⟨Cb,0,none⟩),.int .i64 lvk,v] W λe w'=>e=.returned (.bool un)/\w'=W)/\zv0 p x n L[i]=(isb && un)):=λi hi=>by
  subst hL;obtain⟨b,off,e,y,hy,h1,h2,h3,h4⟩:=HE.out i hi;exact⟨b,off,e,y,_,_,_,h1,h2,h3,h4,rfl⟩
 clear h hn f0 hk HE hL
 go_enter func89,ntmps89
 go_wp2_with fail
 go_loopw [12] (λi wr=>Below w.heap.size w wr/\∃k:Nat,k<=L.length/\i=.int .i64 k/\(L.take k).all (zv0 p x n)=true) (λi _=>L.length - (intOf i).toNat)
 case atStart=>exact⟨Below.refl _ _,0,Nat.zero_le _,rfl,rfl⟩
 case round=>
  obtain⟨k0,k,hk,rfl,hall⟩:=hrel;have a0:=Zz k0;have i0:=Zz hall;clear k0 hall
  by_cases j0:k<L.length
  ·have A0:(k:Int)<(L.length:Int):=by omega
   obtain⟨b,off,rfl,y,isb,un,lvk,l0,m0,n0,o0,p0⟩:=z0.out k j0;have cy:=l0 wr a0.out;have q0:=Zz m0;have r0:=Zz n0;have HU:=Zz o0;obtain⟨yk,s0⟩:=nmE (L[k]);have e0:Hid (yk∈L/\L.take (k+1)=L.take k++[yk]/\zv0 p x n yk=(isb && un)):=(by rw[s0];exact⟨List.getElem_mem j0,List.take_succ_eq_append_getElem j0,p0⟩)
   have c0:Hid ((isb && un)=false->L.all (zv0 p x n)=false):=λh0=>by
    rw[List.all_eq_false];exact⟨yk,e0.out.1,by rw[e0.out.2.2,h0];simp⟩
   have g0:Hid ((isb && un)=true->(L.take (k+1)).all (zv0 p x n)=true):=λh0=>by
    rw[e0.out.2.1,List.all_append,i0.out,List.all_cons,e0.out.2.2,h0];rfl
   have d0:Hid (Below w.heap.size w (wr.alloc (.cells #[.int .i64 n.level] 3)).drew.drew):=((a0.out.alloc a0.out.size _).drew).drew;clear l0 m0 n0 o0 p0 s0
   cases isb with
   |false=>
    have HF:Hid (L.all (zv0 p x n)=false):=c0.out rfl
    go_wp2_with fail
    refine zp4 (λW=>Below w.heap.size w W/\W.cell? ⟨nb,no+1,none⟩=some (.int .i64 n.level)) [(0,0),(0,1),(1,2),(0,3),(0,4),(0,5),(0,6),(0,7),(0,9),(0,10),(0,11),(0,12)] 8 13 [(1,14),(0,15),(0,16)] [(4,20)] (by kernel_rfl) (by kernel_rfl) rfl [(_,_),(_,_),(_,_),(_,_),(_,_),(_,_),(_,_),(_,_),(_,_),(_,_),(_,_),(_,_)] [(_,_),(_,_),(_,_)] _ _ rfl rfl rfl rfl (λc a d v w h=>by cases d<;>exact h) (HS.out _ (a0.out.drew)) (λops hG=>?_);have g1:=hG (4,20) (by simp);simp only at g1;clear hG;simp only[List.getElem_toArray,List.getElem_cons_succ,List.getElem_cons_zero]
    iterate 2 refine Yf rfl (kE (by rintro _ ⟨_,_⟩;go_simp<;>rfl) (by go_simp<;>rfl) ?_)
    refine zxy ?_
    go_wp2_with fail
    refine(q0.out _ (a0.out.drew)).mono ?_;rintro e W1 ⟨rfl,b0⟩;rw[b0];clear b0 W1
    go_wp2_with fail
    refine⟨HS.out _ (a0.out.drew.drew),?_⟩
    iterate 2 refine Yf rfl (kE (by rintro _ ⟨_,_⟩;go_simp<;>rfl) (by go_simp<;>rfl) ?_)
    iterate 7
     refine zo5 rfl (c:=true) (by simp[yielded,g1,Act.put]) (by decide) ?_
    refine Ux ⟨HS.out _ (a0.out.drew.drew),?_,?_⟩
    ·unfold zt6
     refine wpList_skip (by simp[Region.wanted,yielded,g1,Act.put]) ⟨HS.out _ (a0.out.drew.drew),?_⟩;refine wpList_skip (by simp[Region.wanted,yielded,g1,Act.put]) ⟨HS.out _ (a0.out.drew.drew),?_⟩;refine zo6 rfl (c:=true) (by simp[yielded,g1,Act.put]) (by decide) (HS.out _ (a0.out.drew.drew)) ?_;refine zo5 rfl (c:=true) (by simp[yielded,g1,Act.put]) (by decide) ?_;refine Yf rfl (kE (by rintro _ ⟨_,_⟩;go_simp<;>rfl) (by go_simp<;>rfl) ?_);refine Ux ⟨HS.out _ (a0.out.drew.drew),?_⟩;clear g1;go_wp2;go_ret;exact⟨cbE HF.out,a0.out.drew.drew⟩
    unfold zt6;refine wpList_skip (by simp[Region.wanted,yielded,g1,Act.put]) ⟨HS.out _ (a0.out.drew.drew),?_⟩;refine wpList_skip (by simp[Region.wanted,yielded,g1,Act.put]) ⟨HS.out _ (a0.out.drew.drew),?_⟩;refine zo6 rfl (c:=true) (by simp[yielded,g1,Act.put]) (by decide) (HS.out _ (a0.out.drew.drew)) ?_;refine zo5 rfl (c:=true) (by simp[yielded,g1,Act.put]) (by decide) ?_;refine Yf rfl (kE (by rintro _ ⟨_,_⟩;go_simp<;>rfl) (by go_simp<;>rfl) ?_);refine Ux ⟨HS.out _ (a0.out.drew.drew),?_⟩;clear g1;go_wp2;go_ret;exact⟨cbE HF.out,a0.out.drew.drew⟩
   |true=>
    go_wp2_with fail
    refine zp4 (λW=>Below w.heap.size w W/\W.cell? ⟨nb,no+1,none⟩=some (.int .i64 n.level)) [(0,0),(0,1),(1,2),(0,3),(0,4),(0,5),(0,6),(0,7),(0,9),(0,10),(0,11),(0,12)] 8 13 [(1,14),(0,15),(0,16)] [(4,20)] (by kernel_rfl) (by kernel_rfl) rfl [(_,_),(_,_),(_,_),(_,_),(_,_),(_,_),(_,_),(_,_),(_,_),(_,_),(_,_),(_,_)] [(_,_),(_,_),(_,_)] _ _ rfl rfl rfl rfl (λc a d v w h=>by cases d<;>exact h) (HS.out _ (a0.out.drew)) (λops hG=>?_);have g1:=hG (4,20) (by simp);simp only at g1;clear hG;simp only[List.getElem_toArray,List.getElem_cons_succ,List.getElem_cons_zero]
    iterate 2 refine Yf rfl (kE (by rintro _ ⟨_,_⟩;go_simp<;>rfl) (by go_simp<;>rfl) ?_)
    refine zxy ?_
    go_wp2_with fail
    refine(q0.out _ (a0.out.drew)).mono ?_;rintro e W1 ⟨rfl,b0⟩;rw[b0];clear b0 W1
    go_wp2_with fail
    refine⟨HS.out _ (a0.out.drew.drew),?_⟩
    iterate 2 refine Yf rfl (kE (by rintro _ ⟨_,_⟩;go_simp<;>rfl) (by go_simp<;>rfl) ?_)
    iterate 7 refine zhy rfl (by simp[yielded,g1,Act.put]) (kE (by rintro _ ⟨_,_⟩;go_simp<;>rfl) (by go_simp<;>rfl) ?_)
    refine Ux ⟨HS.out _ (a0.out.drew.drew),?_,?_⟩
    ·unfold zt6
     refine Us (by simp[Region.wanted,yielded,g1,Act.put]) ?_
     go_wp2_with fail
     refine(r0.out _ (a0.out.drew.drew)).mono ?_;rintro e W1 ⟨rfl,b0⟩;rw[b0];clear b0 W1
     go_wp2_with fail
     refine⟨HS.out _ (a0.out.drew.drew),?_⟩;refine Us (by simp[Region.wanted,yielded,g1,Act.put]) ?_
     go_wp2_with fail
     refine⟨HS.out _ (d0.out),?_⟩;refine zj8 (by simp[Region.wanted,yielded,g1,Act.put]) ?_
     go_wp2_with fail
     refine(HU.out _ _ (d0.out) (zl0 wr _)).mono ?_;rintro e W1 ⟨rfl,b0⟩;rw[b0];clear b0 W1
     go_wp2_with fail
     refine⟨HS.out _ (d0.out),?_⟩;refine zhy rfl (by simp[yielded,g1,Act.put]) (kE (by rintro _ ⟨_,_⟩;go_simp<;>rfl) (by go_simp<;>rfl) ?_);refine Yf rfl (kE (by rintro _ ⟨_,_⟩;go_simp<;>rfl) (by go_simp<;>rfl) ?_);refine Ux ⟨HS.out _ (d0.out),?_⟩;clear g1
     cases un with
     |false=>
      have HF:Hid (L.all (zv0 p x n)=false):=c0.out rfl;go_wp2;go_ret;exact⟨cbE HF.out,d0.out⟩
     |true=>
      have HN:Hid ((L.take (k+1)).all (zv0 p x n)=true):=g0.out rfl;go_wp2
      go_roundw
      case rel=>exact⟨d0.out,k+1,by omega,by go_num,HN.out⟩
      case measure=>simp[intOf];omega
    unfold zt6;refine Us (by simp[Region.wanted,yielded,g1,Act.put]) ?_
    go_wp2_with fail
    refine⟨HS.out _ (d0.out),?_⟩;refine Us (by simp[Region.wanted,yielded,g1,Act.put]) ?_
    go_wp2_with fail
    refine(r0.out _ (d0.out)).mono ?_;rintro e W1 ⟨rfl,b0⟩;rw[b0];clear b0 W1
    go_wp2_with fail
    refine⟨HS.out _ (d0.out),?_⟩;refine zj8 (by simp[Region.wanted,yielded,g1,Act.put]) ?_
    go_wp2_with fail
    refine(HU.out _ _ (d0.out) (zl0 wr _)).mono ?_;rintro e W1 ⟨rfl,b0⟩;rw[b0];clear b0 W1
    go_wp2_with fail
    refine⟨HS.out _ (d0.out),?_⟩;refine zhy rfl (by simp[yielded,g1,Act.put]) (kE (by rintro _ ⟨_,_⟩;go_simp<;>rfl) (by go_simp<;>rfl) ?_);refine Yf rfl (kE (by rintro _ ⟨_,_⟩;go_simp<;>rfl) (by go_simp<;>rfl) ?_);refine Ux ⟨HS.out _ (d0.out),?_⟩;clear g1
    cases un with
    |false=>
     have HF:Hid (L.all (zv0 p x n)=false):=c0.out rfl;go_wp2;go_ret;exact⟨cbE HF.out,d0.out⟩
    |true=>
     have HN:Hid ((L.take (k+1)).all (zv0 p x n)=true):=g0.out rfl;go_wp2
     go_roundw
     case rel=>exact⟨d0.out,k+1,by omega,by go_num,HN.out⟩
     case measure=>simp[intOf];omega
  have A0:¬(k:Int)<(L.length:Int):=(by omega);have HT:Hid (L.all (zv0 p x n)=true):=by
   show _=_;have h1:=i0.out;rw[List.take_of_length_le (by omega)]at h1;exact h1
  go_wp2;go_ret;exact⟨cbE HT.out,a0.out⟩
end
end Go.Proofs.YtaaejabalinojaaGreatDoor
