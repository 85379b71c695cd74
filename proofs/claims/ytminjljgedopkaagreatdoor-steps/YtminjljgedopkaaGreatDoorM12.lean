import Derived.Test.YtminjljgedopkaaGreatDoorM11
import Derived.Lib.AppendZerosOnto
set_option linter.all false
set_option maxRecDepth 100000
set_option maxHeartbeats 40000000
namespace Go.Proofs.YtminjljgedopkaaGreatDoor
open Go.RowKit Go.Proofs.Tryz
section
variable{P:Program}{ops:Array Oper}{Q:Exit->Act->World->Prop}{S:World->Prop}
def ytx{o:Oper}{l:List (Nat×Oper)}{a:Act}{w:World}{j:Nat}{b:Bool}(hg:o.guard=some (j,b))(hy:yielded ops a.tmps j=none)
  (h:Yn P ops S Q l (a.put o.dst undef) w):Yn P ops S Q ((0,o)::l) a w:=⟨undef,.inr ⟨by simp[Region.wanted,hg,hy],rfl⟩,h⟩
end
section
variable{w:World}{Cb Pb Lb Rl vb:Nat}{vv nv hv vx vy:Value}{p:Fl.Prog}{vs:List Int}{x:List Fl.Node}
def zr8(h:Yh w Cb Pb Lb Rl vv nv hv p vs x)(k:Nat)(hk:k<x.length)(vk va:Int)(h0:vb<w.heap.size)(v0:w.cell? ⟨vb,0,none⟩=some (.int .i64 vk))(v1:w.cell? ⟨vb,1,none⟩=some (.int .i64 va))(v2:w.cell? ⟨vb,2,none⟩=some vx)(v3:w.cell? ⟨vb,3,none⟩=some vy)(rb rc:Bool)
  (hb:vk=2->(Fl.nth x k).kind=2->∀W,Below w.heap.size w W->Calls prog 164 #[.pointer (some ⟨Cb,0,none⟩),.int .i64 (Fl.nth x k).b,vx] W λe w'=>e=.returned (.bool rb)/\Below W.heap.size W w')
  (hc:vk=2->(Fl.nth x k).kind=2->∀W,Below w.heap.size w W->Calls prog 164 #[.pointer (some ⟨Cb,0,none⟩),.int .i64 (Fl.nth x k).c,vy] W λe w'=>e=.returned (.bool rc)/\Below W.heap.size W w')
  (k0:∃a,vx=.pointer a) (l0:∃a,vy=.pointer a):
  Calls prog 164 #[.pointer (some ⟨Cb,0,none⟩),.int .i64 k,.pointer (some ⟨vb,0,none⟩)] w λe w'=>e=.returned (.bool (decide ((Fl.nth x k).kind=vk) && (decide ((Fl.nth x k).a=va) && (decide (vk≠2)||(rb && rc)))))/\Below w.heap.size w w':=by
 obtain⟨ax,rfl⟩:=k0;obtain⟨ay,rfl⟩:=l0;obtain⟨nb,no0,cap,lv,rfl,e0⟩:=h.nodeAt k hk;obtain⟨no,hno⟩:=nmE (no0+k*6);obtain⟨n,hn⟩:=nmE (Fl.nth x k);rw[<-hn]at hb hc e0⊢;have c2:=h.c2
 have m0:(k:Int)<(x.length:Int):=by omega
 have HS:Hid (∀W,Below w.heap.size w W->W.cell? ⟨nb,no,none⟩=some (.int .i64 n.kind)/\W.cell? ⟨nb,no+2,none⟩=some (.int .i64 n.a)/\W.cell? ⟨nb,no+3,none⟩=some (.int .i64 n.b)/\W.cell? ⟨nb,no+4,none⟩=some (.int .i64 n.c)/\W.cell? ⟨vb,0,none⟩=some (.int .i64 vk)/\W.cell? ⟨vb,1,none⟩=some (.int .i64 va)/\W.cell? ⟨vb,2,none⟩=some (.pointer ax)/\W.cell? ⟨vb,3,none⟩=some (.pointer ay)):=λW hW=>by
  have h2:=e0.below hW;rw[<-hno]at h2;exact⟨h2.c0,h2.c2,h2.c3,h2.c4,(hW.cell (p:=⟨vb,0,none⟩) h0).trans v0,(hW.cell (p:=⟨vb,1,none⟩) h0).trans v1,(hW.cell (p:=⟨vb,2,none⟩) h0).trans v2,(hW.cell (p:=⟨vb,3,none⟩) h0).trans v3⟩
 obtain⟨res,b0⟩:=nmE ((decide (n.kind=vk) && (decide (n.a=va) && (decide (vk≠2)||(rb && rc)))));rw[<-b0];have a0:=Zz b0;have f0:=Zz hno
 by_cases h1:n.kind=vk
 ·have e1:(n.kind !=vk)=false:=by simp[h1]
  by_cases h2:n.a=va
  ·have e2:(n.a !=va)=false:=by simp[h2]
   by_cases h3:vk=2
   ·have HE:Hid (res=(rb && rc)):=by show _=_;rw[a0.out,decide_eq_true h1,decide_eq_true h2,decide_eq_false (by intro h;exact h h3)];simp
    have HB:Hid (∀W,Below w.heap.size w W->Calls prog 164 #[.pointer (some ⟨Cb,0,none⟩),.int .i64 n.b,.pointer ax] W λe w'=>e=.returned (.bool rb)/\Below W.heap.size W w'):=hb h3 (h1.trans h3);have HC:Hid (∀W,Below w.heap.size w W->Calls prog 164 #[.pointer (some ⟨Cb,0,none⟩),.int .i64 n.c,.pointer ay] W λe w'=>e=.returned (.bool rc)/\Below W.heap.size W w'):=hc h3 (h1.trans h3);have e3:(n.kind !=2)=false:=(by simp[h1,h3]);clear h e0 v0 v1 v2 v3 hb hc b0 h1 h2 h3 hn hno a0
    cases rb with
    |true=>
     go_enter func164,ntmps164
     go_wp2_with fail
     rw[<-f0.out];refine Zv HS (((Below.refl _ _).drew)) [] [] [(9,23)] (by kernel_rfl) (λc a d v w h=>by cases d<;>exact h) (λops ⟨g1,_⟩=>?_)
     iterate 20 refine Zx (by first|rfl|simp[Region.wanted,yielded,g1,Act.put]) (by rintro _ ⟨_,_,_,_,_,_,_,_⟩;go_simp<;>rfl) (by go_simp<;>rfl) ?_
     refine Zs ?_
     go_wp2_with fail
     refine Zv HS (((Below.refl _ _).drew.drew)) [15,26] [] [(5,39),(16,50)] (by kernel_rfl) (λc a d v w h=>by cases d<;>exact h) (λops ⟨g1,g2,_⟩=>?_)
     iterate 15 refine Zx (by first|rfl|simp[Region.wanted,yielded,g1,Act.put]) (by rintro _ ⟨_,_,_,_,_,_,_,_⟩;go_simp<;>rfl) (by go_simp<;>rfl) ?_
     refine Zi (by simp[Region.wanted,yielded,g1,Act.put]) ?_
     go_wp2_with fail
     refine(HB.out _ ((Below.refl _ _).drew.drew)).mono ?_;rintro e W1 ⟨rfl,g0⟩;have d0:Hid (Below w.heap.size w W1):=((Below.refl _ _).drew.drew).trans g0;clear g0
     go_wp2_with fail
     refine⟨HS.out _ d0.out,?_⟩
     iterate 10 refine Zx (by simp[Region.wanted,yielded,g1,g2,Act.put]) (by rintro _ ⟨_,_,_,_,_,_,_,_⟩;go_simp<;>rfl) (by go_simp<;>rfl) ?_
     refine Zi (by simp[Region.wanted,yielded,g2,Act.put]) ?_
     go_wp2_with fail
     refine(HC.out _ d0.out).mono ?_;rintro e W2 ⟨rfl,i0⟩;have j0:Hid (Below w.heap.size w W2):=d0.out.trans (i0.mono d0.out.size);clear i0
     go_wp2_with fail
     refine⟨HS.out _ j0.out,?_⟩
     iterate 3 refine Zx (by first|rfl|simp[Region.wanted,yielded,g1,Act.put]) (by rintro _ ⟨_,_,_,_,_,_,_,_⟩;go_simp<;>rfl) (by go_simp<;>rfl) ?_
     refine Zs ?_;go_wp2;go_ret;exact⟨cbE HE.out,j0.out⟩
    |false=>
     go_enter func164,ntmps164
     go_wp2_with fail
     rw[<-f0.out];refine Zv HS (((Below.refl _ _).drew)) [] [] [(9,23)] (by kernel_rfl) (λc a d v w h=>by cases d<;>exact h) (λops ⟨g1,_⟩=>?_)
     iterate 20 refine Zx (by first|rfl|simp[Region.wanted,yielded,g1,Act.put]) (by rintro _ ⟨_,_,_,_,_,_,_,_⟩;go_simp<;>rfl) (by go_simp<;>rfl) ?_
     refine Zs ?_
     go_wp2_with fail
     refine Zv HS (((Below.refl _ _).drew.drew)) [15,26] [] [(5,39),(16,50)] (by kernel_rfl) (λc a d v w h=>by cases d<;>exact h) (λops ⟨g1,g2,_⟩=>?_)
     iterate 15 refine Zx (by first|rfl|simp[Region.wanted,yielded,g1,Act.put]) (by rintro _ ⟨_,_,_,_,_,_,_,_⟩;go_simp<;>rfl) (by go_simp<;>rfl) ?_
     refine Zi (by simp[Region.wanted,yielded,g1,Act.put]) ?_
     go_wp2_with fail
     refine(HB.out _ ((Below.refl _ _).drew.drew)).mono ?_;rintro e W1 ⟨rfl,g0⟩;have d0:Hid (Below w.heap.size w W1):=((Below.refl _ _).drew.drew).trans g0;clear g0
     go_wp2_with fail
     refine⟨HS.out _ d0.out,?_⟩;refine Zx (by simp[Region.wanted,yielded,g1,Act.put]) (by rintro _ ⟨_,_,_,_,_,_,_,_⟩;go_simp<;>rfl) (by go_simp<;>rfl) ?_
     iterate 9
      refine Yw rfl (c:=false) (by simp[yielded,g2,Act.put]) (by decide) ?_
     refine Zr rfl (c:=false) (by simp[yielded,g2,Act.put]) (by decide) (HS.out _ d0.out) ?_
     iterate 3 refine Zx (by first|rfl|simp[Region.wanted,yielded,g1,Act.put]) (by rintro _ ⟨_,_,_,_,_,_,_,_⟩;go_simp<;>rfl) (by go_simp<;>rfl) ?_
     refine Zs ?_;go_wp2;go_ret;exact⟨cbE HE.out,d0.out⟩
   have HE:Hid (res=true):=(by show _=_;rw[a0.out,decide_eq_true h1,decide_eq_true h2,decide_eq_true (show vk≠2 from h3)];simp);have e3:(n.kind !=2)=true:=(by rw[bne_iff_ne,h1];exact h3);clear h e0 v0 v1 v2 v3 hb hc b0 h1 h2 h3 hn hno a0
   go_enter func164,ntmps164
   go_wp2_with fail
   rw[<-f0.out];refine Zv HS (((Below.refl _ _).drew)) [] [] [(9,23)] (by kernel_rfl) (λc a d v w h=>by cases d<;>exact h) (λops ⟨g1,_⟩=>?_)
   iterate 20 refine Zx (by first|rfl|simp[Region.wanted,yielded,g1,Act.put]) (by rintro _ ⟨_,_,_,_,_,_,_,_⟩;go_simp<;>rfl) (by go_simp<;>rfl) ?_
   refine Zs ?_
   go_wp2_with fail
   refine Zv HS (((Below.refl _ _).drew.drew)) [15,26] [] [(5,39),(16,50)] (by kernel_rfl) (λc a d v w h=>by cases d<;>exact h) (λops ⟨g1,g2,_⟩=>?_)
   iterate 6 refine Zx rfl (by rintro _ ⟨_,_,_,_,_,_,_,_⟩;go_simp<;>rfl) (by go_simp<;>rfl) ?_
   iterate 9
    refine Yw rfl (c:=true) (by simp[yielded,g1,Act.put]) (by decide) ?_
   refine Zr rfl (c:=true) (by simp[yielded,g1,Act.put]) (by decide) (HS.out _ ((Below.refl _ _).drew.drew)) ?_;refine Yw rfl (c:=true) (by simp[yielded,g1,Act.put]) (by decide) ?_
   iterate 9
    refine ytx rfl (by simp[yielded,g2,Act.put,undef]) ?_
   refine yz8 rfl (by simp[yielded,g2,Act.put,undef]) (HS.out _ ((Below.refl _ _).drew.drew)) ?_;refine Yw rfl (c:=true) (by simp[yielded,g1,Act.put]) (by decide) ?_
   iterate 2 refine Zx rfl (by rintro _ ⟨_,_,_,_,_,_,_,_⟩;go_simp<;>rfl) (by go_simp<;>rfl) ?_
   refine Zs ?_;go_wp2;go_ret;exact⟨cbE HE.out,(Below.refl _ _).drew.drew⟩
  have HE:Hid (res=false):=(by show _=_;rw[a0.out,decide_eq_false h2];simp);have e2:(n.a !=va)=true:=(by rw[bne_iff_ne];exact h2);clear h e0 v0 v1 v2 v3 hb hc b0 h1 h2 hn hno a0
  go_enter func164,ntmps164
  go_wp2_with fail
  rw[<-f0.out];refine Zv HS (((Below.refl _ _).drew)) [] [] [(9,23)] (by kernel_rfl) (λc a d v w h=>by cases d<;>exact h) (λops ⟨g1,_⟩=>?_)
  iterate 20 refine Zx (by first|rfl|simp[Region.wanted,yielded,g1,Act.put]) (by rintro _ ⟨_,_,_,_,_,_,_,_⟩;go_simp<;>rfl) (by go_simp<;>rfl) ?_
  refine Zs ?_;go_wp2;go_ret;exact⟨cbE HE.out,(Below.refl _ _).drew⟩
 have HE:Hid (res=false):=by show _=_;rw[a0.out,decide_eq_false h1];simp
 have e1:(n.kind !=vk)=true:=by rw[bne_iff_ne];exact h1
 clear h e0 v0 v1 v2 v3 hb hc b0 h1 hn hno a0
 go_enter func164,ntmps164
 go_wp2_with fail
 rw[<-f0.out];refine Zv HS (((Below.refl _ _).drew)) [] [] [(9,23)] (by kernel_rfl) (λc a d v w h=>by cases d<;>exact h) (λops ⟨g1,_⟩=>?_)
 iterate 10 refine Zx rfl (by rintro _ ⟨_,_,_,_,_,_,_,_⟩;go_simp<;>rfl) (by go_simp<;>rfl) ?_
 iterate 9
  refine Yw rfl (c:=true) (by simp[yielded,g1,Act.put]) (by decide) ?_
 refine Zx rfl (by rintro _ ⟨_,_,_,_,_,_,_,_⟩;go_simp<;>rfl) (by go_simp<;>rfl) ?_;refine Zs ?_;go_wp2;go_ret;exact⟨cbE HE.out,(Below.refl _ _).drew⟩
end
section
variable{w:World}{Cb Pb Lb Rl:Nat}{vv nv hv:Value}{p:Fl.Prog}{vs:List Int}{x:List Fl.Node}{S:Nat->Prop}
def zt4(h:Yh w Cb Pb Lb Rl vv nv hv p vs x)(hS:∀b,S b->b<w.heap.size)(k:Int)(hk:0<=k/\k.toNat<x.length)(q:Value)(a:Fl.Atom)(ha:Yd S w q a):
  Calls prog 164 #[.pointer (some ⟨Cb,0,none⟩),.int .i64 k,q] w λe w'=>e=.returned (.bool (Fl.ofAtom x k a))/\Below w.heap.size w w':=by
 obtain⟨vb,rfl,hs,hc⟩:=ha;obtain⟨kn,b0⟩:∃kn:Nat,(kn:Int)=k:=⟨k.toNat,by omega⟩
 have e0:k.toNat=kn:=by omega
 have a0:(if a.var then(1:Int) else 0)≠2:=by cases a.var<;>decide
 have h1:=zr8 (vx:=.pointer none) (vy:=.pointer none) h kn (by omega) (if a.var then 1 else 0) a.v (hS _ hs) (hc.c 0 (by omega)) (hc.c 1 (by omega)) (hc.c 2 (by omega)) (hc.c 3 (by omega)) true true (λh2=>absurd h2 a0) (λh2=>absurd h2 a0) ⟨_,rfl⟩ ⟨_,rfl⟩;rw[b0]at h1;refine h1.mono ?_;rintro e w' ⟨rfl,hw⟩;refine⟨?_,hw⟩;unfold Fl.ofAtom Fl.nd;rw[e0,decide_eq_true a0];simp
def zb1(h:Yh w Cb Pb Lb Rl vv nv hv p vs x)(hS:∀b,S b->b<w.heap.size)(k:Int)(hk:0<=k/\k.toNat<x.length)(b0:(Fl.nd x k).kind=2->(0<=(Fl.nd x k).b/\(Fl.nd x k).b.toNat<x.length)/\(0<=(Fl.nd x k).c/\(Fl.nd x k).c.toNat<x.length))(q:Value)(e:Fl.Expr)(g0:Jp S w q e):
  Calls prog 164 #[.pointer (some ⟨Cb,0,none⟩),.int .i64 k,q] w λr w'=>r=.returned (.bool (Fl.ofExpr x k e))/\Below w.heap.size w w':=by
 rcases g0 with⟨h1,h2⟩|⟨h1,vb,qx,qy,rfl,h3,h4,h5,h6⟩
 ·have e1:Fl.ofExpr x k e=Fl.ofAtom x k e.a:=by unfold Fl.ofExpr;rw[if_pos (by omega)]
  rw[e1];exact zt4 h hS k hk q e.a h2
 have e1:Fl.ofExpr x k e=(decide ((Fl.nd x k).kind=2) && (decide ((Fl.nd x k).a=e.op) && (Fl.ofAtom x (Fl.nd x k).b e.a && Fl.ofAtom x (Fl.nd x k).c e.b))):=by unfold Fl.ofExpr;rw[if_neg (by omega)]
 obtain⟨kn,h0⟩:∃kn:Nat,(kn:Int)=k:=⟨k.toNat,by omega⟩
 have e0:k.toNat=kn:=by omega
 have en:Fl.nd x k=Fl.nth x kn:=by unfold Fl.nd;rw[e0]
 rw[en]at b0 e1;have a0:∀W,Below w.heap.size w W->Yh W Cb Pb Lb Rl vv nv hv p vs x:=λW hW=>h.below hW;have d0:∀W,Below w.heap.size w W->∀q a,Yd S w q a->Yd S W q a:=λW hW q a ha=>ha.kept (λb hb=>hb) (λb hb=>hW.block b (hS b hb));have f0:∀W,Below w.heap.size w W->∀b,S b->b<W.heap.size:=λW hW b hb=>Nat.lt_of_lt_of_le (hS b hb) hW.size
 have i0:∃a,qx=.pointer a:=by obtain⟨b,e,-⟩:=h5;exact⟨_,e⟩
 have j0:∃a,qy=.pointer a:=by obtain⟨b,e,-⟩:=h6;exact⟨_,e⟩
 have h7:=zr8 (vx:=qx) (vy:=qy) h kn (by omega) 2 e.op (hS _ h3) (h4.c 0 (by omega)) (h4.c 1 (by omega)) (h4.c 2 (by omega)) (h4.c 3 (by omega)) (Fl.ofAtom x (Fl.nth x kn).b e.a) (Fl.ofAtom x (Fl.nth x kn).c e.b)
  (λ_ c0 W hW=>zt4 (a0 W hW) (f0 W hW) _ (b0 c0).1 qx e.a (d0 W hW _ _ h5)) (λ_ c0 W hW=>zt4 (a0 W hW) (f0 W hW) _ (b0 c0).2 qy e.b (d0 W hW _ _ h6)) i0 j0
 rw[h0]at h7;refine h7.mono ?_;rintro r w' ⟨rfl,hw⟩;refine⟨?_,hw⟩;rw[e1];simp
end
section
variable{w:World}{Cb Pb Lb Rl sb:Nat}{vv nv hv:Value}{p:Fl.Prog}{vs:List Int}{x:List Fl.Node}
def yz9(h:Yh w Cb Pb Lb Rl vv nv hv p vs x)(k:Nat)(hk:k<x.length)(sk sx:Int)(o0:sk=3\/sk=4\/sk=5\/sk=6)(av:Option Addr)(fa ea:Option Addr)(fn fc en ec:Nat)(hsz:sb<w.heap.size)
  (n0:w.cell? ⟨sb,0,none⟩=some (.int .i64 sk)/\w.cell? ⟨sb,2,none⟩=some (.int .i64 sx)/\w.cell? ⟨sb,3,none⟩=some (.pointer av)/\w.cell? ⟨sb,4,none⟩=some (.slice fa fn fc)/\w.cell? ⟨sb,5,none⟩=some (.slice ea en ec)) (va vb rb rc:Bool)
  (h0:sk=5\/sk=6->(Fl.nth x k).kind=sk->∀W,Below w.heap.size w W->Calls prog 164 #[.pointer (some ⟨Cb,0,none⟩),.int .i64 (Fl.nth x k).a,.pointer av] W λe w'=>e=.returned (.bool va)/\Below W.heap.size W w')
  (k0:sk=3\/sk=4->(Fl.nth x k).kind=sk->∀W,Below w.heap.size w W->Calls prog 164 #[.pointer (some ⟨Cb,0,none⟩),.int .i64 (Fl.nth x k).b,.pointer av] W λe w'=>e=.returned (.bool vb)/\Below W.heap.size W w')
  (i0:sk=5\/sk=6->(Fl.nth x k).kind=sk->∀W,Below w.heap.size w W->Calls prog 70 #[.pointer (some ⟨Cb,0,none⟩),.int .i64 (Fl.nth x k).b,.slice fa fn fc] W λe w'=>e=.returned (.bool rb)/\Below W.heap.size W w')
  (l0:sk=5->(Fl.nth x k).kind=sk->∀W,Below w.heap.size w W->Calls prog 70 #[.pointer (some ⟨Cb,0,none⟩),.int .i64 (Fl.nth x k).c,.slice ea en ec] W λe w'=>e=.returned (.bool rc)/\Below W.heap.size W w'):
  Calls prog 124 #[.pointer (some ⟨Cb,0,none⟩),.int .i64 k,.pointer (some ⟨sb,0,none⟩)] w λe w'=>e=.returned (.bool (decide ((Fl.nth x k).kind=sk) && (if sk=5 then va && (rb && rc) else if sk=6 then va && rb else decide ((Fl.nth x k).a=sx) && vb)))/\Below w.heap.size w w':=by
 obtain⟨nb,no0,cap,lv,rfl,m0⟩:=h.nodeAt k hk;obtain⟨no,hno⟩:=nmE (no0+k*6);obtain⟨n,hn⟩:=nmE (Fl.nth x k);rw[<-hn]at h0 k0 i0 l0 m0⊢;have c2:=h.c2
 have t0:(k:Int)<(x.length:Int):=by omega
 have HS:Hid (∀W,Below w.heap.size w W->W.cell? ⟨nb,no,none⟩=some (.int .i64 n.kind)/\W.cell? ⟨nb,no+2,none⟩=some (.int .i64 n.a)/\W.cell? ⟨nb,no+3,none⟩=some (.int .i64 n.b)/\W.cell? ⟨nb,no+4,none⟩=some (.int .i64 n.c)/\W.cell? ⟨sb,0,none⟩=some (.int .i64 sk)/\W.cell? ⟨sb,2,none⟩=some (.int .i64 sx)/\W.cell? ⟨sb,3,none⟩=some (.pointer av)/\W.cell? ⟨sb,4,none⟩=some (.slice fa fn fc)/\W.cell? ⟨sb,5,none⟩=some (.slice ea en ec)):=λW hW=>by
  have h2:=m0.below hW;rw[<-hno]at h2;obtain⟨s0,s2,s3,s4,s5⟩:=n0;exact⟨h2.c0,h2.c2,h2.c3,h2.c4,(hW.cell (p:=⟨sb,0,none⟩) hsz).trans s0,(hW.cell (p:=⟨sb,2,none⟩) hsz).trans s2,(hW.cell (p:=⟨sb,3,none⟩) hsz).trans s3,(hW.cell (p:=⟨sb,4,none⟩) hsz).trans s4,(hW.cell (p:=⟨sb,5,none⟩) hsz).trans s5⟩
 obtain⟨res,f0⟩:=nmE ((decide (n.kind=sk) && (if sk=5 then va && (rb && rc) else if sk=6 then va && rb else decide (n.a=sx) && vb)));rw[<-f0];have e0:=Zz f0;have j0:=Zz hno;have q0:∀W,Below w.heap.size w W->W.cell? ⟨nb,no,none⟩=some (.int .i64 n.kind):=λW hW=>(HS.out W hW).1
 by_cases h1:n.kind=sk
 ·have e1:(n.kind !=sk)=false:=by simp[h1]
  have d0:w.drew.cell? ⟨nb,no,none⟩=some (.int .i64 n.kind):=q0 _ (Below.refl _ _).drew
  by_cases h5:sk=5
  ·have HV:Hid (∀W,Below w.heap.size w W->Calls prog 164 #[.pointer (some ⟨Cb,0,none⟩),.int .i64 n.a,.pointer av] W λe w'=>e=.returned (.bool va)/\Below W.heap.size W w'):=h0 (.inl h5) h1
   have HB:Hid (∀W,Below w.heap.size w W->Calls prog 70 #[.pointer (some ⟨Cb,0,none⟩),.int .i64 n.b,.slice fa fn fc] W λe w'=>e=.returned (.bool rb)/\Below W.heap.size W w'):=i0 (.inl h5) h1;have HC:Hid (∀W,Below w.heap.size w W->Calls prog 70 #[.pointer (some ⟨Cb,0,none⟩),.int .i64 n.c,.slice ea en ec] W λe w'=>e=.returned (.bool rc)/\Below W.heap.size W w'):=l0 h5 h1;have HE:Hid (res=(va && (rb && rc))):=(by show _=_;rw[e0.out,decide_eq_true h1,if_pos h5,Bool.true_and]);have e5:(n.kind==5)=true:=(by simp[h1,h5]);clear h m0 n0 f0 h1 h5 hn hno e0 h0 k0 i0 l0 q0 o0
   cases va with
   |false=>
    go_enter func124,ntmps124
    go_wp2_with fail
    rw[<-j0.out];refine Zv HS (((Below.refl _ _).drew)) [] [] [] (by kernel_rfl) (λc a d v w h=>by cases d<;>exact h) (λops hG=>?_);clear hG
    iterate 9 refine Zx rfl (by rintro _ ⟨_,_,_,_,_,_,_,_,_⟩;go_simp<;>rfl) (by go_simp<;>rfl) ?_
    refine Zs ?_
    go_wp2_with fail
    refine Zv HS (((Below.refl _ _).drew.drew)) [9,20,32] [] [(10,39),(22,51)] (by kernel_rfl) (λc a d v w h=>by cases d<;>exact h) (λops ⟨g1,g2,_⟩=>?_)
    iterate 9 refine Zx rfl (by rintro _ ⟨_,_,_,_,_,_,_,_,_⟩;go_simp<;>rfl) (by go_simp<;>rfl) ?_
    refine Zo ?_
    go_wp2_with fail
    refine(HV.out _ ((Below.refl _ _).drew.drew)).mono ?_;rintro e W1 ⟨rfl,a0⟩;have b0:Hid (Below w.heap.size w W1):=(((Below.refl _ _).drew.drew)).trans a0;clear a0
    go_wp2_with fail
    refine⟨HS.out _ b0.out,?_⟩;refine Zx rfl (by rintro _ ⟨_,_,_,_,_,_,_,_,_⟩;go_simp<;>rfl) (by go_simp<;>rfl) ?_
    iterate 9
     refine Yw rfl (c:=false) (by simp[yielded,g1,Act.put]) (by decide) ?_
    refine Zr rfl (c:=false) (by simp[yielded,g1,Act.put]) (by decide) (HS.out _ b0.out) ?_
    iterate 2 refine Zx rfl (by rintro _ ⟨_,_,_,_,_,_,_,_,_⟩;go_simp<;>rfl) (by go_simp<;>rfl) ?_
    iterate 9
     refine Yw rfl (c:=false) (by simp[yielded,g2,Act.put]) (by decide) ?_
    refine Zr rfl (c:=false) (by simp[yielded,g2,Act.put]) (by decide) (HS.out _ b0.out) ?_
    iterate 2 refine Zx rfl (by rintro _ ⟨_,_,_,_,_,_,_,_,_⟩;go_simp<;>rfl) (by go_simp<;>rfl) ?_
    refine Zs ?_;go_wp2;go_ret;exact⟨cbE HE.out,b0.out⟩
   |true=>
    cases rb with
    |false=>
     go_enter func124,ntmps124
     go_wp2_with fail
     rw[<-j0.out];refine Zv HS (((Below.refl _ _).drew)) [] [] [] (by kernel_rfl) (λc a d v w h=>by cases d<;>exact h) (λops hG=>?_);clear hG
     iterate 9 refine Zx rfl (by rintro _ ⟨_,_,_,_,_,_,_,_,_⟩;go_simp<;>rfl) (by go_simp<;>rfl) ?_
     refine Zs ?_
     go_wp2_with fail
     refine Zv HS (((Below.refl _ _).drew.drew)) [9,20,32] [] [(10,39),(22,51)] (by kernel_rfl) (λc a d v w h=>by cases d<;>exact h) (λops ⟨g1,g2,_⟩=>?_)
     iterate 9 refine Zx rfl (by rintro _ ⟨_,_,_,_,_,_,_,_,_⟩;go_simp<;>rfl) (by go_simp<;>rfl) ?_
     refine Zo ?_
     go_wp2_with fail
     refine(HV.out _ ((Below.refl _ _).drew.drew)).mono ?_;rintro e W1 ⟨rfl,a0⟩;have b0:Hid (Below w.heap.size w W1):=(((Below.refl _ _).drew.drew)).trans a0;clear a0
     go_wp2_with fail
     refine⟨HS.out _ b0.out,?_⟩
     iterate 10 refine Zx (by first|rfl|simp[Region.wanted,yielded,g1,Act.put]) (by rintro _ ⟨_,_,_,_,_,_,_,_,_⟩;go_simp<;>rfl) (by go_simp<;>rfl) ?_
     refine Zi (by simp[Region.wanted,yielded,g1,Act.put]) ?_
     go_wp2_with fail
     refine(HB.out _ b0.out).mono ?_;rintro e W2 ⟨rfl,a0⟩;have g0:Hid (Below w.heap.size w W2):=(b0.out).trans (a0.mono (b0.out).size);clear a0
     go_wp2_with fail
     refine⟨HS.out _ g0.out,?_⟩
     iterate 2 refine Zx rfl (by rintro _ ⟨_,_,_,_,_,_,_,_,_⟩;go_simp<;>rfl) (by go_simp<;>rfl) ?_
     iterate 9
      refine Yw rfl (c:=false) (by simp[yielded,g2,Act.put]) (by decide) ?_
     refine Zr rfl (c:=false) (by simp[yielded,g2,Act.put]) (by decide) (HS.out _ g0.out) ?_
     iterate 2 refine Zx rfl (by rintro _ ⟨_,_,_,_,_,_,_,_,_⟩;go_simp<;>rfl) (by go_simp<;>rfl) ?_
     refine Zs ?_;go_wp2;go_ret;exact⟨cbE HE.out,g0.out⟩
    |true=>
     go_enter func124,ntmps124
     go_wp2_with fail
     rw[<-j0.out];refine Zv HS (((Below.refl _ _).drew)) [] [] [] (by kernel_rfl) (λc a d v w h=>by cases d<;>exact h) (λops hG=>?_);clear hG
     iterate 9 refine Zx rfl (by rintro _ ⟨_,_,_,_,_,_,_,_,_⟩;go_simp<;>rfl) (by go_simp<;>rfl) ?_
     refine Zs ?_
     go_wp2_with fail
     refine Zv HS (((Below.refl _ _).drew.drew)) [9,20,32] [] [(10,39),(22,51)] (by kernel_rfl) (λc a d v w h=>by cases d<;>exact h) (λops ⟨g1,g2,_⟩=>?_)
     iterate 9 refine Zx rfl (by rintro _ ⟨_,_,_,_,_,_,_,_,_⟩;go_simp<;>rfl) (by go_simp<;>rfl) ?_
     refine Zo ?_
     go_wp2_with fail
     refine(HV.out _ ((Below.refl _ _).drew.drew)).mono ?_;rintro e W1 ⟨rfl,a0⟩;have b0:Hid (Below w.heap.size w W1):=(((Below.refl _ _).drew.drew)).trans a0;clear a0
     go_wp2_with fail
     refine⟨HS.out _ b0.out,?_⟩
     iterate 10 refine Zx (by first|rfl|simp[Region.wanted,yielded,g1,Act.put]) (by rintro _ ⟨_,_,_,_,_,_,_,_,_⟩;go_simp<;>rfl) (by go_simp<;>rfl) ?_
     refine Zi (by simp[Region.wanted,yielded,g1,Act.put]) ?_
     go_wp2_with fail
     refine(HB.out _ b0.out).mono ?_;rintro e W2 ⟨rfl,a0⟩;have g0:Hid (Below w.heap.size w W2):=(b0.out).trans (a0.mono (b0.out).size);clear a0
     go_wp2_with fail
     refine⟨HS.out _ g0.out,?_⟩
     iterate 11 refine Zx (by first|rfl|simp[Region.wanted,yielded,g2,Act.put]) (by rintro _ ⟨_,_,_,_,_,_,_,_,_⟩;go_simp<;>rfl) (by go_simp<;>rfl) ?_
     refine Zi (by simp[Region.wanted,yielded,g2,Act.put]) ?_
     go_wp2_with fail
     refine(HC.out _ g0.out).mono ?_;rintro e W3 ⟨rfl,a0⟩;have r0:Hid (Below w.heap.size w W3):=(g0.out).trans (a0.mono (g0.out).size);clear a0
     go_wp2_with fail
     refine⟨HS.out _ r0.out,?_⟩
     iterate 2 refine Zx rfl (by rintro _ ⟨_,_,_,_,_,_,_,_,_⟩;go_simp<;>rfl) (by go_simp<;>rfl) ?_
     refine Zs ?_;go_wp2;go_ret;exact⟨cbE HE.out,r0.out⟩
  by_cases h6:sk=6
  ·have HV:Hid (∀W,Below w.heap.size w W->Calls prog 164 #[.pointer (some ⟨Cb,0,none⟩),.int .i64 n.a,.pointer av] W λe w'=>e=.returned (.bool va)/\Below W.heap.size W w'):=h0 (.inr h6) h1
   have HB:Hid (∀W,Below w.heap.size w W->Calls prog 70 #[.pointer (some ⟨Cb,0,none⟩),.int .i64 n.b,.slice fa fn fc] W λe w'=>e=.returned (.bool rb)/\Below W.heap.size W w'):=i0 (.inr h6) h1;have HE:Hid (res=(va && rb)):=(by show _=_;rw[e0.out,decide_eq_true h1,if_neg h5,if_pos h6,Bool.true_and]);have e5:(n.kind==5)=false:=(by simp[h1,h6]);have e6:(n.kind==6)=true:=(by simp[h1,h6]);clear h m0 n0 f0 h1 h5 h6 hn hno e0 h0 k0 i0 l0 q0 o0
   cases va with
   |false=>
    go_enter func124,ntmps124
    go_wp2_with fail
    rw[<-j0.out];refine Zv HS (((Below.refl _ _).drew)) [] [] [] (by kernel_rfl) (λc a d v w h=>by cases d<;>exact h) (λops hG=>?_);clear hG
    iterate 9 refine Zx rfl (by rintro _ ⟨_,_,_,_,_,_,_,_,_⟩;go_simp<;>rfl) (by go_simp<;>rfl) ?_
    refine Zs ?_
    go_wp2_with fail
    refine Zv HS (((Below.refl _ _).drew.drew)) [9,20] [] [(10,75)] (by kernel_rfl) (λc a d v w h=>by cases d<;>exact h) (λops ⟨g1,_⟩=>?_)
    iterate 9 refine Zx rfl (by rintro _ ⟨_,_,_,_,_,_,_,_,_⟩;go_simp<;>rfl) (by go_simp<;>rfl) ?_
    refine Zo ?_
    go_wp2_with fail
    refine(HV.out _ ((Below.refl _ _).drew.drew)).mono ?_;rintro e W1 ⟨rfl,a0⟩;have b0:Hid (Below w.heap.size w W1):=(((Below.refl _ _).drew.drew)).trans a0;clear a0
    go_wp2_with fail
    refine⟨HS.out _ b0.out,?_⟩;refine Zx rfl (by rintro _ ⟨_,_,_,_,_,_,_,_,_⟩;go_simp<;>rfl) (by go_simp<;>rfl) ?_
    iterate 9
     refine Yw rfl (c:=false) (by simp[yielded,g1,Act.put]) (by decide) ?_
    refine Zr rfl (c:=false) (by simp[yielded,g1,Act.put]) (by decide) (HS.out _ b0.out) ?_
    iterate 2 refine Zx rfl (by rintro _ ⟨_,_,_,_,_,_,_,_,_⟩;go_simp<;>rfl) (by go_simp<;>rfl) ?_
    refine Zs ?_;go_wp2;go_ret;exact⟨cbE HE.out,b0.out⟩
   |true=>
    go_enter func124,ntmps124
    go_wp2_with fail
    rw[<-j0.out];refine Zv HS (((Below.refl _ _).drew)) [] [] [] (by kernel_rfl) (λc a d v w h=>by cases d<;>exact h) (λops hG=>?_);clear hG
    iterate 9 refine Zx rfl (by rintro _ ⟨_,_,_,_,_,_,_,_,_⟩;go_simp<;>rfl) (by go_simp<;>rfl) ?_
    refine Zs ?_
    go_wp2_with fail
    refine Zv HS (((Below.refl _ _).drew.drew)) [9,20] [] [(10,75)] (by kernel_rfl) (λc a d v w h=>by cases d<;>exact h) (λops ⟨g1,_⟩=>?_)
    iterate 9 refine Zx rfl (by rintro _ ⟨_,_,_,_,_,_,_,_,_⟩;go_simp<;>rfl) (by go_simp<;>rfl) ?_
    refine Zo ?_
    go_wp2_with fail
    refine(HV.out _ ((Below.refl _ _).drew.drew)).mono ?_;rintro e W1 ⟨rfl,a0⟩;have b0:Hid (Below w.heap.size w W1):=(((Below.refl _ _).drew.drew)).trans a0;clear a0
    go_wp2_with fail
    refine⟨HS.out _ b0.out,?_⟩
    iterate 10 refine Zx (by first|rfl|simp[Region.wanted,yielded,g1,Act.put]) (by rintro _ ⟨_,_,_,_,_,_,_,_,_⟩;go_simp<;>rfl) (by go_simp<;>rfl) ?_
    refine Zi (by simp[Region.wanted,yielded,g1,Act.put]) ?_
    go_wp2_with fail
    refine(HB.out _ b0.out).mono ?_;rintro e W2 ⟨rfl,a0⟩;have g0:Hid (Below w.heap.size w W2):=(b0.out).trans (a0.mono (b0.out).size);clear a0
    go_wp2_with fail
    refine⟨HS.out _ g0.out,?_⟩
    iterate 2 refine Zx rfl (by rintro _ ⟨_,_,_,_,_,_,_,_,_⟩;go_simp<;>rfl) (by go_simp<;>rfl) ?_
    refine Zs ?_;go_wp2;go_ret;exact⟨cbE HE.out,g0.out⟩
  have p0:sk=3\/sk=4:=(by omega);have HV:Hid (∀W,Below w.heap.size w W->Calls prog 164 #[.pointer (some ⟨Cb,0,none⟩),.int .i64 n.b,.pointer av] W λe w'=>e=.returned (.bool vb)/\Below W.heap.size W w'):=k0 p0 h1;have e5:(n.kind==5)=false:=(by rw[h1,Qh];exact h5);have e6:(n.kind==6)=false:=(by rw[h1,Qh];exact h6)
  by_cases ha:n.a=sx
  ·have HE:Hid (res=vb):=by show _=_;rw[e0.out,decide_eq_true h1,if_neg h5,if_neg h6,Bool.true_and,decide_eq_true ha,Bool.true_and]
   have ea2:(n.a==sx)=true:=(by simp[ha]);clear h m0 n0 f0 h1 h5 h6 p0 ha hn hno e0 h0 k0 i0 l0 q0 o0
   go_enter func124,ntmps124
   go_wp2_with fail
   rw[<-j0.out];refine Zv HS (((Below.refl _ _).drew)) [] [] [] (by kernel_rfl) (λc a d v w h=>by cases d<;>exact h) (λops hG=>?_);clear hG
   iterate 9 refine Zx rfl (by rintro _ ⟨_,_,_,_,_,_,_,_,_⟩;go_simp<;>rfl) (by go_simp<;>rfl) ?_
   refine Zs ?_
   go_wp2_with fail
   refine Zv HS (((Below.refl _ _).drew.drew)) [19] [] [(9,96)] (by kernel_rfl) (λc a d v w h=>by cases d<;>exact h) (λops ⟨g1,_⟩=>?_)
   iterate 19 refine Zx (by first|rfl|simp[Region.wanted,yielded,g1,Act.put]) (by rintro _ ⟨_,_,_,_,_,_,_,_,_⟩;go_simp<;>rfl) (by go_simp<;>rfl) ?_
   refine Zi (by simp[Region.wanted,yielded,g1,Act.put]) ?_
   go_wp2_with fail
   refine(HV.out _ ((Below.refl _ _).drew.drew)).mono ?_;rintro e W1 ⟨rfl,a0⟩;have b0:Hid (Below w.heap.size w W1):=(((Below.refl _ _).drew.drew)).trans a0;clear a0
   go_wp2_with fail
   refine⟨HS.out _ b0.out,?_⟩
   iterate 2 refine Zx rfl (by rintro _ ⟨_,_,_,_,_,_,_,_,_⟩;go_simp<;>rfl) (by go_simp<;>rfl) ?_
   refine Zs ?_;go_wp2;go_ret;exact⟨cbE HE.out,b0.out⟩
  have HE:Hid (res=false):=(by show _=_;rw[e0.out,decide_eq_true h1,if_neg h5,if_neg h6,Bool.true_and,decide_eq_false ha,Bool.false_and]);have ea2:(n.a==sx)=false:=(by rw[Qh];exact ha);clear h m0 n0 f0 h1 h5 h6 p0 ha hn hno e0 h0 k0 i0 l0 q0 o0
  go_enter func124,ntmps124
  go_wp2_with fail
  rw[<-j0.out];refine Zv HS (((Below.refl _ _).drew)) [] [] [] (by kernel_rfl) (λc a d v w h=>by cases d<;>exact h) (λops hG=>?_);clear hG
  iterate 9 refine Zx rfl (by rintro _ ⟨_,_,_,_,_,_,_,_,_⟩;go_simp<;>rfl) (by go_simp<;>rfl) ?_
  refine Zs ?_
  go_wp2_with fail
  refine Zv HS (((Below.refl _ _).drew.drew)) [19] [] [(9,96)] (by kernel_rfl) (λc a d v w h=>by cases d<;>exact h) (λops ⟨g1,_⟩=>?_)
  iterate 10 refine Zx rfl (by rintro _ ⟨_,_,_,_,_,_,_,_,_⟩;go_simp<;>rfl) (by go_simp<;>rfl) ?_
  iterate 9
   refine Yw rfl (c:=false) (by simp[yielded,g1,Act.put]) (by decide) ?_
  refine Zr rfl (c:=false) (by simp[yielded,g1,Act.put]) (by decide) (HS.out _ ((Below.refl _ _).drew.drew)) ?_
  iterate 2 refine Zx rfl (by rintro _ ⟨_,_,_,_,_,_,_,_,_⟩;go_simp<;>rfl) (by go_simp<;>rfl) ?_
  refine Zs ?_;go_wp2;go_ret;exact⟨cbE HE.out,(Below.refl _ _).drew.drew⟩
 have HE:Hid (res=false):=by show _=_;rw[e0.out,decide_eq_false h1,Bool.false_and]
 have e1:(n.kind !=sk)=true:=by rw[bne_iff_ne];exact h1
 clear h m0 n0 f0 h1 hn hno e0 h0 k0 i0 l0 q0 o0
 go_enter func124,ntmps124
 go_wp2_with fail
 rw[<-j0.out];refine Zv HS (((Below.refl _ _).drew)) [] [] [] (by kernel_rfl) (λc a d v w h=>by cases d<;>exact h) (λops hG=>?_);clear hG
 iterate 9 refine Zx rfl (by rintro _ ⟨_,_,_,_,_,_,_,_,_⟩;go_simp<;>rfl) (by go_simp<;>rfl) ?_
 refine Zs ?_;go_wp2;go_ret;exact⟨cbE HE.out,(Below.refl _ _).drew⟩
end
def zvx(x:List Fl.Node)(k:Int):Prop:=0<=k/\k.toNat<x.length
structure XOk(x:List Fl.Node):Prop where
 k2:∀k,k<x.length->(Fl.nth x k).kind=2->zvx x (Fl.nth x k).b/\zvx x (Fl.nth x k).c
 k3:∀k,k<x.length->(Fl.nth x k).kind=3\/(Fl.nth x k).kind=4->zvx x (Fl.nth x k).b
 k5:∀k,k<x.length->(Fl.nth x k).kind=5\/(Fl.nth x k).kind=6->zvx x (Fl.nth x k).a/\zvx x (Fl.nth x k).b
 k6:∀k,k<x.length->(Fl.nth x k).kind=5->zvx x (Fl.nth x k).c
 k7:∀k,k<x.length->(Fl.nth x k).kind=7->∀j∈(Fl.nth x k).list,zvx x j
def zx0:Nat->List Fl.Stmt->Prop
 |0,_=>True
 |d+1,l=>∀i,i<l.length->((l.getD i noS).kind=3\/(l.getD i noS).kind=4\/(l.getD i noS).kind=5\/(l.getD i noS).kind=6)/\zx0 d (l.getD i noS).body/\zx0 d (l.getD i noS).other
def Zp.shape{d:Nat}{S:Nat->Prop}{w:World}{v:Value}{l:List Fl.Stmt}(h:Zp d S w v l):∃a c,v=.slice a l.length c:=by
 cases d with
 |zero=>obtain⟨rfl,rfl⟩:=h;exact⟨none,0,rfl⟩
 |succ d=>obtain⟨a,c,e,-⟩:=h;exact⟨a,c,e⟩
def Jp.ptr{S:Nat->Prop}{w:World}{v:Value}{e:Fl.Expr}(h:Jp S w v e):∃a,v=.pointer a:=by
 rcases h with⟨-,b,e,-⟩|⟨-,b,_,_,e,-⟩
 ·exact⟨_,e⟩
 exact⟨_,e⟩
def zh0(Cb Pb Lb Rl:Nat)(vv nv hv:Value)(p:Fl.Prog)(vs:List Int)(x:List Fl.Node)(S:Nat->Prop)(d:Nat):Prop:=
 ∀(w:World) (k:Int) (v:Value) (l:List Fl.Stmt),Yh w Cb Pb Lb Rl vv nv hv p vs x->(∀b,S b->b<w.heap.size)->zvx x k->Zp d S w v l->zx0 d l->Calls prog 70 #[.pointer (some ⟨Cb,0,none⟩),.int .i64 k,v] w λe w'=>e=.returned (.bool (Fl.ofAll d x k l))/\Below w.heap.size w w'
section
variable{w:World}{Cb Pb Lb Rl:Nat}{vv nv hv:Value}{p:Fl.Prog}{vs:List Int}{x:List Fl.Node}{S:Nat->Prop}{d:Nat}
def ywx(hx:XOk x)(H:zh0 Cb Pb Lb Rl vv nv hv p vs x S d)(h:Yh w Cb Pb Lb Rl vv nv hv p vs x)(hS:∀b,S b->b<w.heap.size)(k:Int)(hk:zvx x k)(q:Value)(s:Fl.Stmt)(hs:Vc (Zp d) S w q s)(j0:s.kind=3\/s.kind=4\/s.kind=5\/s.kind=6)(f0:zx0 d s.body)(g0:zx0 d s.other):
  Calls prog 124 #[.pointer (some ⟨Cb,0,none⟩),.int .i64 k,q] w λe w'=>e=.returned (.bool (Fl.ofOne (Fl.ofAll d x) x k s))/\Below w.heap.size w w':=by
 obtain⟨sb,vp,fv,ev,rfl,h0,hc,b0,hf,he⟩:=hs;obtain⟨av,rfl⟩:=b0.ptr;obtain⟨fa,fc,rfl⟩:=hf.shape;obtain⟨ea,ec,rfl⟩:=he.shape;obtain⟨kn,i0⟩:∃kn:Nat,(kn:Int)=k:=⟨k.toNat,by have:=hk.1;omega⟩
 have e0:k.toNat=kn:=by omega
 have c0:kn<x.length:=by have:=hk.2;omega
 have en:Fl.nd x k=Fl.nth x kn:=by unfold Fl.nd;rw[e0]
 have d0:∀W,Below w.heap.size w W->∀b,S b->b<W.heap.size:=λW hW b hb=>Nat.lt_of_lt_of_le (hS b hb) hW.size
 have a0:∀(j:Int),zvx x j->∀W,Below w.heap.size w W->Calls prog 164 #[.pointer (some ⟨Cb,0,none⟩),.int .i64 j,.pointer av] W λe w'=>e=.returned (.bool (Fl.ofExpr x j s.e))/\Below W.heap.size W w':=λj hj W hW=>
  zb1 (h.below hW) (d0 W hW) j hj (λh2=>by have:=hx.k2 j.toNat hj.2 h2;exact this) _ _ (b0.kept (λb hb=>hb) (λb hb=>hW.block b (hS b hb)))
 have hall:∀(j:Int) (v:Value) (l:List Fl.Stmt),zvx x j->Zp d S w v l->zx0 d l->∀W,Below w.heap.size w W->Calls prog 70 #[.pointer (some ⟨Cb,0,none⟩),.int .i64 j,v] W λe w'=>e=.returned (.bool (Fl.ofAll d x j l))/\Below W.heap.size W w':=λj v l hj hv hkk W hW=>
  H W j v l (h.below hW) (d0 W hW) hj (Zp.kept (λb hb=>hb) (λb hb=>hW.block b (hS b hb)) _ _ _ hv) hkk
 have h1:=yz9 h kn c0 (s.kind:Nat) (s.x:Nat) (by omega) av fa ea s.body.length fc s.other.length ec (hS _ h0) ⟨hc.c 0 (by omega),hc.c 2 (by omega),hc.c 3 (by omega),hc.c 4 (by omega),hc.c 5 (by omega)⟩ (Fl.ofExpr x (Fl.nth x kn).a s.e) (Fl.ofExpr x (Fl.nth x kn).b s.e) (Fl.ofAll d x (Fl.nth x kn).b s.body) (Fl.ofAll d x (Fl.nth x kn).c s.other)
  (λh2 h3=>a0 _ (hx.k5 kn c0 (by omega)).1) (λh2 h3=>a0 _ (hx.k3 kn c0 (by omega))) (λh2 h3=>hall _ _ _ (hx.k5 kn c0 (by omega)).2 hf f0) (λh2 h3=>hall _ _ _ (hx.k6 kn c0 (by omega)) he g0)
 rw[i0]at h1;refine h1.mono ?_;rintro e w' ⟨rfl,hw⟩;refine⟨?_,hw⟩;unfold Fl.ofOne;rw[en]
 congr 2
 by_cases h5:s.kind=5
 ·rw[if_pos h5,if_pos (by omega)]
 by_cases h6:s.kind=6
 ·rw[if_neg h5,if_pos h6,if_neg (by omega),if_pos (by omega)]
 rw[if_neg h5,if_neg h6,if_neg (by omega),if_neg (by omega)]
end
section
variable{Cb Pb Lb Rl:Nat}{vv nv hv:Value}{p:Fl.Prog}{vs:List Int}{x:List Fl.Node}{S:Nat->Prop}{d:Nat}
def znv{w:World}(h:Yh w Cb Pb Lb Rl vv nv hv p vs x)(kn:Nat)(hk:kn<x.length)(a:Option Addr)(c:Nat)(len:Nat)(hc:len<=c)(hlen:len<=16)(f:Nat->Bool)
  (hst:∀i,i<len->∃b off sp,a=some ⟨b,off,none⟩/\(∀W,Below w.heap.size w W->W.cell? ⟨b,off+i,none⟩=some (.pointer sp))/\((Fl.nth x kn).kind=7->(Fl.nth x kn).list.length=len->∀W,Below w.heap.size w W->Calls prog 124 #[.pointer (some ⟨Cb,0,none⟩),.int .i64 ((Fl.nth x kn).list.getD i 0),.pointer sp] W λe w'=>e=.returned (.bool (f i))/\Below W.heap.size W w')):
  Calls prog 70 #[.pointer (some ⟨Cb,0,none⟩),.int .i64 kn,.slice a len c] w λe w'=>e=.returned (.bool (decide ((Fl.nth x kn).kind=7) && (decide ((Fl.nth x kn).list.length=len) && (List.range len).all f)))/\Below w.heap.size w w':=by
 obtain⟨nb,no0,cap,lv,rfl,e0⟩:=h.nodeAt kn hk;obtain⟨no,hno⟩:=nmE (no0+kn*6);obtain⟨n,hn⟩:=nmE (Fl.nth x kn);rw[<-hn]at hst e0⊢;rw[<-hno]at e0;obtain⟨la,lc,rfl,z0,-,j0⟩:=e0.li;have c2:=h.c2
 have A0:(kn:Int)<(x.length:Int):=by omega
 have hz:=e0.hz;have n0:=e0.c0;have n5:=e0.c5;have HN:Hid (∀W,Below w.heap.size w W->W.cell? ⟨nb,no+5,none⟩=some (.slice la n.list.length lc)):=λW hW=>(hW.cell (p:=⟨nb,no+5,none⟩) hz).trans n5
 have u0:Hid (∀i,i<n.list.length->∃b off,la=some ⟨b,off,none⟩/\∀W,Below w.heap.size w W->W.cell? ⟨b,off+i,none⟩=some (.int .i64 (n.list.getD i 0))):=λi hi=>by
  obtain⟨b,off,e,hb,v0⟩:=j0 (by intro h;rw[h]at hi;simp at hi);exact⟨b,off,e,λW hW=>(hW.cell (p:=⟨b,off+i,none⟩) hb).trans (v0 i hi)⟩
 obtain⟨res,b0⟩:=nmE ((decide (n.kind=7) && (decide (n.list.length=len) && (List.range len).all f)));rw[<-b0];have a0:=Zz b0;have B0:=Zz hno
 have o0:(len:Int)<=16:=by omega
 have C0:(len:Int)<=(c:Int):=by omega
 by_cases h7:n.kind=7
 ·have e7:(n.kind !=7)=false:=by simp[h7]
  by_cases hl:n.list.length=len
  ·have el:((n.list.length:Int) !=(len:Int))=false:=by simp[hl]
   have HE:Hid (res=(List.range len).all f):=(by show _=_;rw[a0.out,decide_eq_true h7,decide_eq_true hl];simp)
   have x0:Hid (∀i,i<len->∃b off sp,a=some ⟨b,off,none⟩/\(∀W,Below w.heap.size w W->W.cell? ⟨b,off+i,none⟩=some (.pointer sp))/\(∀W,Below w.heap.size w W->Calls prog 124 #[.pointer (some ⟨Cb,0,none⟩),.int .i64 (n.list.getD i 0),.pointer sp] W λe w'=>e=.returned (.bool (f i))/\Below W.heap.size W w')):=λi hi=>by
    obtain⟨b,off,sp,e1,e2,e3⟩:=hst i hi;exact⟨b,off,sp,e1,e2,e3 h7 hl⟩
   have HL:=Zz hl;clear h e0 hst b0 hn a0 h7 hl j0;subst hno
   go_enter func70,ntmps70
   go_wp2_with fail
   go_loopw [33] (λi wr=>Below w.heap.size w wr/\∃k:Nat,k<=len/\i=.int .i64 k/\(List.range k).all f=true) (λi _=>len - (intOf i).toNat)
   case atStart=>exact⟨Below.refl _ _,0,Nat.zero_le _,rfl,rfl⟩
   case round=>
    obtain⟨p0,k,D0,rfl,hall⟩:=hrel;have g0:=Zz p0;have i0:=Zz hall;clear p0 hall
    by_cases k0:k<len
    ·have l0:(k:Int)<(len:Int):=by omega
     obtain⟨b,off,sp,rfl,q0,d0⟩:=x0.out k k0;obtain⟨b2,off2,rfl,r0⟩:=u0.out k (by rw[HL.out];exact k0);have d1:=q0 wr g0.out;have d2:=r0 wr g0.out;have d3:=HN.out wr g0.out;have E0:(k:Int)<(n.list.length:Int):=(by have:=HL.out;omega);obtain⟨j,hj⟩:=nmE (n.list.getD k 0);rw[<-hj]at d2 d0;have f0:Hid (Calls prog 124 #[.pointer (some ⟨Cb,0,none⟩),.int .i64 j,.pointer sp] wr λe w'=>e=.returned (.bool (f k))/\Below wr.heap.size wr w'):=d0 wr g0.out
     have HF:Hid (f k=false->(List.range len).all f=false):=λh0=>by
      rw[List.all_eq_false];exact⟨k,List.mem_range.2 k0,by rw[h0];simp⟩
     have HT:Hid (f k=true->(List.range (k+1)).all f=true):=λh0=>by rw[List.range_succ,List.all_append,i0.out];simp[h0]
     generalize f k=fk at f0 HF HT;clear q0 r0 d0 hj
     go_wp2_with fail
     refine f0.out.mono ?_;rintro e w1 ⟨rfl,s0⟩;have t0:Hid (Below w.heap.size w w1):=g0.out.trans (s0.mono g0.out.size);clear s0
     cases fk with
     |false=>
      have m0:Hid (res=false):=(by show _=_;rw[HE.out];exact HF.out rfl);go_wp2;go_ret;exact⟨cbE m0.out,t0.out⟩
     |true=>
      have y0:Hid ((List.range (k+1)).all f=true):=HT.out rfl;go_wp2
      go_roundw
      case rel=>exact⟨t0.out,k+1,by omega,by go_num,y0.out⟩
      case measure=>simp[intOf];omega
    have l0:¬(k:Int)<(len:Int):=(by omega);have m0:Hid (res=true):=by
     show _=_;rw[HE.out];have h1:=i0.out;rw[show k=len by omega]at h1;exact h1
    go_wp2;go_ret;exact⟨cbE m0.out,g0.out⟩
  have el:((n.list.length:Int) !=(len:Int))=true:=(by rw[bne_iff_ne];omega);have HE:Hid (res=false):=(by show _=_;rw[a0.out,decide_eq_false hl];simp);clear h e0 hst b0 hn a0 h7 hl j0;subst hno
  go_enter func70,ntmps70
  go_wp2;go_ret;exact⟨cbE HE.out,Below.refl _ _⟩
 have e7:(n.kind !=7)=true:=by rw[bne_iff_ne];exact h7
 have HE:Hid (res=false):=by show _=_;rw[a0.out,decide_eq_false h7];simp
 clear h e0 hst b0 hn a0 h7 j0;subst hno
 go_enter func70,ntmps70
 go_wp2;go_ret;exact⟨cbE HE.out,Below.refl _ _⟩
end
section
variable{Cb Pb Lb Rl:Nat}{vv nv hv:Value}{p:Fl.Prog}{vs:List Int}{x:List Fl.Node}{S:Nat->Prop}{d:Nat}
def ylz:zh0 Cb Pb Lb Rl vv nv hv p vs x S 0:=by
 intro w k v l h hS hk a0 _;obtain⟨rfl,rfl⟩:=a0;obtain⟨kn,b0⟩:∃kn:Nat,(kn:Int)=k:=⟨k.toNat,by have:=hk.1;omega⟩
 have e0:k.toNat=kn:=by omega
 have h1:=znv h kn (by have:=hk.2;omega) none 0 0 (Nat.le_refl _) (by omega) (λ_=>true) (λi hi=>by omega);rw[b0]at h1;refine h1.mono ?_;rintro e w' ⟨rfl,hw⟩;refine⟨?_,hw⟩;unfold Fl.ofAll Fl.nd;rw[e0]
 congr 3
 by_cases hl:(Fl.nth x kn).list=[]
 ·simp[hl]
 have:(Fl.nth x kn).list.length≠0:=λh=>hl (Qi h);simp[hl,this]
def yly(hx:XOk x)(H:zh0 Cb Pb Lb Rl vv nv hv p vs x S d):zh0 Cb Pb Lb Rl vv nv hv p vs x S (d+1):=by
 intro w k v l h hS hk g0 h0;obtain⟨ao,cap,rfl,hc,-,i0,a0⟩:=g0;obtain⟨kn,j0⟩:∃kn:Nat,(kn:Int)=k:=⟨k.toNat,by have:=hk.1;omega⟩
 have e0:k.toNat=kn:=by omega
 have c0:kn<x.length:=by have:=hk.2;omega
 have h1:=znv h kn c0 ao cap l.length hc i0 (λi=>Fl.ofOne (Fl.ofAll d x) x ((Fl.nth x kn).list.getD i 0) (l.getD i noS)) (λi hi=>by
  obtain⟨b,off,e,hb,k0⟩:=a0 (by rintro rfl;simp at hi);obtain⟨q,hq,d0⟩:=k0 i hi;obtain⟨sb,vp,fv,ev,rfl,-⟩:=id d0;refine⟨b,off,some ⟨sb,0,none⟩,e,λW hW=>(hW.cell (p:=⟨b,off+i,none⟩) (hS b hb)).trans hq,λh7 hlen W hW=>?_⟩;have b0:=h0 i hi;have hmem:(Fl.nth x kn).list.getD i 0∈(Fl.nth x kn).list:=by
   have f0:i<(Fl.nth x kn).list.length:=(by omega);rw[Qa,Qb f0];exact List.getElem_mem f0
  exact ywx hx H (h.below hW) (λb hb=>Nat.lt_of_lt_of_le (hS b hb) hW.size) _ (hx.k7 kn c0 h7 _ hmem) _ _ (d0.kept (λv l hh=>Zp.kept (λb hb=>hb) (λb hb=>hW.block b (hS b hb)) _ _ _ hh) (λb hb=>hb) (λb hb=>hW.block b (hS b hb))) b0.1 b0.2.1 b0.2.2)
 rw[j0]at h1;refine h1.mono ?_;rintro e w' ⟨rfl,hw⟩;refine⟨?_,hw⟩;unfold Fl.ofAll Fl.nd;rw[e0]
def zlx(hx:XOk x):∀d,zh0 Cb Pb Lb Rl vv nv hv p vs x S d
 |0=>ylz
 |d+1=>yly hx (zlx hx d)
end
def zx1:Array Value:=#[.int .i64 0,.func (.func 115) #[] #[],.int .i64 0,.func (.func 116) #[] #[],.int .i64 0,.func (.func 117) #[] #[],.int .i64 1,.func (.func 118) #[] #[],.int .i64 1,.func (.func 119) #[] #[],.int .i64 1,.func (.func 120) #[] #[],.int .i64 1,.func (.func 121) #[] #[],.int .i64 2,.func (.func 122) #[] #[]]
def ytw(w:World):Calls prog 68 #[] w λe w'=>e=.returned (.slice (some ⟨w.heap.size,0,none⟩) 8 8)/\w'=w.alloc (.cells zx1 235):=by
 go_enter func68,ntmps68
 go_wp2;go_ret;exact⟨rfl,rfl⟩
def ytv{w:World}{Rl:Nat}(h:w.heap[Rl]?=some (.cells zx1 235 (0,0))):∀k,k<8->w.cell? ⟨Rl,k*2,none⟩=some (.int .i64 (zp1 k))/\w.cell? ⟨Rl,k*2+1,none⟩=some (.func (.func (ziw k)) #[] #[]):=by
 intro k hk;rw[cell_of_row _ _ (k*2) _ _ (0,0) h,cell_of_row _ _ (k*2+1) _ _ (0,0) h];rcases(show k=0\/k=1\/k=2\/k=3\/k=4\/k=5\/k=6\/k=7 by omega) with rfl|rfl|rfl|rfl|rfl|rfl|rfl|rfl<;>exact⟨rfl,rfl⟩
def Tryz.infoIntZ:(Tryz.prog.info? 3).map (λi=>(i.zero,i.size,i.bytes))=some (some (.int .i64 0),1,8):=by kernel_rfl
def zo9{w:World}{ops:Array Oper}{rest:List Oper}{o:Oper}{a:Act}{Q:Exit->Act->World->Prop}(f0:o.guard=none)(s x:Operand)
  (ho:o.op=.call {callee:=.builtin .append,args:=#[s,x],argTypes:=#[23,3]}) (hs:a.eval s=.slice none 0 0) (k:Nat) (hx:a.eval x=.int .i64 k) (h0:0<k) (hk:k<=100000)
  (h:∀(cap:Nat) (W':World),Below w.heap.size w W'->k<=cap->cap<=maxLen->W'.ownsRow w.heap.size 3 1 (.slice (some ⟨w.heap.size,0,none⟩) 0 cap) 0 []->wpList prog ops Q rest (a.put o.dst (.slice (some ⟨w.heap.size,0,none⟩) k cap)) W'):wpList prog ops Q (o::rest) a w:=by
 obtain⟨i0,hi,g0,j0,d0⟩:=info_parts Tryz.infoIntZ;have hrun:=Go.Lib.run_append_grow_zeros (P:=prog) w 23 3 o.type 3 i0 (.int .i64 0) .i64 .i64 underlying23 underlying3 hi g0 none 0 0 [] (by simp[Builtin.firstCells]) k h0 (by rw[j0];omega) (by omega) (by omega) (by rw[d0];omega) (growslice_fits (by omega) (by rw[d0];omega));rw[Nat.zero_add]at hrun;have e0:=grownCap_ge w k 0 3;have b0:=grownCap_le_maxLen w k 0 3 (by unfold maxLen;omega);obtain⟨cap,c0⟩:=nmE (grownCap w k 0 3);rw[<-c0]at hrun e0 b0;obtain⟨cur,a0⟩:=nmE (([]:List Value).toArray++Builtin.zeroCells (Value.int .i64 0).cells k++Builtin.zeroCells (Value.int .i64 0).cells (cap - k));have hsz:cur.size=cap*1:=by
  rw[a0,Array.size_append,Array.size_append,size_zeroCells,size_zeroCells];have:(Value.int IntKind.i64 0).cells.size=1:=rfl;rw[this];simp;omega
 rw[<-a0]at hrun;refine wpList_plain f0 λK hK=>?_;have k0:=hK _ _ (h cap (w.drew.alloc (.cells cur 3)) ((Below.refl _ _).drew.alloc (Nat.le_refl _) _) e0 b0 (World.ownsRow_made w.drew cur cap (Nat.le_refl _) b0 hsz));unfold Oper.wp execOp;simp only[ho,resolve,invoke,builtin,Sem.run_bind,Sem.run_pure,Result.andThen_ok,List.map_toArray,List.map_cons,List.map_nil,hs,hx,hrun];exact k0
def zm0(w:World)(e:Ending)(w':World):Prop:=Below w.heap.size w w'/\∃a c,e=.returned (.slice a 0 c)/\w'.ownsRow w.heap.size 3 1 (.slice a 0 c) 0 []
def ylx(w:World)(n:Nat)(hn:n<=100000):Calls prog 154 #[.slice none 0 0,.int .i64 n] w (zm0 w):=by
 have b0:(n:Int)<=100000:=by omega
 by_cases h0:n=0
 ·subst h0
  have HE:Hid (zm0 w (.returned (.slice none 0 0)) w):=⟨Below.refl _ _,none,0,rfl,World.ownsRow_nil _ _ _ _⟩
  go_enter func154,ntmps154
  go_wp2;go_ret;exact HE.out
 have c0:(0:Int)<(n:Int):=by omega
 have a0:Hid (0<n):=by show 0<n;omega
 clear h0
 go_enter func154,ntmps154
 go_wp2_with (refine zo9 rfl (.tmp 20) (.tmp 21) rfl rfl n rfl a0.out hn ?_)
 intro cap W' hb hc hm ho;have HE:Hid (zm0 w (.returned (.slice (some ⟨w.heap.size,0,none⟩) 0 cap)) W'):=⟨hb,_,_,rfl,ho⟩
 have d0:(n:Int)<=(cap:Int):=by omega
 have e0:(0:Int)<=(cap:Int):=by omega
 clear hb ho;go_wp2;go_ret;exact HE.out
def zr9(w:World)(base:Nat)(v:Value)(n:Nat)(xs:List Value)(a0:w.ownsRow base 3 1 v n xs)(c:Nat)(ty:TypeId){i:TypeInfo}(hi:prog.info? 3=some i):(Builtin.append_ #[23,23] ty #[v,.slice none 0 c]).run prog w=.ok v w:=by
 rcases a0.2 with⟨rfl,h0⟩|⟨g,cap,cur,rfl,hb,hg,b0,c0,d0,ht⟩
 ·simp[Builtin.append_,run_underlying underlying23,sizeOf,typeInfo,hi,Builtin.lenOf,Builtin.firstCells]
 simp[Builtin.append_,run_underlying underlying23,sizeOf,typeInfo,hi,Builtin.lenOf,Builtin.firstCells,b0,storeCells]
def zoz{w:World}{ops:Array Oper}{rest:List Oper}{o:Oper}{a:Act}{Q:Exit->Act->World->Prop}(e0:o.guard=none)(s x:Operand)
  (ho:o.op=.call {callee:=.builtin .append,args:=#[s,x],argTypes:=#[23,23]}) (base:Nat) (v:Value) (ys:List Int) (hs:a.eval s=v) (a0:w.ownsRow base 3 1 v ys.length (ys.map (Value.int .i64))) (xv:Value) (hx:a.eval x=xv) (B:Nat) (xs:List Int) (h0:Zy B w xv xs) (o0:ys.length<=1000000) (hlen:xs.length<=1000000) (c0:base<=w.heap.size)
  (h:∀v' w',w'.ownsRow base 3 1 v' (ys++xs).length ((ys++xs).map (Value.int .i64))->w.grownBy w' v.ownBlock->wpList prog ops Q rest (a.put o.dst v') w'):wpList prog ops Q (o::rest) a w:=by
 obtain⟨i0,hi,j0,k0,l0⟩:=info_parts Tryz.infoIntZ;obtain⟨ao,cap,rfl,hc,hm,d0⟩:=h0;have f0:∀ad,ao=some ad->(∀j u,(xs.map (Value.int .i64))[j]?=some u->w.cell? (ad.add j)=some u)->wpList prog ops Q (o::rest) a w:=by
  rintro ad rfl m0;refine wpList_append_own _ e0 s x 23 ho base 3 i0 (.int .i64 0) 1 8 underlying23 hi j0 k0 l0 rfl (by decide) _ _ _ hs a0 ad xs.length cap (xs.map (Value.int .i64)) hx (by simp) m0 ?_ (by unfold maxLen;omega) (by omega) c0 ?_
  ·intro u hu;simp only[List.mem_map]at hu;obtain⟨y,_,rfl⟩:=hu;rfl
  intro v' w' hown' hg _;exact h v' w' (by rw[List.length_append,List.map_append];exact hown') hg
 by_cases g0:xs=[]
 ·subst g0
  cases ao with
  |some ad=>exact f0 ad rfl (by simp)
  |none=>
   have hrun:=zr9 w base v ys.length _ a0 cap o.type hi;refine wpList_plain e0 λK hK=>?_;unfold Oper.wp;simp only[List.length_nil]at hx;simp[execOp,ho,resolve,invoke,builtin,hs,hx,hrun,Result.andThen];exact hK _ _ (h _ _ (by simpa using a0) ⟨rfl,rfl,rfl,Nat.le_refl _,λ_ _ _=>rfl⟩)
 obtain⟨b,off,rfl,p0,b0⟩:=d0 g0;refine f0 _ rfl ?_;intro j u hj;rw[List.getElem?_map]at hj;obtain⟨y,hy,rfl⟩:=Option.map_eq_some_iff.1 hj;have n0:j<xs.length:=(List.getElem?_eq_some_iff.1 hy).1;have:=b0 j n0;rw[Qa,hy]at this
 have h2:(⟨b,off,none⟩:Addr).add j=⟨b,off+j,none⟩:=by unfold Addr.add;split<;>simp_all
 rw[h2];simpa using this
def Uz(xs ys:List Int)(k:Nat):List Int:=if k=0 then [] else if k=1 then xs else xs++ys
def zw5(xs ys:List Int)(k:Nat):List Int:=if k=0 then xs else ys
def zd2(xs ys:List Int)(k:Nat)(hk:k<2):Uz xs ys (k+1)=Uz xs ys k++zw5 xs ys k:=by
 rcases(show k=0\/k=1 by omega) with rfl|rfl<;>simp[Uz,zw5]
def zh1(w:World)(sb:Nat)(c0v c1v:Value)(xs ys:List Int)(hsz:sb<w.heap.size)(h0:w.cell? ⟨sb,0,none⟩=some c0v)(h1:w.cell? ⟨sb,1,none⟩=some c1v)(hx:Zy w.heap.size w c0v xs)(hy:Zy w.heap.size w c1v ys)(hl:xs.length<=10000/\ys.length<=10000):
  Calls prog 107 #[.slice (some ⟨sb,0,none⟩) 2 2] w λe w'=>Below w.heap.size w w'/\∃v,e=.returned v/\w'.ownsRow w.heap.size 3 1 v (xs++ys).length ((xs++ys).map (Value.int .i64)):=by
 have i0:Hid (∀k,k<2->∀W,Below w.heap.size w W->∃a c,W.cell? ⟨sb,k,none⟩=some (.slice a (zw5 xs ys k).length c)/\Zy W.heap.size W (.slice a (zw5 xs ys k).length c) (zw5 xs ys k)/\(zw5 xs ys k).length<=10000):=λk hk W hW=>by
  rcases(show k=0\/k=1 by omega) with rfl|rfl
  ·obtain⟨a,c,e⟩:=Xi hx
   subst e;exact⟨a,c,(hW.cell (p:=⟨sb,0,none⟩) hsz).trans h0,(hx.below hW).mono hW.size,hl.1⟩
  obtain⟨a,c,e⟩:=Xi hy;subst e;exact⟨a,c,(hW.cell (p:=⟨sb,1,none⟩) hsz).trans h1,(hy.below hW).mono hW.size,hl.2⟩
 have j0:Hid (∀k,k<=2->(Uz xs ys k).length<=20000):=λk hk=>by
  rcases(show k=0\/k=1\/k=2 by omega) with rfl|rfl|rfl<;>simp[Uz]<;>omega
 have q0:Hid (∀n,n<=100000->Calls prog 154 #[.slice none 0 0,.int .i64 (n:Nat)] w (zm0 w)):=λn hn=>ylx w n hn;obtain⟨zs,e0⟩:=nmE (xs++ys);rw[<-e0];have r0:=Zz e0;clear h0 h1 hx hy e0
 go_enter func107,ntmps107
 go_wp2_with fail
 go_loopw [3,11] (λs i wr=>wr=w/\∃k:Nat,k<=2/\i=.int .i64 k/\s=.int .i64 ((Uz xs ys k).length:Nat)) (λ_ i _=>2 - (intOf i).toNat)
 case atStart=>exact⟨rfl,0,by omega,rfl,rfl⟩
 case round=>
  obtain⟨k0,k,hk,rfl,rfl⟩:=hrel;rw[k0];clear k0 wr;have D0:((Uz xs ys k).length:Int)<=20000:=(by have:=j0.out k hk;omega)
  by_cases b0:k<2
  ·have s0:(k:Int)<2:=by omega
   obtain⟨a,c,ck,-,t0⟩:=i0.out k b0 w (Below.refl _ _);have u0:((zw5 xs ys k).length:Int)<=10000:=(by omega);have E0:(0:Int)<=((Uz xs ys k).length:Int)+((zw5 xs ys k).length:Int):=(by omega);have f0:Hid (((Uz xs ys (k+1)).length:Int)=((Uz xs ys k).length:Int)+((zw5 xs ys k).length:Int)):=(by show _=_;rw[zd2 xs ys k b0,List.length_append];omega);generalize (Uz xs ys k).length=lk at*;generalize (zw5 xs ys k).length=ek at*;go_wp2
   go_roundw
   case rel=>exact⟨by first|rfl|trivial,k+1,by omega,by go_num,by rw[f0.out]⟩
   case measure=>simp[intOf];omega
  have s0:¬(k:Int)<2:=(by omega)
  obtain rfl:k=2:=by omega
  have v0:Hid (Calls prog 154 #[.slice none 0 0,.int .i64 ((Uz xs ys 2).length:Nat)] w (zm0 w)):=q0.out _ (by omega);generalize (Uz xs ys 2).length=tot at*
  go_wp2_with fail
  refine v0.out.mono ?_;rintro e W1 ⟨l0,a1,c1,rfl,m0⟩;have x0:=Zz l0;have y0:=Zz m0;clear l0 m0
  go_wp2_with fail
  go_loopw [6,27] (λv i wr=>Below w.heap.size w wr/\∃k:Nat,k<=2/\i=.int .i64 k/\wr.ownsRow w.heap.size 3 1 v (Uz xs ys k).length ((Uz xs ys k).map (Value.int .i64))) (λ_ i _=>2 - (intOf i).toNat)
  case atStart=>exact⟨x0.out,0,by omega,rfl,y0.out⟩
  case round=>
   rename_i u6 u27;obtain⟨n0,k,z0,rfl,c0⟩:=hrel;have d0:=Zz n0;have a0:=Zz c0;clear n0 c0
   by_cases b0:k<2
   ·have g0:(k:Int)<2:=by omega
    obtain⟨a,c,ck,o0,t0⟩:=i0.out k b0 wr d0.out;obtain⟨va,vc,rfl⟩:∃a c,u6=.slice a (Uz xs ys k).length c:=by
     rcases a0.out.2 with⟨e1,e2⟩|⟨g,cp,cur,e1,_⟩
     ·exact⟨none,0,by rw[e1,e2]⟩
     exact⟨_,cp,e1⟩
    have A0:=Zz o0;have B0:=j0.out k z0
    have f0:Hid (∀v' w',w'.ownsRow w.heap.size 3 1 v' (Uz xs ys k++zw5 xs ys k).length ((Uz xs ys k++zw5 xs ys k).map (Value.int .i64))->wr.grownBy w' (Value.slice va (Uz xs ys k).length vc).ownBlock->Below w.heap.size w w'/\w'.ownsRow w.heap.size 3 1 v' (Uz xs ys (k+1)).length ((Uz xs ys (k+1)).map (Value.int .i64))):=λv' w' h2 h3=>by
     rw[zd2 xs ys k b0];exact⟨d0.out.grown h3 d0.out.size (λb hb=>(a0.out.lt b hb).1),h2⟩
    have C0:w.heap.size<=wr.heap.size:=d0.out.size;clear o0
    go_wp2_with (at_builtin;refine zoz rfl (.tmp 31) (.tmp 32) rfl w.heap.size _ (Uz xs ys k) rfl a0.out _ rfl wr.heap.size (zw5 xs ys k) A0.out (by omega) (by omega) C0 ?_)
    intro v' w' h2 h3;have p0:Hid _:=f0.out v' w' (by rw[List.length_append,List.map_append];exact h2) h3;clear h2 h3;go_wp2
    go_roundw
    case rel=>exact⟨p0.out.1,k+1,by omega,by go_num,p0.out.2⟩
    case measure=>simp[intOf];omega
   have g0:¬(k:Int)<2:=(by omega)
   obtain rfl:k=2:=by omega
   have HE:Hid (wr.ownsRow w.heap.size 3 1 u6 zs.length (zs.map (Value.int .i64))):=(by show World.ownsRow _ _ _ _ _ _ _;rw[r0.out];exact a0.out);clear a0;go_wp2;go_ret;exact⟨d0.out,u6,rfl,HE.out⟩
def zf7{w:World}{Pb:Nat}{clv lv:Value}{xs ys:List Int}(hp:Pb<w.heap.size)(c1:w.cell? ⟨Pb,1,none⟩=some clv)(hx:Zy w.heap.size w clv xs)(hy:Zy w.heap.size w lv ys)(hl:xs.length<=10000/\ys.length<=10000):
  Calls prog 62 #[.pointer (some ⟨Pb,0,none⟩),lv] w λe w'=>Below w.heap.size w w'/\(∀j,w'.frozen? ⟨w.heap.size,j,none⟩=false)/\w.heap.size<w'.heap.size/\∃v,e=.returned v/\w'.ownsRow (w.heap.size+1) 3 1 v (xs++ys).length ((xs++ys).map (Value.int .i64)):=by
 obtain⟨a0,k0,e0⟩:=Xi hx;obtain⟨a1,k1,e1⟩:=Xi hy;subst e0;subst e1;have hB:Below w.heap.size w (w.alloc (.cells #[.slice a0 xs.length k0,.slice a1 ys.length k1] 23)):=(Below.refl _ _).alloc (Nat.le_refl _) _;obtain⟨zs,hzs⟩:∃zs,zs=xs++ys:=⟨_,rfl⟩;have HC:Hid (Calls prog 107 #[.slice (some ⟨w.heap.size,0,none⟩) 2 2] (w.alloc (.cells #[.slice a0 xs.length k0,.slice a1 ys.length k1] 23)) λe w'=>Below w.heap.size w w'/\(∀j,w'.frozen? ⟨w.heap.size,j,none⟩=false)/\w.heap.size<w'.heap.size/\∃v,e=.returned v/\w'.ownsRow (w.heap.size+1) 3 1 v zs.length (zs.map (Value.int .i64))):=by
  refine(zh1 (w.alloc (.cells #[.slice a0 xs.length k0,.slice a1 ys.length k1] 23)) w.heap.size _ _ xs ys (by simp) (by simp) (by simp) ((hx.below hB).mono hB.size) ((hy.below hB).mono hB.size) hl).mono ?_;rintro e w' ⟨hb,v,rfl,ho⟩;rw[<-hzs]at ho;refine⟨hB.trans (hb.mono hB.size),λj=>(hb.frozen (p:=⟨w.heap.size,j,none⟩) (by simp)).trans (by simp),by have:=hb.size;simp at this;omega,v,rfl,?_⟩;have e9:(w.alloc (.cells #[.slice a0 xs.length k0,.slice a1 ys.length k1] 23)).heap.size=w.heap.size+1:=(by simp);rw[e9]at ho;exact ho
 rw[<-hzs];clear hx hy hzs hB
 go_enter func62,ntmps62
 go_wp2_with fail
 refine HC.out.mono ?_;rintro e w1 ⟨hb,hfz,hzz,v,rfl,ho⟩;obtain⟨la,lc,rfl⟩:∃la lc,v=.slice la zs.length lc:=by
  rcases id ho.2 with⟨rfl,h0⟩|⟨g,cp,cur,rfl,-⟩
  ·exact⟨none,0,by rw[h0]⟩
  ·exact⟨_,cp,rfl⟩
 have HE:Hid (Below w.heap.size w w1/\(∀j,w1.frozen? ⟨w.heap.size,j,none⟩=false)/\w.heap.size<w1.heap.size/\w1.ownsRow (w.heap.size+1) 3 1 (.slice la zs.length lc) zs.length (zs.map (Value.int .i64))):=⟨hb,hfz,hzz,ho⟩;clear hb ho hfz hzz;go_wp2;go_ret;exact⟨HE.out.1,HE.out.2.1,HE.out.2.2.1,_,rfl,HE.out.2.2.2⟩
def zb2{w:World}{Pb:Nat}{clv lv:Value}{xs ys:List Int}(hp:Pb<w.heap.size)(c1:w.cell? ⟨Pb,1,none⟩=some clv)(hx:Zy w.heap.size w clv xs)(hy:Zy w.heap.size w lv ys)(hl:xs.length<=10000/\ys.length<=10000):
  Calls prog 62 #[.pointer (some ⟨Pb,0,none⟩),lv] w λe w'=>Below w.heap.size w w'/\∃a c,e=.returned (.slice a (xs++ys).length c)/\Zy w'.heap.size w' (.slice a (xs++ys).length c) (xs++ys):=by
 obtain⟨a0,k0,e0⟩:=Xi hx;obtain⟨a1,k1,e1⟩:=Xi hy;subst e0;subst e1;have hB:Below w.heap.size w (w.alloc (.cells #[.slice a0 xs.length k0,.slice a1 ys.length k1] 23)):=bA;obtain⟨zs,b0⟩:=nmE (xs++ys);have HC:Hid (Calls prog 107 #[.slice (some ⟨w.heap.size,0,none⟩) 2 2] (w.alloc (.cells #[.slice a0 xs.length k0,.slice a1 ys.length k1] 23)) λe w'=>Below w.heap.size w w'/\∃a c,e=.returned (.slice a zs.length c)/\Zy w'.heap.size w' (.slice a zs.length c) zs):=by
  refine(zh1 (w.alloc (.cells #[.slice a0 xs.length k0,.slice a1 ys.length k1] 23)) w.heap.size _ _ xs ys (by simp) (by simp) (by simp) ((hx.below hB).mono hB.size) ((hy.below hB).mono hB.size) hl).mono ?_;rintro e w' ⟨hb,v,rfl,ho⟩;rw[<-b0]at ho;refine⟨hB.trans (hb.mono hB.size),?_⟩;have hi:=Zy.of_own ho;obtain⟨a,c,e⟩:=Xi hi;subst e;exact⟨a,c,rfl,hi⟩
 rw[<-b0];clear hx hy b0 hB
 go_enter func62,ntmps62
 go_wp2_with fail
 refine HC.out.mono ?_;rintro e w1 ⟨hb,a,c,rfl,hi⟩;have HE:Hid (Below w.heap.size w w1/\Zy w1.heap.size w1 (.slice a zs.length c) zs):=⟨hb,hi⟩;clear hb hi;go_wp2;go_ret;exact⟨HE.out.1,a,c,rfl,HE.out.2⟩
end Go.Proofs.YtminjljgedopkaaGreatDoor
