import Derived.Test.YtaaejabalinojaaGreatDoorM07
set_option linter.all false
set_option maxRecDepth 100000
set_option maxHeartbeats 40000000
namespace Go.Proofs.YtaaejabalinojaaGreatDoor
open Go.RowKit Go.Proofs.Tryz
section
variable{P:Program}{ops:Array Oper}{Q:Exit->Act->World->Prop}{S:World->Prop}
def ys5{o:Oper}{l:List (Nat×Oper)}{a:Act}{w:World}{j:Nat}{b:Bool}(hg:o.guard=some (j,b))(hy:yielded ops a.tmps j=none)
  (h:Yi P ops S Q l (a.put o.dst undef) w):Yi P ops S Q ((0,o)::l) a w:=⟨undef,.inr ⟨by simp[Region.wanted,hg,hy],rfl⟩,h⟩
end
section
variable{w:World}{Cb Pb Lb Rl vb:Nat}{vv nv hv vx vy:Value}{p:Fl.Prog}{vs:List Int}{x:List Fl.Node}
def zr2(h:Ya w Cb Pb Lb Rl vv nv hv p vs x)(k:Nat)(hk:k<x.length)(vk va:Int)(h0:vb<w.heap.size)(v0:w.cell? ⟨vb,0,none⟩=some (.int .i64 vk))(v1:w.cell? ⟨vb,1,none⟩=some (.int .i64 va))(v2:w.cell? ⟨vb,2,none⟩=some vx)(v3:w.cell? ⟨vb,3,none⟩=some vy)(rb rc:Bool)
  (hb:vk=2->(Fl.nth x k).kind=2->∀W,Below w.heap.size w W->Calls prog 118 #[.pointer (some ⟨Cb,0,none⟩),.int .i64 (Fl.nth x k).b,vx] W λe w'=>e=.returned (.bool rb)/\Below W.heap.size W w')
  (hc:vk=2->(Fl.nth x k).kind=2->∀W,Below w.heap.size w W->Calls prog 118 #[.pointer (some ⟨Cb,0,none⟩),.int .i64 (Fl.nth x k).c,vy] W λe w'=>e=.returned (.bool rc)/\Below W.heap.size W w')
  (k0:∃a,vx=.pointer a) (l0:∃a,vy=.pointer a):
  Calls prog 118 #[.pointer (some ⟨Cb,0,none⟩),.int .i64 k,.pointer (some ⟨vb,0,none⟩)] w λe w'=>e=.returned (.bool (decide ((Fl.nth x k).kind=vk) && (decide ((Fl.nth x k).a=va) && (decide (vk≠2)||(rb && rc)))))/\Below w.heap.size w w':=by
 obtain⟨ax,rfl⟩:=k0;obtain⟨ay,rfl⟩:=l0;obtain⟨nb,no0,cap,lv,rfl,e0⟩:=h.nodeAt k hk;obtain⟨no,hno⟩:=nmE (no0+k*6);obtain⟨n,hn⟩:=nmE (Fl.nth x k);rw[<-hn]at hb hc e0⊢;have c2:=h.c2
 have m0:(k:Int)<(x.length:Int):=by omega
 have HS:Hid (∀W,Below w.heap.size w W->W.cell? ⟨nb,no,none⟩=some (.int .i64 n.kind)/\W.cell? ⟨nb,no+2,none⟩=some (.int .i64 n.a)/\W.cell? ⟨nb,no+3,none⟩=some (.int .i64 n.b)/\W.cell? ⟨nb,no+4,none⟩=some (.int .i64 n.c)/\W.cell? ⟨vb,0,none⟩=some (.int .i64 vk)/\W.cell? ⟨vb,1,none⟩=some (.int .i64 va)/\W.cell? ⟨vb,2,none⟩=some (.pointer ax)/\W.cell? ⟨vb,3,none⟩=some (.pointer ay)):=λW hW=>by
  have h2:=e0.below hW;rw[<-hno]at h2;exact⟨h2.c0,h2.c2,h2.c3,h2.c4,(hW.cell (p:=⟨vb,0,none⟩) h0).trans v0,(hW.cell (p:=⟨vb,1,none⟩) h0).trans v1,(hW.cell (p:=⟨vb,2,none⟩) h0).trans v2,(hW.cell (p:=⟨vb,3,none⟩) h0).trans v3⟩
 obtain⟨res,b0⟩:=nmE ((decide (n.kind=vk) && (decide (n.a=va) && (decide (vk≠2)||(rb && rc)))));rw[<-b0];have a0:=Zz b0;have f0:=Zz hno
 by_cases h1:n.kind=vk
 ·have e1:(n.kind !=vk)=false:=by simp[h1]
  by_cases h2:n.a=va
  ·have e2:(n.a !=va)=false:=by simp[h2]
   by_cases h3:vk=2
   ·have HE:Hid (res=(rb && rc)):=by show _=_;rw[a0.out,decide_eq_true h1,decide_eq_true h2,decide_eq_false (by intro h;exact h h3)];simp
    have HB:Hid (∀W,Below w.heap.size w W->Calls prog 118 #[.pointer (some ⟨Cb,0,none⟩),.int .i64 n.b,.pointer ax] W λe w'=>e=.returned (.bool rb)/\Below W.heap.size W w'):=hb h3 (h1.trans h3);have HC:Hid (∀W,Below w.heap.size w W->Calls prog 118 #[.pointer (some ⟨Cb,0,none⟩),.int .i64 n.c,.pointer ay] W λe w'=>e=.returned (.bool rc)/\Below W.heap.size W w'):=hc h3 (h1.trans h3);have e3:(n.kind !=2)=false:=(by simp[h1,h3]);clear h e0 v0 v1 v2 v3 hb hc b0 h1 h2 h3 hn hno a0
    cases rb with
    |true=>
     go_enter func118,ntmps118
     go_wp2_with fail
     rw[<-f0.out];refine Zn HS (((Below.refl _ _).drew)) [] [] [(9,23)] (by kernel_rfl) (λc a d v w h=>by cases d<;>exact h) (λops ⟨g1,_⟩=>?_)
     iterate 20 refine Zw (by first|rfl|simp[Region.wanted,yielded,g1,Act.put]) (by rintro _ ⟨_,_,_,_,_,_,_,_⟩;go_simp<;>rfl) (by go_simp<;>rfl) ?_
     refine Zs ?_
     go_wp2_with fail
     refine Zn HS (((Below.refl _ _).drew.drew)) [15,26] [] [(5,39),(16,50)] (by kernel_rfl) (λc a d v w h=>by cases d<;>exact h) (λops ⟨g1,g2,_⟩=>?_)
     iterate 15 refine Zw (by first|rfl|simp[Region.wanted,yielded,g1,Act.put]) (by rintro _ ⟨_,_,_,_,_,_,_,_⟩;go_simp<;>rfl) (by go_simp<;>rfl) ?_
     refine Zc (by simp[Region.wanted,yielded,g1,Act.put]) ?_
     go_wp2_with fail
     refine(HB.out _ ((Below.refl _ _).drew.drew)).mono ?_;rintro e W1 ⟨rfl,g0⟩;have d0:Hid (Below w.heap.size w W1):=((Below.refl _ _).drew.drew).trans g0;clear g0
     go_wp2_with fail
     refine⟨HS.out _ d0.out,?_⟩
     iterate 10 refine Zw (by simp[Region.wanted,yielded,g1,g2,Act.put]) (by rintro _ ⟨_,_,_,_,_,_,_,_⟩;go_simp<;>rfl) (by go_simp<;>rfl) ?_
     refine Zc (by simp[Region.wanted,yielded,g2,Act.put]) ?_
     go_wp2_with fail
     refine(HC.out _ d0.out).mono ?_;rintro e W2 ⟨rfl,i0⟩;have j0:Hid (Below w.heap.size w W2):=d0.out.trans (i0.mono d0.out.size);clear i0
     go_wp2_with fail
     refine⟨HS.out _ j0.out,?_⟩
     iterate 3 refine Zw (by first|rfl|simp[Region.wanted,yielded,g1,Act.put]) (by rintro _ ⟨_,_,_,_,_,_,_,_⟩;go_simp<;>rfl) (by go_simp<;>rfl) ?_
     refine Zs ?_;go_wp2;go_ret;exact⟨cbE HE.out,j0.out⟩
    |false=>
     go_enter func118,ntmps118
     go_wp2_with fail
     rw[<-f0.out];refine Zn HS (((Below.refl _ _).drew)) [] [] [(9,23)] (by kernel_rfl) (λc a d v w h=>by cases d<;>exact h) (λops ⟨g1,_⟩=>?_)
     iterate 20 refine Zw (by first|rfl|simp[Region.wanted,yielded,g1,Act.put]) (by rintro _ ⟨_,_,_,_,_,_,_,_⟩;go_simp<;>rfl) (by go_simp<;>rfl) ?_
     refine Zs ?_
     go_wp2_with fail
     refine Zn HS (((Below.refl _ _).drew.drew)) [15,26] [] [(5,39),(16,50)] (by kernel_rfl) (λc a d v w h=>by cases d<;>exact h) (λops ⟨g1,g2,_⟩=>?_)
     iterate 15 refine Zw (by first|rfl|simp[Region.wanted,yielded,g1,Act.put]) (by rintro _ ⟨_,_,_,_,_,_,_,_⟩;go_simp<;>rfl) (by go_simp<;>rfl) ?_
     refine Zc (by simp[Region.wanted,yielded,g1,Act.put]) ?_
     go_wp2_with fail
     refine(HB.out _ ((Below.refl _ _).drew.drew)).mono ?_;rintro e W1 ⟨rfl,g0⟩;have d0:Hid (Below w.heap.size w W1):=((Below.refl _ _).drew.drew).trans g0;clear g0
     go_wp2_with fail
     refine⟨HS.out _ d0.out,?_⟩;refine Zw (by simp[Region.wanted,yielded,g1,Act.put]) (by rintro _ ⟨_,_,_,_,_,_,_,_⟩;go_simp<;>rfl) (by go_simp<;>rfl) ?_
     iterate 9
      refine Ys rfl (c:=false) (by simp[yielded,g2,Act.put]) (by decide) ?_
     refine Zp rfl (c:=false) (by simp[yielded,g2,Act.put]) (by decide) (HS.out _ d0.out) ?_
     iterate 3 refine Zw (by first|rfl|simp[Region.wanted,yielded,g1,Act.put]) (by rintro _ ⟨_,_,_,_,_,_,_,_⟩;go_simp<;>rfl) (by go_simp<;>rfl) ?_
     refine Zs ?_;go_wp2;go_ret;exact⟨cbE HE.out,d0.out⟩
   have HE:Hid (res=true):=(by show _=_;rw[a0.out,decide_eq_true h1,decide_eq_true h2,decide_eq_true (show vk≠2 from h3)];simp);have e3:(n.kind !=2)=true:=(by rw[bne_iff_ne,h1];exact h3);clear h e0 v0 v1 v2 v3 hb hc b0 h1 h2 h3 hn hno a0
   go_enter func118,ntmps118
   go_wp2_with fail
   rw[<-f0.out];refine Zn HS (((Below.refl _ _).drew)) [] [] [(9,23)] (by kernel_rfl) (λc a d v w h=>by cases d<;>exact h) (λops ⟨g1,_⟩=>?_)
   iterate 20 refine Zw (by first|rfl|simp[Region.wanted,yielded,g1,Act.put]) (by rintro _ ⟨_,_,_,_,_,_,_,_⟩;go_simp<;>rfl) (by go_simp<;>rfl) ?_
   refine Zs ?_
   go_wp2_with fail
   refine Zn HS (((Below.refl _ _).drew.drew)) [15,26] [] [(5,39),(16,50)] (by kernel_rfl) (λc a d v w h=>by cases d<;>exact h) (λops ⟨g1,g2,_⟩=>?_)
   iterate 6 refine Zw rfl (by rintro _ ⟨_,_,_,_,_,_,_,_⟩;go_simp<;>rfl) (by go_simp<;>rfl) ?_
   iterate 9
    refine Ys rfl (c:=true) (by simp[yielded,g1,Act.put]) (by decide) ?_
   refine Zp rfl (c:=true) (by simp[yielded,g1,Act.put]) (by decide) (HS.out _ ((Below.refl _ _).drew.drew)) ?_;refine Ys rfl (c:=true) (by simp[yielded,g1,Act.put]) (by decide) ?_
   iterate 9
    refine ys5 rfl (by simp[yielded,g2,Act.put,undef]) ?_
   refine zb6 rfl (by simp[yielded,g2,Act.put,undef]) (HS.out _ ((Below.refl _ _).drew.drew)) ?_;refine Ys rfl (c:=true) (by simp[yielded,g1,Act.put]) (by decide) ?_
   iterate 2 refine Zw rfl (by rintro _ ⟨_,_,_,_,_,_,_,_⟩;go_simp<;>rfl) (by go_simp<;>rfl) ?_
   refine Zs ?_;go_wp2;go_ret;exact⟨cbE HE.out,(Below.refl _ _).drew.drew⟩
  have HE:Hid (res=false):=(by show _=_;rw[a0.out,decide_eq_false h2];simp);have e2:(n.a !=va)=true:=(by rw[bne_iff_ne];exact h2);clear h e0 v0 v1 v2 v3 hb hc b0 h1 h2 hn hno a0
  go_enter func118,ntmps118
  go_wp2_with fail
  rw[<-f0.out];refine Zn HS (((Below.refl _ _).drew)) [] [] [(9,23)] (by kernel_rfl) (λc a d v w h=>by cases d<;>exact h) (λops ⟨g1,_⟩=>?_)
  iterate 20 refine Zw (by first|rfl|simp[Region.wanted,yielded,g1,Act.put]) (by rintro _ ⟨_,_,_,_,_,_,_,_⟩;go_simp<;>rfl) (by go_simp<;>rfl) ?_
  refine Zs ?_;go_wp2;go_ret;exact⟨cbE HE.out,(Below.refl _ _).drew⟩
 have HE:Hid (res=false):=by show _=_;rw[a0.out,decide_eq_false h1];simp
 have e1:(n.kind !=vk)=true:=by rw[bne_iff_ne];exact h1
 clear h e0 v0 v1 v2 v3 hb hc b0 h1 hn hno a0
 go_enter func118,ntmps118
 go_wp2_with fail
 rw[<-f0.out];refine Zn HS (((Below.refl _ _).drew)) [] [] [(9,23)] (by kernel_rfl) (λc a d v w h=>by cases d<;>exact h) (λops ⟨g1,_⟩=>?_)
 iterate 10 refine Zw rfl (by rintro _ ⟨_,_,_,_,_,_,_,_⟩;go_simp<;>rfl) (by go_simp<;>rfl) ?_
 iterate 9
  refine Ys rfl (c:=true) (by simp[yielded,g1,Act.put]) (by decide) ?_
 refine Zw rfl (by rintro _ ⟨_,_,_,_,_,_,_,_⟩;go_simp<;>rfl) (by go_simp<;>rfl) ?_;refine Zs ?_;go_wp2;go_ret;exact⟨cbE HE.out,(Below.refl _ _).drew⟩
end
section
variable{w:World}{Cb Pb Lb Rl:Nat}{vv nv hv:Value}{p:Fl.Prog}{vs:List Int}{x:List Fl.Node}{S:Nat->Prop}
def zt8(h:Ya w Cb Pb Lb Rl vv nv hv p vs x)(hS:∀b,S b->b<w.heap.size)(k:Int)(hk:0<=k/\k.toNat<x.length)(q:Value)(a:Fl.Atom)(ha:Xp S w q a):
  Calls prog 118 #[.pointer (some ⟨Cb,0,none⟩),.int .i64 k,q] w λe w'=>e=.returned (.bool (Fl.ofAtom x k a))/\Below w.heap.size w w':=by
 obtain⟨vb,rfl,hs,hc⟩:=ha;obtain⟨kn,b0⟩:∃kn:Nat,(kn:Int)=k:=⟨k.toNat,by omega⟩
 have e0:k.toNat=kn:=by omega
 have a0:(if a.var then(1:Int) else 0)≠2:=by cases a.var<;>decide
 have h1:=zr2 (vx:=.pointer none) (vy:=.pointer none) h kn (by omega) (if a.var then 1 else 0) a.v (hS _ hs) (hc.c 0 (by omega)) (hc.c 1 (by omega)) (hc.c 2 (by omega)) (hc.c 3 (by omega)) true true (λh2=>absurd h2 a0) (λh2=>absurd h2 a0) ⟨_,rfl⟩ ⟨_,rfl⟩;rw[b0]at h1;refine h1.mono ?_;rintro e w' ⟨rfl,hw⟩;refine⟨?_,hw⟩;unfold Fl.ofAtom Fl.nd;rw[e0,decide_eq_true a0];simp
def zdv(h:Ya w Cb Pb Lb Rl vv nv hv p vs x)(hS:∀b,S b->b<w.heap.size)(k:Int)(hk:0<=k/\k.toNat<x.length)(b0:(Fl.nd x k).kind=2->(0<=(Fl.nd x k).b/\(Fl.nd x k).b.toNat<x.length)/\(0<=(Fl.nd x k).c/\(Fl.nd x k).c.toNat<x.length))(q:Value)(e:Fl.Expr)(g0:zu6 S w q e):
  Calls prog 118 #[.pointer (some ⟨Cb,0,none⟩),.int .i64 k,q] w λr w'=>r=.returned (.bool (Fl.ofExpr x k e))/\Below w.heap.size w w':=by
 rcases g0 with⟨h1,h2⟩|⟨h1,vb,qx,qy,rfl,h3,h4,h5,h6⟩
 ·have e1:Fl.ofExpr x k e=Fl.ofAtom x k e.a:=by unfold Fl.ofExpr;rw[if_pos (by omega)]
  rw[e1];exact zt8 h hS k hk q e.a h2
 have e1:Fl.ofExpr x k e=(decide ((Fl.nd x k).kind=2) && (decide ((Fl.nd x k).a=e.op) && (Fl.ofAtom x (Fl.nd x k).b e.a && Fl.ofAtom x (Fl.nd x k).c e.b))):=by unfold Fl.ofExpr;rw[if_neg (by omega)]
 obtain⟨kn,h0⟩:∃kn:Nat,(kn:Int)=k:=⟨k.toNat,by omega⟩
 have e0:k.toNat=kn:=by omega
 have en:Fl.nd x k=Fl.nth x kn:=by unfold Fl.nd;rw[e0]
 rw[en]at b0 e1;have a0:∀W,Below w.heap.size w W->Ya W Cb Pb Lb Rl vv nv hv p vs x:=λW hW=>h.below hW;have d0:∀W,Below w.heap.size w W->∀q a,Xp S w q a->Xp S W q a:=λW hW q a ha=>ha.kept (λb hb=>hb) (λb hb=>hW.block b (hS b hb));have f0:∀W,Below w.heap.size w W->∀b,S b->b<W.heap.size:=λW hW b hb=>Nat.lt_of_lt_of_le (hS b hb) hW.size
 have i0:∃a,qx=.pointer a:=by obtain⟨b,e,-⟩:=h5;exact⟨_,e⟩
 have j0:∃a,qy=.pointer a:=by obtain⟨b,e,-⟩:=h6;exact⟨_,e⟩
 have h7:=zr2 (vx:=qx) (vy:=qy) h kn (by omega) 2 e.op (hS _ h3) (h4.c 0 (by omega)) (h4.c 1 (by omega)) (h4.c 2 (by omega)) (h4.c 3 (by omega)) (Fl.ofAtom x (Fl.nth x kn).b e.a) (Fl.ofAtom x (Fl.nth x kn).c e.b)
  (λ_ c0 W hW=>zt8 (a0 W hW) (f0 W hW) _ (b0 c0).1 qx e.a (d0 W hW _ _ h5)) (λ_ c0 W hW=>zt8 (a0 W hW) (f0 W hW) _ (b0 c0).2 qy e.b (d0 W hW _ _ h6)) i0 j0
 rw[h0]at h7;refine h7.mono ?_;rintro r w' ⟨rfl,hw⟩;refine⟨?_,hw⟩;rw[e1];simp
end
section
variable{w:World}{Cb Pb Lb Rl sb:Nat}{vv nv hv:Value}{p:Fl.Prog}{vs:List Int}{x:List Fl.Node}
def zbx(h:Ya w Cb Pb Lb Rl vv nv hv p vs x)(k:Nat)(hk:k<x.length)(sk sx:Int)(o0:sk=3\/sk=4\/sk=5\/sk=6)(av:Option Addr)(fa ea:Option Addr)(fn fc en ec:Nat)(hsz:sb<w.heap.size)
  (n0:w.cell? ⟨sb,0,none⟩=some (.int .i64 sk)/\w.cell? ⟨sb,2,none⟩=some (.int .i64 sx)/\w.cell? ⟨sb,3,none⟩=some (.pointer av)/\w.cell? ⟨sb,4,none⟩=some (.slice fa fn fc)/\w.cell? ⟨sb,5,none⟩=some (.slice ea en ec)) (va vb rb rc:Bool)
  (h0:sk=5\/sk=6->(Fl.nth x k).kind=sk->∀W,Below w.heap.size w W->Calls prog 118 #[.pointer (some ⟨Cb,0,none⟩),.int .i64 (Fl.nth x k).a,.pointer av] W λe w'=>e=.returned (.bool va)/\Below W.heap.size W w')
  (k0:sk=3\/sk=4->(Fl.nth x k).kind=sk->∀W,Below w.heap.size w W->Calls prog 118 #[.pointer (some ⟨Cb,0,none⟩),.int .i64 (Fl.nth x k).b,.pointer av] W λe w'=>e=.returned (.bool vb)/\Below W.heap.size W w')
  (i0:sk=5\/sk=6->(Fl.nth x k).kind=sk->∀W,Below w.heap.size w W->Calls prog 52 #[.pointer (some ⟨Cb,0,none⟩),.int .i64 (Fl.nth x k).b,.slice fa fn fc] W λe w'=>e=.returned (.bool rb)/\Below W.heap.size W w')
  (l0:sk=5->(Fl.nth x k).kind=sk->∀W,Below w.heap.size w W->Calls prog 52 #[.pointer (some ⟨Cb,0,none⟩),.int .i64 (Fl.nth x k).c,.slice ea en ec] W λe w'=>e=.returned (.bool rc)/\Below W.heap.size W w'):
  Calls prog 91 #[.pointer (some ⟨Cb,0,none⟩),.int .i64 k,.pointer (some ⟨sb,0,none⟩)] w λe w'=>e=.returned (.bool (decide ((Fl.nth x k).kind=sk) && (if sk=5 then va && (rb && rc) else if sk=6 then va && rb else decide ((Fl.nth x k).a=sx) && vb)))/\Below w.heap.size w w':=by
 obtain⟨nb,no0,cap,lv,rfl,m0⟩:=h.nodeAt k hk;obtain⟨no,hno⟩:=nmE (no0+k*6);obtain⟨n,hn⟩:=nmE (Fl.nth x k);rw[<-hn]at h0 k0 i0 l0 m0⊢;have c2:=h.c2
 have t0:(k:Int)<(x.length:Int):=by omega
 have HS:Hid (∀W,Below w.heap.size w W->W.cell? ⟨nb,no,none⟩=some (.int .i64 n.kind)/\W.cell? ⟨nb,no+2,none⟩=some (.int .i64 n.a)/\W.cell? ⟨nb,no+3,none⟩=some (.int .i64 n.b)/\W.cell? ⟨nb,no+4,none⟩=some (.int .i64 n.c)/\W.cell? ⟨sb,0,none⟩=some (.int .i64 sk)/\W.cell? ⟨sb,2,none⟩=some (.int .i64 sx)/\W.cell? ⟨sb,3,none⟩=some (.pointer av)/\W.cell? ⟨sb,4,none⟩=some (.slice fa fn fc)/\W.cell? ⟨sb,5,none⟩=some (.slice ea en ec)):=λW hW=>by
  have h2:=m0.below hW;rw[<-hno]at h2;obtain⟨s0,s2,s3,s4,s5⟩:=n0;exact⟨h2.c0,h2.c2,h2.c3,h2.c4,(hW.cell (p:=⟨sb,0,none⟩) hsz).trans s0,(hW.cell (p:=⟨sb,2,none⟩) hsz).trans s2,(hW.cell (p:=⟨sb,3,none⟩) hsz).trans s3,(hW.cell (p:=⟨sb,4,none⟩) hsz).trans s4,(hW.cell (p:=⟨sb,5,none⟩) hsz).trans s5⟩
 obtain⟨res,f0⟩:=nmE ((decide (n.kind=sk) && (if sk=5 then va && (rb && rc) else if sk=6 then va && rb else decide (n.a=sx) && vb)));rw[<-f0];have e0:=Zz f0;have j0:=Zz hno;have q0:∀W,Below w.heap.size w W->W.cell? ⟨nb,no,none⟩=some (.int .i64 n.kind):=λW hW=>(HS.out W hW).1
 by_cases h1:n.kind=sk
 ·have e1:(n.kind !=sk)=false:=by simp[h1]
  have d0:w.drew.cell? ⟨nb,no,none⟩=some (.int .i64 n.kind):=q0 _ (Below.refl _ _).drew
  by_cases h5:sk=5
  ·have HV:Hid (∀W,Below w.heap.size w W->Calls prog 118 #[.pointer (some ⟨Cb,0,none⟩),.int .i64 n.a,.pointer av] W λe w'=>e=.returned (.bool va)/\Below W.heap.size W w'):=h0 (.inl h5) h1
   have HB:Hid (∀W,Below w.heap.size w W->Calls prog 52 #[.pointer (some ⟨Cb,0,none⟩),.int .i64 n.b,.slice fa fn fc] W λe w'=>e=.returned (.bool rb)/\Below W.heap.size W w'):=i0 (.inl h5) h1;have HC:Hid (∀W,Below w.heap.size w W->Calls prog 52 #[.pointer (some ⟨Cb,0,none⟩),.int .i64 n.c,.slice ea en ec] W λe w'=>e=.returned (.bool rc)/\Below W.heap.size W w'):=l0 h5 h1;have HE:Hid (res=(va && (rb && rc))):=(by show _=_;rw[e0.out,decide_eq_true h1,if_pos h5,Bool.true_and]);have e5:(n.kind==5)=true:=(by simp[h1,h5]);clear h m0 n0 f0 h1 h5 hn hno e0 h0 k0 i0 l0 q0 o0
   cases va with
   |false=>
    go_enter func91,ntmps91
    go_wp2_with fail
    rw[<-j0.out];refine Zn HS (((Below.refl _ _).drew)) [] [] [] (by kernel_rfl) (λc a d v w h=>by cases d<;>exact h) (λops hG=>?_);clear hG
    iterate 9 refine Zw rfl (by rintro _ ⟨_,_,_,_,_,_,_,_,_⟩;go_simp<;>rfl) (by go_simp<;>rfl) ?_
    refine Zs ?_
    go_wp2_with fail
    refine Zn HS (((Below.refl _ _).drew.drew)) [9,20,32] [] [(10,39),(22,51)] (by kernel_rfl) (λc a d v w h=>by cases d<;>exact h) (λops ⟨g1,g2,_⟩=>?_)
    iterate 9 refine Zw rfl (by rintro _ ⟨_,_,_,_,_,_,_,_,_⟩;go_simp<;>rfl) (by go_simp<;>rfl) ?_
    refine Zk ?_
    go_wp2_with fail
    refine(HV.out _ ((Below.refl _ _).drew.drew)).mono ?_;rintro e W1 ⟨rfl,a0⟩;have b0:Hid (Below w.heap.size w W1):=(((Below.refl _ _).drew.drew)).trans a0;clear a0
    go_wp2_with fail
    refine⟨HS.out _ b0.out,?_⟩;refine Zw rfl (by rintro _ ⟨_,_,_,_,_,_,_,_,_⟩;go_simp<;>rfl) (by go_simp<;>rfl) ?_
    iterate 9
     refine Ys rfl (c:=false) (by simp[yielded,g1,Act.put]) (by decide) ?_
    refine Zp rfl (c:=false) (by simp[yielded,g1,Act.put]) (by decide) (HS.out _ b0.out) ?_
    iterate 2 refine Zw rfl (by rintro _ ⟨_,_,_,_,_,_,_,_,_⟩;go_simp<;>rfl) (by go_simp<;>rfl) ?_
    iterate 9
     refine Ys rfl (c:=false) (by simp[yielded,g2,Act.put]) (by decide) ?_
    refine Zp rfl (c:=false) (by simp[yielded,g2,Act.put]) (by decide) (HS.out _ b0.out) ?_
    iterate 2 refine Zw rfl (by rintro _ ⟨_,_,_,_,_,_,_,_,_⟩;go_simp<;>rfl) (by go_simp<;>rfl) ?_
    refine Zs ?_;go_wp2;go_ret;exact⟨cbE HE.out,b0.out⟩
   |true=>
    cases rb with
    |false=>
     go_enter func91,ntmps91
     go_wp2_with fail
     rw[<-j0.out];refine Zn HS (((Below.refl _ _).drew)) [] [] [] (by kernel_rfl) (λc a d v w h=>by cases d<;>exact h) (λops hG=>?_);clear hG
     iterate 9 refine Zw rfl (by rintro _ ⟨_,_,_,_,_,_,_,_,_⟩;go_simp<;>rfl) (by go_simp<;>rfl) ?_
     refine Zs ?_
     go_wp2_with fail
     refine Zn HS (((Below.refl _ _).drew.drew)) [9,20,32] [] [(10,39),(22,51)] (by kernel_rfl) (λc a d v w h=>by cases d<;>exact h) (λops ⟨g1,g2,_⟩=>?_)
     iterate 9 refine Zw rfl (by rintro _ ⟨_,_,_,_,_,_,_,_,_⟩;go_simp<;>rfl) (by go_simp<;>rfl) ?_
     refine Zk ?_
     go_wp2_with fail
     refine(HV.out _ ((Below.refl _ _).drew.drew)).mono ?_;rintro e W1 ⟨rfl,a0⟩;have b0:Hid (Below w.heap.size w W1):=(((Below.refl _ _).drew.drew)).trans a0;clear a0
     go_wp2_with fail
     refine⟨HS.out _ b0.out,?_⟩
     iterate 10 refine Zw (by first|rfl|simp[Region.wanted,yielded,g1,Act.put]) (by rintro _ ⟨_,_,_,_,_,_,_,_,_⟩;go_simp<;>rfl) (by go_simp<;>rfl) ?_
     refine Zc (by simp[Region.wanted,yielded,g1,Act.put]) ?_
     go_wp2_with fail
     refine(HB.out _ b0.out).mono ?_;rintro e W2 ⟨rfl,a0⟩;have g0:Hid (Below w.heap.size w W2):=(b0.out).trans (a0.mono (b0.out).size);clear a0
     go_wp2_with fail
     refine⟨HS.out _ g0.out,?_⟩
     iterate 2 refine Zw rfl (by rintro _ ⟨_,_,_,_,_,_,_,_,_⟩;go_simp<;>rfl) (by go_simp<;>rfl) ?_
     iterate 9
      refine Ys rfl (c:=false) (by simp[yielded,g2,Act.put]) (by decide) ?_
     refine Zp rfl (c:=false) (by simp[yielded,g2,Act.put]) (by decide) (HS.out _ g0.out) ?_
     iterate 2 refine Zw rfl (by rintro _ ⟨_,_,_,_,_,_,_,_,_⟩;go_simp<;>rfl) (by go_simp<;>rfl) ?_
     refine Zs ?_;go_wp2;go_ret;exact⟨cbE HE.out,g0.out⟩
    |true=>
     go_enter func91,ntmps91
     go_wp2_with fail
     rw[<-j0.out];refine Zn HS (((Below.refl _ _).drew)) [] [] [] (by kernel_rfl) (λc a d v w h=>by cases d<;>exact h) (λops hG=>?_);clear hG
     iterate 9 refine Zw rfl (by rintro _ ⟨_,_,_,_,_,_,_,_,_⟩;go_simp<;>rfl) (by go_simp<;>rfl) ?_
     refine Zs ?_
     go_wp2_with fail
     refine Zn HS (((Below.refl _ _).drew.drew)) [9,20,32] [] [(10,39),(22,51)] (by kernel_rfl) (λc a d v w h=>by cases d<;>exact h) (λops ⟨g1,g2,_⟩=>?_)
     iterate 9 refine Zw rfl (by rintro _ ⟨_,_,_,_,_,_,_,_,_⟩;go_simp<;>rfl) (by go_simp<;>rfl) ?_
     refine Zk ?_
     go_wp2_with fail
     refine(HV.out _ ((Below.refl _ _).drew.drew)).mono ?_;rintro e W1 ⟨rfl,a0⟩;have b0:Hid (Below w.heap.size w W1):=(((Below.refl _ _).drew.drew)).trans a0;clear a0
     go_wp2_with fail
     refine⟨HS.out _ b0.out,?_⟩
     iterate 10 refine Zw (by first|rfl|simp[Region.wanted,yielded,g1,Act.put]) (by rintro _ ⟨_,_,_,_,_,_,_,_,_⟩;go_simp<;>rfl) (by go_simp<;>rfl) ?_
     refine Zc (by simp[Region.wanted,yielded,g1,Act.put]) ?_
     go_wp2_with fail
     refine(HB.out _ b0.out).mono ?_;rintro e W2 ⟨rfl,a0⟩;have g0:Hid (Below w.heap.size w W2):=(b0.out).trans (a0.mono (b0.out).size);clear a0
     go_wp2_with fail
     refine⟨HS.out _ g0.out,?_⟩
     iterate 11 refine Zw (by first|rfl|simp[Region.wanted,yielded,g2,Act.put]) (by rintro _ ⟨_,_,_,_,_,_,_,_,_⟩;go_simp<;>rfl) (by go_simp<;>rfl) ?_
     refine Zc (by simp[Region.wanted,yielded,g2,Act.put]) ?_
     go_wp2_with fail
     refine(HC.out _ g0.out).mono ?_;rintro e W3 ⟨rfl,a0⟩;have r0:Hid (Below w.heap.size w W3):=(g0.out).trans (a0.mono (g0.out).size);clear a0
     go_wp2_with fail
     refine⟨HS.out _ r0.out,?_⟩
     iterate 2 refine Zw rfl (by rintro _ ⟨_,_,_,_,_,_,_,_,_⟩;go_simp<;>rfl) (by go_simp<;>rfl) ?_
     refine Zs ?_;go_wp2;go_ret;exact⟨cbE HE.out,r0.out⟩
  by_cases h6:sk=6
  ·have HV:Hid (∀W,Below w.heap.size w W->Calls prog 118 #[.pointer (some ⟨Cb,0,none⟩),.int .i64 n.a,.pointer av] W λe w'=>e=.returned (.bool va)/\Below W.heap.size W w'):=h0 (.inr h6) h1
   have HB:Hid (∀W,Below w.heap.size w W->Calls prog 52 #[.pointer (some ⟨Cb,0,none⟩),.int .i64 n.b,.slice fa fn fc] W λe w'=>e=.returned (.bool rb)/\Below W.heap.size W w'):=i0 (.inr h6) h1;have HE:Hid (res=(va && rb)):=(by show _=_;rw[e0.out,decide_eq_true h1,if_neg h5,if_pos h6,Bool.true_and]);have e5:(n.kind==5)=false:=(by simp[h1,h6]);have e6:(n.kind==6)=true:=(by simp[h1,h6]);clear h m0 n0 f0 h1 h5 h6 hn hno e0 h0 k0 i0 l0 q0 o0
   cases va with
   |false=>
    go_enter func91,ntmps91
    go_wp2_with fail
    rw[<-j0.out];refine Zn HS (((Below.refl _ _).drew)) [] [] [] (by kernel_rfl) (λc a d v w h=>by cases d<;>exact h) (λops hG=>?_);clear hG
    iterate 9 refine Zw rfl (by rintro _ ⟨_,_,_,_,_,_,_,_,_⟩;go_simp<;>rfl) (by go_simp<;>rfl) ?_
    refine Zs ?_
    go_wp2_with fail
    refine Zn HS (((Below.refl _ _).drew.drew)) [9,20] [] [(10,75)] (by kernel_rfl) (λc a d v w h=>by cases d<;>exact h) (λops ⟨g1,_⟩=>?_)
    iterate 9 refine Zw rfl (by rintro _ ⟨_,_,_,_,_,_,_,_,_⟩;go_simp<;>rfl) (by go_simp<;>rfl) ?_
    refine Zk ?_
    go_wp2_with fail
    refine(HV.out _ ((Below.refl _ _).drew.drew)).mono ?_;rintro e W1 ⟨rfl,a0⟩;have b0:Hid (Below w.heap.size w W1):=(((Below.refl _ _).drew.drew)).trans a0;clear a0
    go_wp2_with fail
    refine⟨HS.out _ b0.out,?_⟩;refine Zw rfl (by rintro _ ⟨_,_,_,_,_,_,_,_,_⟩;go_simp<;>rfl) (by go_simp<;>rfl) ?_
    iterate 9
     refine Ys rfl (c:=false) (by simp[yielded,g1,Act.put]) (by decide) ?_
    refine Zp rfl (c:=false) (by simp[yielded,g1,Act.put]) (by decide) (HS.out _ b0.out) ?_
    iterate 2 refine Zw rfl (by rintro _ ⟨_,_,_,_,_,_,_,_,_⟩;go_simp<;>rfl) (by go_simp<;>rfl) ?_
    refine Zs ?_;go_wp2;go_ret;exact⟨cbE HE.out,b0.out⟩
   |true=>
    go_enter func91,ntmps91
    go_wp2_with fail
    rw[<-j0.out];refine Zn HS (((Below.refl _ _).drew)) [] [] [] (by kernel_rfl) (λc a d v w h=>by cases d<;>exact h) (λops hG=>?_);clear hG
    iterate 9 refine Zw rfl (by rintro _ ⟨_,_,_,_,_,_,_,_,_⟩;go_simp<;>rfl) (by go_simp<;>rfl) ?_
    refine Zs ?_
    go_wp2_with fail
    refine Zn HS (((Below.refl _ _).drew.drew)) [9,20] [] [(10,75)] (by kernel_rfl) (λc a d v w h=>by cases d<;>exact h) (λops ⟨g1,_⟩=>?_)
    iterate 9 refine Zw rfl (by rintro _ ⟨_,_,_,_,_,_,_,_,_⟩;go_simp<;>rfl) (by go_simp<;>rfl) ?_
    refine Zk ?_
    go_wp2_with fail
    refine(HV.out _ ((Below.refl _ _).drew.drew)).mono ?_;rintro e W1 ⟨rfl,a0⟩;have b0:Hid (Below w.heap.size w W1):=(((Below.refl _ _).drew.drew)).trans a0;clear a0
    go_wp2_with fail
    refine⟨HS.out _ b0.out,?_⟩
    iterate 10 refine Zw (by first|rfl|simp[Region.wanted,yielded,g1,Act.put]) (by rintro _ ⟨_,_,_,_,_,_,_,_,_⟩;go_simp<;>rfl) (by go_simp<;>rfl) ?_
    refine Zc (by simp[Region.wanted,yielded,g1,Act.put]) ?_
    go_wp2_with fail
    refine(HB.out _ b0.out).mono ?_;rintro e W2 ⟨rfl,a0⟩;have g0:Hid (Below w.heap.size w W2):=(b0.out).trans (a0.mono (b0.out).size);clear a0
    go_wp2_with fail
    refine⟨HS.out _ g0.out,?_⟩
    iterate 2 refine Zw rfl (by rintro _ ⟨_,_,_,_,_,_,_,_,_⟩;go_simp<;>rfl) (by go_simp<;>rfl) ?_
    refine Zs ?_;go_wp2;go_ret;exact⟨cbE HE.out,g0.out⟩
  have p0:sk=3\/sk=4:=(by omega);have HV:Hid (∀W,Below w.heap.size w W->Calls prog 118 #[.pointer (some ⟨Cb,0,none⟩),.int .i64 n.b,.pointer av] W λe w'=>e=.returned (.bool vb)/\Below W.heap.size W w'):=k0 p0 h1;have e5:(n.kind==5)=false:=(by rw[h1,Qh];exact h5);have e6:(n.kind==6)=false:=(by rw[h1,Qh];exact h6)
  by_cases ha:n.a=sx
  ·have HE:Hid (res=vb):=by show _=_;rw[e0.out,decide_eq_true h1,if_neg h5,if_neg h6,Bool.true_and,decide_eq_true ha,Bool.true_and]
   have ea2:(n.a==sx)=true:=(by simp[ha]);clear h m0 n0 f0 h1 h5 h6 p0 ha hn hno e0 h0 k0 i0 l0 q0 o0
   go_enter func91,ntmps91
   go_wp2_with fail
   rw[<-j0.out];refine Zn HS (((Below.refl _ _).drew)) [] [] [] (by kernel_rfl) (λc a d v w h=>by cases d<;>exact h) (λops hG=>?_);clear hG
   iterate 9 refine Zw rfl (by rintro _ ⟨_,_,_,_,_,_,_,_,_⟩;go_simp<;>rfl) (by go_simp<;>rfl) ?_
   refine Zs ?_
   go_wp2_with fail
   refine Zn HS (((Below.refl _ _).drew.drew)) [19] [] [(9,96)] (by kernel_rfl) (λc a d v w h=>by cases d<;>exact h) (λops ⟨g1,_⟩=>?_)
   iterate 19 refine Zw (by first|rfl|simp[Region.wanted,yielded,g1,Act.put]) (by rintro _ ⟨_,_,_,_,_,_,_,_,_⟩;go_simp<;>rfl) (by go_simp<;>rfl) ?_
   refine Zc (by simp[Region.wanted,yielded,g1,Act.put]) ?_
   go_wp2_with fail
   refine(HV.out _ ((Below.refl _ _).drew.drew)).mono ?_;rintro e W1 ⟨rfl,a0⟩;have b0:Hid (Below w.heap.size w W1):=(((Below.refl _ _).drew.drew)).trans a0;clear a0
   go_wp2_with fail
   refine⟨HS.out _ b0.out,?_⟩
   iterate 2 refine Zw rfl (by rintro _ ⟨_,_,_,_,_,_,_,_,_⟩;go_simp<;>rfl) (by go_simp<;>rfl) ?_
   refine Zs ?_;go_wp2;go_ret;exact⟨cbE HE.out,b0.out⟩
  have HE:Hid (res=false):=(by show _=_;rw[e0.out,decide_eq_true h1,if_neg h5,if_neg h6,Bool.true_and,decide_eq_false ha,Bool.false_and]);have ea2:(n.a==sx)=false:=(by rw[Qh];exact ha);clear h m0 n0 f0 h1 h5 h6 p0 ha hn hno e0 h0 k0 i0 l0 q0 o0
  go_enter func91,ntmps91
  go_wp2_with fail
  rw[<-j0.out];refine Zn HS (((Below.refl _ _).drew)) [] [] [] (by kernel_rfl) (λc a d v w h=>by cases d<;>exact h) (λops hG=>?_);clear hG
  iterate 9 refine Zw rfl (by rintro _ ⟨_,_,_,_,_,_,_,_,_⟩;go_simp<;>rfl) (by go_simp<;>rfl) ?_
  refine Zs ?_
  go_wp2_with fail
  refine Zn HS (((Below.refl _ _).drew.drew)) [19] [] [(9,96)] (by kernel_rfl) (λc a d v w h=>by cases d<;>exact h) (λops ⟨g1,_⟩=>?_)
  iterate 10 refine Zw rfl (by rintro _ ⟨_,_,_,_,_,_,_,_,_⟩;go_simp<;>rfl) (by go_simp<;>rfl) ?_
  iterate 9
   refine Ys rfl (c:=false) (by simp[yielded,g1,Act.put]) (by decide) ?_
  refine Zp rfl (c:=false) (by simp[yielded,g1,Act.put]) (by decide) (HS.out _ ((Below.refl _ _).drew.drew)) ?_
  iterate 2 refine Zw rfl (by rintro _ ⟨_,_,_,_,_,_,_,_,_⟩;go_simp<;>rfl) (by go_simp<;>rfl) ?_
  refine Zs ?_;go_wp2;go_ret;exact⟨cbE HE.out,(Below.refl _ _).drew.drew⟩
 have HE:Hid (res=false):=by show _=_;rw[e0.out,decide_eq_false h1,Bool.false_and]
 have e1:(n.kind !=sk)=true:=by rw[bne_iff_ne];exact h1
 clear h m0 n0 f0 h1 hn hno e0 h0 k0 i0 l0 q0 o0
 go_enter func91,ntmps91
 go_wp2_with fail
 rw[<-j0.out];refine Zn HS (((Below.refl _ _).drew)) [] [] [] (by kernel_rfl) (λc a d v w h=>by cases d<;>exact h) (λops hG=>?_);clear hG
 iterate 9 refine Zw rfl (by rintro _ ⟨_,_,_,_,_,_,_,_,_⟩;go_simp<;>rfl) (by go_simp<;>rfl) ?_
 refine Zs ?_;go_wp2;go_ret;exact⟨cbE HE.out,(Below.refl _ _).drew⟩
end
def Ji(x:List Fl.Node)(k:Int):Prop:=0<=k/\k.toNat<x.length
structure XOk(x:List Fl.Node):Prop where
 k2:∀k,k<x.length->(Fl.nth x k).kind=2->Ji x (Fl.nth x k).b/\Ji x (Fl.nth x k).c
 k3:∀k,k<x.length->(Fl.nth x k).kind=3\/(Fl.nth x k).kind=4->Ji x (Fl.nth x k).b
 k5:∀k,k<x.length->(Fl.nth x k).kind=5\/(Fl.nth x k).kind=6->Ji x (Fl.nth x k).a/\Ji x (Fl.nth x k).b
 k6:∀k,k<x.length->(Fl.nth x k).kind=5->Ji x (Fl.nth x k).c
 k7:∀k,k<x.length->(Fl.nth x k).kind=7->∀j∈(Fl.nth x k).list,Ji x j
def Jv:Nat->List Fl.Stmt->Prop
 |0,_=>True
 |d+1,l=>∀i,i<l.length->((l.getD i noS).kind=3\/(l.getD i noS).kind=4\/(l.getD i noS).kind=5\/(l.getD i noS).kind=6)/\Jv d (l.getD i noS).body/\Jv d (l.getD i noS).other
def Yr.shape{d:Nat}{S:Nat->Prop}{w:World}{v:Value}{l:List Fl.Stmt}(h:Yr d S w v l):∃a c,v=.slice a l.length c:=by
 cases d with
 |zero=>obtain⟨rfl,rfl⟩:=h;exact⟨none,0,rfl⟩
 |succ d=>obtain⟨a,c,e,-⟩:=h;exact⟨a,c,e⟩
def zu6.ptr{S:Nat->Prop}{w:World}{v:Value}{e:Fl.Expr}(h:zu6 S w v e):∃a,v=.pointer a:=by
 rcases h with⟨-,b,e,-⟩|⟨-,b,_,_,e,-⟩
 ·exact⟨_,e⟩
 exact⟨_,e⟩
def zjy(Cb Pb Lb Rl:Nat)(vv nv hv:Value)(p:Fl.Prog)(vs:List Int)(x:List Fl.Node)(S:Nat->Prop)(d:Nat):Prop:=
 ∀(w:World) (k:Int) (v:Value) (l:List Fl.Stmt),Ya w Cb Pb Lb Rl vv nv hv p vs x->(∀b,S b->b<w.heap.size)->Ji x k->Yr d S w v l->Jv d l->Calls prog 52 #[.pointer (some ⟨Cb,0,none⟩),.int .i64 k,v] w λe w'=>e=.returned (.bool (Fl.ofAll d x k l))/\Below w.heap.size w w'
section
variable{w:World}{Cb Pb Lb Rl:Nat}{vv nv hv:Value}{p:Fl.Prog}{vs:List Int}{x:List Fl.Node}{S:Nat->Prop}{d:Nat}
def yxy(hx:XOk x)(H:zjy Cb Pb Lb Rl vv nv hv p vs x S d)(h:Ya w Cb Pb Lb Rl vv nv hv p vs x)(hS:∀b,S b->b<w.heap.size)(k:Int)(hk:Ji x k)(q:Value)(s:Fl.Stmt)(hs:zx0 (Yr d) S w q s)(j0:s.kind=3\/s.kind=4\/s.kind=5\/s.kind=6)(f0:Jv d s.body)(g0:Jv d s.other):
  Calls prog 91 #[.pointer (some ⟨Cb,0,none⟩),.int .i64 k,q] w λe w'=>e=.returned (.bool (Fl.ofOne (Fl.ofAll d x) x k s))/\Below w.heap.size w w':=by
 obtain⟨sb,vp,fv,ev,rfl,h0,hc,b0,hf,he⟩:=hs;obtain⟨av,rfl⟩:=b0.ptr;obtain⟨fa,fc,rfl⟩:=hf.shape;obtain⟨ea,ec,rfl⟩:=he.shape;obtain⟨kn,i0⟩:∃kn:Nat,(kn:Int)=k:=⟨k.toNat,by have:=hk.1;omega⟩
 have e0:k.toNat=kn:=by omega
 have c0:kn<x.length:=by have:=hk.2;omega
 have en:Fl.nd x k=Fl.nth x kn:=by unfold Fl.nd;rw[e0]
 have d0:∀W,Below w.heap.size w W->∀b,S b->b<W.heap.size:=λW hW b hb=>Nat.lt_of_lt_of_le (hS b hb) hW.size
 have a0:∀(j:Int),Ji x j->∀W,Below w.heap.size w W->Calls prog 118 #[.pointer (some ⟨Cb,0,none⟩),.int .i64 j,.pointer av] W λe w'=>e=.returned (.bool (Fl.ofExpr x j s.e))/\Below W.heap.size W w':=λj hj W hW=>
  zdv (h.below hW) (d0 W hW) j hj (λh2=>by have:=hx.k2 j.toNat hj.2 h2;exact this) _ _ (b0.kept (λb hb=>hb) (λb hb=>hW.block b (hS b hb)))
 have hall:∀(j:Int) (v:Value) (l:List Fl.Stmt),Ji x j->Yr d S w v l->Jv d l->∀W,Below w.heap.size w W->Calls prog 52 #[.pointer (some ⟨Cb,0,none⟩),.int .i64 j,v] W λe w'=>e=.returned (.bool (Fl.ofAll d x j l))/\Below W.heap.size W w':=λj v l hj hv hkk W hW=>
  H W j v l (h.below hW) (d0 W hW) hj (Yr.kept (λb hb=>hb) (λb hb=>hW.block b (hS b hb)) _ _ _ hv) hkk
 have h1:=zbx h kn c0 (s.kind:Nat) (s.x:Nat) (by omega) av fa ea s.body.length fc s.other.length ec (hS _ h0) ⟨hc.c 0 (by omega),hc.c 2 (by omega),hc.c 3 (by omega),hc.c 4 (by omega),hc.c 5 (by omega)⟩ (Fl.ofExpr x (Fl.nth x kn).a s.e) (Fl.ofExpr x (Fl.nth x kn).b s.e) (Fl.ofAll d x (Fl.nth x kn).b s.body) (Fl.ofAll d x (Fl.nth x kn).c s.other)
  (λh2 h3=>a0 _ (hx.k5 kn c0 (by omega)).1) (λh2 h3=>a0 _ (hx.k3 kn c0 (by omega))) (λh2 h3=>hall _ _ _ (hx.k5 kn c0 (by omega)).2 hf f0) (λh2 h3=>hall _ _ _ (hx.k6 kn c0 (by omega)) he g0)
 rw[i0]at h1;refine h1.mono ?_;rintro e w' ⟨rfl,hw⟩;refine⟨?_,hw⟩;unfold Fl.ofOne;rw[en]
 congr 2
 by_cases h5:s.kind=5
 ·rw[if_pos h5,if_pos (by omega)]
 by_cases h6:s.kind=6
 ·rw[if_neg h5,if_pos h6,if_neg (by omega),if_pos (by omega)]
 rw[if_neg h5,if_neg h6,if_neg (by omega),if_neg (by omega)]
end
end Go.Proofs.YtaaejabalinojaaGreatDoor
