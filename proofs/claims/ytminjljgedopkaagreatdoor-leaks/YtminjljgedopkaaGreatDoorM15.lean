import Derived.Test.YtminjljgedopkaaGreatDoorM14
import Derived.Test.YtminjljgedopkaaGreatDoorShelf
import Derived.WalkSmall
import Derived.Lib.SplitLaws
import Derived.Recover
import Derived.Defers
import Derived.Stop.Asserts
set_option linter.all false
set_option maxRecDepth 100000
set_option maxHeartbeats 40000000
namespace Go.Proofs.YtminjljgedopkaaGreatDoor
open Go.RowKit Go.Proofs.Tryz
def Tryz.infoPOpened:(Tryz.prog.info? 285).map (λi=>(i.zero,i.size,i.bytes))=some (some (.pointer none),1,8):=by kernel_rfl
section
variable{lo base R Pb lm vm cm:Nat}{w0 w:World}{r:Fl.RS}{line:Int}{m:Yk}
def ziy(h:Zw lo base R Pb lm vm cm w0 w r line m)(O0:r.begun=true)(B:Nat)(v:Value)(k a:List UInt8)(ln kind:Nat)(P0:line=(ln:Int))(hB:B<=w.heap.size)(hw:Zf B w v [a])(c0:kind=if k==Fl.wIf then 5 else 6):
  Calls prog 186 #[.pointer (some ⟨R,0,none⟩),.int .i64 kind,v] w (Zp lo base R Pb lm vm cm w0 line (r.stmt ln [k,a])):=by
 obtain⟨b,off,cp,rfl,r0,f1,g1,Q0,j0⟩:=hw.one (by simp);obtain⟨res,l0⟩:=nmE (r.stmt ln [k,a]);rw[<-l0]
 have m0:Hid (res=match r.value [a] with
  |none=>(4,r)
  |some e=>if 16<=r.stmts\/3<=r.fr.length then(5,r) else(0,r.opens kind ln e)):=by
  show _=_;rw[l0,c0];simp only[Fl.RS.stmt]
  cases r.value [a]<;>rfl
 have R0:Hid (Calls prog 183 #[.pointer (some ⟨R,0,none⟩),.slice (some ⟨b,off,none⟩) 1 cp] w (zt4 (r.value [a]) line w)):=zl5 h b off cp a (Q0 a (by simp)) (by simpa using r0) (j0 0 (by simp))
 have i1:Hid (kind=5\/kind=6):=by show _\/_;rw[c0];split<;>simp
 have j1:=Zz P0;have HH:=Zz h;have hba:=h.hba;have hlo:=h.hlo;simp only[List.length_cons,List.length_nil,Nat.zero_add];obtain⟨ao,cap,C0,s0,u0⟩:=zn3 h;have D0:=h.ok.fr;obtain⟨n,hn⟩:=nmE (r.fr.length);rw[<-hn]at C0 D0;have HN:=Zz hn;have v0:=Zz C0;clear h hw Q0 j0 l0 c0 P0 r0 f1 g1 hB C0 s0 u0 hn
 go_enter func186,ntmps186
 go_wp2_with fail
 refine R0.out.mono ?_;rintro e W2 ⟨y0,S0,x0⟩;have z0:Hid (Zw lo base R Pb lm vm cm w0 W2 r line m):=HH.out.below y0;have t1:=y0.size
 cases d0:r.value [a] with
 |none=>
  obtain rfl:=x0 d0;have HR:res=(4,r):=(by rw[m0.out,d0]);exact⟨rfl,Zp.bad HR (by decide) rfl (HH.out.gone y0)⟩
 |some ex=>
  obtain⟨pb,rfl,T0⟩:=S0 ex d0;have U0:=Zz T0;have A0:Hid (res=if 16<=r.stmts\/3<=n then(5,r) else(0,r.opens kind ln ex)):=(by show _=_;rw[m0.out,d0,HN.out]);clear R0 y0 T0 S0 x0 m0 d0;have u1:R<W2.heap.size:=(by omega);have c43:W2.cell? ⟨R,43,none⟩=some (.slice ao n cap):=(by rw[<-v0.out];exact z0.out.cR.c 43 (by omega));obtain⟨o,ho⟩:=nmE (α:=Obj) (.cells #[.int .i64 kind,.int .i64 0,.int .i64 0,.pointer (some ⟨pb,0,none⟩),.slice none 0 0,.slice none 0 0] 227);have HA:Hid (Zw lo base R Pb lm vm cm w0 (W2.alloc o) r line m):=z0.out.below (bA);have V0:(W2.alloc o).heap.size=W2.heap.size+1:=World.size_alloc _ _;have W0:=Zz V0;have E0:Hid (Calls prog 106 #[.pointer (some ⟨R,0,none⟩),.bool false,.int .i64 5] (W2.alloc o) λe w'=>e=.panicked (Zq 5 line)/\Below (W2.alloc o).heap.size (W2.alloc o) w'):=Yr R 5 line _ (HA.out.cR.c 1 (by omega));have B0:Hid (Calls prog 106 #[.pointer (some ⟨R,0,none⟩),.bool true,.int .i64 5] (W2.alloc o) λe w'=>e=.returned (.tuple #[])/\w'=W2.alloc o):=Yd R 5 _
  have X0:m.who W2.heap.size=5:=Classical.byContradiction λk1=>by have:=(z0.out.re.wh _ k1).2;omega
  have h0:Hid (Calls prog 184 #[.pointer (some ⟨R,0,none⟩),.pointer (some ⟨W2.heap.size,0,none⟩)] (W2.alloc o) (Jk lo base R Pb lm vm cm w0 r line m W2.heap.size kind 0 (ptr pb) (W2.alloc o))):=
   zd1 HA.out O0 W2.heap.size kind 0 (ptr pb) (by omega) X0 (by omega) (by rw[ho];exact Zn.new W2 [.int .i64 kind,.int .i64 0,.int .i64 0,.pointer (some ⟨pb,0,none⟩),.slice none 0 0,.slice none 0 0] _)
  have F0:Hid (∀b,b<W2.heap.size->(W2.alloc o).heap[b]?=W2.heap[b]?):=((Below.refl W2.heap.size W2).alloc (Nat.le_refl _) _).block;rw[ho]at E0 B0 h0;clear V0 X0
  by_cases h3:3<=n
  ·have b3:¬(n:Int)<3:=by omega
   have HR:Hid (res=(5,r)):=(by show _=_;rw[A0.out];exact if_pos (.inr h3));rw[ho]at HA W0;clear ho h0 B0 F0
   go_wp2_with fail
   try rw[show decide ((n:Int)<3)=false from decide_eq_false (by omega)]
   refine E0.out.mono ?_;rintro e w1 ⟨rfl,l1⟩;exact⟨rfl,Zp.bad HR.out (by decide) rfl (HA.out.gone l1)⟩
  have b3:(n:Int)<3:=(by omega);have HO:=Zz ho;clear E0 ho
  go_wp2_with fail
  try rw[show decide ((n:Int)<3)=true from decide_eq_true (by omega)]
  refine B0.out.mono ?_;rintro e w1 ⟨rfl,Y0⟩;rw[Y0];clear Y0 w1 B0
  go_wp2_with fail
  refine h0.out.mono ?_;rintro e w1 (⟨Z0,rfl,m1⟩|⟨Z0,rfl,W3,a0,G0,H0,a1,nn,xs,v',I0,G⟩)
  ·have HR:res=(5,r):=by rw[A0.out];exact if_pos (.inl Z0)
   exact⟨rfl,Zp.bad HR (by decide) rfl m1⟩
  rw[<-HO.out]at G0 H0;have n0:=zsx (r:={r with stmts:=r.stmts+1}) a0 G I0;have n1:=a0.hba;have b1:=a0.re.to;have c1:R≠Uv Pb m.gs:=by
   cases b0:m.gs with
   |nil=>exact a0.nd.1
   |cons g gs=>
    have hl:=a0.re.fa.len;have k0:=a0.re.fa
    cases e0:r.fr with
    |nil=>rw[show ({r with stmts:=r.stmts+1}:Fl.RS).fr=r.fr from rfl,e0,b0]at hl;simp at hl
    |cons f fs=>
     rw[show ({r with stmts:=r.stmts+1}:Fl.RS).fr=r.fr from rfl,e0,b0]at k0;have:=a0.re.wh g.sb (by rw[k0.1.ts];omega);show R≠g.sb;omega
  have v1:=G.hz;have e43:w1.cell? ⟨R,43,none⟩=some (.slice ao n cap):=(Qc (a:=⟨R,43,none⟩) (n0 R (by omega) c1)).trans (by rw[<-v0.out];exact a0.cR.c 43 (by omega));have efz:∀j,w1.frozen? ⟨R,j,none⟩=false:=λj=>(Qd (a:=⟨R,j,none⟩) (n0 R (by omega) c1)).trans (a0.cR.z j);have o1:R<w1.heap.size:=(by omega);obtain⟨ys,J0⟩:=nmE ((m.gs.map λg=>ptr g.ob).reverse)
  have f0:∀k,(Value.slice ao n cap).ownBlock=some k->base<=k/\k<W3.heap.size/\k≠R/\w1.heap[k]?=W3.heap[k]?:=λk hk=>by
   rw[<-v0.out]at hk;have h2:=b1 k hk;have h1:=a0.re.wh k (by rw[h2];decide);refine⟨h1.1,h1.2,by omega,G.q k h1.2 (λhe=>?_) (λhe=>?_)⟩
   ·cases b0:m.gs with
    |nil=>rw[b0]at he;have:k=Pb:=he;omega
    |cons g gs=>
     have hl:=a0.re.fa.len;have k0:=a0.re.fa
     cases e0:r.fr with
     |nil=>rw[show ({r with stmts:=r.stmts+1}:Fl.RS).fr=r.fr from rfl,e0,b0]at hl;simp at hl
     |cons f fs=>
      rw[show ({r with stmts:=r.stmts+1}:Fl.RS).fr=r.fr from rfl,e0,b0]at k0;rw[b0]at he;have he':k=g.sb:=he;rw[he',k0.1.ts]at h2;omega
   cases b0:m.gs with
   |nil=>
    have hl:=a0.re.fa.len;have e0:r.fr=[]:=Qi (by rw[b0]at hl;simpa using hl.symm);rw[b0,e0]at he;rw[a0.re.tb k he]at h2;omega
   |cons g gs=>
    have hl:=a0.re.fa.len;have k0:=a0.re.fa
    cases e0:r.fr with
    |nil=>rw[show ({r with stmts:=r.stmts+1}:Fl.RS).fr=r.fr from rfl,e0,b0]at hl;simp at hl
    |cons f fs=>
     rw[show ({r with stmts:=r.stmts+1}:Fl.RS).fr=r.fr from rfl,e0,b0]at k0;rw[b0,e0]at he;rw[k0.1.ta k he]at h2;omega
  obtain⟨oo,K0⟩:=nmE (α:=Obj) (.cells #[.pointer (some ⟨W2.heap.size,0,none⟩),.bool false] 288);have L0:(w1.alloc oo).heap.size=w1.heap.size+1:=World.size_alloc _ _;have o0:Hid ((w1.alloc oo).ownsRow base 285 1 (.slice ao n cap) n ys):=by
   have h1:=a0.re.oo;rw[v0.out,<-J0]at h1;rw[show ({r with stmts:=r.stmts+1}:Fl.RS).fr=r.fr from rfl,<-HN.out]at h1;exact Zh h1 (λk hk=>(((Below.refl w1.heap.size w1).alloc (Nat.le_refl _) oo).block k (by have:=f0 k hk;omega)).trans (f0 k hk).2.2.2)
  have p0:Hid (∀(W4:World) (u:Value) (o2:Obj),W4.ownsRow base 285 1 u (n+1) (ys++[ptr w1.heap.size])->((w1.alloc oo).alloc o2).grownBy W4 (Value.slice ao n cap).ownBlock->(u.ownBlock=(Value.slice ao n cap).ownBlock\/u.ownBlock=some ((w1.alloc oo).alloc o2).heap.size)->Zp lo base R Pb lm vm cm w0 line res (.returned (.tuple #[])) (W4.setCell ⟨R,43,none⟩ u)):=λW4 u o2 h1 h2 h3'=>by
   have d1:Jf 285 lo base w0 (w1.alloc oo) (W4.setCell ⟨R,43,none⟩ u) R 43 (.slice ao n cap) u n ys (ptr w1.heap.size):=
    Jf.of (G.bel.alloc (by omega) _) (by omega) (by omega) (by omega) h1 h2 h3' (λk hk=>by have:=f0 k hk;exact⟨this.1,by omega,this.2.2.1⟩) (by omega)
   rw[<-v0.out,HN.out,J0]at d1;obtain⟨m',hm⟩:=Zw.opens (r:=r) a0 O0 (by rw[<-HN.out];omega) (z1:=w.heap.size) (sn:=W2.heap.size) (kind:=kind) (ln:=ln) (vp:=ptr pb) (e:=ex) i1.out (λb hb=>(HH.out.re.wh b hb).2) (by omega) ⟨by omega,by rw[G0,W0.out]⟩ j1.out HH.out.ok.cn a1
    (U0.out.kept (λb hb=>hb) (λb hb=>(H0 b (by have:=hb.1;omega) (by have:=hb.2;omega)).trans (F0.out b hb.2))) I0 G oo
    (by rw[K0];exact Zn.new w1 [.pointer (some ⟨W2.heap.size,0,none⟩),.bool false] _) d1
   exact Zp.good (by rw[A0.out];exact if_neg (by omega)) rfl hm
  have e1:Hid (∀k,(Value.slice ao n cap).ownBlock=some k->base<=k/\k<w1.heap.size/\k≠R):=λk hk=>by have:=f0 k hk;exact⟨this.1,by omega,this.2.2.1⟩
  have t0:∀i u,([.pointer (some ⟨w1.heap.size,0,none⟩)]:List Value)[i]?=some u->((w1.alloc (.cells #[.pointer (some ⟨W2.heap.size,0,none⟩),.bool false] 288)).alloc (.cells #[.pointer (some ⟨w1.heap.size,0,none⟩)] 285)).cell? ((⟨w1.heap.size+1,0,none⟩:Addr).add i)=some u:=by
   have:=(zy0:∀i u,([.pointer (some ⟨w1.heap.size,0,none⟩)]:List Value)[i]?=some u->((w1.alloc (.cells #[.pointer (some ⟨W2.heap.size,0,none⟩),.bool false] 288)).alloc (.cells #[.pointer (some ⟨w1.heap.size,0,none⟩)] 285)).cell? ((⟨(w1.alloc (.cells #[.pointer (some ⟨W2.heap.size,0,none⟩),.bool false] 288)).heap.size,0,none⟩:Addr).add i)=some u);rw[World.size_alloc]at this;exact this
  rw[K0]at o0 p0;obtain⟨i0,p1,q1,r1,s1⟩:=info_parts Tryz.infoPOpened;clear a0 H0 a1 I0 G n0 f0 b1 J0 K0 L0 U0 A0 h0 F0 HA z0 HH G0 HO c43
  go_wp2_with (at_builtin;refine Zk _ rfl (.tmp 28) (.tmp 32) 146 rfl base 285 i0 (.pointer none) 1 8 underlying146 p1 q1 r1 s1 rfl (by decide) _ _ _ rfl (o0.out.alloc _) ⟨_,0,none⟩ 1 1 [.pointer (some ⟨w1.heap.size,0,none⟩)] rfl rfl (by decide) t0 ?c2 ?c3 ?c4 ?c5 ?_)
  case c2=>intro u hu;simp at hu;subst hu;rfl
  case c3=>unfold maxLen;omega
  case c4=>omega
  case c5=>simp;omega
  intro u W4 g0 M0 q0;obtain⟨va,vcap,rfl⟩:=Up g0;have N0:W4.heap[R]?=w1.heap[R]?:=(M0.block R (by simp;omega) (λhh=>(e1.out R hh.symm).2.2 rfl)).trans ((((Below.refl w1.heap.size w1).alloc (Nat.le_refl _) _).alloc (by simp) _).block R o1);have g4:W4.cell? ⟨R,43,none⟩=some (.slice ao n cap):=(Qc (a:=⟨R,43,none⟩) N0).trans e43;have gz:∀j,W4.frozen? ⟨R,j,none⟩=false:=λj=>(Qd (a:=⟨R,j,none⟩) N0).trans (efz j);have HE:Hid (Zp lo base R Pb lm vm cm w0 line res (.returned (.tuple #[])) (W4.setCell ⟨R,43,none⟩ (.slice va (n+1) vcap))):=p0.out W4 _ _ g0 M0 (by simp only[World.size_alloc]at q0⊢;exact q0);clear g0 M0 q0 N0 p0 o0 e1 e43 efz t0;go_wp2
  go_end0
  exact HE.out
end
section
variable{lo base R Pb lm vm cm:Nat}{w0 w:World}{r:Fl.RS}{line:Int}{m:Yk}
def yy7(h:Zw lo base R Pb lm vm cm w0 w r line m)(c0:r.begun=true)(B:Nat)(v:Value)(k a:List UInt8)(ln:Nat)(b0:line=(ln:Int))(hB:B<=w.heap.size)(hw:Zf B w v [a])(hk:(k==Fl.wIf)=true):
  Calls prog 149 #[.pointer (some ⟨R,0,none⟩),v] w (Zp lo base R Pb lm vm cm w0 line (r.stmt ln [k,a])):=by
 have HO:Hid (Calls prog 186 #[.pointer (some ⟨R,0,none⟩),.int .i64 5,v] w (Zp lo base R Pb lm vm cm w0 line (r.stmt ln [k,a]))):=ziy h c0 B v k a ln 5 b0 hB hw (by rw[hk];rfl);obtain⟨res,a0⟩:=nmE (r.stmt ln [k,a]);rw[<-a0]at HO⊢
 obtain⟨ao,n,c,rfl⟩:∃ao n c,v=.slice ao n c:=by obtain⟨ao,c,h1,-⟩:=hw;exact⟨_,_,_,h1⟩
 clear h b0 hB hw hk a0
 go_enter func149,ntmps149
 go_wp2_with fail
 refine HO.out.mono ?_;rintro e W (⟨h1,rfl,hm⟩|⟨h1,rfl,hb⟩)
 ·have HE:Hid (Zp lo base R Pb lm vm cm w0 line res (.returned (.tuple #[])) W):=.inl ⟨h1,rfl,hm⟩
  clear h1 hm HO;go_wp2
  go_end0
  exact HE.out
 exact⟨rfl,.inr ⟨h1,rfl,hb⟩⟩
def zg5(h:Zw lo base R Pb lm vm cm w0 w r line m)(c0:r.begun=true)(B:Nat)(v:Value)(k a:List UInt8)(ln:Nat)(b0:line=(ln:Int))(hB:B<=w.heap.size)(hw:Zf B w v [a])(hk:(k==Fl.wIf)=false):
  Calls prog 151 #[.pointer (some ⟨R,0,none⟩),v] w (Zp lo base R Pb lm vm cm w0 line (r.stmt ln [k,a])):=by
 have HO:Hid (Calls prog 186 #[.pointer (some ⟨R,0,none⟩),.int .i64 6,v] w (Zp lo base R Pb lm vm cm w0 line (r.stmt ln [k,a]))):=ziy h c0 B v k a ln 6 b0 hB hw (by rw[hk];rfl);obtain⟨res,a0⟩:=nmE (r.stmt ln [k,a]);rw[<-a0]at HO⊢
 obtain⟨ao,n,c,rfl⟩:∃ao n c,v=.slice ao n c:=by obtain⟨ao,c,h1,-⟩:=hw;exact⟨_,_,_,h1⟩
 clear h b0 hB hw hk a0
 go_enter func151,ntmps151
 go_wp2_with fail
 refine HO.out.mono ?_;rintro e W (⟨h1,rfl,hm⟩|⟨h1,rfl,hb⟩)
 ·have HE:Hid (Zp lo base R Pb lm vm cm w0 line res (.returned (.tuple #[])) W):=.inl ⟨h1,rfl,hm⟩
  clear h1 hm HO;go_wp2
  go_end0
  exact HE.out
 exact⟨rfl,.inr ⟨h1,rfl,hb⟩⟩
def Yh(r:Fl.RS)(ws:List (List UInt8))(ln:Nat):Nat×Fl.RS:=if Fl.line ws=true then r.row ws ln else(2,r)
def zix(ws:List (List UInt8))(k:Nat)(hk:k<12)(hr:Fl.isRule ws k=true):Fl.isHead (ws.getD 0 [])=(Fl.rule k).2.2:=by
 unfold Fl.isRule at hr;simp only[Bool.and_eq_true,beq_iff_eq]at hr;rw[hr.1];rcases(show k=0\/k=1\/k=2\/k=3\/k=4\/k=5\/k=6\/k=7\/k=8\/k=9\/k=10\/k=11 by omega) with rfl|rfl|rfl|rfl|rfl|rfl|rfl|rfl|rfl|rfl|rfl|rfl<;>rfl
def yu9(r:Fl.RS)(ws:List (List UInt8))(ln k:Nat)(a0:ws≠[])(hk:k<12)(hr:Fl.isRule ws k=true)(hb:(Fl.rule k).2.2≠r.begun):Yh r ws ln=if(Fl.rule k).2.2=true then r.head ws else r.stmt ln ws:=by
 unfold Yh Fl.RS.row;rw[if_pos ((Fl.line_rule ws a0).2 ⟨k,hk,hr⟩),zix ws k hk hr,if_neg hb]
def yy8(ws:List (List UInt8))(k:Nat)(a0:ws≠[])(hr:Fl.isRule ws k=true):∃xs,ws=(Fl.rule k).1::xs/\ws.drop 1=xs/\Fl.fitAll (Fl.rule k).2.1 xs=true:=by
 match ws,a0 with
 |x::xs,_=>
  unfold Fl.isRule at hr;simp only[Bool.and_eq_true,beq_iff_eq]at hr;exact⟨xs,by rw[<-hr.1];rfl,rfl,hr.2⟩
def row_any(h:Zw lo base R Pb lm vm cm w0 w r line m)(T b off n cap ln:Nat)(ws:List (List UInt8))(hT:w.heap[T]?=some (.cells Xp 252 (0,0)))(i0:Zf w.heap.size w (.slice (some ⟨b,off,none⟩) n cap) ws)(f0:ws≠[])(g0:line=(ln:Int))(hb:base<=b/\m.who b=5):
  Calls prog 105 #[.pointer (some ⟨R,0,none⟩),.slice (some ⟨T,0,none⟩) 12 12,.slice (some ⟨b,off,none⟩) n cap] w (Zp lo base R Pb lm vm cm w0 line (Yh r ws ln)):=by
 have hba:=h.hba;have hlo:=h.hlo;refine(zcv R T b off n cap ws line r.begun w (λW'=>(Yh r ws ln).1=0/\∃m',Zw lo base R Pb lm vm cm w0 W' (Yh r ws ln).2 line m') (λn p W'=>p=line/\n=((Yh r ws ln).1:Int)/\(Yh r ws ln).1≠0/\zyw lo base R Pb lm vm cm w0 W') hT i0 f0 (h.cR.c 1 (by omega)) (h.cR.c 2 (by omega)) ?_ ?_ ?_).mono ?_
 ·intro hno W hW
  have hl:¬Fl.line ws=true:=λhl=>by
   obtain⟨k,hk,hr⟩:=(Fl.line_rule ws f0).1 hl
   rw[hno k hk]at hr;cases hr
  have:Yh r ws ln=(2,r):=if_neg hl;rw[this];exact⟨rfl,rfl,Nat.succ_ne_zero _,h.gone hW⟩
 ·intro k hk hr b0 W hW
  have:Yh r ws ln=(3,r):=by
   unfold Yh Fl.RS.row;rw[if_pos ((Fl.line_rule ws f0).2 ⟨k,hk,hr⟩),zix ws k hk hr,if_pos b0]
  rw[this];exact⟨rfl,rfl,Nat.succ_ne_zero _,h.gone hW⟩
 ·intro k hk hr b0 W v hW hv j0
  have hP:=h.below hW;have d0:=hW.size;have hO:=yu9 r ws ln k f0 hk hr b0;obtain⟨xs,hx,k0,a0⟩:=yy8 ws k f0 hr;rw[k0]at hv
  have c0:∀b',v.ownBlock=some b'->base<=b'/\m.who b'=5:=λb' h'=>by rw[j0]at h';simp only[Option.some.injEq]at h';subst h';exact hb
  have hM:∀(F:Nat),Calls prog F #[.pointer (some ⟨R,0,none⟩),v] W (Zp lo base R Pb lm vm cm w0 line (Yh r ws ln))->Calls prog F #[.pointer (some ⟨R,0,none⟩),v] W λe W'=>(e=.returned (.tuple #[])/\(Yh r ws ln).1=0/\∃m',Zw lo base R Pb lm vm cm w0 W' (Yh r ws ln).2 line m')\/∃n p,e=.panicked (Zq n p)/\p=line/\n=((Yh r ws ln).1:Int)/\(Yh r ws ln).1≠0/\zyw lo base R Pb lm vm cm w0 W':=λF hF=>hF.mono (by
   rintro e W' (⟨h1,h2,h3⟩|⟨h1,h2,h3⟩)
   ·exact .inl ⟨h2,h1,h3⟩
   exact .inr ⟨_,_,h2,rfl,rfl,h1,h3⟩)
  have h0:(Fl.rule k).2.2=true->r.begun=false:=λht=>by rw[ht]at b0;cases l0:r.begun<;>simp_all
  have e0:(Fl.rule k).2.2=false->r.begun=true:=λht=>by rw[ht]at b0;cases l0:r.begun<;>simp_all
  refine hM _ ?_;rw[hO];clear hM hO b0;rcases(show k=0\/k=1\/k=2\/k=3\/k=4\/k=5\/k=6\/k=7\/k=8\/k=9\/k=10\/k=11 by omega) with rfl|rfl|rfl|rfl|rfl|rfl|rfl|rfl|rfl|rfl|rfl|rfl
  ·match xs,Fl.fitAll_len _ _ a0 with
   |[x],_=>rw[hx];exact yu2 hP (h0 rfl) w.heap.size v Fl.wLevel x d0 hv (λb' h'=>(c0 b' h').1)
  ·match xs,Fl.fitAll_len _ _ a0 with
   |[x,y],_=>rw[hx];exact yzv hP (h0 rfl) w.heap.size v x y d0 hv (λb' h'=>(c0 b' h').1)
  ·match xs,Fl.fitAll_len _ _ a0 with
   |[x,y],_=>rw[hx];exact yr5 hP (h0 rfl) w.heap.size v x y d0 hv c0
  ·match xs,Fl.fitAll_len _ _ a0 with
   |[x,y],_=>rw[hx];exact zb5 hP (h0 rfl) w.heap.size v x y d0 hv c0
  ·match xs,Fl.fitAll_len _ _ a0 with
   |[],_=>rw[hx];exact yu7 hP (h0 rfl) v Fl.wBegin (by obtain⟨ao,c,h1,-⟩:=hv;exact⟨_,_,_,h1⟩)
  ·match xs,Fl.fitAll_len _ _ a0 with
   |[x,y],_=>rw[hx];exact zaz hP (e0 rfl) w.heap.size v Fl.wSet x [y] ln g0 d0 hv c0 (by decide) (.inl (by have:=a0;simp only[Fl.rule,Fl.ruleL,List.getD_cons_succ,List.getD_cons_zero,Fl.fitAll,Bool.and_eq_true]at this;simp only[Fl.fitAll,Bool.and_eq_true];exact this.2))
  ·match xs,Fl.fitAll_len _ _ a0 with
   |[x,y,z,t],_=>rw[hx];exact zaz hP (e0 rfl) w.heap.size v Fl.wSet x [y,z,t] ln g0 d0 hv c0 (by decide) (.inr (by have:=a0;simp only[Fl.rule,Fl.ruleL,List.getD_cons_succ,List.getD_cons_zero,Fl.fitAll,Bool.and_eq_true]at this;simp only[Fl.fitAll,Bool.and_eq_true];exact this.2))
  ·match xs,Fl.fitAll_len _ _ a0 with
   |[x,y],_=>rw[hx];exact out_any hP (e0 rfl) w.heap.size v Fl.wOut x [y] ln g0 d0 hv (by decide) (.inl (by have:=a0;simp only[Fl.rule,Fl.ruleL,List.getD_cons_succ,List.getD_cons_zero,Fl.fitAll,Bool.and_eq_true]at this;simp only[Fl.fitAll,Bool.and_eq_true];exact this.2))
  ·match xs,Fl.fitAll_len _ _ a0 with
   |[x],_=>rw[hx];exact yy7 hP (e0 rfl) w.heap.size v Fl.wIf x ln g0 d0 hv (by decide)
  ·match xs,Fl.fitAll_len _ _ a0 with
   |[],_=>rw[hx];exact zd3 hP (e0 rfl) v Fl.wElse ln (by decide)
  ·match xs,Fl.fitAll_len _ _ a0 with
   |[x],_=>rw[hx];exact zg5 hP (e0 rfl) w.heap.size v Fl.wWhile x ln g0 d0 hv (by decide)
  match xs,Fl.fitAll_len _ _ a0 with
  |[],_=>rw[hx];exact end_any hP (e0 rfl) v Fl.wEnd ln (by decide)
 rintro e W' (⟨rfl,h1,h2⟩|⟨n',p,rfl,rfl,rfl,h1,h2⟩)
 ·exact .inl ⟨h1,rfl,h2⟩
 exact .inr ⟨h1,rfl,h2⟩
end
section
variable{lo base R Pb lm vm cm:Nat}{w0 w:World}{r:Fl.RS}{line:Int}{m:Yk}
def Zw.setLine(h:Zw lo base R Pb lm vm cm w0 w r line m)(l':Int):Zw lo base R Pb lm vm cm w0 (w.setCell ⟨R,1,none⟩ (.int .i64 l')) r l' m:=by
 obtain⟨b1,b2,b3,b4,b5,b6⟩:=h.hba;obtain⟨l1,l2,l3,l4,l5⟩:=h.hlo;obtain⟨n1,n2,n3,n4,n5,n6,n7,n8,n9,n10⟩:=h.nd;have hz:(w.setCell ⟨R,1,none⟩ (.int .i64 l')).heap.size=w.heap.size:=Zu _ _ _;have q:∀k,k≠R->(w.setCell ⟨R,1,none⟩ (.int .i64 l')).heap[k]?=w.heap[k]?:=λk hk=>Zx _ _ _ _ _ hk
 exact{
     ok:=h.ok,bel:=h.bel.setCell (by show lo<=R;omega) _,fx:=λb f1 f2 f3 f4 f5 f6=>(q b f2).trans (h.fx b f1 f2 f3 f4 f5 f6),hlo:=h.hlo,hba:=⟨b1,b2,b3,b4,b5,by omega⟩,nd:=h.nd,cR:=(h.cR.set (j:=1) (by omega) (.int .i64 l')).congr (λj hj=>by
      by_cases h4:j=1
      ·subst h4;rfl
      rw[if_neg h4];unfold Xv
      by_cases h0:j=0
      ·subst h0;rfl
      rw[if_neg h0,if_neg h0,if_neg h4,if_neg h4]),cP:=h.cP.block (q _ (Ne.symm n1)),nl:=h.nl.block (q _ (Ne.symm n2)),nv:=h.nv.block (q _ (Ne.symm n3)),nc:=h.nc.block (q _ (Ne.symm n4)),tab:=h.tab,re:=h.re.kept (by omega) (λk hk=>q k (by have:=h.re.wh k hk;omega))}
def yuz(h:Zw lo base R Pb lm vm cm w0 w r line m)(B1 B2 T b n ln:Nat)(ws:List (List UInt8))(e0:w.cell? ⟨B1,0,none⟩=some (.pointer (some ⟨R,0,none⟩)))(f0:w.cell? ⟨B2,0,none⟩=some (.slice (some ⟨T,0,none⟩) 12 12))(hT:w.heap[T]?=some (.cells Xp 252 (0,0)))(hd:B1≠R/\B2≠R/\T≠R)
  (c0:Zf w.heap.size w (.slice (some ⟨b,0,none⟩) n n) ws) (d0:ws≠[]) (hb:base<=b/\m.who b=5):
  Calls prog 104 #[.int .i64 ln,.slice (some ⟨b,0,none⟩) n n,.pointer (some ⟨B1,0,none⟩),.pointer (some ⟨B2,0,none⟩)] w (Zp lo base R Pb lm vm cm w0 ln (Yh r ws ln)):=by
 have hba:=h.hba;obtain⟨d1,d2,d3⟩:=hd;have hz:(w.setCell ⟨R,1,none⟩ (.int .i64 ln)).heap.size=w.heap.size:=Zu _ _ _;have q:∀k,k≠R->(w.setCell ⟨R,1,none⟩ (.int .i64 ln)).heap[k]?=w.heap[k]?:=λk hk=>Zx _ _ _ _ _ hk;have H1:=h.setLine (ln:Int);have a0:Zf (w.setCell ⟨R,1,none⟩ (.int .i64 ln)).heap.size (w.setCell ⟨R,1,none⟩ (.int .i64 ln)) (.slice (some ⟨b,0,none⟩) n n) ws:=by
  obtain⟨ao,c,h1,h2,h3,h4,h5,h6⟩:=c0;refine⟨ao,c,h1,h2,h3,h4,h5,λhn=>?_⟩;obtain⟨b',off,e,hb',hc⟩:=h6 hn;refine⟨b',off,e,by rw[hz];exact hb',λi hi=>?_⟩;have he:b'=b:=(by rw[e]at h1;simp only[Value.slice.injEq,Option.some.injEq,Addr.mk.injEq]at h1;exact h1.1.1.symm);exact(Qc (a:=⟨b',off+i,none⟩) (q b' (by omega))).trans (hc i hi)
 have HR:Hid (Calls prog 105 #[.pointer (some ⟨R,0,none⟩),.slice (some ⟨T,0,none⟩) 12 12,.slice (some ⟨b,0,none⟩) n n] (w.setCell ⟨R,1,none⟩ (.int .i64 ln)) (Zp lo base R Pb lm vm cm w0 ln (Yh r ws ln))):=
  row_any H1 T b 0 n n ln ws ((q T d3).trans hT) a0 d0 rfl hb
 obtain⟨res,b0⟩:=nmE (Yh r ws ln);rw[<-b0]at HR⊢;have e1:(w.setCell ⟨R,1,none⟩ (.int .i64 ln)).cell? ⟨B1,0,none⟩=some (.pointer (some ⟨R,0,none⟩)):=(Qc (a:=⟨B1,0,none⟩) (q B1 d1)).trans e0;have e2:(w.setCell ⟨R,1,none⟩ (.int .i64 ln)).cell? ⟨B2,0,none⟩=some (.slice (some ⟨T,0,none⟩) 12 12):=(Qc (a:=⟨B2,0,none⟩) (q B2 d2)).trans f0;have c1:w.cell? ⟨R,1,none⟩=some (.int .i64 line):=h.cR.c 1 (by omega);have zR:=h.cR.z;clear h hz q H1 a0 c0 hT b0 hb d0
 go_enter func104,ntmps104
 go_wp2_with fail
 refine HR.out.mono ?_;rintro e W (⟨h1,rfl,hm⟩|⟨h1,rfl,hb⟩)
 ·have HE:Hid (Zp lo base R Pb lm vm cm w0 ln res (.returned (.tuple #[])) W):=.inl ⟨h1,rfl,hm⟩
  clear h1 hm HR;go_wp2
  go_end0
  exact HE.out
 exact⟨rfl,.inr ⟨h1,rfl,hb⟩⟩
end
end Go.Proofs.YtminjljgedopkaaGreatDoor
namespace Go.Proofs.YtminjljgedopkaaGreatDoor
open Go.Proofs.Tryz
def zd4(c:UInt8)(s:List UInt8):(Fl.cutR c s).length<=s.length+1/\∀x∈Fl.cutR c s,x.length<=s.length:=by
 induction s with
 |nil=>simp[Fl.cutR]
 |cons a r ih=>
  unfold Fl.cutR
  split
  ·refine⟨by simp;omega,λx hx=>?_⟩
   rcases List.mem_cons.1 hx with rfl|hx
   ·simp
   have:=ih.2 x hx;simp;omega
  cases hc:Fl.cutR c r with
  |nil=>exact absurd hc (Fl.cutR_ne c r)
  |cons y t=>
   rw[hc]at ih;simp only[Fl.onHead,List.length_cons]at ih⊢;refine⟨by omega,λx hx=>?_⟩;rcases List.mem_cons.1 hx with rfl|hx
   ·have:=ih.2 y (by simp);simp;omega
   have:=ih.2 x (by simp[hx]);omega
open Go.RowKit
def Yx(w:World):Prop:=∃m,w.cell? ⟨2,0,none⟩=some (.int .i64 m)
def Yx.below{B:Nat}{w w':World}(h:Yx w)(hB:w.heap.size<=B)(hb:Below B w w'):Yx w':=by
 obtain⟨m,h⟩:=h;have hl:=Qe w _ h;exact⟨m,(hb.cell (p:=⟨2,0,none⟩) (by omega)).trans h⟩
def yr7(l:List UInt8)(w:World)(hl:l.length<=100000)(h:Yx w):Calls prog 99 #[.string ⟨l.toArray⟩,.string ⟨#[10]⟩] w λe w'=>e=.returned (.tuple #[.string ⟨(Lib.cut l [10]).1.toArray⟩,.string ⟨(Lib.cut l [10]).2.1.toArray⟩,.bool (Lib.cut l [10]).2.2])/\Below w.heap.size w w':=by
 obtain⟨m,h⟩:=h;refine(Tryz.strings_Cut ⟨l.toArray⟩ ⟨#[10]⟩ m w (by show l.toArray.size<_;simp;omega) h).mono ?_;rintro e w' ⟨rfl,n,rfl⟩;exact⟨rfl,below_drewN (Below.refl _ _) n⟩
def yr8(l:List ByteArray):l.map Value.string=(l.map (·.data.toList)).map strV:=by
 rw[List.map_map];refine List.map_congr_left (λb _=>?_);show Value.string b=Value.string ⟨b.data.toList.toArray⟩;simp
def yy9(l:List UInt8)(w:World)(hl:l.length<=40000)(h:Yx w):Calls prog 100 #[.string ⟨l.toArray⟩,.string ⟨#[32]⟩] w λe w'=>e=.returned (.slice (some ⟨w.heap.size,0,none⟩) (Fl.cutR 32 l).length (Fl.cutR 32 l).length)/\Zf w'.heap.size w' (.slice (some ⟨w.heap.size,0,none⟩) (Fl.cutR 32 l).length (Fl.cutR 32 l).length) (Fl.cutR 32 l)/\Below w.heap.size w w':=by
 obtain⟨m,h⟩:=h;refine(Tryz.strings_Split ⟨l.toArray⟩ ⟨#[32]⟩ m w (by show l.toArray.size<_;simp;omega) h (by decide)).mono ?_;have hd:(Lib.splitB ⟨#[32]⟩ 0 (Lib.countB ⟨l.toArray⟩ ⟨#[32]⟩) ⟨l.toArray⟩).map (·.data.toList)=Fl.cutR 32 l:=by
  rw[Lib.splitB_data,<-Fl.split_cutR];rfl
 have hn:Lib.countB ⟨l.toArray⟩ ⟨#[32]⟩+1=(Fl.cutR 32 l).length:=by
  rw[<-hd,List.length_map,Lib.splitB_all ⟨#[32]⟩ (by decide) 0 _ _ rfl]
 obtain⟨b0,a0⟩:=zd4 32 l;rintro e w' ⟨rfl,rfl⟩;rw[yr8,hd,hn];refine⟨rfl,⟨_,_,rfl,Nat.le_refl _,by unfold maxLen;omega,by omega,λx hx=>by have:=a0 x hx;omega,λ_=>⟨_,0,rfl,by simp,λi hi=>?_⟩⟩,bA⟩;rw[Nat.zero_add,World.cell?_alloc_new];simp[Qa,hi]
def zn4(St:Nat->List UInt8->World->Prop)(Rp:Int->Int->World->Prop)(e:Ending)(w':World):Prop:=
 (∃i:Nat,e=.returned (.int .i64 i)/\0<i/\St i [] w')\/∃n p,e=.panicked (Zq n p)/\Rp n p w'
def yuy(f:FuncId)(cap:Array Value)(l:List UInt8)(w:World)(St:Nat->List UInt8->World->Prop)(Rp:Int->Int->World->Prop)
  (A0:∀args W,(callFunc f args).run prog W=.ok (.enter f args) W)
  (hb:∀i s W W',St i s W->Below W.heap.size W W'->St i s W')
  (hm:∀i s W,St i s W->Yx W)
  (hs:∀i s W,St i s W->s.length+i<=40000)
  (hr:∀i s W,St i s W->(i=0\/s≠[])->(Lib.cut s [10]).2.2=false->Rp 2 ((i:Int)+1) W)
  (hd:∀i s W0 W b n,St i s W0->Below W0.heap.size W0 W->W0.heap.size<=b->b<W.heap.size->(i=0\/s≠[])->(Lib.cut s [10]).2.2=true->n=(Fl.cutR 32 (Lib.cut s [10]).1).length->Zf W.heap.size W (.slice (some ⟨b,0,none⟩) n n) (Fl.cutR 32 (Lib.cut s [10]).1)->
   Calls prog f (#[.int .i64 ((i:Int)+1),.slice (some ⟨b,0,none⟩) n n]++cap) W λe W'=>(e=.returned (.tuple #[])/\St (i+1) (Lib.cut s [10]).2.1 W')\/∃n p,e=.panicked (Zq n p)/\Rp n p W')
  (h0:St 0 l w):
  Calls prog 55 #[.string ⟨l.toArray⟩,.func (.func f) #[] cap] w (zn4 St Rp):=by
 have HB:=Zz hb;have HM:=Zz hm;have HS:=Zz hs;have r0:=Zz hr;have HD:=Zz hd;have H0:=Zz h0;clear hb hm hs hr hd h0
 go_enter func55,ntmps55
 go_wp2
 go_loopw [0,5] (λs i wr=>∃(k:Nat) (t:List UInt8),s=.string ⟨t.toArray⟩/\i=.int .i64 k/\St k t wr) (λs i _=>match s with| .string b=>b.size|_=>0)
 case atStart=>exact⟨0,l,rfl,rfl,H0.out⟩
 case round=>
  obtain⟨k,t,rfl,rfl,hst⟩:=hrel;have g0:=Zz hst;have hsz:=HS.out k t wr hst;clear hst
  by_cases d0:k=0\/t≠[]
  ·have b0:((k:Int)==0)=true\/((k:Int)==0)=false/\t.isEmpty=false:=by
    rcases d0 with h|h
    ·left;simp[h]
    by_cases hk:k=0
    ·left;simp[hk]
    right;exact⟨by simp;omega,by simpa using h⟩
   have n0:=Zz d0;clear d0;have hcut:=yr7 t wr (by omega) (HM.out _ _ _ g0.out);obtain⟨a,r,en,i0⟩:∃a r en,Lib.cut t [10]=(a,r,en):=⟨_,_,_,rfl⟩;rw[i0]at hcut;have j0:=Zz hcut;have c0:=Zz i0;clear hcut i0;rcases b0 with b0|⟨b0,b1⟩
   all_goals
    go_wp2_with fail
    refine j0.out.mono ?_;rintro e w1 ⟨rfl,o0⟩;have a0:Hid (St k t w1):=HB.out _ _ _ _ g0.out o0;clear o0
    cases en with
    |false=>
     go_wp2_with fail
     refine(zvy 2 ((k:Int)+1) w1).mono ?_;rintro e w2 ⟨rfl,e0⟩;exact⟨rfl,.inr ⟨_,_,rfl,r0.out k t w2 (HB.out _ _ _ _ a0.out e0) n0.out (by rw[c0.out])⟩⟩
    |true=>
     have f0:=Fl.cut_found 10 t (by rw[c0.out]);rw[c0.out]at f0;have s0:r.length<t.length:=f0.2;have t0:a.length<=40000:=by
      have:=(zd4 10 t).2 a (by rw[f0.1];exact List.mem_cons_self);omega
     clear f0;obtain⟨nw,k0⟩:=nmE ((Fl.cutR 32 a).length);have u0:Hid (Calls prog 100 #[.string ⟨a.toArray⟩,.string ⟨#[32]⟩] w1 λe w'=>e=.returned (.slice (some ⟨w1.heap.size,0,none⟩) nw nw)/\Zf w'.heap.size w' (.slice (some ⟨w1.heap.size,0,none⟩) nw nw) (Fl.cutR 32 a)/\Below w1.heap.size w1 w'):=by
      show Calls _ _ _ _ _;rw[k0];exact yy9 a w1 t0 (HM.out _ _ _ a0.out)
     have v0:=Zz k0;clear k0
     go_wp2_with fail
     refine u0.out.mono ?_;rintro e w2 ⟨rfl,l0,e0⟩;have x0:Hid (St k t w2):=HB.out _ _ _ _ a0.out e0;have p0:w1.heap.size<w2.heap.size:=by
      obtain⟨ao,c,h1,h2,h3,h4,h5,h6⟩:=id l0;obtain⟨b,off,e,hb,hc⟩:=h6 (Fl.cutR_ne 32 a);rw[e]at h1;simp only[Value.slice.injEq,Option.some.injEq,Addr.mk.injEq]at h1;rw[h1.1.1];exact hb
     have m0:=HD.out k t w1 w2 w1.heap.size nw a0.out e0 (Nat.le_refl _) p0 n0.out (by rw[c0.out]) (by rw[c0.out];exact v0.out) (by rw[c0.out];exact l0);rw[c0.out]at m0;have y0:=Zz m0;clear l0 e0 m0 p0
     go_wp2_with fail
     refine y0.out.mono ?_;rintro e w3 (⟨rfl,q0⟩|⟨n,p,rfl,hp⟩)
     ·have z0:=Zz q0
      clear q0;go_wp2
      go_roundw
      case rel=>exact⟨k+1,r,rfl,by go_num,z0.out⟩
      case measure=>exact s0
     exact⟨rfl,.inr ⟨_,_,rfl,hp⟩⟩
  have hk:k≠0:=λh=>d0 (.inl h);have ht:t=[]:=Classical.byContradiction λh=>d0 (.inr h);subst ht;have b0:((k:Int)==0)=false:=(by simp;omega);have HK:Hid (0<k):=(by show 0<k;omega);clear d0 hk;go_wp2;go_ret;exact .inl ⟨k,rfl,HK.out,g0.out⟩
end Go.Proofs.YtminjljgedopkaaGreatDoor
namespace Go.Proofs.YtminjljgedopkaaGreatDoor
open Go.Proofs.Tryz
def yr9(r:Fl.RS)(i:Nat)(l m:List UInt8)(ls:List (List UInt8)):Fl.rows r i (l::m::ls)=if(Yh r (Fl.cutR 32 l) (i+1)).1≠0 then((Yh r (Fl.cutR 32 l) (i+1)).1,i+1,r) else Fl.rows (Yh r (Fl.cutR 32 l) (i+1)).2 (i+1) (m::ls):=by
 rw[Fl.rows];unfold Yh
 by_cases h:Fl.line (Fl.cutR 32 l)=true
 ·rw[if_neg (by rw[h];decide),if_pos h]
 rw[if_pos (by simpa using h),if_neg h];rfl
def yyz(r:Fl.RS)(i:Nat)(s:List UInt8)(h:(Lib.cut s [10]).2.2=true):Fl.rows r i (Fl.cutR 10 s)=if(Yh r (Fl.cutR 32 (Lib.cut s [10]).1) (i+1)).1≠0 then((Yh r (Fl.cutR 32 (Lib.cut s [10]).1) (i+1)).1,i+1,r) else Fl.rows (Yh r (Fl.cutR 32 (Lib.cut s [10]).1) (i+1)).2 (i+1) (Fl.cutR 10 (Lib.cut s [10]).2.1):=by
 rw[(Fl.cut_found 10 s h).1]
 cases hc:Fl.cutR 10 (Lib.cut s [10]).2.1 with
 |nil=>exact absurd hc (Fl.cutR_ne _ _)
 |cons m ls=>exact yr9 r i _ m ls
def zb7(r:Fl.RS)(i:Nat)(s:List UInt8)(h:(Lib.cut s [10]).2.2=false)(hs:i=0\/s≠[]):Fl.rows r i (Fl.cutR 10 s)=(2,i+1,r):=by
 rw[(Fl.cut_missed 10 s h).1,Fl.rows]
 exact if_neg (λhh=>by
   rcases hs with hs|hs
   ·omega
   exact hs hh.1)
def yrz(r:Fl.RS)(i:Nat)(h:0<i):Fl.rows r i (Fl.cutR 10 [])=if r.begun=true/\r.fr=[] then(0,0,r) else(3,i+1,r):=by
 show Fl.rows r i [[]]=_;rw[Fl.rows];exact if_pos ⟨rfl,h⟩
open Go.RowKit
def mem0:Yk:=⟨λ_=>5,.pointer none,.slice none 0 0,.slice none 0 0,.slice none 0 0,.slice none 0 0,[],λ_ _=>false⟩
def rsOk0:RsOk Fl.RS.zero:=
 {cn:=⟨by decide,trivial⟩,lv:=by decide,ce:=by decide,ch:=by decide,lo:=by decide,st:=by decide,fr:=by decide,cl:=rfl,hl:=rfl,pairs:=rfl,below:=λp hp=>(by cases hp),clv:=λx hx=>(by cases hx),chv:=λx hx=>(by cases hx),kinds:=λf hf=>(by cases hf),head:=λ_=>⟨rfl,rfl,rfl,rfl⟩,lat:=λh=>(by cases h)}
def Zw.zero{lo R Pb lm vm cm:Nat}{W:World}(hlo:lo<=R/\lo<=Pb/\lo<=lm/\lo<=vm/\lo<=cm)(hz:R<W.heap.size/\Pb<W.heap.size/\lm<W.heap.size/\vm<W.heap.size/\cm<W.heap.size)
  (nd:R≠Pb/\R≠lm/\R≠vm/\R≠cm/\Pb≠lm/\Pb≠vm/\Pb≠cm/\lm≠vm/\lm≠cm/\vm≠cm) (line:Int) (hR:Zn W R 45 (Xv Pb lm vm cm line Fl.RS.zero mem0)) (hP:Zn W Pb 5 (rw_ [.pointer none,.slice none 0 0,.slice none 0 0,.int .i64 0,.slice none 0 0]))
  (nl:Zl W lm []) (nv:Zl W vm []) (nc:Zl W cm []):Zw lo W.heap.size R Pb lm vm cm W W Fl.RS.zero line mem0:=
 {ok:=rsOk0,bel:=Below.refl _ _,fx:=λ_ _ _ _ _ _ _=>rfl,hlo:=hlo,hba:=⟨hz.1,hz.2.1,hz.2.2.1,hz.2.2.2.1,hz.2.2.2.2,Nat.le_refl _⟩,nd:=nd,cR:=hR,cP:=hP,nl:=nl,nv:=nv,nc:=nc,tab:=λi j hi hj=>(by show false=_;simp[Fl.RS.zero]),re:={wh:=λb h=>absurd rfl h,oc:=zsw _ _,tc:=λb h=>(by cases h),oh:=zsw _ _,th:=λb h=>(by cases h),pb:=Zd.none _ _ _,tb:=λb h=>(by cases h),fa:=trivial,oo:=zsw _ _,to:=λb h=>(by cases h),la:=λh=>(by cases h)}}
def TxSt(lo base R Pb lm vm cm:Nat)(W0:World)(l:List UInt8)(i:Nat)(s:List UInt8)(W:World):Prop:=
 s.length+i<=40000/\∃r line m,Zw lo base R Pb lm vm cm W0 W r line m/\Fl.rows Fl.RS.zero 0 (Fl.cutR 10 l)=Fl.rows r i (Fl.cutR 10 s)
def zpv(lo base R Pb lm vm cm:Nat)(W0:World)(l:List UInt8)(n p:Int)(W:World):Prop:=
 zyw lo base R Pb lm vm cm W0 W/\n=((Fl.rows Fl.RS.zero 0 (Fl.cutR 10 l)).1:Int)/\p=((Fl.rows Fl.RS.zero 0 (Fl.cutR 10 l)).2.1:Int)/\(Fl.rows Fl.RS.zero 0 (Fl.cutR 10 l)).1≠0
def yyy{lo base R Pb lm vm cm:Nat}{W0 W:World}{line:Int}{m:Yk}(h:Zw lo base R Pb lm vm cm W0 W Fl.RS.zero line m)(l:List UInt8)(hl:l.length<=1200)(B1 B2 T:Nat)(hg:2<lo)(hm:Yx W0)
  (b0:∀args W,(callFunc 104 args).run prog W=.ok (.enter 104 args) W)
  (d1:B1<base/\B1≠R/\B1≠Pb/\B1≠lm/\B1≠vm/\B1≠cm) (d2:B2<base/\B2≠R/\B2≠Pb/\B2≠lm/\B2≠vm/\B2≠cm) (d3:T<base/\T≠R/\T≠Pb/\T≠lm/\T≠vm/\T≠cm)
  (c0:W0.cell? ⟨B1,0,none⟩=some (.pointer (some ⟨R,0,none⟩))) (d0:W0.cell? ⟨B2,0,none⟩=some (.slice (some ⟨T,0,none⟩) 12 12)) (hT:W0.heap[T]?=some (.cells Xp 252 (0,0))):
  Calls prog 55 #[.string ⟨l.toArray⟩,.func (.func 104) #[] #[.pointer (some ⟨B1,0,none⟩),.pointer (some ⟨B2,0,none⟩)]] W (zn4 (TxSt lo base R Pb lm vm cm W0 l) (zpv lo base R Pb lm vm cm W0 l)):=by
 refine yuy 104 _ l W (TxSt lo base R Pb lm vm cm W0 l) (zpv lo base R Pb lm vm cm W0 l) b0 ?_ ?_ ?_ ?_ ?_ ⟨by omega,Fl.RS.zero,line,m,h,rfl⟩
 ·rintro i s W1 W2 ⟨h1,r,ln,m,h2,h3⟩ hb
  exact⟨h1,r,ln,m,h2.below hb,h3⟩
 ·rintro i s W1 ⟨h1,r,ln,m,h2,h3⟩
  obtain⟨x,hx⟩:=hm;exact⟨x,(h2.bel.cell (p:=⟨2,0,none⟩) hg).trans hx⟩
 ·rintro i s W1 ⟨h1,-⟩;exact h1
 ·rintro i s W1 ⟨h1,r,ln,m,h2,h3⟩ hs hc
  unfold zpv;rw[h3,zb7 r i s hc hs];exact⟨⟨h2.bel,h2.fx⟩,rfl,by simp,Nat.succ_ne_zero _⟩
 rintro i s W1 W2 b n ⟨h1,r,ln,m,h2,h3⟩ hb i0 j0 hs hc hn e0;have hP:=h2.below hb;have hba:=h2.hba;have e1:W2.cell? ⟨B1,0,none⟩=some (.pointer (some ⟨R,0,none⟩)):=(Qc (a:=⟨B1,0,none⟩) (hP.fx B1 d1.1 d1.2.1 d1.2.2.1 d1.2.2.2.1 d1.2.2.2.2.1 d1.2.2.2.2.2)).trans c0;have e2:W2.cell? ⟨B2,0,none⟩=some (.slice (some ⟨T,0,none⟩) 12 12):=(Qc (a:=⟨B2,0,none⟩) (hP.fx B2 d2.1 d2.2.1 d2.2.2.1 d2.2.2.2.1 d2.2.2.2.2.1 d2.2.2.2.2.2)).trans d0;have e3:W2.heap[T]?=some (.cells Xp 252 (0,0)):=(hP.fx T d3.1 d3.2.1 d3.2.2.1 d3.2.2.2.1 d3.2.2.2.2.1 d3.2.2.2.2.2).trans hT
 have f0:m.who b=5:=Classical.byContradiction λg0=>by have:=(h2.re.wh b g0).2;omega
 have h0:=yuz hP B1 B2 T b n (i+1) _ e1 e2 e3 ⟨d1.2.1,d2.2.1,d3.2.1⟩ e0 (Fl.cutR_ne 32 _) ⟨by omega,f0⟩;have a0:=yyz r i s hc;have hlen:=(Fl.cut_found 10 s hc).2;refine Calls.mono h0 ?_;rintro e W3 (⟨g1,rfl,m',g2⟩|⟨g1,rfl,g2⟩)
 ·refine .inl ⟨rfl,by omega,_,_,m',g2,?_⟩
  rw[h3,a0,if_neg (by simpa using g1)]
 refine .inr ⟨_,_,rfl,?_⟩;unfold zpv;rw[h3,a0,if_pos g1];exact⟨g2,rfl,rfl,g1⟩
def yux(R:Nat)(l:List UInt8)(hl:1200<l.length)(c0:l.length<=100000)(w:World):
  Calls prog 61 #[.pointer (some ⟨R,0,none⟩),.string ⟨l.toArray⟩] w λe w'=>e=.panicked (Zq 1 0)/\Below w.heap.size w w':=by
 have b1:(1200:Int)<(l.length:Int):=by omega
 have a0:Hid (∀W,Calls prog 59 #[.int .i64 1,.int .i64 0] W λe w'=>e=.panicked (Zq 1 0)/\Below W.heap.size W w'):=zvy 1 0;have hA:∀o,Below w.heap.size w (w.alloc o):=λo=>bA;have HA:=Zz hA;clear hA
 go_enter func61,ntmps61
 go_wp2_with fail
 refine(a0.out _).mono ?_;rintro e w1 ⟨rfl,b0⟩;exact⟨rfl,rfl,(HA.out _).trans (b0.mono (by simp))⟩
def txW(w:World)(R:Nat):World:=((w.alloc (.cells #[.pointer (some ⟨R,0,none⟩)] 139)).alloc (.cells Xp 252)).alloc (.cells #[.slice (some ⟨w.heap.size+1,0,none⟩) 12 12] 213)
def zd5(w:World)(R:Nat):(txW w R).heap.size=w.heap.size+3:=by simp[txW]
def ziw(w:World)(R:Nat):Below w.heap.size w (txW w R):=(((Below.refl _ w).alloc (Nat.le_refl _) _).alloc (by simp) _).alloc (by simp;omega) _
def yyx(w:World)(R:Nat):(txW w R).heap[w.heap.size]?=some (.cells #[.pointer (some ⟨R,0,none⟩)] 139)/\(txW w R).heap[w.heap.size+1]?=some (.cells Xp 252)/\(txW w R).heap[w.heap.size+1+1]?=some (.cells #[.slice (some ⟨w.heap.size+1,0,none⟩) 12 12] 213):=by
 have a:∀(u:World) (o:Obj) (k:Nat),k<u.heap.size->(u.alloc o).heap[k]?=u.heap[k]?:=λu o k hk=>Below.heap_alloc _ _ _ hk
 have l:∀(u:World) (o:Obj) (k:Nat),u.heap.size=k->(u.alloc o).heap[k]?=some o:=λu o k hk=>by subst hk;exact heap_alloc_last u o
 unfold txW;refine⟨?_,?_,?_⟩
 ·rw[a _ _ _ (by simp;omega),a _ _ _ (by simp),l _ _ _ rfl]
 ·rw[a _ _ _ (by simp),l _ _ _ (by simp)]
 rw[l _ _ _ (by simp)]
def zd6(lo base R Pb lm vm cm:Nat)(W0:World)(q:Nat×Nat×Fl.RS)(e:Ending)(w':World):Prop:=
 (q.1=0/\e=.returned (.tuple #[])/\q.2.2.begun=true/\q.2.2.fr=[]/\∃line m,Zw lo base R Pb lm vm cm W0 w' q.2.2 line m)\/(q.1≠0/\e=.panicked (Zq q.1 q.2.1)/\zyw lo base R Pb lm vm cm W0 w')
def yry{lo R Pb lm vm cm:Nat}{w:World}(hlo:lo<=R/\lo<=Pb/\lo<=lm/\lo<=vm/\lo<=cm)(hz:R<w.heap.size/\Pb<w.heap.size/\lm<w.heap.size/\vm<w.heap.size/\cm<w.heap.size)
  (nd:R≠Pb/\R≠lm/\R≠vm/\R≠cm/\Pb≠lm/\Pb≠vm/\Pb≠cm/\lm≠vm/\lm≠cm/\vm≠cm) (hR:Zn w R 45 (Xv Pb lm vm cm 0 Fl.RS.zero mem0)) (hP:Zn w Pb 5 (rw_ [.pointer none,.slice none 0 0,.slice none 0 0,.int .i64 0,.slice none 0 0]))
  (nl:Zl w lm []) (nv:Zl w vm []) (nc:Zl w cm []) (hg:2<lo) (hm:Yx w) (l:List UInt8) (hl:l.length<=1200):
  Calls prog 61 #[.pointer (some ⟨R,0,none⟩),.string ⟨l.toArray⟩] w (zd6 lo (w.heap.size+3) R Pb lm vm cm (txW w R) (Fl.rows Fl.RS.zero 0 (Fl.cutR 10 l))):=by
 have b1:(l.length:Int)<=1200:=by omega
 have A0:∀(fn:Fn) (first cap:Array Value) (w:World),(Instr.makeFunc fn first cap).run prog w=.ok (.func fn first cap) w:=λ_ _ _ _=>rfl;obtain⟨k1,k2,k3⟩:=yyx w R;have hsz:=zd5 w R;have n0:=ziw w R;have hb:∀b,b<w.heap.size->(txW w R).heap[b]?=w.heap[b]?:=λb h=>n0.block b h;have h0:Zw lo (txW w R).heap.size R Pb lm vm cm (txW w R) (txW w R) Fl.RS.zero 0 mem0:=Zw.zero hlo (by omega) nd 0 (hR.block (hb _ hz.1)) (hP.block (hb _ hz.2.1)) (nl.block (hb _ hz.2.2.1)) (nv.block (hb _ hz.2.2.2.1)) (nc.block (hb _ hz.2.2.2.2));rw[hsz]at h0
 have d1:w.heap.size<w.heap.size+3/\w.heap.size≠R/\w.heap.size≠Pb/\w.heap.size≠lm/\w.heap.size≠vm/\w.heap.size≠cm:=by omega
 have o0:(txW w R).cell? ⟨w.heap.size,0,none⟩=some (.pointer (some ⟨R,0,none⟩)):=cell_of_row _ _ 0 _ _ (0,0) k1;have HE:Hid (Calls prog 55 #[.string ⟨l.toArray⟩,.func (.func 104) #[] #[.pointer (some ⟨w.heap.size,0,none⟩),.pointer (some ⟨w.heap.size+1+1,0,none⟩)]] (txW w R) (zn4 (TxSt lo (w.heap.size+3) R Pb lm vm cm (txW w R) l) (zpv lo (w.heap.size+3) R Pb lm vm cm (txW w R) l))):=by
  refine yyy h0 l hl w.heap.size (w.heap.size+1+1) (w.heap.size+1) hg ?_ ?_ d1 (by omega) (by omega) o0 (cell_of_row _ _ 0 _ _ (0,0) k3) k2
  ·obtain⟨x,hx⟩:=hm
   exact⟨x,(n0.cell (p:=⟨2,0,none⟩) (by show 2<w.heap.size;omega)).trans hx⟩
  intro args W;kernel_rfl
 have p0:=Zz o0;obtain⟨q,hq⟩:=nmE (Fl.rows Fl.RS.zero 0 (Fl.cutR 10 l));rw[<-hq];have HQ:=Zz hq;have HD:=Zz d1;obtain⟨W,hW⟩:=nmE (txW w R);rw[<-hW]at HE p0⊢;have HW:=Zz hW;clear hlo hz nd hR hP nl nv nc hg hm k1 k2 k3 hsz n0 hb h0 o0 hq d1 hW
 go_enter func61,ntmps61
 go_wp2_with fail
 refine(zhv _).mono ?_;rintro e w1 ⟨rfl,s0⟩;rw[s0];clear s0 w1
 go_wp2_with fail
 have k0:=HE.out;rw[HW.out]at k0;unfold txW at k0;refine Calls.mono k0 ?_;clear k0 HE;rintro e W1 (⟨i,rfl,hi,hst⟩|⟨n,p,rfl,d0⟩)
 ·change TxSt lo (w.heap.size+3) R Pb lm vm cm (txW w R) l i [] W1 at hst
  rw[<-HW.out]at hst;obtain⟨h1,r,ln,m,hP,hr⟩:=hst;have i1:(i:Int)+1<=50000:=(by simp at h1;omega);have g0:Hid (Zw lo (w.heap.size+3) R Pb lm vm cm W (W1.setCell ⟨R,1,none⟩ (.int .i64 ((i:Int)+1))) r ((i:Int)+1) m):=hP.setLine _;have qb:∀k,k≠R->(W1.setCell ⟨R,1,none⟩ (.int .i64 ((i:Int)+1))).heap[k]?=W1.heap[k]?:=λk hk=>Zx _ _ _ _ _ hk;have c0:W1.cell? ⟨w.heap.size,0,none⟩=some (.pointer (some ⟨R,0,none⟩)):=(Qc (a:=⟨w.heap.size,0,none⟩) (hP.fx _ HD.out.1 HD.out.2.1 HD.out.2.2.1 HD.out.2.2.2.1 HD.out.2.2.2.2.1 HD.out.2.2.2.2.2)).trans p0.out;have e0:(W1.setCell ⟨R,1,none⟩ (.int .i64 ((i:Int)+1))).cell? ⟨w.heap.size,0,none⟩=some (.pointer (some ⟨R,0,none⟩)):=(Qc (a:=⟨w.heap.size,0,none⟩) (qb _ HD.out.2.1)).trans c0;have c1:W1.cell? ⟨R,1,none⟩=some (.int .i64 ln):=hP.cR.c 1 (by omega);have zR:=hP.cR.z;have e2:(W1.setCell ⟨R,1,none⟩ (.int .i64 ((i:Int)+1))).cell? ⟨R,2,none⟩=some (.bool r.begun):=g0.out.cR.c 2 (by omega);have e43:(W1.setCell ⟨R,1,none⟩ (.int .i64 ((i:Int)+1))).cell? ⟨R,43,none⟩=some m.ov:=g0.out.cR.c 43 (by omega);obtain⟨ao,cp,t0⟩:∃ao cp,m.ov=.slice ao r.fr.length cp:=by
   rcases hP.re.oo.2 with⟨h2,h3⟩|⟨g,cap,cur,h2,-⟩
   ·exact⟨none,0,by rw[h2,h3]⟩
   exact⟨_,_,h2⟩
  rw[t0]at e43;have i0:Hid (q=if r.begun=true/\r.fr=[] then(0,0,r) else(3,i+1,r)):=(by show _=_;rw[HQ.out,hr,yrz r i hi]);have HZ:Hid (lo<=W1.heap.size):=(by show lo<=_;have:=hP.hlo;have:=hP.hba;omega);obtain⟨W2,l0⟩:=nmE (W1.setCell ⟨R,1,none⟩ (.int .i64 ((i:Int)+1)));have y0:=Zz l0;have j0:W2.heap.size=W1.heap.size:=(by rw[l0];exact Zu _ _ _);have B0:Hid (lo<=W2.drew.heap.size):=(by show lo<=W2.heap.size;rw[j0];exact HZ.out);rw[<-l0]at g0 e0 e2 e43;have f0:W2.drew.cell? ⟨w.heap.size,0,none⟩=some (.pointer (some ⟨R,0,none⟩)):=e0;have f2:W2.drew.cell? ⟨R,2,none⟩=some (.bool r.begun):=e2;have f43:W2.drew.cell? ⟨R,43,none⟩=some (.slice ao r.fr.length cp):=e43;have q0:Hid (Calls prog 106 #[.pointer (some ⟨R,0,none⟩),.bool false,.int .i64 3] W2.drew λe w'=>e=.panicked (Zq 3 ((i:Int)+1))/\Below W2.drew.heap.size W2.drew w'):=Yr R 3 _ W2.drew (g0.out.drew.cR.c 1 (by omega));have m0:Hid (Calls prog 106 #[.pointer (some ⟨R,0,none⟩),.bool true,.int .i64 3] W2.drew λe w'=>e=.returned (.tuple #[])/\w'=W2.drew):=Yd R 3 W2.drew;clear hP hr hi h1 e0 e2 e43 qb t0 HQ HD p0 l0 j0 HZ
  go_wp2_with fail
  rw[<-y0.out]
  cases a0:r.begun with
  |false=>
   rw[a0]at f2;have HR:Hid (q=(3,i+1,r)):=(by show _=_;rw[i0.out,if_neg (by rw[a0];simp)]);clear a0 c0 c1 zR b1 m0 i0;refine Yf 13 5 _ 5 _ (by kernel_rfl) (by kernel_rfl) rfl rfl (λops hY u0=>?_);simp only[List.take_succ_cons,List.take_zero,List.drop_succ_cons,List.drop_zero]
   iterate 13 still_step
   refine wpStill_nil ?_
   go_wp2_with fail
   refine q0.out.mono ?_;rintro e w3 ⟨rfl,r0⟩;refine⟨rfl,.inr ⟨?_,?_,?_⟩⟩
   ·rw[HR.out];exact Nat.succ_ne_zero _
   ·rw[HR.out];rfl
   exact g0.out.drew.gone r0
  |true=>
   rw[a0]at f2
   by_cases b0:r.fr=[]
   ·have HR:Hid (q=(0,0,r)):=by show _=_;rw[i0.out,if_pos ⟨a0,b0⟩]
    have HG:Hid (r.begun=true/\r.fr=[]):=⟨a0,b0⟩;rw[b0]at f43;simp only[List.length_nil]at f43;clear a0 c0 c1 zR b1 q0 i0 b0;refine Yf 13 5 _ 5 _ (by kernel_rfl) (by kernel_rfl) rfl rfl (λops hY u0=>?_);simp only[List.take_succ_cons,List.take_zero,List.drop_succ_cons,List.drop_zero]
    iterate 13 still_step
    refine wpStill_nil ?_
    go_wp2_with fail
    refine m0.out.mono ?_;rintro e w3 ⟨rfl,v0⟩;have HE:Hid (zd6 lo (w.heap.size+3) R Pb lm vm cm W q (.returned (.tuple #[])) w3):=by
     show zd6 _ _ _ _ _ _ _ _ _ _ _;rw[HR.out,v0];exact .inl ⟨rfl,rfl,HG.out.1,HG.out.2,_,_,g0.out.drew⟩
    clear v0 f0 f2 f43 m0;go_wp2
    go_end0
    exact HE.out
   have HR:Hid (q=(3,i+1,r)):=(by show _=_;rw[i0.out,if_neg (λh=>b0 h.2)]);have z0:((r.fr.length:Int)==0)=false:=by
    have:r.fr.length≠0:=λh=>b0 (Qi h);simp;exact b0
   obtain⟨nf,x0⟩:=nmE (r.fr.length);rw[<-x0]at z0 f43;clear a0 c0 c1 zR b1 m0 i0 b0 x0;refine Yf 13 5 _ 5 _ (by kernel_rfl) (by kernel_rfl) rfl rfl (λops hY u0=>?_);simp only[List.take_succ_cons,List.take_zero,List.drop_succ_cons,List.drop_zero]
   iterate 13 still_step
   refine wpStill_nil ?_
   go_wp2_with fail
   refine q0.out.mono ?_;rintro e w3 ⟨rfl,r0⟩;refine⟨rfl,.inr ⟨?_,?_,?_⟩⟩
   ·rw[HR.out];exact Nat.succ_ne_zero _
   ·rw[HR.out];rfl
   exact g0.out.drew.gone r0
 change zpv lo (w.heap.size+3) R Pb lm vm cm (txW w R) l n p W1 at d0
 rw[<-HW.out]at d0;obtain⟨h1,h2,h3,h4⟩:=d0;rw[<-HQ.out]at h2 h3 h4;exact⟨rfl,.inr ⟨h4,by rw[h2,h3],h1⟩⟩
def zn5(p:Addr)(n pl:Int)(v0:Value)(older:List PanicEntry)(w:World)(hc:w.cell? p=some v0)(hz:w.frozen? p=false)(a0:p.block<w.heap.size):
  CallsD prog 79 #[.pointer (some p)] (.panicking ({v:=.iface 171 (.agg #[.int .i64 n,.int .i64 pl]),recovered:=false}::older)) w λe u' w'=>
   e=.returned (.tuple #[])/\u'=.panicking ({v:=.iface 171 (.agg #[.int .i64 n,.int .i64 pl]),recovered:=true}::older)/\∃o,w'=((w.alloc o).alloc (.cells #[.int .i64 n,.int .i64 pl] 80)).setCell p (.iface 76 (.pointer (some ⟨w.heap.size+1,0,none⟩))):=by
 have b0:∀o o',((w.alloc o).alloc o').cell? p=some v0:=λo o'=>by rw[((((Below.refl w.heap.size w).alloc (Nat.le_refl _) o).alloc (by simp) o').cell a0)];exact hc
 have c0:∀o o',((w.alloc o).alloc o').frozen? p=false:=λo o'=>by rw[((((Below.refl w.heap.size w).alloc (Nat.le_refl _) o).alloc (by simp) o').frozen a0)];exact hz
 have d0:∀W,(Instr.typeAssert (.iface 171 (.agg #[.int .i64 n,.int .i64 pl])) 20 171 true).run prog W=.ok (.tuple #[.agg #[.int .i64 n,.int .i64 pl],.bool true]) W:=λW=>by kernel_rfl
 refine callsD_of_wpS func79 rfl λc₀ cs hu=>?_;apply wpS_seq
 apply wpS_region
 simp[wpOpsS,go_sem,recoverD,hu,ntmps79,Exit.thenS]
 have ht:(#[Value.pointer (some p)]++((Array.replicate 21 undef).setIfInBounds 3 (.iface 171 (.agg #[.int .i64 n,.int .i64 pl]))).setIfInBounds 0 (.iface 171 (.agg #[.int .i64 n,.int .i64 pl])):Array Value)=#[.pointer (some p),(.iface 171 (.agg #[.int .i64 n,.int .i64 pl])),undef,undef,(.iface 171 (.agg #[.int .i64 n,.int .i64 pl])),undef,undef,undef,undef,undef,undef,undef,undef,undef,undef,undef,undef,undef,undef,undef,undef,undef]:=by kernel_rfl
 rw[ht];clear ht;refine wpS_of_wp ?_;have HU:=Zz hu;clear hu
 go_wp2_with fail
 refine⟨by simp,_,rfl,.tuple #[],?_,rfl,rfl,_,rfl⟩;simp[results,results79]
def zb8(p:Addr)(w:World):CallsD prog 79 #[.pointer (some p)] .returning w λe u' w'=>e=.returned (.tuple #[])/\u'=.returning/\w'=w:=by
 refine callsD_of_wpS func79 rfl λc₀ cs hu=>?_;apply wpS_seq
 apply wpS_region
 simp[wpOpsS,go_sem,recoverD,hu,ntmps79,Exit.thenS]
 have ht:(#[Value.pointer (some p)]++((Array.replicate 21 undef).setIfInBounds 3 .nilIface).setIfInBounds 0 .nilIface:Array Value)=#[.pointer (some p),.nilIface,undef,undef,.nilIface,undef,undef,undef,undef,undef,undef,undef,undef,undef,undef,undef,undef,undef,undef,undef,undef,undef]:=by kernel_rfl
 rw[ht];clear ht;refine wpS_of_wp ?_;have HU:=Zz hu;clear hu
 go_wp2_with fail
 refine⟨by simp,.returning,?_,.tuple #[],?_,rfl,rfl,rfl⟩
 ·have h9:=HU.out
  cases c₀;simp_all
 simp[results,results79]
def ziv(f:FuncId)(cap:Array Value)(w:World)(Rr:World->Prop)(Rp:Int->Int->World->Prop)(d0:∀W,(callFunc f cap).run prog W=.ok (.enter f cap) W)
  (a0:Calls prog f cap (w.alloc (.cells #[.nilIface] 64)) λe w'=>w'.cell? ⟨w.heap.size,0,none⟩=some .nilIface/\w'.frozen? ⟨w.heap.size,0,none⟩=false/\((e=.returned (.tuple #[])/\Rr w')\/∃n pl,e=.panicked (Zq n pl)/\Rp n pl w')):
  Calls prog 39 #[.func (.func f) #[] cap] w λe w'=>(∃w1,e=.returned .nilIface/\Rr w1/\w'=w1.setCell ⟨w.heap.size,0,none⟩ .nilIface)\/
   ∃n pl w1 o,e=.returned (.iface 76 (.pointer (some ⟨w1.heap.size+1,0,none⟩)))/\Rp n pl w1/\w'=((w1.alloc o).alloc (.cells #[.int .i64 n,.int .i64 pl] 80)).setCell ⟨w.heap.size,0,none⟩ (.iface 76 (.pointer (some ⟨w1.heap.size+1,0,none⟩))):=by
 have e0:∀(fn:Fn) (first cap:Array Value) (w:World),(Instr.makeFunc fn first cap).run prog w=.ok (.func fn first cap) w:=λ_ _ _ _=>rfl;have c0:=Zz a0;clear a0
 go_enter_defers func39,ntmps39
 go_wp2_with fail
 refine(c0.out).mono ?_;rintro e w1 ⟨hc,hz,⟨rfl,hr⟩|⟨n,pl,rfl,hp⟩⟩
 ·have HR:=Zz hr
  clear hr
  go_wp2_with fail
  refine leaves_cons (f:=79) (args:=#[.pointer (some ⟨w.heap.size,0,none⟩)]) (by simp) (by simp[go_sem]) ?_;refine(zb8 ⟨w.heap.size,0,none⟩ _).mono ?_;rintro e u' w'' ⟨rfl,rfl,rfl⟩;have q0:(w1.setCell ⟨w.heap.size,0,none⟩ .nilIface).cell? ⟨w.heap.size,0,none⟩=some .nilIface:=World.cell?_setCell_same' _ _ _ (by simp[hc]);refine⟨.nilIface,by simp[results,results39,go_sem,q0],.inl ⟨w1,rfl,HR.out,rfl⟩⟩
 have b0:w.heap.size<w1.heap.size:=Qe w1 _ hc;refine leaves_cons (f:=79) (args:=#[.pointer (some ⟨w.heap.size,0,none⟩)]) (by simp) (by simp[go_sem]) ?_;refine(zn5 ⟨w.heap.size,0,none⟩ n pl .nilIface [] w1 hc hz b0).mono ?_;rintro e u' w'' ⟨rfl,rfl,o,rfl⟩;have q0:(((w1.alloc o).alloc (.cells #[.int .i64 n,.int .i64 pl] 80)).setCell ⟨w.heap.size,0,none⟩ (.iface 76 (.pointer (some ⟨w1.heap.size+1,0,none⟩)))).cell? ⟨w.heap.size,0,none⟩=some (.iface 76 (.pointer (some ⟨w1.heap.size+1,0,none⟩))):=by
  refine World.cell?_setCell_same' _ _ _ ?_;rw[World.cell?_alloc_past _ _ _ (by simp;omega),World.cell?_alloc_past _ _ _ b0,hc];rfl
 refine⟨.iface 76 (.pointer (some ⟨w1.heap.size+1,0,none⟩)),by simp[results,results39,go_sem,q0],.inr ⟨n,pl,w1,o,rfl,hp,rfl⟩⟩
open Go.Maps Go.WideMaps Go.ChangeMaps Go.MapKept
def Ji(S:Nat->Prop)(w:World)(v:Value)(l:List Nat):Prop:=
 ∃ao cap,v=.slice ao l.length cap/\l.length<=cap/\cap<=maxLen/\(l≠[]->∃b,ao=some ⟨b,0,none⟩/\S b/\∀i,i<l.length->w.cell? ⟨b,i,none⟩=some (.int .i64 (l.getD i 0)))
def Ji.kept{S S':Nat->Prop}{w w':World}{v:Value}{l:List Nat}(h:Ji S w v l)(hS:∀b,S b->S' b)(hw:∀b,S b->w'.heap[b]?=w.heap[b]?):Ji S' w' v l:=by
 obtain⟨ao,cap,h1,h2,h3,h4⟩:=h;refine⟨ao,cap,h1,h2,h3,λa0=>?_⟩;obtain⟨b,e,hb,hc⟩:=h4 a0;exact⟨b,e,hS b hb,λi hi=>(Qc (a:=⟨b,i,none⟩) (hw b hb)).trans (hc i hi)⟩
def Ji.own{S:Nat->Prop}{base:Nat}{w:World}{v:Value}{l:List Nat}(h:w.ownsRow base 3 1 v l.length (Vz l))(hv:∀b,v.ownBlock=some b->S b):Ji S w v l:=by
 rcases h.2 with⟨rfl,h0⟩|⟨g,cap,cur,rfl,hb,hg,c0,a0,d0,ht⟩
 ·exact⟨none,0,by rw[h0],by omega,by simp[maxLen],λb0=>absurd (Qi h0) b0⟩
 refine⟨_,cap,rfl,by omega,a0,λ_=>⟨g,rfl,hv g rfl,λi hi=>?_⟩⟩;have h4:=h.cells (g:=g) rfl i (.int .i64 (l.getD i 0)) (by unfold Vz;simp[Qa,hi])
 have h5:(⟨g,0,none⟩:Addr).add i=⟨g,i,none⟩:=by unfold Addr.add;split<;>simp_all
 rw[h5]at h4;exact h4
def Ug(S:Nat->Prop)(w:World)(Pb:Nat)(p:Fl.Prog):Prop:=
 ∃Lb clv chv bv,S Pb/\S Lb/\Zn w Pb 5 (rw_ [ptr Lb,clv,chv,.int .i64 p.locals,bv])/\Un w Lb p.n p.leq/\Ji S w clv p.cells/\Ji S w chv p.chans/\Zt 4 S w bv p.body
def Ug.kept{S S':Nat->Prop}{w w':World}{Pb:Nat}{p:Fl.Prog}(h:Ug S w Pb p)(hS:∀b,S b->S' b)(hw:∀b,S b->w'.heap[b]?=w.heap[b]?):Ug S' w' Pb p:=by
 obtain⟨Lb,clv,chv,bv,h1,h2,h3,h4,h5,h6,h7⟩:=h;exact⟨Lb,clv,chv,bv,hS _ h1,hS _ h2,h3.block (hw _ h1),h4.block (hw _ h2),h5.kept hS hw,h6.kept hS hw,Zt.kept hS hw _ _ _ h7⟩
def Zw.prog{lo base R Pb lm vm cm:Nat}{w0 w:World}{r:Fl.RS}{line:Int}{m:Yk}(h:Zw lo base R Pb lm vm cm w0 w r line m)(hb:r.begun=true)(hf:r.fr=[]):Ug (λb=>(b=Pb\/base<=b)/\b<w.heap.size) w Pb r.prog:=by
 obtain⟨Lb,l1,l2,l3⟩:=h.re.la hb;have hba:=h.hba;have hlo:=h.hlo
 have hS:∀b,m.who b≠5->(b=Pb\/base<=b)/\b<w.heap.size:=λb hb=>by have:=h.re.wh b hb;omega
 have b0:m.gs=[]:=Qi (by rw[h.re.fa.len,hf];rfl);have a0:=h.re.pb;rw[b0]at a0;refine⟨Lb,m.clv,m.chv,m.bv,by omega,hS _ (by rw[l2];decide),by rw[<-l1];exact h.cP,l3,Ji.own h.re.oc (λb hv=>hS b (by rw[h.re.tc b hv];decide)),Ji.own h.re.oh (λb hv=>hS b (by rw[h.re.th b hv];decide)),?_⟩;have c0:=h.ok.cn.1;have hst:=h.ok.st;exact Zd.closed (a0.kept (S':=λb=>(b=Pb\/base<=b)/\b<w.heap.size) (λb hv=>hS b (by rw[hv];decide)) (λ_ _=>rfl) (λ_ _=>rfl)) (λb hv=>hS b (by rw[h.re.tb b hv];decide)) (by show r.top.length<=16;omega)
def zf0(n:Nat):Array Value:=#[ptr (n+1),.int .i64 0,.bool false,.int .i64 0,.bool false,.bool false,.bool false,.bool false,.bool false,.bool false,.bool false,.bool false,.bool false,.bool false,.bool false,.bool false,.bool false,.bool false,.bool false,.bool false,.bool false,.bool false,.bool false,.bool false,.bool false,.bool false,.bool false,.bool false,.bool false,.bool false,.bool false,.bool false,.bool false,.bool false,.bool false,.bool false,.bool false,.bool false,.bool false,.bool false,.map (some (n+2)),.map (some (n+3)),.map (some (n+4)),.slice none 0 0,.int .i64 0]
def yrx(n j:Nat)(h:j<45):(zf0 n)[j]?=some (Xv (n+1) (n+2) (n+3) (n+4) 0 Fl.RS.zero mem0 j):=by
 have:j=0\/j=1\/j=2\/j=3\/(4<=j/\j<40)\/j=40\/j=41\/j=42\/j=43\/j=44:=by omega
 rcases this with rfl|rfl|rfl|rfl|h1|rfl|rfl|rfl|rfl|rfl
 ·rfl
 ·rfl
 ·rfl
 ·rfl
 ·unfold Xv
  rw[if_neg (by omega),if_neg (by omega),if_neg (by omega),if_neg (by omega),if_neg (by omega),if_neg (by omega),if_neg (by omega),if_neg (by omega),if_neg (by omega)]
  have:j=4\/j=5\/j=6\/j=7\/j=8\/j=9\/j=10\/j=11\/j=12\/j=13\/j=14\/j=15\/j=16\/j=17\/j=18\/j=19\/j=20\/j=21\/j=22\/j=23\/j=24\/j=25\/j=26\/j=27\/j=28\/j=29\/j=30\/j=31\/j=32\/j=33\/j=34\/j=35\/j=36\/j=37\/j=38\/j=39:=by omega
  rcases this with rfl|rfl|rfl|rfl|rfl|rfl|rfl|rfl|rfl|rfl|rfl|rfl|rfl|rfl|rfl|rfl|rfl|rfl|rfl|rfl|rfl|rfl|rfl|rfl|rfl|rfl|rfl|rfl|rfl|rfl|rfl|rfl|rfl|rfl|rfl|rfl<;>rfl
 ·rfl
 ·rfl
 ·rfl
 ·rfl
 rfl
def rdW(w:World)(l:List UInt8):World:=((((((w.alloc (.cells #[.string ⟨l.toArray⟩] 9)).alloc (.cells #[.pointer none,.slice none 0 0,.slice none 0 0,.int .i64 0,.slice none 0 0] 92)).alloc (.map #[] 0)).alloc (.map #[] 0)).alloc (.map #[] 0)).alloc (.cells (zf0 w.heap.size) 148)).alloc (.cells #[.pointer (some ⟨w.heap.size+5,0,none⟩)] 139)
def zn6(w:World)(l:List UInt8):(rdW w l).heap.size=w.heap.size+7:=by simp[rdW]
def zh0(w:World)(l:List UInt8):Below w.heap.size w (rdW w l):=(((((((Below.refl _ w).alloc (Nat.le_refl _) _).alloc (by simp<;>omega) _).alloc (by simp<;>omega) _).alloc (by simp<;>omega) _).alloc (by simp<;>omega) _).alloc (by simp<;>omega) _).alloc (by simp<;>omega) _
def zsv(w:World)(l:List UInt8):(rdW w l).heap[w.heap.size]?=some (.cells #[.string ⟨l.toArray⟩] 9)/\
  (rdW w l).heap[w.heap.size+1]?=some (.cells #[.pointer none,.slice none 0 0,.slice none 0 0,.int .i64 0,.slice none 0 0] 92)/\
  (rdW w l).heap[w.heap.size+2]?=some (.map #[] 0)/\(rdW w l).heap[w.heap.size+3]?=some (.map #[] 0)/\(rdW w l).heap[w.heap.size+4]?=some (.map #[] 0)/\
  (rdW w l).heap[w.heap.size+5]?=some (.cells (zf0 w.heap.size) 148)/\(rdW w l).heap[w.heap.size+6]?=some (.cells #[.pointer (some ⟨w.heap.size+5,0,none⟩)] 139):=by
 have a:∀(u:World) (o:Obj) (k:Nat),k<u.heap.size->(u.alloc o).heap[k]?=u.heap[k]?:=λu o k hk=>Below.heap_alloc _ _ _ hk
 have l:∀(u:World) (o:Obj) (k:Nat),u.heap.size=k->(u.alloc o).heap[k]?=some o:=λu o k hk=>by subst hk;exact heap_alloc_last u o
 unfold rdW;refine⟨?_,?_,?_,?_,?_,?_,?_⟩
 ·rw[a _ _ _ (by simp<;>omega),a _ _ _ (by simp<;>omega),a _ _ _ (by simp<;>omega),a _ _ _ (by simp<;>omega),a _ _ _ (by simp<;>omega),a _ _ _ (by simp<;>omega),l _ _ _ (by simp<;>omega)]
 ·rw[a _ _ _ (by simp<;>omega),a _ _ _ (by simp<;>omega),a _ _ _ (by simp<;>omega),a _ _ _ (by simp<;>omega),a _ _ _ (by simp<;>omega),l _ _ _ (by simp<;>omega)]
 ·rw[a _ _ _ (by simp<;>omega),a _ _ _ (by simp<;>omega),a _ _ _ (by simp<;>omega),a _ _ _ (by simp<;>omega),l _ _ _ (by simp<;>omega)]
 ·rw[a _ _ _ (by simp<;>omega),a _ _ _ (by simp<;>omega),a _ _ _ (by simp<;>omega),l _ _ _ (by simp<;>omega)]
 ·rw[a _ _ _ (by simp<;>omega),a _ _ _ (by simp<;>omega),l _ _ _ (by simp<;>omega)]
 ·rw[a _ _ _ (by simp<;>omega),l _ _ _ (by simp<;>omega)]
 rw[l _ _ _ (by simp<;>omega)]
def Zl.fresh{w:World}{b:Nat}(h:w.heap[b]?=some (.map #[] 0)):Zl w b []:=by
 have ho:w.ownsMap (H:=Unit) prog 9 (plainElem prog 3) b 0 (.map []):=⟨#[],0,h,⟨by simp,stamped_empty 0,by simp⟩,Nat.le_refl _,rfl⟩;exact⟨0,.map [],ho,Nat.le_refl _,rfl,ho.tidy zq4,ho.isMap,λx=>⟨by simp[Maps.has,Fl.place,Fl.placeFrom],by simp[DataW.atKey,Fl.place,Fl.placeFrom];decide⟩⟩
end Go.Proofs.YtminjljgedopkaaGreatDoor
namespace Go.Proofs.YtminjljgedopkaaGreatDoor
open Go.RowKit Go.Proofs.Tryz
def Ji.ints{S:Nat->Prop}{w:World}{v:Value}{l:List Nat}(h:Ji S w v l)(hS:∀b,S b->b<w.heap.size):Zy w.heap.size w v (l.map λ(y:Nat)=>(y:Int)):=by
 obtain⟨ao,cap,rfl,h2,h3,h4⟩:=h;refine⟨ao,cap,by simp,by simpa using h2,by simp;omega,λhne=>?_⟩;obtain⟨b,e,hb,hc⟩:=h4 (by rintro rfl;exact hne rfl);refine⟨b,0,e,hS b hb,λi hi=>?_⟩
 have hi2:i<l.length:=by simpa using hi
 rw[Nat.zero_add,hc i hi2];simp[List.getD_eq_getElem?_getD,hi2]
end Go.Proofs.YtminjljgedopkaaGreatDoor
