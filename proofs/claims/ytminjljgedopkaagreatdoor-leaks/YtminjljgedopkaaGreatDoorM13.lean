import Derived.Test.YtminjljgedopkaaGreatDoorM12
set_option linter.all false
set_option maxRecDepth 100000
set_option maxHeartbeats 40000000
namespace Go.Proofs.YtminjljgedopkaaGreatDoor
open Go.RowKit Go.Proofs.Tryz
def zt4(o:Option Fl.Expr)(line:Int)(w:World)(e:Ending)(w':World):Prop:=
 Below w.heap.size w w'/\(∀x,o=some x->∃pb,e=.returned (.pointer (some ⟨pb,0,none⟩))/\zz3 (zu8 w w') w' (ptr pb) x)/\(o=none->e=.panicked (Zq 4 line))
def Yj.later{w w1 w2:World}{p:Value}{a:Fl.Atom}(h:Yj (zu8 w w1) w1 p a)(hb:Below w1.heap.size w1 w2):Yj (zu8 w w2) w2 p a:=
 h.kept (λb hb'=>⟨hb'.1,Nat.lt_of_lt_of_le hb'.2 hb.size⟩) (λb hb'=>hb.block b hb'.2)
def Yj.lower{w w1 w2:World}{p:Value}{a:Fl.Atom}(h:Yj (zu8 w1 w2) w2 p a)(hz:w.heap.size<=w1.heap.size):Yj (zu8 w w2) w2 p a:=
 h.kept (λb hb'=>⟨Nat.le_trans hz hb'.1,hb'.2⟩) (λ_ _=>rfl)
section
variable{lo base R Pb lm vm cm:Nat}{w0 w:World}{r:Fl.RS}{line:Int}{m:Yk}
def zl5(h:Zw lo base R Pb lm vm cm w0 w r line m)(b off cap:Nat)(x:List UInt8)(hx:x.length<=100000)(f0:1<=cap)(i0:w.cell? ⟨b,off,none⟩=some (.string ⟨x.toArray⟩)):
  Calls prog 183 #[.pointer (some ⟨R,0,none⟩),.slice (some ⟨b,off,none⟩) 1 cap] w (zt4 (r.value [x]) line w):=by
 have HS:Hid (Calls prog 208 #[.pointer (some ⟨R,0,none⟩),.string ⟨x.toArray⟩] w (zex (r.atom x) line w)):=zl4 h x hx;clear h
 go_enter func183,ntmps183
 go_wp2_with fail
 refine HS.out.mono ?_;rintro e W ⟨hb,d0,a0⟩;have HB:=Zz hb;clear hb HS
 cases b0:r.atom x with
 |none=>
  obtain rfl:=a0 b0;exact⟨rfl,HB.out,λy hy=>(by simp[Fl.RS.value,b0]at hy),λ_=>rfl⟩
 |some a=>
  obtain⟨p,rfl,c0⟩:=d0 a b0;obtain⟨vb,rfl,g0⟩:=id c0;have h0:=Zz c0;have e0:=Zz b0;clear c0 d0 a0 b0 g0;unfold ptr;go_wp2;go_ret;refine⟨HB.out,λy hy=>⟨vb,rfl,?_⟩,λhn=>?_⟩
  ·simp only[Fl.RS.value,e0.out,Option.map_some,Option.some.injEq]at hy
   subst hy;exact .inl ⟨rfl,h0.out⟩
  simp[Fl.RS.value,e0.out]at hn
def yy6(h:Zw lo base R Pb lm vm cm w0 w r line m)(b off cap:Nat)(x o y:List UInt8)(hx:x.length<=100000)(ho:o.length<=100000)(hy:y.length<=100000)(n0:0<=Fl.place Fl.signs o)(A0:3<=cap)
  (l0:w.cell? ⟨b,off,none⟩=some (.string ⟨x.toArray⟩)) (B0:w.cell? ⟨b,off+1,none⟩=some (.string ⟨o.toArray⟩)) (o0:w.cell? ⟨b,off+2,none⟩=some (.string ⟨y.toArray⟩)):
  Calls prog 183 #[.pointer (some ⟨R,0,none⟩),.slice (some ⟨b,off,none⟩) 3 cap] w (zt4 (r.value [x,o,y]) line w):=by
 obtain⟨ov,m0⟩:=nmE (α:=Int) (Fl.place Fl.signs o)
 have u0:Hid (∀W,Calls prog 190 #[.string ⟨o.toArray⟩] W λe w'=>e=.returned (.tuple #[.int .i64 ov,.bool true])/\w'=W):=λW=>by
  have:=zr7 o W ho;rw[show (((Fl.place Fl.signs o).toNat:Nat):Int)=ov by rw[m0];omega,show decide (0<=Fl.place Fl.signs o)=true by simpa using n0]at this;exact this
 have HS:Hid (∀W z,z.length<=100000->Zw lo base R Pb lm vm cm w0 W r line m->Calls prog 208 #[.pointer (some ⟨R,0,none⟩),.string ⟨z.toArray⟩] W (zex (r.atom z) line W)):=λW z hz hW=>zl4 hW z hz;have HH:=Zz h
 have p0:0<=ov:=by rw[m0];exact n0
 obtain⟨res,b0⟩:=nmE (r.value [x,o,y]);rw[<-b0]
 have e0:Hid (res=(r.atom x).bind λa=>(r.atom y).map λc=>⟨ov,a,c⟩):=by show _=_;rw[b0,m0];rfl
 clear h m0 n0 b0
 go_enter func183,ntmps183
 go_wp2_with fail
 refine(u0.out _).mono ?_;rintro e w1 ⟨rfl,v0⟩;rw[v0];clear v0 w1 u0 B0
 go_wp2_with fail
 refine Vt (λW=>W.cell? ⟨b,off,none⟩=some (.string ⟨x.toArray⟩)/\W.cell? ⟨b,off+2,none⟩=some (.string ⟨y.toArray⟩)) [] [(0,0),(0,1),(0,2),(0,3),(0,4),(0,6),(0,7),(0,8),(0,9),(1,5),(1,10),(0,11),(1,12),(0,13)] [] (by kernel_rfl) (by kernel_rfl) rfl [(_,_),(_,_),(_,_),(_,_),(_,_),(_,_),(_,_),(_,_),(_,_),(_,_),(_,_),(_,_),(_,_),(_,_)] rfl (λc a d v w h=>by cases d<;>exact h) ⟨l0,o0⟩ (λops hG=>?_);clear hG;simp only[List.getElem_toArray,List.getElem_cons_succ,List.getElem_cons_zero]
 iterate 9 refine Uq rfl (kE (by rintro _ ⟨k0,k1⟩;go_simp<;>rfl) (by go_simp<;>rfl) ?_)
 refine Zs ?_;have hbz:b<w.heap.size:=Qe w _ l0
 go_wp2_with fail
 refine(HS.out w.drew x hx HH.out.drew).mono ?_;rintro e W ⟨hb,g0,a0⟩;have hB:Below w.heap.size w W:=(Below.refl w.heap.size w).drew.trans hb;have HB:=Zz hB;have HW:Hid (Zw lo base R Pb lm vm cm w0 W r line m):=HH.out.below hB;have d0:W.cell? ⟨b,off,none⟩=some (.string ⟨x.toArray⟩):=(hB.cell (p:=⟨b,off,none⟩) hbz).trans l0;have d2:W.cell? ⟨b,off+2,none⟩=some (.string ⟨y.toArray⟩):=(hB.cell (p:=⟨b,off+2,none⟩) hbz).trans o0;have hz:=hB.size;clear l0 o0 hb hB
 cases h0:r.atom x with
 |none=>
  obtain rfl:=a0 h0;have HN:res=none:=(by rw[e0.out,h0];rfl);exact⟨rfl,HB.out,λy hy=>(by rw[HN]at hy;cases hy),λ_=>rfl⟩
 |some a=>
  obtain⟨p,rfl,q0⟩:=g0 a h0;obtain⟨xb,rfl,-⟩:=id q0;have C0:Hid (Yj (zu8 w W) W (ptr xb) a):=by
   refine Yj.kept q0 (λb' hb'=>?_) (λ_ _=>rfl);exact⟨by have:=hb'.1;simpa using this,hb'.2⟩
  have x0:Hid (res=(r.atom y).map λc=>⟨ov,a,c⟩):=(by show _=_;rw[e0.out,h0];rfl);clear q0 g0 a0 h0;unfold ptr
  go_wp2_with fail
  refine⟨⟨d0,d2⟩,?_⟩;refine Zs ?_
  go_wp2_with fail
  refine(HS.out W y hy HW.out).mono ?_;rintro e W2 ⟨i0,g0,a0⟩;have r0:=Zz i0;have f0:W2.cell? ⟨b,off,none⟩=some (.string ⟨x.toArray⟩):=(i0.cell (p:=⟨b,off,none⟩) (by show b<_;omega)).trans d0;have f2:W2.cell? ⟨b,off+2,none⟩=some (.string ⟨y.toArray⟩):=(i0.cell (p:=⟨b,off+2,none⟩) (by show b<_;omega)).trans d2;have E0:=i0.size;clear d0 d2 i0
  cases j0:r.atom y with
  |none=>
   obtain rfl:=a0 j0;have HN:res=none:=(by rw[x0.out,j0];rfl);exact⟨rfl,HB.out.trans (r0.out.mono (by omega)),λy hy=>(by rw[HN]at hy;cases hy),λ_=>rfl⟩
  |some c=>
   obtain⟨p,rfl,s0⟩:=g0 c j0;obtain⟨yb,rfl,-⟩:=id s0;have D0:Hid (Yj (zu8 w W2) W2 (ptr yb) c):=Yj.lower s0 (by omega);have t0:Hid (Yj (zu8 w W2) W2 (ptr xb) a):=Yj.later C0.out r0.out;have y0:Hid (res=some ⟨ov,a,c⟩):=(by show _=_;rw[x0.out,j0];rfl);have c0:Hid (Below w.heap.size w W2):=HB.out.trans (r0.out.mono (by omega));have f0':∀o,(W2.alloc o).cell? ⟨b,off,none⟩=some (.string ⟨x.toArray⟩):=λo=>(Qf _ _ _ (by show b<_;omega)).trans f0;have f2':∀o,(W2.alloc o).cell? ⟨b,off+2,none⟩=some (.string ⟨y.toArray⟩):=λo=>(Qf _ _ _ (by show b<_;omega)).trans f2;clear s0 g0 a0 j0;unfold ptr
   go_wp2_with fail
   refine⟨⟨f0,f2⟩,?_⟩;refine Uq rfl (kE (by intro w' hw';go_simp<;>rfl) (by go_simp<;>rfl) ?_);refine Zs ?_
   go_wp2_with fail
   refine⟨⟨f0' _,f2' _⟩,?_⟩;refine Uq rfl (kE (by intro w' hw';go_simp<;>rfl) (by go_simp<;>rfl) ?_);refine Yt ?_;go_wp2;go_ret;refine⟨c0.out.alloc c0.out.size _,λz hz'=>⟨_,rfl,?_⟩,λhn=>(by rw[y0.out]at hn;cases hn)⟩;rw[y0.out]at hz';simp only[Option.some.injEq]at hz';subst hz';have z0:Below W2.heap.size W2 (W2.alloc (.cells #[.int .i64 2,.int .i64 ov,.pointer (some ⟨xb,0,none⟩),.pointer (some ⟨yb,0,none⟩)] 292)):=bA;refine .inr ⟨p0,W2.heap.size,ptr xb,ptr yb,rfl,⟨c0.out.size,by simp⟩,?_,Yj.later t0.out z0,Yj.later D0.out z0⟩;exact Zn.new W2 [.int .i64 2,.int .i64 ov,ptr xb,ptr yb] _
end
section
variable{lo base R Pb lm vm cm:Nat}{w0 w w':World}{r:Fl.RS}{line:Int}{m:Yk}
def Zw.addLocal(h:Zw lo base R Pb lm vm cm w0 w r line m)(hb:r.begun=true)(x:List UInt8)(hlo:r.locals.length<4)(hz:w.heap.size<=w'.heap.size)(hq:∀b,b<w.heap.size->b≠vm->b≠Pb->w'.heap[b]?=w.heap[b]?)(a0:Below lo w0 w')
  (b0:Zn w' Pb 5 (rw_ [m.pl,m.clv,m.chv,.int .i64 ((r.locals.length:Int)+1),m.bv])) (c0:Zl w' vm (r.cells++(r.locals++[x]))):Zw lo base R Pb lm vm cm w0 w' {r with locals:=r.locals++[x]} line m:=by
 obtain⟨b1,b2,b3,b4,b5,b6⟩:=h.hba;obtain⟨n1,n2,n3,n4,n5,n6,n7,n8,n9,n10⟩:=h.nd;have hr:=h.re.kept (w':=w') hz (λb hw=>hq b (h.re.wh b hw).2 (by have:=h.re.wh b hw;omega) (by have:=h.re.wh b hw;omega));exact{ok:={cn:=h.ok.cn,lv:=h.ok.lv,ce:=h.ok.ce,ch:=h.ok.ch,lo:=by simp;omega,st:=h.ok.st,fr:=h.ok.fr,cl:=h.ok.cl,hl:=h.ok.hl,pairs:=h.ok.pairs,kinds:=h.ok.kinds,head:=λhh=>(by rw[show ({r with locals:=r.locals++[x]}:Fl.RS).begun=r.begun from rfl,hb]at hh;cases hh),below:=h.ok.below,clv:=h.ok.clv,chv:=h.ok.chv,lat:=h.ok.lat},bel:=a0,fx:=λb f1 f2 f3 f4 f5 f6=>(hq b (by omega) f5 f3).trans (h.fx b f1 f2 f3 f4 f5 f6),hlo:=h.hlo,hba:=⟨b1,b2,b3,b4,b5,by omega⟩,nd:=h.nd,cR:=(h.cR.block (hq _ (by omega) n3 n1)).congr (λj hj=>(zyv Pb lm vm cm line r {r with locals:=r.locals++[x]} m m j rfl rfl rfl rfl hj (λ_ _ _ _ _=>rfl)).symm),cP:=by simpa using b0,nl:=h.nl.block (hq _ (by omega) n8 (Ne.symm n5)),nv:=c0,nc:=h.nc.block (hq _ (by omega) (Ne.symm n10) (Ne.symm n7)),tab:=h.tab,re:={wh:=hr.wh,oc:=hr.oc,tc:=hr.tc,oh:=hr.oh,th:=hr.th,pb:=hr.pb,tb:=hr.tb,fa:=hr.fa,oo:=hr.oo,to:=hr.to,la:=hr.la}}
def Fl.RS.target_map(r:Fl.RS)(x:List UInt8):r.target x=if 0<=Fl.place (r.cells++r.locals) x then some ((Fl.place (r.cells++r.locals) x).toNat,r) else if r.locals.length=4 then none else some (r.cells.length+r.locals.length,{r with locals:=r.locals++[x]}):=by
 unfold Fl.RS.target;rw[Fl.place_append]
 by_cases hc:0<=Fl.place r.cells x
 ·rw[if_pos hc,if_pos hc,if_pos hc]
 rw[if_neg hc,if_neg hc]
 by_cases hl:0<=Fl.place r.locals x
 ·rw[if_pos hl,if_pos hl,if_pos (by omega)]
  congr 2;omega
 rw[if_neg hl,if_neg hl,if_neg (show ¬(0:Int)<= -1 by omega)]
def yu8(lo base R Pb lm vm cm:Nat)(w0:World)(r:Fl.RS)(line:Int)(m:Yk)(x:List UInt8)(w:World)(e:Ending)(w':World):Prop:=
 (∃k r',r.target x=some (k,r')/\e=.returned (.int .i64 (k:Nat))/\Zw lo base R Pb lm vm cm w0 w' r' line m/\w.heap.size<=w'.heap.size/\∀b,b<w.heap.size->b≠vm->b≠Pb->w'.heap[b]?=w.heap[b]?)\/(r.target x=none/\e=.panicked (Zq 5 line)/\zyw lo base R Pb lm vm cm w0 w')
def zev(h:Zw lo base R Pb lm vm cm w0 w r line m)(q0:r.begun=true)(x:List UInt8)(hx:x.length<=100000):
  Calls prog 185 #[.pointer (some ⟨R,0,none⟩),.string ⟨x.toArray⟩] w (yu8 lo base R Pb lm vm cm w0 r line m x w):=by
 obtain⟨pl,a0⟩:=nmE (Fl.place (r.cells++r.locals) x);obtain⟨tg,r0⟩:=nmE (r.target x);have hT:=Fl.RS.target_map r x;rw[<-a0]at hT;have HT:=Zz hT;obtain⟨mx,tb,B0,e0,hmx⟩:=h.nv.look2 x hx;rw[<-a0]at e0 hmx;have k0:=Zz e0;have s0:=Zz hmx;have t0:=Zz a0;have c41:w.cell? ⟨R,41,none⟩=some (.map (some vm)):=h.cR.c 41 (by omega);have c0:w.cell? ⟨R,0,none⟩=some (.pointer (some ⟨Pb,0,none⟩)):=h.cR.c 0 (by omega);have p3:w.cell? ⟨Pb,3,none⟩=some (.int .i64 r.locals.length):=h.cP.c 3 (by omega);have HH:=Zz h;have u0:=h.ok.lo;have C0:=h.ok.ce;have hba:=h.hba;have hlo:=h.hlo;have D0:=h.nd;clear h hT r0 e0 hmx a0
 cases tb with
 |true=>
  have h0:0<=pl:=(by have:=k0.out;simpa using this);have v0:Hid (mx=(pl.toNat:Int)):=(by show _=_;rw[s0.out];omega)
  go_enter func185,ntmps185
  go_wp2;go_ret;exact .inl ⟨pl.toNat,r,by rw[HT.out,if_pos h0],by rw[<-v0.out];rfl,HH.out,Nat.le_refl _,λ_ _ _ _=>rfl⟩
 |false=>
  have h0:¬0<=pl:=(by have:=k0.out;simpa using this);have l0:Hid (Calls prog 106 #[.pointer (some ⟨R,0,none⟩),.bool false,.int .i64 5] w λe w'=>e=.panicked (Zq 5 line)/\Below w.heap.size w w'):=Yr R 5 line w (HH.out.cR.c 1 (by omega));have m0:Hid (Calls prog 106 #[.pointer (some ⟨R,0,none⟩),.bool true,.int .i64 5] w λe w'=>e=.returned (.tuple #[])/\w'=w):=Yd R 5 w
  by_cases h4:r.locals.length=4
  ·have f0:Hid (r.target x=none):=by show _=_;rw[HT.out,if_neg h0,if_pos h4]
   have b4:¬(r.locals.length:Int)<4:=(by omega);clear h4
   go_enter func185,ntmps185
   go_wp2_with fail
   try rw[show decide ((r.locals.length:Int)<4)=false from decide_eq_false (by omega)]
   refine l0.out.mono ?_;rintro e w1 ⟨rfl,g0⟩;exact⟨rfl,.inr ⟨f0.out,rfl,HH.out.gone g0⟩⟩
  have f0:Hid (r.target x=some (r.cells.length+r.locals.length,{r with locals:=r.locals++[x]})):=(by show _=_;rw[HT.out,if_neg h0,if_neg h4]);have b4:(r.locals.length:Int)<4:=(by omega);obtain⟨W2,i0,n0,b0⟩:=HH.out.nv.put x hx (by rw[<-t0.out];omega) (by simp;omega);have hlen:=HH.out.nv.len;obtain⟨nn,j0⟩:=nmE ((r.cells++r.locals).length);rw[<-j0]at i0 hlen;have x0:Hid (nn=r.cells.length+r.locals.length):=(by show _=_;rw[j0];simp);have q2:∀k,k<w.heap.size->k≠vm->W2.heap[k]?=w.heap[k]?:=λk hk y0=>b0.block k hk (by simpa using y0);have d0:W2.cell? ⟨R,0,none⟩=some (.pointer (some ⟨Pb,0,none⟩)):=(Qc (a:=⟨R,0,none⟩) (q2 R (by omega) (by omega))).trans c0;have d3:W2.cell? ⟨Pb,3,none⟩=some (.int .i64 r.locals.length):=(Qc (a:=⟨Pb,3,none⟩) (q2 Pb (by omega) (by omega))).trans p3;have dz:∀j,W2.frozen? ⟨Pb,j,none⟩=false:=λj=>(Qd (a:=⟨Pb,j,none⟩) (q2 Pb (by omega) (by omega))).trans (HH.out.cP.z j);have E0:=b0.size;have HF:Hid (Zw lo base R Pb lm vm cm w0 (W2.setCell ⟨Pb,3,none⟩ (.int .i64 ((r.locals.length:Int)+1))) {r with locals:=r.locals++[x]} line m/\w.heap.size<=(W2.setCell ⟨Pb,3,none⟩ (.int .i64 ((r.locals.length:Int)+1))).heap.size/\∀b,b<w.heap.size->b≠vm->b≠Pb->(W2.setCell ⟨Pb,3,none⟩ (.int .i64 ((r.locals.length:Int)+1))).heap[b]?=w.heap[b]?):=by
   have o0:∀b,b<w.heap.size->b≠vm->b≠Pb->(W2.setCell ⟨Pb,3,none⟩ (.int .i64 ((r.locals.length:Int)+1))).heap[b]?=w.heap[b]?:=λb g0 z0 A0=>by rw[Zx _ _ _ _ _ A0];exact q2 b g0 z0
   refine⟨HH.out.addLocal q0 x (by omega) (by rw[Zu];omega) o0 ?_ ?_ ?_,by rw[Zu];omega,o0⟩
   ·exact(HH.out.bel.grown b0 (by have:=HH.out.bel.size;omega) (λk hk=>by simp only[Option.some.injEq]at hk;omega)).setCell (by show lo<=Pb;omega) _
   ·have hc:=(HH.out.cP.block (w':=W2) (q2 Pb (by omega) (by omega))).set (j:=3) (by omega) (.int .i64 ((r.locals.length:Int)+1))
    refine hc.congr λk hk=>?_;rcases(show k=0\/k=1\/k=2\/k=3\/k=4 by omega) with rfl|rfl|rfl|rfl|rfl<;>rfl
   rw[<-List.append_assoc];exact n0.block (Zx _ _ _ _ _ (by omega))
  clear b0 n0 q2 h4 j0
  go_enter func185,ntmps185
  go_wp2_with fail
  refine m0.out.mono ?_;rintro e w1 ⟨rfl,p0⟩;rw[p0];clear p0 w1 m0 l0;go_wp2;go_ret;exact .inl ⟨_,_,f0.out,by rw[<-x0.out];rfl,HF.out⟩
end
section
variable{lo base R Pb lm vm cm:Nat}{w0 w w':World}{r:Fl.RS}{line:Int}{m:Yk}
def Jz(gs:List GF):Value:=match gs with
 |[]=> .pointer none
 |g::_=> .pointer (some ⟨g.ob,0,none⟩)
def zn3(h:Zw lo base R Pb lm vm cm w0 w r line m):∃ao cap,m.ov=.slice ao r.fr.length cap/\r.fr.length<=cap/\(0<r.fr.length->∃g,ao=some ⟨g,0,none⟩/\base<=g/\g<w.heap.size/\w.cell? ⟨g,r.fr.length - 1,none⟩=some (Jz m.gs)):=by
 have hl:=h.re.fa.len;rcases h.re.oo.2 with⟨h1,h2⟩|⟨g,cap,cur,h1,hb,hg,b0,c0,d0,ht⟩
 ·exact⟨none,0,by rw[h1,h2],by omega,λh0=>by omega⟩
 refine⟨_,cap,h1,by omega,λh0=>⟨g,rfl,hb,(Array.getElem?_eq_some_iff.1 hg).1,?_⟩⟩
 have h4:=h.re.oo.cells (g:=g) (by rw[h1];rfl) (r.fr.length - 1) (Jz m.gs) (by
  cases a0:m.gs with
  |nil=>rw[a0]at hl;simp at hl;omega
  |cons a l=>
   rw[a0]at hl;simp only[List.map_cons,List.reverse_cons,List.length_cons]at hl⊢;rw[List.getElem?_append_right (by simp;omega)];simp only[List.length_reverse,List.length_map]
   rw[show r.fr.length - 1 - l.length=0 by omega];rfl)
 have h5:(⟨g,0,none⟩:Addr).add (r.fr.length - 1)=⟨g,r.fr.length - 1,none⟩:=by unfold Addr.add;split<;>simp_all
 rw[h5]at h4;exact h4
def zx0(h:Zw lo base R Pb lm vm cm w0 w r line m):
  Calls prog 187 #[.pointer (some ⟨R,0,none⟩)] w λe w'=>e=.returned (Jz m.gs)/\Below w.heap.size w w'/\w'.heap=w.heap:=by
 obtain⟨ao,cap,f0,c0,a0⟩:=zn3 h
 have c43:w.cell? ⟨R,43,none⟩=some (.slice ao r.fr.length cap):=by rw[<-f0];exact h.cR.c 43 (by omega)
 have hl:=h.re.fa.len;have g0:=h.ok.fr
 by_cases h0:r.fr.length=0
 ·have b0:((r.fr.length:Int)==0)=true:=by rw[h0];rfl
  have HG:Hid (m.gs=[]):=Qi (by omega);clear a0 h0 hl h
  go_enter func187,ntmps187
  go_wp2;go_ret;exact⟨by rw[HG.out];rfl,Below.refl _ _,rfl⟩
 have b0:((r.fr.length:Int)==0)=false:=by rw[Qh];omega
 obtain⟨g,rfl,j0,k0,d0⟩:=a0 (by omega);obtain⟨n,hn⟩:∃n,r.fr.length=n+1:=⟨r.fr.length - 1,by omega⟩;rw[hn]at c43 d0 b0 c0;rw[Nat.add_sub_cancel]at d0;obtain⟨lv,e0⟩:=nmE (Jz m.gs);rw[<-e0]at d0⊢;have hlvs:∃q,lv=.pointer (some ⟨q,0,none⟩):=by
  rw[e0]
  cases i0:m.gs with
  |nil=>rw[i0]at hl;simp at hl;omega
  |cons a l=>exact⟨_,rfl⟩
 obtain⟨q,rfl⟩:=hlvs
 have l0:(n:Int)<=2:=by omega
 have m0:(0:Int)<=(n:Int):=by omega
 clear h0 hl h f0 e0 hn g0;have n0:n+1<=cap:=c0
 have o0:IntKind.i64.wrap (n:Int)=(n:Int):=by simp[IntKind.wrap,IntKind.signed,IntKind.bits];omega
 have p0:(n:Int)<(n:Int)+1:=by omega
 go_enter func187,ntmps187
 go_wp2_with fail
 refine wp_region_still_lit (by kernel_rfl) (by kernel_rfl) ?_
 iterate 13 still_step
 refine wpStill_nil ?_;go_wp2;go_ret;exact⟨rfl,(Below.refl _ _).drew,rfl⟩
end
def Tryz.infoPStmt:(Tryz.prog.info? 220).map (λi=>(i.zero,i.size,i.bytes))=some (some (.pointer none),1,8):=by kernel_rfl
structure Jf(e:TypeId)(lo base:Nat)(w0 W w':World)(sb si:Nat)(av v':Value)(n:Nat)(xs:List Value)(x:Value):Prop where
 own:w'.ownsRow base e 1 v' (n+1) (xs++[x])
 wh:v'.ownBlock=av.ownBlock\/∃g,v'.ownBlock=some g/\W.heap.size<=g
 hz:W.heap.size<=w'.heap.size
 q:∀b,b<W.heap.size->b≠sb->av.ownBlock≠some b->w'.heap[b]?=W.heap[b]?
 cs:∀nn f,Zn W sb nn f->si<nn->Zn w' sb nn (λi=>if i=si then v' else f i)
 bel:Below lo w0 w'
section
variable{lo base R Pb lm vm cm:Nat}{w0 w w':World}{r:Fl.RS}{line:Int}{m:Yk}
def Jf.of{e:TypeId}{W W4:World}{sb si n:Nat}{o:Obj}{av v' x:Value}{xs:List Value}(hb:Below lo w0 W)(d0:lo<=sb)(hlb:lo<=base)(e0:lo<=W.heap.size)(ho:W4.ownsRow base e 1 v' (n+1) (xs++[x]))(hg:(W.alloc o).grownBy W4 av.ownBlock)(hw:v'.ownBlock=av.ownBlock\/v'.ownBlock=some (W.alloc o).heap.size)(b0:∀k,av.ownBlock=some k->base<=k/\k<W.heap.size/\k≠sb)(f0:sb<W.heap.size):
  Jf e lo base w0 W (W4.setCell ⟨sb,si,none⟩ v') sb si av v' n xs x:=by
 have k0:(W.alloc o).heap.size=W.heap.size+1:=by simp
 have l0:=hg.size;have hq:∀b,b<W.heap.size->av.ownBlock≠some b->W4.heap[b]?=W.heap[b]?:=λb c0 g0=>(hg.block b (by omega) (λhh=>g0 hh.symm)).trans (((Below.refl W.heap.size W).alloc (Nat.le_refl _) o).block b c0);have h0:W4.heap[sb]?=W.heap[sb]?:=hq sb f0 (λhh=>(b0 sb hh).2.2 rfl)
 have i0:∀b,v'.ownBlock=some b->b≠sb:=λb a0 he=>by
  rcases hw with hw|hw
  ·exact(b0 b (hw.symm.trans a0)).2.2 he
  rw[hw]at a0;simp only[Option.some.injEq]at a0;omega
 refine⟨Zh ho (λb a0=>Zx _ _ _ _ _ (i0 b a0)),?_,by rw[Zu];omega,λb c0 hb2 hb3=>?_,λnn f hc hsi=>(hc.block h0).set hsi v',?_⟩
 ·rcases hw with hw|hw
  ·exact .inl hw
  exact .inr ⟨_,hw,by omega⟩
 ·rw[Zx _ _ _ _ _ hb2];exact hq b c0 hb3
 have j0:Below lo w0 W4:=(hb.alloc e0 o).grown hg (by omega) (λk hk=>by have:=(b0 k hk).1;omega);exact j0.setCell d0 _
def Zw.other(h:Zw lo base R Pb lm vm cm w0 w r line m)(b j:Nat)(v:Value)(hb:base<=b)(h5:m.who b=5):Zw lo base R Pb lm vm cm w0 (w.setCell ⟨b,j,none⟩ v) r line m:=by
 obtain⟨b1,b2,b3,b4,b5,b6⟩:=h.hba;obtain⟨l1,l2,l3,l4,l5⟩:=h.hlo;have hz:(w.setCell ⟨b,j,none⟩ v).heap.size=w.heap.size:=Zu _ _ _;have q:∀k,k≠b->(w.setCell ⟨b,j,none⟩ v).heap[k]?=w.heap[k]?:=λk hk=>Zx _ _ _ _ _ hk;exact{ok:=h.ok,bel:=h.bel.setCell (by show lo<=b;omega) _,fx:=λb' f1 f2 f3 f4 f5 f6=>(q b' (by omega)).trans (h.fx b' f1 f2 f3 f4 f5 f6),hlo:=h.hlo,hba:=⟨b1,b2,b3,b4,b5,by omega⟩,nd:=h.nd,cR:=h.cR.block (q _ (by omega)),cP:=h.cP.block (q _ (by omega)),nl:=h.nl.block (q _ (by omega)),nv:=h.nv.block (q _ (by omega)),nc:=h.nc.block (q _ (by omega)),tab:=h.tab,re:=h.re.kept (by omega) (λk hk=>q k (λhe=>hk (by rw[he];exact h5)))}
def Zw.count(h:Zw lo base R Pb lm vm cm w0 w r line m)(hb:r.begun=true)(hs:r.stmts<16):Zw lo base R Pb lm vm cm w0 (w.setCell ⟨R,44,none⟩ (.int .i64 ((r.stmts:Int)+1))) {r with stmts:=r.stmts+1} line m:=by
 obtain⟨b1,b2,b3,b4,b5,b6⟩:=h.hba;obtain⟨l1,l2,l3,l4,l5⟩:=h.hlo;obtain⟨n1,n2,n3,n4,n5,n6,n7,n8,n9,n10⟩:=h.nd;have hz:(w.setCell ⟨R,44,none⟩ (.int .i64 ((r.stmts:Int)+1))).heap.size=w.heap.size:=Zu _ _ _;have q:∀k,k≠R->(w.setCell ⟨R,44,none⟩ (.int .i64 ((r.stmts:Int)+1))).heap[k]?=w.heap[k]?:=λk hk=>Zx _ _ _ _ _ hk;have hr:=h.re.kept (w':=w.setCell ⟨R,44,none⟩ (.int .i64 ((r.stmts:Int)+1))) (by omega) (λk hk=>q k (by have:=h.re.wh k hk;omega))
 exact{
     ok:={cn:=h.ok.cn.mono (by show r.stmts<=r.stmts+1;omega),lv:=h.ok.lv,ce:=h.ok.ce,ch:=h.ok.ch,lo:=h.ok.lo,st:=(by show r.stmts+1<=16;omega),fr:=h.ok.fr,cl:=h.ok.cl,hl:=h.ok.hl,pairs:=h.ok.pairs,kinds:=h.ok.kinds,head:=λhh=>(by rw[show ({r with stmts:=r.stmts+1}:Fl.RS).begun=r.begun from rfl,hb]at hh;cases hh),below:=h.ok.below,clv:=h.ok.clv,chv:=h.ok.chv,lat:=h.ok.lat},bel:=h.bel.setCell (by show lo<=R;omega) _,fx:=λb f1 f2 f3 f4 f5 f6=>(q b f2).trans (h.fx b f1 f2 f3 f4 f5 f6),hlo:=h.hlo,hba:=⟨b1,b2,b3,b4,b5,by omega⟩,nd:=h.nd,cR:=(h.cR.set (j:=44) (by omega) (.int .i64 ((r.stmts:Int)+1))).congr (λj hj=>by
      by_cases h4:j=44
      ·subst h4;rfl
      rw[if_neg h4];unfold Xv
      by_cases hs:j=0\/j=1\/j=2\/j=3\/j=40\/j=41\/j=42\/j=43
      ·rcases hs with rfl|rfl|rfl|rfl|rfl|rfl|rfl|rfl<;>rfl
      rw[if_neg (show ¬j=0 by omega),if_neg (show ¬j=1 by omega),if_neg (show ¬j=2 by omega),if_neg (show ¬j=3 by omega),if_neg (show ¬j=40 by omega),if_neg (show ¬j=41 by omega),if_neg (show ¬j=42 by omega),if_neg (show ¬j=43 by omega),if_neg h4]
      rw[if_neg (show ¬j=0 by omega),if_neg (show ¬j=1 by omega),if_neg (show ¬j=2 by omega),if_neg (show ¬j=3 by omega),if_neg (show ¬j=40 by omega),if_neg (show ¬j=41 by omega),if_neg (show ¬j=42 by omega),if_neg (show ¬j=43 by omega),if_neg h4]),cP:=h.cP.block (q _ (Ne.symm n1)),nl:=h.nl.block (q _ (Ne.symm n2)),nv:=h.nv.block (q _ (Ne.symm n3)),nc:=h.nc.block (q _ (Ne.symm n4)),tab:=h.tab,re:={wh:=hr.wh,oc:=hr.oc,tc:=hr.tc,oh:=hr.oh,th:=hr.th,pb:=hr.pb,tb:=hr.tb,fa:=hr.fa,oo:=hr.oo,to:=hr.to,la:=hr.la}}
def Uv(Pb:Nat):List GF->Nat
 |[]=>Pb
 |g::_=>g.sb
def zu9:List Fl.Frame->Nat
 |[]=>4
 |f::_=>if f.had then 5 else 4
def Jt(bv:Value):List Fl.Frame->List GF->Value
 |f::_,g::_=>g.act f
 |_,_=>bv
def zd0{d:Nat}{S:Nat->Prop}{W:World}{v:Value}{ts:List Fl.Stmt}{tl:List Value}(h:Zd d S base W v ts tl):∃xs,W.ownsRow base 220 1 v (ts.length+tl.length) xs:=by
 obtain⟨ps,h1,h2,_⟩:=h;exact⟨_,by rw[<-h2];exact h1⟩
def Up{e:TypeId}{W:World}{v:Value}{n:Nat}{xs:List Value}(h:W.ownsRow base e 1 v n xs):∃ao cap,v=.slice ao n cap:=by
 rcases h.2 with⟨h1,h2⟩|⟨g,cp,cur,h1,_⟩
 ·exact⟨none,0,by rw[h1,h2]⟩
 exact⟨_,cp,h1⟩
def act_at(h:Zw lo base R Pb lm vm cm w0 w r line m):∃n xs ao cap,Jt m.bv r.fr m.gs=.slice ao n cap/\n<=16/\w.ownsRow base 220 1 (Jt m.bv r.fr m.gs) n xs/\w.cell? ⟨Uv Pb m.gs,zu9 r.fr,none⟩=some (Jt m.bv r.fr m.gs)/\(∀j,w.frozen? ⟨Uv Pb m.gs,j,none⟩=false)/\Uv Pb m.gs<w.heap.size/\lo<=Uv Pb m.gs/\(∀k,(Jt m.bv r.fr m.gs).ownBlock=some k->base<=k/\k<w.heap.size/\k≠Uv Pb m.gs)/\
  ((m.gs=[]/\r.fr=[])\/∃f fs g gs,r.fr=f::fs/\m.gs=g::gs/\w.cell? ⟨g.ob,0,none⟩=some (.pointer (some ⟨g.sb,0,none⟩))/\w.cell? ⟨g.ob,1,none⟩=some (.bool f.had)):=by
 have hl:=h.re.fa.len;have hba:=h.hba;have hlo:=h.hlo;have hst:=h.ok.st;have d0:=h.ok.cn
 cases b0:m.gs with
 |nil=>
  have a0:r.fr=[]:=(by rw[b0]at hl;simp at hl;exact Qi hl.symm);have hp:=h.re.pb;rw[b0]at hp;obtain⟨xs,hx⟩:=zd0 hp;obtain⟨ao,cap,hs⟩:=Up hx;rw[a0];simp only[Xh,List.length_nil,Nat.add_zero]at hx hs;refine⟨_,xs,ao,cap,hs,?_,hx,h.cP.c 4 (by omega),h.cP.z,by show Pb<_;omega,by show lo<=Pb;omega,λk hk=>?_,.inl ⟨rfl,rfl⟩⟩
  ·have:=d0.1;omega
  have:=hx.lt k hk;exact⟨this.1,this.2,by show k≠Pb;omega⟩
 |cons g gs=>
  cases a0:r.fr with
  |nil=>rw[b0,a0]at hl;simp at hl
  |cons f fs=>
   have e0:=h.re.fa;rw[b0,a0]at e0;obtain⟨hf,_⟩:=e0;obtain⟨xs,hx⟩:=zd0 hf.pa;obtain⟨ao,cap,hs⟩:=Up hx;simp only[List.length_nil,Nat.add_zero]at hx hs;have c0:=d0.2;rw[a0]at c0;have f0:=h.re.wh g.sb (by rw[hf.ts];omega);refine⟨_,xs,ao,cap,hs,?_,hx,?_,hf.cs.z,f0.2,by show lo<=g.sb;omega,λk hk=>?_,.inr ⟨f,fs,g,gs,rfl,rfl,hf.co.c 0 (by omega),hf.co.c 1 (by omega)⟩⟩
   ·have h1:=c0.1;have h2:=c0.2.1
    split<;>rename_i hh<;>simp[hh]at h1 h2<;>omega
   ·show w.cell? ⟨g.sb,if f.had then 5 else 4,none⟩=some (g.act f)
    unfold GF.act
    cases hh:f.had
    ·exact hf.cs.c 4 (by omega)
    exact hf.cs.c 5 (by omega)
   have:=hx.lt k hk;refine⟨this.1,this.2,λhe=>?_⟩;have h1:=hf.ta k hk;have he':k=g.sb:=he;rw[he',hf.ts]at h1;omega
def Jk(lo base R Pb lm vm cm:Nat)(w0:World)(r:Fl.RS)(line:Int)(m:Yk)(sn:Nat)(kind x:Int)(vp:Value)(w:World)(e:Ending)(w':World):Prop:=
 (16<=r.stmts/\e=.panicked (Zq 5 line)/\zyw lo base R Pb lm vm cm w0 w')\/(r.stmts<16/\e=.returned (.tuple #[])/\∃W2,Zw lo base R Pb lm vm cm w0 W2 {r with stmts:=r.stmts+1} line m/\W2.heap.size=w.heap.size/\(∀b,b≠R->b≠sn->W2.heap[b]?=w.heap[b]?)/\
  Zn W2 sn 6 (rw_ [.int .i64 kind,.int .i64 line,.int .i64 x,vp,.slice none 0 0,.slice none 0 0])/\∃n xs v',W2.ownsRow base 220 1 (Jt m.bv r.fr m.gs) n xs/\Jf 220 lo base w0 W2 w' (Uv Pb m.gs) (zu9 r.fr) (Jt m.bv r.fr m.gs) v' n xs (ptr sn))
def zd1(h:Zw lo base R Pb lm vm cm w0 w r line m)(e1:r.begun=true)(sn:Nat)(kind x:Int)(vp:Value)(f1:base<=sn)(g1:m.who sn=5)(hsz:sn<w.heap.size)(Q0:Zn w sn 6 (rw_ [.int .i64 kind,.int .i64 0,.int .i64 x,vp,.slice none 0 0,.slice none 0 0])):
  Calls prog 184 #[.pointer (some ⟨R,0,none⟩),.pointer (some ⟨sn,0,none⟩)] w (Jk lo base R Pb lm vm cm w0 r line m sn kind x vp w):=by
 have hst:=h.ok.st;have c44:w.cell? ⟨R,44,none⟩=some (.int .i64 r.stmts):=h.cR.c 44 (by omega);have zR:=h.cR.z;have hba:=h.hba;have hlo:=h.hlo;have HH:=Zz h;have R0:Hid (Calls prog 106 #[.pointer (some ⟨R,0,none⟩),.bool false,.int .i64 5] w λe w'=>e=.panicked (Zq 5 line)/\Below w.heap.size w w'):=Yr R 5 line w (h.cR.c 1 (by omega));have S0:Hid (Calls prog 106 #[.pointer (some ⟨R,0,none⟩),.bool true,.int .i64 5] w λe w'=>e=.returned (.tuple #[])/\w'=w):=Yd R 5 w;have H0:=Zz Q0;clear h Q0
 by_cases i1:16<=r.stmts
 ·have b16:¬(r.stmts:Int)<16:=by omega
  go_enter func184,ntmps184
  go_wp2_with fail
  try rw[show decide ((r.stmts:Int)<16)=false from decide_eq_false (by omega)]
  refine R0.out.mono ?_;rintro e w1 ⟨rfl,j1⟩;exact⟨rfl,.inl ⟨i1,rfl,HH.out.gone j1⟩⟩
 have b16:(r.stmts:Int)<16:=by omega
 have k1:R≠sn:=by omega
 obtain⟨W1,o0⟩:=nmE (w.setCell ⟨R,44,none⟩ (.int .i64 ((r.stmts:Int)+1)));obtain⟨W2,q0⟩:=nmE (W1.setCell ⟨sn,1,none⟩ (.int .i64 line))
 have H1:Zw lo base R Pb lm vm cm w0 W1 {r with stmts:=r.stmts+1} line m:=by rw[o0];exact HH.out.count e1 (by omega)
 have H2:Zw lo base R Pb lm vm cm w0 W2 {r with stmts:=r.stmts+1} line m:=by rw[q0];exact H1.other sn 1 _ f1 g1
 have I0:Zn W1 sn 6 (rw_ [.int .i64 kind,.int .i64 0,.int .i64 x,vp,.slice none 0 0,.slice none 0 0]):=by rw[o0];exact H0.out.block (Zx _ _ _ _ _ (Ne.symm k1))
 have T0:Hid (Zn W2 sn 6 (rw_ [.int .i64 kind,.int .i64 line,.int .i64 x,vp,.slice none 0 0,.slice none 0 0])):=by
  rw[q0];refine(I0.set (j:=1) (by omega) (.int .i64 line)).congr λk hk=>?_;rcases(show k=0\/k=1\/k=2\/k=3\/k=4\/k=5 by omega) with rfl|rfl|rfl|rfl|rfl|rfl<;>rfl
 have U0:=Zz H2
 have V0:Hid (W2.heap.size=w.heap.size):=by show _=_;rw[q0,Zu,o0,Zu]
 have W0:Hid (∀b,b≠R->b≠sn->W2.heap[b]?=w.heap[b]?):=λb h1 h2=>by rw[q0,Zx _ _ _ _ _ h2,o0,Zx _ _ _ _ _ h1]
 have d1:(w.setCell ⟨R,44,none⟩ (.int .i64 ((r.stmts:Int)+1))).cell? ⟨R,1,none⟩=some (.int .i64 line):=by rw[<-o0];exact H1.cR.c 1 (by omega)
 have s1:(w.setCell ⟨R,44,none⟩ (.int .i64 ((r.stmts:Int)+1))).cell? ⟨sn,1,none⟩=some (.int .i64 0):=by rw[<-o0];exact I0.c 1 (by omega)
 have sz1:∀j,w.frozen? ⟨sn,j,none⟩=false:=H0.out.z
 have e0:((w.setCell ⟨R,44,none⟩ (.int .i64 ((r.stmts:Int)+1))).setCell ⟨sn,1,none⟩ (.int .i64 line)).cell? ⟨R,0,none⟩=some (.pointer (some ⟨Pb,0,none⟩)):=by rw[<-o0,<-q0];exact H2.cR.c 0 (by omega)
 have X0:Hid (W2=(w.setCell ⟨R,44,none⟩ (.int .i64 ((r.stmts:Int)+1))).setCell ⟨sn,1,none⟩ (.int .i64 line)):=by show _=_;rw[q0,o0]
 have Y0:Hid (Calls prog 187 #[.pointer (some ⟨R,0,none⟩)] W2 λe w'=>e=.returned (Jz m.gs)/\Below W2.heap.size W2 w'/\w'.heap=W2.heap):=zx0 H2;clear H1 H2 I0 o0 q0
 go_enter func184,ntmps184
 go_wp2_with fail
 refine S0.out.mono ?_;rintro e w1 ⟨rfl,Z0⟩;rw[Z0];clear Z0 w1 S0 R0
 go_wp2_with fail
 rw[<-X0.out];refine Y0.out.mono ?_;rintro e W3 ⟨rfl,a1,E0⟩;have F0:Hid (Zw lo base R Pb lm vm cm w0 W3 {r with stmts:=r.stmts+1} line m):=U0.out.below a1;have l1:Hid (Zn W3 sn 6 (rw_ [.int .i64 kind,.int .i64 line,.int .i64 x,vp,.slice none 0 0,.slice none 0 0])):=T0.out.block (by rw[E0])
 have m1:Hid (W3.heap.size=w.heap.size):=by show _=_;rw[E0];exact V0.out
 have n1:Hid (∀b,b≠R->b≠sn->W3.heap[b]?=w.heap[b]?):=λb h1 h2=>by rw[E0];exact W0.out b h1 h2
 clear a1 E0 U0 T0 V0 W0 Y0 X0 d1 s1 sz1 e0 c44 zR H0;obtain⟨n,xs,ao,cap,b1,o1,x0,p0,s0,f0,y0,z0,A0⟩:=act_at F0.out;have B0:=Zz b1
 have g0:Hid (W3.ownsRow base 220 1 (.slice ao n cap) n xs):=by show World.ownsRow _ _ _ _ _ _ _;rw[<-B0.out];exact x0
 have h0:Hid (∀k,(Value.slice ao n cap).ownBlock=some k->base<=k/\k<W3.heap.size/\k≠Uv Pb m.gs):=by rw[<-B0.out];exact z0
 have J0:=Zz F0.out.bel
 have hcell':W3.cell? ⟨Uv Pb m.gs,zu9 r.fr,none⟩=some (.slice ao n cap):=by rw[<-B0.out];exact p0
 have K0:base<=W3.heap.size:=F0.out.hba.2.2.2.2.2
 have j0:Hid (∀(W4:World) (v':Value) (o:Obj),W4.ownsRow base 220 1 v' (n+1) (xs++[ptr sn])->(W3.alloc o).grownBy W4 (Value.slice ao n cap).ownBlock->(v'.ownBlock=(Value.slice ao n cap).ownBlock\/v'.ownBlock=some (W3.alloc o).heap.size)->
   Jk lo base R Pb lm vm cm w0 r line m sn kind x vp w (.returned (.tuple #[])) (W4.setCell ⟨Uv Pb m.gs,zu9 r.fr,none⟩ v')):=λW4 v' o h1 h2 h3=>
  .inr ⟨by omega,rfl,W3,F0.out,m1.out,n1.out,l1.out,n,xs,v',by rw[B0.out];exact g0.out,by rw[B0.out];exact Jf.of J0.out y0 (by omega) (by omega) h1 h2 h3 h0.out f0⟩
 have t0:∀i u,([.pointer (some ⟨sn,0,none⟩)]:List Value)[i]?=some u->(W3.alloc (.cells #[.pointer (some ⟨sn,0,none⟩)] 220)).cell? ((⟨W3.heap.size,0,none⟩:Addr).add i)=some u:=zy0;obtain⟨i0,L0,M0,N0,O0⟩:=info_parts Tryz.infoPStmt;clear b1 x0 p0 z0 y0;rcases A0 with⟨P0,c1⟩|⟨f,fs,g,gs,G0,u0,co0,co1⟩
 ·have hL:Jz m.gs=.pointer none:=by rw[P0];rfl
  have c0:Uv Pb m.gs=Pb:=(by rw[P0];rfl);have k0:zu9 r.fr=4:=(by rw[c1];rfl);have c4:W3.cell? ⟨Pb,4,none⟩=some (.slice ao n cap):=(by rw[<-c0,<-k0];exact hcell')
  have hfz':∀j,W3.frozen? ⟨Pb,j,none⟩=false:=λj=>by rw[<-c0];exact s0 j
  have b0:Hid (∀(W4:World) (v':Value) (o:Obj),W4.ownsRow base 220 1 v' (n+1) (xs++[ptr sn])->(W3.alloc o).grownBy W4 (Value.slice ao n cap).ownBlock->(v'.ownBlock=(Value.slice ao n cap).ownBlock\/v'.ownBlock=some (W3.alloc o).heap.size)->
   Jk lo base R Pb lm vm cm w0 r line m sn kind x vp w (.returned (.tuple #[])) (W4.setCell ⟨Pb,4,none⟩ v')):=by
   intro W4 v' o h1 h2 h3;have:=j0.out W4 v' o h1 h2 h3;rw[c0,k0]at this;exact this
  have r0:Pb<W3.heap.size:=(by rw[<-c0];exact f0);have n0:Hid (∀k,(Value.slice ao n cap).ownBlock=some k->base<=k/\k<W3.heap.size/\k≠Pb):=(by rw[<-c0];exact h0.out);rw[hL];clear hL c0 k0 P0 c1 hcell' s0 f0 j0 h0
  go_wp2_with (at_builtin;refine Zk _ rfl (.tmp 56) (.tmp 58) 90 rfl base 220 i0 (.pointer none) 1 8 underlying90 L0 M0 N0 O0 rfl (by decide) _ _ _ rfl (g0.out.alloc _) ⟨_,0,none⟩ 1 1 [.pointer (some ⟨sn,0,none⟩)] rfl rfl (by decide) t0 ?c2 ?c3 ?c4 ?c5 ?_)
  case c2=>intro u hu;simp at hu;subst hu;rfl
  case c3=>unfold maxLen;omega
  case c4=>omega
  case c5=>simp;omega
  intro v' W4 a0 l0 d0;obtain⟨va,vcap,rfl⟩:=Up a0;have m0:W4.heap[Pb]?=W3.heap[Pb]?:=(l0.block Pb (by simp;omega) (λhh=>(n0.out Pb hh.symm).2.2 rfl)).trans (((Below.refl W3.heap.size W3).alloc (Nat.le_refl _) _).block Pb r0);have g4:W4.cell? ⟨Pb,4,none⟩=some (.slice ao n cap):=(Qc (a:=⟨Pb,4,none⟩) m0).trans c4;have gz:∀j,W4.frozen? ⟨Pb,j,none⟩=false:=λj=>(Qd (a:=⟨Pb,j,none⟩) m0).trans (hfz' j);have HE:Hid (Jk lo base R Pb lm vm cm w0 r line m sn kind x vp w (.returned (.tuple #[])) (W4.setCell ⟨Pb,4,none⟩ (.slice va (n+1) vcap))):=b0.out W4 _ _ a0 l0 (by rw[World.size_alloc];exact d0);clear a0 l0 d0 m0 b0 g0 n0;go_wp2
  go_end0
  exact HE.out
 cases v0:f.had with
 |false=>
  have hL:Jz m.gs=.pointer (some ⟨g.ob,0,none⟩):=(by rw[u0];rfl);have c0:Uv Pb m.gs=g.sb:=(by rw[u0];rfl);have k0:zu9 r.fr=4:=(by rw[G0];show (if f.had then 5 else 4)=4;rw[v0];rfl);have c4:W3.cell? ⟨g.sb,4,none⟩=some (.slice ao n cap):=(by rw[<-c0,<-k0];exact hcell')
  have hfz':∀j,W3.frozen? ⟨g.sb,j,none⟩=false:=λj=>by rw[<-c0];exact s0 j
  have n0:Hid (∀k,(Value.slice ao n cap).ownBlock=some k->base<=k/\k<W3.heap.size/\k≠g.sb):=(by rw[<-c0];exact h0.out)
  have b0:Hid (∀(W4:World) (v':Value) (o:Obj),W4.ownsRow base 220 1 v' (n+1) (xs++[ptr sn])->(W3.alloc o).grownBy W4 (Value.slice ao n cap).ownBlock->(v'.ownBlock=(Value.slice ao n cap).ownBlock\/v'.ownBlock=some (W3.alloc o).heap.size)->
  Jk lo base R Pb lm vm cm w0 r line m sn kind x vp w (.returned (.tuple #[])) (W4.setCell ⟨g.sb,4,none⟩ v')):=by
   intro W4 v' o h1 h2 h3;have:=j0.out W4 v' o h1 h2 h3;rw[c0,k0]at this;exact this
  have r0:g.sb<W3.heap.size:=(by rw[<-c0];exact f0);rw[v0]at co1;rw[hL];obtain⟨gb,C0⟩:=nmE (g.sb);obtain⟨go,D0⟩:=nmE (g.ob);rw[<-C0]at co0 c4 hfz' n0 b0 r0;rw[<-D0]at co0 co1⊢;clear hL c0 k0 u0 G0 hcell' s0 f0 j0 h0 v0 C0 D0
  go_wp2_with (at_builtin;refine Zk _ rfl (.tmp 56) (.tmp 58) 90 rfl base 220 i0 (.pointer none) 1 8 underlying90 L0 M0 N0 O0 rfl (by decide) _ _ _ rfl (g0.out.alloc _) ⟨_,0,none⟩ 1 1 [.pointer (some ⟨sn,0,none⟩)] rfl rfl (by decide) t0 ?c2 ?c3 ?c4 ?c5 ?_)
  case c2=>intro u hu;simp at hu;subst hu;rfl
  case c3=>unfold maxLen;omega
  case c4=>omega
  case c5=>simp;omega
  intro v' W4 a0 l0 d0;obtain⟨va,vcap,rfl⟩:=Up a0;have m0:W4.heap[gb]?=W3.heap[gb]?:=(l0.block gb (by simp;omega) (λhh=>(n0.out gb hh.symm).2.2 rfl)).trans (((Below.refl W3.heap.size W3).alloc (Nat.le_refl _) _).block gb r0);have g4:W4.cell? ⟨gb,4,none⟩=some (.slice ao n cap):=(Qc (a:=⟨gb,4,none⟩) m0).trans c4;have gz:∀j,W4.frozen? ⟨gb,j,none⟩=false:=λj=>(Qd (a:=⟨gb,j,none⟩) m0).trans (hfz' j);have HE:Hid (Jk lo base R Pb lm vm cm w0 r line m sn kind x vp w (.returned (.tuple #[])) (W4.setCell ⟨gb,4,none⟩ (.slice va (n+1) vcap))):=b0.out W4 _ _ a0 l0 (by rw[World.size_alloc];exact d0);clear a0 l0 d0 m0 b0 g0 n0;go_wp2
  go_end0
  exact HE.out
 |true=>
  have hL:Jz m.gs=.pointer (some ⟨g.ob,0,none⟩):=(by rw[u0];rfl);have c0:Uv Pb m.gs=g.sb:=(by rw[u0];rfl);have k0:zu9 r.fr=5:=(by rw[G0];show (if f.had then 5 else 4)=5;rw[v0];rfl);have c4:W3.cell? ⟨g.sb,5,none⟩=some (.slice ao n cap):=(by rw[<-c0,<-k0];exact hcell')
  have hfz':∀j,W3.frozen? ⟨g.sb,j,none⟩=false:=λj=>by rw[<-c0];exact s0 j
  have n0:Hid (∀k,(Value.slice ao n cap).ownBlock=some k->base<=k/\k<W3.heap.size/\k≠g.sb):=(by rw[<-c0];exact h0.out)
  have b0:Hid (∀(W4:World) (v':Value) (o:Obj),W4.ownsRow base 220 1 v' (n+1) (xs++[ptr sn])->(W3.alloc o).grownBy W4 (Value.slice ao n cap).ownBlock->(v'.ownBlock=(Value.slice ao n cap).ownBlock\/v'.ownBlock=some (W3.alloc o).heap.size)->
  Jk lo base R Pb lm vm cm w0 r line m sn kind x vp w (.returned (.tuple #[])) (W4.setCell ⟨g.sb,5,none⟩ v')):=by
   intro W4 v' o h1 h2 h3;have:=j0.out W4 v' o h1 h2 h3;rw[c0,k0]at this;exact this
  have r0:g.sb<W3.heap.size:=(by rw[<-c0];exact f0);rw[v0]at co1;rw[hL];obtain⟨gb,C0⟩:=nmE (g.sb);obtain⟨go,D0⟩:=nmE (g.ob);rw[<-C0]at co0 c4 hfz' n0 b0 r0;rw[<-D0]at co0 co1⊢;clear hL c0 k0 u0 G0 hcell' s0 f0 j0 h0 v0 C0 D0
  go_wp2_with (at_builtin;refine Zk _ rfl (.tmp 56) (.tmp 58) 90 rfl base 220 i0 (.pointer none) 1 8 underlying90 L0 M0 N0 O0 rfl (by decide) _ _ _ rfl (g0.out.alloc _) ⟨_,0,none⟩ 1 1 [.pointer (some ⟨sn,0,none⟩)] rfl rfl (by decide) t0 ?c2 ?c3 ?c4 ?c5 ?_)
  case c2=>intro u hu;simp at hu;subst hu;rfl
  case c3=>unfold maxLen;omega
  case c4=>omega
  case c5=>simp;omega
  intro v' W4 a0 l0 d0;obtain⟨va,vcap,rfl⟩:=Up a0;have m0:W4.heap[gb]?=W3.heap[gb]?:=(l0.block gb (by simp;omega) (λhh=>(n0.out gb hh.symm).2.2 rfl)).trans (((Below.refl W3.heap.size W3).alloc (Nat.le_refl _) _).block gb r0);have g4:W4.cell? ⟨gb,5,none⟩=some (.slice ao n cap):=(Qc (a:=⟨gb,5,none⟩) m0).trans c4;have gz:∀j,W4.frozen? ⟨gb,j,none⟩=false:=λj=>(Qd (a:=⟨gb,j,none⟩) m0).trans (hfz' j);have HE:Hid (Jk lo base R Pb lm vm cm w0 r line m sn kind x vp w (.returned (.tuple #[])) (W4.setCell ⟨gb,5,none⟩ (.slice va (n+1) vcap))):=b0.out W4 _ _ a0 l0 (by rw[World.size_alloc];exact d0);clear a0 l0 d0 m0 b0 g0 n0;go_wp2
  go_end0
  exact HE.out
end
section
variable{lo base R Pb lm vm cm:Nat}{w0 w w':World}{r:Fl.RS}{line:Int}{m:Yk}
structure LowAt(base:Nat)(w':World)(r:Fl.RS)(m:Yk)(who':Nat->Nat):Prop where
 oc:w'.ownsRow base 3 1 m.clv r.cellLv.length (Vz r.cellLv)/\∀b,m.clv.ownBlock=some b->who' b=3
 oh:w'.ownsRow base 3 1 m.chv r.chanLv.length (Vz r.chanLv)/\∀b,m.chv.ownBlock=some b->who' b=4
 pb:Zd 3 (λb=>who' b=0) base w' m.bv r.top (Xh m.gs)/\∀b,m.bv.ownBlock=some b->who' b=1
 oo:w'.ownsRow base 285 1 m.ov r.fr.length ((m.gs.map λg=>ptr g.ob).reverse)/\∀b,m.ov.ownBlock=some b->who' b=2
 la:r.begun=true->∃Lb,m.pl=ptr Lb/\who' Lb=0/\Un w' Lb r.levels.length r.tab
def zx9.low(h:zx9 base w r m)(who':Nat->Nat)(q:∀b,m.who b<5->who' b=m.who b/\w'.heap[b]?=w.heap[b]?):LowAt base w' r m who':=by
 have qq:∀(v:Value) (T:Nat),T<5->(∀b,v.ownBlock=some b->m.who b=T)->∀b,v.ownBlock=some b->who' b=T/\w'.heap[b]?=w.heap[b]?:=λv T hT hv b hb=>by
  have:=q b (by rw[hv b hb];exact hT);rw[hv b hb]at this;exact this
 have q0:∀b,m.who b=0->who' b=0/\w'.heap[b]?=w.heap[b]?:=λb hb=>by have:=q b (by rw[hb];decide);rw[hb]at this;exact this
 refine{oc:= ?_,oh:= ?_,pb:= ?_,oo:= ?_,la:=λhg=>?_}
 ·have q3:=qq m.clv 3 (by decide) h.tc;exact⟨Zh h.oc (λb hv=>(q3 b hv).2),λb hb=>(q3 b hb).1⟩
 ·have q3:=qq m.chv 4 (by decide) h.th;exact⟨Zh h.oh (λb hv=>(q3 b hv).2),λb hb=>(q3 b hb).1⟩
 ·have q3:=qq m.bv 1 (by decide) h.tb
  exact⟨h.pb.kept (λb hb=>(q0 b hb).1) (λb hb=>(q0 b hb).2) (λb hv=>(q3 b hv).2),λb hb=>(q3 b hb).1⟩
 ·have q3:=qq m.ov 2 (by decide) h.to;exact⟨Zh h.oo (λb hv=>(q3 b hv).2),λb hb=>(q3 b hb).1⟩
 obtain⟨Lb,l1,l2,l3⟩:=h.la hg;exact⟨Lb,l1,(q0 Lb l2).1,l3.block (q0 Lb l2).2⟩
def zl6{W:World}{e:TypeId}{v:Value}{n n':Nat}{xs ys:List Value}(h:W.ownsRow base e 1 v n xs)(k:W.ownsRow base e 1 v n' ys):n=n'/\xs=ys:=by
 have hx:xs.length=n:=by simpa using h.1
 have hy:ys.length=n':=by simpa using k.1
 obtain⟨ao,cap,hs⟩:=Up h;obtain⟨ao',cap',hs'⟩:=Up k;rw[hs]at hs';simp only[Value.slice.injEq]at hs';obtain⟨_,rfl,_⟩:=hs';refine⟨rfl,?_⟩;rcases h.2 with⟨h1,h2⟩|⟨g,cp,cur,h1,_⟩
 ·rw[Qi (by omega:xs.length=0),Qi (by omega:ys.length=0)]
 apply List.ext_getElem? 
 intro i
 by_cases hi:i<n
 ·have a1:=h.cells (g:=g) (by rw[h1];rfl) i (xs[i]'(by omega)) (Qb _)
  have a2:=k.cells (g:=g) (by rw[h1];rfl) i (ys[i]'(by omega)) (Qb _);rw[a1]at a2;rw[Qb (by omega),Qb (by omega)];exact a2
 rw[List.getElem?_eq_none (by omega),List.getElem?_eq_none (by omega)]
def Zd.snoc{d:Nat}{S S':Nat->Prop}{W:World}{v v':Value}{ts:List Fl.Stmt}{n:Nat}{xs:List Value}{s:Fl.Stmt}{p:Value}(h:Zd d S base W v ts [])(ho:W.ownsRow base 220 1 v n xs)(ho':w'.ownsRow base 220 1 v' (n+1) (xs++[p]))(hS:∀b,S b->S' b)(hw:∀b,S b->w'.heap[b]?=W.heap[b]?)(hp:Vj (Zt d) S' w' p s):Zd d S' base w' v' (ts++[s]) []:=by
 obtain⟨ps,h1,h2,h3⟩:=h;simp only[List.append_nil,List.length_nil,Nat.add_zero]at h1;obtain⟨rfl,rfl⟩:=zl6 h1 ho;refine⟨ps++[p],by simpa using ho',by simp[h2],λi hi=>?_⟩
 by_cases a0:i<ts.length
 ·have:=(h3 i a0).kept (λv l h=>Zt.kept hS hw d v l h) hS hw
  rw[Qa,List.getElem?_append_left (by omega),Qa,List.getElem?_append_left a0];rw[Qa,Qa]at this;exact this
 have b0:i=ts.length:=by simp at hi;omega
 subst b0;rw[Qa,List.getElem?_append_right (by omega),Qa,List.getElem?_append_right (by omega)];rw[h2];simpa using hp
def Vw(who:Nat->Nat)(z1 z2 T:Nat)(v':Value):Nat->Nat:=λb=>if z1<=b/\b<z2 then 0 else if v'.ownBlock=some b then T else who b
def zl7{who:Nat->Nat}{z1 z2 T:Nat}{v v':Value}(hI:∀b,who b≠5->b<z1)(hT:T≠5)(hv:∀b,v.ownBlock=some b->who b=T)(hz:z1<=z2)(hw:v'.ownBlock=v.ownBlock\/∃g,v'.ownBlock=some g/\z2<=g)(b:Nat)(h5:who b≠5):Vw who z1 z2 T v' b=who b:=by
 have h1:=hI b h5;unfold Vw;rw[if_neg (by omega)]
 by_cases hb:v'.ownBlock=some b
 ·rw[if_pos hb]
  rcases hw with hw|⟨g,hg,a0⟩
  ·exact(hv b (hw.symm.trans hb)).symm
  rw[hg]at hb;simp only[Option.some.injEq]at hb;omega
 rw[if_neg hb]
def zl8{who:Nat->Nat}{z1 z2 T:Nat}{v v':Value}(hI:∀b,who b≠5->b<z1)(hT:T≠5)(hv:∀b,v.ownBlock=some b->who b=T)(hw:v'.ownBlock=v.ownBlock\/∃g,v'.ownBlock=some g/\z2<=g)(b:Nat)(hb:v'.ownBlock=some b):Vw who z1 z2 T v' b=T:=by
 unfold Vw;rw[if_neg,if_pos hb];rintro⟨h1,h2⟩;rcases hw with hw|⟨g,hg,a0⟩
 ·have:=hI b (by rw[hv b (hw.symm.trans hb)];exact hT);omega
 rw[hg]at hb;simp only[Option.some.injEq]at hb;omega
def zl9(who:Nat->Nat)(z1 z2 T:Nat)(v':Value)(b:Nat)(h1:z1<=b)(h2:b<z2):Vw who z1 z2 T v' b=0:=if_pos ⟨h1,h2⟩
def zi9{who:Nat->Nat}{z1 z2 z3 T:Nat}{v':Value}(hI:∀b,who b≠5->base<=b/\b<z2)(b0:base<=z1)(hz:z2<=z3)(a0:∀b,v'.ownBlock=some b->base<=b/\b<z3)(b:Nat)(h:Vw who z1 z2 T v' b≠5):base<=b/\b<z3:=by
 unfold Vw at h
 by_cases h1:z1<=b/\b<z2
 ·omega
 rw[if_neg h1]at h
 by_cases h2:v'.ownBlock=some b
 ·exact a0 b h2
 rw[if_neg h2]at h;have:=hI b h;omega
end
section
variable{lo base R Pb lm vm cm:Nat}{w0 w w' W:World}{r:Fl.RS}{line:Int}{m:Yk}
def zsx(h:Zw lo base R Pb lm vm cm w0 W r line m){n:Nat}{xs:List Value}{v' x:Value}(G:Jf 220 lo base w0 W w' (Uv Pb m.gs) (zu9 r.fr) (Jt m.bv r.fr m.gs) v' n xs x)(ho:W.ownsRow base 220 1 (Jt m.bv r.fr m.gs) n xs):∀b,b<base->b≠Uv Pb m.gs->w'.heap[b]?=W.heap[b]?:=λb hb a0=>
 G.q b (by have:=h.hba;omega) a0 (λhv=>by have:=(ho.lt b hv).1;omega)
def Zw.putS(h:Zw lo base R Pb lm vm cm w0 W {r with stmts:=r.stmts+1} line m)(hb:r.begun=true){z1 sn kind x ln:Nat}{vp v':Value}{e:Fl.Expr}{n:Nat}{xs:List Value}(hI:∀b,m.who b≠5->b<z1)(y0:base<=z1)(p0:z1<=sn/\sn<W.heap.size)(E0:line=(ln:Int))(hst:zpz r.stmts r.fr r.top.length)
  (hc:Zn W sn 6 (rw_ [.int .i64 kind,.int .i64 line,.int .i64 x,vp,.slice none 0 0,.slice none 0 0])) (hv:zz3 (λb=>z1<=b/\b<W.heap.size) W vp e) (ho:W.ownsRow base 220 1 (Jt m.bv r.fr m.gs) n xs) (G:Jf 220 lo base w0 W w' (Uv Pb m.gs) (zu9 r.fr) (Jt m.bv r.fr m.gs) v' n xs (ptr sn)):
  ∃m',Zw lo base R Pb lm vm cm w0 w' (r.put ⟨kind,x,ln,e,[],[]⟩) line m':=by
 obtain⟨b1,b2,b3,b4,b5,b6⟩:=h.hba;obtain⟨n1,n2,n3,n4,n5,n6,n7,n8,n9,n10⟩:=h.nd;have hl:=h.re.fa.len;have hz:=G.hz;have a0:=zsx (r:={r with stmts:=r.stmts+1}) h G ho
 have z0:∀b,z1<=b->m.who b=5:=λb hb'=>Classical.byContradiction λhne=>by have:=hI b hne;omega
 have F0:=h.ok.st
 -- the new statement's own blocks stand
 have f0:∀b,z1<=b->b<W.heap.size->b≠Uv Pb m.gs->(∀k,(Jt m.bv r.fr m.gs).ownBlock=some k->m.who k≠5)->w'.heap[b]?=W.heap[b]?:=λb h1 h2 h3 h4=>G.q b h2 h3 (λhk=>h4 b hk (z0 b h1))
 have A0:∀(S':Nat->Prop) (d:Nat),(∀b,z1<=b->b<W.heap.size->S' b/\w'.heap[b]?=W.heap[b]?)->Vj (Zt d) S' w' (ptr sn) ⟨kind,x,ln,e,[],[]⟩:=λS' d hS=>by
  refine⟨sn,vp,.slice none 0 0,.slice none 0 0,rfl,(hS sn p0.1 p0.2).1,?_,hv.kept (λb hb'=>(hS b hb'.1 hb'.2).1) (λb hb'=>(hS b hb'.1 hb'.2).2),Zt.nil _ _ _,Zt.nil _ _ _⟩;have:=hc.block (w':=w') (hS sn p0.1 p0.2).2;rw[E0]at this;exact this
 cases d0:r.fr with
 |nil=>
  have e0:m.gs=[]:=by
   rw[show ({r with stmts:=r.stmts+1}:Fl.RS).fr=r.fr from rfl,d0]at hl;exact Qi (by simpa using hl)
  rw[d0,e0]at G ho f0;rw[e0]at a0;have i0:r.put ⟨kind,x,ln,e,[],[]⟩={r with top:=r.top++[⟨kind,x,ln,e,[],[]⟩],stmts:=r.stmts+1}:=(by unfold Fl.RS.put;rw[d0]);rw[i0];have q0:∀b,m.bv.ownBlock=some b->m.who b=1:=h.re.tb;have b0:=λb=>zl7 (z2:=W.heap.size) hI (by decide) q0 (by omega) G.wh b;have hq:∀b,m.who b≠5->m.who b≠1->w'.heap[b]?=W.heap[b]?:=λb h5 h1=>G.q b (h.re.wh b h5).2 (by have:=h.re.wh b h5;show b≠Pb;omega) (λhk=>h1 (q0 b hk));have t0:∀b,z1<=b->b<W.heap.size->Vw m.who z1 W.heap.size 1 v' b=0/\w'.heap[b]?=W.heap[b]?:=λb h1 h2=>⟨zl9 _ _ _ _ _ _ h1 h2,f0 b h1 h2 (by show b≠Pb;omega) (λk hk=>by rw[q0 k hk];decide)⟩;have c0:=h.re.but (w':=w') 1 (by decide) (Vw m.who z1 W.heap.size 1 v') (λb h5 h1=>⟨b0 b h5,hq b h5 h1⟩);refine⟨{m with bv:=v',who:=Vw m.who z1 W.heap.size 1 v'},?_⟩;refine{ok:= ?ok,bel:=G.bel,fx:=λb f1 f2 f3 f4 f5 f6=>(a0 b f1 f3).trans (h.fx b f1 f2 f3 f4 f5 f6),hlo:=h.hlo,hba:=⟨b1,b2,b3,b4,b5,by omega⟩,nd:=h.nd,cR:= ?cR,cP:= ?cP,nl:=h.nl.block (a0 _ b3 (Ne.symm n5)),nv:=h.nv.block (a0 _ b4 (Ne.symm n6)),nc:=h.nc.block (a0 _ b5 (Ne.symm n7)),tab:=h.tab,re:= ?re}
  case ok=>
   exact{cn:=⟨by have:=hst.1;simp[d0]at this⊢;omega,by rw[show ({r with top:=r.top++[⟨kind,x,ln,e,[],[]⟩],stmts:=r.stmts+1}:Fl.RS).fr=r.fr from rfl,d0];trivial⟩,lv:=h.ok.lv,ce:=h.ok.ce,ch:=h.ok.ch,lo:=h.ok.lo,st:=h.ok.st,fr:=h.ok.fr,cl:=h.ok.cl,hl:=h.ok.hl,pairs:=h.ok.pairs,kinds:=h.ok.kinds,head:=λhh=>(by rw[show ({r with top:=r.top++[⟨kind,x,ln,e,[],[]⟩],stmts:=r.stmts+1}:Fl.RS).begun=r.begun from rfl,hb]at hh;cases hh),below:=h.ok.below,clv:=h.ok.clv,chv:=h.ok.chv,lat:=h.ok.lat}
  case cR=>
   refine(h.cR.block (a0 R b1 n1)).congr λj hj=>?_;exact(zyv Pb lm vm cm line {r with stmts:=r.stmts+1} {r with top:=r.top++[⟨kind,x,ln,e,[],[]⟩],stmts:=r.stmts+1} m {m with bv:=v',who:=Vw m.who z1 W.heap.size 1 v'} j rfl rfl rfl rfl hj (λ_ _ _ _ _=>rfl)).symm
  case cP=>
   refine(G.cs 5 _ h.cP (by decide)).congr λk hk=>?_;rcases(show k=0\/k=1\/k=2\/k=3\/k=4 by omega) with rfl|rfl|rfl|rfl|rfl<;>rfl
  case re=>
   have B0:=h.re.pb;rw[e0]at B0
   exact{
       wh:=λb hb'=>zi9 (λb hb=>h.re.wh b hb) y0 hz (λb hv=>⟨(G.own.lt b hv).1,(G.own.lt b hv).2⟩) b hb',oc:=(c0.oc (by decide)).1,tc:=(c0.oc (by decide)).2,oh:=(c0.oh (by decide)).1,th:=(c0.oh (by decide)).2,pb:=(by
        show Zd 3 _ base w' v' (r.top++[_]) (Xh m.gs);rw[e0]
        exact Zd.snoc B0 ho G.own (λb hb'=>(b0 b (by rw[hb'];decide)).trans hb') (λb hb'=>hq b (by rw[hb'];decide) (by rw[hb'];decide)) (A0 _ 3 t0)),tb:=λb hb'=>zl8 hI (by decide) q0 G.wh b hb',fa:=c0.fa (.inl (by decide)),oo:=(c0.oo (by decide)).1,to:=(c0.oo (by decide)).2,la:=c0.la}
 |cons f fs=>
  cases e0:m.gs with
  |nil=>rw[show ({r with stmts:=r.stmts+1}:Fl.RS).fr=r.fr from rfl,d0,e0]at hl;simp at hl
  |cons g gs=>
   rw[d0,e0]at G ho f0;rw[e0]at a0;have C0:=h.re.fa;rw[show ({r with stmts:=r.stmts+1}:Fl.RS).fr=r.fr from rfl,d0,e0]at C0;obtain⟨hf,G0⟩:=C0;obtain⟨f',hf'⟩:∃f':Fl.Frame,f'=if f.had then{f with els:=f.els++[⟨kind,x,ln,e,[],[]⟩]} else{f with first:=f.first++[⟨kind,x,ln,e,[],[]⟩]}:=⟨_,rfl⟩;obtain⟨g',hg'⟩:∃g':GF,g'=if f.had then{g with ev:=v'} else{g with fv:=v'}:=⟨_,rfl⟩;have i0:r.put ⟨kind,x,ln,e,[],[]⟩={r with fr:=f'::fs,stmts:=r.stmts+1}:=(by unfold Fl.RS.put;rw[d0,hf']);rw[i0]
   have m0:g'.sb=g.sb:=by rw[hg'];split<;>rfl
   have u0:g'.ob=g.ob:=by rw[hg'];split<;>rfl
   have D0:g'.vp=g.vp:=by rw[hg'];split<;>rfl
   have g0:f'.kind=f.kind/\f'.line=f.line/\f'.e=f.e/\f'.had=f.had:=by rw[hf'];split<;>exact⟨rfl,rfl,rfl,rfl⟩
   have n0:g'.act f'=v':=by
    unfold GF.act;rw[g0.2.2.2,hg']
    cases f.had<;>rfl
   have r0:∀b,(Jt m.bv (f::fs) (g::gs)).ownBlock=some b->m.who b=12+3*fs.length:=hf.ta;have b0:=λb=>zl7 (T:=12+3*fs.length) (z2:=W.heap.size) hI (by omega) r0 (by omega) G.wh b;have hq:∀b,m.who b≠5->m.who b≠12+3*fs.length->m.who b≠10+3*fs.length->w'.heap[b]?=W.heap[b]?:=λb h5 h1 H0=>G.q b (h.re.wh b h5).2 (λhe=>H0 (by rw[show b=g.sb from he];exact hf.ts)) (λhk=>h1 (r0 b hk));have t0:∀b,z1<=b->b<W.heap.size->Vw m.who z1 W.heap.size (12+3*fs.length) v' b=0/\w'.heap[b]?=W.heap[b]?:=λb h1 h2=>⟨zl9 _ _ _ _ _ _ h1 h2,f0 b h1 h2 (λhe=>by have:=z0 b h1;rw[show b=g.sb from he,hf.ts]at this;omega) (λk hk=>by rw[r0 k hk];omega)⟩;have j0:=h.re.low (w':=w') (Vw m.who z1 W.heap.size (12+3*fs.length) v') (λb hb'=>⟨b0 b (by omega),hq b (by omega) (by omega) (by omega)⟩)
   have h0:∀b,m.who b=0->Vw m.who z1 W.heap.size (12+3*fs.length) v' b=0:=λb hb'=>by rw[b0 b (by rw[hb'];decide)];exact hb'
   have s0:∀b,m.who b=0->w'.heap[b]?=W.heap[b]?:=λb hb'=>hq b (by omega) (by omega) (by omega);have I0:Xh (g'::gs)=Xh (g::gs):=(by simp only[Xh,m0]);have v0:((g'::gs).map λg=>ptr g.ob)=((g::gs).map λg=>ptr g.ob):=(by simp only[List.map_cons,u0]);refine⟨{m with gs:=g'::gs,who:=Vw m.who z1 W.heap.size (12+3*fs.length) v'},?_⟩;have J0:=h.re.wh g.sb (by rw[hf.ts];omega);refine{ok:= ?ok,bel:=G.bel,fx:=λb f1 f2 f3 f4 f5 f6=>(a0 b f1 (by show b≠g.sb;omega)).trans (h.fx b f1 f2 f3 f4 f5 f6),hlo:=h.hlo,hba:=⟨b1,b2,b3,b4,b5,by omega⟩,nd:=h.nd,cR:= ?cR,cP:=h.cP.block (a0 _ b2 (by show Pb≠g.sb;omega)),nl:=h.nl.block (a0 _ b3 (by show lm≠g.sb;omega)),nv:=h.nv.block (a0 _ b4 (by show vm≠g.sb;omega)),nc:=h.nc.block (a0 _ b5 (by show cm≠g.sb;omega)),tab:=h.tab,re:= ?re}
   case ok=>
    have o0:=hst.2;rw[d0]at o0
    exact{
        cn:=⟨by have:=hst.1;simp[d0]at this⊢;omega,(by
         show Um (r.stmts+1) 0 (f'::fs);obtain⟨c1,c2,c3⟩:=o0;rw[hf']
         cases hh:f.had with
         |true=>rw[hh]at c1 c2;simp at c1 c2;refine⟨?_,?_,Um.mono (by omega) (Nat.le_refl _) c3⟩<;>simp[hh]<;>omega
         |false=>rw[hh]at c1 c2;simp at c1 c2;refine⟨?_,?_,Um.mono (by omega) (Nat.le_refl _) c3⟩<;>simp[hh]<;>omega)⟩,lv:=h.ok.lv,ce:=h.ok.ce,ch:=h.ok.ch,lo:=h.ok.lo,st:=h.ok.st,fr:=(by have:=h.ok.fr;rw[show ({r with stmts:=r.stmts+1}:Fl.RS).fr=r.fr from rfl,d0]at this;simpa using this),cl:=h.ok.cl,hl:=h.ok.hl,pairs:=h.ok.pairs,kinds:=(by
         intro k hk;have x0:=h.ok.kinds;rw[show ({r with stmts:=r.stmts+1}:Fl.RS).fr=r.fr from rfl,d0]at x0;rcases List.mem_cons.1 hk with rfl|hk
         ·rw[g0.1];exact x0 f (by simp)
         exact x0 k (by simp[hk])),head:=λhh=>(by rw[show ({r with fr:=f'::fs,stmts:=r.stmts+1}:Fl.RS).begun=r.begun from rfl,hb]at hh;cases hh),below:=h.ok.below,clv:=h.ok.clv,chv:=h.ok.chv,lat:=h.ok.lat}
   case cR=>
    refine(h.cR.block (a0 R b1 (by show R≠g.sb;omega))).congr λj hj=>?_;exact(zyv Pb lm vm cm line {r with stmts:=r.stmts+1} {r with fr:=f'::fs,stmts:=r.stmts+1} m {m with gs:=g'::gs,who:=Vw m.who z1 W.heap.size (12+3*fs.length) v'} j rfl rfl rfl rfl hj (λ_ _ _ _ _=>rfl)).symm
   case re=>
    have k0:=j0.pb;have l0:=j0.oo;rw[e0]at k0 l0;refine{wh:=λb hb'=>zi9 (λb hb=>h.re.wh b hb) y0 hz (λb hv=>⟨(G.own.lt b hv).1,(G.own.lt b hv).2⟩) b hb',oc:=j0.oc.1,tc:=j0.oc.2,oh:=j0.oh.1,th:=j0.oh.2,pb:= ?pb,tb:=k0.2,fa:= ?fa,oo:= ?oo,to:=l0.2,la:=j0.la}
    case pb=>show Zd 3 _ base w' m.bv r.top (Xh (g'::gs));rw[I0];exact k0.1
    case oo=>
     show w'.ownsRow base _ 1 m.ov (f'::fs).length (((g'::gs).map λg=>ptr g.ob).reverse);rw[v0];have:=l0.1;rw[show ({r with stmts:=r.stmts+1}:Fl.RS).fr=r.fr from rfl,d0]at this;exact this
    case fa=>
     show Xo _ base w' (3 - (f'::fs).length) [] (f'::fs) (g'::gs);refine⟨?_,?_⟩
     ·refine{ts:=by rw[m0];exact(b0 g.sb (by rw[hf.ts];omega)).trans hf.ts,to:=by rw[u0];exact(b0 g.ob (by rw[hf.to];omega)).trans hf.to,ta:=λb hb'=>zl8 hI (by omega) r0 G.wh b (by rw[<-n0];exact hb'),co:= ?co,cs:= ?cs,hv:=by rw[D0,g0.2.2.1];exact hf.hv.kept h0 s0,pa:= ?pa,pf:= ?pf,pe:= ?pe}
      case co=>rw[u0,m0,g0.2.2.2];exact hf.co.block (hq g.ob (by rw[hf.to];omega) (by rw[hf.to];omega) (by rw[hf.to];omega))
      case cs=>
       rw[m0,g0.1,g0.2.1,D0];refine(G.cs 6 _ hf.cs (by show (if f.had then 5 else 4)<6;split<;>omega)).congr λk hk=>?_;rw[hg'];show (if k=(if f.had then 5 else 4) then v' else _)=_
       cases f.had<;>rcases(show k=0\/k=1\/k=2\/k=3\/k=4\/k=5 by omega) with rfl|rfl|rfl|rfl|rfl|rfl<;>rfl
      case pa=>
       rw[n0,g0.2.2.2];have:=Zd.snoc (w':=w') hf.pa ho G.own h0 s0 (A0 _ _ t0);rw[hf']
       cases hh:f.had<;>rw[hh]at this<;>exact this
      case pf=>
       intro hh;rw[g0.2.2.2]at hh;have:=Zt.kept h0 s0 _ _ _ (hf.pf hh);rw[hg',hf',hh];exact this
      case pe=>
       intro hh;rw[g0.2.2.2]at hh;rw[hg',hf',hh];exact hf.pe hh
     rw[m0]
     exact G0.kept (λb hb'=>by
      rcases hb' with hb'|hb'
      ·exact⟨b0 b (by omega),s0 b hb'⟩
      exact⟨b0 b (by omega),hq b (by omega) (by omega) (by omega)⟩)
end
end Go.Proofs.YtminjljgedopkaaGreatDoor
