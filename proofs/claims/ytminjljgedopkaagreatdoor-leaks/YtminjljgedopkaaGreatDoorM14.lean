import Derived.Test.YtminjljgedopkaaGreatDoorM13
set_option linter.all false
set_option maxRecDepth 100000
set_option maxHeartbeats 40000000
namespace Go.Proofs.YtminjljgedopkaaGreatDoor
open Go.RowKit Go.Proofs.Tryz
section
variable{lo base R Pb lm vm cm:Nat}{w0 w:World}{r:Fl.RS}{line:Int}{m:Yk}
def ziz(h:Zw lo base R Pb lm vm cm w0 w r line m)(b off n cap:Nat)(vs:List (List UInt8))(hn:n=vs.length)(a0:n<=cap)(hl:∀x∈vs,x.length<=100000)(b0:Fl.fitAll [97] vs=true\/Fl.fitAll [97,111,97] vs=true)(hc:∀i,i<vs.length->w.cell? ⟨b,off+i,none⟩=some (.string ⟨(vs.getD i []).toArray⟩)):
  Calls prog 183 #[.pointer (some ⟨R,0,none⟩),.slice (some ⟨b,off,none⟩) n cap] w (zt4 (r.value vs) line w):=by
 rcases b0 with hs|hs
 ·have hlen:=Fl.fitAll_len _ _ hs
  match vs,hlen with
  |[x],_=>
   subst hn;exact zl5 h b off cap x (hl x (by simp)) (by simpa using a0) (hc 0 (by simp))
 have hlen:=Fl.fitAll_len _ _ hs
 match vs,hlen with
 |[x,o,y],_=>
  subst hn;refine yy6 h b off cap x o y (hl x (by simp)) (hl o (by simp)) (hl y (by simp)) ?_ (by simpa using a0) (hc 0 (by simp)) (hc 1 (by simp)) (hc 2 (by simp));simp[Fl.fitAll,Fl.fit1]at hs;exact hs.2.1
def zd2{W:World}(h:Zw lo base R Pb lm vm cm w0 W r line m)(b0:r.begun=true)(z1 kind x ln pb:Nat)(e:Fl.Expr)(hI:∀b,m.who b≠5->b<z1)(c0:base<=z1/\z1<=W.heap.size)(d0:line=(ln:Int))(hv:zz3 (λb=>z1<=b/\b<W.heap.size) W (ptr pb) e):
  Calls prog 184 #[.pointer (some ⟨R,0,none⟩),.pointer (some ⟨W.heap.size,0,none⟩)] (W.alloc (.cells #[.int .i64 kind,.int .i64 0,.int .i64 x,.pointer (some ⟨pb,0,none⟩),.slice none 0 0,.slice none 0 0] 227)) λe' w'=>
   (16<=r.stmts/\e'=.panicked (Zq 5 line)/\zyw lo base R Pb lm vm cm w0 w')\/(r.stmts<16/\e'=.returned (.tuple #[])/\∃m',Zw lo base R Pb lm vm cm w0 w' (r.put ⟨kind,x,ln,e,[],[]⟩) line m'):=by
 have hba:=h.hba;have hA:Zw lo base R Pb lm vm cm w0 (W.alloc (.cells #[.int .i64 kind,.int .i64 0,.int .i64 x,.pointer (some ⟨pb,0,none⟩),.slice none 0 0,.slice none 0 0] 227)) r line m:=h.below (bA)
 have hsz:(W.alloc (.cells #[.int .i64 kind,.int .i64 0,.int .i64 x,.pointer (some ⟨pb,0,none⟩),.slice none 0 0,.slice none 0 0] 227)).heap.size=W.heap.size+1:=by simp
 refine(zd1 hA b0 W.heap.size kind x (ptr pb) (by omega) (Classical.byContradiction λe0=>by have:=hI _ e0;omega) (by omega) (Zn.new W [.int .i64 kind,.int .i64 0,.int .i64 x,.pointer (some ⟨pb,0,none⟩),.slice none 0 0,.slice none 0 0] _)).mono ?_;rintro e' w' (⟨a0,rfl,hb⟩|⟨a0,rfl,W2,hP,f0,hq,hc,n,xs,v',ho,G⟩)
 ·exact .inl ⟨a0,rfl,hb⟩
 refine .inr ⟨a0,rfl,?_⟩;exact hP.putS (r:=r) b0 (z1:=z1) (sn:=W.heap.size) hI c0.1 ⟨c0.2,by omega⟩ d0 h.ok.cn hc
  (hv.kept (λb hb=>⟨hb.1,by have:=hb.2;omega⟩) (λb hb=>by
   have h1:=hb.1;have h2:=hb.2;rw[hq b (by omega) (by omega)]
   exact((Below.refl W.heap.size W).alloc (Nat.le_refl _) _).block b h2)) ho G
def Fl.RS.target_same{r r':Fl.RS}{n:List UInt8}{x:Nat}(h:r.target n=some (x,r')):r'.stmts=r.stmts/\r'.begun=r.begun:=by
 rw[Fl.RS.target_map]at h
 split at h
 ·simp only[Option.some.injEq,Prod.mk.injEq]at h;rw[<-h.2];exact⟨rfl,rfl⟩
 split at h
 ·cases h
 simp only[Option.some.injEq,Prod.mk.injEq]at h;rw[<-h.2];exact⟨rfl,rfl⟩
def zaz(h:Zw lo base R Pb lm vm cm w0 w r line m)(p0:r.begun=true)(B:Nat)(v:Value)(k n:List UInt8)(vs:List (List UInt8))(ln:Nat)(q0:line=(ln:Int))(hB:B<=w.heap.size)(hw:Zf B w v (n::vs))(r0:∀b,v.ownBlock=some b->base<=b/\m.who b=5)(s0:(k==Fl.wOut)=false)(m0:Fl.fitAll [97] vs=true\/Fl.fitAll [97,111,97] vs=true):
  Calls prog 147 #[.pointer (some ⟨R,0,none⟩),v] w (Zp lo base R Pb lm vm cm w0 line (r.stmt ln (k::n::vs))):=by
 obtain⟨b,off,cap,rfl,g0,S0,c1,n0,a0⟩:=hw.one (by simp);have hn:n.length<=100000:=n0 n (by simp)
 have T0:1<=vs.length:=by rcases m0 with hs|hs<;>have:=Fl.fitAll_len _ _ hs<;>simp at this<;>omega
 have t0:w.cell? ⟨b,off,none⟩=some (.string ⟨n.toArray⟩):=a0 0 (by simp);obtain⟨d1,e1⟩:=r0 b rfl;obtain⟨res,f0⟩:=nmE (r.stmt ln (k::n::vs));rw[<-f0]
 have c0:Hid (res=match r.value vs with
  |none=>(4,r)
  |some e=>if 0<=Fl.place r.chans n then(4,r) else match r.target n with
    |none=>(5,r)
    |some (x,r')=>if 16<=r.stmts then(5,r) else(0,r'.put ⟨3,x,ln,e,[],[]⟩)):=by
  show _=_;rw[f0];have hko':¬(k==Fl.wOut)=true:=(by rw[s0];decide)
  match vs,T0 with
  |a::vs',_=>
   simp only[Fl.RS.stmt]
   cases r.value (a::vs') with
   |none=>rfl
   |some e=>
    simp only[hko',if_false]
    first|done|rfl|(split<;>first|rfl|(cases r.target n<;>rfl))
 have c42:w.cell? ⟨R,42,none⟩=some (.map (some cm)):=h.cR.c 42 (by omega);obtain⟨mx,tb,u0,v0,-⟩:=h.drew.nc.look2 n hn;have x0:=Zz v0;have HH:=Zz h
 have y0:Hid (∀W,Zw lo base R Pb lm vm cm w0 W r line m->Below w.heap.size w W->Calls prog 183 #[.pointer (some ⟨R,0,none⟩),.slice (some ⟨b,off+1,none⟩) vs.length (cap - 1)] W (zt4 (r.value vs) line W)):=λW hW U0=>
  ziz hW b (off+1) vs.length (cap - 1) vs rfl (by simp at g0;omega) (λx hx=>n0 x (by simp[hx])) m0 (λi hi=>by
   rw[U0.cell (p:=⟨b,off+1+i,none⟩) (by show b<_;omega)];have:=a0 (i+1) (by simp;omega)
   rw[show off+1+i=off+(i+1) by omega,this];rfl)
 have hbz:b<w.heap.size:=by omega
 simp only[List.length_cons]at g0⊢
 have f1:(2:Int)<=(cap:Int):=by omega
 have g1:(1:Int)<=(vs.length:Int):=by omega
 have h1:(vs.length:Int)+1<=(cap:Int):=by omega
 have V0:cap≠1:=by omega
 unfold maxLen at S0;have W0:=Zz q0;clear h hw n0 a0 f0 v0 r0 m0 s0 q0
 go_enter func147,ntmps147
 go_wp2_with fail
 refine wp_region_still_lit (by kernel_rfl) (by kernel_rfl) ?_
 iterate 7 still_step
 refine Yg rfl (.tuple #[.int .i64 mx,.bool tb]) (Ve _ _ 140 rfl (.map (some cm)) (.string ⟨n.toArray⟩) _ rfl rfl u0) ?_
 iterate 5 still_step
 refine wpStill_nil ?_
 change Exit.then _ _ _ _ w.drew
 have HW:Hid (Zw lo base R Pb lm vm cm w0 w.drew r line m):=HH.out.drew;have z0:Hid (Below w.heap.size w w.drew):=(Below.refl _ _).drew;have d0:w.drew.cell? ⟨b,off,none⟩=some (.string ⟨n.toArray⟩):=t0;have A0:w.drew.heap.size=w.heap.size:=rfl;have i1:=Zz A0;clear u0 t0 c42 A0;generalize w.drew=W at*;have hba:=HW.out.hba;have hlo:=HW.out.hlo;have j1:=z0.out.size;have B0:Hid (Calls prog 106 #[.pointer (some ⟨R,0,none⟩),.bool false,.int .i64 4] W λe w'=>e=.panicked (Zq 4 line)/\Below W.heap.size W w'):=Yr R 4 line W (HW.out.cR.c 1 (by omega));have C0:Hid (Calls prog 106 #[.pointer (some ⟨R,0,none⟩),.bool true,.int .i64 4] W λe w'=>e=.returned (.tuple #[])/\w'=W):=Yd R 4 W
 cases tb with
 |true=>
  have h0:0<=Fl.place r.chans n:=(by have:=x0.out;simpa using this);have HR:Hid (res=(4,r)):=by
   show _=_;rw[c0.out]
   cases r.value vs with
   |none=>rfl
   |some e=>simp only[h0,if_true]
  go_wp2_with fail
  refine B0.out.mono ?_;rintro e w1 ⟨rfl,X0⟩;exact⟨rfl,Zp.bad HR.out (by decide) rfl (HW.out.gone X0)⟩
 |false=>
  have h0:¬0<=Fl.place r.chans n:=(by have:=x0.out;simpa using this)
  go_wp2_with fail
  refine C0.out.mono ?_;rintro e w1 ⟨rfl,D0⟩;rw[D0];clear D0 w1 C0 B0;have E0:=y0.out W HW.out z0.out;have F0:=Zz E0;clear E0 y0
  go_wp2_with fail
  refine F0.out.mono ?_;rintro e W2 ⟨i0,G0,j0⟩;have Y0:Hid (Zw lo base R Pb lm vm cm w0 W2 r line m):=HW.out.below i0;have Z0:=Zz i0;have k1:=i0.size;have e0:W2.cell? ⟨b,off,none⟩=some (.string ⟨n.toArray⟩):=(i0.cell (p:=⟨b,off,none⟩) (by show b<_;omega)).trans d0;clear F0 i0 d0
  cases b0:r.value vs with
  |none=>
   obtain rfl:=j0 b0;have HR:res=(4,r):=(by rw[c0.out,b0]);exact⟨rfl,Zp.bad HR (by decide) rfl (HW.out.gone Z0.out)⟩
  |some ex=>
   obtain⟨pb,rfl,H0⟩:=G0 ex b0;have I0:=Zz H0
   have o0:Hid (res=match r.target n with
    |none=>(5,r)
    |some (x,r')=>if 16<=r.stmts then(5,r) else(0,r'.put ⟨3,x,ln,ex,[],[]⟩)):=by show _=_;rw[c0.out,b0];exact if_neg (by have:=h0;omega)
   have J0:Hid (Calls prog 185 #[.pointer (some ⟨R,0,none⟩),.string ⟨n.toArray⟩] W2 (yu8 lo base R Pb lm vm cm w0 r line m n W2)):=zev Y0.out p0 n hn;clear H0 G0 j0 c0 b0
   go_wp2_with fail
   refine J0.out.mono ?_;clear J0 e0;rintro e W3 (⟨x,r',k0,rfl,K0,l1,L0⟩|⟨k0,rfl,a1⟩)
   ·have M0:Hid (res=if 16<=r.stmts then(5,r) else(0,r'.put ⟨3,x,ln,ex,[],[]⟩)):=by show _=_;rw[o0.out,k0]
    obtain⟨N0,O0⟩:=Fl.RS.target_same k0
    have P0:Hid (Calls prog 184 #[.pointer (some ⟨R,0,none⟩),.pointer (some ⟨W3.heap.size,0,none⟩)] (W3.alloc (.cells #[.int .i64 3,.int .i64 0,.int .i64 x,.pointer (some ⟨pb,0,none⟩),.slice none 0 0,.slice none 0 0] 227)) λe' w'=>
      (16<=r'.stmts/\e'=.panicked (Zq 5 line)/\zyw lo base R Pb lm vm cm w0 w')\/(r'.stmts<16/\e'=.returned (.tuple #[])/\∃m',Zw lo base R Pb lm vm cm w0 w' (r'.put ⟨3,x,ln,ex,[],[]⟩) line m')):=
     zd2 K0 (O0.trans p0) W.heap.size 3 x ln pb ex (λb hb=>(HW.out.re.wh b hb).2) ⟨by omega,by omega⟩ W0.out
      (I0.out.kept (λb hb=>⟨hb.1,by have:=hb.2;omega⟩) (λb hb=>L0 b hb.2 (by have:=hb.1;omega) (by have:=hb.1;omega)))
    have Q0:=Zz N0;clear K0 L0 k0 N0 O0 o0 I0
    go_wp2_with fail
    refine P0.out.mono ?_;rintro e W4 (⟨l0,rfl,b1⟩|⟨l0,rfl,m',R0⟩)
    ·rw[Q0.out]at l0
     have HR:res=(5,r):=(by rw[M0.out,if_pos l0]);exact⟨rfl,Zp.bad HR (by decide) rfl b1⟩
    rw[Q0.out]at l0;have HR:res=(0,r'.put ⟨3,x,ln,ex,[],[]⟩):=(by rw[M0.out,if_neg (by omega)]);have HF:Hid (Zp lo base R Pb lm vm cm w0 line res (.returned (.tuple #[])) W4):=Zp.good HR rfl R0;clear HR R0 P0;go_wp2
    go_end0
    exact HF.out
   have HR:res=(5,r):=(by rw[o0.out,k0]);exact⟨rfl,Zp.bad HR (by decide) rfl a1⟩
end
section
variable{lo base R Pb lm vm cm:Nat}{w0 w:World}{r:Fl.RS}{line:Int}{m:Yk}
def out_any(h:Zw lo base R Pb lm vm cm w0 w r line m)(G0:r.begun=true)(B:Nat)(v:Value)(k n:List UInt8)(vs:List (List UInt8))(ln:Nat)(n0:line=(ln:Int))(hB:B<=w.heap.size)(hw:Zf B w v (n::vs))(o0:(k==Fl.wOut)=true)(i0:Fl.fitAll [97] vs=true\/Fl.fitAll [97,111,97] vs=true):
  Calls prog 148 #[.pointer (some ⟨R,0,none⟩),v] w (Zp lo base R Pb lm vm cm w0 line (r.stmt ln (k::n::vs))):=by
 obtain⟨b,off,cap,rfl,e0,H0,T0,j0,a0⟩:=hw.one (by simp);have hn:n.length<=100000:=j0 n (by simp)
 have I0:1<=vs.length:=by rcases i0 with hs|hs<;>have:=Fl.fitAll_len _ _ hs<;>simp at this<;>omega
 have J0:w.cell? ⟨b,off,none⟩=some (.string ⟨n.toArray⟩):=a0 0 (by simp);obtain⟨res,d0⟩:=nmE (r.stmt ln (k::n::vs));rw[<-d0];obtain⟨pl,k0⟩:=nmE (Fl.place r.chans n)
 have c0:Hid (res=match r.value vs with
  |none=>(4,r)
  |some e=>if pl<0 then(4,r) else if 16<=r.stmts then(5,r) else(0,r.put ⟨4,pl.toNat,ln,e,[],[]⟩)):=by
  show _=_;rw[d0,k0]
  match vs,I0 with
  |a::vs',_=>
   simp only[Fl.RS.stmt]
   cases r.value (a::vs') with
   |none=>rfl
   |some e=>
    simp only[o0,if_true]
    try rfl
 have c42:w.cell? ⟨R,42,none⟩=some (.map (some cm)):=h.cR.c 42 (by omega);obtain⟨mx,tb,p0,l0,hmx⟩:=h.drew.nc.look2 n hn;rw[<-k0]at l0 hmx;have m0:=Zz l0;have q0:=Zz hmx;have HH:=Zz h
 have r0:Hid (∀W,Zw lo base R Pb lm vm cm w0 W r line m->Below w.heap.size w W->Calls prog 183 #[.pointer (some ⟨R,0,none⟩),.slice (some ⟨b,off+1,none⟩) vs.length (cap - 1)] W (zt4 (r.value vs) line W)):=λW hW K0=>
  ziz hW b (off+1) vs.length (cap - 1) vs rfl (by simp at e0;omega) (λx hx=>j0 x (by simp[hx])) i0 (λi hi=>by
   rw[K0.cell (p:=⟨b,off+1+i,none⟩) (by show b<_;omega)];have:=a0 (i+1) (by simp;omega)
   rw[show off+1+i=off+(i+1) by omega,this];rfl)
 have hbz:b<w.heap.size:=by omega
 simp only[List.length_cons]at e0⊢
 have U0:(2:Int)<=(cap:Int):=by omega
 have V0:(1:Int)<=(vs.length:Int):=by omega
 have W0:(vs.length:Int)+1<=(cap:Int):=by omega
 have L0:cap≠1:=by omega
 unfold maxLen at H0;have M0:=Zz n0;clear h hw j0 a0 d0 l0 hmx i0 o0 n0 k0
 go_enter func148,ntmps148
 go_wp2_with fail
 refine wp_region_still_lit (by kernel_rfl) (by kernel_rfl) ?_
 iterate 7 still_step
 refine Yg rfl (.tuple #[.int .i64 mx,.bool tb]) (Ve _ _ 140 rfl (.map (some cm)) (.string ⟨n.toArray⟩) _ rfl rfl p0) ?_
 iterate 5 still_step
 refine wpStill_nil ?_
 change Exit.then _ _ _ _ w.drew
 have HW:Hid (Zw lo base R Pb lm vm cm w0 w.drew r line m):=HH.out.drew;have s0:Hid (Below w.heap.size w w.drew):=(Below.refl _ _).drew;have t0:w.drew.heap.size=w.heap.size:=rfl;have X0:=Zz t0;clear p0 J0 c42 t0;generalize w.drew=W at*;have hba:=HW.out.hba;have hlo:=HW.out.hlo;have Y0:=s0.out.size;have u0:Hid (Calls prog 106 #[.pointer (some ⟨R,0,none⟩),.bool false,.int .i64 4] W λe w'=>e=.panicked (Zq 4 line)/\Below W.heap.size W w'):=Yr R 4 line W (HW.out.cR.c 1 (by omega));have v0:Hid (Calls prog 106 #[.pointer (some ⟨R,0,none⟩),.bool true,.int .i64 4] W λe w'=>e=.returned (.tuple #[])/\w'=W):=Yd R 4 W
 cases tb with
 |false=>
  have h0:pl<0:=(by have:=m0.out;simpa using this);have HR:Hid (res=(4,r)):=by
   show _=_;rw[c0.out]
   cases r.value vs with
   |none=>rfl
   |some e=>exact if_pos h0
  go_wp2_with fail
  refine u0.out.mono ?_;rintro e w1 ⟨rfl,N0⟩;exact⟨rfl,Zp.bad HR.out (by decide) rfl (HW.out.gone N0)⟩
 |true=>
  have h0:0<=pl:=(by have:=m0.out;simpa using this);obtain⟨q,hq⟩:∃q:Nat,pl=q:=⟨pl.toNat,by omega⟩;have O0:mx=(q:Int):=(by rw[q0.out,hq];omega);subst O0;have HQ:=Zz hq;clear hq h0 q0 m0
  go_wp2_with fail
  refine v0.out.mono ?_;rintro e w1 ⟨rfl,x0⟩;rw[x0];clear x0 w1 v0 u0;have y0:=r0.out W HW.out s0.out;have z0:=Zz y0;clear y0 r0
  go_wp2_with fail
  refine z0.out.mono ?_;rintro e W2 ⟨g0,A0,f0⟩;have P0:Hid (Zw lo base R Pb lm vm cm w0 W2 r line m):=HW.out.below g0;have Q0:=Zz g0;have Z0:=g0.size;clear z0 g0
  cases b0:r.value vs with
  |none=>
   obtain rfl:=f0 b0;have HR:res=(4,r):=(by rw[c0.out,b0]);exact⟨rfl,Zp.bad HR (by decide) rfl (HW.out.gone Q0.out)⟩
  |some ex=>
   obtain⟨pb,rfl,B0⟩:=A0 ex b0;have R0:=Zz B0;have C0:Hid (res=if 16<=r.stmts then(5,r) else(0,r.put ⟨4,q,ln,ex,[],[]⟩)):=by
    show _=_;rw[c0.out,b0,HQ.out];exact if_neg (by omega)
   have D0:Hid (Calls prog 184 #[.pointer (some ⟨R,0,none⟩),.pointer (some ⟨W2.heap.size,0,none⟩)] (W2.alloc (.cells #[.int .i64 4,.int .i64 0,.int .i64 q,.pointer (some ⟨pb,0,none⟩),.slice none 0 0,.slice none 0 0] 227)) λe' w'=>
      (16<=r.stmts/\e'=.panicked (Zq 5 line)/\zyw lo base R Pb lm vm cm w0 w')\/(r.stmts<16/\e'=.returned (.tuple #[])/\∃m',Zw lo base R Pb lm vm cm w0 w' (r.put ⟨4,q,ln,ex,[],[]⟩) line m')):=
     zd2 P0.out G0 W.heap.size 4 q ln pb ex (λb hb=>(HW.out.re.wh b hb).2) ⟨by omega,by omega⟩ M0.out
      (R0.out.kept (λb hb=>⟨hb.1,hb.2⟩) (λ_ _=>rfl))
   clear B0 A0 f0 c0 b0
   go_wp2_with fail
   refine D0.out.mono ?_;rintro e W4 (⟨E0,rfl,S0⟩|⟨E0,rfl,m',F0⟩)
   ·have HR:res=(5,r):=by rw[C0.out,if_pos E0]
    exact⟨rfl,Zp.bad HR (by decide) rfl S0⟩
   have HR:res=(0,r.put ⟨4,q,ln,ex,[],[]⟩):=(by rw[C0.out,if_neg (by omega)]);have HF:Hid (Zp lo base R Pb lm vm cm w0 line res (.returned (.tuple #[])) W4):=Zp.good HR rfl F0;clear HR F0 D0;go_wp2
   go_end0
   exact HF.out
end
section
variable{lo base R Pb lm vm cm:Nat}{w0 w:World}{r:Fl.RS}{line:Int}{m:Yk}
def zsw(e:TypeId)(w:World):w.ownsRow base e 1 (.slice none 0 0) 0 []:=⟨rfl,.inl ⟨rfl,rfl⟩⟩
def Zd.none(d:Nat)(S:Nat->Prop)(w:World):Zd d S base w (.slice none 0 0) [] []:=⟨[],zsw _ _,rfl,λi hi=>absurd hi (by simp)⟩
def Zw.elses(h:Zw lo base R Pb lm vm cm w0 w r line m)(hb:r.begun=true){f:Fl.Frame}{fs:List Fl.Frame}{g:GF}{gs:List GF}(e0:r.fr=f::fs)(m0:m.gs=g::gs)(hh:f.had=false):∃m',Zw lo base R Pb lm vm cm w0 (w.setCell ⟨g.ob,1,none⟩ (.bool true)) r.elses line m':=by
 obtain⟨b1,b2,b3,b4,b5,b6⟩:=h.hba;obtain⟨l1,l2,l3,l4,l5⟩:=h.hlo;have n0:=h.re.fa;rw[e0,m0]at n0;obtain⟨hf,q0⟩:=n0;have t0:=h.re.wh g.ob (by rw[hf.to];omega);have hz:(w.setCell ⟨g.ob,1,none⟩ (.bool true)).heap.size=w.heap.size:=Zu _ _ _;have q:∀k,k≠g.ob->(w.setCell ⟨g.ob,1,none⟩ (.bool true)).heap[k]?=w.heap[k]?:=λk hk=>Zx _ _ _ _ _ hk;have q':∀k,m.who k≠11+3*fs.length->(w.setCell ⟨g.ob,1,none⟩ (.bool true)).heap[k]?=w.heap[k]?:=λk hk=>q k (λhe=>hk (by rw[he];exact hf.to));obtain⟨w',hw'⟩:∃w',w'=w.setCell ⟨g.ob,1,none⟩ (.bool true):=⟨_,rfl⟩
 have i0:Below lo w0 w':=by rw[hw'];exact h.bel.setCell (by show lo<=g.ob;omega) _
 have r0:Zn w' g.ob 2 (rw_ [ptr g.sb,.bool true]):=by
  rw[hw'];refine(hf.co.set (j:=1) (by omega) (.bool true)).congr λk hk=>?_;rcases(show k=0\/k=1 by omega) with rfl|rfl<;>rfl
 rw[<-hw']at hz q q'⊢;clear hw'
 have j0:r.elses={r with fr:={f with had:=true}::fs}:=by unfold Fl.RS.elses;rw[e0]
 rw[j0]
 have f0:g.act f=g.fv:=by unfold GF.act;rw[hh];rfl
 obtain⟨o0,s0⟩:=hf.pe hh;have p0:∀b,g.fv.ownBlock=some b->m.who b=12+3*fs.length:=λb hb'=>hf.ta b (by rw[f0];exact hb');obtain⟨who',b0⟩:∃who':Nat->Nat,who'=λb=>if g.fv.ownBlock=some b then 0 else m.who b:=⟨_,rfl⟩
 have wold:∀b,m.who b≠12+3*fs.length->who' b=m.who b:=λb hb'=>by rw[b0];exact if_neg (λhe=>hb' (p0 b he))
 have wfv:∀b,g.fv.ownBlock=some b->who' b=0:=λb hb'=>by rw[b0];exact if_pos hb'
 have w5:∀b,who' b≠5->m.who b≠5:=λb hb' he=>hb' (by rw[wold b (by omega)];exact he);clear b0;have h0:∀b,m.who b=0->who' b=0:=λb hb'=>(wold b (by omega)).trans hb';have k0:∀b,m.who b=0->w'.heap[b]?=w.heap[b]?:=λb hb'=>q' b (by omega);have a0:=h.re.low (w':=w') who' (λb hb'=>⟨wold b (by omega),q' b (by omega)⟩);have g0:=h.ok.cn;have hst:=h.ok.st;rw[e0]at g0
 have c0:f.first.length<=16:=by have:=g0.2.1;rw[hh]at this;simp at this;omega
 refine⟨{m with who:=who'},?_⟩;refine{ok:= ?ok,bel:=i0,fx:=λb f1 f2 f3 f4 f5 f6=>(q b (by omega)).trans (h.fx b f1 f2 f3 f4 f5 f6),hlo:=h.hlo,hba:=⟨b1,b2,b3,b4,b5,by omega⟩,nd:=h.nd,cR:= ?cR,cP:=h.cP.block (q _ (by omega)),nl:=h.nl.block (q _ (by omega)),nv:=h.nv.block (q _ (by omega)),nc:=h.nc.block (q _ (by omega)),tab:=h.tab,re:= ?re}
 case ok=>
  exact{
      cn:=⟨by have:=g0.1;simpa using this,(by
       show Um r.stmts 0 ({f with had:=true}::fs);obtain⟨c1,c2,c3⟩:=g0.2;rw[hh]at c1 c2;simp at c1 c2
       refine⟨?_,?_,c3⟩<;>simp<;>omega)⟩,lv:=h.ok.lv,ce:=h.ok.ce,ch:=h.ok.ch,lo:=h.ok.lo,st:=h.ok.st,fr:=(by have:=h.ok.fr;rw[e0]at this;simpa using this),cl:=h.ok.cl,hl:=h.ok.hl,pairs:=h.ok.pairs,kinds:=(by
       intro k hk;have l0:=h.ok.kinds;rw[e0]at l0;rcases List.mem_cons.1 hk with rfl|hk
       ·exact l0 f (by simp)
       exact l0 k (by simp[hk])),head:=λhd=>(by rw[show ({r with fr:={f with had:=true}::fs}:Fl.RS).begun=r.begun from rfl,hb]at hd;cases hd),below:=h.ok.below,clv:=h.ok.clv,chv:=h.ok.chv,lat:=h.ok.lat}
 case cR=>
  refine(h.cR.block (q R (by omega))).congr λj hj=>?_;exact(zyv Pb lm vm cm line r {r with fr:={f with had:=true}::fs} m {m with who:=who'} j rfl rfl rfl rfl hj (λ_ _ _ _ _=>rfl)).symm
 case re=>
  have d0:=a0.oo;rw[e0]at d0;refine{wh:=λb hb'=>(by have:=h.re.wh b (w5 b hb');exact⟨this.1,by omega⟩),oc:=a0.oc.1,tc:=a0.oc.2,oh:=a0.oh.1,th:=a0.oh.2,pb:=a0.pb.1,tb:=a0.pb.2,fa:= ?fa,oo:=d0.1,to:=d0.2,la:=a0.la}
  case fa=>
   show Xo who' base w' (3 - ({f with had:=true}::fs).length) [] ({f with had:=true}::fs) m.gs;rw[m0];refine⟨?_,?_⟩
   ·refine{ts:=(wold g.sb (by rw[hf.ts];omega)).trans hf.ts,to:=(wold g.ob (by rw[hf.to];omega)).trans hf.to,ta:=λb hb'=>?ta,co:=r0,cs:=hf.cs.block (q' g.sb (by rw[hf.ts];omega)),hv:=hf.hv.kept h0 k0,pa:= ?pa,pf:=λ_=>?pf,pe:=λhd=>by cases hd}
    case ta=>
     have:g.ev.ownBlock=some b:=hb'
     rw[o0]at this;cases this
    case pa=>
     show Zd _ _ base w' g.ev f.els [];rw[o0,s0];exact Zd.none _ _ _
    case pf=>
     have hp:=hf.pa;rw[f0,hh]at hp;exact Zd.closed (hp.kept h0 k0 (λb hb'=>q' b (by rw[p0 b hb'];omega))) wfv c0
   exact q0.kept (λb hb'=>by
    rcases hb' with hb'|hb'
    ·exact⟨wold b (by omega),k0 b hb'⟩
    exact⟨wold b (by omega),q' b (by omega)⟩)
def zd3(h:Zw lo base R Pb lm vm cm w0 w r line m)(n0:r.begun=true)(v:Value)(k:List UInt8)(ln:Nat)(hk:(k==Fl.wElse)=true):
  Calls prog 150 #[.pointer (some ⟨R,0,none⟩),v] w (Zp lo base R Pb lm vm cm w0 line (r.stmt ln [k])):=by
 obtain⟨res,c0⟩:=nmE (r.stmt ln [k]);rw[<-c0];have f0:Hid (Calls prog 187 #[.pointer (some ⟨R,0,none⟩)] w λe w'=>e=.returned (Jz m.gs)/\Below w.heap.size w w'/\w'.heap=w.heap):=zx0 h;have HH:=Zz h;have hl:=h.re.fa.len;have hba:=h.hba;have hlo:=h.hlo
 cases e0:r.fr with
 |nil=>
  have g0:m.gs=[]:=(by rw[e0]at hl;exact Qi (by simpa using hl));have HR:Hid (res=(3,r)):=(by show _=_;rw[c0];simp only[Fl.RS.stmt,e0]);rw[g0]at f0;unfold Jz at f0;clear h c0 e0 g0 hl
  go_enter func150,ntmps150
  go_wp2_with fail
  refine f0.out.mono ?_;rintro e W ⟨rfl,b0,h0⟩;have p0:=b0.size;have HW:Hid (Zw lo base R Pb lm vm cm w0 W r line m):=HH.out.below b0;have j0:Hid (Calls prog 106 #[.pointer (some ⟨R,0,none⟩),.bool false,.int .i64 3] W λe w'=>e=.panicked (Zq 3 line)/\Below W.heap.size W w'):=Yr R 3 line W (HW.out.cR.c 1 (by omega));clear b0 h0 f0
  go_wp2_with fail
  refine j0.out.mono ?_;rintro e w1 ⟨rfl,b0⟩;exact⟨rfl,Zp.bad HR.out (by decide) rfl (HW.out.gone b0)⟩
 |cons f fs=>
  cases g0:m.gs with
  |nil=>rw[e0,g0]at hl;simp at hl
  |cons g gs=>
   have k0:=h.re.fa;rw[e0,g0]at k0;have u0:=h.ok.kinds f (by rw[e0];simp);have HF:=Zz k0.1;have q0:=Zz e0;have r0:=Zz g0;have HR:Hid (res=if f.kind=5/\f.had=false then(0,r.elses) else(3,r)):=(by show _=_;rw[c0];simp only[Fl.RS.stmt,e0,hk,if_true]);rw[g0]at f0;unfold Jz at f0;clear h c0 e0 g0 hl k0
   go_enter func150,ntmps150
   go_wp2_with fail
   refine f0.out.mono ?_;rintro e W ⟨rfl,b0,h0⟩;have p0:=b0.size;have HW:Hid (Zw lo base R Pb lm vm cm w0 W r line m):=HH.out.below b0;have j0:Hid (Calls prog 106 #[.pointer (some ⟨R,0,none⟩),.bool false,.int .i64 3] W λe w'=>e=.panicked (Zq 3 line)/\Below W.heap.size W w'):=Yr R 3 line W (HW.out.cR.c 1 (by omega));have l0:Hid (Calls prog 106 #[.pointer (some ⟨R,0,none⟩),.bool true,.int .i64 3] W λe w'=>e=.returned (.tuple #[])/\w'=W):=Yd R 3 W;have o0:W.cell? ⟨g.ob,0,none⟩=some (.pointer (some ⟨g.sb,0,none⟩)):=(HF.out.co.block (w':=W) (by rw[h0])).c 0 (by omega);have o1:W.cell? ⟨g.ob,1,none⟩=some (.bool f.had):=(HF.out.co.block (w':=W) (by rw[h0])).c 1 (by omega);have oz:∀j,W.frozen? ⟨g.ob,j,none⟩=false:=(HF.out.co.block (w':=W) (by rw[h0])).z;have s0:W.cell? ⟨g.sb,0,none⟩=some (.int .i64 f.kind):=(HF.out.cs.block (w':=W) (by rw[h0])).c 0 (by omega);clear b0 h0 f0 HF
   have d0:Hid ((f.kind=5/\f.had=false->False)->res=(3,r)):=λhn=>by rw[HR.out];exact if_neg hn
   have a0:Hid (f.kind=5->f.had=false->Zp lo base R Pb lm vm cm w0 line res (.returned (.tuple #[])) (W.setCell ⟨g.ob,1,none⟩ (.bool true))):=λh1 h2=>by
    obtain⟨m',hm⟩:=HW.out.elses n0 q0.out r0.out h2;exact Zp.good (by rw[HR.out];exact if_pos ⟨h1,h2⟩) rfl hm
   clear HR
   by_cases h5:f.kind=5
   ·have k5:((f.kind:Int)==5)=true:=by rw[h5];rfl
    cases i0:f.had with
    |true=>
     rw[i0]at o1;have HX:Hid (res=(3,r)):=d0.out (λhx=>by rw[i0]at hx;cases hx.2);clear d0 a0 i0
     go_wp2_with fail
     refine j0.out.mono ?_;rintro e w1 ⟨rfl,b0⟩;exact⟨rfl,Zp.bad HX.out (by decide) rfl (HW.out.gone b0)⟩
    |false=>
     rw[i0]at o1;have HX:=a0.out h5 i0;have t0:=Zz HX;clear d0 a0 i0 HX h5
     go_wp2_with fail
     refine l0.out.mono ?_;rintro e w1 ⟨rfl,m0⟩;rw[m0];clear m0 w1 l0 j0;go_wp2
     go_end0
     exact t0.out
   have k5:((f.kind:Int)==5)=false:=(by rw[Qh];omega);have HX:Hid (res=(3,r)):=d0.out (λhx=>h5 hx.1);clear d0 a0 h5
   go_wp2_with fail
   refine j0.out.mono ?_;rintro e w1 ⟨rfl,b0⟩;exact⟨rfl,Zp.bad HX.out (by decide) rfl (HW.out.gone b0)⟩
end
section
variable{lo base R Pb lm vm cm:Nat}{w0 w w':World}{r:Fl.RS}{line:Int}{m:Yk}
def yr6{e:TypeId}{g n cap:Nat}{xs:List Value}{x:Value}(h:w.ownsRow base e 1 (.slice (some ⟨g,0,none⟩) (n+1) cap) (n+1) (xs++[x])):w.ownsRow base e 1 (.slice (some ⟨g,0,none⟩) n cap) n xs:=by
 obtain⟨h1,h2⟩:=h
 have hl:xs.length=n:=by simp at h1;omega
 refine⟨by omega,?_⟩;rcases h2 with⟨h3,-⟩|⟨g',cap',cur,h3,hb,hg,hc,hm,hs,ht⟩
 ·cases h3
 simp only[Value.slice.injEq,Option.some.injEq,Addr.mk.injEq]at h3;obtain⟨⟨rfl,-⟩,-,rfl⟩:=h3;refine .inr ⟨g,cap,cur,rfl,hb,hg,by omega,hm,hs,?_⟩;have:=congrArg (List.take n) ht;rw[List.take_take,List.take_append_of_le_length (by omega),List.take_of_length_le (by omega:xs.length<=n)]at this;rw[Nat.mul_one]at this⊢;rw[show min n (n+1)=n by omega]at this;exact this
def Zd.shut{d:Nat}{S S':Nat->Prop}{v p:Value}{ts:List Fl.Stmt}{s:Fl.Stmt}(h:Zd d S base w v ts [p])(hS:∀b,S b->S' b)(hw:∀b,S b->w'.heap[b]?=w.heap[b]?)(hv:∀b,v.ownBlock=some b->w'.heap[b]?=w.heap[b]?)(hp:Vj (Zt d) S' w' p s):Zd d S' base w' v (ts++[s]) []:=by
 obtain⟨ps,h1,h2,h3⟩:=Zd.kept (S':=S') (w':=w') h hS hw hv;refine⟨ps++[p],?_,by simp[h2],λi hi=>?_⟩
 ·simp only[List.length_append,List.length_cons,List.length_nil,List.append_nil,Nat.add_zero]at h1⊢
  exact h1
 by_cases hl:i<ts.length
 ·have:=h3 i hl
  rw[Qa,List.getElem?_append_left (by omega),Qa,List.getElem?_append_left hl];rw[Qa,Qa]at this;exact this
 have he:i=ts.length:=by simp at hi;omega
 subst he;rw[Qa,List.getElem?_append_right (by omega),Qa,List.getElem?_append_right (by omega)];rw[h2];simpa using hp
def zlz(g g2:GF)(gs:List GF):Xh (g::g2::gs)=Xh (g2::gs):=by
 simp only[Xh]
 cases Xh gs<;>rfl
def zz8.done{who who':Nat->Nat}{d i:Nat}{f:Fl.Frame}{g:GF}(h:zz8 who base w d i [] f g)(hlen:f.first.length<=16/\f.els.length<=16)(hS:∀b,who b=0\/who b=10+3*i\/who b=12+3*i->who' b=0)(hw:∀b,who b≠5->w'.heap[b]?=w.heap[b]?):Vj (Zt (d+1)) (λb=>who' b=0) w' (ptr g.sb) f.done:=by
 have h0:∀b,who b=0->who' b=0:=λb hb=>hS b (.inl hb);have a0:∀b,who b=0->w'.heap[b]?=w.heap[b]?:=λb hb=>hw b (by omega);have hp:Zt (d+1) (λb=>who' b=0) w' (g.act f) (if f.had then f.els else f.first):=by
  refine Zd.closed (h.pa.kept h0 a0 (λb hb=>hw b (by rw[h.ta b hb];omega))) (λb hb=>hS b (.inr (.inr (h.ta b hb)))) ?_
  split
  ·exact hlen.2
  exact hlen.1
 refine⟨g.sb,g.vp,g.fv,g.ev,rfl,hS _ (.inr (.inl h.ts)),h.cs.block (hw _ (by rw[h.ts];omega)),h.hv.kept h0 a0,?_,?_⟩
 ·show Zt (d+1) _ w' g.fv f.first
  cases hh:f.had with
  |true=>exact Zt.kept h0 a0 _ _ _ (h.pf hh)
  |false=>unfold GF.act at hp;rw[hh]at hp;exact hp
 show Zt (d+1) _ w' g.ev f.els
 cases hh:f.had with
 |true=>unfold GF.act at hp;rw[hh]at hp;exact hp
 |false=>obtain⟨e1,e2⟩:=h.pe hh;rw[e1,e2];exact Zt.nil _ _ _
def Zw.ends(h:Zw lo base R Pb lm vm cm w0 w r line m)(hb:r.begun=true){f:Fl.Frame}{fs:List Fl.Frame}{g:GF}{gs:List GF}{q cap:Nat}(k0:r.fr=f::fs)(s0:m.gs=g::gs)(D0:m.ov=.slice (some ⟨q,0,none⟩) (fs.length+1) cap):∃m',Zw lo base R Pb lm vm cm w0 (w.setCell ⟨R,43,none⟩ (.slice (some ⟨q,0,none⟩) fs.length cap)) r.ends line m':=by
 obtain⟨b1,b2,b3,b4,b5,b6⟩:=h.hba;obtain⟨l1,l2,l3,l4,l5⟩:=h.hlo;obtain⟨n1,n2,n3,n4,n5,n6,n7,n8,n9,n10⟩:=h.nd;have A0:=h.re.fa;rw[k0,s0]at A0;obtain⟨hf,n0⟩:=A0;have g0:=h.ok.fr;rw[k0]at g0;simp only[List.length_cons]at g0 hf n0;have o0:=h.ok.cn;have hst:=h.ok.st;rw[k0]at o0;have hz:(w.setCell ⟨R,43,none⟩ (.slice (some ⟨q,0,none⟩) fs.length cap)).heap.size=w.heap.size:=Zu _ _ _;have qn:∀k,k≠R->(w.setCell ⟨R,43,none⟩ (.slice (some ⟨q,0,none⟩) fs.length cap)).heap[k]?=w.heap[k]?:=λk hk=>Zx _ _ _ _ _ hk;have l0:=h.bel.setCell (p:=⟨R,43,none⟩) (by show lo<=R;omega) (.slice (some ⟨q,0,none⟩) fs.length cap);have B0:=h.cR.set (j:=43) (by omega) (.slice (some ⟨q,0,none⟩) fs.length cap);obtain⟨w',hw'⟩:∃w',w'=w.setCell ⟨R,43,none⟩ (.slice (some ⟨q,0,none⟩) fs.length cap):=⟨_,rfl⟩;rw[<-hw']at hz qn l0 B0⊢;clear hw';have qw:∀b,m.who b≠5->w'.heap[b]?=w.heap[b]?:=λb hb'=>qn b (by have:=h.re.wh b hb';omega);obtain⟨who',m0⟩:∃who':Nat->Nat,who'=λb=>if 10+3*fs.length<=m.who b/\m.who b<=12+3*fs.length then 0 else m.who b:=⟨_,rfl⟩
 have wold:∀b,¬(10+3*fs.length<=m.who b/\m.who b<=12+3*fs.length)->who' b=m.who b:=λb hb'=>by rw[m0];exact if_neg hb'
 have wnew:∀b,10+3*fs.length<=m.who b->m.who b<=12+3*fs.length->who' b=0:=λb h1 h2=>by rw[m0];exact if_pos ⟨h1,h2⟩
 have w5:∀b,who' b≠5->m.who b≠5:=λb hb' he=>hb' (by rw[wold b (by omega)];exact he);clear m0;have h0:∀b,m.who b=0->who' b=0:=λb hb'=>(wold b (by omega)).trans hb';have q0:∀b,m.who b=0->w'.heap[b]?=w.heap[b]?:=λb hb'=>qw b (by omega);have c0:=h.re.low (w':=w') who' (λb hb'=>⟨wold b (by omega),qw b (by omega)⟩)
 have hlen:f.first.length<=16/\f.els.length<=16:=by obtain⟨c1,c2,-⟩:=o0.2;exact⟨by omega,by omega⟩
 have b0:=hf.done (w':=w') (who':=who') hlen (λb hb'=>by
  rcases hb' with hb'|hb'|hb'
  ·exact h0 b hb'
  ·exact wnew b (by omega) (by omega)
  exact wnew b (by omega) (by omega)) qw
 rw[show 3 - (fs.length+1)+1=3 - fs.length by omega]at b0 n0;have i0:=c0.oo;rw[k0,s0,D0]at i0;simp only[List.length_cons,List.map_cons,List.reverse_cons]at i0;have a0:=yr6 i0.1
 have C0:∀(r':Fl.RS) (m':Yk),r'.begun=r.begun->r'.levels.length=r.levels.length->r'.stmts=r.stmts->m'.ov=.slice (some ⟨q,0,none⟩) fs.length cap->m'.t=m.t->Zn w' R 45 (Xv Pb lm vm cm line r' m'):=λr' m' e1 e2 e4 e5 e6=>B0.congr (λj hj=>by
  by_cases h4:j=43
  ·subst h4;rw[if_pos rfl];exact e5.symm
  rw[if_neg h4];unfold Xv;rw[e1,e2,e4,e6]
  by_cases hs:j=0\/j=1\/j=2\/j=3\/j=40\/j=41\/j=42\/j=44
  ·rcases hs with rfl|rfl|rfl|rfl|rfl|rfl|rfl|rfl<;>rfl
  rw[if_neg (show ¬j=0 by omega),if_neg (show ¬j=1 by omega),if_neg (show ¬j=2 by omega),if_neg (show ¬j=3 by omega),if_neg (show ¬j=40 by omega),if_neg (show ¬j=41 by omega),if_neg (show ¬j=42 by omega),if_neg h4,if_neg (show ¬j=44 by omega)]
  rw[if_neg (show ¬j=0 by omega),if_neg (show ¬j=1 by omega),if_neg (show ¬j=2 by omega),if_neg (show ¬j=3 by omega),if_neg (show ¬j=40 by omega),if_neg (show ¬j=41 by omega),if_neg (show ¬j=42 by omega),if_neg h4])
 have t0:∀b,(Value.slice (some ⟨q,0,none⟩) fs.length cap).ownBlock=some b->who' b=2:=i0.2;refine⟨{m with who:=who',gs:=gs,ov:=.slice (some ⟨q,0,none⟩) fs.length cap},?_⟩
 cases e0:fs with
 |nil=>
  have v0:gs=[]:=(by have:=n0.len;rw[e0]at this;exact Qi (by simpa using this));have f0:r.ends={r with top:=r.top++[f.done],fr:=[]}:=(by unfold Fl.RS.ends;rw[k0,e0]);rw[f0];refine{ok:= ?ok,bel:=l0,fx:=λb f1 f2 f3 f4 f5 f6=>(qn b f2).trans (h.fx b f1 f2 f3 f4 f5 f6),hlo:=h.hlo,hba:=⟨b1,b2,b3,b4,b5,by omega⟩,nd:=h.nd,cR:= ?cR,cP:=h.cP.block (qn _ (by omega)),nl:=h.nl.block (qn _ (by omega)),nv:=h.nv.block (qn _ (by omega)),nc:=h.nc.block (qn _ (by omega)),tab:=h.tab,re:= ?re}
  case ok=>
   exact{cn:=⟨by have:=o0.1;simp at this⊢;omega,trivial⟩,lv:=h.ok.lv,ce:=h.ok.ce,ch:=h.ok.ch,lo:=h.ok.lo,st:=h.ok.st,fr:=(by simp),cl:=h.ok.cl,hl:=h.ok.hl,pairs:=h.ok.pairs,kinds:=(by intro k hk;cases hk),head:=λhd=>(by rw[show ({r with top:=r.top++[f.done],fr:=[]}:Fl.RS).begun=r.begun from rfl,hb]at hd;cases hd),below:=h.ok.below,clv:=h.ok.clv,chv:=h.ok.chv,lat:=h.ok.lat}
  case cR=>exact C0 _ _ rfl rfl rfl (by rw[e0]) rfl
  case re=>
   have p0:=h.re.pb;rw[s0,v0]at p0;rw[e0]at b0 a0 t0;rw[v0]at a0;rw[v0];refine{wh:=λb hb'=>(by have:=h.re.wh b (w5 b hb');exact⟨this.1,by omega⟩),oc:=c0.oc.1,tc:=c0.oc.2,oh:=c0.oh.1,th:=c0.oh.2,pb:= ?pb,tb:=c0.pb.2,fa:=trivial,oo:=a0,to:=t0,la:=c0.la}
   case pb=>exact Zd.shut p0 h0 q0 (λb hb'=>qw b (by rw[h.re.tb b hb'];decide)) b0
 |cons f2 fs2=>
  cases u0:gs with
  |nil=>have:=n0.len;rw[e0,u0]at this;simp at this
  |cons g2 gs2=>
   rw[e0,u0]at n0;obtain⟨d0,x0⟩:=n0;obtain⟨f',hf'⟩:∃f':Fl.Frame,f'=if f2.had then{f2 with els:=f2.els++[f.done]} else{f2 with first:=f2.first++[f.done]}:=⟨_,rfl⟩
   have j0:f'.kind=f2.kind/\f'.line=f2.line/\f'.e=f2.e/\f'.had=f2.had:=by rw[hf'];split<;>exact⟨rfl,rfl,rfl,rfl⟩
   have f0:r.ends={r with fr:=f'::fs2}:=(by unfold Fl.RS.ends;rw[k0,e0,hf']);rw[f0];have r0:g2.act f'=g2.act f2:=(by unfold GF.act;rw[j0.2.2.2]);rw[e0]at o0;rw[e0]at wold wnew a0 t0 g0;rw[u0]at a0;simp only[List.length_cons]at wold wnew g0;refine{ok:= ?ok,bel:=l0,fx:=λb f1 f2 f3 f4 f5 f6=>(qn b f2).trans (h.fx b f1 f2 f3 f4 f5 f6),hlo:=h.hlo,hba:=⟨b1,b2,b3,b4,b5,by omega⟩,nd:=h.nd,cR:= ?cR,cP:=h.cP.block (qn _ (by omega)),nl:=h.nl.block (qn _ (by omega)),nv:=h.nv.block (qn _ (by omega)),nc:=h.nc.block (qn _ (by omega)),tab:=h.tab,re:= ?re}
   case ok=>
    exact{
        cn:=⟨by have:=o0.1;simp at this⊢;omega,(by
         show Um r.stmts 0 (f'::fs2);obtain⟨-,-,c1,c2,c3⟩:=o0.2;rw[hf']
         cases hh:f2.had with
         |true=>rw[hh]at c1 c2;simp at c1 c2;refine⟨?_,?_,c3⟩<;>simp[hh]<;>omega
         |false=>rw[hh]at c1 c2;simp at c1 c2;refine⟨?_,?_,c3⟩<;>simp[hh]<;>omega)⟩,lv:=h.ok.lv,ce:=h.ok.ce,ch:=h.ok.ch,lo:=h.ok.lo,st:=h.ok.st,fr:=(by simp;omega),cl:=h.ok.cl,hl:=h.ok.hl,pairs:=h.ok.pairs,kinds:=(by
         intro k hk;have y0:=h.ok.kinds;rw[k0,e0]at y0;rcases List.mem_cons.1 hk with rfl|hk
         ·rw[j0.1];exact y0 f2 (by simp)
         exact y0 k (by simp[hk])),head:=λhd=>(by rw[show ({r with fr:=f'::fs2}:Fl.RS).begun=r.begun from rfl,hb]at hd;cases hd),below:=h.ok.below,clv:=h.ok.clv,chv:=h.ok.chv,lat:=h.ok.lat}
   case cR=>exact C0 _ _ rfl rfl rfl (by rw[e0]) rfl
   case re=>
    have p0:=c0.pb;rw[s0,u0,zlz]at p0;rw[e0]at b0;refine{wh:=λb hb'=>(by have:=h.re.wh b (w5 b hb');exact⟨this.1,by omega⟩),oc:=c0.oc.1,tc:=c0.oc.2,oh:=c0.oh.1,th:=c0.oh.2,pb:=p0.1,tb:=p0.2,fa:= ?fa,oo:=a0,to:=t0,la:=c0.la}
    case fa=>
     show Xo who' base w' (3 - (f'::fs2).length) [] (f'::fs2) (g2::gs2);have z0:∀b,(g2.act f2).ownBlock=some b->m.who b=12+3*fs2.length:=d0.ta;refine⟨?_,?_⟩
     ·refine{ts:=(wold g2.sb (by rw[d0.ts];omega)).trans d0.ts,to:=(wold g2.ob (by rw[d0.to];omega)).trans d0.to,ta:=λb hb'=>(by rw[r0]at hb';exact(wold b (by rw[z0 b hb'];omega)).trans (z0 b hb')),co:= ?co,cs:= ?cs,hv:=by rw[j0.2.2.1];exact d0.hv.kept h0 q0,pa:= ?pa,pf:= ?pf,pe:= ?pe}
      case co=>rw[j0.2.2.2];exact d0.co.block (qw _ (by rw[d0.to];omega))
      case cs=>rw[j0.1,j0.2.1];exact d0.cs.block (qw _ (by rw[d0.ts];omega))
      case pa=>
       rw[r0,j0.2.2.2];have:=Zd.shut (w':=w') d0.pa h0 q0 (λb hb'=>qw b (by rw[z0 b hb'];omega)) b0;rw[hf']
       cases hh:f2.had<;>rw[hh]at this<;>exact this
      case pf=>
       intro hh;rw[j0.2.2.2]at hh;have:=Zt.kept h0 q0 _ _ _ (d0.pf hh);rw[hf',hh];exact this
      case pe=>
       intro hh;rw[j0.2.2.2]at hh;rw[hf',hh];exact d0.pe hh
     exact x0.kept (λb hb'=>by
      rcases hb' with hb'|hb'
      ·exact⟨wold b (by omega),q0 b hb'⟩
      exact⟨wold b (by omega),qw b (by omega)⟩)
def end_any(h:Zw lo base R Pb lm vm cm w0 w r line m)(n0:r.begun=true)(v:Value)(k:List UInt8)(ln:Nat)(hk:(k==Fl.wElse)=false):
  Calls prog 152 #[.pointer (some ⟨R,0,none⟩),v] w (Zp lo base R Pb lm vm cm w0 line (r.stmt ln [k])):=by
 obtain⟨res,a0⟩:=nmE (r.stmt ln [k]);rw[<-a0];have d0:Hid (Calls prog 187 #[.pointer (some ⟨R,0,none⟩)] w λe w'=>e=.returned (Jz m.gs)/\Below w.heap.size w w'/\w'.heap=w.heap):=zx0 h;have HH:=Zz h;have hl:=h.re.fa.len;have hba:=h.hba;have hlo:=h.hlo
 cases e0:r.fr with
 |nil=>
  have f0:m.gs=[]:=(by rw[e0]at hl;exact Qi (by simpa using hl));have HR:Hid (res=(3,r)):=(by show _=_;rw[a0];simp only[Fl.RS.stmt,e0]);rw[f0]at d0;unfold Jz at d0;clear h a0 e0 f0 hl
  go_enter func152,ntmps152
  go_wp2_with fail
  refine d0.out.mono ?_;rintro e W ⟨rfl,c0,k0⟩;have o0:=c0.size;have HW:Hid (Zw lo base R Pb lm vm cm w0 W r line m):=HH.out.below c0;have p0:Hid (Calls prog 106 #[.pointer (some ⟨R,0,none⟩),.bool false,.int .i64 3] W λe w'=>e=.panicked (Zq 3 line)/\Below W.heap.size W w'):=Yr R 3 line W (HW.out.cR.c 1 (by omega));clear c0 k0 d0
  go_wp2_with fail
  refine p0.out.mono ?_;rintro e w1 ⟨rfl,c0⟩;exact⟨rfl,Zp.bad HR.out (by decide) rfl (HW.out.gone c0)⟩
 |cons f fs=>
  cases f0:m.gs with
  |nil=>rw[e0,f0]at hl;simp at hl
  |cons g gs=>
   obtain⟨ao,cap,i0,g0,b0⟩:=zn3 h;have h0:=h.ok.fr;rw[e0]at i0 g0 b0 h0;obtain⟨q,rfl,-,-,-⟩:=b0 (by simp);simp only[List.length_cons]at i0 g0 h0;have HR:Hid (res=(0,r.ends)):=(by show _=_;rw[a0];simp only[Fl.RS.stmt,e0,hk];rfl);obtain⟨n,hn⟩:=nmE (fs.length)
   have j0:Hid (∀W,Zw lo base R Pb lm vm cm w0 W r line m->Zp lo base R Pb lm vm cm w0 line res (.returned (.tuple #[])) (W.setCell ⟨R,43,none⟩ (.slice (some ⟨q,0,none⟩) n cap))):=λW hW=>by
    obtain⟨m',hm⟩:=hW.ends n0 e0 f0 i0;rw[<-hn]at hm;exact Zp.good HR.out rfl hm
   rw[<-hn]at i0 g0 h0;rw[f0]at d0;unfold Jz at d0;have q0:=Zz i0;have s0:(0:Int)<=(n:Int):=(by omega);have t0:(n:Int)<=2:=(by omega);have u0:(n:Int)+1<=(cap:Int):=(by omega);have v0:(n:Int)<=(cap:Int):=(by omega);have x0:cap≠0:=(by omega);have y0:IntKind.i64.wrap (n:Int)=(n:Int):=(by simp[IntKind.wrap,IntKind.signed,IntKind.bits];omega);clear h a0 e0 f0 hl i0 b0 hn
   go_enter func152,ntmps152
   go_wp2_with fail
   refine d0.out.mono ?_;rintro e W ⟨rfl,c0,k0⟩;have o0:=c0.size;have HW:Hid (Zw lo base R Pb lm vm cm w0 W r line m):=HH.out.below c0;have l0:Hid (Calls prog 106 #[.pointer (some ⟨R,0,none⟩),.bool true,.int .i64 3] W λe w'=>e=.returned (.tuple #[])/\w'=W):=Yd R 3 W;have c43:W.cell? ⟨R,43,none⟩=some (.slice (some ⟨q,0,none⟩) (n+1) cap):=(by rw[<-q0.out];exact HW.out.cR.c 43 (by omega));have zR:=HW.out.cR.z;have r0:Hid (Zp lo base R Pb lm vm cm w0 line res (.returned (.tuple #[])) (W.drew.setCell ⟨R,43,none⟩ (.slice (some ⟨q,0,none⟩) n cap))):=j0.out W.drew HW.out.drew;clear c0 k0 d0 j0
   go_wp2_with fail
   refine l0.out.mono ?_;rintro e w1 ⟨rfl,m0⟩;rw[m0];clear m0 w1 l0
   go_wp2_with fail
   go_still_tail 14,(by kernel_rfl)
   go_wp2_with fail
   go_end0
   exact r0.out
end
section
variable{lo base R Pb lm vm cm:Nat}{w0 w w1 w' W:World}{r:Fl.RS}{line:Int}{m:Yk}
def Zd.open_{d:Nat}{S S':Nat->Prop}{v v':Value}{ts:List Fl.Stmt}{n:Nat}{xs:List Value}{p:Value}(h:Zd d S base W v ts [])(ho:W.ownsRow base 220 1 v n xs)(ho':w'.ownsRow base 220 1 v' (n+1) (xs++[p]))(hS:∀b,S b->S' b)(hw:∀b,S b->w'.heap[b]?=W.heap[b]?):Zd d S' base w' v' ts [p]:=by
 obtain⟨ps,h1,h2,h3⟩:=h;simp only[List.append_nil,List.length_nil,Nat.add_zero]at h1;obtain⟨rfl,rfl⟩:=zl6 h1 ho;exact⟨ps,ho',h2,λi hi=>(h3 i hi).kept (λv l h=>Zt.kept hS hw d v l h) hS hw⟩
def Jj(who:Nat->Nat)(z1 sn ob i T:Nat)(v' ov':Value):Nat->Nat:=λb=>if b=sn then 10+3*i else if b=ob then 11+3*i else if z1<=b/\b<sn then 0 else if v'.ownBlock=some b then T else if ov'.ownBlock=some b then 2 else who b
structure zj0(who who':Nat->Nat)(z1 sn ob i T:Nat)(v' ov':Value):Prop where
 old:∀b,who b≠5->who' b=who b
 s:who' sn=10+3*i
 o:who' ob=11+3*i
 new:∀b,z1<=b->b<sn->who' b=0
 row:∀b,v'.ownBlock=some b->who' b=T
 orow:∀b,ov'.ownBlock=some b->who' b=2
 five:∀b,who' b≠5->who b≠5\/(z1<=b/\b<=sn)\/b=ob\/v'.ownBlock=some b\/ov'.ownBlock=some b
def zay{who:Nat->Nat}{z1 sn ob i T:Nat}{v v' ov ov':Value}(hI:∀b,who b≠5->b<z1)(hz:z1<=sn/\sn<ob)(hT:T≠5/\T≠2)(hv:∀b,v.ownBlock=some b->who b=T)(d0:∀b,ov.ownBlock=some b->who b=2)(hw:v'.ownBlock=v.ownBlock\/∃g,v'.ownBlock=some g/\sn<g/\g<ob)(e0:ov'.ownBlock=ov.ownBlock\/∃g,ov'.ownBlock=some g/\ob<g):zj0 who (Jj who z1 sn ob i T v' ov') z1 sn ob i T v' ov':=by
 have b0:∀b,who b≠5->b≠sn/\b≠ob/\¬(z1<=b/\b<sn):=λb hb=>by have:=hI b hb;omega
 have c0:∀b,v'.ownBlock=some b->(who b=T)\/(sn<b/\b<ob):=λb hb=>by
  rcases hw with e|⟨g,e,h1,h2⟩
  ·exact .inl (hv b (by rw[<-e];exact hb))
  rw[e]at hb;simp only[Option.some.injEq]at hb;subst hb;exact .inr ⟨h1,h2⟩
 have a0:∀b,ov'.ownBlock=some b->(who b=2)\/ob<b:=λb hb=>by
  rcases e0 with e|⟨g,e,h1⟩
  ·exact .inl (d0 b (by rw[<-e];exact hb))
  rw[e]at hb;simp only[Option.some.injEq]at hb;subst hb;exact .inr h1
 refine{old:=λb hb=>?_,s:=if_pos rfl,o:= ?_,new:=λb h1 h2=>?_,row:=λb hb=>?_,orow:=λb hb=>?_,five:=λb hb=>?_}
 ·obtain⟨h1,h2,h3⟩:=b0 b hb
  unfold Jj;rw[if_neg h1,if_neg h2,if_neg h3]
  by_cases e1:v'.ownBlock=some b
  ·rw[if_pos e1]
   rcases c0 b e1 with h|h
   ·exact h.symm
   have:=hI b hb;omega
  rw[if_neg e1]
  by_cases e2:ov'.ownBlock=some b
  ·rw[if_pos e2]
   rcases a0 b e2 with h|h
   ·exact h.symm
   have:=hI b hb;omega
  rw[if_neg e2]
 ·unfold Jj;rw[if_neg (by omega),if_pos rfl]
 ·unfold Jj;rw[if_neg (by omega),if_neg (by omega),if_pos ⟨h1,h2⟩]
 ·have:b≠sn/\b≠ob/\¬(z1<=b/\b<sn):=by
   rcases c0 b hb with h|h
   ·exact b0 b (by rw[h];exact hT.1)
   omega
  unfold Jj;rw[if_neg this.1,if_neg this.2.1,if_neg this.2.2,if_pos hb]
 ·have:b≠sn/\b≠ob/\¬(z1<=b/\b<sn):=by
   rcases a0 b hb with h|h
   ·exact b0 b (by rw[h];decide)
   omega
  have f0:v'.ownBlock≠some b:=λe=>by
   rcases c0 b e with h|h
   ·rcases a0 b hb with h'|h'
    ·exact hT.2 (by rw[<-h,h'])
    have:=hI b (by rw[h];exact hT.1);omega
   rcases a0 b hb with h'|h'
   ·have:=hI b (by rw[h'];decide);omega
   omega
  unfold Jj;rw[if_neg this.1,if_neg this.2.1,if_neg this.2.2,if_neg f0,if_pos hb]
 unfold Jj at hb
 by_cases e1:b=sn
 ·exact .inr (.inl ⟨by omega,by omega⟩)
 rw[if_neg e1]at hb
 by_cases e2:b=ob
 ·exact .inr (.inr (.inl e2))
 rw[if_neg e2]at hb
 by_cases e3:z1<=b/\b<sn
 ·exact .inr (.inl ⟨by omega,by omega⟩)
 rw[if_neg e3]at hb
 by_cases e4:v'.ownBlock=some b
 ·exact .inr (.inr (.inr (.inl e4)))
 rw[if_neg e4]at hb
 by_cases e5:ov'.ownBlock=some b
 ·exact .inr (.inr (.inr (.inr e5)))
 rw[if_neg e5]at hb;exact .inl hb
def Zw.opens(h:Zw lo base R Pb lm vm cm w0 W {r with stmts:=r.stmts+1} line m)(hb:r.begun=true)(C0:r.fr.length<3){z1 sn kind ln:Nat}{vp v' ov':Value}{e:Fl.Expr}{n:Nat}{xs:List Value}(I0:kind=5\/kind=6)(hI:∀b,m.who b≠5->b<z1)(R0:base<=z1)(D0:z1<=sn/\sn+1=W.heap.size)(J0:line=(ln:Int))(hst:zpz r.stmts r.fr r.top.length)
  (hc:Zn W sn 6 (rw_ [.int .i64 kind,.int .i64 line,.int .i64 0,vp,.slice none 0 0,.slice none 0 0])) (hv:zz3 (λb=>z1<=b/\b<sn) W vp e) (ho:W.ownsRow base 220 1 (Jt m.bv r.fr m.gs) n xs) (G:Jf 220 lo base w0 W w1 (Uv Pb m.gs) (zu9 r.fr) (Jt m.bv r.fr m.gs) v' n xs (ptr sn))
  (o:Obj) (K0:Zn (w1.alloc o) w1.heap.size 2 (rw_ [ptr sn,.bool false])) (G2:Jf 285 lo base w0 (w1.alloc o) w' R 43 m.ov ov' r.fr.length ((m.gs.map λg=>ptr g.ob).reverse) (ptr w1.heap.size)):
  ∃m',Zw lo base R Pb lm vm cm w0 w' (r.opens kind ln e) line m':=by
 obtain⟨b1,b2,b3,b4,b5,b6⟩:=h.hba;obtain⟨n1,n2,n3,n4,n5,n6,n7,n8,n9,n10⟩:=h.nd;have hl:=h.re.fa.len;have hz:=G.hz;have S0:=G2.hz;have T0:(w1.alloc o).heap.size=w1.heap.size+1:=World.size_alloc _ _;have a0:=zsx (r:={r with stmts:=r.stmts+1}) h G ho
 have L0:∀b,z1<=b->m.who b=5:=λb hb'=>Classical.byContradiction λt0=>by have:=hI b t0;omega
 have c0:=h.re.to;have f0:∀b,m.ov.ownBlock=some b->b<z1/\base<=b:=λb hb'=>⟨hI b (by rw[c0 b hb'];decide),(h.re.wh b (by rw[c0 b hb'];decide)).1⟩
 -- the second growth leaves
 have q2:∀b,b<w1.heap.size->b≠R->m.ov.ownBlock≠some b->w'.heap[b]?=w1.heap[b]?:=λb h1 h2 h3=>by
  rw[G2.q b (by omega) h2 h3];exact((Below.refl w1.heap.size w1).alloc (Nat.le_refl _) _).block b h1
 have q2l:∀b,b<base->b≠R->w'.heap[b]?=w1.heap[b]?:=λb h1 h2=>q2 b (by omega) h2 (λh3=>by have:=f0 b h3;omega);have u0:Zn w' w1.heap.size 2 (rw_ [ptr sn,.bool false]):=K0.block (G2.q _ (by omega) (by omega) (λh3=>by have:=f0 _ h3;omega));have E0:ov'.ownBlock=m.ov.ownBlock\/∃g,ov'.ownBlock=some g/\w1.heap.size<g:=by
  rcases G2.wh with e|⟨g,e,hg⟩
  ·exact .inl e
  exact .inr ⟨g,e,by omega⟩
 have p0:v'.ownBlock=(Jt m.bv r.fr m.gs).ownBlock\/∃g,v'.ownBlock=some g/\sn<g/\g<w1.heap.size:=by
  rcases G.wh with e|⟨g,e,hg⟩
  ·exact .inl e
  exact .inr ⟨g,e,by omega,(G.own.lt g e).2⟩
 have q0:∀(r':Fl.RS) (m':Yk),r'.begun=r.begun->r'.levels.length=r.levels.length->r'.stmts=r.stmts+1->m'.ov=ov'->m'.t=m.t->R≠Uv Pb m.gs->Zn w' R 45 (Xv Pb lm vm cm line r' m'):=λr' m' e1 e2 e4 e5 e6 t0=>by
  have c1:Zn (w1.alloc o) R 45 (Xv Pb lm vm cm line {r with stmts:=r.stmts+1} m):=(h.cR.block (a0 R b1 t0)).block (((Below.refl w1.heap.size w1).alloc (Nat.le_refl _) _).block R (by omega));refine(G2.cs 45 _ c1 (by decide)).congr (λj hj=>?_)
  by_cases h4:j=43
  ·subst h4;rw[if_pos rfl];exact e5.symm
  rw[if_neg h4];unfold Xv;rw[e1,e2,e4,e6]
  by_cases hs:j=0\/j=1\/j=2\/j=3\/j=40\/j=41\/j=42\/j=44
  ·rcases hs with rfl|rfl|rfl|rfl|rfl|rfl|rfl|rfl<;>rfl
  rw[if_neg (show ¬j=0 by omega),if_neg (show ¬j=1 by omega),if_neg (show ¬j=2 by omega),if_neg (show ¬j=3 by omega),if_neg (show ¬j=40 by omega),if_neg (show ¬j=41 by omega),if_neg (show ¬j=42 by omega),if_neg h4,if_neg (show ¬j=44 by omega)];rw[if_neg (show ¬j=0 by omega),if_neg (show ¬j=1 by omega),if_neg (show ¬j=2 by omega),if_neg (show ¬j=3 by omega),if_neg (show ¬j=40 by omega),if_neg (show ¬j=41 by omega),if_neg (show ¬j=42 by omega),if_neg h4]
 have F0:∀(who':Nat->Nat) (i T:Nat),zj0 m.who who' z1 sn w1.heap.size i T v' ov'->∀b,who' b≠5->base<=b/\b<w'.heap.size:=λwho' i T hO b hb'=>by
  rcases hO.five b hb' with h5|h5|h5|h5|h5
  ·have:=h.re.wh b h5;omega
  ·omega
  ·omega
  ·have:=G.own.lt b h5;omega
  have:=G2.own.lt b h5;omega
 have v0:r.opens kind ln e={r with fr:=⟨kind,ln,e,[],false,[]⟩::r.fr,stmts:=r.stmts+1}:=rfl
 have g0:∀f∈(⟨kind,ln,e,[],false,[]⟩::r.fr:List Fl.Frame),f.kind=5\/f.kind=6:=λf hf=>by
  rcases List.mem_cons.1 hf with rfl|hf
  ·exact I0
  exact h.ok.kinds f hf
 -- the frame that is new
 have r0:∀(who':Nat->Nat) (T:Nat),zj0 m.who who' z1 sn w1.heap.size r.fr.length T v' ov'->Uv Pb m.gs<z1->(∀k,(Jt m.bv r.fr m.gs).ownBlock=some k->m.who k≠5)->zz8 who' base w' (3 - (r.fr.length+1)) r.fr.length [] ⟨kind,ln,e,[],false,[]⟩ ⟨sn,w1.heap.size,vp,.slice none 0 0,.slice none 0 0⟩:=λwho' T hO U0 M0=>by
  have qn:∀b,z1<=b->b<W.heap.size->w'.heap[b]?=W.heap[b]?:=λb h1 h2=>by
   rw[q2 b (by omega) (by omega) (λh3=>by have:=f0 b h3;omega)];exact G.q b h2 (by omega) (λhk=>M0 b hk (L0 b h1))
  refine{ts:=hO.s,to:=hO.o,ta:=λb hb'=>?_,co:=u0,cs:= ?_,hv:=hv.kept (λb hb'=>hO.new b hb'.1 hb'.2) (λb hb'=>qn b hb'.1 (by omega)),pa:=Zd.none _ _ _,pf:=λhh=>(by cases hh),pe:=λ_=>⟨rfl,rfl⟩}
  ·cases hb'
  have:=hc.block (w':=w') (qn sn (by omega) (by omega));rw[J0]at this;exact this
 have x0:Um (r.stmts+1) 1 r.fr:=by
  have k0:=hst.2
  cases b0:r.fr with
  |nil=>trivial
  |cons f fs=>
   rw[b0]at k0;obtain⟨c1,c2,c3⟩:=k0
   cases hh:f.had with
   |true=>rw[hh]at c1 c2;simp at c1 c2;refine⟨?_,?_,Um.mono (by omega) (Nat.le_refl _) c3⟩<;>simp[hh]<;>omega
   |false=>rw[hh]at c1 c2;simp at c1 c2;refine⟨?_,?_,Um.mono (by omega) (Nat.le_refl _) c3⟩<;>simp[hh]<;>omega
 rw[v0]
 have s0:RsOk {r with fr:=⟨kind,ln,e,[],false,[]⟩::r.fr,stmts:=r.stmts+1}:=
  {cn:=⟨by have:=hst.1;simp;omega,⟨by simp,by simp,x0⟩⟩,lv:=h.ok.lv,ce:=h.ok.ce,ch:=h.ok.ch,lo:=h.ok.lo,st:=h.ok.st,fr:=(by simp;omega),cl:=h.ok.cl,hl:=h.ok.hl,pairs:=h.ok.pairs,kinds:=g0,head:=λhd=>(by rw[show ({r with fr:=⟨kind,ln,e,[],false,[]⟩::r.fr,stmts:=r.stmts+1}:Fl.RS).begun=r.begun from rfl,hb]at hd;cases hd),below:=h.ok.below,clv:=h.ok.clv,chv:=h.ok.chv,lat:=h.ok.lat}
 have l0:w'.ownsRow base 285 1 ov' (r.fr.length+1) ((m.gs.map λg=>ptr g.ob).reverse++[ptr w1.heap.size]):=G2.own
 cases b0:r.fr with
 |nil=>
  have d0:m.gs=[]:=by
   rw[show ({r with stmts:=r.stmts+1}:Fl.RS).fr=r.fr from rfl,b0]at hl;exact Qi (by simpa using hl)
  rw[b0]at s0;rw[b0,d0]at l0 G ho p0 r0;rw[d0]at a0 q0;have y0:∀b,m.bv.ownBlock=some b->m.who b=1:=h.re.tb;have hO:=zay (i:=0) (T:=1) (v:=m.bv) (ov:=m.ov) hI ⟨D0.1,by omega⟩ (by decide) y0 c0 p0 E0;obtain⟨who',i0⟩:∃who',who'=Jj m.who z1 sn w1.heap.size 0 1 v' ov':=⟨_,rfl⟩;rw[<-i0]at hO
  have hq:∀b,m.who b≠5->m.who b≠1->m.who b≠2->w'.heap[b]?=W.heap[b]?:=λb h5 h1 h2=>by
   have z0:=h.re.wh b h5;rw[q2 b (by omega) (by omega) (λh3=>h2 (c0 b h3))];exact G.q b z0.2 (by show b≠Pb;omega) (λhk=>h1 (y0 b hk))
  have h0:∀b,m.who b=0->who' b=0:=λb hb'=>(hO.old b (by omega)).trans hb';have e0:∀b,m.who b=0->w'.heap[b]?=W.heap[b]?:=λb hb'=>hq b (by omega) (by omega) (by omega)
  have j0:w'.ownsRow base 220 1 v' (n+1) (xs++[ptr sn]):=Zh G.own (λb hb'=>q2 b (G.own.lt b hb').2 (by have:=(G.own.lt b hb').1;omega) (λh3=>by
   have h2:=c0 b h3;have:=hO.old b (by rw[h2];decide)
   rw[hO.row b hb',h2]at this;omega))
  refine⟨{m with bv:=v',gs:=[⟨sn,w1.heap.size,vp,.slice none 0 0,.slice none 0 0⟩],ov:=ov',who:=who'},?_⟩;refine{ok:=s0,bel:=G2.bel,fx:=λb f1 f2 f3 f4 f5 f6=>((q2l b f1 f2).trans (a0 b f1 f3)).trans (h.fx b f1 f2 f3 f4 f5 f6),hlo:=h.hlo,hba:=⟨b1,b2,b3,b4,b5,by omega⟩,nd:=h.nd,cR:=q0 _ _ rfl rfl rfl rfl rfl (by show R≠Pb;omega),cP:= ?cP,nl:=(h.nl.block (a0 _ b3 (by show lm≠Pb;omega))).block (q2l _ b3 (by omega)),nv:=(h.nv.block (a0 _ b4 (by show vm≠Pb;omega))).block (q2l _ b4 (by omega)),nc:=(h.nc.block (a0 _ b5 (by show cm≠Pb;omega))).block (q2l _ b5 (by omega)),tab:=h.tab,re:= ?re}
  case cP=>
   refine((G.cs 5 _ h.cP (by decide)).block (q2l Pb b2 (by omega))).congr λk hk=>?_;rcases(show k=0\/k=1\/k=2\/k=3\/k=4 by omega) with rfl|rfl|rfl|rfl|rfl<;>rfl
  case re=>
   have m0:=h.re.pb;rw[d0]at m0;refine{wh:=F0 who' 0 1 hO,oc:=Zh h.re.oc (λb hb'=>hq b (by rw[h.re.tc b hb'];decide) (by rw[h.re.tc b hb'];decide) (by rw[h.re.tc b hb'];decide)),tc:=λb hb'=>(hO.old b (by rw[h.re.tc b hb'];decide)).trans (h.re.tc b hb'),oh:=Zh h.re.oh (λb hb'=>hq b (by rw[h.re.th b hb'];decide) (by rw[h.re.th b hb'];decide) (by rw[h.re.th b hb'];decide)),th:=λb hb'=>(hO.old b (by rw[h.re.th b hb'];decide)).trans (h.re.th b hb'),pb:=Zd.open_ m0 ho j0 h0 e0,tb:=hO.row,fa:= ?fa,oo:=l0,to:=hO.orow,la:=λhg=>?la}
   case fa=>
    refine⟨?_,trivial⟩;have:=r0 who' 1;simp only[List.length_nil]at this;exact this hO (by show Pb<z1;omega) (λk hk=>by rw[y0 k hk];decide)
   case la=>
    obtain⟨Lb,e1,e2,e3⟩:=h.re.la hg;exact⟨Lb,e1,h0 Lb e2,e3.block (e0 Lb e2)⟩
 |cons f fs=>
  cases d0:m.gs with
  |nil=>rw[show ({r with stmts:=r.stmts+1}:Fl.RS).fr=r.fr from rfl,b0,d0]at hl;simp at hl
  |cons g gs=>
   rw[b0]at s0;rw[b0,d0]at l0 G ho p0 r0;rw[d0]at a0 q0;rw[b0]at C0;simp only[List.length_cons]at C0;have G0:=h.re.fa;rw[show ({r with stmts:=r.stmts+1}:Fl.RS).fr=r.fr from rfl,b0,d0]at G0;obtain⟨hf,N0⟩:=G0;have O0:=h.re.wh g.sb (by rw[hf.ts];omega);have A0:=hI g.sb (by rw[hf.ts];omega);obtain⟨g',hg'⟩:∃g':GF,g'=if f.had then{g with ev:=v'} else{g with fv:=v'}:=⟨_,rfl⟩
   have n0:g'.sb=g.sb:=by rw[hg'];split<;>rfl
   have hob':g'.ob=g.ob:=by rw[hg'];split<;>rfl
   have H0:g'.vp=g.vp:=by rw[hg'];split<;>rfl
   have o0:g'.act f=v':=by
    unfold GF.act;rw[hg']
    cases f.had<;>rfl
   have B0:∀b,(Jt m.bv (f::fs) (g::gs)).ownBlock=some b->m.who b=12+3*fs.length:=hf.ta;have hO:=zay (i:=fs.length+1) (T:=12+3*fs.length) (ov:=m.ov) hI ⟨D0.1,by omega⟩ ⟨by omega,by omega⟩ B0 c0 p0 E0;obtain⟨who',i0⟩:∃who',who'=Jj m.who z1 sn w1.heap.size (fs.length+1) (12+3*fs.length) v' ov':=⟨_,rfl⟩;rw[<-i0]at hO
   have hq:∀b,m.who b≠5->m.who b≠12+3*fs.length->m.who b≠10+3*fs.length->m.who b≠2->w'.heap[b]?=W.heap[b]?:=λb h5 h1 P0 h2=>by
    have z0:=h.re.wh b h5;rw[q2 b (by omega) (by omega) (λh3=>h2 (c0 b h3))];exact G.q b z0.2 (λhe=>P0 (by rw[show b=g.sb from he];exact hf.ts)) (λhk=>h1 (B0 b hk))
   have h0:∀b,m.who b=0->who' b=0:=λb hb'=>(hO.old b (by omega)).trans hb';have e0:∀b,m.who b=0->w'.heap[b]?=W.heap[b]?:=λb hb'=>hq b (by omega) (by omega) (by omega) (by omega)
   have j0:w'.ownsRow base 220 1 v' (n+1) (xs++[ptr sn]):=Zh G.own (λb hb'=>q2 b (G.own.lt b hb').2 (by have:=(G.own.lt b hb').1;omega) (λh3=>by
    have h2:=c0 b h3;have:=hO.old b (by rw[h2];decide)
    rw[hO.row b hb',h2]at this;omega))
   refine⟨{m with gs:=⟨sn,w1.heap.size,vp,.slice none 0 0,.slice none 0 0⟩::g'::gs,ov:=ov',who:=who'},?_⟩;refine{ok:=s0,bel:=G2.bel,fx:=λb f1 f2 f3 f4 f5 f6=>((q2l b f1 f2).trans (a0 b f1 (by show b≠g.sb;omega))).trans (h.fx b f1 f2 f3 f4 f5 f6),hlo:=h.hlo,hba:=⟨b1,b2,b3,b4,b5,by omega⟩,nd:=h.nd,cR:=q0 _ _ rfl rfl rfl rfl rfl (by show R≠g.sb;omega),cP:=(h.cP.block (a0 _ b2 (by show Pb≠g.sb;omega))).block (q2l _ b2 (by omega)),nl:=(h.nl.block (a0 _ b3 (by show lm≠g.sb;omega))).block (q2l _ b3 (by omega)),nv:=(h.nv.block (a0 _ b4 (by show vm≠g.sb;omega))).block (q2l _ b4 (by omega)),nc:=(h.nc.block (a0 _ b5 (by show cm≠g.sb;omega))).block (q2l _ b5 (by omega)),tab:=h.tab,re:= ?re}
   case re=>
    have m0:=h.re.pb;rw[d0]at m0;have Q0:Xh (⟨sn,w1.heap.size,vp,.slice none 0 0,.slice none 0 0⟩::g'::gs)=Xh (g::gs):=(by rw[zlz];simp only[Xh,n0]);refine{wh:=F0 who' _ _ hO,oc:=Zh h.re.oc (λb hb'=>hq b (by rw[h.re.tc b hb'];decide) (by rw[h.re.tc b hb'];omega) (by rw[h.re.tc b hb'];omega) (by rw[h.re.tc b hb'];decide)),tc:=λb hb'=>(hO.old b (by rw[h.re.tc b hb'];decide)).trans (h.re.tc b hb'),oh:=Zh h.re.oh (λb hb'=>hq b (by rw[h.re.th b hb'];decide) (by rw[h.re.th b hb'];omega) (by rw[h.re.th b hb'];omega) (by rw[h.re.th b hb'];decide)),th:=λb hb'=>(hO.old b (by rw[h.re.th b hb'];decide)).trans (h.re.th b hb'),pb:= ?pb,tb:=λb hb'=>(hO.old b (by rw[h.re.tb b hb'];decide)).trans (h.re.tb b hb'),fa:= ?fa,oo:= ?oo,to:=hO.orow,la:=λhg=>?la}
    case pb=>
     show Zd 3 _ base w' m.bv r.top (Xh (_::g'::gs));rw[Q0];exact m0.kept h0 e0 (λb hb'=>hq b (by rw[h.re.tb b hb'];decide) (by rw[h.re.tb b hb'];omega) (by rw[h.re.tb b hb'];omega) (by rw[h.re.tb b hb'];decide))
    case oo=>
     show w'.ownsRow base _ 1 ov' (_::f::fs).length (((_::g'::gs).map λg=>ptr g.ob).reverse);simp only[List.map_cons,List.reverse_cons,List.length_cons,hob']at l0⊢;exact l0
    case la=>
     obtain⟨Lb,e1,e2,e3⟩:=h.re.la hg;exact⟨Lb,e1,h0 Lb e2,e3.block (e0 Lb e2)⟩
    case fa=>
     refine⟨?_,?_,?_⟩
     ·have:=r0 who' (12+3*fs.length)
      simp only[List.length_cons]at this;exact this hO A0 (λk hk=>by rw[B0 k hk];omega)
     ·show zz8 who' base w' (3 - (fs.length+1+1)+1) fs.length [ptr sn] f g'
      rw[show 3 - (fs.length+1+1)+1=3 - (fs.length+1) by omega];refine{ts:=by rw[n0];exact(hO.old g.sb (by rw[hf.ts];omega)).trans hf.ts,to:=by rw[hob'];exact(hO.old g.ob (by rw[hf.to];omega)).trans hf.to,ta:=λb hb'=>hO.row b (by rw[<-o0];exact hb'),co:= ?co,cs:= ?cs,hv:=by rw[H0];exact hf.hv.kept h0 e0,pa:= ?pa,pf:= ?pf,pe:= ?pe}
      case co=>rw[hob',n0];exact hf.co.block (hq g.ob (by rw[hf.to];omega) (by rw[hf.to];omega) (by rw[hf.to];omega) (by rw[hf.to];omega))
      case cs=>
       rw[n0,H0];refine((G.cs 6 _ hf.cs (by show (if f.had then 5 else 4)<6;split<;>omega)).block (q2 g.sb (by omega) (by omega) (λh3=>by have:=c0 _ h3;rw[hf.ts]at this;omega))).congr λk hk=>?_;rw[hg'];show (if k=(if f.had then 5 else 4) then v' else _)=_
       cases f.had<;>rcases(show k=0\/k=1\/k=2\/k=3\/k=4\/k=5 by omega) with rfl|rfl|rfl|rfl|rfl|rfl<;>rfl
      case pa=>
       rw[o0];exact Zd.open_ hf.pa ho j0 h0 e0
      case pf=>
       intro hh;have:=Zt.kept h0 e0 _ _ _ (hf.pf hh);rw[hg',hh];exact this
      case pe=>
       intro hh;rw[hg',hh];exact hf.pe hh
     show Xo who' base w' (3 - (fs.length+1+1)+1+1) [ptr g'.sb] fs gs;rw[n0,show 3 - (fs.length+1+1)+1+1=3 - (fs.length+1)+1 by omega]
     exact N0.kept (λb hb'=>by
      rcases hb' with hb'|hb'
      ·exact⟨hO.old b (by omega),e0 b hb'⟩
      exact⟨hO.old b (by omega),hq b (by omega) (by omega) (by omega) (by omega)⟩)
end
end Go.Proofs.YtminjljgedopkaaGreatDoor
