import Derived.Test.YtminjljgedopkaaGreatDoorM16
set_option linter.all false
set_option maxRecDepth 100000
set_option maxHeartbeats 40000000
namespace Go.Proofs.YtminjljgedopkaaGreatDoor
open Go.RowKit Go.Proofs.Tryz
structure PC(w:World)(b P0:Nat)(lv:Value)(wr:World)(q:Nat)(s34 nc1:Value)(fam:List (Value×List Int))(sv nv:Value)(n1 n2:Nat)(xs ys:List Value):Prop where
 hl:Li (P0+1) wr fam sv nv n1 n2 xs ys
 c0:wr.cell? ⟨P0,0,none⟩=some lv
 c1:wr.cell? ⟨P0,1,none⟩=some nc1
 d0:wr.cell? ⟨w.heap.size,0,none⟩=some (.slice none 0 0)
 d1:wr.cell? ⟨w.heap.size,1,none⟩=some (.slice none 0 0)
 f0:∀j,wr.frozen? ⟨w.heap.size,j,none⟩=false
 f1:∀j,wr.frozen? ⟨P0,j,none⟩=false
 fb:∀j,wr.frozen? ⟨b,j,none⟩=false
 fr:Fr w wr b
 a1:wr.cell? ⟨b,1,none⟩=some (.int .i64 (q:Int))
 a34:wr.cell? ⟨b,34,none⟩=some s34
 hR:w.heap.size<P0
 hP:P0<wr.heap.size
 hb:b<w.heap.size
section
variable{w:World}{b P0:Nat}{lv:Value}{wr w':World}{q:Nat}{s34 nc1:Value}{fam:List (Value×List Int)}{sv nv:Value}{n1 n2:Nat}{xs ys:List Value}
def PC.own(h:PC w b P0 lv wr q s34 nc1 fam sv nv n1 n2 xs ys){row:Option Nat}(g:wr.grownBy w' row)(a0:∀k,row=some k->P0+1<=k){sv' nv':Value}{n1' n2':Nat}{xs' ys':List Value}{fam':List (Value×List Int)}(hl:Li (P0+1) w' fam' sv' nv' n1' n2' xs' ys'):PC w b P0 lv w' q s34 nc1 fam' sv' nv' n1' n2' xs' ys':=by
 have hR:=h.hR;have hb:=h.hb;have hP:=h.hP
 have ne:∀k,k<=P0->some k≠row:=λk hk e=>by have:=a0 k e.symm;omega
 have fz:∀(N j:Nat),N<wr.heap.size->N<=P0->w'.frozen? ⟨N,j,none⟩=wr.frozen? ⟨N,j,none⟩:=λN j hN hk=>Qd (w:=wr) (a:=⟨N,j,none⟩) (g.block N hN (ne N hk));exact⟨hl,g.cell h.c0 (ne _ (Nat.le_refl _)),g.cell h.c1 (ne _ (Nat.le_refl _)),g.cell h.d0 (ne _ (by show w.heap.size<=P0;omega)),g.cell h.d1 (ne _ (by show w.heap.size<=P0;omega)),λj=>(fz _ j (by omega) (by omega)).trans (h.f0 j),λj=>(fz _ j hP (by omega)).trans (h.f1 j),λj=>(fz _ j (by omega) (by omega)).trans (h.fb j),h.fr.andGrown g hb (λk e=>by have:=a0 k e;omega),g.cell h.a1 (ne _ (by show b<=P0;omega)),g.cell h.a34 (ne _ (by show b<=P0;omega)),hR,Nat.lt_of_lt_of_le hP g.size,hb⟩
def PC.alloc(h:PC w b P0 lv wr q s34 nc1 fam sv nv n1 n2 xs ys)(o:Obj):PC w b P0 lv (wr.alloc o) q s34 nc1 fam sv nv n1 n2 xs ys:=
 h.own (World.grownBy_alloc wr o none) (λk e=>by cases e) (h.hl.stay (Yi.alloc _ _ _))
def PC.drew(h:PC w b P0 lv wr q s34 nc1 fam sv nv n1 n2 xs ys):PC w b P0 lv wr.drew q s34 nc1 fam sv nv n1 n2 xs ys:=
 h.own (w':=wr.drew) (row:=none) ⟨rfl,rfl,rfl,Nat.le_refl _,λ_ _ _=>rfl⟩ (λk e=>by cases e) (h.hl.stay (w':=wr.drew) ⟨Nat.le_refl _,λ_ _ _=>rfl⟩)
def PC.below(h:PC w b P0 lv wr q s34 nc1 fam sv nv n1 n2 xs ys)(hb:Below wr.heap.size wr w'):PC w b P0 lv w' q s34 nc1 fam sv nv n1 n2 xs ys:=
 h.own (row:=none) ⟨hb.os,hb.tape,hb.output,hb.size,λk hk _=>hb.block k hk⟩ (λk e=>by cases e) (h.hl.stay (Yi.below hb))
def PC.first(h:PC w b P0 lv wr q s34 nc1 fam sv nv n1 n2 xs ys){sv':Value}{n1':Nat}{xs':List Value}(ho:w'.ownsRow (P0+1) 3 1 sv' n1' xs')(hg:wr.grownBy w' sv.ownBlock)(hw:sv'.ownBlock=sv.ownBlock\/sv'.ownBlock=some wr.heap.size):PC w b P0 lv w' q s34 nc1 fam sv' nv n1' n2 xs' ys:=
 h.own hg (λk e=>(h.hl.hs.lt k e).1) (h.hl.first ho hg hw)
def PC.second(h:PC w b P0 lv wr q s34 nc1 fam sv nv n1 n2 xs ys){nv':Value}{n2':Nat}{ys':List Value}(ho:w'.ownsRow (P0+1) 121 6 nv' n2' ys')(hg:wr.grownBy w' nv.ownBlock)(hw:nv'.ownBlock=nv.ownBlock\/nv'.ownBlock=some wr.heap.size):PC w b P0 lv w' q s34 nc1 fam sv nv' n1 n2' xs ys':=
 h.own hg (λk e=>(h.hl.hn.lt k e).1) (h.hl.second ho hg hw)
def PC.add(h:PC w b P0 lv wr q s34 nc1 fam sv nv n1 n2 xs ys){lvn:Value}{l:List Int}{N:Nat}(hi:Zy wr.heap.size wr lvn l)(hf:∀b,lvn.ownBlock=some b->N<=b)(a0:∀b,sv.ownBlock=some b->b<N)(b0:∀b,nv.ownBlock=some b->b<N)(hN:P0+1<=N):PC w b P0 lv wr q s34 nc1 (fam++[(lvn,l)]) sv nv n1 n2 xs ys:=
 ⟨h.hl.add hi hf a0 b0 hN,h.c0,h.c1,h.d0,h.d1,h.f0,h.f1,h.fb,h.fr,h.a1,h.a34,h.hR,h.hP,h.hb⟩
def PC.move(h:PC w b P0 lv wr q s34 nc1 fam sv nv n1 n2 xs ys)(m:Mv wr w' b){q':Nat}(c:w'.cell? ⟨b,1,none⟩=some (.int .i64 (q':Int))):PC w b P0 lv w' q' s34 nc1 fam sv nv n1 n2 xs ys:=by
 have hR:=h.hR;have hb:=h.hb;have hP:=h.hP
 have n1:some P0≠some b:=by simp;omega
 have n2:some w.heap.size≠some b:=by simp;omega
 have fz:∀(N j:Nat),N<wr.heap.size->some N≠some b->w'.frozen? ⟨N,j,none⟩=wr.frozen? ⟨N,j,none⟩:=λN j hN a0=>Qd (w:=wr) (a:=⟨N,j,none⟩) (m.g.block N hN a0);exact⟨h.hl.stay (Yi.grown m.g (λk e=>by injection e with e;omega)),m.g.cell h.c0 n1,m.g.cell h.c1 n1,m.g.cell h.d0 n2,m.g.cell h.d1 n2,λj=>(fz _ j (by omega) n2).trans (h.f0 j),λj=>(fz _ j hP n1).trans (h.f1 j),λj=>(m.f j).trans (h.fb j),h.fr.trans m.fr,c,(m.o 34 (by decide)).trans h.a34,hR,Nat.lt_of_lt_of_le hP m.g.size,hb⟩
def PC.set34(h:PC w b P0 lv wr q s34 nc1 fam sv nv n1 n2 xs ys)(u:Value):PC w b P0 lv (wr.setCell ⟨b,34,none⟩ u) q u nc1 fam sv nv n1 n2 xs ys:=by
 have hR:=h.hR;have hb:=h.hb;have g:=Yl wr b 34 u
 have n1:some P0≠some b:=by simp;omega
 have n2:some w.heap.size≠some b:=by simp;omega
 exact⟨h.hl.stay (Yi.grown g (λk e=>by injection e with e;omega)),g.cell h.c0 n1,g.cell h.c1 n1,g.cell h.d0 n2,g.cell h.d1 n2,λj=>(World.frozen?_setCell _ _ _ _).trans (h.f0 j),λj=>(World.frozen?_setCell _ _ _ _).trans (h.f1 j),λj=>(World.frozen?_setCell _ _ _ _).trans (h.fb j),h.fr.trans (Fr.set34 _ _ _),(Yw (by decide)).trans h.a1,Vn h.a34,hR,by simpa [World.setCell] using h.hP,hb⟩
def PC.setc1(h:PC w b P0 lv wr q s34 nc1 fam sv nv n1 n2 xs ys)(u:Value):PC w b P0 lv (wr.setCell ⟨P0,1,none⟩ u) q s34 u fam sv nv n1 n2 xs ys:=by
 have hR:=h.hR;have hb:=h.hb;have g:=Yl wr P0 1 u
 have n1:some b≠some P0:=by simp;omega
 have n2:some w.heap.size≠some P0:=by simp;omega
 exact⟨h.hl.stay (Yi.grown g (λk e=>by injection e with e;omega)),(Yw (by decide)).trans h.c0,Vn h.c1,g.cell h.d0 n2,g.cell h.d1 n2,λj=>(World.frozen?_setCell _ _ _ _).trans (h.f0 j),λj=>(World.frozen?_setCell _ _ _ _).trans (h.f1 j),λj=>(World.frozen?_setCell _ _ _ _).trans (h.fb j),h.fr.andGrown g hb (λk e=>by injection e with e;omega),g.cell h.a1 n1,g.cell h.a34 n1,hR,by simpa [World.setCell] using h.hP,hb⟩
end
section
variable{s:List UInt8}{M q0:Nat}{w:World}{b P0:Nat}{lv:Value}{ls:List Int}{wr w':World}{k q:Nat}{sv nv sv' nv':Value}{st:List Int}{acc:List Fl.Node}{lvs:List Value}
def PL.pc(h:PL s M q0 w b P0 lv ls wr k q sv nv st acc lvs):PC w b P0 lv wr q sv nv ((lv,ls)::Ym acc lvs) sv nv k k (st.map (Value.int .i64)) (Xr acc lvs):=
 ⟨h.hl,h.c0,h.c1,h.d0,h.d1,h.f0,h.f1,h.fb,h.fr,h.a1,h.a34,h.hR,h.hP,h.hb⟩
def PL.step(h:PL s M q0 w b P0 lv ls wr k q sv nv st acc lvs)(b0:k<M){nd:Fl.Node}{af:Nat}{z:Int}(ho:Fl.one s q k=(nd,(af:Int),z))(a0:af<=s.length){lvn:Value}
  (hc:PC w b P0 lv w' af sv' nv' (((lv,ls)::Ym acc lvs)++[(lvn,nd.list)]) sv' nv' (k+1) (k+1) (st.map (Value.int .i64)++[.int .i64 (q:Int)]) (Xr acc lvs++Zi nd lvn)):
  PL s M q0 w b P0 lv ls w' (k+1) af sv' nv' (st++[(q:Int)]) (acc++[nd]) (lvs++[lvn]):=by
 have hlen:lvs.length=acc.length:=by rw[h.hacc,h.hlvs]
 have hgood:Fl.good k nd:=by
  have:=Fl.one_good' s q k h.hq (by rw[ho];simp only;omega);rw[ho]at this;exact this
 refine⟨by omega,a0,by simp[h.hst],by simp[h.hacc],by simp[h.hlvs],?_,Fl.allGood_snoc h.hgood (by rw[h.hacc];exact hgood),?_,hc.c0,hc.c1,hc.d0,hc.d1,hc.f0,hc.f1,hc.fb,hc.fr,hc.a1,hc.a34,hc.hR,hc.hP,hc.hb⟩
 ·rw[h.hrun,show M - k=(M - (k+1))+1 from by omega];simp only[Fl.nodesA,ho,Int.toNat_natCast];rw[if_neg (by omega)]
 rw[Uo _ _ _ _ hlen,zx8 _ _ _ _ hlen,List.map_append];exact hc.hl
end
def zg7{w:World}{o:Obj}{e:TypeId}{x:Value}:∀j u,[x][j]?=some u->((w.alloc o).alloc (.cells #[x] e)).cell? ((⟨w.heap.size+1,0,none⟩:Addr).add j)=some u:=by
 intro j u hj;have:=Uw (w:=w.alloc o) (e:=e) j u hj
 rwa [World.size_alloc]at this
def Tryz.infoNode:(Tryz.prog.info? 121).map (λi=>(i.zero,i.size,i.bytes))=some (some (.agg #[.int .i64 0,.int .i64 0,.int .i64 0,.int .i64 0,.int .i64 0,.slice none 0 0]),6,64):=by kernel_rfl
def Yi.mono{base base':Nat}{w w':World}(h:Yi base w w')(hb:base<=base'):Yi base' w w':=⟨h.size,λk hk a0=>h.block k (by omega) a0⟩
def zqv(r:(List Int×List Fl.Node)×Bool×Int)(b:Nat)(w:World)(e:Ending)(w':World):Prop:=
 w.grownBy w' (some b)/\(r.2.1=false->e=.panicked (Zq 8 r.2.2))/\(r.2.1=true->∃lv nv,e=.returned (.agg #[lv,nv])/\∀w'',Yi w.heap.size w' w''->Zy w''.heap.size w'' lv r.1.1/\Zo w''.heap.size w'' nv r.1.2)
def Yb{r:(List Int×List Fl.Node)×Bool×Int}{pl:Int}{b:Nat}{w w':World}(hr:r=(([],[]),false,pl))(m:w.grownBy w' (some b)):zqv r b w (.panicked (Zq 8 pl)) w':=by
 subst hr;exact⟨m,λ_=>rfl,λh=>by cases h⟩
def zx5{s:List UInt8}{i:Nat}(h:∀t,t<i->Fl.headOk s t=true)(hi:i<3)(hb:Fl.headOk s i=false):Fl.decode s=(([],[]),false,(i:Int)):=by
 have he:Fl.headAt s=i:=by
  unfold Fl.headAt
  have:i=0\/i=1\/i=2:=by omega
  rcases this with rfl|rfl|rfl
  ·rw[if_pos hb]
  ·rw[if_neg (by rw[h 0 (by omega)];decide),if_pos hb]
  rw[if_neg (by rw[h 0 (by omega)];decide),if_neg (by rw[h 1 (by omega)];decide),if_pos hb]
 unfold Fl.decode;rw[he,if_pos hi]
def yyv{s:List UInt8}{i:Nat}(h:¬i<s.length):Fl.headOk s i=false:=by unfold Fl.headOk;rw[decide_eq_false h];rfl
def yx0{s:List UInt8}{i:Nat}(h:i<s.length):Fl.headOk s i=((s.getD i 0).toNat==(([70,80,49]:List UInt8).getD i 0).toNat):=by
 unfold Fl.headOk;rw[decide_eq_true h,Bool.true_and,Bool.eq_iff_iff,beq_iff_eq,beq_iff_eq];exact⟨λh=>by rw[h],λh=>UInt8.toNat_inj.1 h⟩
structure PB(w wr:World)(b P0:Nat)(lv:Value):Prop where
 c0:wr.cell? ⟨P0,0,none⟩=some lv
 c1:wr.cell? ⟨P0,1,none⟩=some (.slice none 0 0)
 d0:wr.cell? ⟨w.heap.size,0,none⟩=some (.slice none 0 0)
 d1:wr.cell? ⟨w.heap.size,1,none⟩=some (.slice none 0 0)
 f0:∀j,wr.frozen? ⟨w.heap.size,j,none⟩=false
 f1:∀j,wr.frozen? ⟨P0,j,none⟩=false
 fb:∀j,wr.frozen? ⟨b,j,none⟩=false
 m:Mv w wr b
 a34:wr.cell? ⟨b,34,none⟩=some (.slice none 0 0)
 hR:w.heap.size<P0
 hP:P0<wr.heap.size
 hb:b<w.heap.size
def PB.move{w wr w':World}{b P0:Nat}{lv:Value}(h:PB w wr b P0 lv)(m:Mv wr w' b):PB w w' b P0 lv:=by
 have hR:=h.hR;have hb:=h.hb;have hP:=h.hP
 have n1:some P0≠some b:=by simp;omega
 have n2:some w.heap.size≠some b:=by simp;omega
 have fz:∀(N j:Nat),N<wr.heap.size->some N≠some b->w'.frozen? ⟨N,j,none⟩=wr.frozen? ⟨N,j,none⟩:=λN j hN a0=>Qd (w:=wr) (a:=⟨N,j,none⟩) (m.g.block N hN a0);exact⟨m.g.cell h.c0 n1,m.g.cell h.c1 n1,m.g.cell h.d0 n2,m.g.cell h.d1 n2,λj=>(fz _ j (by omega) n2).trans (h.f0 j),λj=>(fz _ j hP n1).trans (h.f1 j),λj=>(m.f j).trans (h.fb j),h.m.trans m,(m.o 34 (by decide)).trans h.a34,hR,Nat.lt_of_lt_of_le hP m.g.size,hb⟩
def PB.set0{w wr:World}{b P0:Nat}{lv:Value}(h:PB w wr b P0 lv)(u:Value):PB w (wr.setCell ⟨P0,0,none⟩ u) b P0 u:=by
 have hR:=h.hR;have hb:=h.hb;have g:=Yl wr P0 0 u
 have n1:some w.heap.size≠some P0:=by simp;omega
 have n2:some b≠some P0:=by simp;omega
 exact⟨Vn h.c0,(Yw (by decide)).trans h.c1,g.cell h.d0 n1,g.cell h.d1 n1,λj=>(World.frozen?_setCell _ _ _ _).trans (h.f0 j),λj=>(World.frozen?_setCell _ _ _ _).trans (h.f1 j),λj=>(World.frozen?_setCell _ _ _ _).trans (h.fb j),h.m.andSet hb (by omega) _ _,g.cell h.a34 n2,hR,by simpa [World.setCell] using h.hP,hb⟩
def PB.pl{s:List UInt8}{M q0:Nat}{w wr:World}{b P0:Nat}{lv:Value}{ls:List Int}(h:PB w wr b P0 lv)(hq:q0<=s.length)(a1:wr.cell? ⟨b,1,none⟩=some (.int .i64 (q0:Int)))(hi:Zy wr.heap.size wr lv ls)(a0:∀bb,lv.ownBlock=some bb->P0+1<=bb):
  PL s M q0 w b P0 lv ls wr 0 q0 (.slice none 0 0) (.slice none 0 0) [] [] []:=by
 refine⟨by omega,hq,rfl,rfl,rfl,rfl,λi hi=>by simp at hi,⟨World.ownsRow_nil _ _ _ _,World.ownsRow_nil _ _ _ _,λp hp=>?_⟩,h.c0,h.c1,h.d0,h.d1,h.f0,h.f1,h.fb,h.m.fr,a1,h.a34,h.hR,h.hP,h.hb⟩;simp only[Ym,List.mem_singleton]at hp;subst hp;refine⟨⟨hi,λhx=>?_⟩,λ_ bb hb=>a0 bb hb⟩;obtain⟨bb,hb,_⟩:=zy8 hi hx;rw[hb];exact⟨by simp[Value.ownBlock],by simp[Value.ownBlock]⟩
def Dr.moveF{w w':World}{b:Nat}{ao:Option Addr}{cap:Nat}{s:List UInt8}{p q:Nat}(h:Dr w b ao cap s p)(m:Fr w w' b)(c:w'.cell? ⟨b,1,none⟩=some (.int .i64 q))(hq:q<=s.length):Dr w' b ao cap s q:=by
 refine⟨(m.o 0 (by decide) (by decide)).trans h.c0,c,(m.f 1).trans h.f1,λb0=>?_,hq,h.hs⟩;obtain⟨bb,bo,ha,a0,hc⟩:=h.hb b0;exact⟨bb,bo,ha,a0,λi hi=>m.g.cell (hc i hi) (by simpa using a0)⟩
def Yq.moveF{w w':World}{b:Nat}(h:Yq w b 2)(m:Fr w w' b):Yq w' b 2:=λk hk=>by
 obtain⟨h1,h2,h3⟩:=h k hk;exact⟨(m.o _ (by omega) (by omega)).trans h1,(m.o _ (by omega) (by omega)).trans h2,(m.o _ (by omega) (by omega)).trans h3⟩
def yx1{b:Nat}{ao:Option Addr}{cap:Nat}{s:List UInt8}{w:World}(h:Dr w b ao cap s 0)(hr:Yq w b 2)(Z1:w.cell? ⟨b,34,none⟩=some (.slice none 0 0))(a2:∀j,w.frozen? ⟨b,j,none⟩=false):
  Calls prog 41 #[.pointer (some ⟨b,0,none⟩)] w λe w'=>zqv (Fl.decode s) b w e w':=by
 obtain⟨i0,H2,H1,I2,J2⟩:=info_parts Tryz.infoInt;obtain⟨i1,b2,d2,f2,g2⟩:=info_parts Tryz.infoNode;have hlb:=h.lt;have hs:=h.hs;have HD:=Zz h;have HR:=Zz hr;have K2:=Zz Z1;have L2:=Zz a2;clear h hr Z1 a2
 go_enter func41,ntmps41
 go_wp2_with fail
 obtain⟨W0,H0⟩:=nmE (w.alloc (.cells #[.slice none 0 0,.slice none 0 0] 26));rw[<-H0]
 have F0:Hid (Mv w W0 b):=by rw[H0];exact(Mv.refl w b).alloc hlb _
 have h2:Hid (W0.cell? ⟨b,1,none⟩=some (.int .i64 0)):=by show _=_;rw[H0,World.cell?_alloc_past _ _ _ hlb];exact HD.out.c1
 have i2:Hid (W0.cell? ⟨w.heap.size,0,none⟩=some (.slice none 0 0)/\W0.cell? ⟨w.heap.size,1,none⟩=some (.slice none 0 0)/\∀j,W0.frozen? ⟨w.heap.size,j,none⟩=false):=by rw[H0];exact⟨by simp,by simp,λj=>by simp⟩
 have H1:W0.heap.size=w.heap.size+1:=by rw[H0];simp
 clear H0
 go_loopw [7] (λi wr=>∃j:Nat,j<=3/\i=.int .i64 j/\(∀t,t<j->Fl.headOk s t=true)/\Mv W0 wr b/\wr.cell? ⟨b,1,none⟩=some (.int .i64 (j:Int))/\j<=s.length) (λi _=>3 - (intOf i).toNat)
 case atStart=>exact⟨0,by omega,rfl,λt ht=>by omega,Mv.refl _ _,h2.out,by omega⟩
 case round=>
  obtain⟨i,M2,rfl,j2,hm,L0,M0⟩:=hrel;have n0:=Zz j2;have HM:=Zz hm;have o1:=Zz L0;have I0:Hid (Dr wr b ao cap s i):=HD.out.move (F0.out.trans hm) L0 M0;have I1:Hid (Dr wr.drew b ao cap s i):=I0.out.move ((Mv.refl wr b).drew) L0 M0;clear j2 hm
  by_cases hi:i<3
  ·by_cases x0:i<s.length
   ·obtain⟨c,hc⟩:=nmE ((s.getD i 0).toNat)
    have HN:Hid (Calls prog 81 #[.pointer (some ⟨b,0,none⟩)] wr.drew λe w'=>e=.returned (.int .u8 c)/\Mv wr.drew w' b/\w'.cell? ⟨b,1,none⟩=some (.int .i64 ((i+1:Nat):Int))):=(by rw[hc];exact zk9 I1.out x0);have J0:Hid (Fl.headOk s i=(c==(([70,80,49]:List UInt8).getD i 0).toNat)):=(by show _=_;rw[yx0 x0,hc]);clear hc;have h3:i=0\/i=1\/i=2:=(by omega);clear L0;rcases h3 with rfl|rfl|rfl
    ·have c1:wr.cell? ⟨b,1,none⟩=some (.int .i64 0):=o1.out
     by_cases j0:c=70
     ·have bq:((c:Int)==(((⟨#[70,80,49]⟩:ByteArray)[0]'(by decide)).toNat:Int))=true:=beq_iff_eq.2 (by rw[j0];rfl)
      have bqn:(c==70)=true:=beq_iff_eq.2 j0;have HG:Hid (Fl.headOk s 0=true):=J0.out.trans bqn;clear j0 bqn
      go_wp2_with fail
      refine Xs [0,1,3,4,6] [2,5,7] (by kernel_rfl) (by kernel_rfl) rfl [_,_,_,_,_] [_,_,_] rfl rfl (λc a d v w h=>by cases d<;>exact h) ?_;refine Xw (λL HL=>?_)
      repeat refine Xx rfl (kE (by intro w' _;go_simp<;>rfl) (by go_simp<;>rfl) ?_)
      refine HL.out _ ?_;clear HL
      go_wp2_with (first|(go_at_call 81;refine(HN.out).mono ?_;rintro e w1 ⟨rfl,h0,l0⟩)|(go_at_call 80;refine(Ux _ _ _).mono ?_;rintro e w2 ⟨rfl,rfl⟩))
      all_goals
       try go_wp2
       go_roundw
       case rel=>exact⟨0+1,by omega,by go_num,λt ht=>by
        by_cases h:t<0
        ·exact n0.out t h
        have:t=0:=by omega
        subst this;exact HG.out,(HM.out.drew).trans h0,l0,by omega⟩
       case measure=>simp[intOf]
     have bq:((c:Int)==(((⟨#[70,80,49]⟩:ByteArray)[0]'(by decide)).toNat:Int))=false:=beq_eq_false_iff_ne.2 (show (c:Int)≠70 by omega);have bqn:(c==70)=false:=beq_eq_false_iff_ne.2 j0;have HB:Hid (Fl.decode s=(([],[]),false,((0:Nat):Int))):=zx5 n0.out (by omega) (J0.out.trans bqn);clear j0 bqn
     go_wp2_with fail
     refine Xs [0,1,3,4,6] [2,5,7] (by kernel_rfl) (by kernel_rfl) rfl [_,_,_,_,_] [_,_,_] rfl rfl (λc a d v w h=>by cases d<;>exact h) ?_;refine Xw (λL HL=>?_)
     repeat refine Xx rfl (kE (by intro w' _;go_simp<;>rfl) (by go_simp<;>rfl) ?_)
     refine HL.out _ ?_;clear HL
     go_wp2_with (first|(go_at_call 81;refine(HN.out).mono ?_;rintro e w1 ⟨rfl,h0,l0⟩)|(go_at_call 80;refine(Xz _ _ _).mono ?_;rintro e w2 ⟨rfl,N0⟩;exact⟨rfl,Yb HB.out (((F0.out.trans HM.out).drew.trans h0).andBelow N0 hlb).g⟩))
    ·have c1:wr.cell? ⟨b,1,none⟩=some (.int .i64 1):=o1.out
     by_cases j0:c=80
     ·have bq:((c:Int)==(((⟨#[70,80,49]⟩:ByteArray)[1]'(by decide)).toNat:Int))=true:=beq_iff_eq.2 (by rw[j0];rfl)
      have bqn:(c==80)=true:=beq_iff_eq.2 j0;have HG:Hid (Fl.headOk s 1=true):=J0.out.trans bqn;clear j0 bqn
      go_wp2_with fail
      refine Xs [0,1,3,4,6] [2,5,7] (by kernel_rfl) (by kernel_rfl) rfl [_,_,_,_,_] [_,_,_] rfl rfl (λc a d v w h=>by cases d<;>exact h) ?_;refine Xw (λL HL=>?_)
      repeat refine Xx rfl (kE (by intro w' _;go_simp<;>rfl) (by go_simp<;>rfl) ?_)
      refine HL.out _ ?_;clear HL
      go_wp2_with (first|(go_at_call 81;refine(HN.out).mono ?_;rintro e w1 ⟨rfl,h0,l0⟩)|(go_at_call 80;refine(Ux _ _ _).mono ?_;rintro e w2 ⟨rfl,rfl⟩))
      all_goals
       try go_wp2
       go_roundw
       case rel=>exact⟨1+1,by omega,by go_num,λt ht=>by
        by_cases h:t<1
        ·exact n0.out t h
        have:t=1:=by omega
        subst this;exact HG.out,(HM.out.drew).trans h0,l0,by omega⟩
       case measure=>simp[intOf]
     have bq:((c:Int)==(((⟨#[70,80,49]⟩:ByteArray)[1]'(by decide)).toNat:Int))=false:=beq_eq_false_iff_ne.2 (show (c:Int)≠80 by omega);have bqn:(c==80)=false:=beq_eq_false_iff_ne.2 j0;have HB:Hid (Fl.decode s=(([],[]),false,((1:Nat):Int))):=zx5 n0.out (by omega) (J0.out.trans bqn);clear j0 bqn
     go_wp2_with fail
     refine Xs [0,1,3,4,6] [2,5,7] (by kernel_rfl) (by kernel_rfl) rfl [_,_,_,_,_] [_,_,_] rfl rfl (λc a d v w h=>by cases d<;>exact h) ?_;refine Xw (λL HL=>?_)
     repeat refine Xx rfl (kE (by intro w' _;go_simp<;>rfl) (by go_simp<;>rfl) ?_)
     refine HL.out _ ?_;clear HL
     go_wp2_with (first|(go_at_call 81;refine(HN.out).mono ?_;rintro e w1 ⟨rfl,h0,l0⟩)|(go_at_call 80;refine(Xz _ _ _).mono ?_;rintro e w2 ⟨rfl,N0⟩;exact⟨rfl,Yb HB.out (((F0.out.trans HM.out).drew.trans h0).andBelow N0 hlb).g⟩))
    have c1:wr.cell? ⟨b,1,none⟩=some (.int .i64 2):=o1.out
    by_cases j0:c=49
    ·have bq:((c:Int)==(((⟨#[70,80,49]⟩:ByteArray)[2]'(by decide)).toNat:Int))=true:=beq_iff_eq.2 (by rw[j0];rfl)
     have bqn:(c==49)=true:=beq_iff_eq.2 j0;have HG:Hid (Fl.headOk s 2=true):=J0.out.trans bqn;clear j0 bqn
     go_wp2_with fail
     refine Xs [0,1,3,4,6] [2,5,7] (by kernel_rfl) (by kernel_rfl) rfl [_,_,_,_,_] [_,_,_] rfl rfl (λc a d v w h=>by cases d<;>exact h) ?_;refine Xw (λL HL=>?_)
     repeat refine Xx rfl (kE (by intro w' _;go_simp<;>rfl) (by go_simp<;>rfl) ?_)
     refine HL.out _ ?_;clear HL
     go_wp2_with (first|(go_at_call 81;refine(HN.out).mono ?_;rintro e w1 ⟨rfl,h0,l0⟩)|(go_at_call 80;refine(Ux _ _ _).mono ?_;rintro e w2 ⟨rfl,rfl⟩))
     all_goals
      try go_wp2
      go_roundw
      case rel=>exact⟨2+1,by omega,by go_num,λt ht=>by
       by_cases h:t<2
       ·exact n0.out t h
       have:t=2:=by omega
       subst this;exact HG.out,(HM.out.drew).trans h0,l0,by omega⟩
      case measure=>simp[intOf]
    have bq:((c:Int)==(((⟨#[70,80,49]⟩:ByteArray)[2]'(by decide)).toNat:Int))=false:=beq_eq_false_iff_ne.2 (show (c:Int)≠49 by omega);have bqn:(c==49)=false:=beq_eq_false_iff_ne.2 j0;have HB:Hid (Fl.decode s=(([],[]),false,((2:Nat):Int))):=zx5 n0.out (by omega) (J0.out.trans bqn);clear j0 bqn
    go_wp2_with fail
    refine Xs [0,1,3,4,6] [2,5,7] (by kernel_rfl) (by kernel_rfl) rfl [_,_,_,_,_] [_,_,_] rfl rfl (λc a d v w h=>by cases d<;>exact h) ?_;refine Xw (λL HL=>?_)
    repeat refine Xx rfl (kE (by intro w' _;go_simp<;>rfl) (by go_simp<;>rfl) ?_)
    refine HL.out _ ?_;clear HL
    go_wp2_with (first|(go_at_call 81;refine(HN.out).mono ?_;rintro e w1 ⟨rfl,h0,l0⟩)|(go_at_call 80;refine(Xz _ _ _).mono ?_;rintro e w2 ⟨rfl,N0⟩;exact⟨rfl,Yb HB.out (((F0.out.trans HM.out).drew.trans h0).andBelow N0 hlb).g⟩))
   have HB:Hid (Fl.decode s=(([],[]),false,(i:Int))):=zx5 n0.out hi (yyv x0);have O0:i=s.length:=(by omega);have HE:Hid (Calls prog 81 #[.pointer (some ⟨b,0,none⟩)] wr.drew λe w'=>e=.panicked (Zq 8 (i:Int))/\Mv wr.drew w' b):=by
    have:=zoz I1.out x0;rw[<-O0]at this;exact this
   clear O0;have V2:(i:Int)<3:=(by omega)
   go_wp2_with fail
   refine Xs [0,1,3,4,6] [2,5,7] (by kernel_rfl) (by kernel_rfl) rfl [_,_,_,_,_] [_,_,_] rfl rfl (λc a d v w h=>by cases d<;>exact h) ?_;refine Xw (λL HL=>?_)
   repeat refine Xx rfl (kE (by intro w' _;go_simp<;>rfl) (by go_simp<;>rfl) ?_)
   refine HL.out _ ?_;clear HL
   go_wp2_with (go_at_call 81;refine(HE.out).mono ?_;rintro e w1 ⟨rfl,h0⟩;exact⟨rfl,Yb HB.out ((F0.out.trans HM.out).drew.trans h0).g⟩)
  have hi3':i=3:=(by omega);subst hi3';have Q0:Hid (Fl.headAt s=3):=by
   show Fl.headAt s=3;unfold Fl.headAt;rw[if_neg (by rw[n0.out 0 (by omega)];decide),if_neg (by rw[n0.out 1 (by omega)];decide),if_neg (by rw[n0.out 2 (by omega)];decide)]
  clear L0 I1 hi M2
  go_wp2_with fail
  obtain⟨WP,D0⟩:=nmE (wr.alloc (.cells #[.slice none 0 0,.slice none 0 0] 26));rw[<-D0];obtain⟨P0,K0⟩:=nmE (wr.heap.size);rw[<-K0];have J1:Hid (PB w WP b P0 (.slice none 0 0)):=by
   have p1:Mv w wr b:=F0.out.trans HM.out;have X2:=HM.out.g.size;have n2:some w.heap.size≠some b:=(by simp;omega);obtain⟨r0,r1,r2⟩:=i2.out;have e0:wr.cell? ⟨w.heap.size,0,none⟩=some (.slice none 0 0):=HM.out.g.cell r0 n2;have e1:wr.cell? ⟨w.heap.size,1,none⟩=some (.slice none 0 0):=HM.out.g.cell r1 n2;have e2:∀j,wr.frozen? ⟨w.heap.size,j,none⟩=false:=λj=>(Qd (w:=W0) (a:=⟨w.heap.size,j,none⟩) (HM.out.g.block w.heap.size (by omega) n2)).trans (r2 j);have g:wr.grownBy WP none:=(by rw[D0];exact World.grownBy_alloc _ _ _);have fz:∀(N j:Nat),N<wr.heap.size->WP.frozen? ⟨N,j,none⟩=wr.frozen? ⟨N,j,none⟩:=λN j hN=>Qd (w:=wr) (a:=⟨N,j,none⟩) (g.block N hN (by simp));refine⟨by rw[D0,K0];simp,by rw[D0,K0];simp,g.cell e0 (by simp),g.cell e1 (by simp),λj=>(fz _ j (by omega)).trans (e2 j),λj=>by rw[D0,K0];simp,λj=>(fz b j (p1.lt hlb)).trans ((p1.f j).trans (L2.out j)),p1.andGrown g hlb (λk e=>by cases e),g.cell ((p1.o 34 (by decide)).trans K2.out) (by simp),by omega,by rw[D0,K0];simp,hlb⟩
  have K1:Hid (Dr WP b ao cap s 3):=(by rw[D0];exact I0.out.move ((Mv.refl wr b).alloc I0.out.lt _) (by rw[World.cell?_alloc_past _ _ _ I0.out.lt];exact I0.out.c1) M0);clear D0 K0 HM I0 o1 n0 i2 h2 F0 H1;have k2:Hid (Calls prog 83 #[.pointer (some ⟨b,0,none⟩),.int .i64 0,.int .i64 4] WP λe w'=>zz9 (Fl.numB s 3 0 4) b WP e w'):=zx3 K1.out 0 4 (by omega) (by omega);refine(k2.out).mono ?_;rintro e w1 ⟨h0,b0,hgood⟩
  by_cases R0:(Fl.numB s 3 0 4).2.1<0
  ·obtain rfl:=b0 R0
   exact⟨rfl,Yb (zd7 Q0.out M0 R0) (J1.out.m.trans h0).g⟩
  obtain⟨rfl,l0⟩:=hgood R0;obtain⟨n,q1,hnb,l2,Y2,S0,_,Z2⟩:=zs5 s 3 0 4 M0 R0;rw[hnb]at l0⊢;simp only at l0⊢;have t1:=Zz l2;have y0:Hid (PB w w1 b P0 (.slice none 0 0)):=J1.out.move h0;have L1:Hid (Dr w1 b ao cap s q1):=K1.out.move h0 l0 S0;have hn4':n<=4:=(by omega);clear b0 hgood R0 hnb l2 l0 h0 J1 K1 k2
  go_wp2_with fail
  refine(zq7 L1.out n (by omega)).mono ?_;rintro e w2 ⟨u1,b0,hgood⟩
  by_cases v1:(Fl.nums s q1 n).2.1<0
  ·obtain rfl:=b0 v1
   exact⟨rfl,Yb (zd8 Q0.out t1.out hn4' v1) (y0.out.m.trans u1).g⟩
  obtain⟨lv,rfl,m0,T0⟩:=hgood v1;have M1:=Fl.nums_ok s q1 n S0;obtain⟨ls,q2,N1,z0⟩:∃(ls:List Int) (q2:Nat),Fl.nums s q1 n=(ls,(q2:Int),(Fl.nums s q1 n).2.2)/\q2<=s.length:=⟨(Fl.nums s q1 n).1,(Fl.nums s q1 n).2.1.toNat,by rw[Int.toNat_of_nonneg (by omega)],by omega⟩;rw[N1]at m0 T0;simp only at m0 T0;obtain⟨lao,lcap,rfl⟩:=Xq m0;have O1:=Zz N1;have o0:Hid (PB w w2 b P0 (.slice none 0 0)):=y0.out.move u1;have m2:Hid (Zy w2.heap.size w2 (.slice lao ls.length lcap) ls):=Zy.of_own m0
  have y1:Hid (∀bb,(Value.slice lao ls.length lcap).ownBlock=some bb->P0+1<=bb):=λbb h=>by have:=(m0.lt bb h).1;have:=y0.out.hP;omega
  have o2:=Zz T0;have k0:=o0.out.c0;have kf:=o0.out.f1;have HD2':Hid (Dr w2 b ao cap s q2):=L1.out.move u1 T0 z0;clear b0 hgood v1 M1 N1 m0 T0 u1 y0 L1
  go_wp2_with fail
  obtain⟨W3,U0⟩:=nmE (w2.setCell ⟨P0,0,none⟩ (.slice lao ls.length lcap));rw[<-U0];have g3:w2.grownBy W3 (some P0):=(by rw[U0];exact Yl _ _ _ _);have N2:b≠P0:=(by have:=o0.out.hR;omega);have p0:Hid (PB w W3 b P0 (.slice lao ls.length lcap)):=(by rw[U0];exact o0.out.set0 _);have p2:Hid (Zy W3.heap.size W3 (.slice lao ls.length lcap) ls):=(by rw[U0];exact Xe m2.out (λ_ h=>by have h9:P0+1<=P0:=y1.out P0 h;omega));have s2:Hid (W3.cell? ⟨b,1,none⟩=some (.int .i64 (q2:Int))):=g3.cell o2.out (by simpa using N2);have t2:Hid (Dr W3 b ao cap s q2):=HD.out.move p0.out.m s2.out z0;clear U0 g3 k0 kf o0 m2 o2 HD2';have u2:Hid (Calls prog 83 #[.pointer (some ⟨b,0,none⟩),.int .i64 1,.int .i64 200] W3 λe w'=>zz9 (Fl.numB s q2 1 200) b W3 e w'):=zx3 t2.out 1 200 (by omega) (by omega);refine(u2.out).mono ?_;rintro e w4 ⟨z1,b0,hgood⟩
  by_cases V0:(Fl.numB s q2 1 200).2.1<0
  ·obtain rfl:=b0 V0
   exact⟨rfl,Yb (zd9 Q0.out t1.out hn4' O1.out z0 V0) (p0.out.m.trans z1).g⟩
  obtain⟨rfl,A1⟩:=hgood V0;obtain⟨M,q0,v2,x2,a3,P1,O2,X0⟩:=zs5 s q2 1 200 z0 V0;rw[v2]at A1⊢;simp only at A1⊢;have Y0:Hid (Fl.decode s=zww s ls M q0):=zb9 Q0.out t1.out hn4' O1.out x2 (by omega) (by omega);have hM:M<=200:=(by omega)
  have a0:Hid (PL s M q0 w b P0 (.slice lao ls.length lcap) ls w4 0 q0 (.slice none 0 0) (.slice none 0 0) [] [] []):=
   (p0.out.move z1).pl P1 A1 (zvv (base:=P0+1) p2.out (λ_=>y1.out) (Yi.grown z1.g (λk e=>by injection e with e;have:=p0.out.hR;omega))) y1.out
  clear b0 hgood V0 v2 x2 A1 z1 p0 p2 s2 t2 u2 t1 O1 Q0 O2 X0 y1
  go_wp2_with fail
  go_loopw [30] (λi wz=>∃(k q:Nat) (sv nv:Value) (st:List Int) (acc:List Fl.Node) (lvs:List Value),i=.int .i64 k/\PL s M q0 w b P0 (.slice lao ls.length lcap) ls wz k q sv nv st acc lvs) (λi _=>M - (intOf i).toNat)
  case atStart=>exact⟨0,q0,_,_,[],[],[],rfl,a0.out⟩
  case round=>
   clear a0;obtain⟨k,q,sv,nv,st,acc,lvs,rfl,B1⟩:=hrel;have a0:=Zz B1;have b3:=B1.hk;have y2:=B1.hq;clear B1
   by_cases x0:k<M
   ·obtain⟨sao,scap,rfl⟩:=Xq a0.out.hl.hs
    obtain⟨nao,ncap,rfl⟩:=Xq a0.out.hl.hn;have HP0':Hid _:=a0.out.pc;have e34:=a0.out.a34;have e1:=a0.out.a1;have d3:(k:Int)<(M:Int):=(by omega);have hst:=a0.out.hst
    go_wp2_with fail
    go_cut [] (λwc=>∃(sao':Option Addr) (scap':Nat),PC w b P0 (.slice lao ls.length lcap) wc q (.slice sao' (k+1) scap') (.slice nao k ncap) (((.slice lao ls.length lcap),ls)::Ym acc lvs) (.slice sao' (k+1) scap') (.slice nao k ncap) (k+1) k (st.map (Value.int .i64)++[.int .i64 (q:Int)]) (Xr acc lvs))
    case first=>
     have C1:Hid (PC w b P0 (.slice lao ls.length lcap) wr.drew q (.slice sao k scap) (.slice nao k ncap) (((.slice lao ls.length lcap),ls)::Ym acc lvs) (.slice sao k scap) (.slice nao k ncap) k k (st.map (Value.int .i64)) (Xr acc lvs)):=a0.out.pc.drew;have d34:wr.drew.cell? ⟨b,34,none⟩=some (.slice sao k scap):=e34;have d1:wr.drew.cell? ⟨b,1,none⟩=some (.int .i64 (q:Int)):=e1;have d34a:∀o,(wr.drew.alloc o).cell? ⟨b,34,none⟩=some (.slice sao k scap):=λo=>(C1.out.alloc o).a34;have P2:k<=200:=(by omega);refine zzx [0,1,2,3,5,6,7] 4 8 4 9 [8,9,10,11,12,13] [9,10,11,12,13] [4,10,11,12,13] (by kernel_rfl) (by kernel_rfl) rfl rfl rfl [_,_,_,_,_,_,_] _ _ _ _ [_,_,_,_,_,_] [_,_,_,_,_] [_,_,_,_,_] rfl rfl rfl rfl rfl rfl rfl rfl (λc a d v w h=>by cases d<;>exact h) ?_;refine Xw (λL HL=>?_)
     repeat refine Xx rfl (kE (by intro w' _;go_simp<;>rfl) (by go_simp<;>rfl) ?_)
     refine HL.out _ ⟨?ga,?gb⟩
     all_goals
      clear HL;generalize wr.drew=W1 at*;simp only[List.getElem_toArray,List.getElem_cons_succ,List.getElem_cons_zero]
     case' gb=>
      go_wp2_with fail
      refine⟨?_,?_⟩
     all_goals
      go_wp2_with (at_builtin;refine Zk _ rfl (.tmp 37) (.tmp 42) 23 rfl (P0+1) 3 i0 (.int .i64 0) 1 8 underlying23 H2 H1 I2 J2 rfl (by decide) _ _ _ rfl (C1.out.alloc _).hl.hs ⟨_,0,none⟩ 1 1 [.int .i64 q] rfl rfl (by decide) Uw ?c2 ?c3 ?c4 ?c5 ?_)
      case c2=>intro u hu;simp at hu;subst hu;rfl
      case c3=>unfold maxLen;omega
      case c4=>omega
      case c5=>have:=C1.out.hP;first|omega|(simp;omega)
      intro sv' w3 t0 z2 A2;have D1:=(C1.out.alloc _).first t0 z2 (by simp only[World.size_alloc];exact A2);obtain⟨sao',scap',rfl⟩:=Xq t0;have c34:=D1.a34;have fb:=D1.fb;have Q2:=Zz D1;clear D1 t0 z2 A2 d34 d1 d34a
      go_wp2_with fail
      go_meet
      case rel=>exact⟨sao',scap',Q2.out.set34 _⟩
    case rest=>
    obtain⟨sao',scap',B2⟩:=hcut;have v0:=Zz B2;obtain⟨W2,C2⟩:=nmE (wc);rw[<-C2]at v0⊢;clear B2 C2 e34 e1 HP0'
    go_wp2_with fail
    have D2:Hid (Dr W2.drew b ao cap s q):=HD.out.moveF v0.out.drew.fr v0.out.a1 y2;have E2:Hid (Yq W2.drew b 2):=HR.out.moveF v0.out.drew.fr;have Q1:Hid (Calls prog 84 #[.pointer (some ⟨b,0,none⟩),.int .i64 k] W2.drew λe w'=>zs7 (Fl.one s q k) b W2.drew e w'):=yv8 D2.out E2.out k (by omega);have ec1:=v0.out.c1
    by_cases E1:(Fl.one s q k).2.1<0
    ·have E0:Hid (Fl.decode s=(([],[]),false,(Fl.one s q k).2.2)):=Y0.out.trans (a0.out.fails x0 E1)
     refine zzx [0,2,3] 1 4 1 5 [4,5,6,7,8] [5,6,7,8] [1,6,7,8] (by kernel_rfl) (by kernel_rfl) rfl rfl rfl [_,_,_] _ _ _ _ [_,_,_,_,_] [_,_,_,_] [_,_,_,_] rfl rfl rfl rfl rfl rfl rfl rfl (λc a d v w h=>by cases d<;>exact h) ?_;refine Xw (λL HL=>?_)
     repeat refine Xx rfl (kE (by intro w' _;go_simp<;>rfl) (by go_simp<;>rfl) ?_)
     refine HL.out _ ⟨?_,?_⟩
     all_goals
      clear HL
      go_wp2_with (go_at_call 84;refine(Q1.out).mono ?_;rintro e w5 ⟨R1,b0,_⟩;obtain rfl:=b0 E1;exact⟨rfl,Yb E0.out (v0.out.drew.fr.trans R1.fr).g⟩)
    have S1:=Fl.one_ok s q k y2;obtain⟨nd,af,z,ho,Z0⟩:∃(nd:Fl.Node) (af:Nat) (z:Int),Fl.one s q k=(nd,(af:Int),z)/\af<=s.length:=⟨(Fl.one s q k).1,(Fl.one s q k).2.1.toNat,(Fl.one s q k).2.2,by rw[Int.toNat_of_nonneg (by omega)],by omega⟩;have HO:=Zz ho
    have F2:Hid (Calls prog 84 #[.pointer (some ⟨b,0,none⟩),.int .i64 k] W2.drew λe w'=>∃(vao:Option Addr) (vcap:Nat),e=.returned (.agg #[.int .i64 nd.kind,.int .i64 nd.level,.int .i64 nd.a,.int .i64 nd.b,.int .i64 nd.c,.slice vao nd.list.length vcap])/\
      PC w b P0 (.slice lao ls.length lcap) w' af (.slice sao' (k+1) scap') (.slice nao k ncap) ((((.slice lao ls.length lcap),ls)::Ym acc lvs)++[(.slice vao nd.list.length vcap,nd.list)]) (.slice sao' (k+1) scap') (.slice nao k ncap) (k+1) k (st.map (Value.int .i64)++[.int .i64 (q:Int)]) (Xr acc lvs)):=by
     refine(Q1.out).mono ?_;rintro e w5 ⟨R1,_,hgood⟩;obtain⟨lvn,rfl,F1,hlo,T1⟩:=hgood E1;rw[ho]at F1 T1⊢;simp only at F1 T1⊢;obtain⟨vao,vcap,rfl,_⟩:=id F1;refine⟨vao,vcap,rfl,(v0.out.drew.move R1 T1).add F1 hlo (λbb h=>(v0.out.drew.hl.hs.lt bb h).2) (λbb h=>(v0.out.drew.hl.hn.lt bb h).2) v0.out.drew.hP⟩
    have dc1:W2.drew.cell? ⟨P0,1,none⟩=some (.slice nao k ncap):=ec1;have P2:k<=200:=(by omega);clear E1 ho Q1 D2 E2 S1 ec1;refine zzx [0,2,3] 1 4 1 5 [4,5,6,7,8] [5,6,7,8] [1,6,7,8] (by kernel_rfl) (by kernel_rfl) rfl rfl rfl [_,_,_] _ _ _ _ [_,_,_,_,_] [_,_,_,_] [_,_,_,_] rfl rfl rfl rfl rfl rfl rfl rfl (λc a d v w h=>by cases d<;>exact h) ?_;refine Xw (λL HL=>?_)
    repeat refine Xx rfl (kE (by intro w' _;go_simp<;>rfl) (by go_simp<;>rfl) ?_)
    refine HL.out _ ⟨?gc,?gd⟩
    all_goals
     clear HL;generalize W2.drew=W5 at*;simp only[List.getElem_toArray,List.getElem_cons_succ,List.getElem_cons_zero]
    case gc=>
     go_wp2_with (first|(go_at_call 84;refine(F2.out).mono ?_;rintro e w5 ⟨vao,vcap,rfl,A0⟩;have q1:=A0.c1;have q1a:∀o,(w5.alloc o).cell? ⟨P0,1,none⟩=some (.slice nao k ncap):=λo=>(A0.alloc o).c1;have B0:Hid _:=A0;clear A0)|(at_builtin;refine Zk _ rfl (.tmp 47) (.tmp 51) 24 rfl (P0+1) 121 i1 (.agg #[.int .i64 0,.int .i64 0,.int .i64 0,.int .i64 0,.int .i64 0,.slice none 0 0]) 6 64 underlying24 b2 d2 f2 g2 rfl (by decide) _ _ _ rfl (B0.out.alloc _).hl.hn ⟨_,0,none⟩ 1 1 (Zi nd (.slice vao nd.list.length vcap)) rfl rfl (by decide) (za4 (Zi nd (.slice vao nd.list.length vcap))) ?n2 ?n3 ?n4 ?n5 ?_))
     case n2=>intro u hu;simp[Zi]at hu;rcases hu with rfl|rfl|rfl|rfl|rfl|rfl<;>rfl
     case n3=>unfold maxLen;omega
     case n4=>omega
     case n5=>have:=B0.out.hP;first|omega|(simp;omega)
     intro nv' w6 g0 b1 u0;have C0:=(B0.out.alloc _).second g0 b1 (by simp only[World.size_alloc];exact u0);obtain⟨nao',ncap',rfl⟩:=Xq g0;have x1:=C0.c1;have xf:=C0.f1;have U1:=Zz C0;clear C0 g0 b1 u0 q1 q1a B0;go_wp2
     go_roundw
     case rel=>exact⟨k+1,af,_,_,_,_,_,by go_num,a0.out.step x0 HO.out Z0 (U1.out.setc1 _)⟩
     case measure=>simp[intOf];omega
    case gd=>
     go_wp2_with (go_at_call 84;refine(F2.out).mono ?_;rintro e w5 ⟨vao,vcap,rfl,A0⟩;have q1:=A0.c1;have q1a:∀o,(w5.alloc o).cell? ⟨P0,1,none⟩=some (.slice nao k ncap):=λo=>(A0.alloc o).c1;have B0:Hid _:=A0;clear A0)
     refine⟨?_,?_⟩
     all_goals
      go_wp2_with (at_builtin;refine Zk _ rfl (.tmp 47) (.tmp 51) 24 rfl (P0+1) 121 i1 (.agg #[.int .i64 0,.int .i64 0,.int .i64 0,.int .i64 0,.int .i64 0,.slice none 0 0]) 6 64 underlying24 b2 d2 f2 g2 rfl (by decide) _ _ _ rfl (B0.out.alloc _).hl.hn ⟨_,0,none⟩ 1 1 (Zi nd (.slice vao nd.list.length vcap)) rfl rfl (by decide) (za4 (Zi nd (.slice vao nd.list.length vcap))) ?n2 ?n3 ?n4 ?n5 ?_)
      case n2=>intro u hu;simp[Zi]at hu;rcases hu with rfl|rfl|rfl|rfl|rfl|rfl<;>rfl
      case n3=>unfold maxLen;omega
      case n4=>omega
      case n5=>have:=B0.out.hP;first|omega|(simp;omega)
      intro nv' w6 g0 b1 u0;have C0:=(B0.out.alloc _).second g0 b1 (by simp only[World.size_alloc];exact u0);obtain⟨nao',ncap',rfl⟩:=Xq g0;have x1:=C0.c1;have xf:=C0.f1;have U1:=Zz C0;clear C0 g0 b1 u0 q1 q1a B0;go_wp2
      go_roundw
      case rel=>exact⟨k+1,af,_,_,_,_,_,by go_num,a0.out.step x0 HO.out Z0 (U1.out.setc1 _)⟩
      case measure=>simp[intOf];omega
   have h1:=Y0.out.trans (a0.out.ends x0);have j1:=Zz h1;have e0:wr.cell? ⟨b,0,none⟩=some (.slice ao s.length cap):=(a0.out.fr.o 0 (by decide) (by decide)).trans HD.out.c0;have e1:=a0.out.a1;clear h1
   by_cases G2:q<s.length
   ·have bq:((q:Int)==(s.length:Int))=false:=beq_eq_false_iff_ne.2 (by omega)
    have E0:Hid (Fl.decode s=(([],[]),false,(q:Int))):=j1.out.trans (if_pos G2)
    go_wp2_with fail
    go_still_tail 15,(by kernel_rfl)
    go_wp2_with (go_at_call 80;refine(Xz _ _ _).mono ?_;rintro e w6 ⟨rfl,R2⟩;exact⟨rfl,Yb E0.out (a0.out.pc.drew.below R2).fr.g⟩)
   have S2:q=s.length:=(by omega);have bq:((q:Int)==(s.length:Int))=true:=beq_iff_eq.2 (by omega);have k1:Hid (Fl.decode s=if 0<=Fl.shaped acc then(([],[]),false,st.getD (Fl.shaped acc).toNat 0) else((ls,acc),true,0)):=j1.out.trans (if_neg G2);clear S2
   go_wp2_with fail
   go_still_tail 15,(by kernel_rfl)
   change wpList _ _ _ _ _ wr.drew
   have G1:Hid (PC w b P0 (.slice lao ls.length lcap) wr.drew q sv nv (((.slice lao ls.length lcap),ls)::Ym acc lvs) sv nv k k (st.map (Value.int .i64)) (Xr acc lvs)):=a0.out.pc.drew
   have l1:Hid (Calls prog 85 #[.pointer (some ⟨b,0,none⟩),nv] wr.drew (za8 acc st wr.drew)):=
    zb4 acc st nv sv b wr.drew a0.out.nodes a0.out.starts (by rw[a0.out.hst,a0.out.hacc]) (by rw[a0.out.hacc];omega) a0.out.hgood G1.out.a34
   have g1:wr.drew.cell? ⟨P0,1,none⟩=some nv:=G1.out.c1;obtain⟨nao,ncap,rfl⟩:=Xq a0.out.hl.hn
   have V1:Hid (∀w7,Below wr.drew.heap.size wr.drew w7->Zy w7.heap.size w7 (.slice lao ls.length lcap) ls/\Zo w7.heap.size w7 (.slice nao k ncap) acc):=λw7 h7=>
    ⟨(a0.out.locals.below (w':=w7) ⟨h7.os,h7.tape,h7.output,h7.size,h7.block⟩).mono h7.size,(a0.out.nodes.below (w':=w7) ⟨h7.os,h7.tape,h7.output,h7.size,h7.block⟩).mono h7.size⟩
   generalize wr.drew=W1 at*
   by_cases m1:0<=Fl.shaped acc
   ·have E0:Hid (Fl.decode s=(([],[]),false,st.getD (Fl.shaped acc).toNat 0)):=k1.out.trans (if_pos m1)
    go_wp2_with (first|(go_at_call 80;refine(Ux _ _ _).mono ?_;rintro e w6 ⟨rfl,u0⟩;rw[u0];clear u0)|(go_at_call 85;refine(l1.out).mono ?_;rintro e w7 ⟨n1,b0,_⟩;obtain rfl:=b0 m1;exact⟨rfl,Yb E0.out (G1.out.below n1).fr.g⟩))
   have E0:Hid (Fl.decode s=((ls,acc),true,0)):=k1.out.trans (if_neg m1);have T2:=Zz m1;clear m1
   go_wp2_with (first|(go_at_call 80;refine(Ux _ _ _).mono ?_;rintro e w6 ⟨rfl,u0⟩;rw[u0];clear u0)|(go_at_call 85;refine(l1.out).mono ?_;rintro e w7 ⟨n1,_,hgood⟩;obtain rfl:=hgood (by have:=T2.out;omega);have G0:=G1.out.below n1;obtain⟨hl7,hn7⟩:=V1.out w7 n1;have r0:=G0.d0;have r1:=G0.d1;have rf:=G0.f0;have s0:=G0.c0;have s1:=G0.c1;have X1:Hid _:=G0;have e3:Hid _:=hl7;have f3:Hid _:=hn7;clear G0 hl7 hn7 n1 hgood))
   have i3:=X1.out.hR;have q0:((w7.setCell ⟨w.heap.size,0,none⟩ (.slice lao ls.length lcap)).setCell ⟨w.heap.size,1,none⟩ (.slice nao k ncap)).cell? ⟨w.heap.size,0,none⟩=some (.slice lao ls.length lcap):=(Yw (by decide)).trans (Vn r0);have q1:((w7.setCell ⟨w.heap.size,0,none⟩ (.slice lao ls.length lcap)).setCell ⟨w.heap.size,1,none⟩ (.slice nao k ncap)).cell? ⟨w.heap.size,1,none⟩=some (.slice nao k ncap):=Vn ((Yw (by decide)).trans r1);have q0':(w7.setCell ⟨w.heap.size,0,none⟩ (.slice lao ls.length lcap)).cell? ⟨w.heap.size,0,none⟩=some (.slice lao ls.length lcap):=Vn r0;have U2:=(X1.out.hl.stay (Yi.grown (Yl w7 w.heap.size 0 (.slice lao ls.length lcap)) (λk e=>by injection e with e;omega))).stay (Yi.grown (Yl _ w.heap.size 1 (.slice nao k ncap)) (λk e=>by injection e with e;omega));have hacc:=a0.out.hacc;have hlvs:=a0.out.hlvs;refine bodyPost_ret (v:=.agg #[.slice lao ls.length lcap,.slice nao k ncap]) (by simp[results,results41,go_sem,q0,q1,q0']) rfl ⟨((X1.out.fr.andGrown (Yl w7 w.heap.size 0 (.slice lao ls.length lcap)) hlb (λk e=>by injection e with e;omega)).andGrown (Yl _ w.heap.size 1 (.slice nao k ncap)) hlb (λk e=>by injection e with e;omega)).g,λh=>(by rw[E0.out]at h;cases h),λ_=>?_⟩;rw[E0.out];refine⟨_,_,rfl,λw9 hst=>?_⟩;have Y1:=U2.stay (hst.mono (by omega));exact⟨(Y1.hall (.slice lao ls.length lcap,ls) (by simp)).1.1,Vr (by rw[hacc];exact Y1.hn) (by rw[hacc,hlvs]) (λi hi=>(Y1.hall _ (by simp only[List.mem_cons];right;exact Vk acc lvs i (by rw[hacc,hlvs]) hi)).1.1)⟩
def Yi.setCell(base:Nat)(w:World)(b i:Nat)(v:Value)(hb:b<base):Yi base w (w.setCell ⟨b,i,none⟩ v):=Yi.grown (Yl w b i v) (λk e=>by injection e with e;omega)
def yuv(r:(List Int×List Fl.Node)×Bool×Int)(b D P:Nat)(w:World)(e:Ending)(w':World):Prop:=
 (r.2.1=false->e=.panicked (Zq 8 r.2.2)/\w.grownBy w' (some b))/\
 (r.2.1=true->∃lv nv w1,e=.returned (.tuple #[])/\w.grownBy w1 (some b)/\w'=(w1.setCell ⟨P,0,none⟩ lv).setCell ⟨P,1,none⟩ nv/\(∃a n c a' n' c',lv=.slice a n c/\nv=.slice a' n' c')/\∀w'',Yi w.heap.size w1 w''->Zy w''.heap.size w'' lv r.1.1/\Zo w''.heap.size w'' nv r.1.2)
def yt0{b D P:Nat}{ao:Option Addr}{cap:Nat}{s:List UInt8}{w:World}(h:Dr w b ao cap s 0)(hr:Yq w b 2)(d0:w.cell? ⟨b,34,none⟩=some (.slice none 0 0))(e0:∀j,w.frozen? ⟨b,j,none⟩=false)
  (hd:w.cell? ⟨D,0,none⟩=some (.pointer (some ⟨b,0,none⟩))) (f0:w.cell? ⟨P,0,none⟩=some (.slice none 0 0)) (g0:w.cell? ⟨P,1,none⟩=some (.slice none 0 0)) (h0:∀j,w.frozen? ⟨P,j,none⟩=false) (b0:P≠b):
  Calls prog 40 #[.pointer (some ⟨D,0,none⟩),.pointer (some ⟨P,0,none⟩)] w (yuv (Fl.decode s) b D P w):=by
 have HW:Hid (Calls prog 41 #[.pointer (some ⟨b,0,none⟩)] w λe w'=>zqv (Fl.decode s) b w e w'):=yx1 h hr d0 e0;clear h hr d0 e0;have c0:P<w.heap.size:=Qe w _ f0
 go_enter func40,ntmps40
 go_wp2_with fail
 refine(HW.out).mono ?_;rintro e w1 ⟨hg,a0,hgood⟩
 cases hr:(Fl.decode s).2.1 with
 |false=>
  obtain rfl:=a0 hr;exact⟨rfl,λ_=>⟨rfl,hg⟩,λh=>by rw[hr]at h;cases h⟩
 |true=>
  obtain⟨lv,nv,rfl,hst⟩:=hgood hr;obtain⟨hl,hn⟩:=hst w1 ⟨Nat.le_refl _,λ_ _ _=>rfl⟩;obtain⟨la,lc,rfl,_⟩:=id hl;obtain⟨na,nc,rfl,_⟩:=id hn;have q0:w1.cell? ⟨P,0,none⟩=some (.slice none 0 0):=hg.cell f0 (by simpa using b0);have q1:w1.cell? ⟨P,1,none⟩=some (.slice none 0 0):=hg.cell g0 (by simpa using b0);have qf:∀j,w1.frozen? ⟨P,j,none⟩=false:=λj=>(Qd (w:=w) (a:=⟨P,j,none⟩) (hg.block P c0 (by simpa using b0))).trans (h0 j);have HG:=Zz hg;have i0:=Zz hst;have j0:=Zz hr;clear a0 hgood hl hn hst hg hr;go_wp2
  go_end0
  exact⟨λh=>(by rw[j0.out]at h;cases h),λ_=>⟨_,_,w1,rfl,HG.out,rfl,⟨_,_,_,_,_,_,rfl,rfl⟩,i0.out⟩⟩
def zv7(bs:Value):Array Value:=#[bs,.int .i64 0]++Zv++ #[.slice none 0 0]
def yx2(w:World)(o0 o1 o2 o3 o4 o5:Obj):((((((w.alloc o0).alloc o1).alloc o2).alloc o3).alloc o4).alloc o5).heap[w.heap.size]?=some o0/\
  ((((((w.alloc o0).alloc o1).alloc o2).alloc o3).alloc o4).alloc o5).heap[w.heap.size+2]?=some o2/\
  ((((((w.alloc o0).alloc o1).alloc o2).alloc o3).alloc o4).alloc o5).heap[w.heap.size+3]?=some o3/\
  ((((((w.alloc o0).alloc o1).alloc o2).alloc o3).alloc o4).alloc o5).heap[w.heap.size+4]?=some o4/\
  ((((((w.alloc o0).alloc o1).alloc o2).alloc o3).alloc o4).alloc o5).heap[w.heap.size+5]?=some o5/\
  ((((((w.alloc o0).alloc o1).alloc o2).alloc o3).alloc o4).alloc o5).heap.size=w.heap.size+6/\
  Below w.heap.size w ((((((w.alloc o0).alloc o1).alloc o2).alloc o3).alloc o4).alloc o5):=by
 have a:∀(u:World) (o:Obj) (k:Nat),k<u.heap.size->(u.alloc o).heap[k]?=u.heap[k]?:=λu o k hk=>Below.heap_alloc _ _ _ hk
 have l:∀(u:World) (o:Obj) (k:Nat),u.heap.size=k->(u.alloc o).heap[k]?=some o:=λu o k hk=>by subst hk;exact heap_alloc_last u o
 refine⟨?_,?_,?_,?_,?_,by simp,((((((Below.refl _ w).alloc (Nat.le_refl _) _).alloc (by simp<;>omega) _).alloc (by simp<;>omega) _).alloc (by simp<;>omega) _).alloc (by simp<;>omega) _).alloc (by simp<;>omega) _⟩
 ·rw[a _ _ _ (by simp<;>omega),a _ _ _ (by simp<;>omega),a _ _ _ (by simp<;>omega),a _ _ _ (by simp<;>omega),a _ _ _ (by simp<;>omega),l _ _ _ rfl]
 ·rw[a _ _ _ (by simp<;>omega),a _ _ _ (by simp<;>omega),a _ _ _ (by simp<;>omega),l _ _ _ (by simp<;>omega)]
 ·rw[a _ _ _ (by simp<;>omega),a _ _ _ (by simp<;>omega),l _ _ _ (by simp<;>omega)]
 ·rw[a _ _ _ (by simp<;>omega),l _ _ _ (by simp<;>omega)]
 rw[l _ _ _ (by simp<;>omega)]
def Uj(w:World)(b j:Nat)(c:Array Value)(te:TypeId)(h:w.heap[b]?=some (.cells c te)):w.frozen? ⟨b,j,none⟩=false:=by simp[World.frozen?,h]
def dec_at0(bs:Value):(zv7 bs)[0]?=some bs:=by kernel_rfl
def dec_at1(bs:Value):(zv7 bs)[1]?=some (.int .i64 0):=by kernel_rfl
def yrw(bs:Value):(zv7 bs)[34]?=some (.slice none 0 0):=by kernel_rfl
def yt1{w:World}{b:Nat}{bs:Value}(q:∀i,w.cell? ⟨b,i,none⟩=(zv7 bs)[i]?):Yq w b 2:=by
 intro k hk
 have:k=0\/k=1\/k=2\/k=3\/k=4\/k=5\/k=6\/k=7:=by omega
 rcases this with rfl|rfl|rfl|rfl|rfl|rfl|rfl|rfl<;>exact⟨(q _).trans (by kernel_rfl),(q _).trans (by kernel_rfl),(q _).trans (by kernel_rfl)⟩
def W5(w:World)(bs:Value):World:=((((w.alloc (.cells #[.slice none 0 0,.slice none 0 0] 26)).alloc (.cells Zv 98)).alloc (.cells (zv7 bs) 101)).alloc (.cells #[.pointer (some ⟨w.heap.size+2,0,none⟩)] 94)).alloc (.cells #[.slice none 0 0,.slice none 0 0] 26)
structure zh2(r:(List Int×List Fl.Node)×Bool×Int)(w:World)(e:Ending)(w':World):Prop where
 hB:Below w.heap.size w w'
 hsz:w.heap.size+6<=w'.heap.size
 c0:w'.cell? ⟨w.heap.size,0,none⟩=some (.slice none 0 0)
 c1:w'.cell? ⟨w.heap.size,1,none⟩=some (.slice none 0 0)
 fz:∀j,w'.frozen? ⟨w.heap.size,j,none⟩=false
 bad:r.2.1=false->∃q,e=.returned (.iface 76 (.pointer (some ⟨q,0,none⟩)))/\w.heap.size+6<=q/\w'.cell? ⟨q,0,none⟩=some (.int .i64 8)/\w'.cell? ⟨q,1,none⟩=some (.int .i64 r.2.2)
 good:r.2.1=true->∃la n lc na n' nc,e=.returned .nilIface/\w'.cell? ⟨w.heap.size+4,0,none⟩=some (.slice la n lc)/\w'.cell? ⟨w.heap.size+4,1,none⟩=some (.slice na n' nc)/\∀w'',Yi (w.heap.size+6) w' w''->Zy w''.heap.size w'' (.slice la n lc) r.1.1/\Zo w''.heap.size w'' (.slice na n' nc) r.1.2
def zdz{ao:Option Addr}{cap:Nat}{s:List UInt8}{w:World}(hs:s.length<=1099511627776)(hb:s≠[]->∃bb bo,ao=some ⟨bb,bo,none⟩/\bb<w.heap.size/\∀i,i<s.length->w.cell? ⟨bb,bo+i,none⟩=some (.int .u8 (s.getD i 0).toNat)):
  Calls prog 39 #[.func (.func 40) #[] #[.pointer (some ⟨w.heap.size+3,0,none⟩),.pointer (some ⟨w.heap.size+4,0,none⟩)]] (W5 w (.slice ao s.length cap)) (zh2 (Fl.decode s) w):=by
 obtain⟨r0,r2,r3,r4,r5,hsz,hB⟩:let W:=(W5 w (.slice ao s.length cap)).alloc (.cells #[.nilIface] 64);_:=yx2 w (.cells #[.slice none 0 0,.slice none 0 0] 26) (.cells Zv 98) (.cells (zv7 (.slice ao s.length cap)) 101) (.cells #[.pointer (some ⟨w.heap.size+2,0,none⟩)] 94) (.cells #[.slice none 0 0,.slice none 0 0] 26) (.cells #[.nilIface] 64)
 have h5:(W5 w (.slice ao s.length cap)).heap.size=w.heap.size+5:=by simp[W5]
 change ((W5 w (.slice ao s.length cap)).alloc (.cells #[.nilIface] 64)).heap[w.heap.size]?=_ at r0
 change ((W5 w (.slice ao s.length cap)).alloc (.cells #[.nilIface] 64)).heap[w.heap.size+2]?=_ at r2
 change ((W5 w (.slice ao s.length cap)).alloc (.cells #[.nilIface] 64)).heap[w.heap.size+3]?=_ at r3
 change ((W5 w (.slice ao s.length cap)).alloc (.cells #[.nilIface] 64)).heap[w.heap.size+4]?=_ at r4
 change ((W5 w (.slice ao s.length cap)).alloc (.cells #[.nilIface] 64)).heap[w.heap.size+5]?=_ at r5
 change ((W5 w (.slice ao s.length cap)).alloc (.cells #[.nilIface] 64)).heap.size=_ at hsz
 change Below w.heap.size w ((W5 w (.slice ao s.length cap)).alloc (.cells #[.nilIface] 64)) at hB
 have c0:=ziv 40 #[.pointer (some ⟨w.heap.size+3,0,none⟩),.pointer (some ⟨w.heap.size+4,0,none⟩)] (W5 w (.slice ao s.length cap));generalize hW6:(W5 w (.slice ao s.length cap)).alloc (.cells #[.nilIface] 64)=W6 at*;rw[h5]at c0;have cc:∀(b i:Nat) (c:Array Value) (te:TypeId),W6.heap[b]?=some (.cells c te)->W6.cell? ⟨b,i,none⟩=c[i]?:=λb i c te h=>cell_of_row W6 b i c te (0,0) h;have g0:Dr W6 (w.heap.size+2) ao cap s 0:=by
  refine⟨(cc _ _ _ _ r2).trans (dec_at0 _),(cc _ _ _ _ r2).trans (dec_at1 _),Uj _ _ _ _ _ r2,λa0=>?_,Nat.zero_le _,hs⟩;obtain⟨bb,bo,ha,b0,hc⟩:=hb a0;exact⟨bb,bo,ha,by omega,λi hi=>(hB.cell (p:=⟨bb,bo+i,none⟩) b0).trans (hc i hi)⟩
 have h0:Yq W6 (w.heap.size+2) 2:=yt1 (λi=>cc _ i _ _ r2);have i0:=yt0 (D:=w.heap.size+3) (P:=w.heap.size+4) g0 h0 ((cc _ _ _ _ r2).trans (yrw _)) (λj=>Uj _ _ _ _ _ r2) ((cc _ _ _ _ r3).trans rfl) ((cc _ _ _ _ r4).trans rfl) ((cc _ _ _ _ r4).trans rfl) (λj=>Uj _ _ _ _ _ r4) (by omega);have far:∀{w1:World},W6.grownBy w1 (some (w.heap.size+2))->(∀k,k<w.heap.size+6->k≠w.heap.size+2->w1.heap[k]?=W6.heap[k]?)/\w.heap.size+6<=w1.heap.size:=λg=>⟨λk hk a0=>g.block k (by omega) (by simpa using a0),by have:=g.size;omega⟩;have set4:∀(u:World) (i:Nat) (v:Value) (k:Nat),k≠w.heap.size+4->(u.setCell ⟨w.heap.size+4,i,none⟩ v).heap[k]?=u.heap[k]?:=λu i v k hk=>Below.heap_setCell _ _ _ _ (by intro h;exact hk (by simpa using h));refine(c0 (λw'=>(Fl.decode s).2.1=true/\yuv (Fl.decode s) (w.heap.size+2) (w.heap.size+3) (w.heap.size+4) W6 (.returned (.tuple #[])) w') (λn pl w'=>(Fl.decode s).2.1=false/\n=8/\pl=(Fl.decode s).2.2/\W6.grownBy w' (some (w.heap.size+2))) (λW=>by kernel_rfl) (i0.mono ?_)).mono ?_
 ·rintro e w' hd
  cases hr:(Fl.decode s).2.1 with
  |false=>
   obtain⟨rfl,hg⟩:=hd.1 hr;have h5':=(far hg).1 (w.heap.size+5) (by omega) (by omega);exact⟨(Qc (w:=W6) (a:=⟨w.heap.size+5,0,none⟩) h5').trans ((cc _ _ _ _ r5).trans rfl),(Qd (w:=W6) (a:=⟨w.heap.size+5,0,none⟩) h5').trans (Uj _ _ _ _ _ r5),.inr ⟨_,_,rfl,rfl,rfl,rfl,hg⟩⟩
  |true=>
   obtain⟨lv,nv,w1,rfl,hg,rfl,j0,hst⟩:=hd.2 hr;have h5':((w1.setCell ⟨w.heap.size+4,0,none⟩ lv).setCell ⟨w.heap.size+4,1,none⟩ nv).heap[w.heap.size+5]?=W6.heap[w.heap.size+5]?:=by
    rw[set4 _ _ _ _ (by omega),set4 _ _ _ _ (by omega)];exact(far hg).1 (w.heap.size+5) (by omega) (by omega)
   exact⟨(Qc (w:=W6) (a:=⟨w.heap.size+5,0,none⟩) h5').trans ((cc _ _ _ _ r5).trans rfl),(Qd (w:=W6) (a:=⟨w.heap.size+5,0,none⟩) h5').trans (Uj _ _ _ _ _ r5),.inl ⟨rfl,rfl,hd⟩⟩
 have belowG:∀{w1:World},W6.grownBy w1 (some (w.heap.size+2))->Below w.heap.size w w1:=λg=>⟨g.os.trans hB.os,g.tape.trans hB.tape,g.output.trans hB.output,Nat.le_trans hB.size g.size,λk hk=>(g.block k (by omega) (by simp;omega)).trans (hB.block k hk)⟩;rintro e wz (⟨w2,rfl,⟨hr,hd⟩,rfl⟩|⟨n,pl,w1,o,rfl,⟨hr,rfl,rfl,hg⟩,rfl⟩)
 ·obtain⟨lv,nv,w1,-,hg,rfl,⟨la,n,lc,na,n',nc,rfl,rfl⟩,hst⟩:=hd.2 hr
  have set5:∀(u:World) (v:Value) (k:Nat),k≠w.heap.size+5->(u.setCell ⟨w.heap.size+5,0,none⟩ v).heap[k]?=u.heap[k]?:=λu v k hk=>Below.heap_setCell _ _ _ _ (by intro h;exact hk (by simpa using h))
  have hall:∀k,k≠w.heap.size+4->k≠w.heap.size+5->(((w1.setCell ⟨w.heap.size+4,0,none⟩ (.slice la n lc)).setCell ⟨w.heap.size+4,1,none⟩ (.slice na n' nc)).setCell ⟨w.heap.size+5,0,none⟩ .nilIface).heap[k]?=w1.heap[k]?:=λk h4 h5=>by
   rw[set5 _ _ _ h5,set4 _ _ _ _ h4,set4 _ _ _ _ h4]
  have hn:(((w1.setCell ⟨w.heap.size+4,0,none⟩ (.slice la n lc)).setCell ⟨w.heap.size+4,1,none⟩ (.slice na n' nc)).setCell ⟨w.heap.size+5,0,none⟩ .nilIface).heap[w.heap.size]?=W6.heap[w.heap.size]?:=(hall _ (by omega) (by omega)).trans ((far hg).1 _ (by omega) (by omega));have e0:=(far hg).1 (w.heap.size+4) (by omega) (by omega);have p0:w1.cell? ⟨w.heap.size+4,0,none⟩=some (.slice none 0 0):=(Qc (w:=W6) (a:=⟨w.heap.size+4,0,none⟩) e0).trans ((cc _ _ _ _ r4).trans rfl);have p1:w1.cell? ⟨w.heap.size+4,1,none⟩=some (.slice none 0 0):=(Qc (w:=W6) (a:=⟨w.heap.size+4,1,none⟩) e0).trans ((cc _ _ _ _ r4).trans rfl);refine⟨(((belowG hg).setCell (show w.heap.size<=(⟨w.heap.size+4,0,none⟩:Addr).block by simp) _).setCell (show w.heap.size<=(⟨w.heap.size+4,1,none⟩:Addr).block by simp) _).setCell (show w.heap.size<=(⟨w.heap.size+5,0,none⟩:Addr).block by simp) _,?_,?_,?_,?_,?_,?_⟩
  ·have:=(far hg).2;simpa using this
  ·exact(Qc (w:=W6) (a:=⟨w.heap.size,0,none⟩) hn).trans ((cc _ _ _ _ r0).trans rfl)
  ·exact(Qc (w:=W6) (a:=⟨w.heap.size,1,none⟩) hn).trans ((cc _ _ _ _ r0).trans rfl)
  ·exact λj=>(Qd (w:=W6) (a:=⟨w.heap.size,j,none⟩) hn).trans (Uj _ _ _ _ _ r0)
  ·intro h;rw[hr]at h;cases h
  intro _;have d0:(((w1.setCell ⟨w.heap.size+4,0,none⟩ (.slice la n lc)).setCell ⟨w.heap.size+4,1,none⟩ (.slice na n' nc)).setCell ⟨w.heap.size+5,0,none⟩ .nilIface).cell? ⟨w.heap.size+4,0,none⟩=some (.slice la n lc):=by
   refine(Qg _ _ _ _ (by simp)).trans ((Qg _ _ _ _ (by simp)).trans ?_);exact World.cell?_setCell_same' _ _ _ (by simp[p0])
  have d1:(((w1.setCell ⟨w.heap.size+4,0,none⟩ (.slice la n lc)).setCell ⟨w.heap.size+4,1,none⟩ (.slice na n' nc)).setCell ⟨w.heap.size+5,0,none⟩ .nilIface).cell? ⟨w.heap.size+4,1,none⟩=some (.slice na n' nc):=by
   refine(Qg _ _ _ _ (by simp)).trans (World.cell?_setCell_same' _ _ _ ?_);refine(congrArg Option.isSome (Qg _ _ _ _ (by simp))).trans ?_;simp[p1]
  refine⟨la,n,lc,na,n',nc,rfl,d0,d1,λw'' hs''=>hst w'' ⟨?_,λk hk b0=>?_⟩⟩
  ·have:=hs''.size;simpa using this
  rw[hsz]at hk;exact(hs''.block k (by omega) (by simpa using b0)).trans (hall k (by omega) (by omega))
 have k0:=(far hg).2
 have hall:∀v k,k<w.heap.size+5->(((w1.alloc o).alloc (.cells #[.int .i64 8,.int .i64 (Fl.decode s).2.2] 80)).setCell ⟨w.heap.size+5,0,none⟩ v).heap[k]?=w1.heap[k]?:=λv k hk=>by
  rw[Below.heap_setCell _ _ _ _ (by simp;omega),Below.heap_alloc _ _ _ (by simp;omega),Below.heap_alloc _ _ _ (by omega)]
 have hn:=λv=>(hall v w.heap.size (by omega)).trans ((far hg).1 w.heap.size (by omega) (by omega))
 have hq:∀v,(((w1.alloc o).alloc (.cells #[.int .i64 8,.int .i64 (Fl.decode s).2.2] 80)).setCell ⟨w.heap.size+5,0,none⟩ v).heap[w1.heap.size+1]?=some (.cells #[.int .i64 8,.int .i64 (Fl.decode s).2.2] 80):=λv=>by
  rw[Below.heap_setCell _ _ _ _ (by simp;omega)];have:=heap_alloc_last (w1.alloc o) (.cells #[.int .i64 8,.int .i64 (Fl.decode s).2.2] 80);simpa using this
 have f0:=λv i=>cell_of_row _ (w1.heap.size+1) i _ _ (0,0) (hq v);refine⟨(((belowG hg).alloc (by omega) _).alloc (by simp;omega) _).setCell (show w.heap.size<=(⟨w.heap.size+5,0,none⟩:Addr).block by simp) _,by simp;omega,?_,?_,?_,?_,?_⟩
 ·exact(Qc (w:=W6) (a:=⟨w.heap.size,0,none⟩) (hn _)).trans ((cc _ _ _ _ r0).trans rfl)
 ·exact(Qc (w:=W6) (a:=⟨w.heap.size,1,none⟩) (hn _)).trans ((cc _ _ _ _ r0).trans rfl)
 ·exact λj=>(Qd (w:=W6) (a:=⟨w.heap.size,j,none⟩) (hn _)).trans (Uj _ _ _ _ _ r0)
 ·exact λ_=>⟨_,rfl,by omega,(f0 _ 0).trans rfl,(f0 _ 1).trans rfl⟩
 intro h;rw[hr]at h;cases h
def zo0{wz:World}{N:Nat}{u0 u1:Value}(v0 v1:Value)(c0:wz.cell? ⟨N,0,none⟩=some u0)(c1:wz.cell? ⟨N,1,none⟩=some u1):
  ((wz.setCell ⟨N,0,none⟩ v0).setCell ⟨N,1,none⟩ v1).cell? ⟨N,0,none⟩=some v0/\((wz.setCell ⟨N,0,none⟩ v0).setCell ⟨N,1,none⟩ v1).cell? ⟨N,1,none⟩=some v1/\
  (∀k,k≠N->((wz.setCell ⟨N,0,none⟩ v0).setCell ⟨N,1,none⟩ v1).heap[k]?=wz.heap[k]?)/\((wz.setCell ⟨N,0,none⟩ v0).setCell ⟨N,1,none⟩ v1).heap.size=wz.heap.size/\
  (∀B w,Below B w wz->B<=N->Below B w ((wz.setCell ⟨N,0,none⟩ v0).setCell ⟨N,1,none⟩ v1)):=by
 refine⟨?_,?_,λk hk=>?_,by simp,λB w h hB=>(h.setCell (show B<=(⟨N,0,none⟩:Addr).block from hB) _).setCell (show B<=(⟨N,1,none⟩:Addr).block from hB) _⟩
 ·exact(Qg _ _ _ _ (by simp)).trans (World.cell?_setCell_same' _ _ _ (by simp[c0]))
 ·refine World.cell?_setCell_same' _ _ _ ((congrArg Option.isSome (Qg _ _ _ _ (by simp))).trans ?_)
  simp[c1]
 exact(Below.heap_setCell _ _ _ _ (by intro h;exact hk (by simpa using h))).trans (Below.heap_setCell _ _ _ _ (by intro h;exact hk (by simpa using h)))
def zly(r:(List Int×List Fl.Node)×Bool×Int)(w:World)(e:Ending)(w':World):Prop:=
 Below w.heap.size w w'/\
 (r.2.1=false->∃q,e=.returned (.tuple #[.agg #[.slice none 0 0,.slice none 0 0],.iface 76 (.pointer (some ⟨q,0,none⟩))])/\w'.cell? ⟨q,0,none⟩=some (.int .i64 8)/\w'.cell? ⟨q,1,none⟩=some (.int .i64 r.2.2))/\
 (r.2.1=true->∃la n lc na n' nc,e=.returned (.tuple #[.agg #[.slice la n lc,.slice na n' nc],.nilIface])/\∀w'',Yi w.heap.size w' w''->Zy w''.heap.size w'' (.slice la n lc) r.1.1/\Zo w''.heap.size w'' (.slice na n' nc) r.1.2)
def zbz{ao:Option Addr}{cap:Nat}{s:List UInt8}{w:World}(hs:s.length<=1099511627776)(hb:s≠[]->∃bb bo,ao=some ⟨bb,bo,none⟩/\bb<w.heap.size/\∀i,i<s.length->w.cell? ⟨bb,bo+i,none⟩=some (.int .u8 (s.getD i 0).toNat)):
  Calls prog 29 #[.slice ao s.length cap] w (zly (Fl.decode s) w):=by
 have g0:∀(fn:Fn) (first cap:Array Value) (w:World),(Instr.makeFunc fn first cap).run prog w=.ok (.func fn first cap) w:=λ_ _ _ _=>rfl;have HC:Hid (Calls prog 39 #[.func (.func 40) #[] #[.pointer (some ⟨w.heap.size+3,0,none⟩),.pointer (some ⟨w.heap.size+4,0,none⟩)]] (W5 w (.slice ao s.length cap)) (zh2 (Fl.decode s) w)):=zdz (cap:=cap) hs hb;clear hs hb
 go_enter func29,ntmps29
 go_wp2_with (first|(go_at_call 38;refine(zxw _).mono ?_;rintro e w1 ⟨rfl,rfl⟩)|(refine Jy rfl 101 _ rfl (zv7 (.slice ao s.length cap)) (by kernel_rfl) ?_))
 refine(HC.out).mono ?_;clear HC;rintro e wz ⟨hB,hsz,c0,c1,fz,a0,hgood⟩;have HB:=Zz hB;clear hB
 cases hr:(Fl.decode s).2.1 with
 |false=>
  obtain⟨q,rfl,hq,q0,q1⟩:=a0 hr;have b0:=Zz hr;clear a0 hgood hr
  go_wp2_with fail
  obtain⟨e0,e1,ek,es,eb⟩:=zo0 (.slice none 0 0) (.slice none 0 0) c0 c1;exact bodyPost_ret (v:=.tuple #[.agg #[.slice none 0 0,.slice none 0 0],.iface 76 (.pointer (some ⟨q,0,none⟩))]) (by simp[results,results29,go_sem,e0,e1]) rfl
   ⟨eb _ _ HB.out (Nat.le_refl _),λ_=>⟨q,rfl,(Qc (w:=wz) (a:=⟨q,0,none⟩) (ek q (by omega))).trans q0,(Qc (w:=wz) (a:=⟨q,1,none⟩) (ek q (by omega))).trans q1⟩,λh=>by rw[b0.out]at h;cases h⟩
 |true=>
  obtain⟨la,n,lc,na,n',nc,rfl,d0,d1,hst⟩:=hgood hr;have b0:=Zz hr;have f0:=Zz hst;clear a0 hgood hr hst
  go_wp2_with fail
  obtain⟨e0,e1,ek,es,eb⟩:=zo0 (.slice la n lc) (.slice na n' nc) c0 c1;exact bodyPost_ret (v:=.tuple #[.agg #[.slice la n lc,.slice na n' nc],.nilIface]) (by simp[results,results29,go_sem,e0,e1]) rfl
   ⟨eb _ _ HB.out (Nat.le_refl _),λh=>(by rw[b0.out]at h;cases h),λ_=>⟨la,n,lc,na,n',nc,rfl,λw'' hs''=>f0.out w'' ⟨by have:=hs''.size;omega,λk hk hlt=>(hs''.block k (by omega) (by omega)).trans (ek k (by omega))⟩⟩⟩
end Go.Proofs.YtminjljgedopkaaGreatDoor
