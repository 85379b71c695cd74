import Derived.Test.YtjekbnmnjeoagaaGreatDoorM32
set_option linter.all false
set_option maxRecDepth 100000
set_option maxHeartbeats 40000000
namespace Go.Proofs.YtjekbnmnjeoagaaGreatDoor
open Go.RowKit Go.Proofs.Tryz
variable{k Pb Lq Xb Rb:Nat}{w0 w wr:World}{rb:Nat->Nat}{clv hv bv lv:Value}{p:Fl.Prog}{ls:List Int}
namespace Fl
def cnt_app(d:Nat)(a b:List Stmt):cnt (d+1) (a++b)=cnt (d+1) a+cnt (d+1) b:=by
 show ((a++b).map λs=>1+cnt d s.body+cnt d s.other).sum=_;rw[List.map_append,List.sum_append];rfl
def cnt_take(d:Nat){l:List Stmt}(hk:k<l.length):cnt (d+1) (l.take k)+(1+cnt d (l.getD k noS).body+cnt d (l.getD k noS).other)<=cnt (d+1) l:=by
 have h1:cnt (d+1) l=cnt (d+1) (l.take k)+cnt (d+1) (l.drop k):=by rw[<-cnt_app,List.take_append_drop]
 rw[h1,List.drop_eq_getElem_cons hk,cnt_cons,Qa,Qb hk];simp only[Option.getD_some];omega
end Fl
section
variable{α β:Type}
def yk9{f:α->List β}{P:β->Bool}{l:List α}(hk:k<l.length)(h:∀m∈(l.take k).flatMap f,P m=false):(l.flatMap f).find? P=(f l[k]++(l.drop (k+1)).flatMap f).find? P:=by
 have e:l.flatMap f=(l.take k).flatMap f++(f l[k]++(l.drop (k+1)).flatMap f):=by
  rw[<-List.flatMap_cons,<-List.drop_eq_getElem_cons hk,<-List.flatMap_append,List.take_append_drop]
 rw[e,List.find?_append];have h0:((l.take k).flatMap f).find? P=none:=List.find?_eq_none.2 (λm hm=>by rw[h m hm];simp);rw[h0];rfl
end
section
def yr6(hp:zy2 w0 Pb Lq rb clv hv bv p)(ok:Fl.LvOk p (Fl.vars p ls))(h4:ls.length<=4)(d:Nat)(IH:zi9 w0 Pb Xb lv ls p d):zi9 w0 Pb Xb lv ls p (d+1):=by
 intro w wv acc lvs v l u hw hs ho M2 hu Z0;obtain⟨sa,sc,rfl,s1,s2,s3,s4⟩:=hs;obtain⟨⟨la,ln,lc,l3⟩,-⟩:=hw.sl;subst l3;have G1:=Zz IH;have HP:=Zz hp;have O0:Hid (Fl.LvOk p (Fl.vars p ls)/\ls.length<=4):=⟨ok,h4⟩;have HU:=Zz hu;obtain⟨vs,H1⟩:=nmE (Fl.vars p ls);obtain⟨n,hn⟩:=nmE (l.length)
 have o3:(n:Int)<=16:=by omega
 have N3:(n:Int)<=(sc:Int):=by omega
 obtain⟨f,hf⟩:=nmE (Fl.movesOne (Fl.moves p vs d) p vs u);obtain⟨St,l1⟩:=nmE (Fl.wStmt (Fl.wBlock p vs d) p vs u)
 have q3:Hid (∀k,k<n->∃b bo oo,sa=some (Aq b 0)/\b<w0.heap.size/\(∀j,j<10->w0.cell? (Aq b (k*10+j))=some ((Xh (l.getD k noS) bo oo).getD j undef))/\Zf d (λb=>b<w0.heap.size) w0 bo (l.getD k noS).body/\Zf d (λb=>b<w0.heap.size) w0 oo (l.getD k noS).other/\Fl.KindOk vs.length p.chans.length (l.getD k noS)/\Fl.ExprOk vs.length (l.getD k noS).e/\Fl.StmtsOk vs.length p.chans.length d (l.getD k noS).body/\Fl.StmtsOk vs.length p.chans.length d (l.getD k noS).other/\(l.getD k noS).Fit/\Fl.LPos d (l.getD k noS).body/\Fl.LPos d (l.getD k noS).other/\(Fl.wAll St acc (l.take k)).2.length+6*(1+Fl.cnt d (l.getD k noS).body+Fl.cnt d (l.getD k noS).other)+1<=200):=λk hk=>by
  have hk':k<l.length:=(by omega);obtain⟨b,e,hb,hc⟩:=s4 (by intro e;rw[e]at hk';cases hk');obtain⟨bo,oo,g1,g2,g3⟩:=hc k hk';have hm:l.getD k noS∈l:=(by rw[Qa,Qb hk'];exact List.getElem_mem hk');obtain⟨e1,e2,e3,e4⟩:=ho _ hm;obtain⟨f1,f2,f3⟩:=M2 _ hm;have c1:=Fl.cnt_take d hk';have c2:(Fl.wAll St acc (l.take k)).2.length<=acc.length+6*Fl.cnt (d+1) (l.take k):=(by rw[l1];exact Fl.zall_len (λws s=>Fl.zstmt_len p vs d u ws s) (l.take k) acc);rw[H1];exact⟨b,bo,oo,e,hb,g1,g2,g3,e1,e2,e3,e4,f1,f2,f3,by omega⟩
 have r3:Hid (∀k,k<n->(∀m∈(l.take k).flatMap f,Xm p vs m=false)->(l.flatMap f).find? (Xm p vs)=(f (l.getD k noS)++(l.drop (k+1)).flatMap f).find? (Xm p vs)):=λk hk h=>by
  rw[yk9 (by omega) h,Qa,Qb (by omega)];rfl
 have t3:Hid (∀k,k<n->l.take (k+1)=l.take k++[l.getD k noS]):=λk hk=>by
  rw[List.take_succ_eq_append_getElem (by omega),Qa,Qb (by omega)];rfl
 have P0:Hid (Fl.wBlock p vs (d+1) acc l u=Fl.put1 (Fl.wAll St acc (l.take n)).2 ⟨7,u,0,0,0,(Fl.wAll St acc (l.take n)).1⟩/\(Fl.moves p vs (d+1) l u).find? (Xm p vs)=(l.flatMap f).find? (Xm p vs)):=by
  rw[hn,List.take_length,l1,hf];exact⟨rfl,rfl⟩
 have u3:Hid (l.take n=l):=by show _=_;rw[hn,List.take_length]
 have V1:Hid (∀k,(Fl.wAll St acc (l.take k)).1.length<=16/\(Fl.wAll St acc (l.take k)).2.length<=200):=λk=>by
  have c2:(Fl.wAll St acc (l.take k)).2.length<=acc.length+6*Fl.cnt (d+1) (l.take k):=(by rw[l1];exact Fl.zall_len (λws s=>Fl.zstmt_len p vs d u ws s) (l.take k) acc);have c3:Fl.cnt (d+1) (l.take k)<=Fl.cnt (d+1) l:=by
   have:Fl.cnt (d+1) l=Fl.cnt (d+1) (l.take k)+Fl.cnt (d+1) (l.drop k):=by rw[<-Fl.cnt_app,List.take_append_drop]
   omega
  refine⟨by rw[Fl.wAll_len,List.length_take];omega,by omega⟩
 rw[<-H1,<-hn];generalize hres:Fl.wBlock p vs (d+1) acc l u=res at*;generalize hfin:(Fl.moves p vs (d+1) l u).find? (Xm p vs)=fin at*;obtain⟨nb,hnb⟩:=nmE (w.heap.size);obtain⟨W0,I1⟩:=nmE (w.alloc (.cells #[Iq 7,Iq u,Iq 0,Iq 0,Iq 0,Zq] 92));have X1:Hid (zz6 w0 w W0 Xb nb (.slice la ln lc) wv wv ls u acc lvs [] acc lvs Zq):=by
  have hb:Bq w W0:=(by rw[I1];exact bA);refine⟨hw.below hb,Yw.of_below hb,Xc.refl _ _ _ _,λp hp hn b a1 hh=>(by cases hh),λhn b a1=>?_,by omega,World.ownsRow_nil _ _ _ _,⟨by rw[hnb];exact hw.hz,by rw[hnb];exact(hw.own (Nat.le_refl _)).2,by rw[I1,hnb];exact heap_alloc_last _ _⟩⟩;rw[hnb];exact((hw.li (.slice la ln lc,ls) (by simp)).2 hn b a1).2.lt
 have O3:=Zz hnb;have o0:=Zz H1;have HF:Hid (f=Fl.movesOne (Fl.moves p vs d) p vs u/\St=Fl.wStmt (Fl.wBlock p vs d) p vs u):=⟨hf,l1⟩;clear hw ho M2 hu s1 s2 s3 s4 IH hp ok h4 hn hf l1 hres hfin Z0 H1
 go_enter func31,ntmps31
 go_wp2_with fail
 rw[<-I1,<-hnb];clear I1 hnb
 go_loopw [11] (λi wr=>∃(k:Nat) (l5 wv':Value) (lvs':List Value),k<=n/\i=Iq k/\zz6 w0 w wr Xb nb (.slice la ln lc) wv wv' ls u acc lvs (Fl.wAll St acc (l.take k)).1 (Fl.wAll St acc (l.take k)).2 lvs' l5/\∀m∈(l.take k).flatMap f,Xm p vs m=false) (λi _=>n - (intOf i).toNat)
 case atStart=>exact⟨0,_,_,_,by omega,rfl,X1.out,λm hm=>by cases hm⟩
 case round=>
  obtain⟨k,l5,wv',lvs',hk,rfl,a0,o1⟩:=hrel;have t1:=V1.out k;have J1:=Zz o1;clear o1
  by_cases Y1:k<n
  ·have v3:(k:Int)<(n:Int):=by omega
   obtain⟨b,bo,oo,rfl,hbz,p0,K1,L1,k1,k2,k3,k4,f1,f2,f3,Z0⟩:=q3.out k Y1;have Q0:=Zz (r3.out k Y1 J1.out);have C0:=Zz (t3.out k Y1);obtain⟨s,hs⟩:=nmE (l.getD k noS);rw[<-hs]at p0 K1 L1 k1 k2 k3 k4 f1 f2 f3 Z0 Q0 C0;have N2:Hid (Fl.wAll St acc (l.take (k+1))=((Fl.wAll St acc (l.take k)).1++[(St (Fl.wAll St acc (l.take k)).2 s).1],(St (Fl.wAll St acc (l.take k)).2 s).2)):=by
    show _=_;rw[C0.out,Fl.wAll_snoc]
   have O2:Hid ((∀m∈f s,Xm p vs m=false)->∀m∈(l.take (k+1)).flatMap f,Xm p vs m=false):=λh m hm=>by
    rw[C0.out,List.flatMap_append,List.mem_append]at hm;rcases hm with hm|hm
    ·exact J1.out m hm
    exact h m (by simpa using hm)
   have b1:Hid (∀m,(f s).find? (Xm p vs)=some m->fin=some m):=λm hm=>by
    rw[P0.out.2,Q0.out,List.find?_append,hm];rfl
   generalize Fl.wAll St acc (l.take k)=E at*;obtain⟨ns,ac⟩:=E;simp only at a0 t1 N2 Z0;obtain⟨ba,bn,bc,rfl⟩:=K1.slice;obtain⟨oa,on,oc,rfl⟩:=L1.slice;obtain⟨-,wa,wn,wc,rfl⟩:=a0.wi.sl;have x3:=a0.wi.be.size;have qq:∀j,wr.cell? (Aq b j)=w0.cell? (Aq b j):=λj=>a0.wi.be.cell (p:=(Aq b j)) hbz;have c0:wr.cell? (Aq b (k*10))=some (Iq s.kind):=(qq _).trans (p0 0 (by omega));have c1:wr.cell? (Aq b (k*10+1))=some (Iq s.x):=(qq _).trans (p0 1 (by omega));have c2:wr.cell? (Aq b (k*10+2))=some (Iq s.line):=(qq _).trans (p0 2 (by omega));have c3:wr.cell? (Aq b (k*10+3))=some (Iq s.e.op):=(qq _).trans (p0 3 (by omega));have c4:wr.cell? (Aq b (k*10+4))=some (.bool s.e.a.var):=(qq _).trans (p0 4 (by omega));have c5:wr.cell? (Aq b (k*10+5))=some (Iq s.e.a.v):=(qq _).trans (p0 5 (by omega));have c6:wr.cell? (Aq b (k*10+6))=some (.bool s.e.b.var):=(qq _).trans (p0 6 (by omega));have c7:wr.cell? (Aq b (k*10+7))=some (Iq s.e.b.v):=(qq _).trans (p0 7 (by omega));have c8:wr.cell? (Aq b (k*10+8))=some (.slice ba bn bc):=(qq _).trans (p0 8 (by omega));have c9:wr.cell? (Aq b (k*10+9))=some (.slice oa on oc):=(qq _).trans (p0 9 (by omega));have P3:b<wr.heap.size:=Qj hbz x3;have k2':Fl.ExprOk (Fl.vars p ls).length s.e:=(by rw[<-o0.out];exact k2);have M1:=Fl.valLv_rng HP.out.lv O0.out.1 k2';have Z1:=HP.out.lv.jn HU.out M1;rw[<-o0.out]at M1 Z1
   have P2:Hid (∀V na nn nc,Xs w0 V Xb (.slice la ln lc) (.slice na nn nc) ls ac lvs'->Cq 58 #[Pq Pb,.agg #[.slice la ln lc,.slice na nn nc],.agg #[Iq s.e.op,.bool s.e.a.var,Iq s.e.a.v,.bool s.e.b.var,Iq s.e.b.v]] V λr w'=>r=.returned (Iq (Fl.valLv p vs s.e))/\Bq V w'):=λV na nn nc hV=>by rw[o0.out];exact zv4 (HP.out.below hV.be) hV.ints na nn nc O0.out.2 O0.out.1 k2'
   have Q2:Hid (∀V wv2,Xs w0 V Xb (.slice la ln lc) wv2 ls ac lvs'->Cq 60 #[Pq Pb,Pq Xb,.agg #[Iq s.e.op,.bool s.e.a.var,Iq s.e.a.v,.bool s.e.b.var,Iq s.e.b.v]] V (Vt (λ_=>False) w0 V Xb (.slice la ln lc) wv2 ls ac lvs' (Fl.wVal p vs ac s.e))):=λV wv2 hV=>by rw[o0.out];exact zd4 HP.out hV O0.out.2 O0.out.1 k2' (by omega)
   have R2:Hid (∀V,Bq w0 V->Cq 59 #[Pq Pb,Iq u,Iq (Fl.valLv p vs s.e)] V λe w'=>e=.returned (Iq (Fl.jn p u (Fl.valLv p vs s.e)))/\w'=V):=λV hV=>zg0 (HP.out.below hV) HU.out M1;have g0:Hid (Fl.KindOk vs.length p.chans.length s/\Fl.StmtsOk vs.length p.chans.length d s.body/\Fl.StmtsOk vs.length p.chans.length d s.other/\s.Fit/\Fl.LPos d s.body/\Fl.LPos d s.other/\Zf d (λb=>b<w0.heap.size) w0 (.slice ba bn bc) s.body/\Zf d (λb=>b<w0.heap.size) w0 (.slice oa on oc) s.other):=⟨k1,k3,k4,f1,f2,f3,K1,L1⟩;have d1:Hid (Fl.valLv p vs s.e=Fl.valLv p vs s.e/\(0<=Fl.jn p u (Fl.valLv p vs s.e)/\Fl.jn p u (Fl.valLv p vs s.e)<p.n)):=⟨rfl,Z1⟩;have u1:=Zz (Fl.zval_len p vs ac s.e);have B0:=Zz a0;have v1:=Zz Z0;obtain⟨sb,N1⟩:=nmE (wr.heap.size);obtain⟨W1,O1⟩:=nmE (wr.alloc (.cells #[Iq s.kind,Iq s.x,Iq s.line,Iq s.e.op,.bool s.e.a.var,Iq s.e.a.v,.bool s.e.b.var,Iq s.e.b.v,.slice ba bn bc,.slice oa on oc] 119));have P1:Hid (Bq wr W1):=(by show Below _ _ _;rw[O1];exact bA);have a2:Hid (Pv Xb W1 (.slice wa wn wc) sb (.cells #[Iq s.kind,Iq s.x,Iq s.line,Iq s.e.op,.bool s.e.a.var,Iq s.e.a.v,.bool s.e.b.var,Iq s.e.b.v,.slice ba bn bc,.slice oa on oc] 119 (0,0))):=⟨by have:=a0.wi.hz;omega,by rw[N1];exact(a0.wi.own (Nat.le_refl _)).2,by rw[O1,N1];exact heap_alloc_last _ _⟩;have Q3:Hid (nb<sb):=(by have:=a0.nd.lt;show nb<sb;omega)
   have HS:Hid (∀V,Bq W1 V->V.cell? (Aq Xb 0)=some (.slice la ln lc)/\V.cell? (Aq Xb 1)=some (.slice wa wn wc)/\V.cell? (Aq sb 3)=some (Iq s.e.op)/\V.cell? (Aq sb 4)=some (.bool s.e.a.var)/\V.cell? (Aq sb 5)=some (Iq s.e.a.v)/\V.cell? (Aq sb 6)=some (.bool s.e.b.var)/\V.cell? (Aq sb 7)=some (Iq s.e.b.v)):=λV hV=>by
    have h1:=(B0.out.below P1.out).below hV;have h2:=a2.out.below hV;exact⟨h1.wi.c0,h1.wi.c1,h2.cell rfl,h2.cell rfl,h2.cell rfl,h2.cell rfl,h2.cell rfl⟩
   have J0:Hid (f s=if s.kind=3\/s.kind=4 then [(s,Fl.jn p u (Fl.valLv p vs s.e))] else if s.kind=5\/s.kind=6 then Fl.moves p vs d s.body (Fl.jn p u (Fl.valLv p vs s.e))++Fl.moves p vs d s.other (Fl.jn p u (Fl.valLv p vs s.e)) else []):=by
    show _=_;rw[HF.out.1];rfl
   have K0:Hid (St ac s=if s.kind=5 then Fl.put1 (Fl.wBlock p vs d (Fl.wBlock p vs d (Fl.wVal p vs ac s.e).2 s.body (Fl.jn p u (Fl.valLv p vs s.e))).2 s.other (Fl.jn p u (Fl.valLv p vs s.e))).2 ⟨5,u,(Fl.wVal p vs ac s.e).1,(Fl.wBlock p vs d (Fl.wVal p vs ac s.e).2 s.body (Fl.jn p u (Fl.valLv p vs s.e))).1,(Fl.wBlock p vs d (Fl.wBlock p vs d (Fl.wVal p vs ac s.e).2 s.body (Fl.jn p u (Fl.valLv p vs s.e))).2 s.other (Fl.jn p u (Fl.valLv p vs s.e))).1,[]⟩
     else if s.kind=6 then Fl.put1 (Fl.wBlock p vs d (Fl.wVal p vs ac s.e).2 s.body (Fl.jn p u (Fl.valLv p vs s.e))).2 ⟨6,u,(Fl.wVal p vs ac s.e).1,(Fl.wBlock p vs d (Fl.wVal p vs ac s.e).2 s.body (Fl.jn p u (Fl.valLv p vs s.e))).1,0,[]⟩
     else Fl.put1 (Fl.wVal p vs ac s.e).2 ⟨s.kind,u,s.x,(Fl.wVal p vs ac s.e).1,0,[]⟩):=by
    show _=_;rw[HF.out.2];rfl
   generalize Fl.valLv p vs s.e=ev at*;clear p0 K1 L1 k1 k2 k3 k4 f1 f2 f3 hs k2' M1 Z1 qq a0 Z0 J1 Q0 C0
   go_wp2_with fail
   rw[<-O1,<-N1];clear O1 N1 c0 c1 c2 c3 c4 c5 c6 c7 c8 c9;refine Yz HS dA [6] [] [] (by kernel_rfl) (λc a d v w h=>by cases d<;>exact h) (λops _=>?_)
   iterate 6 refine Zs rfl (by rintro _ ⟨_,_,_,_,_,_,_⟩;go_simp<;>rfl) (by go_simp<;>rfl) ?_
   refine Zu ?_
   go_wp2_with fail
   refine(P2.out _ _ _ _ ((B0.out.below P1.out).below dA).wi).mono ?_;rintro e1 W2 ⟨rfl,a1⟩;have A1:Hid (Bq W1 W2):=dA.trans a1;clear a1 P2
   go_wp2_with fail
   refine⟨HS.out _ A1.out,?_⟩;refine Zs rfl (by rintro _ ⟨_,_,_,_,_,_,_⟩;go_simp<;>rfl) (by go_simp<;>rfl) ?_;refine Zl ?_;have D0:=Zz ((B0.out.below P1.out).below A1.out);have B1:=Zz (a2.out.below A1.out);obtain⟨-,-,y3,y4,y5,y6,y7⟩:=HS.out _ A1.out;clear HS a2 B0 P1 A1
   go_wp2_with fail
   refine(R2.out _ D0.out.wi.be).mono ?_;rintro e2 W ⟨rfl,rfl⟩;clear R2;generalize Fl.jn p u ev=vv at*
   go_wp2_with fail
   refine(Q2.out _ _ D0.out.wi).mono ?_;rintro e3 W3 ⟨rfl,wv3,lvs3,S2,b2,T2⟩;have t0:=Zz (D0.out.call S2 b2 T2);have E0:=Zz (B1.out.step b2);generalize Fl.wVal p vs ac s.e=rv at*;clear S2 b2 T2 Q2 D0 B1 y3 y4 y5 y6 y7;have y0:W3.cell? (Aq sb 0)=some (Iq s.kind):=E0.out.cell rfl;obtain⟨mb,Q1⟩:=nmE (W3.heap.size);obtain⟨W4,R1⟩:=nmE (W3.alloc (.cells #[Iq s.kind,Iq u,Iq 0,Iq 0,Iq 0,Zq] 92));have d2:Hid (Bq W3 W4):=(by show Below _ _ _;rw[R1];exact bA);have C1:Hid (Pv Xb W4 wv3 mb (.cells #[Iq s.kind,Iq u,Iq 0,Iq 0,Iq 0,Zq] 92 (0,0))):=⟨by have:=t0.out.wi.hz;omega,by rw[Q1];exact(t0.out.wi.own (Nat.le_refl _)).2,by rw[R1,Q1];exact heap_alloc_last _ _⟩;have R0:Hid (nb<mb/\sb<mb):=(by have:=t0.out.nd.lt;have:=E0.out.lt;show _/\_;omega);have d0:=Zz (t0.out.below d2.out);have f0:=Zz (E0.out.below d2.out);obtain⟨-,wa3,wn3,wc3,rfl⟩:=d0.out.wi.sl;obtain⟨vn,j1⟩:∃vn:Nat,vv=(vn:Int):=⟨vv.toNat,by have:=d1.out.2;omega⟩;subst j1
   go_upto_region 10 with fail
   rw[<-R1,<-Q1];clear R1 Q1 t0 E0 d2 y0;have y0:W4.cell? (Aq sb 0)=some (Iq s.kind):=f0.out.cell rfl
   iterate 10 (first|go_values|go_skip|go_guarded|go_step|go_upon|go_back)
   go_cut [17,18,19,20,21] (λ_ _ _ _ _ wc=>∃(wv4:Value) (ac4:List Fl.Node) (lvs4:List Value) (a b c:Int),zz6 w0 w wc Xb nb (.slice la ln lc) wv wv4 ls u acc lvs ns ac4 lvs4 l5/\Pv Xb wc wv4 mb (.cells #[Iq s.kind,Iq u,Iq a,Iq b,Iq c,Zq] 92 (0,0))/\St ac s=Fl.put1 ac4 ⟨s.kind,u,a,b,c,[]⟩/\(∀m∈f s,Xm p vs m=false)/\ac4.length<=200)
   case first=>
    have z3:s.kind=3\/s.kind=4\/s.kind=5\/s.kind=6:=by rcases g0.out.1 with h|h|h|h<;>omega
    have y1:W4.cell? (Aq sb 1)=some (Iq s.x):=f0.out.cell rfl;have j1:vn<p.n:=(by have:=d1.out.2;omega);have R3:(vn:Int)<(p.n:Int):=(by omega);have y2:W4.cell? (Aq sb 2)=some (Iq s.line):=f0.out.cell rfl
    have q0:Hid (∀(V:World) (wv4:Value) (ac4:List Fl.Node) (lvs4:List Value) (a b c:Int),zz6 w0 w V Xb nb (.slice la ln lc) wv wv4 ls u acc lvs ns ac4 lvs4 l5->Pv Xb V wv4 mb (.cells #[Iq s.kind,Iq u,Iq a,Iq b,Iq c,Zq] 92 (0,0))->∀a' b':Int,zz6 w0 w ((V.setCell (Aq mb 2) (Iq a')).setCell (Aq mb 3) (Iq b')) Xb nb (.slice la ln lc) wv wv4 ls u acc lvs ns ac4 lvs4 l5/\Pv Xb ((V.setCell (Aq mb 2) (Iq a')).setCell (Aq mb 3) (Iq b')) wv4 mb (.cells #[Iq s.kind,Iq u,Iq a',Iq b',Iq c,Zq] 92 (0,0))):=λV wv4 ac4 lvs4 a b c h1 h2 a' b'=>by
     have g1:=h2.set 2 (Iq a') rfl;exact⟨(h1.set h2 R0.out.1 2 _).set g1 R0.out.1 3 _,g1.set 3 (Iq b') rfl⟩
    rcases z3 with i2|j2|S1|l2
    ·have b3:((s.kind:Int)==3)=true:=by rw[i2];rfl
     have HS:Hid (∀V,Bq W4 V->V.cell? (Aq Xb 0)=some (.slice la ln lc)/\V.cell? (Aq Xb 1)=some (.slice wa3 wn3 wc3)/\V.cell? (Aq sb 1)=some (Iq s.x)):=λV hV=>⟨(d0.out.below hV).wi.c0,(d0.out.below hV).wi.c1,(f0.out.below hV).cell rfl⟩
     have u0:s.x<vs.length:=by rcases g0.out.1 with h|h|h|h<;>omega
     have o2:Hid (∀V,Bq W4 V->Cq 61 #[Pq Pb,.agg #[.slice la ln lc,.slice wa3 wn3 wc3],Iq s.x] V λe w'=>e=.returned (Iq (vs.getD s.x 0))/\Bq V w'):=λV hV=>by rw[o0.out]at u0⊢;exact ywz (HP.out.below (d0.out.below hV).wi.be) (d0.out.below hV).wi.ints wa3 wn3 wc3 u0 O0.out.2
     have D1:0<=vs.getD s.x 0/\vs.getD s.x 0<p.n:=(by rw[o0.out]at u0⊢;exact O0.out.1.2 s.x u0);obtain⟨tn,S0⟩:∃tn:Nat,vs.getD s.x 0=(tn:Int):=⟨(vs.getD s.x 0).toNat,by omega⟩;have E1:Hid (Xm p vs (s,(vn:Int))= !p.leq vn tn):=by
      show _=_;unfold Xm Fl.fitsM Fl.under;rw[if_neg (by simp only;omega)];simp only;rw[S0,Int.toNat_natCast,Int.toNat_natCast]
     rw[S0]at o2 D1;have v0:Hid (f s=[(s,(vn:Int))]):=J0.out.trans (if_pos (.inl i2));have T0:=Zz ((K0.out.trans (if_neg (by omega))).trans (if_neg (by omega)));have A3:(tn:Int)<(p.n:Int):=D1.2;have p2:tn<p.n:=(by omega);clear J0 K0 S0 u0 i2
     go_wp2_with fail
     refine Yz HS dA [6] [] [] (by kernel_rfl) (λc a d v w h=>by cases d<;>exact h) (λops _=>?_)
     iterate 6 refine Zs rfl (by rintro _ ⟨_,_,_⟩;go_simp<;>rfl) (by go_simp<;>rfl) ?_
     refine Zu ?_
     go_wp2_with fail
     refine(o2.out _ dA).mono ?_;rintro e4 W5 ⟨rfl,U2⟩;have r0:Hid (Bq W4 W5):=dA.trans U2;clear U2 o2
     go_wp2_with fail
     refine⟨HS.out _ r0.out,?_⟩;refine Zs rfl (by rintro _ ⟨_,_,_⟩;go_simp<;>rfl) (by go_simp<;>rfl) ?_;refine Zl ?_;have U0:=Zz (HP.out.below (d0.out.below r0.out).wi.be);have p1:=U0.out.p1;have q1:=U0.out.lq.c vn j1;have q2:=U0.out.lq.r vn tn j1 p2;have e0:=Zz (d0.out.below r0.out);have b0:=Zz (C1.out.below r0.out);have x1:W5.cell? (Aq sb 1)=some (Iq s.x):=(f0.out.below r0.out).cell rfl;have x2:W5.cell? (Aq sb 2)=some (Iq s.line):=(f0.out.below r0.out).cell rfl;have m2:W5.cell? (Aq mb 2)=some (Iq 0):=b0.out.cell rfl;have m3:W5.cell? (Aq mb 3)=some (Iq 0):=b0.out.cell rfl;have n2:W5.frozen? (Aq mb 2)=false:=b0.out.free 2;have n3:W5.frozen? (Aq mb 3)=false:=b0.out.free 3;have t2:sb≠mb:=(by have:=R0.out.2;omega)
     cases hq:p.leq vn tn
     ·have HE:Hid (∀V,Bq W5 V->zvv w0 w Xb (.slice la ln lc) wv ls acc lvs fin res (.returned (.tuple #[Iq 0,Iq s.line])) V):=λV hV=>⟨_,_,_,(e0.out.below hV).wi,(e0.out.below hV).st,.inl ⟨(s,(vn:Int)),b1.out _ (by rw[v0.out,List.find?_cons_of_pos (by rw[E1.out,hq];rfl)]),rfl⟩⟩
      rw[hq]at q2;clear q0
      go_wp2_with fail
      refine Uv [] (by kernel_rfl) (by kernel_rfl) (by kernel_rfl) (λops _=>?_)
      iterate 4 still_step
      refine wpStill_nil ?_;go_wp2;refine bodyPost_ret (v:=.tuple #[Iq 0,Iq s.line]) (by simp[results,results31,go_sem]) rfl ?_;exact HE.out _ dA
     have HR:=Zz (q0.out W5 _ _ _ _ _ _ e0.out b0.out s.x rv.1);rw[hq]at q2
     have u2:Hid (∀m∈f s,Xm p vs m=false):=λm hm=>by
      rw[v0.out,List.mem_singleton]at hm;rw[hm,E1.out,hq];rfl
     have hlen:rv.2.length<=200:=(by have:=u1.out;have:=v1.out;omega);clear q0
     go_wp2_with fail
     go_meet
     case rel=>exact⟨_,_,_,_,_,_,HR.out.1,HR.out.2,T0.out,u2.out,hlen⟩
    ·have b3:((s.kind:Int)==3)=false:=beq_eq_false_iff_ne.2 (by omega)
     have b4:((s.kind:Int)==4)=true:=(by rw[j2];rfl)
     have u0:s.x<p.chans.length:=by rcases g0.out.1 with h|h|h|h<;>omega
     have D1:=Fl.chan_rng HP.out.lv u0;obtain⟨tn,S0⟩:∃tn:Nat,(p.chans.map λ(y:Nat)=>(y:Int)).getD s.x 0=(tn:Int):=⟨((p.chans.map λ(y:Nat)=>(y:Int)).getD s.x 0).toNat,by omega⟩;have E1:Hid (Xm p vs (s,(vn:Int))= !p.leq vn tn):=by
      show _=_;unfold Xm Fl.fitsM Fl.under;rw[if_pos (by simp only;omega)];simp only;rw[S0,Int.toNat_natCast,Int.toNat_natCast]
     have v2:=HP.out.below d0.out.wi.be;obtain⟨ha,hc,ehv,-,-,V2⟩:=v2.hi;obtain⟨hb,ho,rfl,-,X2⟩:=V2 (by intro hh;rw[List.map_eq_nil_iff]at hh;rw[hh]at u0;cases u0);have z1:=X2 s.x (by simpa using u0);rw[S0]at z1 D1;have z0:=v2.p3;rw[ehv,List.length_map]at z0;have B3:(s.x:Int)<(p.chans.length:Int):=(by omega);have v0:Hid (f s=[(s,(vn:Int))]):=J0.out.trans (if_pos (.inr j2));have T0:=Zz ((K0.out.trans (if_neg (by omega))).trans (if_neg (by omega)));have A3:(tn:Int)<(p.n:Int):=D1.2;have p2:tn<p.n:=(by omega);generalize p.chans.length=cl at*;clear J0 K0 S0 u0 v2 V2 X2 ehv j2
     go_wp2_with fail
     refine Uv [] (by kernel_rfl) (by kernel_rfl) (by kernel_rfl) (λops _=>?_)
     iterate 9 still_step
     refine wpStill_nil ?_;obtain⟨W5,z2⟩:=nmE (W4.drew);rw[<-z2];have r0:Hid (Bq W4 W5):=(by rw[z2];exact dA);clear z2 z0 z1 B3;have U0:=Zz (HP.out.below (d0.out.below r0.out).wi.be);have p1:=U0.out.p1;have q1:=U0.out.lq.c vn j1;have q2:=U0.out.lq.r vn tn j1 p2;have e0:=Zz (d0.out.below r0.out);have b0:=Zz (C1.out.below r0.out);have x1:W5.cell? (Aq sb 1)=some (Iq s.x):=(f0.out.below r0.out).cell rfl;have x2:W5.cell? (Aq sb 2)=some (Iq s.line):=(f0.out.below r0.out).cell rfl;have m2:W5.cell? (Aq mb 2)=some (Iq 0):=b0.out.cell rfl;have m3:W5.cell? (Aq mb 3)=some (Iq 0):=b0.out.cell rfl;have n2:W5.frozen? (Aq mb 2)=false:=b0.out.free 2;have n3:W5.frozen? (Aq mb 3)=false:=b0.out.free 3;have t2:sb≠mb:=(by have:=R0.out.2;omega)
     cases hq:p.leq vn tn
     ·have HE:Hid (∀V,Bq W5 V->zvv w0 w Xb (.slice la ln lc) wv ls acc lvs fin res (.returned (.tuple #[Iq 0,Iq s.line])) V):=λV hV=>⟨_,_,_,(e0.out.below hV).wi,(e0.out.below hV).st,.inl ⟨(s,(vn:Int)),b1.out _ (by rw[v0.out,List.find?_cons_of_pos (by rw[E1.out,hq];rfl)]),rfl⟩⟩
      rw[hq]at q2;clear q0
      go_wp2_with fail
      refine Uv [] (by kernel_rfl) (by kernel_rfl) (by kernel_rfl) (λops _=>?_)
      iterate 4 still_step
      refine wpStill_nil ?_;go_wp2;refine bodyPost_ret (v:=.tuple #[Iq 0,Iq s.line]) (by simp[results,results31,go_sem]) rfl ?_;exact HE.out _ dA
     have HR:=Zz (q0.out W5 _ _ _ _ _ _ e0.out b0.out s.x rv.1);rw[hq]at q2
     have u2:Hid (∀m∈f s,Xm p vs m=false):=λm hm=>by
      rw[v0.out,List.mem_singleton]at hm;rw[hm,E1.out,hq];rfl
     have hlen:rv.2.length<=200:=(by have:=u1.out;have:=v1.out;omega);clear q0
     go_wp2_with fail
     go_meet
     case rel=>exact⟨_,_,_,_,_,_,HR.out.1,HR.out.2,T0.out,u2.out,hlen⟩
    ·have b3:((s.kind:Int)==3)=false:=beq_eq_false_iff_ne.2 (by omega)
     have b4:((s.kind:Int)==4)=false:=beq_eq_false_iff_ne.2 (by omega);have b5:((s.kind:Int)==5)=true:=(by rw[S1];rfl);have y8:W4.cell? (Aq sb 8)=some (.slice ba bn bc):=f0.out.cell rfl;have l0:Hid (f s=Fl.moves p vs d s.body vn++Fl.moves p vs d s.other vn):=(J0.out.trans (if_neg (by omega))).trans (if_pos (by omega));have V0:=Zz (K0.out.trans (if_pos S1));have C3:=v1.out;have D3:=u1.out;have F0:=Zz (G1.out W4 _ _ _ _ s.body vn d0.out.wi g0.out.2.2.2.2.2.2.1 (by rw[<-o0.out];exact g0.out.2.1) g0.out.2.2.2.2.1 d1.out.2 (by omega));have E3:=Fl.zblock_len p vs d rv.2 s.body vn;rw[<-o0.out]at F0;have A2:Hid (∀m,(Fl.moves p vs d s.body vn).find? (Xm p vs)=some m->0<m.1.line):=λm hm=>Fl.moves_line d _ _ g0.out.2.2.2.2.1 m (List.mem_of_find?_eq_some hm);generalize Fl.wBlock p vs d rv.2 s.body vn=r1 at*;have F3:=Zz S1;clear J0 K0 S1
     go_wp2_with fail
     refine F0.out.mono ?_;rintro e4 W5 ⟨wv5,ac5,lvs5,s0,k0,i0⟩;rcases i0 with⟨m,hF,rfl⟩|⟨hF,rfl,rfl,L0⟩
     ·have Y2:(0:Int)<(m.1.line:Int):=by have:=A2.out m hF;omega
      have HE:Hid (zvv w0 w Xb (.slice la ln lc) wv ls acc lvs fin res (.returned (.tuple #[Iq 0,Iq m.1.line])) W5):=⟨_,_,_,s0,d0.out.st.trans k0,.inl ⟨m,b1.out m (by rw[l0.out,List.find?_append,hF];rfl),rfl⟩⟩;clear hF s0 k0 F0 q0;generalize m.1.line=mline at*;go_wp2;refine bodyPost_ret (v:=.tuple #[Iq 0,Iq mline]) (by simp[results,results31,go_sem]) rfl ?_;exact HE.out
     have e0:=Zz (d0.out.call s0 k0 L0);have b0:=Zz (C1.out.step k0);have G0:=Zz (f0.out.step k0);have x0:W5.cell? (Aq sb 0)=some (Iq s.kind):=G0.out.cell rfl;have m2:W5.cell? (Aq mb 2)=some (Iq 0):=b0.out.cell rfl;have m3:W5.cell? (Aq mb 3)=some (Iq 0):=b0.out.cell rfl;have n2:W5.frozen? (Aq mb 2)=false:=b0.out.free 2;have n3:W5.frozen? (Aq mb 3)=false:=b0.out.free 3;have t2:sb≠mb:=(by have:=R0.out.2;omega);have HR:=Zz (q0.out W5 _ _ _ _ _ _ e0.out b0.out rv.1 r1.1)
     have T1:Hid (∀m∈Fl.moves p vs d s.body vn,Xm p vs m=false):=λm hm=>by
      have:=List.find?_eq_none.1 hF m hm;simpa using this
     clear hF s0 k0 L0 F0 q0;obtain⟨W6,H0⟩:=nmE ((W5.setCell (Aq mb 2) (Iq rv.1)).setCell (Aq mb 3) (Iq r1.1));have x9:W5.cell? (Aq sb 9)=some (.slice oa on oc):=G0.out.cell rfl;rw[<-H0]at HR;have U1:=Zz (G1.out W6 _ _ _ _ s.other vn HR.out.1.wi g0.out.2.2.2.2.2.2.2 (by rw[<-o0.out];exact g0.out.2.2.1) g0.out.2.2.2.2.2.1 d1.out.2 (by omega));have a1:=Fl.zblock_len p vs d r1.2 s.other vn;rw[<-o0.out]at U1;have B2:Hid (∀m,(Fl.moves p vs d s.other vn).find? (Xm p vs)=some m->0<m.1.line):=λm hm=>Fl.moves_line d _ _ g0.out.2.2.2.2.2.1 m (List.mem_of_find?_eq_some hm);generalize Fl.wBlock p vs d r1.2 s.other vn=r2 at*
     go_wp2_with fail
     rw[<-H0];clear H0 x0 x9 m2 m3 n2 n3;refine U1.out.mono ?_;rintro e5 W7 ⟨wv7,ac7,lvs7,X0,F1,i0⟩;rcases i0 with⟨m,hF,rfl⟩|⟨hF,rfl,rfl,Z2⟩
     ·have Y2:(0:Int)<(m.1.line:Int):=by have:=B2.out m hF;omega
      have HE:Hid (zvv w0 w Xb (.slice la ln lc) wv ls acc lvs fin res (.returned (.tuple #[Iq 0,Iq m.1.line])) W7):=⟨_,_,_,X0,HR.out.1.st.trans F1,.inl ⟨m,b1.out m (by rw[l0.out,List.find?_append,List.find?_eq_none.2 (λq hq=>by rw[T1.out q hq];simp),hF];rfl),rfl⟩⟩;clear hF X0 F1 U1;generalize m.1.line=mline at*;go_wp2;refine bodyPost_ret (v:=.tuple #[Iq 0,Iq mline]) (by simp[results,results31,go_sem]) rfl ?_;exact HE.out
     have C2:=Zz (HR.out.1.call X0 F1 Z2);have I0:=Zz (HR.out.2.step F1);have m4:W7.cell? (Aq mb 4)=some (Iq 0):=I0.out.cell rfl;have n4:W7.frozen? (Aq mb 4)=false:=I0.out.free 4;have a3:Hid (zz6 w0 w (W7.setCell (Aq mb 4) (Iq r2.1)) Xb nb (.slice la ln lc) wv wv7 ls u acc lvs ns r2.2 lvs7 l5/\Pv Xb (W7.setCell (Aq mb 4) (Iq r2.1)) wv7 mb (.cells #[Iq s.kind,Iq u,Iq rv.1,Iq r1.1,Iq r2.1,Zq] 92 (0,0))):=⟨C2.out.set I0.out R0.out.1 4 _,I0.out.set 4 (Iq r2.1) rfl⟩
     have D2:Hid (∀m∈f s,Xm p vs m=false):=λm hm=>by
      rw[l0.out,List.mem_append]at hm;rcases hm with hm|hm
      ·exact T1.out m hm
      have:=List.find?_eq_none.1 hF m hm;simpa using this
     have E2:r2.2.length<=200:=(by omega);clear hF X0 F1 Z2 U1
     go_wp2_with fail
     go_meet
     case rel=>exact⟨_,_,_,_,_,_,a3.out.1,a3.out.2,V0.out.trans (by rw[F3.out];rfl),D2.out,E2⟩
    have b3:((s.kind:Int)==3)=false:=beq_eq_false_iff_ne.2 (by omega);have b4:((s.kind:Int)==4)=false:=beq_eq_false_iff_ne.2 (by omega);have b5:((s.kind:Int)==5)=false:=beq_eq_false_iff_ne.2 (by omega);have y8:W4.cell? (Aq sb 8)=some (.slice ba bn bc):=f0.out.cell rfl;have l0:Hid (f s=Fl.moves p vs d s.body vn++Fl.moves p vs d s.other vn):=(J0.out.trans (if_neg (by omega))).trans (if_pos (by omega));have V0:=Zz ((K0.out.trans (if_neg (by omega))).trans (if_pos l2));have C3:=v1.out;have D3:=u1.out;have F0:=Zz (G1.out W4 _ _ _ _ s.body vn d0.out.wi g0.out.2.2.2.2.2.2.1 (by rw[<-o0.out];exact g0.out.2.1) g0.out.2.2.2.2.1 d1.out.2 (by omega));have E3:=Fl.zblock_len p vs d rv.2 s.body vn;rw[<-o0.out]at F0;have A2:Hid (∀m,(Fl.moves p vs d s.body vn).find? (Xm p vs)=some m->0<m.1.line):=λm hm=>Fl.moves_line d _ _ g0.out.2.2.2.2.1 m (List.mem_of_find?_eq_some hm);generalize Fl.wBlock p vs d rv.2 s.body vn=r1 at*;have G3:=Zz l2
    have F2:Hid (s.other=[]):=by rcases g0.out.1 with e|e|e|e<;>first|omega|exact e.2
    clear J0 K0 l2
    go_wp2_with fail
    refine F0.out.mono ?_;rintro e4 W5 ⟨wv5,ac5,lvs5,s0,k0,i0⟩;rcases i0 with⟨m,hF,rfl⟩|⟨hF,rfl,rfl,L0⟩
    ·have Y2:(0:Int)<(m.1.line:Int):=by have:=A2.out m hF;omega
     have HE:Hid (zvv w0 w Xb (.slice la ln lc) wv ls acc lvs fin res (.returned (.tuple #[Iq 0,Iq m.1.line])) W5):=⟨_,_,_,s0,d0.out.st.trans k0,.inl ⟨m,b1.out m (by rw[l0.out,List.find?_append,hF];rfl),rfl⟩⟩;clear hF s0 k0 F0 q0;generalize m.1.line=mline at*;go_wp2;refine bodyPost_ret (v:=.tuple #[Iq 0,Iq mline]) (by simp[results,results31,go_sem]) rfl ?_;exact HE.out
    have e0:=Zz (d0.out.call s0 k0 L0);have b0:=Zz (C1.out.step k0);have G0:=Zz (f0.out.step k0);have x0:W5.cell? (Aq sb 0)=some (Iq s.kind):=G0.out.cell rfl;have m2:W5.cell? (Aq mb 2)=some (Iq 0):=b0.out.cell rfl;have m3:W5.cell? (Aq mb 3)=some (Iq 0):=b0.out.cell rfl;have n2:W5.frozen? (Aq mb 2)=false:=b0.out.free 2;have n3:W5.frozen? (Aq mb 3)=false:=b0.out.free 3;have t2:sb≠mb:=(by have:=R0.out.2;omega);have HR:=Zz (q0.out W5 _ _ _ _ _ _ e0.out b0.out rv.1 r1.1)
    have T1:Hid (∀m∈Fl.moves p vs d s.body vn,Xm p vs m=false):=λm hm=>by
     have:=List.find?_eq_none.1 hF m hm;simpa using this
    clear hF s0 k0 L0 F0 q0
    have D2:Hid (∀m∈f s,Xm p vs m=false):=λm hm=>by
     rw[l0.out,F2.out,List.mem_append]at hm;rcases hm with hm|hm
     ·exact T1.out m hm
     cases d<;>cases hm
    have E2:r1.2.length<=200:=(by omega)
    go_wp2_with fail
    go_meet
    case rel=>exact⟨_,_,_,_,_,_,HR.out.1,HR.out.2,V0.out.trans (by rw[G3.out];rfl),D2.out,E2⟩
   case rest=>
    obtain⟨wv4,ac4,lvs4,a4,b4,c4,G2,M0,hst,hall,hlen⟩:=hcut;have e0:=Zz G2;have b0:=Zz M0;have m0:wc.cell? (Aq mb 0)=some (Iq s.kind):=M0.cell rfl;have m1:wc.cell? (Aq mb 1)=some (Iq u):=M0.cell rfl;have m2:wc.cell? (Aq mb 2)=some (Iq a4):=M0.cell rfl;have m3:wc.cell? (Aq mb 3)=some (Iq b4):=M0.cell rfl;have m4:wc.cell? (Aq mb 4)=some (Iq c4):=M0.cell rfl;have m5:wc.cell? (Aq mb 5)=some Zq:=M0.cell rfl;have N0:Hid (Cq 62 #[Pq Xb,.agg #[Iq s.kind,Iq u,Iq a4,Iq b4,Iq c4,Zq]] wc (Vt (λ_=>False) w0 wc Xb (.slice la ln lc) wv4 ls ac4 lvs4 (St ac s))):=by
     rw[hst];exact(zt7 (nd:=⟨s.kind,u,a4,b4,c4,[]⟩) (lvn:=Zq) G2.wi (Zw.nil _ _) (λhn=>absurd rfl hn) (by omega)).mono λe w' he=>he.up (Below.refl _ _) (λq hq=>by rw[hq])
    have H3:=Zz (O2.out hall);clear G2 M0 hst hall hlen O2 b1 G1 g0 f0 C1 d0 v1 u1 d1 y0
    go_wp2_with fail
    refine N0.out.mono ?_;rintro e4 W5 ⟨rfl,wv5,lvs5,s0,k0,L0⟩;have j0:=Zz (e0.out.call s0 k0 L0);obtain⟨l5a,l5c,Y0⟩:∃la lc,l5=.slice la ns.length lc:=by
     rcases id j0.out.ow.2 with⟨rfl,h0⟩|⟨g,cp,cur,rfl,-⟩
     ·exact⟨none,0,by rw[h0]⟩
     exact⟨_,cp,rfl⟩
    subst Y0;have n5:W5.cell? (Aq nb 5)=some (.slice l5a ns.length l5c):=j0.out.nd.cell rfl;obtain⟨m,hm⟩:=nmE ((St ac s).1);rw[<-hm];obtain⟨W6,H0⟩:=nmE (W5.alloc (.cells #[Iq m] 3));have H2:Hid (Bq W5 W6):=(by show Below _ _ _;rw[H0];exact bA);have tc:∀j u,([Iq m]:List Value)[j]?=some u->W6.cell? (((Aq W5.heap.size 0):Addr).add j)=some u:=(by rw[H0];exact zsx (w:=W5) (l:=[Iq m]));have S3:W5.heap.size+1=W6.heap.size:=(by rw[H0];simp);have I2:Hid (W6.ownsRow (nb+1) 3 1 (.slice l5a ns.length l5c) ns.length (ns.map (Value.int .i64))):=Je j0.out.ow H2.out;have T3:nb+1<=W6.heap.size:=(by have:=j0.out.nd.lt;omega);obtain⟨i1,I3,J3,K3,L3⟩:=info_parts Tryz.infoIntW;have HM:=Zz hm;clear s0 k0 L0 N0 e0 b0 m0 m1 m2 m3 m4 m5 hm
    go_wp2_with (at_builtin;rw[<-H0];refine Zn _ rfl (.tmp 134) (.tmp 136) 27 rfl (nb+1) 3 i1 (Iq 0) 1 8 underlying27 I3 J3 K3 L3 rfl (by decide) _ _ _ rfl I2.out (Aq W5.heap.size 0) 1 1 [Iq m] rfl rfl (by decide) tc (by intro u hu;simp at hu;subst hu;rfl) (by unfold maxLen;omega) (by omega) (by omega) ?_)
    intro v' W7 A0 J2 X0;obtain⟨g7,k7,rfl⟩:∃g7 k7,v'=.slice (some (Aq g7 0)) (ns.length+1) k7:=by
     rcases A0.2 with⟨h1,h2⟩|⟨g7,cp,cur,h1,_⟩
     ·omega
     exact⟨g7,cp,h1⟩
    have K2:=Zz (j0.out.next H2.out A0 J2 X0);have L2:W7.heap[nb]?=some (.cells #[Iq 7,Iq u,Iq 0,Iq 0,Iq 0,.slice l5a ns.length l5c] 92 (0,0)):=(J2.block nb (by omega) (λhh=>by have:=(I2.out.lt nb hh.symm).1;omega)).trans ((H2.out.block nb j0.out.nd.lt).trans j0.out.nd.h);have c7:W7.cell? (Aq nb 5)=some (.slice l5a ns.length l5c):=(by simp only[World.cell?,L2];rfl);have f7:W7.frozen? (Aq nb 5)=false:=(by simp[World.frozen?,L2]);clear A0 J2 X0 L2 tc n5 H0 I2 j0;go_wp2
    go_roundw
    case rel=>exact⟨k+1,_,_,_,by omega,by go_num,by rw[N2.out,<-HM.out];exact K2.out,H3.out⟩
    case measure=>simp[intOf];omega
  have v3:¬(k:Int)<(n:Int):=(by omega)
  obtain rfl:k=n:=by omega
  have M3:Hid (fin=none):=by
   show _=_;rw[P0.out.2];refine List.find?_eq_none.2 (λm hm=>?_);have h9:=J1.out m (by rw[u3.out];exact hm);rw[h9];simp
  have d3:=Zz P0.out.1;generalize Fl.wAll St acc (l.take k)=E at*;obtain⟨ns,ac⟩:=E;simp only at a0 t1 d3;obtain⟨l5a,l5c,Y0⟩:∃la lc,l5=.slice la ns.length lc:=by
   rcases id a0.ow.2 with⟨rfl,h0⟩|⟨g,cp,cur,rfl,-⟩
   ·exact⟨none,0,by rw[h0]⟩
   exact⟨_,cp,rfl⟩
  subst Y0;have B0:=Zz a0;have n0:wr.cell? (Aq nb 0)=some (Iq 7):=a0.nd.cell rfl;have n1:wr.cell? (Aq nb 1)=some (Iq u):=a0.nd.cell rfl;have n2:wr.cell? (Aq nb 2)=some (Iq 0):=a0.nd.cell rfl;have n3:wr.cell? (Aq nb 3)=some (Iq 0):=a0.nd.cell rfl;have n4:wr.cell? (Aq nb 4)=some (Iq 0):=a0.nd.cell rfl;have n5:wr.cell? (Aq nb 5)=some (.slice l5a ns.length l5c):=a0.nd.cell rfl;have N0:=Zz (zt7 (nd:=⟨7,u,0,0,0,ns⟩) (lvn:=.slice l5a ns.length l5c) a0.wi (zl1 a0.ow) (λhn b hb=>⟨by have:=(a0.ow.lt b hb).1;have:=a0.nd.x;omega,λhh=>zxw a0.wi.ow b hh.symm (Vp a0.ow b hb).2,(Vp a0.ow b hb).2⟩) (by omega));unfold ndV at N0;rw[<-d3.out]at N0;simp only at N0;clear a0
  go_wp2_with fail
  refine N0.out.mono ?_;rintro e1 W1 ⟨rfl,wv1,lvs1,h3,i3,j3⟩;have HE:Hid (zvv w0 w Xb (.slice la ln lc) wv ls acc lvs fin res (.returned (.tuple #[Iq res.1,Iq 0])) W1):=by
   refine⟨wv1,res.2,lvs1,h3,B0.out.st.trans i3,.inr ⟨M3.out,rfl,rfl,λq hq=>?_⟩⟩;rcases j3 q hq with h5|h5|h5|h5
   ·exact B0.out.lo q h5
   ·refine .inr (.inr (.inr λb hb=>?_))
    rw[h5]at hb;have:=(B0.out.ow.lt b hb).1;have:=B0.out.nw;omega
   ·exact .inr (.inr (.inl h5))
   exact .inr (.inr (.inr λb hb=>Nat.le_trans B0.out.st.sz (h5 b hb)))
  clear h3 i3 j3 N0;go_wp2;refine bodyPost_ret (v:=.tuple #[Iq res.1,Iq 0]) (by simp[results,results31,go_sem]) rfl ?_;exact HE.out
end
section
variable{wv:Value}{acc:List Fl.Node}{lvs:List Value}
def yr7:zi9 w0 Pb Xb lv ls p 0:=by
 intro w wv acc lvs v l u hw hs ho f0 hu g0;obtain⟨rfl,rfl⟩:=hs;have HP:Hid (∀V,Bq w V->Cq 62 #[Pq Xb,.agg #[Iq 7,Iq u,Iq 0,Iq 0,Iq 0,Zq]] V (Vt (λ_=>False) w0 w Xb lv wv ls acc lvs (Fl.wBlock p (Fl.vars p ls) 0 acc [] u))):=λV hV=>(zt7 (nd:=⟨7,u,0,0,0,[]⟩) (lvn:=Zq) (hw.below hV) (Zw.nil _ _) (λhn=>absurd rfl hn) (by omega)).mono λe w' he=>he.up hV (λq hq=>by rw[hq]);generalize Fl.wBlock p (Fl.vars p ls) 0 acc [] u=res at*;have HM:Hid ((Fl.moves p (Fl.vars p ls) 0 [] u).find? (Xm p (Fl.vars p ls))=none):=rfl;generalize (Fl.moves p (Fl.vars p ls) 0 [] u).find? (Xm p (Fl.vars p ls))=fin at*;clear hw ho f0 hu g0
 go_enter func31,ntmps31
 go_wp2_with fail
 obtain⟨W0,a0⟩:=nmE (w.alloc (.cells #[Iq 7,Iq u,Iq 0,Iq 0,Iq 0,Zq] 92))
 have h0:Hid (Bq w W0):=by show Below _ _ _;rw[a0];exact bA
 have n0:W0.cell? (Aq w.heap.size 0)=some (Iq 7):=by rw[a0];simp
 have n1:W0.cell? (Aq w.heap.size 1)=some (Iq u):=by rw[a0];simp
 have n2:W0.cell? (Aq w.heap.size 2)=some (Iq 0):=by rw[a0];simp
 have n3:W0.cell? (Aq w.heap.size 3)=some (Iq 0):=by rw[a0];simp
 have n4:W0.cell? (Aq w.heap.size 4)=some (Iq 0):=by rw[a0];simp
 have n5:W0.cell? (Aq w.heap.size 5)=some Zq:=by rw[a0];simp
 rw[<-a0];clear a0
 go_loopw [11] (λi wr=>i=Iq 0/\wr=W0) (λ_ _=>0)
 case atStart=>exact⟨rfl,rfl⟩
 case round=>
  obtain⟨rfl,b0⟩:=hrel;rw[b0];clear b0
  go_wp2_with fail
  refine(HP.out _ h0.out).mono ?_;rintro e1 W1 ⟨rfl,wv1,lvs1,c0,d0,e0⟩;have HE:Hid (zvv w0 w Xb lv wv ls acc lvs fin res (.returned (.tuple #[Iq res.1,Iq 0])) W1):=⟨wv1,res.2,lvs1,c0,d0,.inr ⟨HM.out,rfl,rfl,e0⟩⟩;clear c0 d0 e0 HP;go_wp2;refine bodyPost_ret (v:=.tuple #[Iq res.1,Iq 0]) (by simp[results,results31,go_sem]) rfl ?_;exact HE.out
def ze5(hp:zy2 w0 Pb Lq rb clv hv bv p)(ok:Fl.LvOk p (Fl.vars p ls))(h4:ls.length<=4):∀d,zi9 w0 Pb Xb lv ls p d
 |0=>yr7
 |d+1=>yr6 hp ok h4 d (ze5 hp ok h4 d)
def Xs.ret(h:Xs w0 w Xb lv wv ls acc lvs){R:Nat}(hR:R<Xb)(u u':Value):
  Zw ((w.setCell (Aq R 0) u).setCell (Aq R 1) u').heap.size ((w.setCell (Aq R 0) u).setCell (Aq R 1) u') lv ls/\Yu ((w.setCell (Aq R 0) u).setCell (Aq R 1) u').heap.size ((w.setCell (Aq R 0) u).setCell (Aq R 1) u') wv acc:=by
 have hk:∀p,p∈(lv,ls)::Xo acc lvs->Zw ((w.setCell (Aq R 0) u).setCell (Aq R 1) u').heap.size ((w.setCell (Aq R 0) u).setCell (Aq R 1) u') p.1 p.2:=λp hp=>by
  have a0:p.2≠[]->p.1.ownBlock≠some R:=λhx hh=>by have:=((h.li p hp).2 hx R hh).1;omega
  exact zt0 (zt0 (h.li p hp).1.1 a0) a0
 refine⟨hk (lv,ls) (by simp),Ub (ownsRow_setCell_below (ownsRow_setCell_below h.ow (by show R<_;omega) u) (by show R<_;omega) u') h.hl (λi hi=>hk _ (by simp only[List.mem_cons];right;exact Jx acc lvs i h.hl hi))⟩
end
def yz5(p:Fl.Prog)(w:World)(e:Ending)(w':World):Prop:=
 Bq w w'/\∃la ln lc na nn nc,e=.returned (.tuple #[.agg #[.slice la ln lc,.slice na nn nc],Iq (Fl.infer p).1])/\((Fl.infer p).1=0->Zw w'.heap.size w' (.slice la ln lc) (Fl.infer p).2.1/\Yu w'.heap.size w' (.slice na nn nc) (Fl.infer p).2.2)
def ywy{B:Nat}(h:Zw B w lv ls):Fl.rk p (zvx w lv ls.length)=Fl.rk p ls:=by rw[zo1 h]
structure IfAt(w wr:World)(Rb Xb:Nat)(lv:Value)(ls:List Int):Prop where
 be:Bq w wr
 ow:wr.ownsRow (Xb+1) 3 1 lv ls.length (ls.map (Value.int .i64))
 r:wr.heap[Rb]?=some (.cells #[Zq,Zq] 30 (0,0))
 x:wr.heap[Xb]?=some (.cells #[lv,Zq] 30 (0,0))
def Ji{b:Nat}{o:Obj}(h:w.heap[b]?=some o):b<w.heap.size:=(Array.getElem?_eq_some_iff.1 h).1
def IfAt.next{W2 W3:World}{v':Value}{m:Int}(h:IfAt w wr Rb Xb lv ls)(hR:Rb<Xb)(hX:w.heap.size<=Xb)(hb:Bq wr W2)(ho:W3.ownsRow (Xb+1) 3 1 v' (ls.length+1) (ls.map (Value.int .i64)++[Iq m]))(hg:W2.grownBy W3 lv.ownBlock):IfAt w (W3.setCell (Aq Xb 0) v') Rb Xb v' (ls++[m]):=by
 have a0:∀g,lv.ownBlock=some g->Xb<g:=λg hh=>by have:=h.ow.lt g hh;omega
 have hs:=hb.size;have q:∀b,b<=Xb->b<wr.heap.size->W3.heap[b]?=wr.heap[b]?:=λb h1 h2=>(hg.block b (by omega) (λhh=>by have:=a0 b hh.symm;omega)).trans (hb.block b h2);have x3:=(q Xb (Nat.le_refl _) (Ji h.x)).trans h.x;refine⟨((h.be.trans (hb.mono h.be.size)).grown hg (by have:=h.be.size;omega) (λk hk=>by have:=a0 k hk;omega)).setCell hX _,?_,(Zx _ _ _ _ _ (by omega)).trans ((q Rb (by omega) (Ji h.r)).trans h.r),zz0 x3 0 v'⟩;rw[List.length_append,List.map_append];exact ownsRow_setCell_below ho (by simp) v'
section
def IfAt.rz(h:IfAt w wr Rb Xb lv ls)(hX:w.heap.size<=Xb)(hp:zy2 w Pb Lq rb clv hv bv p)(ok:Fl.LvOk p (Fl.vars p ls)):Jj w wr Pb Lq rb clv hv bv p lv ls:=
 ⟨hp,h.be,⟨h.ow.1,h.ow.2.imp id (λ⟨g,c,cur,e,hb,r⟩=>⟨g,c,cur,e,by omega,r⟩)⟩,ok⟩
def yx7(lv:p.Lv)(ho:p.Ok):Fl.LeV p (Fl.start p) (Fl.found p):=by
 obtain⟨h1,h2⟩:=Fl.found_ok lv ho;have h:=Fl.start_low (p:=p) lv (ls:=(Fl.found p).drop p.cells.length) (by rw[h2];exact h1);rw[h2]at h;exact h
def yr8(hp:zy2 w Pb Lq rb clv hv bv p)(T0:Fl.LPos 4 p.body)(U0:Fl.cnt 4 p.body<=16):Cq 10 #[Pq Pb] w (yz5 p w):=by
 have HP:=Zz hp;have I1:=hp.hz;obtain⟨Rb,A0⟩:=nmE (w.heap.size);obtain⟨Xb,B0⟩:=nmE (w.heap.size+1);have V0:Hid (∀V,Bq w V->Cq 29 #[Pq Pb] V λe w'=>e=.returned (Iq (Fl.low p))/\w'=V):=λV hV=>zm8 (hp.below hV);have I0:Hid (∀V,Bq w V->V.cell? (Aq Pb 4)=some (Iq p.locals)):=λV hV=>(hp.below hV).p4;obtain⟨W0,C0⟩:=nmE ((w.alloc (.cells #[Zq,Zq] 30)).alloc (.cells #[Zq,Zq] 30))
 have J0:Hid (Bq w W0):=by show Below _ _ _;rw[C0];exact bA.alloc (by simp) _
 have K0:Hid (W0.heap[Rb]?=some (.cells #[Zq,Zq] 30 (0,0))/\W0.heap[Xb]?=some (.cells #[Zq,Zq] 30 (0,0))):=by
  rw[C0,A0,B0];exact⟨by rw[Below.heap_alloc _ _ _ (by simp)];exact heap_alloc_last _ _,by rw[<-World.size_alloc w (.cells #[Zq,Zq] 30)];exact heap_alloc_last _ _⟩
 obtain⟨n,hn⟩:=nmE (p.locals)
 have J1:(n:Int)<=4:=by have:=hp.ok.lo;omega
 rw[<-hn]at I0;have HN:=Zz hn;have k0:Hid (Rb=w.heap.size/\Xb=w.heap.size+1):=⟨A0,B0⟩;have n0:Hid (Fl.LPos 4 p.body/\Fl.cnt 4 p.body<=16):=⟨T0,U0⟩;clear hp hn T0 U0
 go_enter func10,ntmps10
 go_wp2_with fail
 rw[<-C0,<-B0,<-A0];clear C0 A0 B0;refine(V0.out _ J0.out).mono ?_;rintro e1 W ⟨rfl,X0⟩;rw[X0];clear X0 V0;obtain⟨lo,hlo⟩:=nmE (Fl.low p);rw[<-hlo];have g0:=Zz hlo;have Y0:Hid (IfAt w W0 Rb Xb Zq []):=⟨J0.out,World.ownsRow_nil _ _ _ _,K0.out.1,K0.out.2⟩;clear hlo K0 J0
 go_wp2_with fail
 go_loopw [6] (λi wr=>∃(k:Nat) (lv:Value),k<=n/\i=Iq k/\IfAt w wr Rb Xb lv (List.replicate k lo)) (λi _=>n - (intOf i).toNat)
 case atStart=>exact⟨0,_,by omega,rfl,Y0.out⟩
 case round=>
  obtain⟨k,lv,hk,rfl,o0⟩:=hrel;have b0:=Zz o0;have p4:=I0.out wr o0.be;obtain⟨la,lc,D0⟩:∃la lc,lv=.slice la k lc:=by
   have h9:=o0.ow;rw[List.length_replicate]at h9;rcases id h9.2 with⟨rfl,h0⟩|⟨g,cp,cur,rfl,-⟩
   ·exact⟨none,0,by rw[h0]⟩
   exact⟨_,cp,rfl⟩
  subst D0;have x0:wr.cell? (Aq Xb 0)=some (.slice la k lc):=(by simp only[World.cell?,o0.x];rfl);clear o0
  by_cases K1:k<n
  ·have y1:(k:Int)<(n:Int):=by omega
   obtain⟨W2,p0⟩:=nmE (wr.alloc (.cells #[Iq lo] 3));have L0:Hid (Bq wr W2):=(by show Below _ _ _;rw[p0];exact bA);have tc:∀j u,([Iq lo]:List Value)[j]?=some u->W2.cell? (((Aq wr.heap.size 0):Addr).add j)=some u:=(by rw[p0];exact zsx (w:=wr) (l:=[Iq lo]));have M0:Hid (W2.ownsRow (Xb+1) 3 1 (.slice la k lc) k ((List.replicate k lo).map (Value.int .i64))):=by
    have h9:=Je b0.out.ow L0.out;rw[List.length_replicate]at h9;exact h9
   have L1:wr.heap.size+1=W2.heap.size:=(by rw[p0];simp);have z1:=Ji b0.out.x;obtain⟨i1,A1,B1,C1,D1⟩:=info_parts Tryz.infoIntW
   go_wp2_with (at_builtin;rw[<-p0];refine Zn _ rfl (.tmp 22) (.tmp 24) 27 rfl (Xb+1) 3 i1 (Iq 0) 1 8 underlying27 A1 B1 C1 D1 rfl (by decide) _ _ _ rfl M0.out (Aq wr.heap.size 0) 1 1 [Iq lo] rfl rfl (by decide) tc (by intro u hu;simp at hu;subst hu;rfl) (by unfold maxLen;omega) (by omega) (by omega) ?_)
   intro v' W3 d0 N0 E1;obtain⟨g3,k3,rfl⟩:∃g3 k3,v'=.slice (some (Aq g3 0)) (k+1) k3:=by
    rcases d0.2 with⟨h1,h2⟩|⟨g3,cp,cur,h1,_⟩
    ·omega
    exact⟨g3,cp,h1⟩
   have q0:=Zz (b0.out.next (by have:=k0.out;omega) (by have:=k0.out;omega) L0.out (by rw[List.length_replicate];exact d0) N0);have O0:W3.heap[Xb]?=some (.cells #[.slice la k lc,Zq] 30 (0,0)):=(N0.block Xb (by omega) (λhh=>by have:=(M0.out.lt Xb hh.symm).1;omega)).trans ((L0.out.block Xb z1).trans b0.out.x);have c3:W3.cell? (Aq Xb 0)=some (.slice la k lc):=(by simp only[World.cell?,O0];rfl);have f3:W3.frozen? (Aq Xb 0)=false:=(by simp[World.frozen?,O0]);rw[<-List.replicate_succ']at q0;clear d0 N0 E1 O0 tc p0 M0 p4 x0;go_wp2
   go_roundw
   case rel=>exact⟨k+1,_,by omega,by go_num,q0.out⟩
   case measure=>simp[intOf];omega
  have y1:¬(k:Int)<(n:Int):=(by omega)
  obtain rfl:k=n:=by omega
  obtain⟨W1,Z0⟩:=nmE (wr);rw[<-Z0]at b0 p4 x0⊢;clear Z0;have a1:Hid (Fl.LvOk p (Fl.vars p (List.replicate k lo))):=(by rw[g0.out,HN.out];exact Jo HP.out.lv);have a0:=Zz (b0.out.rz (by have:=k0.out;omega) HP.out a1.out)
  have P0:Hid (∀V,Yk W1 V (.slice la k lc)->V.heap[Xb]?=some (.cells #[.slice la k lc,Zq] 30 (0,0))/\V.heap[Rb]?=some (.cells #[Zq,Zq] 30 (0,0))):=λV hV=>by
   have D0:∀g,(Value.slice la k lc).ownBlock=some g->Xb<g:=λg hh=>by have:=b0.out.ow.lt g hh;omega
   have E0:=k0.out;exact⟨(hV.bl Xb (Ji b0.out.x) (λhh=>by have:=D0 Xb hh.symm;omega)).trans b0.out.x,(hV.bl Rb (Ji b0.out.r) (λhh=>by have:=D0 Rb hh.symm;omega)).trans b0.out.r⟩
  have F1:Hid (∀g,(Value.slice la k lc).ownBlock=some g->Xb<g):=λg hh=>by have:=b0.out.ow.lt g hh;omega
  obtain⟨J,hJ⟩:=nmE (α:=Value->World->Prop) (λm wr=>∃(b:Bool) (ls:List Int),m=.bool b/\ls.length=k/\Jj w wr Pb Lq rb clv hv bv p (.slice la k lc) ls/\Fl.LeV p (Fl.start p) (Fl.vars p ls)/\Fl.LeV p (Fl.vars p ls) (Fl.found p)/\(b=false->ls=(Fl.found p).drop p.cells.length)/\Yk W1 wr (.slice la k lc));obtain⟨μ,hμ⟩:∃μ:Value->World->Nat,μ=λm wr=>match m with
   | .bool true=>1+Fl.rk p (zvx wr (.slice la k lc) k)
   |_=>0:=⟨_,rfl⟩
  have HJ:=Zz hJ;have HM:=Zz hμ;have G1:Hid (J (.bool true) W1):=by
   rw[hJ];exact⟨true,List.replicate k lo,rfl,by simp,a0.out,by rw[g0.out,HN.out];exact Fl.LeV.refl HP.out.lv (Jo HP.out.lv),by rw[g0.out,HN.out];exact yx7 HP.out.lv HP.out.ok,λh=>(by cases h),Yk.of_below (Below.refl _ _)⟩
  clear hJ hμ b0 a0 a1 Y0
  go_wp2_with fail
  clear p4 x0 I0
  go_loopw [7] (λm wr=>J m wr) (λm wr=>μ m wr)
  case atStart=>exact G1.out
  case round=>
   rw[HJ.out]at hrel;obtain⟨b,ls,rfl,b1,F0,h1,h2,h3,hst⟩:=hrel;have a0:=Zz F0;have G0:Hid (Fl.LeV p (Fl.start p) (Fl.vars p ls)/\Fl.LeV p (Fl.vars p ls) (Fl.found p)/\(b=false->ls=(Fl.found p).drop p.cells.length)):=⟨h1,h2,h3⟩;have H0:=Zz hst;have d1:=Zz b1;clear F0 h1 h2 h3 hst b1
   cases b
   ·have Q0:=G0.out.2.2 rfl
    have j1:Hid (Fl.vars p ls=Fl.found p/\ls=(Fl.found p).drop p.cells.length):=⟨by rw[Q0];exact(Fl.found_ok HP.out.lv HP.out.ok).2,Q0⟩;obtain⟨qx,qr⟩:=P0.out wr H0.out;have E0:=k0.out;have k1:Hid (Xs w wr Xb (.slice la k lc) Zq ls [] []):=by
     refine⟨by omega,Ji qx,by simp only[World.cell?,qx];rfl,by simp only[World.cell?,qx];rfl,λj=>by simp[World.frozen?,qx],rfl,World.ownsRow_nil _ _ _ _,λq hq=>?_,a0.out.be⟩
     obtain rfl:q=(.slice la k lc,ls):=by simpa [Xo] using hq
     refine⟨⟨a0.out.ints,λhx=>?_⟩,λhx b hb=>⟨F1.out b hb,(Vp a0.out.ow b hb).2⟩⟩;obtain⟨ao,cp,e,-,-,h9⟩:=a0.out.ints;obtain⟨g,off,e2,-,-⟩:=h9 hx;rw[e,e2];simp[Value.ownBlock]
    have s0:=Zz (ze5 (Xb:=Xb) (lv:=.slice la k lc) HP.out a0.out.ok a0.out.len.2 4 wr _ [] [] bv p.body lo k1.out HP.out.bs (by rw[a0.out.ok.1];exact HP.out.ok.body) n0.out.1 (by rw[g0.out];exact HP.out.lv.low) (by have:=n0.out.2;simp only[List.length_nil];omega));have p5:=(a0.out.pin).p5;obtain⟨va,vn,vc,l0⟩:=HP.out.bs.slice;rw[l0]at p5 s0;rw[j1.out.1,g0.out]at s0;rw[<-g0.out]at s0
    have l1:Hid (∀F r,(Fl.moves p (Fl.found p) 4 p.body lo).find? (Xm p (Fl.found p))=F->Fl.wBlock p (Fl.found p) 4 [] p.body lo=r->(∀m,F=some m->(Fl.infer p).1=m.1.line/\0<m.1.line)/\(F=none->Fl.infer p=(0,ls,r.2))):=λF r hF hr=>by
     rw[g0.out]at hF hr;refine⟨λm hm=>?_,λhn=>?_⟩
     ·rw[hm]at hF
      have hl:=Fl.moves_line 4 _ _ n0.out.1 m (List.mem_of_find?_eq_some hF);have hd:Fl.firstDown p (Fl.found p)=m.1.line:=by
       unfold Fl.firstDown;rw[show (Fl.moves p (Fl.found p) 4 p.body (Fl.low p)).find? (λm=> !Fl.fitsM p (Fl.found p) m)=some m from hF]
      refine⟨?_,hl⟩;unfold Fl.infer;rw[if_pos (by rw[hd];exact hl),hd]
     rw[hn]at hF;have hd:Fl.firstDown p (Fl.found p)=0:=by
      unfold Fl.firstDown;rw[show (Fl.moves p (Fl.found p) 4 p.body (Fl.low p)).find? (λm=> !Fl.fitsM p (Fl.found p) m)=none from hF]
     unfold Fl.infer;rw[if_neg (by rw[hd];omega),hr,<-j1.out.2]
    generalize hF:(Fl.moves p (Fl.found p) 4 p.body lo).find? (Xm p (Fl.found p))=F at*;generalize hr:Fl.wBlock p (Fl.found p) 4 [] p.body lo=r at*;have R0:=Zz (l1.out F r rfl rfl);have m1:=Zz qr;clear Q0 qx qr l0 hF hr l1 G0 k1 E0
    go_wp2_with fail
    refine s0.out.mono ?_;rintro e5 W5 ⟨wv5,ac5,lvs5,m0,n1,j0⟩;obtain⟨-,na,nn,nc,rfl⟩:=m0.sl;have E0:=k0.out;have F0:Rb<wr.heap.size:=Ji m1.out;have q5:W5.heap[Rb]?=some (.cells #[Zq,Zq] 30 (0,0)):=(n1.bl Rb F0 (by omega) (by omega) (by simp[Value.ownBlock])).trans m1.out;have r0:W5.cell? (Aq Rb 0)=some Zq:=(by simp only[World.cell?,q5];rfl);have r1:W5.cell? (Aq Rb 1)=some Zq:=(by simp only[World.cell?,q5];rfl);have f0:W5.frozen? (Aq Rb 0)=false:=(by simp[World.frozen?,q5]);have f1:W5.frozen? (Aq Rb 1)=false:=(by simp[World.frozen?,q5]);have x0:=m0.c0;have x1:=m0.c1;have M1:Rb≠Xb:=(by omega);have o1:=Zz (m0.ret (R:=Rb) (by omega) (.slice la k lc) (.slice na nn nc));have S0:Hid (Bq w ((W5.setCell (Aq Rb 0) (.slice la k lc)).setCell (Aq Rb 1) (.slice na nn nc))):=(m0.be.setCell (by show w.heap.size<=Rb;omega) _).setCell (by show w.heap.size<=Rb;omega) _;have HE:Hid (∃line:Nat,e5=.returned (.tuple #[Iq (if F=none then r.1 else 0),Iq line])/\yz5 p w (.returned (.tuple #[.agg #[.slice la k lc,.slice na nn nc],Iq line])) ((W5.setCell (Aq Rb 0) (.slice la k lc)).setCell (Aq Rb 1) (.slice na nn nc))):=by
     rcases j0 with⟨m,h1,rfl⟩|⟨h1,rfl,rfl,-⟩
     ·obtain⟨g1,g2⟩:=R0.out.1 m h1
      exact⟨m.1.line,by rw[if_neg (by rw[h1];simp)],S0.out,_,_,_,_,_,_,by rw[g1],λh0=>(by omega)⟩
     have g1:=R0.out.2 h1;exact⟨0,by rw[if_pos h1];rfl,S0.out,_,_,_,_,_,_,by rw[g1],λ_=>by rw[g1];exact o1.out⟩
    obtain⟨line,rfl,he⟩:=HE.out;have H1:=Zz he;clear he HE o1 S0 m0 n1 j0 q5 s0 R0 E0;generalize (if F=none then r.1 else 0)=idx;go_wp2;have e0:((W5.setCell (Aq Rb 0) (.slice la k lc)).setCell (Aq Rb 1) (.slice na nn nc)).cell? (Aq Rb 0)=some (.slice la k lc):=(Qg _ _ _ _ (by simp)).trans (World.cell?_setCell_same' _ _ _ (by simp[r0]));have e1:((W5.setCell (Aq Rb 0) (.slice la k lc)).setCell (Aq Rb 1) (.slice na nn nc)).cell? (Aq Rb 1)=some (.slice na nn nc):=World.cell?_setCell_same' _ _ _ ((congrArg Option.isSome (Qg _ _ _ _ (by simp))).trans (by simp[r1]));exact bodyPost_ret (v:=.tuple #[.agg #[.slice la k lc,.slice na nn nc],Iq line]) (by simp[results,results10,go_sem,e0,e1]) rfl H1.out
   obtain⟨r,hr⟩:=nmE (Fl.rz p 4 p.body lo ls);have t0:=Zz (Fl.rz_next HP.out.lv HP.out.ok n0.out.1 a0.out.ok G0.out.1 G0.out.2.1 (r:=r) (by rw[hr,g0.out]))
   have HS:Hid (∀V,Bq wr V->V.cell? (Aq Xb 0)=some (.slice la k lc)/\V.cell? (Aq Xb 1)=some Zq/\V.cell? (Aq Pb 5)=some bv):=λV hV=>by
    obtain⟨q1,-⟩:=P0.out V (H0.out.trans (Yk.of_below hV));exact⟨by simp only[World.cell?,q1];rfl,by simp only[World.cell?,q1];rfl,((a0.out.below hV).pin).p5⟩
   have p1:Hid (∀V,Bq wr V->Cq 30 #[Pq Pb,.agg #[.slice la k lc,Zq],bv,Iq lo] V (zn4 w V Pb Lq rb clv hv bv p (.slice la k lc) r)):=λV hV=>by
    rw[hr];exact zi8 4 V ls bv p.body lo (a0.out.below hV) HP.out.bs (by rw[a0.out.ok.1];exact HP.out.ok.body) n0.out.1 (by rw[g0.out];exact HP.out.lv.low)
   obtain⟨va,vn,vc,l0⟩:=HP.out.bs.slice;have s1:=Zz l0;rw[l0]at HS
   have u0:Hid (∀V,Bq wr V->Cq 30 #[Pq Pb,.agg #[.slice la k lc,Zq],.slice va vn vc,Iq lo] V (zn4 w V Pb Lq rb clv hv bv p (.slice la k lc) r)):=λV hV=>by rw[<-s1.out];exact p1.out V hV
   clear hr p1 l0
   go_wp2_with fail
   refine Yz HS dA [7] [] [] (by kernel_rfl) (λc a d v w h=>by cases d<;>exact h) (λops _=>?_)
   iterate 7 refine Zs rfl (by rintro _ ⟨_,_,_⟩;go_simp<;>rfl) (by go_simp<;>rfl) ?_
   refine Zu ?_
   go_wp2_with fail
   refine(u0.out _ dA).mono ?_;rintro e4 W4 ⟨rfl,v0,y0⟩;have i0:=Zz v0;have z0:Hid (Yk wr W4 (.slice la k lc)):=(Yk.of_below dA).trans y0;have t1:Hid (W4.cell? (Aq Xb 0)=some (.slice la k lc)/\W4.cell? (Aq Xb 1)=some Zq/\W4.cell? (Aq Pb 5)=some (.slice va vn vc)):=by
    obtain⟨q1,-⟩:=P0.out W4 (H0.out.trans z0.out);exact⟨by simp only[World.cell?,q1];rfl,by simp only[World.cell?,q1];rfl,by rw[<-s1.out];exact(i0.out.pin).p5⟩
   clear v0 y0 u0
   go_wp2_with fail
   refine⟨t1.out,?_⟩;refine Zs rfl (by rintro _ ⟨_,_,_⟩;go_simp<;>rfl) (by go_simp<;>rfl) ?_;refine Zl ?_;obtain⟨r1,rl⟩:=r;have u1:Hid (J (.bool r1) W4/\μ (.bool r1) W4<μ (.bool true) wr):=by
    have v1:rl.length=k:=by
     have g1:=i0.out.ok.1;have g2:=a0.out.ok.1;rw[Fl.vars_len]at g1 g2;have:=d1.out;simp only at g1;omega
    rw[HJ.out,HM.out];refine⟨⟨r1,rl,rfl,v1,i0.out,t0.out.2.1,t0.out.2.2.1,t0.out.2.2.2.2,H0.out.trans z0.out⟩,?_⟩;have e1:=ywy (p:=p) a0.out.ints;have e2:=ywy (p:=p) i0.out.ints;rw[d1.out]at e1;simp only at e2;rw[v1]at e2
    cases r1
    ·simp only;omega
    have:=t0.out.2.2.2.1 rfl;simp only at this⊢;omega
   clear t0 HS t1;go_wp2
   go_roundw
   case rel=>exact u1.out.1
   case measure=>exact u1.out.2
end
end Go.Proofs.YtjekbnmnjeoagaaGreatDoor
