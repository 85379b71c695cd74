import Derived.Test.YtaaejabalinojaaGreatDoorM37
set_option linter.all false
set_option maxRecDepth 100000
set_option maxHeartbeats 40000000
namespace Go.Proofs.YtaaejabalinojaaGreatDoor
open Go.RowKit Go.Proofs.Tryz
def ym5{w w':World}{base:Nat}{e:TypeId}{size:Nat}{v:Value}{n:Nat}{xs:List Value}(h:w.ownsRow base e size v n xs)(hb:Below w.heap.size w w'):w'.ownsRow base e size v n xs:=
 h.kept (row:=none) ⟨hb.os,hb.tape,hb.output,hb.size,λk hk _=>hb.block k hk⟩ (by cases v.ownBlock<;>simp)
def own_six{w1:World}{base:Nat}{e:TypeId}{size:Nat}{v:Value}{n:Nat}{xs:List Value}{B:Nat}{v0 v1 v2 v3 v4 v5:Value}(h:w1.ownsRow base e size v n xs)(hB:B<base):
  ((((((w1.setCell ⟨B,0,none⟩ v0).setCell ⟨B,1,none⟩ v1).setCell ⟨B,2,none⟩ v2).setCell ⟨B,3,none⟩ v3).setCell ⟨B,4,none⟩ v4).setCell ⟨B,5,none⟩ v5).ownsRow base e size v n xs:=
 ownsRow_setCell_below (ownsRow_setCell_below (ownsRow_setCell_below (ownsRow_setCell_below (ownsRow_setCell_below (ownsRow_setCell_below h hB _) hB _) hB _) hB _) hB _) hB _
def zd0{w:World}{base:Nat}{e:TypeId}{v:Value}{n:Nat}{xs:List Value}(h:w.ownsRow base e 1 v n xs):∃ao cap,v=.slice ao n cap:=by
 rcases h.2 with⟨rfl,rfl⟩|⟨g,cap,cur,rfl,_⟩
 ·exact⟨_,_,rfl⟩
 exact⟨_,_,rfl⟩
def zqy{w w':World}{nv lv:Value}{r:Fl.Node×Int×Int}{nd:Fl.Node}{x:Int}{e:Ending}(hr:r=(nd,x,0))(he:e=.returned (.tuple #[nv,.int .i64 x,.int .i64 0]))(a0:nv=Vr nd lv)(hl:Zv w'.heap.size w' lv nd.list)(hf:∀b,lv.ownBlock=some b->w.heap.size<=b)(hb:Below w.heap.size w w'):Uz r w e w':=by
 subst hr;have b0:=hl;obtain⟨ao,cap,c0,_⟩:=b0;exact⟨hb,nv,he,⟨nd,ao,_,cap,by rw[a0,c0]⟩,λ_=>⟨lv,a0,hl,hf⟩⟩
def yi5(s:ByteArray)(p k:Nat)(v n b v2 n2 b2 n3 b3:Int)(l:List Int)(w:World)(H0:¬n2<0)(I0:¬16<v2)(J0:¬n3<0)(K0:l.length<=16)(hs:s.size<=4611686018427387904)(hp:p<s.size)(hn:¬n<0)
  (H1:Hid (∀w,Calls prog 15 #[.string s,.int .i64 ((p:Int)+1)] w λe w'=>e=.returned (.tuple #[.int .i64 v,.int .i64 n,.int .i64 b])/\w'=w))
  (H:Hid (∀w,Calls prog 31 #[.int .i64 s[p].toNat] w λe w'=>e=.returned (.int .i64 (-1))/\w'=w))
  (H2:Hid (∀w,Calls prog 15 #[.string s,.int .i64 n] w λe w'=>e=.returned (.tuple #[.int .i64 v2,.int .i64 n2,.int .i64 b2])/\w'=w))
  (H3:Hid (∀w,Calls prog 16 #[.string s,.int .i64 n2,.int .i64 v2] w λe w'=>∃lv,e=.returned (.tuple #[lv,.int .i64 n3,.int .i64 b3])/\w'.ownsRow w.heap.size 3 1 lv l.length (l.map (Value.int .i64))/\Below w.heap.size w w')):
  Calls prog 17 #[.string s,.int .i64 p,.int .i64 k] w λe w'=>Uz (Fl.oneFin p k ⟨s[p].toNat,v,0,0,0,l⟩ n3) w e w':=by
 have b1:((p:Int)==(s.size:Int))=false:=beq_eq_false_iff_ne.2 (by omega);have hc:s[p].toNat<256:=s[p].toNat_lt
 go_enter func17,ntmps17
 go_wp2_with (go_at_call 31;refine(H.out _).mono ?_;rintro e w' ⟨rfl,rfl⟩)
 refine(H1.out _).mono ?_;rintro e w' ⟨rfl,rfl⟩
 go_wp2_with fail
 refine(H2.out _).mono ?_;rintro e w' ⟨rfl,rfl⟩
 go_wp2_with fail
 refine(H3.out _).mono ?_;rintro e w1 ⟨lv,rfl,i0,n0⟩;obtain⟨b0,p0⟩:=zqz n0;simp only[World.size_alloc]at b0 p0 i0
 have hz:w.heap.size+1<w1.heap.size:=by have:=n0.size;simp at this;omega
 have k0:Below w.heap.size w w1:=((bA).alloc (by simp) _).trans (n0.mono (by simp;omega));have r0:Hid ((w1.setCell ⟨w.heap.size+1,5,none⟩ lv).ownsRow (w.heap.size+1+1) 3 1 lv l.length (l.map (Value.int .i64))):=ownsRow_setCell_below i0 (by simp) _;obtain⟨lao,lcap,rfl⟩:=zd0 i0
 have HP:Hid (Calls prog 32 #[Vr ⟨s[p].toNat,v,0,0,0,l⟩ (.slice lao l.length lcap)] (w1.setCell ⟨w.heap.size+1,5,none⟩ (.slice lao l.length lcap)) λe w'=>∃pv,e=.returned pv/\Zv w'.heap.size w' pv (Yw ⟨s[p].toNat,v,0,0,0,l⟩)/\Below (w1.setCell ⟨w.heap.size+1,5,none⟩ (.slice lao l.length lcap)).heap.size (w1.setCell ⟨w.heap.size+1,5,none⟩ (.slice lao l.length lcap)) w'):=
  Js _ _ _ _ (Nat.le_refl _) (Zv.of_own r0.out)
 have v0:Hid (Below w.heap.size w (w1.setCell ⟨w.heap.size+1,5,none⟩ (.slice lao l.length lcap))):=k0.setCell (by simp) _;have g0:(w1.setCell ⟨w.heap.size+1,5,none⟩ (.slice lao l.length lcap)).cell? ⟨w.heap.size+1,5,none⟩=some (.slice lao l.length lcap):=Ye (o:=.slice none 0 0) (by rw[b0 _ _ (by omega)];simp);clear i0 k0
 go_wp2_with fail
 refine(HP.out).mono ?_;rintro e w2 ⟨pv,rfl,D0,l0⟩;obtain⟨e0,s0⟩:=zqz l0
 have j0:(w1.setCell ⟨w.heap.size+1,5,none⟩ (Value.slice lao l.length lcap)).heap.size=w1.heap.size:=by simp[World.setCell]
 rw[j0]at e0 s0
 have L0:w.heap.size+1<w2.heap.size:=by have:=l0.size;rw[j0]at this;omega
 have m0:Below w.heap.size w w2:=v0.out.trans (l0.mono (by rw[j0];omega));have x0:Hid (w2.ownsRow (w.heap.size+1+1) 3 1 (.slice lao l.length lcap) l.length (l.map (Value.int .i64))):=ym5 r0.out l0
 have c0:w2.cell? ⟨w.heap.size+1,0,none⟩=some (.int .i64 s[p].toNat):=by rw[e0 _ _ (by omega),Zl (by decide),b0 _ _ (by omega)];simp
 have c1:w2.cell? ⟨w.heap.size+1,1,none⟩=some (.int .i64 v):=by rw[e0 _ _ (by omega),Zl (by decide),b0 _ _ (by omega)];simp
 have c2:w2.cell? ⟨w.heap.size+1,2,none⟩=some (.int .i64 0):=by rw[e0 _ _ (by omega),Zl (by decide),b0 _ _ (by omega)];simp
 have c3:w2.cell? ⟨w.heap.size+1,3,none⟩=some (.int .i64 0):=by rw[e0 _ _ (by omega),Zl (by decide),b0 _ _ (by omega)];simp
 have c4:w2.cell? ⟨w.heap.size+1,4,none⟩=some (.int .i64 0):=by rw[e0 _ _ (by omega),Zl (by decide),b0 _ _ (by omega)];simp
 have c5:w2.cell? ⟨w.heap.size+1,5,none⟩=some (.slice lao l.length lcap):=by rw[e0 _ _ (by omega)];exact g0
 have a0:∀j,j<6->(w1.setCell ⟨w.heap.size+1,5,none⟩ (Value.slice lao l.length lcap)).cell? ⟨w.heap.size,j,none⟩=w1.cell? ⟨w.heap.size,j,none⟩:=λj _=>by apply Qg;intro hh;injection hh with h2;omega
 have d0:w2.cell? ⟨w.heap.size,0,none⟩=some (.int .i64 0):=by rw[e0 _ _ (by omega),a0 _ (by omega),b0 _ _ (by omega)];simp
 have d1:w2.cell? ⟨w.heap.size,1,none⟩=some (.int .i64 0):=by rw[e0 _ _ (by omega),a0 _ (by omega),b0 _ _ (by omega)];simp
 have d2:w2.cell? ⟨w.heap.size,2,none⟩=some (.int .i64 0):=by rw[e0 _ _ (by omega),a0 _ (by omega),b0 _ _ (by omega)];simp
 have d3:w2.cell? ⟨w.heap.size,3,none⟩=some (.int .i64 0):=by rw[e0 _ _ (by omega),a0 _ (by omega),b0 _ _ (by omega)];simp
 have d4:w2.cell? ⟨w.heap.size,4,none⟩=some (.int .i64 0):=by rw[e0 _ _ (by omega),a0 _ (by omega),b0 _ _ (by omega)];simp
 have d5:w2.cell? ⟨w.heap.size,5,none⟩=some (.slice none 0 0):=by rw[e0 _ _ (by omega),a0 _ (by omega),b0 _ _ (by omega)];simp
 have M0:∀j,w2.frozen? ⟨w.heap.size,j,none⟩=false:=λj=>by
  rw[s0 _ _ (by omega),World.frozen?_setCell,p0 _ _ (by omega)];simp
 obtain⟨q0,q1,q2,q3,q4,q5⟩:=zy4 (w1:=w2) (B:=w.heap.size) (.int .i64 s[p].toNat) (.int .i64 v) (.int .i64 0) (.int .i64 0) (.int .i64 0) (.slice lao l.length lcap) d0 d1 d2 d3 d4 d5;obtain⟨pao,pcap,rfl,_,E0,y0⟩:=D0;generalize hps:Yw ⟨s[p].toNat,v,0,0,0,l⟩=ps at*;have z0:=Zz hps;have A0:=Zz y0;clear hps y0 l0 n0 b0 p0 e0 s0 HP g0 a0 r0 v0;unfold maxLen at E0;go_wp2
 go_loop [23] (λi=>∃j:Nat,j<=ps.length/\i=.int .i64 j/\∀t,t<j->¬(k:Int)<=ps.getD t 0) (λi=>ps.length - (intOf i).toNat)
 case atStart=>exact⟨0,by omega,rfl,λt ht=>by omega⟩
 case round=>
  obtain⟨j,hj,rfl,B0⟩:=hrel;have t0:=Zz B0;clear B0
  by_cases o0:j<ps.length
  ·obtain⟨pb,po,rfl,N0,f0⟩:=A0.out (by intro h;rw[h]at o0;simp at o0)
   have F0:=f0 j o0;obtain⟨x,hx⟩:=nmE (ps.getD j 0);rw[<-hx]at F0;have C0:=Zz hx;have O0:(j:Int)<(ps.length:Int):=(by omega);clear f0 hx
   by_cases G0:(k:Int)<=x
   ·have h0:Fl.oneFin p k ⟨s[p].toNat,v,0,0,0,l⟩ n3=(Fl.nd0,-1,(p:Int)):=by
     unfold Fl.oneFin;rw[z0.out,if_pos];rw[List.any_eq_true];exact⟨x,by rw[C0.out];exact zy2 o0,by simpa using G0⟩
    have u0:=Zz h0;clear h0;go_wp2;exact bodyPost_ret (v:=.tuple #[.agg #[.int .i64 s[p].toNat,.int .i64 v,.int .i64 0,.int .i64 0,.int .i64 0,.slice lao l.length lcap],.int .i64 (-1),.int .i64 p]) (by simp[results,results17,go_sem,q0,q1,q2,q3,q4,q5]) rfl (Jr u0.out rfl ⟨⟨_,_,_,_,_,[]⟩,_,_,_,rfl⟩ (Uu m0))
   go_wp2
   go_round
   case rel=>exact⟨j+1,by omega,by go_num,λt ht=>by
    by_cases h:t<j
    ·exact t0.out t h
    have:t=j:=by omega
    subst this;rw[<-C0.out];omega⟩
   case measure=>simp[intOf];omega
  have h0:Fl.oneFin p k ⟨s[p].toNat,v,0,0,0,l⟩ n3=(⟨s[p].toNat,v,0,0,0,l⟩,n3,0):=by
   unfold Fl.oneFin;rw[z0.out,if_neg];rw[Bool.not_eq_true,List.any_eq_false];intro x hx;obtain⟨i,hi,rfl⟩:=List.getElem_of_mem hx;have:=t0.out i (by omega);rw[Qa,Qb hi]at this;simpa using this
  have u0:=Zz h0;clear h0 t0 A0;go_wp2;exact bodyPost_ret (v:=.tuple #[.agg #[.int .i64 s[p].toNat,.int .i64 v,.int .i64 0,.int .i64 0,.int .i64 0,.slice lao l.length lcap],.int .i64 n3,.int .i64 0]) (by simp[results,results17,go_sem,q0,q1,q2,q3,q4,q5]) rfl (zqy u0.out rfl rfl (Zv.of_own (own_six x0.out (by omega))) (λb hb=>by have:=(x0.out.lt b hb).1;omega) (Uu m0))
def zqx{w:World}{base:Nat}{e:TypeId}{v:Value}{n:Nat}{xs:List Value}(h:w.ownsRow base e 1 v n xs)(hn:0<n):∃g cap,v=.slice (some ⟨g,0,none⟩) n cap/\base<=g/\g<w.heap.size/\∀j u,xs[j]?=some u->w.cell? ⟨g,j,none⟩=some u:=by
 rcases h.2 with⟨rfl,h0⟩|⟨g,cap,cur,rfl,hb,hg,_⟩
 ·omega
 refine⟨g,cap,rfl,hb,(Array.getElem?_eq_some_iff.1 hg).1,λj u hu=>?_⟩;have h1:=h.cells (g:=g) rfl j u hu
 have h2:(⟨g,0,none⟩:Addr).add j=⟨g,j,none⟩:=by unfold Addr.add;split<;>simp_all
 rw[h2]at h1;exact h1
def zu8{w:World}{e:TypeId}{x y:Value}:∀j u,[x,y][j]?=some u->(w.alloc (.cells #[x,y] e)).cell? ((⟨w.heap.size,0,none⟩:Addr).add j)=some u:=by
 intro j u hj
 match j,hj with
 |0,hj=>simp at hj;subst hj;simp[Addr.add]
 |1,hj=>simp at hj;subst hj;simp[Addr.add]
def yi6(s:ByteArray)(p k:Nat)(F v n b n3 b3:Int)(w:World)(hs:s.size<=4611686018427387904)(hp:p<s.size)(hn:¬n<0)(d0:0<=F)(e0:F<=3)(f0:n3<0)
  (H:Hid (∀w,Calls prog 31 #[.int .i64 s[p].toNat] w λe w'=>e=.returned (.int .i64 F)/\w'=w))
  (H1:Hid (∀w,Calls prog 15 #[.string s,.int .i64 ((p:Int)+1)] w λe w'=>e=.returned (.tuple #[.int .i64 v,.int .i64 n,.int .i64 b])/\w'=w))
  (H3:Hid (∀w,Calls prog 16 #[.string s,.int .i64 n,.int .i64 F] w λe w'=>∃lv,e=.returned (.tuple #[lv,.int .i64 n3,.int .i64 b3])/\Below w.heap.size w w')):
  Calls prog 17 #[.string s,.int .i64 p,.int .i64 k] w λe w'=>Uz (Fl.nd0,-1,b3) w e w':=by
 have b1:((p:Int)==(s.size:Int))=false:=beq_eq_false_iff_ne.2 (by omega);have b2:(F== -2)=false:=beq_eq_false_iff_ne.2 (by omega);have b4:(F== -1)=false:=beq_eq_false_iff_ne.2 (by omega);have hc:s[p].toNat<256:=s[p].toNat_lt
 go_enter func17,ntmps17
 go_wp2_with (go_at_call 31;refine(H.out _).mono ?_;rintro e w' ⟨rfl,rfl⟩)
 refine(H1.out _).mono ?_;rintro e w' ⟨rfl,rfl⟩
 go_wp2_with fail
 refine(H3.out _).mono ?_;rintro e w1 ⟨lv,rfl,b0⟩;obtain⟨a0,c0⟩:=zqz b0;simp only[World.size_alloc]at a0 c0
 have hz:w.heap.size+1<w1.heap.size:=by have:=b0.size;simp at this;omega
 obtain⟨q0,q1,q2,q3,q4,q5⟩:=zy4 (w1:=w1) (B:=w.heap.size) (o0:=.int .i64 0) (o1:=.int .i64 0) (o2:=.int .i64 0) (o3:=.int .i64 0) (o4:=.int .i64 0) (o5:=.slice none 0 0) (.int .i64 s[p].toNat) (.int .i64 v) (.int .i64 0) (.int .i64 0) (.int .i64 0) (.slice none 0 0) (by rw[a0 _ _ (by omega)];simp) (by rw[a0 _ _ (by omega)];simp) (by rw[a0 _ _ (by omega)];simp) (by rw[a0 _ _ (by omega)];simp) (by rw[a0 _ _ (by omega)];simp) (by rw[a0 _ _ (by omega)];simp);go_wp2;exact bodyPost_ret (v:=.tuple #[.agg #[.int .i64 s[p].toNat,.int .i64 v,.int .i64 0,.int .i64 0,.int .i64 0,.slice none 0 0],.int .i64 (-1),.int .i64 b3]) (by simp[results,results17,go_sem,q0,q1,q2,q3,q4,q5]) rfl (Jr rfl rfl ⟨⟨_,_,_,_,_,[]⟩,_,_,_,rfl⟩ (Uu (((bA).alloc (by simp) _).trans (b0.mono (by simp;omega)))))
def one_f1(s:ByteArray)(p k:Nat)(v n b n3 b3:Int)(x:Int)(w:World)(hs:s.size<=4611686018427387904)(hp:p<s.size)(hn:¬n<0)(Q0:¬n3<0)
  (H:Hid (∀w,Calls prog 31 #[.int .i64 s[p].toNat] w λe w'=>e=.returned (.int .i64 1)/\w'=w))
  (H1:Hid (∀w,Calls prog 15 #[.string s,.int .i64 ((p:Int)+1)] w λe w'=>e=.returned (.tuple #[.int .i64 v,.int .i64 n,.int .i64 b])/\w'=w))
  (H3:Hid (∀w,Calls prog 16 #[.string s,.int .i64 n,.int .i64 1] w λe w'=>∃lv,e=.returned (.tuple #[lv,.int .i64 n3,.int .i64 b3])/\w'.ownsRow w.heap.size 3 1 lv 1 [.int .i64 x]/\Below w.heap.size w w')):
  Calls prog 17 #[.string s,.int .i64 p,.int .i64 k] w λe w'=>Uz (Fl.oneFin p k ⟨s[p].toNat,v,x,0,0,[]⟩ n3) w e w':=by
 obtain⟨i0,hi,J0,K0,B0⟩:=info_parts Tryz.infoInt;have b1:((p:Int)==(s.size:Int))=false:=beq_eq_false_iff_ne.2 (by omega);have hc:s[p].toNat<256:=s[p].toNat_lt
 go_enter func17,ntmps17
 go_wp2_with (go_at_call 31;refine(H.out _).mono ?_;rintro e w' ⟨rfl,rfl⟩)
 refine(H1.out _).mono ?_;rintro e w' ⟨rfl,rfl⟩
 go_wp2_with fail
 refine(H3.out _).mono ?_;rintro e w1 ⟨lv,rfl,k0,t0⟩;simp only[World.size_alloc]at k0;have u0:=t0.size;simp only[World.size_alloc]at u0
 go_wp2_with (at_builtin;refine wpList_append_own _ rfl _ _ 30 rfl (w.heap.size+1+1) 3 i0 (.int .i64 0) 1 8 underlying30 hi J0 K0 B0 rfl (by decide) _ _ _ rfl (k0.alloc _) ⟨_,0,none⟩ 2 2 [.int .i64 0,.int .i64 0] rfl rfl zu8 ?c2 ?c3 ?c4 ?c5 ?_)
 case c2=>intro u hu;simp at hu;subst hu;rfl
 case c3=>unfold maxLen;omega
 case c4=>omega
 case c5=>simp;omega
 intro lv' w3 hown' l0 _;have o0:=(((t0.mono (Nat.le_refl _)).alloc (by simp;omega) _).grown l0 (by simp;omega) (λg hg=>by have:=(k0.lt g hg).1;simp;omega));obtain⟨g,gcap,rfl,R0,S0,p0⟩:=zqx hown' (by omega);have e0:=p0 0 (.int .i64 x) (by simp);have e1:=p0 1 (.int .i64 0) (by simp);have e2:=p0 2 (.int .i64 0) (by simp)
 have v0:∀(W:World) (o:Nat) (u:Value) (j:Nat),(W.setCell ⟨w.heap.size+1,o,none⟩ u).cell? ⟨g,j,none⟩=W.cell? ⟨g,j,none⟩:=λW o u j=>by apply Qg;intro hh;injection hh with h2;omega
 have g0:∀b o,b<w.heap.size+1+1->w3.cell? ⟨b,o,none⟩=_:=λb o h=>o0.cell (p:=⟨b,o,none⟩) (by simpa using h);have C0:∀b o,b<w.heap.size+1+1->w3.frozen? ⟨b,o,none⟩=_:=λb o h=>o0.frozen (p:=⟨b,o,none⟩) (by simpa using h);have x0:Below w.heap.size w w3:=((bA).alloc (by simp) _).trans (o0.mono (by simp;omega));clear k0 hown' l0 p0 o0 t0;have f0:(((w3.setCell ⟨w.heap.size+1,2,none⟩ (.int .i64 x)).setCell ⟨w.heap.size+1,3,none⟩ (.int .i64 0)).setCell ⟨w.heap.size+1,3,none⟩ (.int .i64 0)).cell? ⟨w.heap.size+1,0,none⟩=some (.int .i64 s[p].toNat):=((Zl (by decide)).trans ((Zl (by decide)).trans ((Zl (by decide)).trans (by rw[g0 _ _ (by omega)];simp))));have f1:(((w3.setCell ⟨w.heap.size+1,2,none⟩ (.int .i64 x)).setCell ⟨w.heap.size+1,3,none⟩ (.int .i64 0)).setCell ⟨w.heap.size+1,3,none⟩ (.int .i64 0)).cell? ⟨w.heap.size+1,1,none⟩=some (.int .i64 v):=((Zl (by decide)).trans ((Zl (by decide)).trans ((Zl (by decide)).trans (by rw[g0 _ _ (by omega)];simp))));have f2:(((w3.setCell ⟨w.heap.size+1,2,none⟩ (.int .i64 x)).setCell ⟨w.heap.size+1,3,none⟩ (.int .i64 0)).setCell ⟨w.heap.size+1,3,none⟩ (.int .i64 0)).cell? ⟨w.heap.size+1,2,none⟩=some (.int .i64 x):=((Zl (by decide)).trans ((Zl (by decide)).trans (Ye (o:=.int .i64 0) (by rw[g0 _ _ (by omega)];simp))));have f3:(((w3.setCell ⟨w.heap.size+1,2,none⟩ (.int .i64 x)).setCell ⟨w.heap.size+1,3,none⟩ (.int .i64 0)).setCell ⟨w.heap.size+1,3,none⟩ (.int .i64 0)).cell? ⟨w.heap.size+1,3,none⟩=some (.int .i64 0):=(Ye (o:=.int .i64 0) (Ye (o:=.int .i64 0) ((Zl (by decide)).trans (by rw[g0 _ _ (by omega)];simp))));have f4:(((w3.setCell ⟨w.heap.size+1,2,none⟩ (.int .i64 x)).setCell ⟨w.heap.size+1,3,none⟩ (.int .i64 0)).setCell ⟨w.heap.size+1,3,none⟩ (.int .i64 0)).cell? ⟨w.heap.size+1,4,none⟩=some (.int .i64 0):=((Zl (by decide)).trans ((Zl (by decide)).trans ((Zl (by decide)).trans (by rw[g0 _ _ (by omega)];simp))));have f5:(((w3.setCell ⟨w.heap.size+1,2,none⟩ (.int .i64 x)).setCell ⟨w.heap.size+1,3,none⟩ (.int .i64 0)).setCell ⟨w.heap.size+1,3,none⟩ (.int .i64 0)).cell? ⟨w.heap.size+1,5,none⟩=some (.slice none 0 0):=((Zl (by decide)).trans ((Zl (by decide)).trans ((Zl (by decide)).trans (by rw[g0 _ _ (by omega)];simp))))
 have HP:Hid (Calls prog 32 #[Vr ⟨s[p].toNat,v,x,0,0,[]⟩ (.slice none 0 0)] (((w3.setCell ⟨w.heap.size+1,2,none⟩ (.int .i64 x)).setCell ⟨w.heap.size+1,3,none⟩ (.int .i64 0)).setCell ⟨w.heap.size+1,3,none⟩ (.int .i64 0)) λe w'=>∃pv,e=.returned pv/\Zv w'.heap.size w' pv (Yw ⟨s[p].toNat,v,x,0,0,[]⟩)/\Below (((w3.setCell ⟨w.heap.size+1,2,none⟩ (.int .i64 x)).setCell ⟨w.heap.size+1,3,none⟩ (.int .i64 0)).setCell ⟨w.heap.size+1,3,none⟩ (.int .i64 0)).heap.size (((w3.setCell ⟨w.heap.size+1,2,none⟩ (.int .i64 x)).setCell ⟨w.heap.size+1,3,none⟩ (.int .i64 0)).setCell ⟨w.heap.size+1,3,none⟩ (.int .i64 0)) w'):=
  Js _ _ _ _ (Nat.le_refl _) (Zv.nil _ _)
 have D0:Hid (Below w.heap.size w (((w3.setCell ⟨w.heap.size+1,2,none⟩ (.int .i64 x)).setCell ⟨w.heap.size+1,3,none⟩ (.int .i64 0)).setCell ⟨w.heap.size+1,3,none⟩ (.int .i64 0))):=(((x0.setCell (by simp) _).setCell (by simp) _).setCell (by simp) _)
 have L0:w.heap.size+1<w3.heap.size:=by omega
 have a0:∀j,(((w3.setCell ⟨w.heap.size+1,2,none⟩ (.int .i64 x)).setCell ⟨w.heap.size+1,3,none⟩ (.int .i64 0)).setCell ⟨w.heap.size+1,3,none⟩ (.int .i64 0)).cell? ⟨w.heap.size,j,none⟩=w3.cell? ⟨w.heap.size,j,none⟩:=λj=>by
  repeat (rw[Qg _ _ _ _ (by intro hh;injection hh with h2;omega)])
 go_wp2_with fail
 refine(HP.out).mono ?_;rintro e w2 ⟨pv,rfl,M0,r0⟩;obtain⟨b0,y0⟩:=zqz r0
 have m0:(((w3.setCell ⟨w.heap.size+1,2,none⟩ (.int .i64 x)).setCell ⟨w.heap.size+1,3,none⟩ (.int .i64 0)).setCell ⟨w.heap.size+1,3,none⟩ (.int .i64 0)).heap.size=w3.heap.size:=by simp[World.setCell]
 rw[m0]at b0 y0
 have B0:w.heap.size+1<w2.heap.size:=by have:=r0.size;rw[m0]at this;omega
 have n0:Below w.heap.size w w2:=D0.out.trans (r0.mono (by rw[m0];omega))
 have c0:w2.cell? ⟨w.heap.size+1,0,none⟩=some (.int .i64 s[p].toNat):=by rw[b0 _ _ (by omega)];exact f0
 have c1:w2.cell? ⟨w.heap.size+1,1,none⟩=some (.int .i64 v):=by rw[b0 _ _ (by omega)];exact f1
 have c2:w2.cell? ⟨w.heap.size+1,2,none⟩=some (.int .i64 x):=by rw[b0 _ _ (by omega)];exact f2
 have c3:w2.cell? ⟨w.heap.size+1,3,none⟩=some (.int .i64 0):=by rw[b0 _ _ (by omega)];exact f3
 have c4:w2.cell? ⟨w.heap.size+1,4,none⟩=some (.int .i64 0):=by rw[b0 _ _ (by omega)];exact f4
 have c5:w2.cell? ⟨w.heap.size+1,5,none⟩=some (.slice none 0 0):=by rw[b0 _ _ (by omega)];exact f5
 have d0:w2.cell? ⟨w.heap.size,0,none⟩=some (.int .i64 0):=by rw[b0 _ _ (by omega),a0,g0 _ _ (by omega)];simp
 have d1:w2.cell? ⟨w.heap.size,1,none⟩=some (.int .i64 0):=by rw[b0 _ _ (by omega),a0,g0 _ _ (by omega)];simp
 have d2:w2.cell? ⟨w.heap.size,2,none⟩=some (.int .i64 0):=by rw[b0 _ _ (by omega),a0,g0 _ _ (by omega)];simp
 have d3:w2.cell? ⟨w.heap.size,3,none⟩=some (.int .i64 0):=by rw[b0 _ _ (by omega),a0,g0 _ _ (by omega)];simp
 have d4:w2.cell? ⟨w.heap.size,4,none⟩=some (.int .i64 0):=by rw[b0 _ _ (by omega),a0,g0 _ _ (by omega)];simp
 have d5:w2.cell? ⟨w.heap.size,5,none⟩=some (.slice none 0 0):=by rw[b0 _ _ (by omega),a0,g0 _ _ (by omega)];simp
 have T0:∀j,w2.frozen? ⟨w.heap.size,j,none⟩=false:=λj=>by
  rw[y0 _ _ (by omega)];repeat (rw[World.frozen?_setCell])
  rw[C0 _ _ (by omega)];simp
 obtain⟨q0,q1,q2,q3,q4,q5⟩:=zy4 (w1:=w2) (B:=w.heap.size) (.int .i64 s[p].toNat) (.int .i64 v) (.int .i64 x) (.int .i64 0) (.int .i64 0) (.slice none 0 0) d0 d1 d2 d3 d4 d5;obtain⟨pao,pcap,rfl,_,N0,E0⟩:=M0;generalize hps:Yw ⟨s[p].toNat,v,x,0,0,[]⟩=ps at*;have F0:=Zz hps;have G0:=Zz E0;clear hps E0 r0 g0 C0 b0 y0 HP a0 D0 f0 f1 f2 f3 f4 f5 e0 e1 e2 v0;unfold maxLen at N0;go_wp2
 go_loop [23] (λi=>∃j:Nat,j<=ps.length/\i=.int .i64 j/\∀t,t<j->¬(k:Int)<=ps.getD t 0) (λi=>ps.length - (intOf i).toNat)
 case atStart=>exact⟨0,by omega,rfl,λt ht=>by omega⟩
 case round=>
  obtain⟨j,hj,rfl,H0⟩:=hrel;have z0:=Zz H0;clear H0
  by_cases s0:j<ps.length
  ·obtain⟨pb,po,rfl,U0,h0⟩:=G0.out (by intro h;rw[h]at s0;simp at s0)
   have O0:=h0 j s0;obtain⟨xv,hx⟩:∃x,x=ps.getD j 0:=⟨_,rfl⟩;rw[<-hx]at O0;have I0:=Zz hx;have V0:(j:Int)<(ps.length:Int):=(by omega);clear h0 hx
   by_cases P0:(k:Int)<=xv
   ·have j0:Fl.oneFin p k ⟨s[p].toNat,v,x,0,0,[]⟩ n3=(Fl.nd0,-1,(p:Int)):=by
     unfold Fl.oneFin;rw[F0.out,if_pos];rw[List.any_eq_true];exact⟨xv,by rw[I0.out];exact zy2 s0,by simpa using P0⟩
    have A0:=Zz j0;clear j0;go_wp2;exact bodyPost_ret (v:=.tuple #[.agg #[.int .i64 s[p].toNat,.int .i64 v,.int .i64 x,.int .i64 0,.int .i64 0,.slice none 0 0],.int .i64 (-1),.int .i64 p]) (by simp[results,results17,go_sem,q0,q1,q2,q3,q4,q5]) rfl (Jr A0.out rfl ⟨⟨_,_,_,_,_,[]⟩,_,_,_,rfl⟩ (Uu n0))
   go_wp2
   go_round
   case rel=>exact⟨j+1,by omega,by go_num,λt ht=>by
    by_cases h:t<j
    ·exact z0.out t h
    have:t=j:=by omega
    subst this;rw[<-I0.out];omega⟩
   case measure=>simp[intOf];omega
  have j0:Fl.oneFin p k ⟨s[p].toNat,v,x,0,0,[]⟩ n3=(⟨s[p].toNat,v,x,0,0,[]⟩,n3,0):=by
   unfold Fl.oneFin;rw[F0.out,if_neg];rw[Bool.not_eq_true,List.any_eq_false];intro x hx;obtain⟨i,hi,rfl⟩:=List.getElem_of_mem hx;have:=z0.out i (by omega);rw[Qa,Qb hi]at this;simpa using this
  have A0:=Zz j0;clear j0 z0 G0;go_wp2;exact bodyPost_ret (v:=.tuple #[.agg #[.int .i64 s[p].toNat,.int .i64 v,.int .i64 x,.int .i64 0,.int .i64 0,.slice none 0 0],.int .i64 n3,.int .i64 0]) (by simp[results,results17,go_sem,q0,q1,q2,q3,q4,q5]) rfl (zqy A0.out rfl rfl (Zv.nil _ _) (λb hb=>by simp[Value.ownBlock]at hb) (Uu n0))
def one_f2(s:ByteArray)(p k:Nat)(v n b n3 b3:Int)(x y:Int)(w:World)(hs:s.size<=4611686018427387904)(hp:p<s.size)(hn:¬n<0)(Q0:¬n3<0)
  (H:Hid (∀w,Calls prog 31 #[.int .i64 s[p].toNat] w λe w'=>e=.returned (.int .i64 2)/\w'=w))
  (H1:Hid (∀w,Calls prog 15 #[.string s,.int .i64 ((p:Int)+1)] w λe w'=>e=.returned (.tuple #[.int .i64 v,.int .i64 n,.int .i64 b])/\w'=w))
  (H3:Hid (∀w,Calls prog 16 #[.string s,.int .i64 n,.int .i64 2] w λe w'=>∃lv,e=.returned (.tuple #[lv,.int .i64 n3,.int .i64 b3])/\w'.ownsRow w.heap.size 3 1 lv 2 [.int .i64 x,.int .i64 y]/\Below w.heap.size w w')):
  Calls prog 17 #[.string s,.int .i64 p,.int .i64 k] w λe w'=>Uz (Fl.oneFin p k ⟨s[p].toNat,v,x,y,0,[]⟩ n3) w e w':=by
 obtain⟨i0,hi,J0,K0,B0⟩:=info_parts Tryz.infoInt;have b1:((p:Int)==(s.size:Int))=false:=beq_eq_false_iff_ne.2 (by omega);have hc:s[p].toNat<256:=s[p].toNat_lt
 go_enter func17,ntmps17
 go_wp2_with (go_at_call 31;refine(H.out _).mono ?_;rintro e w' ⟨rfl,rfl⟩)
 refine(H1.out _).mono ?_;rintro e w' ⟨rfl,rfl⟩
 go_wp2_with fail
 refine(H3.out _).mono ?_;rintro e w1 ⟨lv,rfl,k0,t0⟩;simp only[World.size_alloc]at k0;have u0:=t0.size;simp only[World.size_alloc]at u0
 go_wp2_with (at_builtin;refine wpList_append_own _ rfl _ _ 30 rfl (w.heap.size+1+1) 3 i0 (.int .i64 0) 1 8 underlying30 hi J0 K0 B0 rfl (by decide) _ _ _ rfl (k0.alloc _) ⟨_,0,none⟩ 2 2 [.int .i64 0,.int .i64 0] rfl rfl zu8 ?c2 ?c3 ?c4 ?c5 ?_)
 case c2=>intro u hu;simp at hu;subst hu;rfl
 case c3=>unfold maxLen;omega
 case c4=>omega
 case c5=>simp;omega
 intro lv' w3 hown' l0 _;have o0:=(((t0.mono (Nat.le_refl _)).alloc (by simp;omega) _).grown l0 (by simp;omega) (λg hg=>by have:=(k0.lt g hg).1;simp;omega));obtain⟨g,gcap,rfl,R0,S0,p0⟩:=zqx hown' (by omega);have e0:=p0 0 (.int .i64 x) (by simp);have e1:=p0 1 (.int .i64 y) (by simp);have e2:=p0 2 (.int .i64 0) (by simp)
 have v0:∀(W:World) (o:Nat) (u:Value) (j:Nat),(W.setCell ⟨w.heap.size+1,o,none⟩ u).cell? ⟨g,j,none⟩=W.cell? ⟨g,j,none⟩:=λW o u j=>by apply Qg;intro hh;injection hh with h2;omega
 have g0:∀b o,b<w.heap.size+1+1->w3.cell? ⟨b,o,none⟩=_:=λb o h=>o0.cell (p:=⟨b,o,none⟩) (by simpa using h);have C0:∀b o,b<w.heap.size+1+1->w3.frozen? ⟨b,o,none⟩=_:=λb o h=>o0.frozen (p:=⟨b,o,none⟩) (by simpa using h);have x0:Below w.heap.size w w3:=((bA).alloc (by simp) _).trans (o0.mono (by simp;omega));clear k0 hown' l0 p0 o0 t0;have f0:((((w3.setCell ⟨w.heap.size+1,2,none⟩ (.int .i64 x)).setCell ⟨w.heap.size+1,3,none⟩ (.int .i64 y)).setCell ⟨w.heap.size+1,4,none⟩ (.int .i64 0)).setCell ⟨w.heap.size+1,4,none⟩ (.int .i64 0)).cell? ⟨w.heap.size+1,0,none⟩=some (.int .i64 s[p].toNat):=((Zl (by decide)).trans ((Zl (by decide)).trans ((Zl (by decide)).trans ((Zl (by decide)).trans (by rw[g0 _ _ (by omega)];simp)))));have f1:((((w3.setCell ⟨w.heap.size+1,2,none⟩ (.int .i64 x)).setCell ⟨w.heap.size+1,3,none⟩ (.int .i64 y)).setCell ⟨w.heap.size+1,4,none⟩ (.int .i64 0)).setCell ⟨w.heap.size+1,4,none⟩ (.int .i64 0)).cell? ⟨w.heap.size+1,1,none⟩=some (.int .i64 v):=((Zl (by decide)).trans ((Zl (by decide)).trans ((Zl (by decide)).trans ((Zl (by decide)).trans (by rw[g0 _ _ (by omega)];simp)))));have f2:((((w3.setCell ⟨w.heap.size+1,2,none⟩ (.int .i64 x)).setCell ⟨w.heap.size+1,3,none⟩ (.int .i64 y)).setCell ⟨w.heap.size+1,4,none⟩ (.int .i64 0)).setCell ⟨w.heap.size+1,4,none⟩ (.int .i64 0)).cell? ⟨w.heap.size+1,2,none⟩=some (.int .i64 x):=((Zl (by decide)).trans ((Zl (by decide)).trans ((Zl (by decide)).trans (Ye (o:=.int .i64 0) (by rw[g0 _ _ (by omega)];simp)))));have f3:((((w3.setCell ⟨w.heap.size+1,2,none⟩ (.int .i64 x)).setCell ⟨w.heap.size+1,3,none⟩ (.int .i64 y)).setCell ⟨w.heap.size+1,4,none⟩ (.int .i64 0)).setCell ⟨w.heap.size+1,4,none⟩ (.int .i64 0)).cell? ⟨w.heap.size+1,3,none⟩=some (.int .i64 y):=((Zl (by decide)).trans ((Zl (by decide)).trans (Ye (o:=.int .i64 0) ((Zl (by decide)).trans (by rw[g0 _ _ (by omega)];simp)))));have f4:((((w3.setCell ⟨w.heap.size+1,2,none⟩ (.int .i64 x)).setCell ⟨w.heap.size+1,3,none⟩ (.int .i64 y)).setCell ⟨w.heap.size+1,4,none⟩ (.int .i64 0)).setCell ⟨w.heap.size+1,4,none⟩ (.int .i64 0)).cell? ⟨w.heap.size+1,4,none⟩=some (.int .i64 0):=(Ye (o:=.int .i64 0) (Ye (o:=.int .i64 0) ((Zl (by decide)).trans ((Zl (by decide)).trans (by rw[g0 _ _ (by omega)];simp)))));have f5:((((w3.setCell ⟨w.heap.size+1,2,none⟩ (.int .i64 x)).setCell ⟨w.heap.size+1,3,none⟩ (.int .i64 y)).setCell ⟨w.heap.size+1,4,none⟩ (.int .i64 0)).setCell ⟨w.heap.size+1,4,none⟩ (.int .i64 0)).cell? ⟨w.heap.size+1,5,none⟩=some (.slice none 0 0):=((Zl (by decide)).trans ((Zl (by decide)).trans ((Zl (by decide)).trans ((Zl (by decide)).trans (by rw[g0 _ _ (by omega)];simp)))))
 have HP:Hid (Calls prog 32 #[Vr ⟨s[p].toNat,v,x,y,0,[]⟩ (.slice none 0 0)] ((((w3.setCell ⟨w.heap.size+1,2,none⟩ (.int .i64 x)).setCell ⟨w.heap.size+1,3,none⟩ (.int .i64 y)).setCell ⟨w.heap.size+1,4,none⟩ (.int .i64 0)).setCell ⟨w.heap.size+1,4,none⟩ (.int .i64 0)) λe w'=>∃pv,e=.returned pv/\Zv w'.heap.size w' pv (Yw ⟨s[p].toNat,v,x,y,0,[]⟩)/\Below ((((w3.setCell ⟨w.heap.size+1,2,none⟩ (.int .i64 x)).setCell ⟨w.heap.size+1,3,none⟩ (.int .i64 y)).setCell ⟨w.heap.size+1,4,none⟩ (.int .i64 0)).setCell ⟨w.heap.size+1,4,none⟩ (.int .i64 0)).heap.size ((((w3.setCell ⟨w.heap.size+1,2,none⟩ (.int .i64 x)).setCell ⟨w.heap.size+1,3,none⟩ (.int .i64 y)).setCell ⟨w.heap.size+1,4,none⟩ (.int .i64 0)).setCell ⟨w.heap.size+1,4,none⟩ (.int .i64 0)) w'):=
  Js _ _ _ _ (Nat.le_refl _) (Zv.nil _ _)
 have D0:Hid (Below w.heap.size w ((((w3.setCell ⟨w.heap.size+1,2,none⟩ (.int .i64 x)).setCell ⟨w.heap.size+1,3,none⟩ (.int .i64 y)).setCell ⟨w.heap.size+1,4,none⟩ (.int .i64 0)).setCell ⟨w.heap.size+1,4,none⟩ (.int .i64 0))):=((((x0.setCell (by simp) _).setCell (by simp) _).setCell (by simp) _).setCell (by simp) _)
 have L0:w.heap.size+1<w3.heap.size:=by omega
 have a0:∀j,((((w3.setCell ⟨w.heap.size+1,2,none⟩ (.int .i64 x)).setCell ⟨w.heap.size+1,3,none⟩ (.int .i64 y)).setCell ⟨w.heap.size+1,4,none⟩ (.int .i64 0)).setCell ⟨w.heap.size+1,4,none⟩ (.int .i64 0)).cell? ⟨w.heap.size,j,none⟩=w3.cell? ⟨w.heap.size,j,none⟩:=λj=>by
  repeat (rw[Qg _ _ _ _ (by intro hh;injection hh with h2;omega)])
 go_wp2_with fail
 refine(HP.out).mono ?_;rintro e w2 ⟨pv,rfl,M0,r0⟩;obtain⟨b0,y0⟩:=zqz r0
 have m0:((((w3.setCell ⟨w.heap.size+1,2,none⟩ (.int .i64 x)).setCell ⟨w.heap.size+1,3,none⟩ (.int .i64 y)).setCell ⟨w.heap.size+1,4,none⟩ (.int .i64 0)).setCell ⟨w.heap.size+1,4,none⟩ (.int .i64 0)).heap.size=w3.heap.size:=by simp[World.setCell]
 rw[m0]at b0 y0
 have B0:w.heap.size+1<w2.heap.size:=by have:=r0.size;rw[m0]at this;omega
 have n0:Below w.heap.size w w2:=D0.out.trans (r0.mono (by rw[m0];omega))
 have c0:w2.cell? ⟨w.heap.size+1,0,none⟩=some (.int .i64 s[p].toNat):=by rw[b0 _ _ (by omega)];exact f0
 have c1:w2.cell? ⟨w.heap.size+1,1,none⟩=some (.int .i64 v):=by rw[b0 _ _ (by omega)];exact f1
 have c2:w2.cell? ⟨w.heap.size+1,2,none⟩=some (.int .i64 x):=by rw[b0 _ _ (by omega)];exact f2
 have c3:w2.cell? ⟨w.heap.size+1,3,none⟩=some (.int .i64 y):=by rw[b0 _ _ (by omega)];exact f3
 have c4:w2.cell? ⟨w.heap.size+1,4,none⟩=some (.int .i64 0):=by rw[b0 _ _ (by omega)];exact f4
 have c5:w2.cell? ⟨w.heap.size+1,5,none⟩=some (.slice none 0 0):=by rw[b0 _ _ (by omega)];exact f5
 have d0:w2.cell? ⟨w.heap.size,0,none⟩=some (.int .i64 0):=by rw[b0 _ _ (by omega),a0,g0 _ _ (by omega)];simp
 have d1:w2.cell? ⟨w.heap.size,1,none⟩=some (.int .i64 0):=by rw[b0 _ _ (by omega),a0,g0 _ _ (by omega)];simp
 have d2:w2.cell? ⟨w.heap.size,2,none⟩=some (.int .i64 0):=by rw[b0 _ _ (by omega),a0,g0 _ _ (by omega)];simp
 have d3:w2.cell? ⟨w.heap.size,3,none⟩=some (.int .i64 0):=by rw[b0 _ _ (by omega),a0,g0 _ _ (by omega)];simp
 have d4:w2.cell? ⟨w.heap.size,4,none⟩=some (.int .i64 0):=by rw[b0 _ _ (by omega),a0,g0 _ _ (by omega)];simp
 have d5:w2.cell? ⟨w.heap.size,5,none⟩=some (.slice none 0 0):=by rw[b0 _ _ (by omega),a0,g0 _ _ (by omega)];simp
 have T0:∀j,w2.frozen? ⟨w.heap.size,j,none⟩=false:=λj=>by
  rw[y0 _ _ (by omega)];repeat (rw[World.frozen?_setCell])
  rw[C0 _ _ (by omega)];simp
 obtain⟨q0,q1,q2,q3,q4,q5⟩:=zy4 (w1:=w2) (B:=w.heap.size) (.int .i64 s[p].toNat) (.int .i64 v) (.int .i64 x) (.int .i64 y) (.int .i64 0) (.slice none 0 0) d0 d1 d2 d3 d4 d5;obtain⟨pao,pcap,rfl,_,N0,E0⟩:=M0;generalize hps:Yw ⟨s[p].toNat,v,x,y,0,[]⟩=ps at*;have F0:=Zz hps;have G0:=Zz E0;clear hps E0 r0 g0 C0 b0 y0 HP a0 D0 f0 f1 f2 f3 f4 f5 e0 e1 e2 v0;unfold maxLen at N0;go_wp2
 go_loop [23] (λi=>∃j:Nat,j<=ps.length/\i=.int .i64 j/\∀t,t<j->¬(k:Int)<=ps.getD t 0) (λi=>ps.length - (intOf i).toNat)
 case atStart=>exact⟨0,by omega,rfl,λt ht=>by omega⟩
 case round=>
  obtain⟨j,hj,rfl,H0⟩:=hrel;have z0:=Zz H0;clear H0
  by_cases s0:j<ps.length
  ·obtain⟨pb,po,rfl,U0,h0⟩:=G0.out (by intro h;rw[h]at s0;simp at s0)
   have O0:=h0 j s0;obtain⟨xv,hx⟩:∃x,x=ps.getD j 0:=⟨_,rfl⟩;rw[<-hx]at O0;have I0:=Zz hx;have V0:(j:Int)<(ps.length:Int):=(by omega);clear h0 hx
   by_cases P0:(k:Int)<=xv
   ·have j0:Fl.oneFin p k ⟨s[p].toNat,v,x,y,0,[]⟩ n3=(Fl.nd0,-1,(p:Int)):=by
     unfold Fl.oneFin;rw[F0.out,if_pos];rw[List.any_eq_true];exact⟨xv,by rw[I0.out];exact zy2 s0,by simpa using P0⟩
    have A0:=Zz j0;clear j0;go_wp2;exact bodyPost_ret (v:=.tuple #[.agg #[.int .i64 s[p].toNat,.int .i64 v,.int .i64 x,.int .i64 y,.int .i64 0,.slice none 0 0],.int .i64 (-1),.int .i64 p]) (by simp[results,results17,go_sem,q0,q1,q2,q3,q4,q5]) rfl (Jr A0.out rfl ⟨⟨_,_,_,_,_,[]⟩,_,_,_,rfl⟩ (Uu n0))
   go_wp2
   go_round
   case rel=>exact⟨j+1,by omega,by go_num,λt ht=>by
    by_cases h:t<j
    ·exact z0.out t h
    have:t=j:=by omega
    subst this;rw[<-I0.out];omega⟩
   case measure=>simp[intOf];omega
  have j0:Fl.oneFin p k ⟨s[p].toNat,v,x,y,0,[]⟩ n3=(⟨s[p].toNat,v,x,y,0,[]⟩,n3,0):=by
   unfold Fl.oneFin;rw[F0.out,if_neg];rw[Bool.not_eq_true,List.any_eq_false];intro x hx;obtain⟨i,hi,rfl⟩:=List.getElem_of_mem hx;have:=z0.out i (by omega);rw[Qa,Qb hi]at this;simpa using this
  have A0:=Zz j0;clear j0 z0 G0;go_wp2;exact bodyPost_ret (v:=.tuple #[.agg #[.int .i64 s[p].toNat,.int .i64 v,.int .i64 x,.int .i64 y,.int .i64 0,.slice none 0 0],.int .i64 n3,.int .i64 0]) (by simp[results,results17,go_sem,q0,q1,q2,q3,q4,q5]) rfl (zqy A0.out rfl rfl (Zv.nil _ _) (λb hb=>by simp[Value.ownBlock]at hb) (Uu n0))
def one_f3(s:ByteArray)(p k:Nat)(v n b n3 b3:Int)(x y z:Int)(w:World)(hs:s.size<=4611686018427387904)(hp:p<s.size)(hn:¬n<0)(Q0:¬n3<0)
  (H:Hid (∀w,Calls prog 31 #[.int .i64 s[p].toNat] w λe w'=>e=.returned (.int .i64 3)/\w'=w))
  (H1:Hid (∀w,Calls prog 15 #[.string s,.int .i64 ((p:Int)+1)] w λe w'=>e=.returned (.tuple #[.int .i64 v,.int .i64 n,.int .i64 b])/\w'=w))
  (H3:Hid (∀w,Calls prog 16 #[.string s,.int .i64 n,.int .i64 3] w λe w'=>∃lv,e=.returned (.tuple #[lv,.int .i64 n3,.int .i64 b3])/\w'.ownsRow w.heap.size 3 1 lv 3 [.int .i64 x,.int .i64 y,.int .i64 z]/\Below w.heap.size w w')):
  Calls prog 17 #[.string s,.int .i64 p,.int .i64 k] w λe w'=>Uz (Fl.oneFin p k ⟨s[p].toNat,v,x,y,z,[]⟩ n3) w e w':=by
 obtain⟨i0,hi,J0,K0,B0⟩:=info_parts Tryz.infoInt;have b1:((p:Int)==(s.size:Int))=false:=beq_eq_false_iff_ne.2 (by omega);have hc:s[p].toNat<256:=s[p].toNat_lt
 go_enter func17,ntmps17
 go_wp2_with (go_at_call 31;refine(H.out _).mono ?_;rintro e w' ⟨rfl,rfl⟩)
 refine(H1.out _).mono ?_;rintro e w' ⟨rfl,rfl⟩
 go_wp2_with fail
 refine(H3.out _).mono ?_;rintro e w1 ⟨lv,rfl,k0,t0⟩;simp only[World.size_alloc]at k0;have u0:=t0.size;simp only[World.size_alloc]at u0
 go_wp2_with (at_builtin;refine wpList_append_own _ rfl _ _ 30 rfl (w.heap.size+1+1) 3 i0 (.int .i64 0) 1 8 underlying30 hi J0 K0 B0 rfl (by decide) _ _ _ rfl (k0.alloc _) ⟨_,0,none⟩ 2 2 [.int .i64 0,.int .i64 0] rfl rfl zu8 ?c2 ?c3 ?c4 ?c5 ?_)
 case c2=>intro u hu;simp at hu;subst hu;rfl
 case c3=>unfold maxLen;omega
 case c4=>omega
 case c5=>simp;omega
 intro lv' w3 hown' l0 _;have o0:=(((t0.mono (Nat.le_refl _)).alloc (by simp;omega) _).grown l0 (by simp;omega) (λg hg=>by have:=(k0.lt g hg).1;simp;omega));obtain⟨g,gcap,rfl,R0,S0,p0⟩:=zqx hown' (by omega);have e0:=p0 0 (.int .i64 x) (by simp);have e1:=p0 1 (.int .i64 y) (by simp);have e2:=p0 2 (.int .i64 z) (by simp)
 have v0:∀(W:World) (o:Nat) (u:Value) (j:Nat),(W.setCell ⟨w.heap.size+1,o,none⟩ u).cell? ⟨g,j,none⟩=W.cell? ⟨g,j,none⟩:=λW o u j=>by apply Qg;intro hh;injection hh with h2;omega
 have g0:∀b o,b<w.heap.size+1+1->w3.cell? ⟨b,o,none⟩=_:=λb o h=>o0.cell (p:=⟨b,o,none⟩) (by simpa using h);have C0:∀b o,b<w.heap.size+1+1->w3.frozen? ⟨b,o,none⟩=_:=λb o h=>o0.frozen (p:=⟨b,o,none⟩) (by simpa using h);have x0:Below w.heap.size w w3:=((bA).alloc (by simp) _).trans (o0.mono (by simp;omega));clear k0 hown' l0 p0 o0 t0;have f0:(((w3.setCell ⟨w.heap.size+1,2,none⟩ (.int .i64 x)).setCell ⟨w.heap.size+1,3,none⟩ (.int .i64 y)).setCell ⟨w.heap.size+1,4,none⟩ (.int .i64 z)).cell? ⟨w.heap.size+1,0,none⟩=some (.int .i64 s[p].toNat):=((Zl (by decide)).trans ((Zl (by decide)).trans ((Zl (by decide)).trans (by rw[g0 _ _ (by omega)];simp))));have f1:(((w3.setCell ⟨w.heap.size+1,2,none⟩ (.int .i64 x)).setCell ⟨w.heap.size+1,3,none⟩ (.int .i64 y)).setCell ⟨w.heap.size+1,4,none⟩ (.int .i64 z)).cell? ⟨w.heap.size+1,1,none⟩=some (.int .i64 v):=((Zl (by decide)).trans ((Zl (by decide)).trans ((Zl (by decide)).trans (by rw[g0 _ _ (by omega)];simp))));have f2:(((w3.setCell ⟨w.heap.size+1,2,none⟩ (.int .i64 x)).setCell ⟨w.heap.size+1,3,none⟩ (.int .i64 y)).setCell ⟨w.heap.size+1,4,none⟩ (.int .i64 z)).cell? ⟨w.heap.size+1,2,none⟩=some (.int .i64 x):=((Zl (by decide)).trans ((Zl (by decide)).trans (Ye (o:=.int .i64 0) (by rw[g0 _ _ (by omega)];simp))));have f3:(((w3.setCell ⟨w.heap.size+1,2,none⟩ (.int .i64 x)).setCell ⟨w.heap.size+1,3,none⟩ (.int .i64 y)).setCell ⟨w.heap.size+1,4,none⟩ (.int .i64 z)).cell? ⟨w.heap.size+1,3,none⟩=some (.int .i64 y):=((Zl (by decide)).trans (Ye (o:=.int .i64 0) ((Zl (by decide)).trans (by rw[g0 _ _ (by omega)];simp))));have f4:(((w3.setCell ⟨w.heap.size+1,2,none⟩ (.int .i64 x)).setCell ⟨w.heap.size+1,3,none⟩ (.int .i64 y)).setCell ⟨w.heap.size+1,4,none⟩ (.int .i64 z)).cell? ⟨w.heap.size+1,4,none⟩=some (.int .i64 z):=(Ye (o:=.int .i64 0) ((Zl (by decide)).trans ((Zl (by decide)).trans (by rw[g0 _ _ (by omega)];simp))));have f5:(((w3.setCell ⟨w.heap.size+1,2,none⟩ (.int .i64 x)).setCell ⟨w.heap.size+1,3,none⟩ (.int .i64 y)).setCell ⟨w.heap.size+1,4,none⟩ (.int .i64 z)).cell? ⟨w.heap.size+1,5,none⟩=some (.slice none 0 0):=((Zl (by decide)).trans ((Zl (by decide)).trans ((Zl (by decide)).trans (by rw[g0 _ _ (by omega)];simp))))
 have HP:Hid (Calls prog 32 #[Vr ⟨s[p].toNat,v,x,y,z,[]⟩ (.slice none 0 0)] (((w3.setCell ⟨w.heap.size+1,2,none⟩ (.int .i64 x)).setCell ⟨w.heap.size+1,3,none⟩ (.int .i64 y)).setCell ⟨w.heap.size+1,4,none⟩ (.int .i64 z)) λe w'=>∃pv,e=.returned pv/\Zv w'.heap.size w' pv (Yw ⟨s[p].toNat,v,x,y,z,[]⟩)/\Below (((w3.setCell ⟨w.heap.size+1,2,none⟩ (.int .i64 x)).setCell ⟨w.heap.size+1,3,none⟩ (.int .i64 y)).setCell ⟨w.heap.size+1,4,none⟩ (.int .i64 z)).heap.size (((w3.setCell ⟨w.heap.size+1,2,none⟩ (.int .i64 x)).setCell ⟨w.heap.size+1,3,none⟩ (.int .i64 y)).setCell ⟨w.heap.size+1,4,none⟩ (.int .i64 z)) w'):=
  Js _ _ _ _ (Nat.le_refl _) (Zv.nil _ _)
 have D0:Hid (Below w.heap.size w (((w3.setCell ⟨w.heap.size+1,2,none⟩ (.int .i64 x)).setCell ⟨w.heap.size+1,3,none⟩ (.int .i64 y)).setCell ⟨w.heap.size+1,4,none⟩ (.int .i64 z))):=(((x0.setCell (by simp) _).setCell (by simp) _).setCell (by simp) _)
 have L0:w.heap.size+1<w3.heap.size:=by omega
 have a0:∀j,(((w3.setCell ⟨w.heap.size+1,2,none⟩ (.int .i64 x)).setCell ⟨w.heap.size+1,3,none⟩ (.int .i64 y)).setCell ⟨w.heap.size+1,4,none⟩ (.int .i64 z)).cell? ⟨w.heap.size,j,none⟩=w3.cell? ⟨w.heap.size,j,none⟩:=λj=>by
  repeat (rw[Qg _ _ _ _ (by intro hh;injection hh with h2;omega)])
 go_wp2_with fail
 refine(HP.out).mono ?_;rintro e w2 ⟨pv,rfl,M0,r0⟩;obtain⟨b0,y0⟩:=zqz r0
 have m0:(((w3.setCell ⟨w.heap.size+1,2,none⟩ (.int .i64 x)).setCell ⟨w.heap.size+1,3,none⟩ (.int .i64 y)).setCell ⟨w.heap.size+1,4,none⟩ (.int .i64 z)).heap.size=w3.heap.size:=by simp[World.setCell]
 rw[m0]at b0 y0
 have B0:w.heap.size+1<w2.heap.size:=by have:=r0.size;rw[m0]at this;omega
 have n0:Below w.heap.size w w2:=D0.out.trans (r0.mono (by rw[m0];omega))
 have c0:w2.cell? ⟨w.heap.size+1,0,none⟩=some (.int .i64 s[p].toNat):=by rw[b0 _ _ (by omega)];exact f0
 have c1:w2.cell? ⟨w.heap.size+1,1,none⟩=some (.int .i64 v):=by rw[b0 _ _ (by omega)];exact f1
 have c2:w2.cell? ⟨w.heap.size+1,2,none⟩=some (.int .i64 x):=by rw[b0 _ _ (by omega)];exact f2
 have c3:w2.cell? ⟨w.heap.size+1,3,none⟩=some (.int .i64 y):=by rw[b0 _ _ (by omega)];exact f3
 have c4:w2.cell? ⟨w.heap.size+1,4,none⟩=some (.int .i64 z):=by rw[b0 _ _ (by omega)];exact f4
 have c5:w2.cell? ⟨w.heap.size+1,5,none⟩=some (.slice none 0 0):=by rw[b0 _ _ (by omega)];exact f5
 have d0:w2.cell? ⟨w.heap.size,0,none⟩=some (.int .i64 0):=by rw[b0 _ _ (by omega),a0,g0 _ _ (by omega)];simp
 have d1:w2.cell? ⟨w.heap.size,1,none⟩=some (.int .i64 0):=by rw[b0 _ _ (by omega),a0,g0 _ _ (by omega)];simp
 have d2:w2.cell? ⟨w.heap.size,2,none⟩=some (.int .i64 0):=by rw[b0 _ _ (by omega),a0,g0 _ _ (by omega)];simp
 have d3:w2.cell? ⟨w.heap.size,3,none⟩=some (.int .i64 0):=by rw[b0 _ _ (by omega),a0,g0 _ _ (by omega)];simp
 have d4:w2.cell? ⟨w.heap.size,4,none⟩=some (.int .i64 0):=by rw[b0 _ _ (by omega),a0,g0 _ _ (by omega)];simp
 have d5:w2.cell? ⟨w.heap.size,5,none⟩=some (.slice none 0 0):=by rw[b0 _ _ (by omega),a0,g0 _ _ (by omega)];simp
 have T0:∀j,w2.frozen? ⟨w.heap.size,j,none⟩=false:=λj=>by
  rw[y0 _ _ (by omega)];repeat (rw[World.frozen?_setCell])
  rw[C0 _ _ (by omega)];simp
 obtain⟨q0,q1,q2,q3,q4,q5⟩:=zy4 (w1:=w2) (B:=w.heap.size) (.int .i64 s[p].toNat) (.int .i64 v) (.int .i64 x) (.int .i64 y) (.int .i64 z) (.slice none 0 0) d0 d1 d2 d3 d4 d5;obtain⟨pao,pcap,rfl,_,N0,E0⟩:=M0;generalize hps:Yw ⟨s[p].toNat,v,x,y,z,[]⟩=ps at*;have F0:=Zz hps;have G0:=Zz E0;clear hps E0 r0 g0 C0 b0 y0 HP a0 D0 f0 f1 f2 f3 f4 f5 e0 e1 e2 v0;unfold maxLen at N0;go_wp2
 go_loop [23] (λi=>∃j:Nat,j<=ps.length/\i=.int .i64 j/\∀t,t<j->¬(k:Int)<=ps.getD t 0) (λi=>ps.length - (intOf i).toNat)
 case atStart=>exact⟨0,by omega,rfl,λt ht=>by omega⟩
 case round=>
  obtain⟨j,hj,rfl,H0⟩:=hrel;have z0:=Zz H0;clear H0
  by_cases s0:j<ps.length
  ·obtain⟨pb,po,rfl,U0,h0⟩:=G0.out (by intro h;rw[h]at s0;simp at s0)
   have O0:=h0 j s0;obtain⟨xv,hx⟩:∃x,x=ps.getD j 0:=⟨_,rfl⟩;rw[<-hx]at O0;have I0:=Zz hx;have V0:(j:Int)<(ps.length:Int):=(by omega);clear h0 hx
   by_cases P0:(k:Int)<=xv
   ·have j0:Fl.oneFin p k ⟨s[p].toNat,v,x,y,z,[]⟩ n3=(Fl.nd0,-1,(p:Int)):=by
     unfold Fl.oneFin;rw[F0.out,if_pos];rw[List.any_eq_true];exact⟨xv,by rw[I0.out];exact zy2 s0,by simpa using P0⟩
    have A0:=Zz j0;clear j0;go_wp2;exact bodyPost_ret (v:=.tuple #[.agg #[.int .i64 s[p].toNat,.int .i64 v,.int .i64 x,.int .i64 y,.int .i64 z,.slice none 0 0],.int .i64 (-1),.int .i64 p]) (by simp[results,results17,go_sem,q0,q1,q2,q3,q4,q5]) rfl (Jr A0.out rfl ⟨⟨_,_,_,_,_,[]⟩,_,_,_,rfl⟩ (Uu n0))
   go_wp2
   go_round
   case rel=>exact⟨j+1,by omega,by go_num,λt ht=>by
    by_cases h:t<j
    ·exact z0.out t h
    have:t=j:=by omega
    subst this;rw[<-I0.out];omega⟩
   case measure=>simp[intOf];omega
  have j0:Fl.oneFin p k ⟨s[p].toNat,v,x,y,z,[]⟩ n3=(⟨s[p].toNat,v,x,y,z,[]⟩,n3,0):=by
   unfold Fl.oneFin;rw[F0.out,if_neg];rw[Bool.not_eq_true,List.any_eq_false];intro x hx;obtain⟨i,hi,rfl⟩:=List.getElem_of_mem hx;have:=z0.out i (by omega);rw[Qa,Qb hi]at this;simpa using this
  have A0:=Zz j0;clear j0 z0 G0;go_wp2;exact bodyPost_ret (v:=.tuple #[.agg #[.int .i64 s[p].toNat,.int .i64 v,.int .i64 x,.int .i64 y,.int .i64 z,.slice none 0 0],.int .i64 n3,.int .i64 0]) (by simp[results,results17,go_sem,q0,q1,q2,q3,q4,q5]) rfl (zqy A0.out rfl rfl (Zv.nil _ _) (λb hb=>by simp[Value.ownBlock]at hb) (Uu n0))
def zx3(s:ByteArray):s.toList.length=s.size:=by rw[ByteArray.toList_eq];simp
def zm8(s:ByteArray)(p:Nat)(h:p<s.size):s.toList.getD p 0=s[p]:=by
 rw[ByteArray.toList_eq,Qa,Qb (by simpa using h)];rfl
def one_any(s:ByteArray)(p k:Nat)(w:World)(hs:s.size<=4611686018427387904)(hp:p<=s.size):
  Calls prog 17 #[.string s,.int .i64 p,.int .i64 k] w λe w'=>Uz (Fl.one s.toList p k) w e w':=by
 have hlen:=zx3 s
 by_cases h0:p=s.size
 ·have:Fl.one s.toList p k=(Fl.nd0,-1,(p:Int)):=by unfold Fl.one;rw[if_pos (by omega)]
  rw[this,h0];exact one_end s k w hs
 have hp':p<s.size:=by omega
 have hg:=zm8 s p hp';obtain⟨F,hF⟩:∃F,Fl.fields (s[p].toNat:Int)=F:=⟨_,rfl⟩
 have H:Hid (∀w,Calls prog 31 #[.int .i64 s[p].toNat] w λe w'=>e=.returned (.int .i64 F)/\w'=w):=λw=>by have:=zj2 (s[p].toNat:Int) w;rwa [hF]at this
 have f0:=Fl.fields_lt (s[p].toNat:Int);rw[hF]at f0
 by_cases h1:F= -2
 ·have:Fl.one s.toList p k=(Fl.nd0,-1,(p:Int)):=by unfold Fl.one;rw[if_neg (by omega)];simp only[hg,hF];rw[if_pos h1]
  rw[this];subst h1;exact yi3 s p k w hs hp' H
 obtain⟨v,n,b,hv⟩:∃v n b,Fl.num s.toList (p+1)=(v,n,b):=⟨_,_,_,rfl⟩;have H1:Hid (∀w,Calls prog 15 #[.string s,.int .i64 ((p:Int)+1)] w λe w'=>e=.returned (.tuple #[.int .i64 v,.int .i64 n,.int .i64 b])/\w'=w):=λw=>zcw s _ w hs (by omega) (by omega) v n b (by rw[show ((p:Int)+1).toNat=p+1 from by omega];exact hv);have g0:=Fl.num_ok s.toList (p+1) (by omega);rw[hv,hlen]at g0;simp only at g0
 by_cases h2:n<0
 ·have:Fl.one s.toList p k=(Fl.nd0,-1,b):=by unfold Fl.one;rw[if_neg (by omega)];simp only[hg,hF];rw[if_neg h1];simp only[hv];rw[if_pos h2]
  rw[this];exact one_lev s p k F v n b w hs hp' h1 h2 H H1
 by_cases h3:F= -1
 ·subst h3
  obtain⟨v2,n2,b2,c0⟩:∃v m b,Fl.num s.toList n.toNat=(v,m,b):=⟨_,_,_,rfl⟩;have H2:Hid (∀w,Calls prog 15 #[.string s,.int .i64 n] w λe w'=>e=.returned (.tuple #[.int .i64 v2,.int .i64 n2,.int .i64 b2])/\w'=w):=λw=>zcw s _ w hs (by omega) (by omega) v2 n2 b2 c0;have d0:=Fl.num_ok s.toList n.toNat (by omega);rw[c0,hlen]at d0;simp only at d0
  by_cases h4:n2<0
  ·have:Fl.one s.toList p k=(Fl.nd0,-1,b2):=by unfold Fl.one;rw[if_neg (by omega)];simp only[hg,hF];rw[if_neg h1];simp only[hv];rw[if_neg h2,if_pos trivial];simp only[c0];rw[if_pos h4]
   rw[this];exact yu7 s p k v n b v2 n2 b2 b2 w hs hp' h2 (Or.inl ⟨h4,rfl⟩) H H1 H2
  by_cases h5:16<v2
  ·have:Fl.one s.toList p k=(Fl.nd0,-1,n):=by unfold Fl.one;rw[if_neg (by omega)];simp only[hg,hF];rw[if_neg h1];simp only[hv];rw[if_neg h2,if_pos trivial];simp only[c0];rw[if_neg h4,if_pos h5]
   rw[this];exact yu7 s p k v n b v2 n2 b2 n w hs hp' h2 (Or.inr ⟨h4,h5,rfl⟩) H H1 H2
  obtain⟨l,n3,b3,b0⟩:∃l n b,Fl.nums s.toList n2.toNat v2.toNat=(l,n,b):=⟨_,_,_,rfl⟩;have H3:∀w,Calls prog 16 #[.string s,.int .i64 n2,.int .i64 v2] w λe w'=>∃lv,e=.returned (.tuple #[lv,.int .i64 n3,.int .i64 b3])/\w'.ownsRow w.heap.size 3 1 lv l.length (l.map (Value.int .i64))/\Below w.heap.size w w':=λw=>yzx s _ _ w hs (by omega) (by omega) (by omega) (by omega) l n3 b3 b0;have a0:=Fl.nums_ok s.toList n2.toNat v2.toNat (by omega);rw[b0,hlen]at a0;simp only at a0
  by_cases h6:n3<0
  ·have:Fl.one s.toList p k=(Fl.nd0,-1,b3):=by unfold Fl.one;rw[if_neg (by omega)];simp only[hg,hF];rw[if_neg h1];simp only[hv];rw[if_neg h2,if_pos trivial];simp only[c0];rw[if_neg h4,if_neg h5];simp only[b0];rw[if_pos h6]
   rw[this];exact yi4 s p k v n b v2 n2 b2 n3 b3 w hs hp' h2 h4 h5 h6 H H1 H2 (λw=>(H3 w).mono λe w' ⟨lv,a,_,c⟩=>⟨lv,a,c⟩)
  have:Fl.one s.toList p k=Fl.oneFin p k ⟨s[p].toNat,v,0,0,0,l⟩ n3:=by unfold Fl.one;rw[if_neg (by omega)];simp only[hg,hF];rw[if_neg h1];simp only[hv];rw[if_neg h2,if_pos trivial];simp only[c0];rw[if_neg h4,if_neg h5];simp only[b0];rw[if_neg h6]
  rw[this];exact yi5 s p k v n b v2 n2 b2 n3 b3 l w h4 h5 h6 (by omega) hs hp' h2 H1 H H2 H3
 obtain⟨l,n3,b3,b0⟩:∃l m b,Fl.nums s.toList n.toNat F.toNat=(l,m,b):=⟨_,_,_,rfl⟩;have H3:∀w,Calls prog 16 #[.string s,.int .i64 n,.int .i64 F] w λe w'=>∃lv,e=.returned (.tuple #[lv,.int .i64 n3,.int .i64 b3])/\w'.ownsRow w.heap.size 3 1 lv l.length (l.map (Value.int .i64))/\Below w.heap.size w w':=λw=>yzx s _ _ w hs (by omega) (by omega) (by omega) (by omega) l n3 b3 b0;have a0:=Fl.nums_ok s.toList n.toNat F.toNat (by omega);rw[b0,hlen]at a0;simp only at a0
 by_cases h6:n3<0
 ·have:Fl.one s.toList p k=(Fl.nd0,-1,b3):=by unfold Fl.one;rw[if_neg (by omega)];simp only[hg,hF];rw[if_neg h1];simp only[hv];rw[if_neg h2,if_neg h3];simp only[b0];rw[if_pos h6]
  rw[this];exact yi6 s p k F v n b n3 b3 w hs hp' h2 (by omega) f0.2 h6 H H1 (λw=>(H3 w).mono λe w' ⟨lv,a,_,c⟩=>⟨lv,a,c⟩)
 have:Fl.one s.toList p k=Fl.oneFin p k ⟨s[p].toNat,v,l.getD 0 0,l.getD 1 0,l.getD 2 0,[]⟩ n3:=by unfold Fl.one;rw[if_neg (by omega)];simp only[hg,hF];rw[if_neg h1];simp only[hv];rw[if_neg h2,if_neg h3];simp only[b0];rw[if_neg h6]
 rw[this];have e0:l.length=F.toNat:=by
  rcases a0 with h|h
  ·omega
  exact h.2.2.1
 have i0:1<=F:=by
  have:F≠0:=by intro h;rw[h]at hF;unfold Fl.fields at hF;repeat' split at hF<;>omega
  omega
 rcases(show F=1\/F=2\/F=3 from by omega) with rfl|rfl|rfl
 ·match l,e0 with
  |[x],_=>exact one_f1 s p k v n b n3 b3 x w hs hp' h2 h6 H H1 H3
 ·match l,e0 with
  |[x,y],_=>exact one_f2 s p k v n b n3 b3 x y w hs hp' h2 h6 H H1 H3
 match l,e0 with
 |[x,y,z],_=>exact one_f3 s p k v n b n3 b3 x y z w hs hp' h2 h6 H H1 H3
end Go.Proofs.YtaaejabalinojaaGreatDoor
