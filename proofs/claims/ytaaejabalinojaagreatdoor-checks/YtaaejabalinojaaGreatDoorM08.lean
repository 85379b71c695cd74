import Derived.Test.YtaaejabalinojaaGreatDoorM07
set_option linter.all false
set_option maxRecDepth 100000
set_option maxHeartbeats 40000000
namespace Go.Proofs.YtaaejabalinojaaGreatDoor
open Go.RowKit Go.Proofs.Tryz
structure Jx(w:World)(Pb Lq:Nat)(rb:Nat->Nat)(clv hv bv lv nv:Value)(p:Fl.Prog)(ls:List Int)(x:List Fl.Node):Prop where
 hz:Pb<w.heap.size
 p0:w.cell? ⟨Pb,0,none⟩=some (.int .i64 p.n)
 p1:w.cell? ⟨Pb,1,none⟩=some (.slice (some ⟨Lq,0,none⟩) p.n p.n)
 p2:w.cell? ⟨Pb,2,none⟩=some clv
 p3:w.cell? ⟨Pb,3,none⟩=some hv
 p4:w.cell? ⟨Pb,4,none⟩=some (.int .i64 p.locals)
 p5:w.cell? ⟨Pb,5,none⟩=some bv
 ci:Zv w.heap.size w clv (p.cells.map λ(y:Nat)=>(y:Int))
 hi:Zv w.heap.size w hv (p.chans.map λ(y:Nat)=>(y:Int))
 lq:Yj 0 w Lq rb p.n p.leq
 li:Zv w.heap.size w lv ls
 no:Yv w.heap.size w nv x
 bs:Yx 4 (λb=>b<w.heap.size) w bv p.body
 n6:p.n<=6
 ll:p.cells.length<=6/\p.chans.length<=3/\ls.length<=4/\x.length<=200
def Jx.below{w w':World}{Pb Lq:Nat}{rb:Nat->Nat}{clv hv bv lv nv:Value}{p:Fl.Prog}{ls:List Int}{x:List Fl.Node}(h:Jx w Pb Lq rb clv hv bv lv nv p ls x)(hb:Below w.heap.size w w'):Jx w' Pb Lq rb clv hv bv lv nv p ls x:=by
 have hz:=hb.size;have q:∀i,w'.cell? ⟨Pb,i,none⟩=w.cell? ⟨Pb,i,none⟩:=λi=>hb.cell (p:=⟨Pb,i,none⟩) h.hz;exact{hz:=Nat.lt_of_lt_of_le h.hz hz,p0:=(q _).trans h.p0,p1:=(q _).trans h.p1,p2:=(q _).trans h.p2,p3:=(q _).trans h.p3,p4:=(q _).trans h.p4,p5:=(q _).trans h.p5,ci:=(h.ci.below hb).mono hz,hi:=(h.hi.below hb).mono hz,lq:=h.lq.kept (λb _ a0=>hb.block b a0),li:=(h.li.below hb).mono hz,no:=(h.no.below hb).mono hz,bs:=h.bs.kept (λb a0=>Nat.lt_of_lt_of_le a0 hz) (λb a0=>hb.block b a0) 4 _ _,n6:=h.n6,ll:=h.ll}
def Uq(p:Fl.Prog)(ls:List Int)(v:Int):Int:=if v.toNat<(Fl.vars p ls).length then(Fl.vars p ls).getD v.toNat 0 else -1
section
variable{w:World}{Pb Lq:Nat}{rb:Nat->Nat}{clv hv bv lv nv:Value}{p:Fl.Prog}{ls:List Int}{x:List Fl.Node}
def zjz(h:Jx w Pb Lq rb clv hv bv lv nv p ls x)(v:Nat)(g0:(v:Int)<2147483648):
  Calls prog 35 #[.pointer (some ⟨Pb,0,none⟩),.agg #[lv,nv],.int .i64 v] w λe w'=>e=.returned (.int .i64 (Uq p ls v))/\Below w.heap.size w w':=by
 obtain⟨ca,cc,rfl,k1,-,b0⟩:=h.ci;obtain⟨la,lc,rfl,j1,-,c0⟩:=h.li
 obtain⟨na,nc,rfl⟩:∃a c,nv=.slice a x.length c:=by obtain⟨a,c,e,-⟩:=h.no;exact⟨a,c,e⟩
 have hz:=h.hz;have p2:=h.p2;simp only[List.length_map]at p2 k1;obtain⟨m,hm⟩:=nmE (p.cells.length);obtain⟨n,hn⟩:=nmE (ls.length)
 have h0:m<=6:=by rw[hm];exact h.ll.1
 have i0:n<=4:=by rw[hn];exact h.ll.2.2.1
 have j0:(m:Int)<=6:=by omega
 have k0:(n:Int)<=4:=by omega
 have d0:(Fl.vars p ls).length=m+n:=by unfold Fl.vars;simp[hm,hn]
 have k1I:(m:Int)<=(cc:Int):=by omega
 have j1I:(n:Int)<=(lc:Int):=by omega
 rw[<-hm]at p2
 by_cases h1:v<m
 ·have e0:(v:Int)<(m:Int):=by omega
  obtain⟨b,off,rfl,hb,hc⟩:=b0 (by intro hh;simp at hh;rw[hh]at hm;simp at hm;omega);have c1:=hc v (by simp;omega);obtain⟨y,hy⟩:=nmE ((p.cells.map λ(y:Nat)=>(y:Int)).getD v 0);rw[<-hy]at c1;have HE:Hid (Uq p ls v=y):=by
   show _=_;unfold Uq;rw[Int.toNat_natCast,if_pos (by omega),hy];unfold Fl.vars;simp[Qa,List.getElem?_append_left,show v<p.cells.length by omega]
  clear h b0 c0 hc d0 hy hm hn j1 k1;rw[HE.out]
  go_enter func35,ntmps35
  go_wp2;go_ret;exact⟨rfl,bA⟩
 have e0:¬(v:Int)<(m:Int):=by omega
 obtain⟨i,hi⟩:=nmE (v - m)
 have HV:Hid ((v:Int) - (m:Int)=(i:Int)):=by show _=_;omega
 have l0:(i:Int)<2147483648:=by omega
 have a0:ls.length=n:=hn.symm;rw[a0]
 by_cases h2:i<n
 ·have f0:(i:Int)<(n:Int):=by omega
  obtain⟨b,off,rfl,hb,hc⟩:=c0 (by intro hh;rw[hh]at hn;simp at hn;omega);have c1:=hc i (by omega);obtain⟨y,hy⟩:=nmE (ls.getD i 0);rw[<-hy]at c1;have HE:Hid (Uq p ls v=y):=by
   show _=_;unfold Uq;rw[Int.toNat_natCast,if_pos (by omega),hy,hi];unfold Fl.vars;rw[Qa,List.getElem?_append_right (by simp;omega)];simp[Qa,hm]
  clear h b0 c0 hc d0 a0 hy hm hn j1 k1 hi;rw[HE.out]
  go_enter func35,ntmps35
  go_wp2_with (rw[HV.out])
  go_ret;exact⟨rfl,bA⟩
 have f0:¬(i:Int)<(n:Int):=by omega
 have HE:Hid (Uq p ls v= -1):=by show _=_;unfold Uq;rw[Int.toNat_natCast,if_neg (by omega)]
 clear h b0 c0 d0 a0 hm hn j1 k1 hi;rw[HE.out]
 go_enter func35,ntmps35
 go_wp2_with (rw[HV.out])
 go_ret;exact⟨rfl,bA⟩
end
def zxx{w:World}{nv:Value}{x:List Fl.Node}(h:Yv w.heap.size w nv x)(h0:0<x.length):∃b off cap,nv=.slice (some ⟨b,off,none⟩) x.length cap/\∀k,k<x.length->∃ln lc,Jy w b (off+k*6) (Fl.nth x k) (.slice ln (Fl.nth x k).list.length lc):=by
 obtain⟨ao,cap,e,-,-,h4⟩:=h;obtain⟨b,off,e2,hb,hc⟩:=h4 (by rintro rfl;simp at h0);refine⟨b,off,cap,by rw[e,e2],λk hk=>?_⟩;obtain⟨lv,h0,h1,h2,h3,h5,h6,h7⟩:=hc k hk
 obtain⟨la,lc,e3⟩:∃a c,lv=.slice a (Fl.nth x k).list.length c:=by obtain⟨a,c,e,-⟩:=h0;exact⟨a,c,e⟩
 subst e3;exact⟨la,lc,⟨hb,h1,h2,h3,h5,h6,h7,h0⟩⟩
def Jj(w:World)(k l a b c:Int)(ln:Option Addr)(lk lc:Nat):Calls prog 36 #[.agg #[.int .i64 k,.int .i64 l,.int .i64 a,.int .i64 b,.int .i64 c,.slice ln lk lc]] w λe w'=>e=.returned (.bool (decide (k<=2)))/\Below w.heap.size w w':=by
 go_enter func36,ntmps36
 go_wp2;go_ret;exact⟨rfl,bA⟩
def Yz{P:Program}{id:Nat}{Q:Exit->Act->World->Prop}{a:Act}{w:World}{l:List Oper}(G:List (Nat×Nat))(hm:P.follows .mixedOrders=true)(hB:Region.lexB .any l.toArray=true)(hg:(G.all λg=>((l.toArray[g.1]?).bind λx=>x.dst)==some g.2)=true)
  (h:∀ops:Array Oper,(∀g∈G,((ops[g.1]?).bind λx=>x.dst)=some g.2)->wpStill P ops w.drew (λa'=>Q .normal a' w.drew) l a):(Code.region id l.toArray true).wp P Q a w:=
 wp_region_still_lit hm hB (h _ λg hgm=>by have:=List.all_eq_true.1 hg g hgm;simpa using this)
def yk4{B:Nat}{a w:World}(h:Below B a w)(n:Nat):Below B a (w.drewN n):=h.trans ⟨rfl,rfl,rfl,Nat.le_refl _,λ_ _=>rfl⟩
def At(W:World):List (Addr×Value)->Prop
 |[]=>True
 |q::l=>(q.1.block<W.heap.size/\W.cell? q.1=some q.2)/\At W l
def At.below{W W':World}(hb:Below W.heap.size W W'):∀{l:List (Addr×Value)},At W l->At W' l
 |[],_=>trivial
 |_::_,⟨⟨h1,h2⟩,h3⟩=>⟨⟨Nat.lt_of_lt_of_le h1 hb.size,(hb.cell h1).trans h2⟩,At.below hb h3⟩
def At.node{W:World}{l:List (Addr×Value)}(h:At W l)(k lv a b c:Int)(v:Value)(T:TypeId)(N:Nat)(hN:W.heap.size=N):At (W.alloc (.cells #[.int .i64 k,.int .i64 lv,.int .i64 a,.int .i64 b,.int .i64 c,v] T)) ((⟨N,0,none⟩,.int .i64 k)::(⟨N,1,none⟩,.int .i64 lv)::(⟨N,2,none⟩,.int .i64 a)::(⟨N,3,none⟩,.int .i64 b)::(⟨N,4,none⟩,.int .i64 c)::(⟨N,5,none⟩,v)::l):=by
 subst hN;exact⟨⟨by simp,by simp⟩,⟨by simp,by simp⟩,⟨by simp,by simp⟩,⟨by simp,by simp⟩,⟨by simp,by simp⟩,⟨by simp,by simp⟩,h.below (bA)⟩
section
variable{w:World}{nv:Value}{x:List Fl.Node}{ll lc:Nat}{la:Option Addr}
def zxw(a b:Int):decide (a=b)=(a==b):=by
 by_cases h:a=b
 ·subst h;simp
 rw[decide_eq_false h];symm;rw[Qh];exact h
def ris_any(h:Yv w.heap.size w nv x)(k:Int)(hk:0<=k/\k.toNat<x.length)(a:Fl.Atom):
  Calls prog 57 #[.agg #[.slice la ll lc,nv],.int .i64 k,.agg #[.bool a.var,.int .i64 a.v]] w λe w'=>e=.returned (.bool (Fl.ofAtom x k a))/\Below w.heap.size w w':=by
 obtain⟨j,rfl⟩:∃j:Nat,k=(j:Int):=⟨k.toNat,by omega⟩
 have hj:j<x.length:=by omega
 obtain⟨b,off,cap,rfl,b0⟩:=zxx h (by omega);obtain⟨ln,lc2,hn⟩:=b0 j hj
 have d0:(j:Int)<(x.length:Int):=by omega
 have c0:=hn.c0;have c1:=hn.c1;have c2:=hn.c2;have c3:=hn.c3;have c4:=hn.c4;have c5:=hn.c5;have hbz:=hn.hz
 have HE:Hid (∀q,((Fl.nth x j).kind==(if a.var then 1 else 0))=q->Fl.ofAtom x (j:Int) a=(q && ((Fl.nth x j).a==(a.v:Int)))):=λq hq=>by
  unfold Fl.ofAtom Fl.nd;rw[Int.toNat_natCast,zxw,zxw,hq]
 obtain⟨res,a0⟩:=nmE (Fl.ofAtom x (j:Int) a);rw[<-a0]at HE⊢;obtain⟨av,an⟩:=a;clear h hn hk hj a0 b0;generalize Fl.nth x j=n at*
 cases av
 ·cases hq:(n.kind==0)
  all_goals
   have HR:=HE.out _ hq;rw[HR];clear HR HE
   go_enter func57,ntmps57
   go_wp2;go_ret;exact⟨rfl,((bA).alloc (by simp) _).alloc (by simp;omega) _⟩
 cases hq:(n.kind==1)
 all_goals
  have HR:=HE.out _ hq;rw[HR];clear HR HE
  go_enter func57,ntmps57
  go_wp2;go_ret;exact⟨rfl,((bA).alloc (by simp) _).alloc (by simp;omega) _⟩
def yx8(h:Yv w.heap.size w nv x)(k:Int)(hk:0<=k/\k.toNat<x.length)(hx:(Fl.nd x k).kind=2->(0<=(Fl.nd x k).b/\(Fl.nd x k).b.toNat<x.length)/\(0<=(Fl.nd x k).c/\(Fl.nd x k).c.toNat<x.length))(e:Fl.Expr):
  Calls prog 37 #[.agg #[.slice la ll lc,nv],.int .i64 k,exV e] w λr w'=>r=.returned (.bool (Fl.ofExpr x k e))/\Below w.heap.size w w':=by
 have g0:Hid (∀W,Below w.heap.size w W->∀(q:Int) (a:Fl.Atom),(0<=q/\q.toNat<x.length)->Calls prog 57 #[.agg #[.slice la ll lc,nv],.int .i64 q,.agg #[.bool a.var,.int .i64 a.v]] W λe w'=>e=.returned (.bool (Fl.ofAtom x q a))/\Below W.heap.size W w'):=λW hW q a hq=>ris_any ((h.below hW).mono hW.size) q hq a;obtain⟨op,⟨av,an⟩,⟨bv,bn⟩⟩:=e;have HX:Hid ((Fl.nd x k).kind=2->(0<=(Fl.nd x k).b/\(Fl.nd x k).b.toNat<x.length)/\(0<=(Fl.nd x k).c/\(Fl.nd x k).c.toNat<x.length)):=hx;have HE:Hid (Fl.ofExpr x k ⟨op,⟨av,an⟩,⟨bv,bn⟩⟩=if op<0 then Fl.ofAtom x k ⟨av,an⟩ else((Fl.nd x k).kind==2 && ((Fl.nd x k).a==op && (Fl.ofAtom x (Fl.nd x k).b ⟨av,an⟩ && Fl.ofAtom x (Fl.nd x k).c ⟨bv,bn⟩)))):=by
  show _=_;unfold Fl.ofExpr;rw[zxw,zxw]
 unfold exV;obtain⟨res,d0⟩:=nmE (Fl.ofExpr x k ⟨op,⟨av,an⟩,⟨bv,bn⟩⟩);rw[<-d0]at HE⊢;obtain⟨j,rfl⟩:∃j:Nat,k=(j:Int):=⟨k.toNat,by omega⟩
 have hj:j<x.length:=by omega
 obtain⟨b,off,cap,rfl,h0⟩:=zxx h (by omega);obtain⟨ln,lc2,hn⟩:=h0 j hj
 have v0:(j:Int)<(x.length:Int):=by omega
 clear d0 hx h
 by_cases i0:op<0
 ·have HR:Hid (res=Fl.ofAtom x (j:Int) ⟨av,an⟩):=by show _=_;rw[HE.out,if_pos i0]
  have HB:Hid (∀o o',Below w.heap.size w ((w.alloc o).alloc o')):=λo o'=>(bA).alloc (by simp) _;rw[HR.out];clear HE HR HX h0 hn
  go_enter func37,ntmps37
  go_wp2_with fail
  refine(g0.out _ (HB.out _ _) (j:Int) ⟨av,an⟩ hk).mono ?_;rintro e w1 ⟨rfl,a0⟩;have e0:Hid (Below w.heap.size w w1):=(HB.out _ _).trans (a0.mono (HB.out _ _).size);clear a0;go_wp2;go_ret;exact⟨rfl,e0.out⟩
 have HR:Hid (res=((Fl.nth x j).kind==2 && ((Fl.nth x j).a==op && (Fl.ofAtom x (Fl.nth x j).b ⟨av,an⟩ && Fl.ofAtom x (Fl.nth x j).c ⟨bv,bn⟩)))):=by show _=_;rw[HE.out,if_neg i0];rfl
 have j0:Hid ((Fl.nth x j).kind=2->(0<=(Fl.nth x j).b/\(Fl.nth x j).b.toNat<x.length)/\(0<=(Fl.nth x j).c/\(Fl.nth x j).c.toNat<x.length)):=HX.out;have c0:=hn.c0;have c1:=hn.c1;have c2:=hn.c2;have c3:=hn.c3;have c4:=hn.c4;have c5:=hn.c5;have hbz:=hn.hz;have o0:¬op<(0:Int):=i0;have HB:Hid (∀o o' o2,Below w.heap.size w (((w.alloc o).alloc o').alloc o2)):=λo o' o2=>((bA).alloc (by simp) _).alloc (by simp;omega) _;clear HE HX h0 hn;generalize Fl.nth x j=n at*
 cases h2:(n.kind==2)
 ·rw[h2,Bool.false_and]at HR
  have b2:(n.kind !=2)=true:=(by rw[bne,h2];rfl);rw[HR.out];clear HR h2
  go_enter func37,ntmps37
  go_wp2;go_ret;exact⟨rfl,HB.out _ _ _⟩
 cases h3:(n.a==op)
 ·rw[h2,h3,Bool.false_and,Bool.and_false]at HR
  have b2:(n.kind !=2)=false:=(by rw[bne,h2];rfl);have b3:(n.a !=op)=true:=(by rw[bne,h3];rfl);rw[HR.out];clear HR h2 h3
  go_enter func37,ntmps37
  go_wp2;go_ret;exact⟨rfl,HB.out _ _ _⟩
 rw[h2,h3,Bool.true_and,Bool.true_and]at HR;obtain⟨k0,l0⟩:=j0.out (by simpa using h2)
 have b2:(n.kind !=2)=false:=by rw[bne,h2];rfl
 have b3:(n.a !=op)=false:=by rw[bne,h3];rfl
 have p0:Hid (0<=n.b/\n.b.toNat<x.length):=k0;have s0:Hid (0<=n.c/\n.c.toNat<x.length):=l0;rw[HR.out];have m0:Hid (∀W,Below w.heap.size w W->_):=λW hW=>g0.out W hW n.b ⟨av,an⟩ p0.out;generalize Fl.ofAtom x n.b ⟨av,an⟩=ra at m0⊢;clear HR j0 h2 h3 k0 l0
 go_enter func37,ntmps37
 go_wp2_with fail
 obtain⟨W0,b0⟩:=nmE ((((w.alloc (.cells #[.slice la ll lc,.slice (some ⟨b,off,none⟩) x.length cap] 33)).alloc (.cells #[.int .i64 op,.bool av,.int .i64 (an:Int),.bool bv,.int .i64 (bn:Int)] 84)).alloc (.cells #[.int .i64 n.kind,.int .i64 n.level,.int .i64 n.a,.int .i64 n.b,.int .i64 n.c,.slice ln n.list.length lc2] 59)))
 have q0:W0.cell? ⟨w.heap.size,0,none⟩=some (.slice la ll lc):=by rw[b0];go_simp
 have q1:W0.cell? ⟨w.heap.size,1,none⟩=some (.slice (some ⟨b,off,none⟩) x.length cap):=by rw[b0];go_simp
 have q3:W0.cell? ⟨w.heap.size+1,3,none⟩=some (.bool bv):=by rw[b0];go_simp
 have q4:W0.cell? ⟨w.heap.size+1,4,none⟩=some (.int .i64 (bn:Int)):=by rw[b0];go_simp
 have qc:W0.cell? ⟨w.heap.size+1+1,4,none⟩=some (.int .i64 n.c):=by rw[b0];go_simp
 have t0:w.heap.size+3=W0.heap.size:=by rw[b0];simp
 have f0:Hid (Below w.heap.size w W0):=by show Below _ _ _;rw[b0];exact HB.out _ _ _
 rw[<-b0];clear b0 HB;refine(m0.out _ f0.out).mono ?_;rintro e w1 ⟨rfl,a0⟩;have e0:Hid (Below w.heap.size w w1):=f0.out.trans (a0.mono f0.out.size);have r0:=(a0.cell (p:=⟨w.heap.size,0,none⟩) (by show w.heap.size<_;omega)).trans q0;have r1:=(a0.cell (p:=⟨w.heap.size,1,none⟩) (by show w.heap.size<_;omega)).trans q1;have r3:=(a0.cell (p:=⟨w.heap.size+1,3,none⟩) (by show w.heap.size+1<_;omega)).trans q3;have r4:=(a0.cell (p:=⟨w.heap.size+1,4,none⟩) (by show w.heap.size+1<_;omega)).trans q4;have rc:=(a0.cell (p:=⟨w.heap.size+1+1,4,none⟩) (by show w.heap.size+1+1<_;omega)).trans qc;clear a0 q0 q1 q3 q4 qc t0 f0
 go_wp2_with fail
 refine(g0.out _ e0.out _ ⟨bv,bn⟩ s0.out).mono ?_;rintro e w2 ⟨rfl,n0⟩;have u0:Hid (Below w.heap.size w w2):=e0.out.trans (n0.mono e0.out.size);clear n0
 cases ra
 all_goals
  go_wp2;go_ret;exact⟨rfl,u0.out⟩
end
structure FwIn(w:World)(Pb Lq:Nat)(rb:Nat->Nat)(bv hv lv nv:Value)(p:Fl.Prog)(ls:List Int)(x:List Fl.Node)(k b off cap lvl:Nat)(la ln:Option Addr)(lcp lc:Nat):Prop where
 rn:nv=.slice (some ⟨b,off,none⟩) x.length cap
 rl:lv=.slice la ls.length lcp
 hz:Pb<w.heap.size
 hl:lvl<p.n/\(lvl:Int)=(Fl.nth x k).level/\(lvl:Int)<(p.n:Int)
 nd:Jy w b (off+k*6) (Fl.nth x k) (.slice ln (Fl.nth x k).list.length lc)
 al:∀j,j<x.length->∃ln lc,Jy w b (off+j*6) (Fl.nth x j) (.slice ln (Fl.nth x j).list.length lc)
 lz:Lq<w.heap.size/\∀i,i<p.n->rb i<w.heap.size
structure Jw(w W:World)(lv nv ll:Value)(n:Fl.Node):Prop where
 be:Below w.heap.size w W
 sz:w.heap.size<W.heap.size/\w.heap.size+1<W.heap.size
 s0:W.cell? ⟨w.heap.size,0,none⟩=some lv
 s1:W.cell? ⟨w.heap.size,1,none⟩=some nv
 t0:W.cell? ⟨w.heap.size+1,0,none⟩=some (.int .i64 n.kind)
 t1:W.cell? ⟨w.heap.size+1,1,none⟩=some (.int .i64 n.level)
 t2:W.cell? ⟨w.heap.size+1,2,none⟩=some (.int .i64 n.a)
 t3:W.cell? ⟨w.heap.size+1,3,none⟩=some (.int .i64 n.b)
 t4:W.cell? ⟨w.heap.size+1,4,none⟩=some (.int .i64 n.c)
 t5:W.cell? ⟨w.heap.size+1,5,none⟩=some ll
def Jw.new(w:World)(lv nv ll:Value)(n:Fl.Node):Jw w ((w.alloc (.cells #[lv,nv] 33)).alloc (.cells #[.int .i64 n.kind,.int .i64 n.level,.int .i64 n.a,.int .i64 n.b,.int .i64 n.c,ll] 59)).drew.drew lv nv ll n:=
 ⟨((bA).alloc (by simp) _).drew.drew,by simp;omega,by simp,by simp,by simp,by simp,by simp,by simp,by simp,by simp⟩
def Jw.below{w W W':World}{lv nv ll:Value}{n:Fl.Node}(h:Jw w W lv nv ll n)(hb:Below W.heap.size W W'):Jw w W' lv nv ll n:=by
 have q:∀i j,i<W.heap.size->W'.cell? ⟨i,j,none⟩=W.cell? ⟨i,j,none⟩:=λi j hi=>hb.cell (p:=⟨i,j,none⟩) hi;have hz:=hb.size;obtain⟨h1,⟨h2,h3⟩,s0,s1,t0,t1,t2,t3,t4,t5⟩:=h;exact⟨h1.trans (hb.mono h1.size),by omega,(q _ _ h2).trans s0,(q _ _ h2).trans s1,(q _ _ h3).trans t0,(q _ _ h3).trans t1,(q _ _ h3).trans t2,(q _ _ h3).trans t3,(q _ _ h3).trans t4,(q _ _ h3).trans t5⟩
section
variable{w:World}{Pb Lq:Nat}{rb:Nat->Nat}{clv hv bv lv nv:Value}{p:Fl.Prog}{ls:List Int}{x:List Fl.Node}
def Jx.fw(h:Jx w Pb Lq rb clv hv bv lv nv p ls x)(k:Nat)(hk:k<x.length)(h0:0<=(Fl.nth x k).level)(b0:(Fl.nth x k).level<p.n):∃b off cap lvl la ln lcp lc,FwIn w Pb Lq rb bv hv lv nv p ls x k b off cap lvl la ln lcp lc:=by
 obtain⟨b,off,cap,e,a0⟩:=zxx h.no (by omega);obtain⟨ln,lc,hn⟩:=a0 k hk
 obtain⟨la,lcp,e2⟩:∃a c,lv=.slice a ls.length c:=by obtain⟨a,c,e,-⟩:=h.li;exact⟨a,c,e⟩
 exact⟨b,off,cap,(Fl.nth x k).level.toNat,la,ln,lcp,lc,⟨e,e2,h.hz,⟨by omega,by omega,by omega⟩,hn,a0,h.lq.lt (by omega)⟩⟩
def zdw(h:Jx w Pb Lq rb clv hv bv lv nv p ls x)(k:Nat)(hk:k<x.length)(hl:(p.n:Int)<=(Fl.nth x k).level):
  Calls prog 19 #[.pointer (some ⟨Pb,0,none⟩),.agg #[lv,nv],.int .i64 k] w λe w'=>e=.returned (.bool (Fl.follows p ls x (Fl.nth x k)))/\Below w.heap.size w w':=by
 obtain⟨b,off,cap,rfl,a0⟩:=zxx h.no (by omega);obtain⟨ln,lc,hn⟩:=a0 k hk
 obtain⟨la,lcp,rfl⟩:∃a c,lv=.slice a ls.length c:=by obtain⟨a,c,e,-⟩:=h.li;exact⟨a,c,e⟩
 have hz:=h.hz;have p0:=h.p0;obtain⟨hbz,c0,c1,c2,c3,c4,c5,-⟩:=hn
 have b0:(k:Int)<(x.length:Int):=by omega
 have HE:Hid (Fl.follows p ls x (Fl.nth x k)=false):=by show _=_;unfold Fl.follows;rw[decide_eq_false (by omega)];rfl
 rw[HE.out];clear a0 h;generalize Fl.nth x k=n at*;clear HE
 go_enter func19,ntmps19
 go_wp2_with fail
 go_quiet (fail)
 go_wp2;go_ret;exact⟨rfl,yk4 ((bA).alloc (by simp) _) _⟩
def zb7(h:Jx w Pb Lq rb clv hv bv lv nv p ls x)(k:Nat)(hk:k<x.length)(ho:zw5 p x (Fl.nth x k))(g0:∀y∈Fl.vars p ls,0<=y/\y<p.n)(h0:∀y∈p.chans,y<p.n)(a0:(Fl.nth x k).level<p.n)(k0:(Fl.nth x k).a<2147483648)(b0:(Fl.nth x k).kind=0):
  Calls prog 19 #[.pointer (some ⟨Pb,0,none⟩),.agg #[lv,nv],.int .i64 k] w λe w'=>e=.returned (.bool (Fl.follows p ls x (Fl.nth x k)))/\Below w.heap.size w w':=by
 obtain⟨b,off,cap,lvl,la,ln,lcp,lc,hf⟩:=h.fw k hk ho.lv a0;obtain⟨rfl,rfl,hz,⟨d0,e0,l0⟩,⟨hbz,c0,c1,c2,c3,c4,c5,i0⟩,j0,m0,f0⟩:=hf;have p0:=h.p0;have p1:=h.p1;have q1:=h.lq.c lvl d0
 have n0:(p.n:Int)<=6:=by have:=h.n6;omega
 have o0:(k:Int)<(x.length:Int):=by omega
 rw[<-e0]at c1;have q0:=f0 lvl d0
 have HE:Hid (Fl.follows p ls x (Fl.nth x k)=true):=by show _=_;unfold Fl.follows Fl.ruleOf;rw[decide_eq_true a0,if_pos b0];rfl
 rw[HE.out];rw[b0]at c0;clear j0 h HE ho g0 h0 a0 b0 i0 f0;generalize Fl.nth x k=n at*;clear e0
 go_enter func19,ntmps19
 go_wp2_with fail
 refine Yz [] (by kernel_rfl) (by kernel_rfl) rfl (λops hG=>?_);clear hG
 iterate 7 still_step
 refine wpStill_nil ?_
 go_wp2_with fail
 refine Yz [] (by kernel_rfl) (by kernel_rfl) rfl (λops hG=>?_);clear hG
 iterate 9 still_step
 refine wpStill_nil ?_;go_wp2;go_ret;exact⟨rfl,((bA).alloc (by simp) _).drew.drew⟩
def Jx.named(h:Jx w Pb Lq rb clv hv bv lv nv p ls x){b off:Nat}(a0:∀j,j<x.length->∃ln lc,Jy w b (off+j*6) (Fl.nth x j) (.slice ln (Fl.nth x j).list.length lc)){q:Int}(hq:POk p x q):∃(j l:Nat) (ln:Option Addr) (lc:Nat),q=(j:Int)/\j<x.length/\(j:Int)<(x.length:Int)/\Fl.nd x q=Fl.nth x j/\(Fl.nth x j).level=(l:Int)/\l<p.n/\(l:Int)<(p.n:Int)/\Jy w b (off+j*6) (Fl.nth x j) (.slice ln (Fl.nth x j).list.length lc)/\w.cell? ⟨Lq,l,none⟩=some (.slice (some ⟨rb l,0,none⟩) p.n p.n)/\(∀i,i<p.n->w.cell? ⟨rb l,i,none⟩=some (.bool (p.leq l i)))/\rb l<w.heap.size:=by
 obtain⟨h0,h1,h2,h3,h4⟩:=hq;have e:Fl.nd x q=Fl.nth x q.toNat:=rfl;rw[e]at h2 h3;obtain⟨ln,lc,hn⟩:=a0 q.toNat h1
 have hl:(Fl.nth x q.toNat).level.toNat<p.n:=by omega
 exact⟨q.toNat,(Fl.nth x q.toNat).level.toNat,ln,lc,by omega,h1,by omega,e,by omega,hl,by omega,hn,h.lq.c _ hl,λi hi=>h.lq.r _ _ hl hi,(h.lq.lt (by omega)).2 _ hl⟩
def zv1(k:Int):decide (Fl.role k=0)=decide (k<=2):=by
 unfold Fl.role
 by_cases h:k<=2
 ·simp[h]
 rw[if_neg h]
 by_cases h2:k<=6
 ·simp[h,h2]
 simp[h,h2]
end
section
variable{w:World}{Pb Lq:Nat}{rb:Nat->Nat}{clv hv bv lv nv:Value}{p:Fl.Prog}{ls:List Int}{x:List Fl.Node}
def zb8(h:Jx w Pb Lq rb clv hv bv lv nv p ls x)(k:Nat)(hk:k<x.length)(ho:zw5 p x (Fl.nth x k))(n0:∀y∈Fl.vars p ls,0<=y/\y<p.n)(t0:∀y∈p.chans,y<p.n)(b0:(Fl.nth x k).level<p.n)(o0:(Fl.nth x k).a<2147483648)(d0:(Fl.nth x k).kind=1):
  Calls prog 19 #[.pointer (some ⟨Pb,0,none⟩),.agg #[lv,nv],.int .i64 k] w λe w'=>e=.returned (.bool (Fl.follows p ls x (Fl.nth x k)))/\Below w.heap.size w w':=by
 have q0:Hid (∀W,Below w.heap.size w W->∀v:Nat,(v:Int)<2147483648->Calls prog 35 #[.pointer (some ⟨Pb,0,none⟩),.agg #[lv,nv],.int .i64 v] W λe w'=>e=.returned (.int .i64 (Uq p ls v))/\Below W.heap.size W w'):=λW hW v hv2=>zjz (h.below hW) v hv2;obtain⟨b,off,cap,lvl,la,ln,lcp,lc,hf⟩:=h.fw k hk ho.lv b0;obtain⟨rfl,rfl,hz,⟨j0,g0,y0⟩,⟨hbz,c0,c1,c2,c3,c4,c5,u0⟩,v0,x0,k0⟩:=hf;have p0:=h.p0;have p1:=h.p1;have q1:=h.lq.c lvl j0
 have z0:(p.n:Int)<=6:=by have:=h.n6;omega
 have A0:(k:Int)<(x.length:Int):=by omega
 rw[<-g0]at c1;have B0:=k0 lvl j0;obtain⟨an,e0⟩:∃an:Nat,(an:Int)=(Fl.nth x k).a:=⟨(Fl.nth x k).a.toNat,by have:=ho.k1 d0;omega⟩;have HE:Hid (Fl.follows p ls x (Fl.nth x k)=(decide (an<(Fl.vars p ls).length) && p.leq ((Fl.vars p ls).getD an 0).toNat lvl)):=by
  show _=_;unfold Fl.follows Fl.ruleOf;rw[decide_eq_true b0,if_neg (by omega),if_pos d0,<-e0,<-g0];unfold Fl.under;simp
 have h0:Hid (Uq p ls an=if an<(Fl.vars p ls).length then(Fl.vars p ls).getD an 0 else -1):=by show _=_;unfold Uq;rw[Int.toNat_natCast]
 have a0:Hid (an<(Fl.vars p ls).length->∃y:Nat,(Fl.vars p ls).getD an 0=(y:Int)/\y<p.n/\w.cell? ⟨Lq,y,none⟩=some (.slice (some ⟨rb y,0,none⟩) p.n p.n)/\w.cell? ⟨rb y,lvl,none⟩=some (.bool (p.leq y lvl))/\rb y<w.heap.size):=λb0=>by
  have h1:=n0 (Fl.vars p ls)[an] (List.getElem_mem b0);have e:(Fl.vars p ls).getD an 0=(Fl.vars p ls)[an]:=(by rw[Qa,Qb b0];rfl);have hy:((Fl.vars p ls)[an]).toNat<p.n:=(by omega);exact⟨((Fl.vars p ls)[an]).toNat,by rw[e];omega,hy,h.lq.c _ hy,h.lq.r _ _ hy j0,k0 _ hy⟩
 have r0:Hid (∀W,Below w.heap.size w W->_):=λW hW=>q0.out W hW an (by rw[e0];exact o0);have HL:=Zz g0;have HK:=Zz d0;have HA:=Zz e0;obtain⟨res,f0⟩:=nmE (Fl.follows p ls x (Fl.nth x k));rw[<-f0]at HE⊢;have l0:=Zz p1;rw[d0]at c0;rw[<-e0]at c2;clear v0 h ho n0 t0 b0 d0 u0 k0 g0 f0 e0 o0 q0;generalize Fl.nth x k=n at*
 go_enter func19,ntmps19
 go_wp2_with fail
 refine Yz [] (by kernel_rfl) (by kernel_rfl) rfl (λops hG=>?_);clear hG
 iterate 7 still_step
 refine wpStill_nil ?_
 go_wp2_with fail
 refine Yz [] (by kernel_rfl) (by kernel_rfl) rfl (λops hG=>?_);clear hG
 iterate 9 still_step
 refine wpStill_nil ?_
 go_wp2_with fail
 obtain⟨W0,m0⟩:=nmE (((w.alloc (.cells #[.slice la ls.length lcp,.slice (some ⟨b,off,none⟩) x.length cap] 33)).alloc (.cells #[.int .i64 1,.int .i64 (lvl:Int),.int .i64 (an:Int),.int .i64 n.b,.int .i64 n.c,.slice ln n.list.length lc] 59)).drew.drew);have HF:Hid (Jw w W0 (.slice la ls.length lcp) (.slice (some ⟨b,off,none⟩) x.length cap) (.slice ln n.list.length lc) n):=by
  have h9:=Jw.new w (.slice la ls.length lcp) (.slice (some ⟨b,off,none⟩) x.length cap) (.slice ln n.list.length lc) n;rw[HK.out,<-HL.out,<-HA.out,<-m0]at h9;exact h9
 rw[<-m0];clear p0 p1 c0 c1 c2 c3 c4 c5 q1 m0;refine(r0.out W0 HF.out.be).mono ?_;rintro e w1 ⟨rfl,s0⟩;have i0:Hid (Jw w w1 (.slice la ls.length lcp) (.slice (some ⟨b,off,none⟩) x.length cap) (.slice ln n.list.length lc) n):=HF.out.below s0;clear s0 r0
 by_cases ha:an<(Fl.vars p ls).length
 ·obtain⟨y,hy,C0,y1,y2,y3⟩:=a0.out ha
  rw[h0.out,if_pos ha,hy];have HR:Hid (res=p.leq y lvl):=(by show _=_;rw[HE.out,decide_eq_true ha,hy];rfl);have hb:=i0.out.be;have u1:=i0.out.t1;rw[<-HL.out]at u1;have z1:=(hb.cell (p:=⟨Pb,1,none⟩) hz).trans l0.out;have z2:=(hb.cell (p:=⟨Lq,y,none⟩) x0).trans y1;have z3:=(hb.cell (p:=⟨rb y,lvl,none⟩) y3).trans y2;have D0:(y:Int)<(p.n:Int):=(by omega);generalize p.leq y lvl=rr at*;clear hb y1 y2 HE h0 a0 hy l0 HA HK HL
  go_wp2_with fail
  refine Yz [(2,58)] (by kernel_rfl) (by kernel_rfl) rfl (λops hG=>?_);have g1:=hG (2,58) (by simp);simp only at g1;clear hG
  iterate 16 still_step
  refine wpStill_nil ?_;go_wp2;go_ret;exact⟨cbE HR.out,i0.out.be.drew⟩
 rw[h0.out,if_neg ha]
 have HR:Hid (res=false):=by show _=_;rw[HE.out,decide_eq_false ha];rfl
 clear HE h0 a0 l0 HA HK HL
 go_wp2_with fail
 refine Yz [(2,58)] (by kernel_rfl) (by kernel_rfl) rfl (λops hG=>?_);have g1:=hG (2,58) (by simp);simp only at g1;clear hG
 iterate 16 still_step
 refine wpStill_nil ?_;go_wp2;go_ret;exact⟨cbE HR.out,i0.out.be.drew⟩
end
end Go.Proofs.YtaaejabalinojaaGreatDoor
