import Derived.Test.YtgmbnnpnefniiaaGreatDoorM07
set_option linter.all false
set_option maxRecDepth 100000
set_option maxHeartbeats 40000000
namespace Go.Proofs.YtgmbnnpnefniiaaGreatDoor
open Go.RowKit Go.Proofs.Tryz List World Region Act Fl
variable{w w':World}{base Lq Lb Cb Pb Rl j nb no:Nat}{rb:Nat->Nat}{n:ar}{t:cY}{vv hv lv aB bv:Value}{p:aY}{vs ls:Is}{x:List ar}{o:Oper}{a:Act}{b:Bool}
def Xj(s:aa)(bv ov:Value):Vs:=[I s.kind,I s.x,I s.aq,I s.e.op,.bool s.e.a.var,I s.e.a.v,.bool s.e.b.var,I s.e.b.v,bv,ov]
def Zh:Nat->(Nat->Prop)->World->Value->List aa->Prop
 |0,_,_,v,l=>l=[]/\v=K
 |d+1,S,w,v,l=>∃ao cap,v=A ao l.length cap/\l.length<=cap/\cap<=maxLen/\l.length<=16/\
   (l≠[]->∃b,ao=some (O b 0)/\S b/\∀i,i<l.length->∃bv ov,(∀j,j<10->w.cell? (O b (i*10+j))=some ((Xj (l.getD i noS) bv ov).getD j undef))/\Zh d S w bv (l.getD i noS).aZ/\Zh d S w ov (l.getD i noS).aU)
def Zh.kept{S S':Nat->Prop}{w w':World}(hS:∀b,S b->S' b)(hw:∀b,S b->w'.heap[b]?=w.heap[b]?):∀(d:Nat) (v:Value) (l:List aa),Zh d S w v l->Zh d S' w' v l
 |0,_,_,h=>h
 |d+1,v,l,h=>by
  obtain⟨ao,cap,h1,h2,h3,h4,h5⟩:=h;refine⟨ao,cap,h1,h2,h3,h4,λa0=>?_⟩;obtain⟨b,e,hb,hc⟩:=h5 a0;refine⟨b,e,hS b hb,λi hi=>?_⟩;obtain⟨bv,ov,g1,g2,g3⟩:=hc i hi;exact⟨bv,ov,λj hj=>cQ (hw b hb) (g1 j hj),Zh.kept hS hw d bv _ g2,Zh.kept hS hw d ov _ g3⟩
def Zh.slice{d:Nat}{S:Nat->Prop}{v:Value}{l:List aa}(h:Zh d S w v l):∃a n c,v=A a n c:=by
 cases d with
 |zero=>exact⟨_,_,_,h.2⟩
 |succ d=>obtain⟨ao,c,h1,-⟩:=h;exact⟨_,_,_,h1⟩
def exV(x:dZ):Value:=.agg #[I x.op,.bool x.a.var,I x.a.v,.bool x.b.var,I x.b.v]
structure Yj(base:Nat)(w:World)(Lq:Nat)(rb:Nat->Nat)(n:Nat)(t:cY):Prop where
 c:∀i,i<n->w.cell? (O Lq i)=some (Sq (rb i) 0 n n)
 r:∀i j,i<n->j<n->w.cell? (O (rb i) j)=some (.bool (t i j))
 z:∀i j,i<n->w.frozen? (O (rb i) j)=false
 inj:∀i j,i<n->j<n->i≠j->rb i≠rb j
 ge:base<=Lq/\∀i,i<n->base<=rb i/\rb i≠Lq
def Yj.lt{n:Nat}(h:Yj base w Lq rb n t)(hn:0<n):Lq<w.heap.size/\∀i,i<n->rb i<w.heap.size:=
 ⟨Qe w _ (h.c 0 hn),λi hi=>Qe w _ (h.r i 0 hi hn)⟩
def Yj.kept{n:Nat}(h:Yj base w Lq rb n t)(hk:∀b,base<=b->b<w.heap.size->w'.heap[b]?=w.heap[b]?):Yj base w' Lq rb n t:=
 ⟨λi hi=>cQ (hk _ h.ge.1 (h.lt (by omega)).1) (h.c i hi),λi j hi hj=>cQ (hk _ (h.ge.2 i hi).1 ((h.lt (by omega)).2 i hi)) (h.r i j hi hj),λi j hi=>fQ (hk _ (h.ge.2 i hi).1 ((h.lt (by omega)).2 i hi)) (h.z i j hi),h.inj,h.ge⟩
def Yj.ng{n:Nat}(h:Yj base w Lq rb n t)(hL:0<n->w'.heap[Lq]?=w.heap[Lq]?)(hr:∀i,i<n->w'.heap[rb i]?=w.heap[rb i]?):Yj base w' Lq rb n t:=
 ⟨λi hi=>cQ (hL (by omega)) (h.c i hi),λi j hi hj=>cQ (hr i hi) (h.r i j hi hj),λi j hi=>fQ (hr i hi) (h.z i j hi),h.inj,h.ge⟩
def zj5(k:Nat):Int:=if k<=2 then 0 else if k<=6 then 1 else 2
def ze9(k:Nat):FuncId:=if k=0 then 109 else if k=1 then 110 else if k=2 then 111 else if k=3 then 112 else if k=4 then 113 else if k=5 then 114 else if k=6 then 115 else 116
structure Ye(w:World)(Cb Pb Lb Rl:Nat)(vv nv hv:Value)(p:aY)(vs:Is)(x:List ar):Prop where
 hz:Cb<w.heap.size/\Pb<w.heap.size/\Lb<w.heap.size/\Rl<w.heap.size
 c0:w.cell? (O Cb 0)=some (F Pb)
 c1:w.cell? (O Cb 1)=some vv
 c2:w.cell? (O Cb 2)=some nv
 c3:w.cell? (O Cb 3)=some (Sq Rl 0 8 8)
 p0:w.cell? (O Pb 0)=some (F Lb)
 p2:w.cell? (O Pb 2)=some hv
 la:Jo w Lb p.n p.leq
 vi:Zw w.heap.size w vv vs
 hi:Zw w.heap.size w hv (p.ai.map λ(y:Nat)=>(y:Int))
 no:Zl w.heap.size w nv x
 ru:∀k,k<8->w.cell? (O Rl (k*2))=some (I (zj5 k))/\w.cell? (O Rl (k*2+1))=some (.func (.func (ze9 k)) #[] #[])
 n6:p.n<=6
def Ye.below{w w':World}{Cb Pb Lb Rl:Nat}{vv nv hv:Value}{p:aY}{vs:Is}{x:List ar}(h:Ye w Cb Pb Lb Rl vv nv hv p vs x)(hb:D w w'):Ye w' Cb Pb Lb Rl vv nv hv p vs x:=by
 obtain⟨z1,z2,z3,z4⟩:=h.hz;have hz:=hb.size;have q:∀b i,b<w.heap.size->w'.cell? (O b i)=w.cell? (O b i):=λb i a0=>hb.cell a0;exact{hz:=⟨by omega,by omega,by omega,by omega⟩,c0:=(q _ _ z1).trans h.c0,c1:=(q _ _ z1).trans h.c1,c2:=(q _ _ z1).trans h.c2,c3:=(q _ _ z1).trans h.c3,p0:=(q _ _ z2).trans h.p0,p2:=(q _ _ z2).trans h.p2,la:=h.la.block (hb.block _ z3),vi:=(h.vi.below hb).mono hz,hi:=(h.hi.below hb).mono hz,no:=(h.no.below hb).mono hz,ru:=λk hk=>⟨(q _ _ z4).trans (h.ru k hk).1,(q _ _ z4).trans (h.ru k hk).2⟩,n6:=h.n6}
section
variable{n:Nat}
def yo5(h:Jo w Lb n t)(v:Int):E 107 #[F Lb,I v] w (Rq (.bool (decide (0<=v/\v<n))) w):=by
 have c0:=h.c0;clear h
 by_cases h1:0<=v
 ·by_cases h2:v<n
  ·have e:decide (0<=v/\v<n)=true:=decide_eq_true ⟨h1,h2⟩
   rw[e];clear e
   go_enter func107,ntmps107
   go_wp2;go_ret;exact⟨rfl,rfl⟩
  have e:decide (0<=v/\v<n)=false:=decide_eq_false (λh=>h2 h.2);rw[e];clear e
  go_enter func107,ntmps107
  go_wp2;go_ret;exact⟨rfl,rfl⟩
 have e:decide (0<=v/\v<n)=false:=decide_eq_false (λh=>h1 h.1);rw[e];clear e
 go_enter func107,ntmps107
 go_wp2;go_ret;exact⟨rfl,rfl⟩
def ygx(h:Jo w Lb n t)(hn:n<=6)(a b:Nat)(ha:a<n)(hb:b<n):E 170 #[F Lb,I a,I b] w (Rq (.bool (t a b)) w):=by
 have c:=h.cu a b ha hb
 have a0:(a:Int)<6:=by omega
 have b0:(b:Int)<6:=by omega
 have e:1+6*a+b=1+a*6+b:=by omega
 rw[e]at c;clear h e
 go_enter func170,ntmps170
 go_wp2;go_ret;exact⟨rfl,rfl⟩
end
def yo6(r ro:Nat):decide (r=ro)=(((r:Nat):Int)==(ro:Int)):=by
 by_cases h:r=ro
 ·subst h;simp
 rw[decide_eq_false h];symm;rw[Qh];omega
def yb7(k:Nat):zj5 k=((cC (k:Int):Nat):Int):=by
 unfold zj5 cC
 by_cases h1:k<=2
 ·rw[G h1,G (by omega)];rfl
 by_cases h2:k<=6
 ·rw[U h1,G h2,U (by omega),G (by omega)];rfl
 rw[U h1,U h2,U (by omega),U (by omega)];rfl
section
variable{nv:Value}
def Ye.node(h:Ye w Cb Pb Lb Rl vv nv hv p vs x)(k:Nat)(hk:k<x.length):∃b off cap,nv=Sq b off x.length cap/\b<w.heap.size/\w.cell? (O b (off+k*6))=some (I (nth x k).kind)/\w.cell? (O b (off+k*6+1))=some (I (nth x k).ak):=by
 obtain⟨ao,cap,e,-,-,h4⟩:=h.no;obtain⟨b,off,e2,hb,hc⟩:=h4 (by rintro rfl;simp at hk);obtain⟨lv,-,h5,h6,-⟩:=hc k hk;exact⟨b,off,cap,by rw[e,e2],hb,h5,h6⟩
def ykx(h:Ye w Cb Pb Lb Rl vv nv hv p vs x)(k:Nat)(hk:k<x.length):E 146 #[F Cb,I k] w (Rq (I (nth x k).ak) w):=by
 obtain⟨b,off,cap,rfl,-,-,c1⟩:=h.node k hk;have c2:=h.c2
 have a0:(k:Int)<(x.length:Int):=by omega
 clear h
 go_enter func146,ntmps146
 go_wp2;go_ret;exact⟨rfl,rfl⟩
def is_any(h:Ye w Cb Pb Lb Rl vv nv hv p vs x)(ro:Nat)(k:Nat)(hk:k<x.length)(e0:0<=(nth x k).kind/\(nth x k).kind<=7):E 145 #[F Cb,I ro,I k] w (Rq (.bool (decide (cC (nth x k).kind=ro))) w.drew):=by
 obtain⟨b,off,cap,rfl,-,c0,-⟩:=h.node k hk;have c2:=h.c2;have c3:=h.c3;obtain⟨kd,a0⟩:∃kd:Nat,(kd:Int)=(nth x k).kind:=⟨(nth x k).kind.toNat,by omega⟩
 have f0:kd<8:=by omega
 have cr:=(h.ru kd f0).1
 have c0':w.drew.cell? (O b (off+k*6))=some (I (kd:Int)):=by rw[a0];exact c0
 have h0:(k:Int)<(x.length:Int):=by omega
 have g0:(kd:Int)<8:=by omega
 have HR:Y (decide (cC (nth x k).kind=ro)=(zj5 kd==(ro:Int))):=by
  show _=_;rw[<-a0];rw[yb7];exact yo6 _ _
 obtain⟨rl,d0⟩:=J (zj5 kd);rw[<-d0]at cr HR;obtain⟨aX,b0⟩:=J (decide (cC (nth x k).kind=ro));rw[<-b0]at HR⊢;clear h e0 a0 c0 d0 b0
 go_enter func145,ntmps145
 go_wp2_with fail
 refine Zd (λW=>W.cell? (O Cb 2)=some (Sq b off x.length cap)/\W.cell? (O Cb 3)=some (Sq Rl 0 8 8)/\W.cell? (O Rl (kd*2))=some (I rl)/\W.cell? (O b (off+k*6))=some (I (kd:Int))) [] [] [] ⟨c2,c3,cr,c0'⟩ (by kernel_rfl) (λ_ _ _ _ h=>h) (λops hG=>?_);clear hG c2 c3 cr c0'
 iterate 18 refine Zv rfl (by intros;go_simp<;>rfl) (by go_simp<;>rfl) ?_
 refine Zs ?_;go_wp2;go_ret;exact⟨cbE HR,rfl⟩
def zk0(h:Ye w Cb Pb Lb Rl vv nv hv p vs x)(bK:Nat)(ht:bK<p.n)(v:Value)(ls:Is)(hl:Zw w.heap.size w v ls)(n0:ls.length<=100)(hr:∀y∈ls,0<=y/\y<p.n):E 144 #[F Cb,I bK,v] w (Rq (.bool (ls.all λy=>aO p y bK)) w):=by
 obtain⟨ao,cap,rfl,hc,-,a0⟩:=hl;have c0:=h.c0;have p0:=h.p0;have j0:Y (∀(a:Nat),a<p.n->E 170 #[F Lb,I a,I bK] w (Rq (.bool (p.leq a bK)) w)):=λa ha=>ygx h.la h.n6 a bK ha ht
 have k0:Y (∀i,(hi:i<ls.length)->∃b off,ao=some (O b off)/\∃y:Nat,(y:Int)=ls[i]/\y<p.n/\w.cell? (O b (off+i))=some (I (y:Int))):=λi hi=>by
  obtain⟨b,off,e,-,hc⟩:=a0 (by rintro rfl;simp at hi);have h1:=hr ls[i] (getElem_mem hi);refine⟨b,off,e,ls[i].toNat,by omega,by omega,?_⟩;rw[hc i hi,Qa,Qb hi];simp only[Option.getD_some];rw[show ((ls[i].toNat:Nat):Int)=ls[i] by omega]
 have o0:(ls.length:Int)<=100:=by omega
 have q0:(ls.length:Int)<=(cap:Int):=by omega
 clear h a0 hr
 go_enter func144,ntmps144
 go_wp2_with fail
 go_loopw [11] (λi wr=>wr=w/\∃k:Nat,k<=ls.length/\i=I k/\(ls.take k).all (λy=>aO p y bK)=true) (λi _=>ls.length - (intOf i).toNat)
 case atStart=>exact⟨rfl,0,Nat.zero_le _,rfl,rfl⟩
 case round=>
  obtain⟨h0,k,hk,rfl,aT⟩:=hrel;have b0:=Z aT;rw[h0];clear h0 aT wr
  by_cases f0:k<ls.length
  ·have l0:(k:Int)<(ls.length:Int):=by omega
   obtain⟨b,off,rfl,y,hy,m0,cy⟩:=k0 k f0;obtain⟨yk,g0⟩:=J (ls[k]);have d0:Y (yk∈ls/\ls.take (k+1)=ls.take k++[yk]):=(by rw[g0];exact⟨getElem_mem f0,take_succ_eq_append_getElem f0⟩);have HU:Y (aO p yk bK=p.leq y bK):=(by show _=_;unfold aO;rw[g0,<-hy];simp);have e0:=Z (j0 y m0);generalize p.leq y bK=bb at*;clear hy g0
   go_wp2_with fail
   refine e0.mono ?_;rintro e w1 ⟨rfl,i0⟩;rw[i0];clear i0 w1
   cases bb with
   |false=>
    have HE:Y ((ls.all λy=>aO p y bK)=false):=by
     show _=_;rw[all_eq_false];exact⟨yk,d0.1,by rw[HU.out];simp⟩
    go_wp2;go_ret;exact⟨cbE HE,rfl⟩
   |true=>
    have HN:Y ((ls.take (k+1)).all (λy=>aO p y bK)=true):=by
     show _=_;rw[d0.2,all_append,b0.out,all_cons,HU.out];rfl
    go_wp2
    go_roundw
    case rel=>exact⟨by first|rfl|trivial,k+1,by omega,by go_num,HN⟩
    case measure=>simp[intOf];omega
  have l0:¬(k:Int)<(ls.length:Int):=(by omega);have HE:Y ((ls.all λy=>aO p y bK)=true):=by
   show _=_;have h1:=b0.out;rw[take_of_length_le (by omega)]at h1;exact h1
  go_wp2;go_ret;exact⟨cbE HE,rfl⟩
end
section
variable{P:Program}{ops:Array Oper}{Q:Exit->Act->World->Prop}{S:World->Prop}
def zy9{l:List (Nat×Oper)}{c:Bool}(hg:o.guard=some (j,b))(hy:yielded ops a.tmps j=some c)(a0:(some c==some b)=false)(hS:S w)
  (h:Yo P ops S Q l (a.put o.dst undef) w):Yo P ops S Q ((1,o)::l) a w:=wpList_skip (by simpa [wanted,hg,hy] using a0) ⟨hS,h⟩
def zzy{l:List (Nat×Oper)}(hg:o.guard=some (j,true))(hy:yielded ops a.tmps j=some false)(h:Yo P ops S Q l (a.put o.dst undef) w):Yo P ops S Q ((0,o)::l) a w:=Un hg hy (by decide) h
def Jz{l:List (Nat×Oper)}(hg:o.guard=some (j,true))(hy:yielded ops a.tmps j=some false)(hS:S w)(h:Yo P ops S Q l (a.put o.dst undef) w):Yo P ops S Q ((1,o)::l) a w:=zy9 hg hy (by decide) hS h
def yt5{l:List (Nat×Oper)}(hg:o.guard=some (j,b))(hy:yielded ops a.tmps j=none)(hS:S w)
  (h:Yo P ops S Q l (a.put o.dst undef) w):Yo P ops S Q ((1,o)::l) a w:=wpList_skip (by simp[wanted,hg,hy]) ⟨hS,h⟩
def Yv{l:List (Nat×Oper)}{dst:Option Tmp}{op:Op}{ty:TypeId}{pos:String}{after:Array Edge}{guard:Option (Nat×Bool)}
  (hw:wanted {dst:=dst,op:=op,type:=ty,pos:=pos,after:=after,guard:=guard} (yielded ops a.tmps)=true) (h:wpList P ops (Exit.then (λa1 w1=>S w1/\Yo P ops S Q l a1 w1) Q) [{dst:=dst,op:=op,type:=ty,pos:=pos,after:=after,guard:=none}] a w):
  Yo P ops S Q ((1,{dst:=dst,op:=op,type:=ty,pos:=pos,after:=after,guard:=guard})::l) a w:=Uk hw h
end
structure Jj(w:World)(nb no:Nat)(n:ar)(lv:Value):Prop where
 hz:nb<w.heap.size
 c0:w.cell? (O nb no)=some (I n.kind)
 c1:w.cell? (O nb (no+1))=some (I n.ak)
 c2:w.cell? (O nb (no+2))=some (I n.a)
 c3:w.cell? (O nb (no+3))=some (I n.b)
 c4:w.cell? (O nb (no+4))=some (I n.c)
 c5:w.cell? (O nb (no+5))=some lv
 li:Zw w.heap.size w lv n.ae
def Jj.below{w w':World}{nb no:Nat}{n:ar}{lv:Value}(h:Jj w nb no n lv)(hb:D w w'):Jj w' nb no n lv:=
 have q:∀i,w'.cell? (O nb i)=w.cell? (O nb i):=λi=>hb.cell h.hz
 ⟨Qj h.hz hb.size,(q _).trans h.c0,(q _).trans h.c1,(q _).trans h.c2,(q _).trans h.c3,(q _).trans h.c4,(q _).trans h.c5,(h.li.below hb).mono hb.size⟩
def POk(p:aY)(x:List ar)(j:Int):Prop:=0<=j/\j.toNat<x.length/\0<=(Fl.nd x j).ak/\(Fl.nd x j).ak<p.n/\0<=(Fl.nd x j).kind/\(Fl.nd x j).kind<=7
def yt6(W:World)(y:Int):Zw (W.alloc (.cells #[I y] 3)).heap.size (W.alloc (.cells #[I y] 3)) (Sq W.heap.size 0 1 1) [y]:=
 ⟨_,1,rfl,by simp,by simp[maxLen],λ_=>⟨W.heap.size,0,rfl,by simp,λi hi=>by
  have:i=0:=by simpa using hi
  subst this;simp⟩⟩
def zhw(W:World)(y z:Int):Zw (W.alloc (.cells #[I y,I z] 3)).heap.size (W.alloc (.cells #[I y,I z] 3)) (Sq W.heap.size 0 2 2) [y,z]:=
 ⟨_,2,rfl,by simp,by simp[maxLen],λ_=>⟨W.heap.size,0,rfl,by simp,λi hi=>by
  have:=hi
  match i,this with
  |0,_=>simp
  |1,_=>simp⟩⟩
section
variable{nv:Value}
def zb0(h:Ye w Cb Pb Lb Rl vv nv hv p vs x)(hn:Jj w nb no n lv)(ha:0<=n.a)(hl:0<=n.ak/\n.ak<p.n)(e0:∀y∈vs,0<=y/\y<p.n)(p0:vs.length<=100):
  E 110 #[F Cb,Pp nb no] w (Rw (.bool (decide (n.a<vs.length) && aO p (vs.getD n.a.toNat 0) n.ak)) w):=by
 obtain⟨lvl,b0⟩:∃lvl:Nat,(lvl:Int)=n.ak:=⟨n.ak.toNat,by omega⟩;obtain⟨an,f0⟩:∃an:Nat,(an:Int)=n.a:=⟨n.a.toNat,by omega⟩;have n0:=h.hz.1;have j0:=hn.hz;obtain⟨ao,cap,g0,hc,-,a0⟩:=h.vi;have c1:=h.c1;rw[g0]at c1;have n1:=hn.c1;have n2:=hn.c2;rw[<-b0]at n1;rw[<-f0]at n2
 have o0:(vs.length:Int)<=100:=by omega
 by_cases d0:an<vs.length
 ·obtain⟨b,off,rfl,hbz,k0⟩:=a0 (by rintro rfl;simp at d0)
  have cy:=k0 an d0;obtain⟨y,hy⟩:=J (vs.getD an 0);have l0:0<=y/\y<p.n:=by
   have h1:=e0 vs[an] (getElem_mem d0);rw[hy,Qa,Qb d0];exact h1
  rw[<-hy]at cy;have h0:(an:Int)<(vs.length:Int):=(by omega);have HS:Y (∀W,D w W->M W nb (no+2) (I (an:Nat))/\M W Cb 1 (Sq b off vs.length cap)/\M W nb (no+1) (I (lvl:Nat))/\M W b (off+an) (I y)):=λW hW=>⟨cT hW j0 n2,cT hW n0 c1,cT hW j0 n1,cT hW hbz cy⟩;have HB:Y (D w (w.alloc (.cells #[I y] 3)).drew):=(bA).drew;have HU:Y (E 144 #[F Cb,I (lvl:Nat),Sq w.heap.size 0 1 1] (w.alloc (.cells #[I y] 3)).drew λe w'=>e=.returned (.bool (aO p y n.ak))/\w'=(w.alloc (.cells #[I y] 3)).drew):=by
   have h1:=zk0 (h.below HB) lvl (by omega) (Sq w.heap.size 0 1 1) [y] (yt6 w y) (by simp) (by intro z hz;simp at hz;subst hz;exact l0);show Calls _ _ _ _ _;rw[<-b0];simpa using h1
  have c0:Y ((decide (n.a<vs.length) && aO p (vs.getD n.a.toNat 0) n.ak)=aO p y n.ak):=by
   show _=_;rw[decide_eq_true (show n.a<vs.length by omega),Bool.true_and,hy,show n.a.toNat=an by omega]
  generalize aO p y n.ak=aX at*;clear h hn a0 k0 e0 hy l0 b0 f0 c1 n1 n2 cy g0
  go_enter func110,ntmps110
  go_wp2_with fail
  refine Zk HS (dA) [26,27] [] [(10,15)] (by kernel_rfl) (λ_ _ _ _ h=>h) (λops ⟨g1,_⟩=>?_)
  iterate 26 refine Zv (by first|rfl|simp[wanted,yielded,g1,put]) (by intros;go_simp<;>rfl) (by go_simp<;>rfl) ?_
  refine Yv (by simp[wanted,yielded,g1,put]) ?_
  go_wp2_with fail
  refine⟨HS _ HB,?_⟩;refine Yv (by simp[wanted,yielded,g1,put]) ?_
  go_wp2_with fail
  refine HU.mono ?_;rintro e W1 ⟨rfl,m0⟩;rw[m0];clear m0 W1
  go_wp2_with fail
  refine⟨HS _ HB,?_⟩
  iterate 2 refine Zv rfl (by intros;go_simp<;>rfl) (by go_simp<;>rfl) ?_
  refine Zs ?_;go_wp2;go_ret;exact⟨cbE c0,HB⟩
 have h0:¬(an:Int)<(vs.length:Int):=by omega
 have i0:Y (M w.drew nb (no+2) (I (an:Nat))/\M w.drew Cb 1 (A ao vs.length cap)/\M w.drew nb (no+1) (I (lvl:Nat))/\True):=⟨n2,c1,n1,trivial⟩;have c0:Y ((decide (n.a<vs.length) && aO p (vs.getD n.a.toNat 0) n.ak)=false):=by
  show _=_;rw[decide_eq_false (show ¬n.a<vs.length by omega),Bool.false_and]
 clear h hn a0 e0 b0 f0 c1 n1 n2 g0
 go_enter func110,ntmps110
 go_wp2_with fail
 refine Zd (λW=>M W nb (no+2) (I (an:Nat))/\M W Cb 1 (A ao vs.length cap)/\M W nb (no+1) (I (lvl:Nat))/\True) [26,27] [] [(10,15)] i0 (by kernel_rfl) (λ_ _ _ _ h=>h) (λops ⟨g1,_⟩=>?_)
 iterate 11 refine Zv rfl (by intros;go_simp<;>rfl) (by go_simp<;>rfl) ?_
 iterate 15
  refine Un rfl (c:=false) (by simp[yielded,g1,put]) (by decide) ?_
 refine zy9 rfl (c:=false) (by simp[yielded,g1,put]) (by decide) i0 ?_;refine zy9 rfl (c:=false) (by simp[yielded,g1,put]) (by decide) i0 ?_
 iterate 2 refine Zv rfl (by intros;go_simp<;>rfl) (by go_simp<;>rfl) ?_
 refine Zs ?_;go_wp2;go_ret;exact⟨cbE c0,dA⟩
end
section
variable{nv:Value}
def zj6(h:Ye w Cb Pb Lb Rl vv nv hv p vs x)(ro:Nat)(j:Int)(hj:POk p x j)(jn:Nat)(a0:(jn:Int)=j):E 145 #[F Cb,I ro,I jn] w (Rq (.bool (decide (cC (Fl.nd x j).kind=ro))) w.drew):=by
 have e:jn=j.toNat:=by omega
 subst e;exact is_any h ro j.toNat hj.2.1 ⟨hj.2.2.2.2.1,hj.2.2.2.2.2⟩
def zt0(h:Ye w Cb Pb Lb Rl vv nv hv p vs x)(j:Int)(hj:POk p x j)(jn:Nat)(a0:(jn:Int)=j):E 146 #[F Cb,I jn] w (Rq (I (Fl.nd x j).ak) w):=by
 have e:jn=j.toNat:=by omega
 subst e;exact ykx h j.toNat hj.2.1
def zk1(h:Ye w Cb Pb Lb Rl vv nv hv p vs x)(bK:Int)(ht:0<=bK/\bK<p.n)(y z:Int)(hy:0<=y/\y<p.n)(hz:0<=z/\z<p.n)(v:Value)(a0:Zw w.heap.size w v [y,z]):E 144 #[F Cb,I bK,v] w (Rq (.bool (aO p y bK && aO p z bK)) w):=by
 obtain⟨tn,b0⟩:∃tn:Nat,(tn:Int)=bK:=⟨bK.toNat,by omega⟩;have h1:=zk0 h tn (by omega) v [y,z] a0 (by simp) (by intro u hu;simp at hu;rcases hu with rfl|rfl;exact hy;exact hz);rw[b0]at h1;simpa using h1
def yz3(h:Ye w Cb Pb Lb Rl vv nv hv p vs x)(hn:Jj w nb no n lv)(ha:0<=n.a)(hb:POk p x n.b)(hl:0<=n.ak/\n.ak<p.n)(lvv:Value)(ls:Is)(l0:Zw w.heap.size w lvv ls)(g0:∀y∈ls,0<=y/\y<p.n)(p0:ls.length<=100):
  E 147 #[F Cb,Pp nb no,lvv] w (Rw (.bool (eu p x n ls)) w):=by
 obtain⟨an,h0⟩:∃an:Nat,(an:Int)=n.a:=⟨n.a.toNat,by omega⟩;obtain⟨bn,e0⟩:∃bn:Nat,(bn:Int)=n.b:=⟨n.b.toNat,by have:=hb.1;omega⟩;have d0:=hn.hz;obtain⟨ao,cap,rfl,hc,-,b0⟩:=l0;have n1:=hn.c1;have n2:=hn.c2;have n3:=hn.c3;rw[<-h0]at n2;rw[<-e0]at n3
 have m0:(ls.length:Int)<=100:=by omega
 have n0:Y (∀W,D w W->E 145 #[F Cb,I 0,I bn] W (Rq (.bool (decide (cC (Fl.nd x n.b).kind=0))) W.drew)):=λW hW=>zj6 (h.below hW) 0 n.b hb bn e0;have o0:Y (∀W,D w W->E 146 #[F Cb,I bn] W (Rq (I (Fl.nd x n.b).ak) W)):=λW hW=>zt0 (h.below hW) n.b hb bn e0
 by_cases f0:an<ls.length
 ·obtain⟨b,off,rfl,hbz,j0⟩:=b0 (by rintro rfl;simp at f0)
  have cy:=j0 an f0;obtain⟨y,hy⟩:=J (ls.getD an 0);have k0:0<=y/\y<p.n:=by
   have h1:=g0 ls[an] (getElem_mem f0);rw[hy,Qa,Qb f0];exact h1
  rw[<-hy]at cy;have i0:(an:Int)<(ls.length:Int):=(by omega);have HS:Y (∀W,D w W->M W nb (no+1) (I n.ak)/\M W nb (no+2) (I (an:Nat))/\M W nb (no+3) (I (bn:Nat))/\M W b (off+an) (I y)/\True):=λW hW=>⟨cT hW d0 n1,cT hW d0 n2,cT hW d0 n3,cT hW hbz cy,trivial⟩;have HU:Y (∀W v,D w W->Zw W.heap.size W v [(Fl.nd x n.b).ak,n.ak]->E 144 #[F Cb,I y,v] W (Rq (.bool (aO p (Fl.nd x n.b).ak y && aO p n.ak y)) W)):=λW v hW hv2=>zk1 (h.below hW) y k0 _ _ ⟨hb.2.2.1,hb.2.2.2.1⟩ hl v hv2;have a0:Y (eu p x n ls=(decide (cC (Fl.nd x n.b).kind=0) && (aO p (Fl.nd x n.b).ak y && aO p n.ak y))):=by
   show _=_;unfold eu;rw[decide_eq_true (show n.a<ls.length by omega),Bool.true_and,hy,show n.a.toNat=an by omega]
  generalize decide (cC (Fl.nd x n.b).kind=0)=isv at*;generalize (aO p (Fl.nd x n.b).ak y && aO p n.ak y)=un at*;generalize (Fl.nd x n.b).ak=lb at*;obtain⟨aX,c0⟩:=J (eu p x n ls);rw[<-c0]at a0⊢;clear h hn b0 j0 g0 hy k0 h0 n1 n2 n3 cy hb e0 c0
  go_enter func147,ntmps147
  go_wp2_with fail
  refine Vq HS dA [(0,0),(0,1),(0,2),(0,3),(0,4),(0,5),(0,6),(0,7),(0,8),(0,9),(0,10),(0,11),(0,12),(1,13),(0,14),(0,15),(0,16),(0,17),(0,18),(0,19),(0,20),(0,21),(0,22),(0,23),(0,24),(0,25),(0,26),(0,27),(0,28),(0,30),(0,31),(0,32),(0,33),(1,29),(1,34),(1,35),(0,36),(0,37)] [] [(7,14),(15,22)] (by kernel_rfl) (λ_ _ _ _ h=>h) (λops ⟨g1,g2,_⟩=>?_)
  iterate 13 refine Zv (by first|rfl|simp[wanted,yielded,g1,put]) (by intros;go_simp<;>rfl) (by go_simp<;>rfl) ?_
  refine Yv (by simp[wanted,yielded,g1,put]) ?_
  go_wp2_with fail
  refine(n0 _ dA).mono ?_;rintro _ _ ⟨rfl,rfl⟩
  go_wp2_with fail
  refine⟨HS _ dA.drew,?_⟩
  cases isv
  ·repeat first|refine zzy rfl (by simp[yielded,g2,put]) ?_|refine Jz rfl (by simp[yielded,g2,put]) (HS _ dA.drew) ?_|refine Zv rfl (by intros;go_simp<;>rfl) (by go_simp<;>rfl) ?_
   refine Zs ?_;go_wp2;go_ret;exact⟨cbE a0,dA.drew⟩
  iterate 19 refine Zv (by first|rfl|simp[wanted,yielded,g2,put]) (by intros;go_simp<;>rfl) (by go_simp<;>rfl) ?_
  refine Yv (by simp[wanted,yielded,g2,put]) ?_
  go_wp2_with fail
  refine(o0 _ dA.drew).mono ?_;rintro _ _ ⟨rfl,rfl⟩
  go_wp2_with fail
  refine⟨HS _ dA.drew,?_⟩;refine Yv (by simp[wanted,yielded,g2,put]) ?_
  go_wp2_with fail
  refine⟨HS _ (bA).drew.drew,?_⟩;refine Yv (by simp[wanted,yielded,g2,put]) ?_
  go_wp2_with fail
  refine(HU _ _ (bA).drew.drew (zhw w _ _)).mono ?_;rintro _ _ ⟨rfl,rfl⟩
  go_wp2_with fail
  refine⟨HS _ (bA).drew.drew,?_⟩
  iterate 2 refine Zv rfl (by intros;go_simp<;>rfl) (by go_simp<;>rfl) ?_
  refine Zs ?_;go_wp2;go_ret;exact⟨cbE a0,(bA).drew.drew⟩
 have i0:¬(an:Int)<(ls.length:Int):=by omega
 have HS:Y (∀W,D w W->M W nb (no+1) (I n.ak)/\M W nb (no+2) (I (an:Nat))/\M W nb (no+3) (I (bn:Nat))/\True/\True):=λW hW=>⟨cT hW d0 n1,cT hW d0 n2,cT hW d0 n3,trivial,trivial⟩;have a0:Y (eu p x n ls=false):=by
  show _=_;unfold eu;rw[decide_eq_false (show ¬n.a<ls.length by omega),Bool.false_and]
 obtain⟨aX,c0⟩:=J (eu p x n ls);rw[<-c0]at a0⊢;clear h hn b0 g0 h0 n1 n2 n3 hb e0 c0
 go_enter func147,ntmps147
 go_wp2_with fail
 refine Vq HS dA [(0,0),(0,1),(0,2),(0,3),(0,4),(0,5),(0,6),(0,7),(0,8),(0,9),(0,10),(0,11),(0,12),(1,13),(0,14),(0,15),(0,16),(0,17),(0,18),(0,19),(0,20),(0,21),(0,22),(0,23),(0,24),(0,25),(0,26),(0,27),(0,28),(0,30),(0,31),(0,32),(0,33),(1,29),(1,34),(1,35),(0,36),(0,37)] [] [(7,14),(15,22)] (by kernel_rfl) (λ_ _ _ _ h=>h) (λops ⟨g1,g2,_⟩=>?_)
 repeat first|refine zzy rfl (by simp[yielded,g1,g2,put]) ?_|refine Jz rfl (by simp[yielded,g1,g2,put]) (HS _ dA) ?_|refine Zv rfl (by intros;go_simp<;>rfl) (by go_simp<;>rfl) ?_
 refine Zs ?_;go_wp2;go_ret;exact⟨cbE a0,dA⟩
end
section
variable{nv:Value}
def znz(h:Ye w Cb Pb Lb Rl vv nv hv p vs x)(hn:Jj w nb no n lv)(ha:POk p x n.a)(within:Int)(hw:POk p x within)(hl:0<=n.ak/\n.ak<p.n):
  E 148 #[F Cb,Pp nb no,I within] w (Rw (.bool (dw p x n within)) w):=by
 obtain⟨an,c0⟩:∃an:Nat,(an:Int)=n.a:=⟨n.a.toNat,by have:=ha.1;omega⟩;obtain⟨wn,d0⟩:∃wn:Nat,(wn:Int)=within:=⟨within.toNat,by have:=hw.1;omega⟩;have e0:=hn.hz;have n1:=hn.c1;have n2:=hn.c2;rw[<-c0]at n2;have f0:Y (∀W,D w W->E 145 #[F Cb,I 0,I an] W (Rq (.bool (decide (cC (Fl.nd x n.a).kind=0))) W.drew)):=λW hW=>zj6 (h.below hW) 0 n.a ha an c0;have g0:Y (∀W,D w W->E 145 #[F Cb,I 2,I wn] W (Rq (.bool (decide (cC (Fl.nd x within).kind=2))) W.drew)):=λW hW=>zj6 (h.below hW) 2 within hw wn d0;have h0:Y (∀W,D w W->E 146 #[F Cb,I an] W (Rq (I (Fl.nd x n.a).ak) W)):=λW hW=>zt0 (h.below hW) n.a ha an c0;have i0:Y (∀W,D w W->E 146 #[F Cb,I wn] W (Rq (I (Fl.nd x within).ak) W)):=λW hW=>zt0 (h.below hW) within hw wn d0;have HS:Y (∀W,D w W->M W nb (no+1) (I n.ak)/\M W nb (no+2) (I (an:Nat))/\True/\True/\True):=λW hW=>⟨cT hW e0 n1,cT hW e0 n2,trivial,trivial,trivial⟩;have HU:Y (∀W v,D w W->Zw W.heap.size W v [(Fl.nd x n.a).ak,n.ak]->E 144 #[F Cb,I (Fl.nd x within).ak,v] W (Rq (.bool (aO p (Fl.nd x n.a).ak (Fl.nd x within).ak && aO p n.ak (Fl.nd x within).ak)) W)):=λW v hW hv2=>zk1 (h.below hW) _ ⟨hw.2.2.1,hw.2.2.2.1⟩ _ _ ⟨ha.2.2.1,ha.2.2.2.1⟩ hl v hv2;have a0:Y (dw p x n within=(decide (cC (Fl.nd x n.a).kind=0) && (decide (cC (Fl.nd x within).kind=2) && (aO p (Fl.nd x n.a).ak (Fl.nd x within).ak && aO p n.ak (Fl.nd x within).ak)))):=rfl;generalize decide (cC (Fl.nd x n.a).kind=0)=isa at*;generalize decide (cC (Fl.nd x within).kind=2)=isw at*;generalize (aO p (Fl.nd x n.a).ak (Fl.nd x within).ak && aO p n.ak (Fl.nd x within).ak)=un at*;generalize (Fl.nd x n.a).ak=la at*;generalize (Fl.nd x within).ak=lw at*;obtain⟨aX,b0⟩:=J (dw p x n within);rw[<-b0]at a0⊢;rw[<-d0];clear h hn c0 n1 n2 ha hw d0 b0
 go_enter func148,ntmps148
 go_wp2_with fail
 refine Vq HS dA [(0,0),(0,1),(0,2),(0,3),(0,4),(1,5),(0,6),(0,7),(0,8),(1,9),(0,10),(0,11),(0,12),(0,13),(0,14),(0,16),(0,17),(0,18),(0,19),(0,20),(0,22),(0,23),(0,24),(0,25),(1,15),(1,21),(1,26),(1,27),(0,28),(0,29)] [] [(6,13),(11,18)] (by kernel_rfl) (λ_ _ _ _ h=>h) (λops ⟨g1,g2,_⟩=>?_)
 iterate 5 refine Zv rfl (by intros;go_simp<;>rfl) (by go_simp<;>rfl) ?_
 refine Zm ?_
 go_wp2_with fail
 refine(f0 _ dA).mono ?_;rintro _ _ ⟨rfl,rfl⟩
 go_wp2_with fail
 refine⟨HS _ dA.drew,?_⟩
 cases isa
 ·repeat first|refine zzy rfl (by simp[yielded,g1,g2,put]) ?_|refine Jz rfl (by simp[yielded,g1,g2,put]) (HS _ dA.drew) ?_|refine Zv rfl (by intros;go_simp<;>rfl) (by go_simp<;>rfl) ?_
  refine Zs ?_;go_wp2;go_ret;exact⟨cbE a0,dA.drew⟩
 iterate 3 refine Zv (by first|rfl|simp[wanted,yielded,g1,put]) (by intros;go_simp<;>rfl) (by go_simp<;>rfl) ?_
 refine Yv (by simp[wanted,yielded,g1,put]) ?_
 go_wp2_with fail
 refine(g0 _ dA.drew).mono ?_;rintro _ _ ⟨rfl,rfl⟩
 go_wp2_with fail
 refine⟨HS _ dA.drew.drew,?_⟩
 cases isw
 ·repeat first|refine zzy rfl (by simp[yielded,g2,put]) ?_|refine Jz rfl (by simp[yielded,g2,put]) (HS _ dA.drew.drew) ?_|refine Zv rfl (by intros;go_simp<;>rfl) (by go_simp<;>rfl) ?_
  refine Zs ?_;go_wp2;go_ret;exact⟨cbE a0,dA.drew.drew⟩
 iterate 14 refine Zv (by first|rfl|simp[wanted,yielded,g2,put]) (by intros;go_simp<;>rfl) (by go_simp<;>rfl) ?_
 refine Yv (by simp[wanted,yielded,g2,put]) ?_
 go_wp2_with fail
 refine(i0 _ dA.drew.drew).mono ?_;rintro _ _ ⟨rfl,rfl⟩
 go_wp2_with fail
 refine⟨HS _ dA.drew.drew,?_⟩;refine Yv (by simp[wanted,yielded,g2,put]) ?_
 go_wp2_with fail
 refine(h0 _ dA.drew.drew).mono ?_;rintro _ _ ⟨rfl,rfl⟩
 go_wp2_with fail
 refine⟨HS _ dA.drew.drew,?_⟩;refine Yv (by simp[wanted,yielded,g2,put]) ?_
 go_wp2_with fail
 refine⟨HS _ (bA).drew.drew.drew,?_⟩;refine Yv (by simp[wanted,yielded,g2,put]) ?_
 go_wp2_with fail
 refine(HU _ _ (bA).drew.drew.drew (zhw w _ _)).mono ?_;rintro _ _ ⟨rfl,rfl⟩
 go_wp2_with fail
 refine⟨HS _ (bA).drew.drew.drew,?_⟩
 iterate 2 refine Zv rfl (by intros;go_simp<;>rfl) (by go_simp<;>rfl) ?_
 refine Zs ?_;go_wp2;go_ret;exact⟨cbE a0,(bA).drew.drew.drew⟩
def yx1(h:Ye w Cb Pb Lb Rl vv nv hv p vs x)(hn:Jj w nb no n lv)(hb:POk p x n.b)(hc:POk p x n.c)(hl:0<=n.ak/\n.ak<p.n):
  E 111 #[F Cb,Pp nb no] w (Rw (.bool (decide (n.a<5) && (decide (cC (Fl.nd x n.b).kind=0) && (decide (cC (Fl.nd x n.c).kind=0) && (aO p (Fl.nd x n.b).ak n.ak && aO p (Fl.nd x n.c).ak n.ak))))) w):=by
 obtain⟨bn,c0⟩:∃bn:Nat,(bn:Int)=n.b:=⟨n.b.toNat,by have:=hb.1;omega⟩;obtain⟨cn,d0⟩:∃cn:Nat,(cn:Int)=n.c:=⟨n.c.toNat,by have:=hc.1;omega⟩;have e0:=hn.hz;have n1:=hn.c1;have n2:=hn.c2;have n3:=hn.c3;have n4:=hn.c4;rw[<-c0]at n3;rw[<-d0]at n4;have f0:Y (∀W,D w W->E 145 #[F Cb,I 0,I bn] W (Rq (.bool (decide (cC (Fl.nd x n.b).kind=0))) W.drew)):=λW hW=>zj6 (h.below hW) 0 n.b hb bn c0;have g0:Y (∀W,D w W->E 145 #[F Cb,I 0,I cn] W (Rq (.bool (decide (cC (Fl.nd x n.c).kind=0))) W.drew)):=λW hW=>zj6 (h.below hW) 0 n.c hc cn d0;have h0:Y (∀W,D w W->E 146 #[F Cb,I bn] W (Rq (I (Fl.nd x n.b).ak) W)):=λW hW=>zt0 (h.below hW) n.b hb bn c0;have i0:Y (∀W,D w W->E 146 #[F Cb,I cn] W (Rq (I (Fl.nd x n.c).ak) W)):=λW hW=>zt0 (h.below hW) n.c hc cn d0;have HS:Y (∀W,D w W->M W nb (no+1) (I n.ak)/\M W nb (no+2) (I n.a)/\M W nb (no+3) (I (bn:Nat))/\M W nb (no+4) (I (cn:Nat))/\True):=λW hW=>⟨cT hW e0 n1,cT hW e0 n2,cT hW e0 n3,cT hW e0 n4,trivial⟩;have HU:Y (∀W v,D w W->Zw W.heap.size W v [(Fl.nd x n.b).ak,(Fl.nd x n.c).ak]->E 144 #[F Cb,I n.ak,v] W (Rq (.bool (aO p (Fl.nd x n.b).ak n.ak && aO p (Fl.nd x n.c).ak n.ak)) W)):=λW v hW hv2=>zk1 (h.below hW) _ hl _ _ ⟨hb.2.2.1,hb.2.2.2.1⟩ ⟨hc.2.2.1,hc.2.2.2.1⟩ v hv2;generalize decide (cC (Fl.nd x n.b).kind=0)=isa at*;generalize decide (cC (Fl.nd x n.c).kind=0)=isw at*;generalize (aO p (Fl.nd x n.b).ak n.ak && aO p (Fl.nd x n.c).ak n.ak)=un at*;generalize (Fl.nd x n.b).ak=la at*;generalize (Fl.nd x n.c).ak=lw at*;clear h hn n1 n2 n3 n4 hb hc c0 d0;obtain⟨aX,b0⟩:=J ((decide (n.a<5) && (isa && (isw && un))));rw[<-b0];have a0:=Z b0;clear b0
 go_enter func111,ntmps111
 go_wp2_with fail
 refine Vq HS dA [(0,0),(0,1),(0,2),(0,3),(0,4),(0,5),(0,6),(0,7),(0,8),(0,9),(0,10),(1,11),(0,12),(0,13),(0,14),(0,15),(0,16),(0,17),(0,18),(1,19),(0,20),(0,21),(0,22),(0,23),(0,24),(0,25),(0,26),(0,27),(0,28),(0,29),(0,30),(0,31),(0,33),(0,34),(0,35),(0,36),(0,37),(1,32),(1,38),(1,39),(1,40),(0,41),(0,42)] [] [(5,10),(13,18),(21,26)] (by kernel_rfl) (λ_ _ _ _ h=>h) (λops ⟨g1,g2,g3,_⟩=>?_)
 by_cases h5:n.a<5
 rotate_left
 ·have d5:(n.a<5)=False:=eq_false h5
  have a0:Y (aX=false):=(by show _=_;rw[a0.out,decide_eq_false h5,Bool.false_and]);clear h5
  repeat first|refine zzy rfl (by simp[yielded,g1,g2,g3,d5,put]) ?_|refine Jz rfl (by simp[yielded,g1,g2,g3,d5,put]) (HS _ dA) ?_|refine Zv rfl (by intros;go_simp<;>rfl) (by go_simp<;>rfl) ?_
  refine Zs ?_;go_wp2;go_ret;exact⟨cbE a0,dA⟩
 have a0:Y (aX=(isa && (isw && un))):=by show _=_;rw[a0.out,decide_eq_true h5,Bool.true_and]
 iterate 11 refine Zv (by first|rfl|simp[wanted,yielded,g1,put]) (by intros;go_simp<;>rfl) (by go_simp<;>rfl) ?_
 refine Yv (by simp[wanted,yielded,g1,put]) ?_
 go_wp2_with fail
 refine(f0 _ dA).mono ?_;rintro _ _ ⟨rfl,rfl⟩
 go_wp2_with fail
 refine⟨HS _ dA.drew,?_⟩
 cases isa
 ·repeat first|refine zzy rfl (by simp[yielded,g2,g3,put]) ?_|refine Jz rfl (by simp[yielded,g2,g3,put]) (HS _ dA.drew) ?_|refine Zv rfl (by intros;go_simp<;>rfl) (by go_simp<;>rfl) ?_
  refine Zs ?_;go_wp2;go_ret;exact⟨cbE a0,dA.drew⟩
 iterate 7 refine Zv (by first|rfl|simp[wanted,yielded,g2,put]) (by intros;go_simp<;>rfl) (by go_simp<;>rfl) ?_
 refine Yv (by simp[wanted,yielded,g2,put]) ?_
 go_wp2_with fail
 refine(g0 _ dA.drew).mono ?_;rintro _ _ ⟨rfl,rfl⟩
 go_wp2_with fail
 refine⟨HS _ dA.drew.drew,?_⟩
 cases isw
 ·repeat first|refine zzy rfl (by simp[yielded,g3,put]) ?_|refine Jz rfl (by simp[yielded,g3,put]) (HS _ dA.drew.drew) ?_|refine Zv rfl (by intros;go_simp<;>rfl) (by go_simp<;>rfl) ?_
  refine Zs ?_;go_wp2;go_ret;exact⟨cbE a0,dA.drew.drew⟩
 iterate 17 refine Zv (by first|rfl|simp[wanted,yielded,g3,put]) (by intros;go_simp<;>rfl) (by go_simp<;>rfl) ?_
 refine Yv (by simp[wanted,yielded,g3,put]) ?_
 go_wp2_with fail
 refine(h0 _ dA.drew.drew).mono ?_;rintro _ _ ⟨rfl,rfl⟩
 go_wp2_with fail
 refine⟨HS _ dA.drew.drew,?_⟩;refine Yv (by simp[wanted,yielded,g3,put]) ?_
 go_wp2_with fail
 refine(i0 _ dA.drew.drew).mono ?_;rintro _ _ ⟨rfl,rfl⟩
 go_wp2_with fail
 refine⟨HS _ dA.drew.drew,?_⟩;refine Yv (by simp[wanted,yielded,g3,put]) ?_
 go_wp2_with fail
 refine⟨HS _ (bA).drew.drew.drew,?_⟩;refine Yv (by simp[wanted,yielded,g3,put]) ?_
 go_wp2_with fail
 refine(HU _ _ (bA).drew.drew.drew (zhw w _ _)).mono ?_;rintro _ _ ⟨rfl,rfl⟩
 go_wp2_with fail
 refine⟨HS _ (bA).drew.drew.drew,?_⟩
 iterate 2 refine Zv rfl (by intros;go_simp<;>rfl) (by go_simp<;>rfl) ?_
 refine Zs ?_;go_wp2;go_ret;exact⟨cbE a0,(bA).drew.drew.drew⟩
end
section
variable{nv:Value}
def zb1(a b:Value):E 109 #[a,b] w (Rw (.bool true) w):=by
 go_enter func109,ntmps109
 go_wp2;go_ret;exact⟨rfl,Below.refl _ _⟩
def zb2(h:Ye w Cb Pb Lb Rl vv nv hv p vs x)(hn:Jj w nb no n lv)(ha:0<=n.a)(hb:POk p x n.b)(hl:0<=n.ak/\n.ak<p.n)(b0:∀y∈vs,0<=y/\y<p.n)(c0:vs.length<=100):
  E 112 #[F Cb,Pp nb no] w (Rw (.bool (eu p x n vs)) w):=by
 have HM:=Z (yz3 h hn ha hb hl vv vs h.vi b0 c0);obtain⟨a,c,rfl⟩:=Jv h.vi;have c1:=h.c1;clear h hn hb
 go_enter func112,ntmps112
 go_wp2_with fail
 refine HM.mono ?_;rintro e w1 ⟨rfl,a0⟩;have HW:=Z a0;clear a0;go_wp2;go_ret;exact⟨rfl,HW⟩
def zb3(h:Ye w Cb Pb Lb Rl vv nv hv p vs x)(hn:Jj w nb no n lv)(ha:0<=n.a)(hb:POk p x n.b)(hl:0<=n.ak/\n.ak<p.n)(d0:∀y∈p.ai,y<p.n)(e0:p.ai.length<=100):
  E 113 #[F Cb,Pp nb no] w (Rw (.bool (eu p x n (p.ai.map λ(y:Nat)=>(y:Int)))) w):=by
 have HM:=Z (yz3 h hn ha hb hl hv _ h.hi (by intro y hy;obtain⟨z,hz,rfl⟩:=mem_map.1 hy;have:=d0 z hz;omega) (by simpa using e0));obtain⟨a,c,a0⟩:=Jv h.hi;rw[length_map]at a0;subst a0;have c0:=h.c0;have p2:=h.p2;clear h hn hb
 go_enter func113,ntmps113
 go_wp2_with fail
 refine HM.mono ?_;rintro e w1 ⟨rfl,b0⟩;have HW:=Z b0;clear b0;go_wp2;go_ret;exact⟨rfl,HW⟩
def zhv(h:Ye w Cb Pb Lb Rl vv nv hv p vs x)(hn:Jj w nb no n lv)(ha:POk p x n.a)(hb:POk p x n.b)(hl:0<=n.ak/\n.ak<p.n):
  E 115 #[F Cb,Pp nb no] w (Rw (.bool (dw p x n n.b)) w):=by
 have HM:=Z (znz h hn ha n.b hb hl);have n3:=hn.c3;clear h hn hb ha
 go_enter func115,ntmps115
 go_wp2_with fail
 refine HM.mono ?_;rintro e w1 ⟨rfl,a0⟩;have HW:=Z a0;clear a0;go_wp2;go_ret;exact⟨rfl,HW⟩
def yx2(h:Ye w Cb Pb Lb Rl vv nv hv p vs x)(hn:Jj w nb no n lv)(ha:POk p x n.a)(hb:POk p x n.b)(hc:POk p x n.c)(hl:0<=n.ak/\n.ak<p.n):
  E 114 #[F Cb,Pp nb no] w (Rw (.bool (dw p x n n.b && dw p x n n.c)) w):=by
 have HM:=Z (znz h hn ha n.b hb hl);have HN:Y (∀W,D w W->M W nb (no+4) (I n.c)/\E 148 #[F Cb,Pp nb no,I n.c] W (Rw (.bool (dw p x n n.c)) W)):=λW hW=>⟨(hn.below hW).c4,znz (h.below hW) (hn.below hW) ha n.c hc hl⟩;have n3:=hn.c3;generalize dw p x n n.b=gb at*;generalize dw p x n n.c=gc at*;clear h hn hb ha hc
 go_enter func114,ntmps114
 go_wp2_with fail
 refine HM.mono ?_;rintro e w1 ⟨rfl,a0⟩;have HW:=Z a0;obtain⟨n4,hg⟩:=HN w1 a0;have HG:=Z hg;clear a0 hg HN
 cases gb with
 |false=>
  go_wp2;go_ret;exact⟨rfl,HW⟩
 |true=>
  go_wp2_with fail
  refine HG.mono ?_;rintro e w2 ⟨rfl,b0⟩;have c0:=Z (HW.trans (b0.mono HW.size));clear b0;go_wp2;go_ret;exact⟨rfl,c0⟩
end
def zk2(p:aY)(x:List ar)(n:ar)(k:Int):Bool:=decide (cC (Fl.nd x k).kind=1) && aO p n.ak (Fl.nd x k).ak
section
variable{nv:Value}
def zg0(h:Ye w Cb Pb Lb Rl vv nv hv p vs x)(hn:Jj w nb no n lv)(hk:∀k∈n.ae,POk p x k)(r0:n.ae.length<=100)(hl:0<=n.ak/\n.ak<p.n):
  E 116 #[F Cb,Pp nb no] w (Rw (.bool (n.ae.all (zk2 p x n))) w):=by
 obtain⟨ao,cap,rfl,hc,-,e0⟩:=hn.li;have n5:=hn.c5;have HS:Y (∀W,D w W->D w W/\M W nb (no+1) (I n.ak)):=λW hW=>⟨hW,(hn.below hW).c1⟩
 have HE:Y (∀i,(hi:i<n.ae.length)->∃b off,ao=some (O b off)/\∃y:Nat,(y:Int)=n.ae[i]/\(∀W,D w W->M W b (off+i) (I (y:Int)))/\(∀W,D w W->E 145 #[F Cb,I 1,I y] W (Rq (.bool (decide (cC (Fl.nd x n.ae[i]).kind=1))) W.drew))/\
   (∀W,D w W->E 146 #[F Cb,I y] W (Rq (I (Fl.nd x n.ae[i]).ak) W))/\
   (∀W v,D w W->Zw W.heap.size W v [n.ak]->E 144 #[F Cb,I (Fl.nd x n.ae[i]).ak,v] W (Rq (.bool (aO p n.ak (Fl.nd x n.ae[i]).ak)) W))):=λi hi=>by
  obtain⟨b,off,e,hbz,s0⟩:=e0 (by intro h;rw[h]at hi;simp at hi);have hp:=hk n.ae[i] (getElem_mem hi);have hy:((n.ae[i].toNat:Nat):Int)=n.ae[i]:=(by have:=hp.1;omega);refine⟨b,off,e,n.ae[i].toNat,hy,λW hW=>?_,λW hW=>zj6 (h.below hW) 1 _ hp _ hy,λW hW=>zt0 (h.below hW) _ hp _ hy,λW v hW hv=>?_⟩
  ·rw[hy]
   refine(hW.cell hbz).trans ?_;rw[s0 i hi,Qa,Qb hi];rfl
  obtain⟨tn,t0⟩:∃tn:Nat,(tn:Int)=(Fl.nd x n.ae[i]).ak:=⟨(Fl.nd x n.ae[i]).ak.toNat,by have:=hp.2.2.1;omega⟩;have h1:=zk0 (h.below hW) tn (by have:=hp.2.2.2.1;omega) v [n.ak] hv (by simp) (by intro u hu;simp at hu;subst hu;exact hl);rw[t0]at h1;simpa using h1
 have u0:(n.ae.length:Int)<=100:=by omega
 have v0:(n.ae.length:Int)<=(cap:Int):=by omega
 obtain⟨Wz,hL⟩:=J (n.ae);rw[<-hL]at n5 u0 v0 hc r0⊢
 have x0:Y (∀i,(hi:i<Wz.length)->∃b off,ao=some (O b off)/\∃(y:Nat) (isb un:Bool) (lvk:Int),(∀W,D w W->M W b (off+i) (I (y:Int)))/\(∀W,D w W->E 145 #[F Cb,I 1,I y] W (Rq (.bool isb) W.drew))/\
   (∀W,D w W->E 146 #[F Cb,I y] W (Rq (I lvk) W))/\
   (∀W v,D w W->Zw W.heap.size W v [n.ak]->E 144 #[F Cb,I lvk,v] W (Rq (.bool un) W))/\zk2 p x n Wz[i]=(isb && un)):=λi hi=>by
  subst hL;obtain⟨b,off,e,y,hy,h1,h2,h3,h4⟩:=HE i hi;exact⟨b,off,e,y,_,_,_,h1,h2,h3,h4,rfl⟩
 clear h hn e0 hk HE hL
 go_enter func116,ntmps116
 go_wp2_with fail
 go_loopw [12] (λi wr=>D w wr/\∃k:Nat,k<=Wz.length/\i=I k/\(Wz.take k).all (zk2 p x n)=true) (λi _=>Wz.length - (intOf i).toNat)
 case atStart=>exact⟨Below.refl _ _,0,Nat.zero_le _,rfl,rfl⟩
 case round=>
  obtain⟨j0,k,hk,rfl,aT⟩:=hrel;have a0:=Z j0;have f0:=Z aT;clear j0 aT
  by_cases i0:k<Wz.length
  ·have y0:(k:Int)<(Wz.length:Int):=by omega
   obtain⟨b,off,rfl,y,isb,un,lvk,k0,l0,m0,n0,o0⟩:=x0 k i0;have cy:=k0 wr a0.out;have z0:=Z l0;have p0:=Z m0;have HU:=Z n0;obtain⟨yk,q0⟩:=J (Wz[k]);have c0:Y (yk∈Wz/\Wz.take (k+1)=Wz.take k++[yk]/\zk2 p x n yk=(isb && un)):=(by rw[q0];exact⟨getElem_mem i0,take_succ_eq_append_getElem i0,o0⟩)
   have b0:Y ((isb && un)=false->Wz.all (zk2 p x n)=false):=λh0=>by
    rw[all_eq_false];exact⟨yk,c0.1,by rw[c0.2.2,h0];simp⟩
   have g0:Y ((isb && un)=true->(Wz.take (k+1)).all (zk2 p x n)=true):=λh0=>by
    rw[c0.2.1,all_append,f0.out,all_cons,c0.2.2,h0];rfl
   have d0:Y (D w (wr.alloc (.cells #[I n.ak] 3)).drew.drew):=((a0.alloc a0.size _).drew).drew;clear k0 l0 m0 n0 o0 q0
   go_wp2_with fail
   refine yy7 (λW=>D w W/\M W nb (no+1) (I n.ak)) [(0,0),(0,1),(1,2),(0,3),(0,4),(0,5),(0,6),(0,7),(0,9),(0,10),(0,11),(0,12)] 8 13 [(1,14),(0,15),(0,16)] [(4,20)] (by kernel_rfl) (by kernel_rfl) rfl [(_,_),(_,_),(_,_),(_,_),(_,_),(_,_),(_,_),(_,_),(_,_),(_,_),(_,_),(_,_)] [(_,_),(_,_),(_,_)] _ _ rfl rfl rfl rfl (λc a d v w h=>by cases d<;>exact h) (HS _ (a0.drew)) (λops hG=>?_);have g1:=hG (4,20) (by simp);simp only at g1;clear hG;simp only[getElem_toArray,getElem_cons_succ,getElem_cons_zero]
   iterate 2 refine Xs rfl (kE (by intros;go_simp<;>rfl) (by go_simp<;>rfl) ?_)
   refine zu8 ?_
   go_wp2_with fail
   refine(z0 _ a0.drew).mono ?_;rintro _ _ ⟨rfl,rfl⟩
   go_wp2_with fail
   refine⟨HS _ a0.drew.drew,?_⟩
   iterate 2 refine Xs rfl (kE (by intros;go_simp<;>rfl) (by go_simp<;>rfl) ?_)
   cases isb
   ·have HF:=Z (b0 rfl)
    iterate 7 refine za0 rfl (c:=true) (by simp[yielded,g1,put]) (by decide) ?_
    refine Jq ⟨HS _ a0.drew.drew,?_,?_⟩
    all_goals
     unfold zp9
     iterate 2 refine wpList_skip (by simp[wanted,yielded,g1,put]) ⟨HS _ a0.drew.drew,?_⟩
     refine yv4 rfl (c:=true) (by simp[yielded,g1,put]) (by decide) (HS _ a0.drew.drew) ?_;refine za0 rfl (c:=true) (by simp[yielded,g1,put]) (by decide) ?_;refine Xs rfl (kE (by intros;go_simp<;>rfl) (by go_simp<;>rfl) ?_);refine Jq ⟨HS _ a0.drew.drew,?_⟩;clear g1;go_wp2;go_ret;exact⟨cbE HF,a0.drew.drew⟩
   iterate 7 refine ypw rfl (by simp[yielded,g1,put]) (kE (by intros;go_simp<;>rfl) (by go_simp<;>rfl) ?_)
   refine Jq ⟨HS _ a0.drew.drew,?_,?_⟩;unfold zp9;refine Uk (by simp[wanted,yielded,g1,put]) ?_
   go_wp2_with fail
   refine(p0 _ a0.drew.drew).mono ?_;rintro _ _ ⟨rfl,rfl⟩
   go_wp2_with fail
   refine⟨HS _ a0.drew.drew,?_⟩;refine Uk (by simp[wanted,yielded,g1,put]) ?_
   go_wp2_with fail
   refine⟨HS _ d0,?_⟩
   rotate_left
   unfold zp9;refine Uk (by simp[wanted,yielded,g1,put]) ?_
   go_wp2_with fail
   refine⟨HS _ d0,?_⟩;refine Uk (by simp[wanted,yielded,g1,put]) ?_
   go_wp2_with fail
   refine(p0 _ d0).mono ?_;rintro _ _ ⟨rfl,rfl⟩
   go_wp2_with fail
   refine⟨HS _ d0,?_⟩
   all_goals
    refine ym4 (by simp[wanted,yielded,g1,put]) ?_
    go_wp2_with fail
    refine(HU _ _ d0 (yt6 wr _)).mono ?_;rintro _ _ ⟨rfl,rfl⟩
    go_wp2_with fail
    refine⟨HS _ d0,?_⟩;refine ypw rfl (by simp[yielded,g1,put]) (kE (by intros;go_simp<;>rfl) (by go_simp<;>rfl) ?_);refine Xs rfl (kE (by intros;go_simp<;>rfl) (by go_simp<;>rfl) ?_);refine Jq ⟨HS _ d0,?_⟩;clear g1
    cases un
    ·have HF:=Z (b0 rfl)
     go_wp2;go_ret;exact⟨cbE HF,d0⟩
    have HN:=Z (g0 rfl);go_wp2
    go_roundw
    case rel=>exact⟨d0,k+1,by omega,by go_num,HN⟩
    case measure=>simp[intOf];omega
  have y0:¬(k:Int)<(Wz.length:Int):=(by omega);have HT:Y (Wz.all (zk2 p x n)=true):=by
   show _=_;have h1:=f0.out;rw[take_of_length_le (by omega)]at h1;exact h1
  go_wp2;go_ret;exact⟨cbE HT,a0⟩
end
structure zt1(p:aY)(x:List ar)(n:ar):Prop where
 kd:0<=n.kind/\n.kind<=7
 lv:0<=n.ak
 k1:n.kind=1->0<=n.a
 k2:n.kind=2->POk p x n.b/\POk p x n.c
 k3:n.kind=3\/n.kind=4->0<=n.a/\POk p x n.b
 k5:n.kind=5\/n.kind=6->POk p x n.a/\POk p x n.b
 k6:n.kind=5->POk p x n.c
 k7:n.kind=7->(∀k∈n.ae,POk p x k)/\n.ae.length<=100
section
variable{nv:Value}
def yb8(h:Ye w Cb Pb Lb Rl vv nv hv p (vars p ls) x)(hn:Jj w nb no n lv)(ho:zt1 p x n)(hl:n.ak<p.n)(b0:∀y∈vars p ls,0<=y/\y<p.n)(c0:(vars p ls).length<=100)(d0:∀y∈p.ai,y<p.n)(e0:p.ai.length<=100)(kd:Nat)(f0:(kd:Int)=n.kind):
  E (ze9 kd) #[F Cb,Pp nb no] w (Rw (.bool (bP p ls x n)) w):=by
 have hk:=ho.kd;have a0:0<=n.ak/\n.ak<p.n:=⟨ho.lv,hl⟩;rcases(show kd=0\/kd=1\/kd=2\/kd=3\/kd=4\/kd=5\/kd=6\/kd=7 by omega) with rfl|rfl|rfl|rfl|rfl|rfl|rfl|rfl
 ·have e:bP p ls x n=true:=by unfold bP;rw[G (by omega)]
  rw[e];exact zb1 _ _
 ·have e:bP p ls x n=(decide (n.a<(vars p ls).length) && aO p ((vars p ls).getD n.a.toNat 0) n.ak):=by unfold bP;rw[U (by omega),G (by omega)]
  rw[e];exact zb0 h hn (ho.k1 (by omega)) a0 b0 c0
 ·have e:bP p ls x n=(decide (n.a<5) && (decide (cC (Fl.nd x n.b).kind=0) && (decide (cC (Fl.nd x n.c).kind=0) && (aO p (Fl.nd x n.b).ak n.ak && aO p (Fl.nd x n.c).ak n.ak)))):=by unfold bP;rw[U (by omega),U (by omega),G (by omega)]
  rw[e];exact yx1 h hn (ho.k2 (by omega)).1 (ho.k2 (by omega)).2 a0
 ·have e:bP p ls x n=eu p x n (vars p ls):=by unfold bP;rw[U (by omega),U (by omega),U (by omega),G (by omega)]
  rw[e];exact zb2 h hn (ho.k3 (by omega)).1 (ho.k3 (by omega)).2 a0 b0 c0
 ·have e:bP p ls x n=eu p x n (p.ai.map λ(y:Nat)=>(y:Int)):=by unfold bP;rw[U (by omega),U (by omega),U (by omega),U (by omega),G (by omega)]
  rw[e];exact zb3 h hn (ho.k3 (by omega)).1 (ho.k3 (by omega)).2 a0 d0 e0
 ·have e:bP p ls x n=(dw p x n n.b && dw p x n n.c):=by unfold bP;rw[U (by omega),U (by omega),U (by omega),U (by omega),U (by omega),G (by omega)]
  rw[e];exact yx2 h hn (ho.k5 (by omega)).1 (ho.k5 (by omega)).2 (ho.k6 (by omega)) a0
 ·have e:bP p ls x n=dw p x n n.b:=by unfold bP;rw[U (by omega),U (by omega),U (by omega),U (by omega),U (by omega),U (by omega),G (by omega)]
  rw[e];exact zhv h hn (ho.k5 (by omega)).1 (ho.k5 (by omega)).2 a0
 have e:bP p ls x n=n.ae.all (zk2 p x n):=by unfold bP;rw[U (by omega),U (by omega),U (by omega),U (by omega),U (by omega),U (by omega),U (by omega)];rfl
 rw[e];exact zg0 h hn (ho.k7 (by omega)).1 (ho.k7 (by omega)).2 a0
def yq6(h:Ye w Cb Pb Lb Rl vv nv hv p (vars p ls) x)(hn:Jj w nb no n lv)(ho:zt1 p x n)(f0:∀y∈vars p ls,0<=y/\y<p.n)(g0:(vars p ls).length<=100)(h0:∀y∈p.ai,y<p.n)(i0:p.ai.length<=100):
  E 117 #[F Cb,Pp nb no] w (Rw (.bool (follows p ls x n)) w):=by
 obtain⟨kd,e0⟩:∃kd:Nat,(kd:Int)=n.kind:=⟨n.kind.toNat,by have:=ho.kd;omega⟩
 have k0:kd<8:=by have:=ho.kd;omega
 have l0:(kd:Int)<8:=by omega
 obtain⟨f,hf⟩:=J (ze9 kd)
 have HS:Y (∀W,D w W->M W Cb 0 (F Pb)/\M W Pb 0 (F Lb)/\M W Cb 3 (Sq Rl 0 8 8)/\M W nb no (I (kd:Nat))/\M W nb (no+1) (I n.ak)/\M W Rl (kd*2+1) (.func (.func f) #[] #[])):=λW hW=>by
  have h1:=h.below hW;have h2:=hn.below hW;exact⟨h1.c0,h1.p0,h1.c3,by rw[e0];exact h2.c0,h2.c1,by rw[hf];exact(h1.ru kd k0).2⟩
 have a0:Y (∀W,D w W->E 107 #[F Lb,I n.ak] W (Rq (.bool (decide (0<=n.ak/\n.ak<p.n))) W)):=λW hW=>yo5 (h.below hW).la n.ak
 by_cases hl:n.ak<p.n
 ·have HR:Y (∀W,D w W->E f #[F Cb,Pp nb no] W (Rw (.bool (bP p ls x n)) W)):=λW hW=>by rw[hf];exact yb8 (h.below hW) (hn.below hW) ho hl f0 g0 h0 i0 kd e0
  have d0:Y (follows p ls x n=bP p ls x n):=(by show _=_;unfold follows;rw[decide_eq_true hl,Bool.true_and]);rw[decide_eq_true (show 0<=n.ak/\n.ak<p.n from⟨ho.lv,hl⟩)]at a0;generalize bP p ls x n=ru at*;clear h hn ho f0 g0 h0 i0 e0;rcases(show kd=0\/kd=1\/kd=2\/kd=3\/kd=4\/kd=5\/kd=6\/kd=7 by omega) with hk|hk|hk|hk|hk|hk|hk|hk
  all_goals
   rw[hk]at hf;simp[ze9]at hf;have HF:=Z hf;clear hf hk
   go_enter func117,ntmps117
   go_wp2_with fail
   refine Zk HS (dA) [11,26] [] [(12,17)] (by kernel_rfl) (λ_ _ _ _ h=>h) (λops ⟨g1,_⟩=>?_)
   iterate 11 refine Zv rfl (by intros;go_simp<;>rfl) (by go_simp<;>rfl) ?_
   refine Zm ?_
   go_wp2_with fail
   refine(a0 _ dA).mono ?_;rintro _ _ ⟨rfl,rfl⟩
   go_wp2_with fail
   refine⟨HS _ dA,?_⟩
   iterate 14 refine Zv (by first|rfl|simp[wanted,yielded,g1,put]) (by intros;go_simp<;>rfl) (by go_simp<;>rfl) ?_
   refine Yv (by simp[wanted,yielded,g1,put]) ?_;have m0:=HF.out;subst m0
   go_wp2_with fail
   refine(HR _ dA).mono ?_;rintro e W1 ⟨rfl,b0⟩;have j0:Y (D w W1):=dA.trans b0;clear b0
   go_wp2_with fail
   refine⟨HS _ j0,?_⟩
   iterate 2 refine Zv rfl (by intros;go_simp<;>rfl) (by go_simp<;>rfl) ?_
   refine Zs ?_;go_wp2;go_ret;exact⟨cbE d0,j0⟩
 have d0:Y (follows p ls x n=false):=by show _=_;unfold follows;rw[decide_eq_false hl,Bool.false_and]
 rw[decide_eq_false (show ¬(0<=n.ak/\n.ak<p.n) from λh=>hl h.2)]at a0;clear h hn ho f0 g0 h0 i0 e0 hf
 go_enter func117,ntmps117
 go_wp2_with fail
 refine Zk HS (dA) [11,26] [] [(12,17)] (by kernel_rfl) (λ_ _ _ _ h=>h) (λops ⟨g1,_⟩=>?_)
 iterate 11 refine Zv rfl (by intros;go_simp<;>rfl) (by go_simp<;>rfl) ?_
 refine Zm ?_
 go_wp2_with fail
 refine(a0 _ dA).mono ?_;rintro _ _ ⟨rfl,rfl⟩
 go_wp2_with fail
 refine⟨HS _ dA,?_⟩;refine Zv rfl (by intros;go_simp<;>rfl) (by go_simp<;>rfl) ?_
 iterate 13
  refine Un rfl (c:=false) (by simp[yielded,g1,put]) (by decide) ?_
 refine zy9 rfl (c:=false) (by simp[yielded,g1,put]) (by decide) (HS _ dA) ?_
 iterate 2 refine Zv rfl (by intros;go_simp<;>rfl) (by go_simp<;>rfl) ?_
 refine Zs ?_;go_wp2;go_ret;exact⟨cbE d0,dA⟩
end
def Vz(p:aY)(ls:Is)(x:List ar):Int:=match (range x.length).find? (λk=> !Fl.follows p ls x (nth x k)) with
 |some k=>(k:Int)
 |none=> -1
section
variable{nv:Value}
def Ye.gq(h:Ye w Cb Pb Lb Rl vv nv hv p vs x)(k:Nat)(hk:k<x.length):∃b off cap lv,nv=Sq b off x.length cap/\Jj w b (off+k*6) (nth x k) lv:=by
 obtain⟨ao,cap,e,-,-,h4⟩:=h.no;obtain⟨b,off,e2,hb,hc⟩:=h4 (by rintro rfl;simp at hk);obtain⟨lv,h0,h1,h2,h3,h5,h6,h7⟩:=hc k hk;exact⟨b,off,cap,lv,by rw[e,e2],⟨hb,h1,h2,h3,h5,h6,h7,h0⟩⟩
def zez(h:Ye w Cb Pb Lb Rl vv nv hv p (vars p ls) x)(hx:∀k,k<x.length->(∀j,j<k->follows p ls x (nth x j)=true)->zt1 p x (nth x k))(B0:x.length<=100000)(k0:∀y∈vars p ls,0<=y/\y<p.n)(l0:(vars p ls).length<=100)(m0:∀y∈p.ai,y<p.n)(n0:p.ai.length<=100):
  E 78 #[F Cb] w (Rw (I (Vz p ls x)) w):=by
 have HC:Y (∀W,D w W->W.cell? (O Cb 2)=some nv):=λW hW=>(h.below hW).c2
 have HF:Y (∀k,k<x.length->(∀j,j<k->follows p ls x (nth x j)=true)->∃b off cap,nv=Sq b off x.length cap/\∀W,D w W->E 117 #[F Cb,Pp b (off+k*6)] W (Rw (.bool (follows p ls x (nth x k))) W)):=λk hk aT=>by
  obtain⟨b,off,cap,lv,e,v0⟩:=h.gq k hk;exact⟨b,off,cap,e,λW hW=>yq6 (h.below hW) (v0.below hW) (hx k hk aT) k0 l0 m0 n0⟩
 have x0:Y (∃a c,nv=A a x.length c):=by obtain⟨a,c,e,-⟩:=h.no;exact⟨a,c,e⟩
 have b0:Y (∀k,k<x.length->(∀j,j<k->follows p ls x (nth x j)=true)->follows p ls x (nth x k)=false->Vz p ls x=k):=λk hk aT h0=>by
  unfold Vz;rw[cI _ _ k (λj hj=>by rw[aT j hj];rfl) hk (by rw[h0];rfl)]
 have e0:Y ((∀j,j<x.length->follows p ls x (nth x j)=true)->Vz p ls x= -1):=λaT=>by
  unfold Vz;rw[dh _ _ (λj hj=>by rw[aT j hj];rfl)]
 have y0:(x.length:Int)<=100000:=by omega
 obtain⟨a0,c0,j0⟩:=x0.out;have c2:=h.c2;rw[j0]at c2;obtain⟨fw,o0⟩:=J (Vz p ls x);rw[<-o0]at b0 e0⊢;have C0:=Z j0;clear h hx k0 l0 m0 n0 j0 o0
 go_enter func78,ntmps78
 go_wp2_with fail
 go_loopw [9] (λi wr=>D w wr/\∃k:Nat,k<=x.length/\i=I k/\∀j,j<k->follows p ls x (nth x j)=true) (λi _=>x.length - (intOf i).toNat)
 case atStart=>exact⟨Below.refl _ _,0,Nat.zero_le _,rfl,λj hj=>by omega⟩
 case round=>
  obtain⟨p0,k,hk,rfl,aT⟩:=hrel;have i0:=Z p0;have d0:=Z aT;clear p0 aT
  by_cases q0:k<x.length
  ·have z0:(k:Int)<(x.length:Int):=by omega
   obtain⟨b,off,cap,e,f0⟩:=HF k q0 d0.out;have cw:=HC wr i0.out;rw[e]at cw;have g0:=Z (f0 wr i0.out);have r0:Y (follows p ls x (nth x k)=false->fw=(k:Int)):=λh0=>b0 k q0 d0 h0
   have s0:Y (follows p ls x (nth x k)=true->∀j,j<k+1->follows p ls x (nth x j)=true):=λh0 j hj=>by
    by_cases A0:j=k
    ·rw[A0];exact h0
    exact d0 j (by omega)
   generalize follows p ls x (nth x k)=fk at g0 r0 s0;clear e f0
   go_wp2_with fail
   refine g0.mono ?_;rintro e w1 ⟨rfl,t0⟩;have u0:=Z (i0.trans (t0.mono i0.size));clear t0
   cases fk with
   |false=>
    have HE:=Z (r0 rfl);go_wp2;go_ret;exact⟨congrArg (λb=>Ending.returned (I b)) HE.symm,u0⟩
   |true=>
    have HN:=Z (s0 rfl);go_wp2
    go_roundw
    case rel=>exact⟨u0,k+1,by omega,by go_num,HN⟩
    case measure=>simp[intOf];omega
  have z0:¬(k:Int)<(x.length:Int):=(by omega);have HE:=Z (e0 (λj hj=>d0 j (by omega)));go_wp2;go_ret;exact⟨congrArg (λb=>Ending.returned (I b)) HE.symm,i0⟩
end
section
def yx3(i0:Jo w Lb p.n p.leq)(p0:w.cell? (O Pb 0)=some (F Lb))(p3:w.cell? (O Pb 3)=some (I p.ap))(v:Value)(ls:Is)(hl:Zw w.heap.size w v ls)(n0:ls.length<=100000):
  E 75 #[F Pb,v] w (Rq (.bool (decide (ls.length=p.ap/\∀y∈ls,0<=y/\y<p.n))) w):=by
 obtain⟨ao,cap,rfl,hc,-,a0⟩:=hl;have g0:Y (∀y:Int,E 107 #[F Lb,I y] w (Rq (.bool (decide (0<=y/\y<p.n))) w)):=λy=>yo5 i0 y
 have l0:Y (∀i,(hi:i<ls.length)->∃b off,ao=some (O b off)/\w.cell? (O b (off+i))=some (I ls[i])):=λi hi=>by
  obtain⟨b,off,e,-,h1⟩:=a0 (by rintro rfl;simp at hi);exact⟨b,off,e,by rw[h1 i hi,Qa,Qb hi];rfl⟩
 have o0:(ls.length:Int)<=100000:=by omega
 have q0:(ls.length:Int)<=(cap:Int):=by omega
 obtain⟨m,hm⟩:=J (p.ap);rw[<-hm]at p3⊢;obtain⟨aX,b0⟩:=J (decide (ls.length=m/\∀y∈ls,0<=y/\y<(p.n:Int)));rw[<-b0];have d0:=Z b0;clear i0 a0 hm b0
 go_enter func75,ntmps75
 go_wp2_with fail
 go_loopw [9] (λi wr=>wr=w/\∃k:Nat,k<=ls.length/\i=I k/\∀y∈ls.take k,0<=y/\y<(p.n:Int)) (λi _=>ls.length - (intOf i).toNat)
 case atStart=>exact⟨rfl,0,Nat.zero_le _,rfl,λy hy=>by simp at hy⟩
 case round=>
  obtain⟨j0,k,hk,rfl,aT⟩:=hrel;have e0:=Z aT;rw[j0];clear j0 aT wr
  by_cases h0:k<ls.length
  ·have m0:(k:Int)<(ls.length:Int):=by omega
   obtain⟨b,off,rfl,cy⟩:=l0 k h0;obtain⟨y,hy⟩:=J (ls[k]);rw[<-hy]at cy;have f0:Y (y∈ls/\ls.take (k+1)=ls.take k++[y]):=(by rw[hy];exact⟨getElem_mem h0,take_succ_eq_append_getElem h0⟩);clear hy
   go_wp2_with fail
   refine(g0 y).mono ?_;rintro e w1 ⟨rfl,k0⟩;rw[k0];clear k0 w1
   by_cases c0:0<=y/\y<(p.n:Int)
   ·have HN:Y (∀z∈ls.take (k+1),0<=z/\z<(p.n:Int)):=λz hz=>by
     rw[f0.2]at hz;rcases mem_append.1 hz with h1|h1
     ·exact e0 z h1
     simp at h1;subst h1;exact c0
    rw[decide_eq_true c0];clear c0;go_wp2
    go_roundw
    case rel=>exact⟨by first|rfl|trivial,k+1,by omega,by go_num,HN⟩
    case measure=>simp[intOf];omega
   have HE:Y (aX=false):=(by show _=_;rw[d0.out];exact decide_eq_false (λh=>c0 (h.2 y f0.1)));rw[decide_eq_false c0];clear c0;go_wp2;go_ret;exact⟨cbE HE,rfl⟩
  have m0:¬(k:Int)<(ls.length:Int):=(by omega);have HE:Y (aX=((ls.length:Int)==(m:Int))):=by
   have h1:=e0.out;rw[take_of_length_le (by omega)]at h1;show _=_;rw[d0.out,<-yo6]
   congr 1
   exact propext ⟨λh=>h.1,λh=>⟨h,h1⟩⟩
  go_wp2;go_ret;exact⟨cbE HE,rfl⟩
end
structure zz6(w:World)(Pb Lq:Nat)(rb:Nat->Nat)(aB hv bv lv nv:Value)(p:aY)(ls:Is)(x:List ar):Prop where
 hz:Pb<w.heap.size
 p0:w.cell? (O Pb 0)=some (I p.n)
 p1:w.cell? (O Pb 1)=some (Sq Lq 0 p.n p.n)
 p2:w.cell? (O Pb 2)=some aB
 p3:w.cell? (O Pb 3)=some hv
 p4:w.cell? (O Pb 4)=some (I p.ap)
 p5:w.cell? (O Pb 5)=some bv
 ci:Zw w.heap.size w aB (p.cells.map λ(y:Nat)=>(y:Int))
 hi:Zw w.heap.size w hv (p.ai.map λ(y:Nat)=>(y:Int))
 lq:Yj 0 w Lq rb p.n p.leq
 li:Zw w.heap.size w lv ls
 no:Zl w.heap.size w nv x
 bs:Zh 4 (λb=>b<w.heap.size) w bv p.aZ
 n6:p.n<=6
 ll:p.cells.length<=6/\p.ai.length<=3/\ls.length<=4/\x.length<=200
def zz6.below{w w':World}{Pb Lq:Nat}{rb:Nat->Nat}{aB hv bv lv nv:Value}{p:aY}{ls:Is}{x:List ar}(h:zz6 w Pb Lq rb aB hv bv lv nv p ls x)(hb:D w w'):zz6 w' Pb Lq rb aB hv bv lv nv p ls x:=by
 have hz:=hb.size;have q:∀i,w'.cell? (O Pb i)=w.cell? (O Pb i):=λi=>hb.cell (p:=(O Pb i)) h.hz;exact{hz:=Qj h.hz hz,p0:=(q _).trans h.p0,p1:=(q _).trans h.p1,p2:=(q _).trans h.p2,p3:=(q _).trans h.p3,p4:=(q _).trans h.p4,p5:=(q _).trans h.p5,ci:=(h.ci.below hb).mono hz,hi:=(h.hi.below hb).mono hz,lq:=h.lq.kept (λb _ a0=>hb.block b a0),li:=(h.li.below hb).mono hz,no:=(h.no.below hb).mono hz,bs:=h.bs.kept (λb a0=>Qj a0 hz) (λb a0=>hb.block b a0) 4 _ _,n6:=h.n6,ll:=h.ll}
def Ui(p:aY)(ls:Is)(v:Int):Int:=if v.toNat<(vars p ls).length then(vars p ls).getD v.toNat 0 else -1
section
variable{nv:Value}
def zey(h:zz6 w Pb Lq rb aB hv bv lv nv p ls x)(v:Nat)(g0:(v:Int)<2147483648):
  E 43 #[F Pb,.agg #[lv,nv],I v] w (Rw (I (Ui p ls v)) w):=by
 obtain⟨ca,cc,rfl,k1,-,b0⟩:=h.ci;obtain⟨la,lc,rfl,j1,-,c0⟩:=h.li
 obtain⟨na,nc,rfl⟩:∃a c,nv=A a x.length c:=by obtain⟨a,c,e,-⟩:=h.no;exact⟨a,c,e⟩
 have hz:=h.hz;have p2:=h.p2;simp only[length_map]at p2 k1;obtain⟨m,hm⟩:=J (p.cells.length);obtain⟨n,hn⟩:=J (ls.length)
 have h0:m<=6:=by rw[hm];exact h.ll.1
 have i0:n<=4:=by rw[hn];exact h.ll.2.2.1
 have j0:(m:Int)<=6:=by omega
 have k0:(n:Int)<=4:=by omega
 have d0:(vars p ls).length=m+n:=by unfold vars;simp[hm,hn]
 have k1I:(m:Int)<=(cc:Int):=by omega
 have j1I:(n:Int)<=(lc:Int):=by omega
 rw[<-hm]at p2
 by_cases h1:v<m
 ·have e0:(v:Int)<(m:Int):=by omega
  obtain⟨b,off,rfl,hb,hc⟩:=b0 (by intro hh;simp at hh;rw[hh]at hm;simp at hm;omega);have c1:=hc v (by simp;omega);obtain⟨y,hy⟩:=J ((p.cells.map λ(y:Nat)=>(y:Int)).getD v 0);rw[<-hy]at c1;have HE:Y (Ui p ls v=y):=by
   show _=_;unfold Ui;rw[Qm,G (by omega),hy];unfold vars;simp[Qa,getElem?_append_left,show v<p.cells.length by omega]
  clear h b0 c0 hc d0 hy hm hn j1 k1;rw[HE.out]
  go_enter func43,ntmps43
  go_wp2;go_ret;exact⟨rfl,bA⟩
 have e0:¬(v:Int)<(m:Int):=by omega
 obtain⟨i,hi⟩:=J (v - m)
 have HV:Y ((v:Int) - (m:Int)=(i:Int)):=by show _=_;omega
 have l0:(i:Int)<2147483648:=by omega
 have a0:ls.length=n:=hn.symm;rw[a0]
 by_cases h2:i<n
 ·have f0:(i:Int)<(n:Int):=by omega
  obtain⟨b,off,rfl,hb,hc⟩:=c0 (by intro hh;rw[hh]at hn;simp at hn;omega);have c1:=hc i (by omega);obtain⟨y,hy⟩:=J (ls.getD i 0);rw[<-hy]at c1;have HE:Y (Ui p ls v=y):=by
   show _=_;unfold Ui;rw[Qm,G (by omega),hy,hi];unfold vars;rw[Qa,getElem?_append_right (by simp;omega)];simp[Qa,hm]
  clear h b0 c0 hc d0 a0 hy hm hn j1 k1 hi;rw[HE.out]
  go_enter func43,ntmps43
  go_wp2_with (rw[HV.out])
  go_ret;exact⟨rfl,bA⟩
 have f0:¬(i:Int)<(n:Int):=by omega
 have HE:Y (Ui p ls v= -1):=by show _=_;unfold Ui;rw[Qm,U (by omega)]
 clear h b0 c0 d0 a0 hm hn j1 k1 hi;rw[HE.out]
 go_enter func43,ntmps43
 go_wp2_with (rw[HV.out])
 go_ret;exact⟨rfl,bA⟩
end
def zv6{nv:Value}(h:Zl w.heap.size w nv x)(h0:0<x.length):∃b off cap,nv=Sq b off x.length cap/\∀k,k<x.length->∃ln lc,Jj w b (off+k*6) (nth x k) (A ln (nth x k).ae.length lc):=by
 obtain⟨ao,cap,e,-,-,h4⟩:=h;obtain⟨b,off,e2,hb,hc⟩:=h4 (by rintro rfl;simp at h0);refine⟨b,off,cap,by rw[e,e2],λk hk=>?_⟩;obtain⟨lv,h0,h1,h2,h3,h5,h6,h7⟩:=hc k hk
 obtain⟨la,lc,e3⟩:∃a c,lv=A a (nth x k).ae.length c:=by obtain⟨a,c,e,-⟩:=h0;exact⟨a,c,e⟩
 subst e3;exact⟨la,lc,⟨hb,h1,h2,h3,h5,h6,h7,h0⟩⟩
def zx8(w:World)(k l a b c:Int)(ln:Option Addr)(lk lc:Nat):E 59 #[.agg #[I k,I l,I a,I b,I c,A ln lk lc]] w (Rw (.bool (decide (k<=2))) w):=by
 go_enter func59,ntmps59
 go_wp2;go_ret;exact⟨rfl,bA⟩
section
variable{nv:Value}{ll lc:Nat}{la:Option Addr}
def zv7(a b:Int):decide (a=b)=(a==b):=by
 by_cases h:a=b
 ·subst h;simp
 rw[decide_eq_false h];symm;rw[Qh];exact h
def ris_any(h:Zl w.heap.size w nv x)(k:Int)(hk:0<=k/\k.toNat<x.length)(a:dK):
  E 80 #[.agg #[A la ll lc,nv],I k,.agg #[.bool a.var,I a.v]] w (Rw (.bool (cN x k a)) w):=by
 obtain⟨j,rfl⟩:∃j:Nat,k=(j:Int):=⟨k.toNat,by omega⟩
 have hj:j<x.length:=by omega
 obtain⟨b,off,cap,rfl,b0⟩:=zv6 h (by omega);obtain⟨ln,lc2,hn⟩:=b0 j hj
 have d0:(j:Int)<(x.length:Int):=by omega
 have c0:=hn.c0;have c1:=hn.c1;have c2:=hn.c2;have c3:=hn.c3;have c4:=hn.c4;have c5:=hn.c5;have hbz:=hn.hz
 have HE:Y (∀q,((nth x j).kind==(if a.var then 1 else 0))=q->cN x (j:Int) a=(q && ((nth x j).a==(a.v:Int)))):=λq hq=>by
  unfold cN Fl.nd;rw[Qm,zv7,zv7,hq]
 obtain⟨aX,a0⟩:=J (cN x (j:Int) a);rw[<-a0]at HE⊢;obtain⟨av,an⟩:=a;clear h hn hk hj a0 b0;generalize nth x j=n at*
 cases av
 ·cases hq:(n.kind==0)
  all_goals
   have HR:=HE _ hq;rw[HR];clear HR HE
   go_enter func80,ntmps80
   go_wp2;go_ret;exact⟨rfl,((bA).alloc (by simp) _).alloc (by simp;omega) _⟩
 cases hq:(n.kind==1)
 all_goals
  have HR:=HE _ hq;rw[HR];clear HR HE
  go_enter func80,ntmps80
  go_wp2;go_ret;exact⟨rfl,((bA).alloc (by simp) _).alloc (by simp;omega) _⟩
def yq7(h:Zl w.heap.size w nv x)(k:Int)(hk:0<=k/\k.toNat<x.length)(hx:(Fl.nd x k).kind=2->(0<=(Fl.nd x k).b/\(Fl.nd x k).b.toNat<x.length)/\(0<=(Fl.nd x k).c/\(Fl.nd x k).c.toNat<x.length))(e:dZ):
  E 60 #[.agg #[A la ll lc,nv],I k,exV e] w λr w'=>r=.returned (.bool (bM x k e))/\D w w':=by
 have g0:Y (∀W,D w W->∀(q:Int) (a:dK),(0<=q/\q.toNat<x.length)->E 80 #[.agg #[A la ll lc,nv],I q,.agg #[.bool a.var,I a.v]] W (Rw (.bool (cN x q a)) W)):=λW hW q a hq=>ris_any ((h.below hW).mono hW.size) q hq a;obtain⟨op,⟨av,an⟩,⟨bv,bn⟩⟩:=e;have HX:=Z hx;have HE:Y (bM x k ⟨op,⟨av,an⟩,⟨bv,bn⟩⟩=if op<0 then cN x k ⟨av,an⟩ else((Fl.nd x k).kind==2 && ((Fl.nd x k).a==op && (cN x (Fl.nd x k).b ⟨av,an⟩ && cN x (Fl.nd x k).c ⟨bv,bn⟩)))):=by
  show _=_;unfold bM;rw[zv7,zv7]
 unfold exV;obtain⟨aX,d0⟩:=J (bM x k ⟨op,⟨av,an⟩,⟨bv,bn⟩⟩);rw[<-d0]at HE⊢;obtain⟨j,rfl⟩:∃j:Nat,k=(j:Int):=⟨k.toNat,by omega⟩
 have hj:j<x.length:=by omega
 obtain⟨b,off,cap,rfl,h0⟩:=zv6 h (by omega);obtain⟨ln,lc2,hn⟩:=h0 j hj
 have v0:(j:Int)<(x.length:Int):=by omega
 clear d0 hx h
 by_cases i0:op<0
 ·have HR:Y (aX=cN x (j:Int) ⟨av,an⟩):=by show _=_;rw[HE.out,G i0]
  have HB:Y (∀o o',D w ((w.alloc o).alloc o')):=λo o'=>(bA).alloc (by simp) _;rw[HR.out];clear HE HR HX h0 hn
  go_enter func60,ntmps60
  go_wp2_with fail
  refine(g0 _ (HB _ _) (j:Int) ⟨av,an⟩ hk).mono ?_;rintro e w1 ⟨rfl,a0⟩;have e0:=Z ((HB _ _).trans (a0.mono (HB _ _).size));clear a0;go_wp2;go_ret;exact⟨rfl,e0⟩
 have HR:Y (aX=((nth x j).kind==2 && ((nth x j).a==op && (cN x (nth x j).b ⟨av,an⟩ && cN x (nth x j).c ⟨bv,bn⟩)))):=by show _=_;rw[HE.out,U i0];rfl
 have j0:Y ((nth x j).kind=2->(0<=(nth x j).b/\(nth x j).b.toNat<x.length)/\(0<=(nth x j).c/\(nth x j).c.toNat<x.length)):=HX.out;have c0:=hn.c0;have c1:=hn.c1;have c2:=hn.c2;have c3:=hn.c3;have c4:=hn.c4;have c5:=hn.c5;have hbz:=hn.hz;have o0:¬op<(0:Int):=i0;have HB:Y (∀o o' o2,D w (((w.alloc o).alloc o').alloc o2)):=λo o' o2=>((bA).alloc (by simp) _).alloc (by simp;omega) _;clear HE HX h0 hn;generalize nth x j=n at*
 cases h2:(n.kind==2)
 ·rw[h2,Bool.false_and]at HR
  have b2:(n.kind !=2)=true:=(by rw[bne,h2];rfl);rw[HR.out];clear HR h2
  go_enter func60,ntmps60
  go_wp2;go_ret;exact⟨rfl,HB _ _ _⟩
 cases h3:(n.a==op)
 ·rw[h2,h3,Bool.false_and,Bool.and_false]at HR
  have b2:(n.kind !=2)=false:=(by rw[bne,h2];rfl);have b3:(n.a !=op)=true:=(by rw[bne,h3];rfl);rw[HR.out];clear HR h2 h3
  go_enter func60,ntmps60
  go_wp2;go_ret;exact⟨rfl,HB _ _ _⟩
 rw[h2,h3,Bool.true_and,Bool.true_and]at HR;obtain⟨k0,l0⟩:=j0 (by simpa using h2)
 have b2:(n.kind !=2)=false:=by rw[bne,h2];rfl
 have b3:(n.a !=op)=false:=by rw[bne,h3];rfl
 have p0:Y (0<=n.b/\n.b.toNat<x.length):=k0;have s0:Y (0<=n.c/\n.c.toNat<x.length):=l0;rw[HR.out];have m0:Y (∀W,D w W->_):=λW hW=>g0 W hW n.b ⟨av,an⟩ p0.out;generalize cN x n.b ⟨av,an⟩=ra at m0⊢;clear HR j0 h2 h3 k0 l0
 go_enter func60,ntmps60
 go_wp2_with fail
 obtain⟨W0,b0⟩:=J ((((w.alloc (.cells #[A la ll lc,Sq b off x.length cap] 30)).alloc (.cells #[I op,.bool av,I (an:Int),.bool bv,I (bn:Int)] 89)).alloc (.cells #[I n.kind,I n.ak,I n.a,I n.b,I n.c,A ln n.ae.length lc2] 73)))
 have q0:W0.cell? (O w.heap.size 0)=some (A la ll lc):=by rw[b0];go_simp
 have q1:W0.cell? (O w.heap.size 1)=some (Sq b off x.length cap):=by rw[b0];go_simp
 have q3:W0.cell? (O (w.heap.size+1) 3)=some (.bool bv):=by rw[b0];go_simp
 have q4:W0.cell? (O (w.heap.size+1) 4)=some (I (bn:Int)):=by rw[b0];go_simp
 have qc:W0.cell? (O (w.heap.size+1+1) 4)=some (I n.c):=by rw[b0];go_simp
 have t0:w.heap.size+3=W0.heap.size:=by rw[b0];simp
 have f0:Y (D w W0):=by show Below _ _ _;rw[b0];exact HB _ _ _
 rw[<-b0];clear b0 HB;refine(m0 _ f0).mono ?_;rintro e w1 ⟨rfl,a0⟩;have e0:Y (D w w1):=f0.trans (a0.mono f0.size);have r0:=cT a0 (by show w.heap.size<_;omega) q0;have r1:=cT a0 (by show w.heap.size<_;omega) q1;have r3:=cT a0 (by show w.heap.size+1<_;omega) q3;have r4:=cT a0 (by show w.heap.size+1<_;omega) q4;have rc:=cT a0 (by show w.heap.size+1+1<_;omega) qc;clear a0 q0 q1 q3 q4 qc t0 f0
 go_wp2_with fail
 refine(g0 _ e0 _ ⟨bv,bn⟩ s0).mono ?_;rintro e w2 ⟨rfl,n0⟩;have u0:Y (D w w2):=e0.trans (n0.mono e0.size);clear n0
 cases ra
 all_goals
  go_wp2;go_ret;exact⟨rfl,u0⟩
end
structure FwIn(w:World)(Pb Lq:Nat)(rb:Nat->Nat)(bv hv lv nv:Value)(p:aY)(ls:Is)(x:List ar)(k b off cap lvl:Nat)(la ln:Option Addr)(lcp lc:Nat):Prop where
 rn:nv=Sq b off x.length cap
 rl:lv=A la ls.length lcp
 hz:Pb<w.heap.size
 hl:lvl<p.n/\(lvl:Int)=(nth x k).ak/\(lvl:Int)<(p.n:Int)
 nd:Jj w b (off+k*6) (nth x k) (A ln (nth x k).ae.length lc)
 al:∀j,j<x.length->∃ln lc,Jj w b (off+j*6) (nth x j) (A ln (nth x j).ae.length lc)
 lz:Lq<w.heap.size/\∀i,i<p.n->rb i<w.heap.size
structure zyz(w W:World)(lv nv ll:Value)(n:ar):Prop where
 be:D w W
 sz:w.heap.size<W.heap.size/\w.heap.size+1<W.heap.size
 s0:W.cell? (O w.heap.size 0)=some lv
 s1:W.cell? (O w.heap.size 1)=some nv
 t0:W.cell? (O (w.heap.size+1) 0)=some (I n.kind)
 t1:W.cell? (O (w.heap.size+1) 1)=some (I n.ak)
 t2:W.cell? (O (w.heap.size+1) 2)=some (I n.a)
 t3:W.cell? (O (w.heap.size+1) 3)=some (I n.b)
 t4:W.cell? (O (w.heap.size+1) 4)=some (I n.c)
 t5:W.cell? (O (w.heap.size+1) 5)=some ll
def zyz.new(w:World)(lv nv ll:Value)(n:ar):zyz w ((w.alloc (.cells #[lv,nv] 30)).alloc (.cells #[I n.kind,I n.ak,I n.a,I n.b,I n.c,ll] 73)).drew.drew lv nv ll n:=
 ⟨((bA).alloc (by simp) _).drew.drew,by simp;omega,by simp,by simp,by simp,by simp,by simp,by simp,by simp,by simp⟩
def zyz.below{W W':World}{nv ll:Value}(h:zyz w W lv nv ll n)(hb:D W W'):zyz w W' lv nv ll n:=by
 have q:∀i j,i<W.heap.size->W'.cell? (O i j)=W.cell? (O i j):=λi j hi=>hb.cell (p:=(O i j)) hi;have hz:=hb.size;obtain⟨h1,⟨h2,h3⟩,s0,s1,t0,t1,t2,t3,t4,t5⟩:=h;exact⟨h1.trans (hb.mono h1.size),by omega,(q _ _ h2).trans s0,(q _ _ h2).trans s1,(q _ _ h3).trans t0,(q _ _ h3).trans t1,(q _ _ h3).trans t2,(q _ _ h3).trans t3,(q _ _ h3).trans t4,(q _ _ h3).trans t5⟩
section
variable{nv:Value}
def zz6.fw(h:zz6 w Pb Lq rb aB hv bv lv nv p ls x)(k:Nat)(hk:k<x.length)(h0:0<=(nth x k).ak)(b0:(nth x k).ak<p.n):∃b off cap lvl la ln lcp lc,FwIn w Pb Lq rb bv hv lv nv p ls x k b off cap lvl la ln lcp lc:=by
 obtain⟨b,off,cap,e,a0⟩:=zv6 h.no (by omega);obtain⟨ln,lc,hn⟩:=a0 k hk
 obtain⟨la,lcp,e2⟩:∃a c,lv=A a ls.length c:=by obtain⟨a,c,e,-⟩:=h.li;exact⟨a,c,e⟩
 exact⟨b,off,cap,(nth x k).ak.toNat,la,ln,lcp,lc,⟨e,e2,h.hz,⟨by omega,by omega,by omega⟩,hn,a0,h.lq.lt (by omega)⟩⟩
def yx4(h:zz6 w Pb Lq rb aB hv bv lv nv p ls x)(k:Nat)(hk:k<x.length)(hl:(p.n:Int)<=(nth x k).ak):
  E 38 #[F Pb,.agg #[lv,nv],I k] w (Rw (.bool (follows p ls x (nth x k))) w):=by
 obtain⟨b,off,cap,rfl,a0⟩:=zv6 h.no (by omega);obtain⟨ln,lc,hn⟩:=a0 k hk
 obtain⟨la,lcp,rfl⟩:∃a c,lv=A a ls.length c:=by obtain⟨a,c,e,-⟩:=h.li;exact⟨a,c,e⟩
 have hz:=h.hz;have p0:=h.p0;obtain⟨hbz,c0,c1,c2,c3,c4,c5,-⟩:=hn
 have b0:(k:Int)<(x.length:Int):=by omega
 have HE:Y (follows p ls x (nth x k)=false):=by show _=_;unfold follows;rw[decide_eq_false (by omega)];rfl
 rw[HE.out];clear a0 h;generalize nth x k=n at*;clear HE
 go_enter func38,ntmps38
 go_wp2_with fail
 go_quiet (fail)
 go_wp2;go_ret;exact⟨rfl,yd8 ((bA).alloc (by simp) _) _⟩
def yt7(h:zz6 w Pb Lq rb aB hv bv lv nv p ls x)(k:Nat)(hk:k<x.length)(ho:zt1 p x (nth x k))(g0:∀y∈vars p ls,0<=y/\y<p.n)(h0:∀y∈p.ai,y<p.n)(a0:(nth x k).ak<p.n)(k0:(nth x k).a<2147483648)(b0:(nth x k).kind=0):
  E 38 #[F Pb,.agg #[lv,nv],I k] w (Rw (.bool (follows p ls x (nth x k))) w):=by
 obtain⟨b,off,cap,lvl,la,ln,lcp,lc,hf⟩:=h.fw k hk ho.lv a0;obtain⟨rfl,rfl,hz,⟨d0,e0,l0⟩,⟨hbz,c0,c1,c2,c3,c4,c5,i0⟩,j0,m0,f0⟩:=hf;have p0:=h.p0;have p1:=h.p1;have q1:=h.lq.c lvl d0
 have n0:(p.n:Int)<=6:=by have:=h.n6;omega
 have o0:(k:Int)<(x.length:Int):=by omega
 rw[<-e0]at c1;have q0:=f0 lvl d0
 have HE:Y (follows p ls x (nth x k)=true):=by show _=_;unfold follows bP;rw[decide_eq_true a0,G b0];rfl
 rw[HE.out];rw[b0]at c0;clear j0 h HE ho g0 h0 a0 b0 i0 f0;generalize nth x k=n at*;clear e0
 go_enter func38,ntmps38
 go_wp2_with fail
 refine Zf [] (by kernel_rfl) (by kernel_rfl) rfl (λops hG=>?_);clear hG
 iterate 7 still_step
 refine wpStill_nil ?_
 go_wp2_with fail
 refine Zf [] (by kernel_rfl) (by kernel_rfl) rfl (λops hG=>?_);clear hG
 iterate 9 still_step
 refine wpStill_nil ?_;go_wp2;go_ret;exact⟨rfl,((bA).alloc (by simp) _).drew.drew⟩
def zz6.cd(h:zz6 w Pb Lq rb aB hv bv lv nv p ls x){b off:Nat}(a0:∀j,j<x.length->∃ln lc,Jj w b (off+j*6) (nth x j) (A ln (nth x j).ae.length lc)){q:Int}(hq:POk p x q):∃(j l:Nat) (ln:Option Addr) (lc:Nat),q=(j:Int)/\j<x.length/\(j:Int)<(x.length:Int)/\Fl.nd x q=nth x j/\(nth x j).ak=(l:Int)/\l<p.n/\(l:Int)<(p.n:Int)/\Jj w b (off+j*6) (nth x j) (A ln (nth x j).ae.length lc)/\w.cell? (O Lq l)=some (Sq (rb l) 0 p.n p.n)/\(∀i,i<p.n->w.cell? (O (rb l) i)=some (.bool (p.leq l i)))/\rb l<w.heap.size:=by
 obtain⟨h0,h1,h2,h3,h4⟩:=hq;have e:Fl.nd x q=nth x q.toNat:=rfl;rw[e]at h2 h3;obtain⟨ln,lc,hn⟩:=a0 q.toNat h1
 have hl:(nth x q.toNat).ak.toNat<p.n:=by omega
 exact⟨q.toNat,(nth x q.toNat).ak.toNat,ln,lc,by omega,h1,by omega,e,by omega,hl,by omega,hn,h.lq.c _ hl,λi hi=>h.lq.r _ _ hl hi,(h.lq.lt (by omega)).2 _ hl⟩
def zrx(k:Int):decide (cC k=0)=decide (k<=2):=by
 unfold cC
 by_cases h:k<=2
 ·simp[h]
 rw[U h]
 by_cases h2:k<=6
 ·simp[h,h2]
 simp[h,h2]
end
section
variable{nv:Value}
def yt8(h:zz6 w Pb Lq rb aB hv bv lv nv p ls x)(k:Nat)(hk:k<x.length)(ho:zt1 p x (nth x k))(n0:∀y∈vars p ls,0<=y/\y<p.n)(t0:∀y∈p.ai,y<p.n)(b0:(nth x k).ak<p.n)(o0:(nth x k).a<2147483648)(d0:(nth x k).kind=1):
  E 38 #[F Pb,.agg #[lv,nv],I k] w (Rw (.bool (follows p ls x (nth x k))) w):=by
 have q0:Y (∀W,D w W->∀v:Nat,(v:Int)<2147483648->E 43 #[F Pb,.agg #[lv,nv],I v] W (Rw (I (Ui p ls v)) W)):=λW hW v hv2=>zey (h.below hW) v hv2;obtain⟨b,off,cap,lvl,la,ln,lcp,lc,hf⟩:=h.fw k hk ho.lv b0;obtain⟨rfl,rfl,hz,⟨j0,g0,y0⟩,⟨hbz,c0,c1,c2,c3,c4,c5,u0⟩,v0,x0,k0⟩:=hf;have p0:=h.p0;have p1:=h.p1;have q1:=h.lq.c lvl j0
 have z0:(p.n:Int)<=6:=by have:=h.n6;omega
 have A0:(k:Int)<(x.length:Int):=by omega
 rw[<-g0]at c1;have B0:=k0 lvl j0;obtain⟨an,e0⟩:∃an:Nat,(an:Int)=(nth x k).a:=⟨(nth x k).a.toNat,by have:=ho.k1 d0;omega⟩;have HE:Y (follows p ls x (nth x k)=(decide (an<(vars p ls).length) && p.leq ((vars p ls).getD an 0).toNat lvl)):=by
  show _=_;unfold follows bP;rw[decide_eq_true b0,U (by omega),G d0,<-e0,<-g0];unfold aO;simp
 have h0:Y (Ui p ls an=if an<(vars p ls).length then(vars p ls).getD an 0 else -1):=by show _=_;unfold Ui;rw[Qm]
 have a0:Y (an<(vars p ls).length->∃y:Nat,(vars p ls).getD an 0=(y:Int)/\y<p.n/\M w Lq y (Sq (rb y) 0 p.n p.n)/\M w (rb y) lvl (.bool (p.leq y lvl))/\rb y<w.heap.size):=λb0=>by
  have h1:=n0 (vars p ls)[an] (getElem_mem b0);have e:(vars p ls).getD an 0=(vars p ls)[an]:=(by rw[Qa,Qb b0];rfl);have hy:((vars p ls)[an]).toNat<p.n:=(by omega);exact⟨((vars p ls)[an]).toNat,by rw[e];omega,hy,h.lq.c _ hy,h.lq.r _ _ hy j0,k0 _ hy⟩
 have r0:Y (∀W,D w W->_):=λW hW=>q0 W hW an (by rw[e0];exact o0);have HL:=Z g0;have HK:=Z d0;have HA:=Z e0;obtain⟨aX,f0⟩:=J (follows p ls x (nth x k));rw[<-f0]at HE⊢;have l0:=Z p1;rw[d0]at c0;rw[<-e0]at c2;clear v0 h ho n0 t0 b0 d0 u0 k0 g0 f0 e0 o0 q0;generalize nth x k=n at*
 go_enter func38,ntmps38
 go_wp2_with fail
 refine Zf [] (by kernel_rfl) (by kernel_rfl) rfl (λops hG=>?_);clear hG
 iterate 7 still_step
 refine wpStill_nil ?_
 go_wp2_with fail
 refine Zf [] (by kernel_rfl) (by kernel_rfl) rfl (λops hG=>?_);clear hG
 iterate 9 still_step
 refine wpStill_nil ?_
 go_wp2_with fail
 obtain⟨W0,m0⟩:=J (((w.alloc (.cells #[A la ls.length lcp,Sq b off x.length cap] 30)).alloc (.cells #[I 1,I (lvl:Int),I (an:Int),I n.b,I n.c,A ln n.ae.length lc] 73)).drew.drew);have HF:Y (zyz w W0 (A la ls.length lcp) (Sq b off x.length cap) (A ln n.ae.length lc) n):=by
  have h9:=zyz.new w (A la ls.length lcp) (Sq b off x.length cap) (A ln n.ae.length lc) n;rw[HK.out,<-HL.out,<-HA.out,<-m0]at h9;exact h9
 rw[<-m0];clear p0 p1 c0 c1 c2 c3 c4 c5 q1 m0;refine(r0 W0 HF.be).mono ?_;rintro e w1 ⟨rfl,s0⟩;have i0:=Z (HF.below s0);clear s0 r0
 by_cases ha:an<(vars p ls).length
 ·obtain⟨y,hy,C0,y1,y2,y3⟩:=a0 ha
  rw[h0.out,G ha,hy];have HR:Y (aX=p.leq y lvl):=(by show _=_;rw[HE.out,decide_eq_true ha,hy];rfl);have hb:=i0.be;have u1:=i0.t1;rw[<-HL.out]at u1;have z1:=cT hb hz l0.out;have z2:=cT hb x0 y1;have z3:=cT hb y3 y2;have D0:(y:Int)<(p.n:Int):=(by omega);generalize p.leq y lvl=rr at*;clear hb y1 y2 HE h0 a0 hy l0 HA HK HL
  go_wp2_with fail
  refine Zf [(2,58)] (by kernel_rfl) (by kernel_rfl) rfl (λops hG=>?_);have g1:=hG (2,58) (by simp);simp only at g1;clear hG
  iterate 16 still_step
  refine wpStill_nil ?_;go_wp2;go_ret;exact⟨cbE HR,i0.be.drew⟩
 rw[h0.out,U ha]
 have HR:Y (aX=false):=by show _=_;rw[HE.out,decide_eq_false ha];rfl
 clear HE h0 a0 l0 HA HK HL
 go_wp2_with fail
 refine Zf [(2,58)] (by kernel_rfl) (by kernel_rfl) rfl (λops hG=>?_);have g1:=hG (2,58) (by simp);simp only at g1;clear hG
 iterate 16 still_step
 refine wpStill_nil ?_;go_wp2;go_ret;exact⟨cbE HR,i0.be.drew⟩
end
section
variable{nv:Value}
def yq8(h:zz6 w Pb Lq rb aB hv bv lv nv p ls x)(k:Nat)(hk:k<x.length)(ho:zt1 p x (nth x k))(C0:∀y∈vars p ls,0<=y/\y<p.n)(D0:∀y∈p.ai,y<p.n)(k0:(nth x k).ak<p.n)(E0:(nth x k).a<2147483648)(b0:(nth x k).kind=2):
  E 38 #[F Pb,.agg #[lv,nv],I k] w (Rw (.bool (follows p ls x (nth x k))) w):=by
 obtain⟨b,off,cap,lvl,la,ln,lcp,lc,hf⟩:=h.fw k hk ho.lv k0;obtain⟨rfl,rfl,hz,⟨h0,i0,L0⟩,⟨hbz,c0,c1,c2,c3,c4,c5,F0⟩,l0,m0,x0⟩:=hf;have p0:=h.p0;have p1:=h.p1;have q1:=h.lq.c lvl h0
 have M0:(p.n:Int)<=6:=by have:=h.n6;omega
 have N0:(k:Int)<(x.length:Int):=by omega
 rw[<-i0]at c1;have G0:=x0 lvl h0;obtain⟨y0,z0⟩:=ho.k2 b0;obtain⟨B,lB,lnB,lcB,eB,hB,O0,eNB,eLB,P0,H0,⟨-,d0,d1,d2,d3,d4,d5,-⟩,dq,dr,dz⟩:=h.cd l0 y0;obtain⟨C,lC,lnC,lcC,eC,hC,Q0,eNC,eLC,R0,I0,⟨-,e0,e1,e2,e3,e4,e5,-⟩,eq,er,ez⟩:=h.cd l0 z0;have HE:Y (follows p ls x (nth x k)=(decide ((nth x k).a<5) && (decide ((nth x B).kind<=2) && (decide ((nth x C).kind<=2) && (p.leq lB lvl && p.leq lC lvl))))):=by
  show _=_;unfold follows bP;rw[decide_eq_true k0,U (by omega),U (by omega),G b0,eNB,eNC,zrx,zrx,eLB,eLC,<-i0];unfold aO;simp
 rw[eB]at c3;rw[eC]at c4;have r1:=dr lvl h0;have r2:=er lvl h0;have HL:=Z i0;have HK:=Z b0;have HA:Y ((B:Int)=(nth x k).b/\(C:Int)=(nth x k).c):=⟨eB.symm,eC.symm⟩;rw[eLB]at d1;rw[eLC]at e1;obtain⟨aX,g0⟩:=J (follows p ls x (nth x k));rw[<-g0]at HE⊢;rw[b0]at c0;clear l0 h ho C0 D0 k0 b0 F0 x0 i0 g0 E0 y0 z0 eB eC eNB eNC eLB eLC dr er;generalize nth x k=n at*;generalize nth x B=nB at*;generalize nth x C=nC at*;generalize p.leq lB lvl=vb at*;generalize p.leq lC lvl=vc at*
 go_enter func38,ntmps38
 go_wp2_with fail
 refine Zf [] (by kernel_rfl) (by kernel_rfl) rfl (λops hG=>?_);clear hG
 iterate 7 still_step
 refine wpStill_nil ?_
 go_wp2_with fail
 refine Zf [] (by kernel_rfl) (by kernel_rfl) rfl (λops hG=>?_);clear hG
 iterate 9 still_step
 refine wpStill_nil ?_
 go_upto_region 12 with fail
 obtain⟨W0,n0⟩:=J (((w.alloc (.cells #[A la ls.length lcp,Sq b off x.length cap] 30)).alloc (.cells #[I 2,I (lvl:Int),I n.a,I (B:Int),I (C:Int),A ln n.ae.length lc] 73)).drew.drew);have HF:Y (zyz w W0 (A la ls.length lcp) (Sq b off x.length cap) (A ln n.ae.length lc) n):=by
  have h9:=zyz.new w (A la ls.length lcp) (Sq b off x.length cap) (A ln n.ae.length lc) n;rw[HK.out,<-HL.out,<-HA.1,<-HA.2,<-n0]at h9;exact h9
 rw[<-n0]
 have A0:Y (At W0 [((O Pb 1),Sq Lq 0 p.n p.n),((O Lq lB),Sq (rb lB) 0 p.n p.n),((O Lq lC),Sq (rb lC) 0 p.n p.n),((O (rb lB) lvl),.bool vb),((O (rb lC) lvl),.bool vc),((O (w.heap.size+1) 1),I (lvl:Int)),((O (w.heap.size+1) 2),I n.a)]):=
  ⟨⟨by have:=HF.sz.1;show Pb<_;omega,cT HF.be hz p1⟩,⟨by have:=HF.sz.1;show Lq<_;omega,cT HF.be m0 dq⟩,⟨by have:=HF.sz.1;show Lq<_;omega,cT HF.be m0 eq⟩,⟨by have:=HF.sz.1;show rb lB<_;omega,cT HF.be dz r1⟩,⟨by have:=HF.sz.1;show rb lC<_;omega,cT HF.be ez r2⟩,⟨HF.sz.2,by rw[HL.out];exact HF.t1⟩,⟨HF.sz.2,HF.t2⟩,trivial⟩
 have a0:=HF.be;have D0x:=cT a0 hbz d0;have E0x:=cT a0 hbz e0;have D1x:=cT a0 hbz d1;have E1x:=cT a0 hbz e1;have D2x:=cT a0 hbz d2;have E2x:=cT a0 hbz e2;have D3x:=cT a0 hbz d3;have E3x:=cT a0 hbz e3;have D4x:=cT a0 hbz d4;have E4x:=cT a0 hbz e4;have D5x:=cT a0 hbz d5;have E5x:=cT a0 hbz e5;obtain⟨s0,s1,T3,T4⟩:_/\_/\_/\_:=⟨HF.s0,HF.s1,HF.t3,HF.t4⟩;rw[<-HA.1]at T3;rw[<-HA.2]at T4;have S0:=HF.sz.1;have T0:=HF.sz.2
 have J0:b<W0.heap.size:=by omega
 have j0:=Z a0;clear p0 p1 c0 c1 c2 c3 c4 c5 q1 n0 d0 d1 d2 d3 d4 d5 e0 e1 e2 e3 e4 e5 dq eq r1 r2 a0 HF hz m0 hbz dz ez G0 HA HL HK;have B0:=Z (((A0.node nB.kind lB nB.a nB.b nB.c (A lnB nB.ae.length lcB) 73 W0.heap.size rfl).node nC.kind lC nC.a nC.b nC.c (A lnC nC.ae.length lcC) 73 (W0.heap.size+1) (size_alloc _ _)));have o0:Y (∀o1 o2,D w ((W0.alloc o1).alloc o2)):=λo1 o2=>(j0.alloc j0.size _).alloc (by have:=j0.size;simp;omega) _
 go_wp2_with fail
 refine(zx8 _ _ _ _ _ _ _ _ _).mono ?_;rintro e w1 ⟨rfl,q0⟩;have r0:=Z (B0.below q0);have t0:=Z ((o0 _ _).trans (q0.mono (o0 _ _).size));obtain⟨⟨-,f0⟩,⟨-,f1⟩,⟨-,f2⟩,⟨-,f3⟩,⟨-,f4⟩,⟨-,f5⟩,-⟩:=r0.out;clear q0 D0x D1x D2x D3x D4x D5x E0x E1x E2x E3x E4x E5x s0 s1 T3 T4 B0 o0 A0 j0
 go_wp2_with fail
 refine(zx8 _ _ _ _ _ _ _ _ _).mono ?_;rintro e w2 ⟨rfl,v0⟩;have K0:=Z (t0.trans (v0.mono t0.size));obtain⟨⟨-,f0⟩,⟨-,f1⟩,⟨-,f2⟩,⟨-,f3⟩,⟨-,f4⟩,⟨-,f5⟩,⟨-,u0⟩,⟨-,u1⟩,⟨-,u2⟩,⟨-,u3⟩,⟨-,u4⟩,⟨-,u5⟩,⟨-,v1⟩,⟨-,v2⟩,⟨-,v3⟩,⟨-,v4⟩,⟨-,v5⟩,⟨-,v6⟩,⟨-,v7⟩,-⟩:=r0.below v0;clear v0 r0 t0;obtain⟨one,h1⟩:∃v,v=decide (nB.kind<=2):=⟨_,rfl⟩;obtain⟨two,h2⟩:∃v,v=decide (nC.kind<=2):=⟨_,rfl⟩;rw[<-h1,<-h2]at HE;rw[<-h1,<-h2];clear h1 h2;have hc:one=false\/(one=true/\two=false)\/(one=true/\two=true/\(n.a<5)=False)\/(one=true/\two=true/\n.a<5/\vb=false)\/(one=true/\two=true/\n.a<5/\vb=true):=by
  cases one<;>cases two<;>cases vb<;>by_cases h5:n.a<5<;>simp[h5]
 rcases hc with rfl|⟨rfl,rfl⟩|⟨rfl,rfl,h5⟩|⟨rfl,rfl,h5,rfl⟩|⟨rfl,rfl,h5,rfl⟩
 all_goals
  go_wp2_with fail
  refine Zf [(1,90),(4,93),(9,98),(23,112)] (by kernel_rfl) (by kernel_rfl) rfl (λops hG=>?_);have g1:=hG (1,90) (by simp);have g2:=hG (4,93) (by simp);have g3:=hG (9,98) (by simp);have g4:=hG (23,112) (by simp);simp only at g1 g2 g3 g4;clear hG
  iterate 38 still_step
  refine wpStill_nil ?_;go_wp2;go_ret;exact⟨congrArg (λb=>Ending.returned (.bool b)) (by rw[HE.out];first|simp;done|simp[h5]),K0.drew⟩
end
end Go.Proofs.YtgmbnnpnefniiaaGreatDoor
