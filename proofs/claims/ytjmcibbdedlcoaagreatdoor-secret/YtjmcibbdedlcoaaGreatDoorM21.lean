import Derived.Test.YtjmcibbdedlcoaaGreatDoorM08
set_option linter.all false
set_option maxRecDepth 100000
set_option maxHeartbeats 40000000
namespace Go.Proofs.YtjmcibbdedlcoaaGreatDoor
open Go.RowKit Go.Proofs.Tryz List Region Act Fl
variable{w:World}{Lb Cb Pb Rl j nb no d:Nat}{n:ar}{vv hv v bC:Value}{p:aV}{vs ls:Is}{x:List ar}{P:Program}{ops:Array Oper}{Q:Exit->Act->World->Prop}{S:Nat->Prop}{o:Oper}{a:Act}{b:Bool}
def zmz(k:Nat):Int:=if k<=2 then 0 else if k<=6 then 1 else 2
def zd3(k:Nat):FuncId:=if k=0 then 86 else if k=1 then 87 else if k=2 then 88 else if k=3 then 89 else if k=4 then 90 else if k=5 then 91 else if k=6 then 92 else 93
structure Yb(w:World)(Cb Pb Lb Rl:Nat)(vv nv hv:Value)(p:aV)(vs:Is)(x:List ar):Prop where
 hz:Cb<w.heap.size/\Pb<w.heap.size/\Lb<w.heap.size/\Rl<w.heap.size
 c0:w.cell? (Y Cb 0)=some (M Pb)
 c1:w.cell? (Y Cb 1)=some vv
 c2:w.cell? (Y Cb 2)=some nv
 c3:w.cell? (Y Cb 3)=some (Sq Rl 0 8 8)
 p0:w.cell? (Y Pb 0)=some (M Lb)
 p2:w.cell? (Y Pb 2)=some hv
 la:Un w Lb p.n p.leq
 vi:Zw w.heap.size w vv vs
 hi:Zw w.heap.size w hv (p.aj.map λ(y:Nat)=>(y:Int))
 no:Yz w.heap.size w nv x
 ru:∀k,k<8->w.cell? (Y Rl (k*2))=some (I (zmz k))/\w.cell? (Y Rl (k*2+1))=some (.func (.func (zd3 k)) #[] #[])
 n6:p.n<=6
def Yb.below{w w':World}{Cb Pb Lb Rl:Nat}{vv nv hv:Value}{p:aV}{vs:Is}{x:List ar}(h:Yb w Cb Pb Lb Rl vv nv hv p vs x)(hb:E w w'):Yb w' Cb Pb Lb Rl vv nv hv p vs x:=by
 obtain⟨z1,z2,z3,z4⟩:=h.hz;have hz:=hb.size;have q:∀b i,b<w.heap.size->w'.cell? (Y b i)=w.cell? (Y b i):=λb i a0=>hb.cell (p:=(Y b i)) a0;exact{hz:=⟨by omega,by omega,by omega,by omega⟩,c0:=(q _ _ z1).trans h.c0,c1:=(q _ _ z1).trans h.c1,c2:=(q _ _ z1).trans h.c2,c3:=(q _ _ z1).trans h.c3,p0:=(q _ _ z2).trans h.p0,p2:=(q _ _ z2).trans h.p2,la:=h.la.block (hb.block _ z3),vi:=(h.vi.below hb).mono hz,hi:=(h.hi.below hb).mono hz,no:=(h.no.below hb).mono hz,ru:=λk hk=>⟨(q _ _ z4).trans (h.ru k hk).1,(q _ _ z4).trans (h.ru k hk).2⟩,n6:=h.n6}
section
variable{n:Nat}{t:cG}
def yo0(h:Un w Lb n t)(v:Int):F 84 #[M Lb,I v] w (Rq (.bool (decide (0<=v/\v<n))) w):=by
 have c0:=h.c0;clear h
 by_cases h1:0<=v
 ·by_cases h2:v<n
  ·have e:decide (0<=v/\v<n)=true:=decide_eq_true ⟨h1,h2⟩
   rw[e];clear e
   go_enter func84,ntmps84
   go_wp2;go_ret;exact⟨rfl,rfl⟩
  have e:decide (0<=v/\v<n)=false:=decide_eq_false (λh=>h2 h.2);rw[e];clear e
  go_enter func84,ntmps84
  go_wp2;go_ret;exact⟨rfl,rfl⟩
 have e:decide (0<=v/\v<n)=false:=decide_eq_false (λh=>h1 h.1);rw[e];clear e
 go_enter func84,ntmps84
 go_wp2;go_ret;exact⟨rfl,rfl⟩
def yf0(h:Un w Lb n t)(hn:n<=6)(a b:Nat)(ha:a<n)(hb:b<n):F 141 #[M Lb,I a,I b] w (Rq (.bool (t a b)) w):=by
 have c:=h.cu a b ha hb
 have a0:(a:Int)<6:=by omega
 have b0:(b:Int)<6:=by omega
 have e:1+6*a+b=1+a*6+b:=by omega
 rw[e]at c;clear h e
 go_enter func141,ntmps141
 go_wp2;go_ret;exact⟨rfl,rfl⟩
end
def yo1(r ro:Nat):decide (r=ro)=(((r:Nat):Int)==(ro:Int)):=by
 by_cases h:r=ro
 ·subst h;simp
 rw[decide_eq_false h];symm;rw[Qh];omega
def ycz(k:Nat):zmz k=((dk (k:Int):Nat):Int):=by
 unfold zmz dk
 by_cases h1:k<=2
 ·rw[G h1,G (by omega)];rfl
 by_cases h2:k<=6
 ·rw[Z h1,G h2,Z (by omega),G (by omega)];rfl
 rw[Z h1,Z h2,Z (by omega),Z (by omega)];rfl
section
variable{nv:Value}
def Yb.node(h:Yb w Cb Pb Lb Rl vv nv hv p vs x)(k:Nat)(hk:k<x.length):∃b off cap,nv=Sq b off x.length cap/\b<w.heap.size/\w.cell? (Y b (off+k*6))=some (I (nth x k).kind)/\w.cell? (Y b (off+k*6+1))=some (I (nth x k).ag):=by
 obtain⟨ao,cap,e,-,-,h4⟩:=h.no;obtain⟨b,off,e2,hb,hc⟩:=h4 (by rintro rfl;simp at hk);obtain⟨lv,-,h5,h6,-⟩:=hc k hk;exact⟨b,off,cap,by rw[e,e2],hb,h5,h6⟩
def yk8(h:Yb w Cb Pb Lb Rl vv nv hv p vs x)(k:Nat)(hk:k<x.length):F 136 #[M Cb,I k] w (Rq (I (nth x k).ag) w):=by
 obtain⟨b,off,cap,rfl,-,-,c1⟩:=h.node k hk;have c2:=h.c2
 have a0:(k:Int)<(x.length:Int):=by omega
 clear h
 go_enter func136,ntmps136
 go_wp2;go_ret;exact⟨rfl,rfl⟩
def is_any(h:Yb w Cb Pb Lb Rl vv nv hv p vs x)(ro:Nat)(k:Nat)(hk:k<x.length)(e0:0<=(nth x k).kind/\(nth x k).kind<=7):F 135 #[M Cb,I ro,I k] w (Rq (.bool (decide (dk (nth x k).kind=ro))) w.drew):=by
 obtain⟨b,off,cap,rfl,-,c0,-⟩:=h.node k hk;have c2:w.drew.cell? (Y Cb 2)=some (Sq b off x.length cap):=h.c2;have c3:w.drew.cell? (Y Cb 3)=some (Sq Rl 0 8 8):=h.c3;obtain⟨kd,a0⟩:∃kd:Nat,(kd:Int)=(nth x k).kind:=⟨(nth x k).kind.toNat,by omega⟩
 have f0:kd<8:=by omega
 have cr:w.drew.cell? (Y Rl (kd*2))=some (I (zmz kd)):=(h.ru kd f0).1
 have c0':w.drew.cell? (Y b (off+k*6))=some (I (kd:Int)):=by rw[a0];exact c0
 have h0:(k:Int)<(x.length:Int):=by omega
 have g0:(kd:Int)<8:=by omega
 have HR:O (decide (dk (nth x k).kind=ro)=(zmz kd==(ro:Int))):=by
  show _=_;rw[<-a0];rw[ycz];exact yo1 _ _
 obtain⟨rl,d0⟩:=U (zmz kd);rw[<-d0]at cr HR;obtain⟨aX,b0⟩:=U (decide (dk (nth x k).kind=ro));rw[<-b0]at HR⊢;clear h e0 a0 c0 d0 b0
 go_enter func135,ntmps135
 go_wp2_with fail
 refine Zb (λW=>W.cell? (Y Cb 2)=some (Sq b off x.length cap)/\W.cell? (Y Cb 3)=some (Sq Rl 0 8 8)/\W.cell? (Y Rl (kd*2))=some (I rl)/\W.cell? (Y b (off+k*6))=some (I (kd:Int))) [] [] [] ⟨c2,c3,cr,c0'⟩ (by kernel_rfl) (λ_ _ _ _ h=>h) (λops hG=>?_);clear hG c2 c3 cr c0'
 iterate 18 refine Zv rfl (by intros;go_simp<;>rfl) (by go_simp<;>rfl) ?_
 refine Zu ?_;go_wp2;go_ret;exact⟨cbE HR,rfl⟩
def zj7(h:Yb w Cb Pb Lb Rl vv nv hv p vs x)(ct:Nat)(ht:ct<p.n)(v:Value)(ls:Is)(hl:Zw w.heap.size w v ls)(n0:ls.length<=100)(hr:∀y∈ls,0<=y/\y<p.n):F 134 #[M Cb,I ct,v] w (Rq (.bool (ls.all λy=>aR p y ct)) w):=by
 obtain⟨ao,cap,rfl,hc,-,a0⟩:=hl;have c0:=h.c0;have p0:=h.p0;have j0:O (∀(a:Nat),a<p.n->F 141 #[M Lb,I a,I ct] w (Rq (.bool (p.leq a ct)) w)):=λa ha=>yf0 h.la h.n6 a ct ha ht
 have k0:O (∀i,(hi:i<ls.length)->∃b off,ao=some (Y b off)/\∃y:Nat,(y:Int)=ls[i]/\y<p.n/\w.cell? (Y b (off+i))=some (I (y:Int))):=λi hi=>by
  obtain⟨b,off,e,-,hc⟩:=a0 (by rintro rfl;simp at hi);have h1:=hr ls[i] (getElem_mem hi);refine⟨b,off,e,ls[i].toNat,by omega,by omega,?_⟩;rw[hc i hi,Qa,Qb hi];simp only[Option.getD_some];rw[show ((ls[i].toNat:Nat):Int)=ls[i] by omega]
 have o0:(ls.length:Int)<=100:=by omega
 have q0:(ls.length:Int)<=(cap:Int):=by omega
 clear h a0 hr
 go_enter func134,ntmps134
 go_wp2_with fail
 go_loopw [11] (λi wr=>wr=w/\∃k:Nat,k<=ls.length/\i=I k/\(ls.take k).all (λy=>aR p y ct)=true) (λi _=>ls.length - (intOf i).toNat)
 case atStart=>exact⟨rfl,0,Nat.zero_le _,rfl,rfl⟩
 case round=>
  obtain⟨h0,k,hk,rfl,aH⟩:=hrel;have b0:=A aH;rw[h0];clear h0 aH wr
  by_cases f0:k<ls.length
  ·have l0:(k:Int)<(ls.length:Int):=by omega
   obtain⟨b,off,rfl,y,hy,m0,cy⟩:=k0 k f0;obtain⟨yk,g0⟩:=U (ls[k]);have d0:O (yk∈ls/\ls.take (k+1)=ls.take k++[yk]):=(by rw[g0];exact⟨getElem_mem f0,take_succ_eq_append_getElem f0⟩);have HU:O (aR p yk ct=p.leq y ct):=(by show _=_;unfold aR;rw[g0,<-hy];simp);have e0:O (F 141 #[M Lb,I y,I ct] w (Rq (.bool (p.leq y ct)) w)):=j0 y m0;generalize p.leq y ct=bb at*;clear hy g0
   go_wp2_with fail
   refine e0.mono ?_;rintro e w1 ⟨rfl,i0⟩;rw[i0];clear i0 w1
   cases bb with
   |false=>
    have HE:O ((ls.all λy=>aR p y ct)=false):=by
     show _=_;rw[all_eq_false];exact⟨yk,d0.1,by rw[HU.out];simp⟩
    go_wp2;go_ret;exact⟨cbE HE,rfl⟩
   |true=>
    have HN:O ((ls.take (k+1)).all (λy=>aR p y ct)=true):=by
     show _=_;rw[d0.2,all_append,b0.out,all_cons,HU.out];rfl
    go_wp2
    go_roundw
    case rel=>exact⟨by first|rfl|trivial,k+1,by omega,by go_num,HN⟩
    case measure=>simp[intOf];omega
  have l0:¬(k:Int)<(ls.length:Int):=(by omega);have HE:O ((ls.all λy=>aR p y ct)=true):=by
   show _=_;have h1:=b0.out;rw[take_of_length_le (by omega)]at h1;exact h1
  go_wp2;go_ret;exact⟨cbE HE,rfl⟩
end
section
variable{S:World->Prop}
def zxy{l:List (Nat×Oper)}{c:Bool}(hg:o.guard=some (j,b))(hy:yielded ops a.tmps j=some c)(a0:(some c==some b)=false)(hS:S w)
  (h:Yp P ops S Q l (a.put o.dst undef) w):Yp P ops S Q ((1,o)::l) a w:=wpList_skip (by simpa [wanted,hg,hy] using a0) ⟨hS,h⟩
def Jn{l:List (Nat×Oper)}(hg:o.guard=some (j,true))(hy:yielded ops a.tmps j=some false)(h:Yp P ops S Q l (a.put o.dst undef) w):Yp P ops S Q ((0,o)::l) a w:=Ud hg hy (by decide) h
def Js{l:List (Nat×Oper)}(hg:o.guard=some (j,true))(hy:yielded ops a.tmps j=some false)(hS:S w)(h:Yp P ops S Q l (a.put o.dst undef) w):Yp P ops S Q ((1,o)::l) a w:=zxy hg hy (by decide) hS h
def ys0{l:List (Nat×Oper)}(hg:o.guard=some (j,b))(hy:yielded ops a.tmps j=none)(hS:S w)
  (h:Yp P ops S Q l (a.put o.dst undef) w):Yp P ops S Q ((1,o)::l) a w:=wpList_skip (by simp[wanted,hg,hy]) ⟨hS,h⟩
def Yt{l:List (Nat×Oper)}{dst:Option Tmp}{op:Op}{ty:TypeId}{pos:String}{after:Array Edge}{guard:Option (Nat×Bool)}
  (hw:wanted {dst:=dst,op:=op,type:=ty,pos:=pos,after:=after,guard:=guard} (yielded ops a.tmps)=true) (h:wpList P ops (Exit.then (λa1 w1=>S w1/\Yp P ops S Q l a1 w1) Q) [{dst:=dst,op:=op,type:=ty,pos:=pos,after:=after,guard:=none}] a w):
  Yp P ops S Q ((1,{dst:=dst,op:=op,type:=ty,pos:=pos,after:=after,guard:=guard})::l) a w:=Ub hw h
end
structure zv5(w:World)(nb no:Nat)(n:ar)(lv:Value):Prop where
 hz:nb<w.heap.size
 c0:w.cell? (Y nb no)=some (I n.kind)
 c1:w.cell? (Y nb (no+1))=some (I n.ag)
 c2:w.cell? (Y nb (no+2))=some (I n.a)
 c3:w.cell? (Y nb (no+3))=some (I n.b)
 c4:w.cell? (Y nb (no+4))=some (I n.c)
 c5:w.cell? (Y nb (no+5))=some lv
 li:Zw w.heap.size w lv n.aU
def zv5.below{w w':World}{nb no:Nat}{n:ar}{lv:Value}(h:zv5 w nb no n lv)(hb:E w w'):zv5 w' nb no n lv:=
 have q:∀i,w'.cell? (Y nb i)=w.cell? (Y nb i):=λi=>hb.cell (p:=(Y nb i)) h.hz
 ⟨Qj h.hz hb.size,(q _).trans h.c0,(q _).trans h.c1,(q _).trans h.c2,(q _).trans h.c3,(q _).trans h.c4,(q _).trans h.c5,(h.li.below hb).mono hb.size⟩
def POk(p:aV)(x:List ar)(j:Int):Prop:=0<=j/\j.toNat<x.length/\0<=(nd x j).ag/\(nd x j).ag<p.n/\0<=(nd x j).kind/\(nd x j).kind<=7
def ys1(W:World)(y:Int):Zw (W.alloc (.cells #[I y] 3)).heap.size (W.alloc (.cells #[I y] 3)) (Sq W.heap.size 0 1 1) [y]:=
 ⟨_,1,rfl,by simp,by simp[maxLen],λ_=>⟨W.heap.size,0,rfl,by simp,λi hi=>by
  have:i=0:=by simpa using hi
  subst this;simp⟩⟩
def zg9(W:World)(y z:Int):Zw (W.alloc (.cells #[I y,I z] 3)).heap.size (W.alloc (.cells #[I y,I z] 3)) (Sq W.heap.size 0 2 2) [y,z]:=
 ⟨_,2,rfl,by simp,by simp[maxLen],λ_=>⟨W.heap.size,0,rfl,by simp,λi hi=>by
  have:i<2:=hi
  match i,this with
  |0,_=>simp
  |1,_=>simp⟩⟩
section
variable{nv lv:Value}
def zcv(h:Yb w Cb Pb Lb Rl vv nv hv p vs x)(hn:zv5 w nb no n lv)(ha:0<=n.a)(hl:0<=n.ag/\n.ag<p.n)(e0:∀y∈vs,0<=y/\y<p.n)(p0:vs.length<=100):
  F 87 #[M Cb,Pp nb no] w (Rw (.bool (decide (n.a<vs.length) && aR p (vs.getD n.a.toNat 0) n.ag)) w):=by
 obtain⟨lvl,b0⟩:∃lvl:Nat,(lvl:Int)=n.ag:=⟨n.ag.toNat,by omega⟩;obtain⟨an,f0⟩:∃an:Nat,(an:Int)=n.a:=⟨n.a.toNat,by omega⟩;have n0:=h.hz.1;have j0:=hn.hz;obtain⟨ao,cap,g0,hc,-,a0⟩:=h.vi;have c1:=h.c1;rw[g0]at c1;have n1:=hn.c1;have n2:=hn.c2;rw[<-b0]at n1;rw[<-f0]at n2
 have o0:(vs.length:Int)<=100:=by omega
 by_cases d0:an<vs.length
 ·obtain⟨b,off,rfl,ee,k0⟩:=a0 (by rintro rfl;simp at d0)
  have cy:=k0 an d0;obtain⟨y,hy⟩:=U (vs.getD an 0);have l0:0<=y/\y<p.n:=by
   have h1:=e0 vs[an] (getElem_mem d0);rw[hy,Qa,Qb d0];exact h1
  rw[<-hy]at cy;have h0:(an:Int)<(vs.length:Int):=(by omega);have HS:O (∀W,E w W->D W nb (no+2) (I (an:Nat))/\D W Cb 1 (Sq b off vs.length cap)/\D W nb (no+1) (I (lvl:Nat))/\D W b (off+an) (I y)):=λW hW=>⟨cT hW j0 n2,cT hW n0 c1,cT hW j0 n1,cT hW ee cy⟩;have HB:O (E w (w.alloc (.cells #[I y] 3)).drew):=(bA).drew;have HU:O (F 134 #[M Cb,I (lvl:Nat),Sq w.heap.size 0 1 1] (w.alloc (.cells #[I y] 3)).drew λe w'=>e=.returned (.bool (aR p y n.ag))/\w'=(w.alloc (.cells #[I y] 3)).drew):=by
   have h1:=zj7 (h.below HB) lvl (by omega) (Sq w.heap.size 0 1 1) [y] (ys1 w y) (by simp) (by intro z hz;simp at hz;subst hz;exact l0);show Calls _ _ _ _ _;rw[<-b0];simpa using h1
  have c0:O ((decide (n.a<vs.length) && aR p (vs.getD n.a.toNat 0) n.ag)=aR p y n.ag):=by
   show _=_;rw[decide_eq_true (show n.a<vs.length by omega),Bool.true_and,hy,show n.a.toNat=an by omega]
  generalize aR p y n.ag=aX at*;clear h hn a0 k0 e0 hy l0 b0 f0 c1 n1 n2 cy g0
  go_enter func87,ntmps87
  go_wp2_with fail
  refine Zm HS (dA) [26,27] [] [(10,15)] (by kernel_rfl) (λ_ _ _ _ h=>h) (λops ⟨g1,_⟩=>?_)
  iterate 26 refine Zv (by first|rfl|simp[wanted,yielded,g1,put]) (by intros;go_simp<;>rfl) (by go_simp<;>rfl) ?_
  refine Yt (by simp[wanted,yielded,g1,put]) ?_
  go_wp2_with fail
  refine⟨HS _ HB,?_⟩;refine Yt (by simp[wanted,yielded,g1,put]) ?_
  go_wp2_with fail
  refine HU.mono ?_;rintro e W1 ⟨rfl,m0⟩;rw[m0];clear m0 W1
  go_wp2_with fail
  refine⟨HS _ HB,?_⟩
  iterate 2 refine Zv rfl (by intros;go_simp<;>rfl) (by go_simp<;>rfl) ?_
  refine Zu ?_;go_wp2;go_ret;exact⟨cbE c0,HB⟩
 have h0:¬(an:Int)<(vs.length:Int):=by omega
 have i0:O (D w.drew nb (no+2) (I (an:Nat))/\D w.drew Cb 1 (J ao vs.length cap)/\D w.drew nb (no+1) (I (lvl:Nat))/\True):=⟨n2,c1,n1,trivial⟩;have c0:O ((decide (n.a<vs.length) && aR p (vs.getD n.a.toNat 0) n.ag)=false):=by
  show _=_;rw[decide_eq_false (show ¬n.a<vs.length by omega),Bool.false_and]
 clear h hn a0 e0 b0 f0 c1 n1 n2 g0
 go_enter func87,ntmps87
 go_wp2_with fail
 refine Zb (λW=>D W nb (no+2) (I (an:Nat))/\D W Cb 1 (J ao vs.length cap)/\D W nb (no+1) (I (lvl:Nat))/\True) [26,27] [] [(10,15)] i0 (by kernel_rfl) (λ_ _ _ _ h=>h) (λops ⟨g1,_⟩=>?_)
 iterate 11 refine Zv rfl (by intros;go_simp<;>rfl) (by go_simp<;>rfl) ?_
 iterate 15
  refine Ud rfl (c:=false) (by simp[yielded,g1,put]) (by decide) ?_
 refine zxy rfl (c:=false) (by simp[yielded,g1,put]) (by decide) i0 ?_;refine zxy rfl (c:=false) (by simp[yielded,g1,put]) (by decide) i0 ?_
 iterate 2 refine Zv rfl (by intros;go_simp<;>rfl) (by go_simp<;>rfl) ?_
 refine Zu ?_;go_wp2;go_ret;exact⟨cbE c0,dA⟩
end
section
variable{nv lv:Value}
def zi1(h:Yb w Cb Pb Lb Rl vv nv hv p vs x)(ro:Nat)(j:Int)(hj:POk p x j)(jn:Nat)(a0:(jn:Int)=j):F 135 #[M Cb,I ro,I jn] w (Rq (.bool (decide (dk (nd x j).kind=ro))) w.drew):=by
 have e:jn=j.toNat:=by omega
 subst e;exact is_any h ro j.toNat hj.2.1 ⟨hj.2.2.2.2.1,hj.2.2.2.2.2⟩
def zt6(h:Yb w Cb Pb Lb Rl vv nv hv p vs x)(j:Int)(hj:POk p x j)(jn:Nat)(a0:(jn:Int)=j):F 136 #[M Cb,I jn] w (Rq (I (nd x j).ag) w):=by
 have e:jn=j.toNat:=by omega
 subst e;exact yk8 h j.toNat hj.2.1
def zj8(h:Yb w Cb Pb Lb Rl vv nv hv p vs x)(ct:Int)(ht:0<=ct/\ct<p.n)(y z:Int)(hy:0<=y/\y<p.n)(hz:0<=z/\z<p.n)(v:Value)(a0:Zw w.heap.size w v [y,z]):F 134 #[M Cb,I ct,v] w (Rq (.bool (aR p y ct && aR p z ct)) w):=by
 obtain⟨tn,b0⟩:∃tn:Nat,(tn:Int)=ct:=⟨ct.toNat,by omega⟩;have h1:=zj7 h tn (by omega) v [y,z] a0 (by simp) (by intro u hu;simp at hu;rcases hu with rfl|rfl;exact hy;exact hz);rw[b0]at h1;simpa using h1
def yzw(h:Yb w Cb Pb Lb Rl vv nv hv p vs x)(hn:zv5 w nb no n lv)(ha:0<=n.a)(hb:POk p x n.b)(hl:0<=n.ag/\n.ag<p.n)(lvv:Value)(ls:Is)(l0:Zw w.heap.size w lvv ls)(g0:∀y∈ls,0<=y/\y<p.n)(p0:ls.length<=100):
  F 137 #[M Cb,Pp nb no,lvv] w (Rw (.bool (dG p x n ls)) w):=by
 obtain⟨an,h0⟩:∃an:Nat,(an:Int)=n.a:=⟨n.a.toNat,by omega⟩;obtain⟨bn,e0⟩:∃bn:Nat,(bn:Int)=n.b:=⟨n.b.toNat,by have:=hb.1;omega⟩;have d0:=hn.hz;obtain⟨ao,cap,rfl,hc,-,b0⟩:=l0;have n1:=hn.c1;have n2:=hn.c2;have n3:=hn.c3;rw[<-h0]at n2;rw[<-e0]at n3
 have m0:(ls.length:Int)<=100:=by omega
 have n0:O (∀W,E w W->F 135 #[M Cb,I 0,I bn] W (Rq (.bool (decide (dk (nd x n.b).kind=0))) W.drew)):=λW hW=>zi1 (h.below hW) 0 n.b hb bn e0;have o0:O (∀W,E w W->F 136 #[M Cb,I bn] W (Rq (I (nd x n.b).ag) W)):=λW hW=>zt6 (h.below hW) n.b hb bn e0
 by_cases f0:an<ls.length
 ·obtain⟨b,off,rfl,ee,j0⟩:=b0 (by rintro rfl;simp at f0)
  have cy:=j0 an f0;obtain⟨y,hy⟩:=U (ls.getD an 0);have k0:0<=y/\y<p.n:=by
   have h1:=g0 ls[an] (getElem_mem f0);rw[hy,Qa,Qb f0];exact h1
  rw[<-hy]at cy;have i0:(an:Int)<(ls.length:Int):=(by omega);have HS:O (∀W,E w W->D W nb (no+1) (I n.ag)/\D W nb (no+2) (I (an:Nat))/\D W nb (no+3) (I (bn:Nat))/\D W b (off+an) (I y)/\True):=λW hW=>⟨cT hW d0 n1,cT hW d0 n2,cT hW d0 n3,cT hW ee cy,trivial⟩;have HU:O (∀W v,E w W->Zw W.heap.size W v [(nd x n.b).ag,n.ag]->F 134 #[M Cb,I y,v] W (Rq (.bool (aR p (nd x n.b).ag y && aR p n.ag y)) W)):=λW v hW hv2=>zj8 (h.below hW) y k0 _ _ ⟨hb.2.2.1,hb.2.2.2.1⟩ hl v hv2;have a0:O (dG p x n ls=(decide (dk (nd x n.b).kind=0) && (aR p (nd x n.b).ag y && aR p n.ag y))):=by
   show _=_;unfold dG;rw[decide_eq_true (show n.a<ls.length by omega),Bool.true_and,hy,show n.a.toNat=an by omega]
  generalize decide (dk (nd x n.b).kind=0)=isv at*;generalize (aR p (nd x n.b).ag y && aR p n.ag y)=un at*;generalize (nd x n.b).ag=lb at*;obtain⟨aX,c0⟩:=U (dG p x n ls);rw[<-c0]at a0⊢;clear h hn b0 j0 g0 hy k0 h0 n1 n2 n3 cy hb e0 c0
  go_enter func137,ntmps137
  go_wp2_with fail
  refine Vz HS dA [(0,0),(0,1),(0,2),(0,3),(0,4),(0,5),(0,6),(0,7),(0,8),(0,9),(0,10),(0,11),(0,12),(1,13),(0,14),(0,15),(0,16),(0,17),(0,18),(0,19),(0,20),(0,21),(0,22),(0,23),(0,24),(0,25),(0,26),(0,27),(0,28),(0,30),(0,31),(0,32),(0,33),(1,29),(1,34),(1,35),(0,36),(0,37)] [] [(7,14),(15,22)] (by kernel_rfl) (λ_ _ _ _ h=>h) (λops ⟨g1,g2,_⟩=>?_)
  iterate 13 refine Zv (by first|rfl|simp[wanted,yielded,g1,put]) (by intros;go_simp<;>rfl) (by go_simp<;>rfl) ?_
  refine Yt (by simp[wanted,yielded,g1,put]) ?_
  go_wp2_with fail
  refine(n0 _ dA).mono ?_;rintro _ _ ⟨rfl,rfl⟩
  go_wp2_with fail
  refine⟨HS _ dA.drew,?_⟩
  cases isv
  ·repeat first|refine Jn rfl (by simp[yielded,g2,put]) ?_|refine Js rfl (by simp[yielded,g2,put]) (HS _ dA.drew) ?_|refine Zv rfl (by intros;go_simp<;>rfl) (by go_simp<;>rfl) ?_
   refine Zu ?_;go_wp2;go_ret;exact⟨cbE a0,dA.drew⟩
  iterate 19 refine Zv (by first|rfl|simp[wanted,yielded,g2,put]) (by intros;go_simp<;>rfl) (by go_simp<;>rfl) ?_
  refine Yt (by simp[wanted,yielded,g2,put]) ?_
  go_wp2_with fail
  refine(o0 _ dA.drew).mono ?_;rintro _ _ ⟨rfl,rfl⟩
  go_wp2_with fail
  refine⟨HS _ dA.drew,?_⟩;refine Yt (by simp[wanted,yielded,g2,put]) ?_
  go_wp2_with fail
  refine⟨HS _ (bA).drew.drew,?_⟩;refine Yt (by simp[wanted,yielded,g2,put]) ?_
  go_wp2_with fail
  refine(HU _ _ (bA).drew.drew (zg9 w _ _)).mono ?_;rintro _ _ ⟨rfl,rfl⟩
  go_wp2_with fail
  refine⟨HS _ (bA).drew.drew,?_⟩
  iterate 2 refine Zv rfl (by intros;go_simp<;>rfl) (by go_simp<;>rfl) ?_
  refine Zu ?_;go_wp2;go_ret;exact⟨cbE a0,(bA).drew.drew⟩
 have i0:¬(an:Int)<(ls.length:Int):=by omega
 have HS:O (∀W,E w W->D W nb (no+1) (I n.ag)/\D W nb (no+2) (I (an:Nat))/\D W nb (no+3) (I (bn:Nat))/\True/\True):=λW hW=>⟨cT hW d0 n1,cT hW d0 n2,cT hW d0 n3,trivial,trivial⟩;have a0:O (dG p x n ls=false):=by
  show _=_;unfold dG;rw[decide_eq_false (show ¬n.a<ls.length by omega),Bool.false_and]
 obtain⟨aX,c0⟩:=U (dG p x n ls);rw[<-c0]at a0⊢;clear h hn b0 g0 h0 n1 n2 n3 hb e0 c0
 go_enter func137,ntmps137
 go_wp2_with fail
 refine Vz HS dA [(0,0),(0,1),(0,2),(0,3),(0,4),(0,5),(0,6),(0,7),(0,8),(0,9),(0,10),(0,11),(0,12),(1,13),(0,14),(0,15),(0,16),(0,17),(0,18),(0,19),(0,20),(0,21),(0,22),(0,23),(0,24),(0,25),(0,26),(0,27),(0,28),(0,30),(0,31),(0,32),(0,33),(1,29),(1,34),(1,35),(0,36),(0,37)] [] [(7,14),(15,22)] (by kernel_rfl) (λ_ _ _ _ h=>h) (λops ⟨g1,g2,_⟩=>?_)
 repeat first|refine Jn rfl (by simp[yielded,g1,g2,put]) ?_|refine Js rfl (by simp[yielded,g1,g2,put]) (HS _ dA) ?_|refine Zv rfl (by intros;go_simp<;>rfl) (by go_simp<;>rfl) ?_
 refine Zu ?_;go_wp2;go_ret;exact⟨cbE a0,dA⟩
end
section
variable{nv lv:Value}
def zmy(h:Yb w Cb Pb Lb Rl vv nv hv p vs x)(hn:zv5 w nb no n lv)(ha:POk p x n.a)(within:Int)(hw:POk p x within)(hl:0<=n.ag/\n.ag<p.n):
  F 138 #[M Cb,Pp nb no,I within] w (Rw (.bool (cE p x n within)) w):=by
 obtain⟨an,c0⟩:∃an:Nat,(an:Int)=n.a:=⟨n.a.toNat,by have:=ha.1;omega⟩;obtain⟨wn,d0⟩:∃wn:Nat,(wn:Int)=within:=⟨within.toNat,by have:=hw.1;omega⟩;have e0:=hn.hz;have n1:=hn.c1;have n2:=hn.c2;rw[<-c0]at n2;have f0:O (∀W,E w W->F 135 #[M Cb,I 0,I an] W (Rq (.bool (decide (dk (nd x n.a).kind=0))) W.drew)):=λW hW=>zi1 (h.below hW) 0 n.a ha an c0;have g0:O (∀W,E w W->F 135 #[M Cb,I 2,I wn] W (Rq (.bool (decide (dk (nd x within).kind=2))) W.drew)):=λW hW=>zi1 (h.below hW) 2 within hw wn d0;have h0:O (∀W,E w W->F 136 #[M Cb,I an] W (Rq (I (nd x n.a).ag) W)):=λW hW=>zt6 (h.below hW) n.a ha an c0;have i0:O (∀W,E w W->F 136 #[M Cb,I wn] W (Rq (I (nd x within).ag) W)):=λW hW=>zt6 (h.below hW) within hw wn d0;have HS:O (∀W,E w W->D W nb (no+1) (I n.ag)/\D W nb (no+2) (I (an:Nat))/\True/\True/\True):=λW hW=>⟨cT hW e0 n1,cT hW e0 n2,trivial,trivial,trivial⟩;have HU:O (∀W v,E w W->Zw W.heap.size W v [(nd x n.a).ag,n.ag]->F 134 #[M Cb,I (nd x within).ag,v] W (Rq (.bool (aR p (nd x n.a).ag (nd x within).ag && aR p n.ag (nd x within).ag)) W)):=λW v hW hv2=>zj8 (h.below hW) _ ⟨hw.2.2.1,hw.2.2.2.1⟩ _ _ ⟨ha.2.2.1,ha.2.2.2.1⟩ hl v hv2;have a0:O (cE p x n within=(decide (dk (nd x n.a).kind=0) && (decide (dk (nd x within).kind=2) && (aR p (nd x n.a).ag (nd x within).ag && aR p n.ag (nd x within).ag)))):=rfl;generalize decide (dk (nd x n.a).kind=0)=isa at*;generalize decide (dk (nd x within).kind=2)=isw at*;generalize (aR p (nd x n.a).ag (nd x within).ag && aR p n.ag (nd x within).ag)=un at*;generalize (nd x n.a).ag=la at*;generalize (nd x within).ag=lw at*;obtain⟨aX,b0⟩:=U (cE p x n within);rw[<-b0]at a0⊢;rw[<-d0];clear h hn c0 n1 n2 ha hw d0 b0
 go_enter func138,ntmps138
 go_wp2_with fail
 refine Vz HS dA [(0,0),(0,1),(0,2),(0,3),(0,4),(1,5),(0,6),(0,7),(0,8),(1,9),(0,10),(0,11),(0,12),(0,13),(0,14),(0,16),(0,17),(0,18),(0,19),(0,20),(0,22),(0,23),(0,24),(0,25),(1,15),(1,21),(1,26),(1,27),(0,28),(0,29)] [] [(6,13),(11,18)] (by kernel_rfl) (λ_ _ _ _ h=>h) (λops ⟨g1,g2,_⟩=>?_)
 iterate 5 refine Zv rfl (by intros;go_simp<;>rfl) (by go_simp<;>rfl) ?_
 refine Zs ?_
 go_wp2_with fail
 refine(f0 _ dA).mono ?_;rintro _ _ ⟨rfl,rfl⟩
 go_wp2_with fail
 refine⟨HS _ dA.drew,?_⟩
 cases isa
 ·repeat first|refine Jn rfl (by simp[yielded,g1,g2,put]) ?_|refine Js rfl (by simp[yielded,g1,g2,put]) (HS _ dA.drew) ?_|refine Zv rfl (by intros;go_simp<;>rfl) (by go_simp<;>rfl) ?_
  refine Zu ?_;go_wp2;go_ret;exact⟨cbE a0,dA.drew⟩
 iterate 3 refine Zv (by first|rfl|simp[wanted,yielded,g1,put]) (by intros;go_simp<;>rfl) (by go_simp<;>rfl) ?_
 refine Yt (by simp[wanted,yielded,g1,put]) ?_
 go_wp2_with fail
 refine(g0 _ dA.drew).mono ?_;rintro _ _ ⟨rfl,rfl⟩
 go_wp2_with fail
 refine⟨HS _ dA.drew.drew,?_⟩
 cases isw
 ·repeat first|refine Jn rfl (by simp[yielded,g2,put]) ?_|refine Js rfl (by simp[yielded,g2,put]) (HS _ dA.drew.drew) ?_|refine Zv rfl (by intros;go_simp<;>rfl) (by go_simp<;>rfl) ?_
  refine Zu ?_;go_wp2;go_ret;exact⟨cbE a0,dA.drew.drew⟩
 iterate 14 refine Zv (by first|rfl|simp[wanted,yielded,g2,put]) (by intros;go_simp<;>rfl) (by go_simp<;>rfl) ?_
 refine Yt (by simp[wanted,yielded,g2,put]) ?_
 go_wp2_with fail
 refine(i0 _ dA.drew.drew).mono ?_;rintro _ _ ⟨rfl,rfl⟩
 go_wp2_with fail
 refine⟨HS _ dA.drew.drew,?_⟩;refine Yt (by simp[wanted,yielded,g2,put]) ?_
 go_wp2_with fail
 refine(h0 _ dA.drew.drew).mono ?_;rintro _ _ ⟨rfl,rfl⟩
 go_wp2_with fail
 refine⟨HS _ dA.drew.drew,?_⟩;refine Yt (by simp[wanted,yielded,g2,put]) ?_
 go_wp2_with fail
 refine⟨HS _ (bA).drew.drew.drew,?_⟩;refine Yt (by simp[wanted,yielded,g2,put]) ?_
 go_wp2_with fail
 refine(HU _ _ (bA).drew.drew.drew (zg9 w _ _)).mono ?_;rintro _ _ ⟨rfl,rfl⟩
 go_wp2_with fail
 refine⟨HS _ (bA).drew.drew.drew,?_⟩
 iterate 2 refine Zv rfl (by intros;go_simp<;>rfl) (by go_simp<;>rfl) ?_
 refine Zu ?_;go_wp2;go_ret;exact⟨cbE a0,(bA).drew.drew.drew⟩
def yx2(h:Yb w Cb Pb Lb Rl vv nv hv p vs x)(hn:zv5 w nb no n lv)(hb:POk p x n.b)(hc:POk p x n.c)(hl:0<=n.ag/\n.ag<p.n):
  F 88 #[M Cb,Pp nb no] w (Rw (.bool (decide (n.a<5) && (decide (dk (nd x n.b).kind=0) && (decide (dk (nd x n.c).kind=0) && (aR p (nd x n.b).ag n.ag && aR p (nd x n.c).ag n.ag))))) w):=by
 obtain⟨bn,c0⟩:∃bn:Nat,(bn:Int)=n.b:=⟨n.b.toNat,by have:=hb.1;omega⟩;obtain⟨cn,d0⟩:∃cn:Nat,(cn:Int)=n.c:=⟨n.c.toNat,by have:=hc.1;omega⟩;have e0:=hn.hz;have n1:=hn.c1;have n2:=hn.c2;have n3:=hn.c3;have n4:=hn.c4;rw[<-c0]at n3;rw[<-d0]at n4;have f0:O (∀W,E w W->F 135 #[M Cb,I 0,I bn] W (Rq (.bool (decide (dk (nd x n.b).kind=0))) W.drew)):=λW hW=>zi1 (h.below hW) 0 n.b hb bn c0;have g0:O (∀W,E w W->F 135 #[M Cb,I 0,I cn] W (Rq (.bool (decide (dk (nd x n.c).kind=0))) W.drew)):=λW hW=>zi1 (h.below hW) 0 n.c hc cn d0;have h0:O (∀W,E w W->F 136 #[M Cb,I bn] W (Rq (I (nd x n.b).ag) W)):=λW hW=>zt6 (h.below hW) n.b hb bn c0;have i0:O (∀W,E w W->F 136 #[M Cb,I cn] W (Rq (I (nd x n.c).ag) W)):=λW hW=>zt6 (h.below hW) n.c hc cn d0;have HS:O (∀W,E w W->D W nb (no+1) (I n.ag)/\D W nb (no+2) (I n.a)/\D W nb (no+3) (I (bn:Nat))/\D W nb (no+4) (I (cn:Nat))/\True):=λW hW=>⟨cT hW e0 n1,cT hW e0 n2,cT hW e0 n3,cT hW e0 n4,trivial⟩;have HU:O (∀W v,E w W->Zw W.heap.size W v [(nd x n.b).ag,(nd x n.c).ag]->F 134 #[M Cb,I n.ag,v] W (Rq (.bool (aR p (nd x n.b).ag n.ag && aR p (nd x n.c).ag n.ag)) W)):=λW v hW hv2=>zj8 (h.below hW) _ hl _ _ ⟨hb.2.2.1,hb.2.2.2.1⟩ ⟨hc.2.2.1,hc.2.2.2.1⟩ v hv2;generalize decide (dk (nd x n.b).kind=0)=isa at*;generalize decide (dk (nd x n.c).kind=0)=isw at*;generalize (aR p (nd x n.b).ag n.ag && aR p (nd x n.c).ag n.ag)=un at*;generalize (nd x n.b).ag=la at*;generalize (nd x n.c).ag=lw at*;clear h hn n1 n2 n3 n4 hb hc c0 d0;obtain⟨aX,b0⟩:=U ((decide (n.a<5) && (isa && (isw && un))));rw[<-b0];have a0:=A b0;clear b0
 go_enter func88,ntmps88
 go_wp2_with fail
 refine Vz HS dA [(0,0),(0,1),(0,2),(0,3),(0,4),(0,5),(0,6),(0,7),(0,8),(0,9),(0,10),(1,11),(0,12),(0,13),(0,14),(0,15),(0,16),(0,17),(0,18),(1,19),(0,20),(0,21),(0,22),(0,23),(0,24),(0,25),(0,26),(0,27),(0,28),(0,29),(0,30),(0,31),(0,33),(0,34),(0,35),(0,36),(0,37),(1,32),(1,38),(1,39),(1,40),(0,41),(0,42)] [] [(5,10),(13,18),(21,26)] (by kernel_rfl) (λ_ _ _ _ h=>h) (λops ⟨g1,g2,g3,_⟩=>?_)
 by_cases h5:n.a<5
 rotate_left
 ·have d5:(n.a<5)=False:=eq_false h5
  have a0:O (aX=false):=(by show _=_;rw[a0.out,decide_eq_false h5,Bool.false_and]);clear h5
  repeat first|refine Jn rfl (by simp[yielded,g1,g2,g3,d5,put]) ?_|refine Js rfl (by simp[yielded,g1,g2,g3,d5,put]) (HS _ dA) ?_|refine Zv rfl (by intros;go_simp<;>rfl) (by go_simp<;>rfl) ?_
  refine Zu ?_;go_wp2;go_ret;exact⟨cbE a0,dA⟩
 have a0:O (aX=(isa && (isw && un))):=by show _=_;rw[a0.out,decide_eq_true h5,Bool.true_and]
 iterate 11 refine Zv (by first|rfl|simp[wanted,yielded,g1,put]) (by intros;go_simp<;>rfl) (by go_simp<;>rfl) ?_
 refine Yt (by simp[wanted,yielded,g1,put]) ?_
 go_wp2_with fail
 refine(f0 _ dA).mono ?_;rintro _ _ ⟨rfl,rfl⟩
 go_wp2_with fail
 refine⟨HS _ dA.drew,?_⟩
 cases isa
 ·repeat first|refine Jn rfl (by simp[yielded,g2,g3,put]) ?_|refine Js rfl (by simp[yielded,g2,g3,put]) (HS _ dA.drew) ?_|refine Zv rfl (by intros;go_simp<;>rfl) (by go_simp<;>rfl) ?_
  refine Zu ?_;go_wp2;go_ret;exact⟨cbE a0,dA.drew⟩
 iterate 7 refine Zv (by first|rfl|simp[wanted,yielded,g2,put]) (by intros;go_simp<;>rfl) (by go_simp<;>rfl) ?_
 refine Yt (by simp[wanted,yielded,g2,put]) ?_
 go_wp2_with fail
 refine(g0 _ dA.drew).mono ?_;rintro _ _ ⟨rfl,rfl⟩
 go_wp2_with fail
 refine⟨HS _ dA.drew.drew,?_⟩
 cases isw
 ·repeat first|refine Jn rfl (by simp[yielded,g3,put]) ?_|refine Js rfl (by simp[yielded,g3,put]) (HS _ dA.drew.drew) ?_|refine Zv rfl (by intros;go_simp<;>rfl) (by go_simp<;>rfl) ?_
  refine Zu ?_;go_wp2;go_ret;exact⟨cbE a0,dA.drew.drew⟩
 iterate 17 refine Zv (by first|rfl|simp[wanted,yielded,g3,put]) (by intros;go_simp<;>rfl) (by go_simp<;>rfl) ?_
 refine Yt (by simp[wanted,yielded,g3,put]) ?_
 go_wp2_with fail
 refine(h0 _ dA.drew.drew).mono ?_;rintro _ _ ⟨rfl,rfl⟩
 go_wp2_with fail
 refine⟨HS _ dA.drew.drew,?_⟩;refine Yt (by simp[wanted,yielded,g3,put]) ?_
 go_wp2_with fail
 refine(i0 _ dA.drew.drew).mono ?_;rintro _ _ ⟨rfl,rfl⟩
 go_wp2_with fail
 refine⟨HS _ dA.drew.drew,?_⟩;refine Yt (by simp[wanted,yielded,g3,put]) ?_
 go_wp2_with fail
 refine⟨HS _ (bA).drew.drew.drew,?_⟩;refine Yt (by simp[wanted,yielded,g3,put]) ?_
 go_wp2_with fail
 refine(HU _ _ (bA).drew.drew.drew (zg9 w _ _)).mono ?_;rintro _ _ ⟨rfl,rfl⟩
 go_wp2_with fail
 refine⟨HS _ (bA).drew.drew.drew,?_⟩
 iterate 2 refine Zv rfl (by intros;go_simp<;>rfl) (by go_simp<;>rfl) ?_
 refine Zu ?_;go_wp2;go_ret;exact⟨cbE a0,(bA).drew.drew.drew⟩
end
section
variable{nv lv:Value}
def zb0(a b:Value):F 86 #[a,b] w (Rw (.bool true) w):=by
 go_enter func86,ntmps86
 go_wp2;go_ret;exact⟨rfl,Below.refl _ _⟩
def zb1(h:Yb w Cb Pb Lb Rl vv nv hv p vs x)(hn:zv5 w nb no n lv)(ha:0<=n.a)(hb:POk p x n.b)(hl:0<=n.ag/\n.ag<p.n)(b0:∀y∈vs,0<=y/\y<p.n)(c0:vs.length<=100):
  F 89 #[M Cb,Pp nb no] w (Rw (.bool (dG p x n vs)) w):=by
 have HM:O (F 137 #[M Cb,Pp nb no,vv] w (Rw (.bool (dG p x n vs)) w)):=yzw h hn ha hb hl vv vs h.vi b0 c0;obtain⟨a,c,rfl⟩:=Vv h.vi;have c1:=h.c1;clear h hn hb
 go_enter func89,ntmps89
 go_wp2_with fail
 refine HM.mono ?_;rintro e w1 ⟨rfl,a0⟩;have HW:=A a0;clear a0;go_wp2;go_ret;exact⟨rfl,HW⟩
def zb2(h:Yb w Cb Pb Lb Rl vv nv hv p vs x)(hn:zv5 w nb no n lv)(ha:0<=n.a)(hb:POk p x n.b)(hl:0<=n.ag/\n.ag<p.n)(d0:∀y∈p.aj,y<p.n)(e0:p.aj.length<=100):
  F 90 #[M Cb,Pp nb no] w (Rw (.bool (dG p x n (p.aj.map λ(y:Nat)=>(y:Int)))) w):=by
 have HM:O (F 137 #[M Cb,Pp nb no,hv] w (Rw (.bool (dG p x n (p.aj.map λ(y:Nat)=>(y:Int)))) w)):=yzw h hn ha hb hl hv _ h.hi (by intro y hy;obtain⟨z,hz,rfl⟩:=mem_map.1 hy;have:=d0 z hz;omega) (by simpa using e0);obtain⟨a,c,a0⟩:=Vv h.hi;rw[length_map]at a0;subst a0;have c0:=h.c0;have p2:=h.p2;clear h hn hb
 go_enter func90,ntmps90
 go_wp2_with fail
 refine HM.mono ?_;rintro e w1 ⟨rfl,b0⟩;have HW:=A b0;clear b0;go_wp2;go_ret;exact⟨rfl,HW⟩
def zgz(h:Yb w Cb Pb Lb Rl vv nv hv p vs x)(hn:zv5 w nb no n lv)(ha:POk p x n.a)(hb:POk p x n.b)(hl:0<=n.ag/\n.ag<p.n):
  F 92 #[M Cb,Pp nb no] w (Rw (.bool (cE p x n n.b)) w):=by
 have HM:O (F 138 #[M Cb,Pp nb no,I n.b] w (Rw (.bool (cE p x n n.b)) w)):=zmy h hn ha n.b hb hl;have n3:=hn.c3;clear h hn hb ha
 go_enter func92,ntmps92
 go_wp2_with fail
 refine HM.mono ?_;rintro e w1 ⟨rfl,a0⟩;have HW:=A a0;clear a0;go_wp2;go_ret;exact⟨rfl,HW⟩
def yx3(h:Yb w Cb Pb Lb Rl vv nv hv p vs x)(hn:zv5 w nb no n lv)(ha:POk p x n.a)(hb:POk p x n.b)(hc:POk p x n.c)(hl:0<=n.ag/\n.ag<p.n):
  F 91 #[M Cb,Pp nb no] w (Rw (.bool (cE p x n n.b && cE p x n n.c)) w):=by
 have HM:O (F 138 #[M Cb,Pp nb no,I n.b] w (Rw (.bool (cE p x n n.b)) w)):=zmy h hn ha n.b hb hl;have HN:O (∀W,E w W->D W nb (no+4) (I n.c)/\F 138 #[M Cb,Pp nb no,I n.c] W (Rw (.bool (cE p x n n.c)) W)):=λW hW=>⟨(hn.below hW).c4,zmy (h.below hW) (hn.below hW) ha n.c hc hl⟩;have n3:=hn.c3;generalize cE p x n n.b=gb at*;generalize cE p x n n.c=gc at*;clear h hn hb ha hc
 go_enter func91,ntmps91
 go_wp2_with fail
 refine HM.mono ?_;rintro e w1 ⟨rfl,a0⟩;have HW:=A a0;obtain⟨n4,hg⟩:=HN w1 a0;have HG:=A hg;clear a0 hg HN
 cases gb with
 |false=>
  go_wp2;go_ret;exact⟨rfl,HW⟩
 |true=>
  go_wp2_with fail
  refine HG.mono ?_;rintro e w2 ⟨rfl,b0⟩;have c0:O (E w w2):=HW.trans (b0.mono HW.size);clear b0;go_wp2;go_ret;exact⟨rfl,c0⟩
end
def zq2(p:aV)(x:List ar)(n:ar)(k:Int):Bool:=decide (dk (nd x k).kind=1) && aR p n.ag (nd x k).ag
section
variable{nv lv:Value}
def zgy(h:Yb w Cb Pb Lb Rl vv nv hv p vs x)(hn:zv5 w nb no n lv)(hk:∀k∈n.aU,POk p x k)(r0:n.aU.length<=100)(hl:0<=n.ag/\n.ag<p.n):
  F 93 #[M Cb,Pp nb no] w (Rw (.bool (n.aU.all (zq2 p x n))) w):=by
 obtain⟨ao,cap,rfl,hc,-,e0⟩:=hn.li;have n5:=hn.c5;have HS:O (∀W,E w W->E w W/\D W nb (no+1) (I n.ag)):=λW hW=>⟨hW,(hn.below hW).c1⟩
 have HE:O (∀i,(hi:i<n.aU.length)->∃b off,ao=some (Y b off)/\∃y:Nat,(y:Int)=n.aU[i]/\(∀W,E w W->D W b (off+i) (I (y:Int)))/\(∀W,E w W->F 135 #[M Cb,I 1,I y] W (Rq (.bool (decide (dk (nd x n.aU[i]).kind=1))) W.drew))/\
   (∀W,E w W->F 136 #[M Cb,I y] W (Rq (I (nd x n.aU[i]).ag) W))/\
   (∀W v,E w W->Zw W.heap.size W v [n.ag]->F 134 #[M Cb,I (nd x n.aU[i]).ag,v] W (Rq (.bool (aR p n.ag (nd x n.aU[i]).ag)) W))):=λi hi=>by
  obtain⟨b,off,e,ee,s0⟩:=e0 (by intro h;rw[h]at hi;simp at hi);have hp:=hk n.aU[i] (getElem_mem hi);have hy:((n.aU[i].toNat:Nat):Int)=n.aU[i]:=(by have:=hp.1;omega);refine⟨b,off,e,n.aU[i].toNat,hy,λW hW=>?_,λW hW=>zi1 (h.below hW) 1 _ hp _ hy,λW hW=>zt6 (h.below hW) _ hp _ hy,λW v hW hv=>?_⟩
  ·rw[hy]
   refine(hW.cell (p:=(Y b (off+i))) ee).trans ?_;rw[s0 i hi,Qa,Qb hi];rfl
  obtain⟨tn,t0⟩:∃tn:Nat,(tn:Int)=(nd x n.aU[i]).ag:=⟨(nd x n.aU[i]).ag.toNat,by have:=hp.2.2.1;omega⟩;have h1:=zj7 (h.below hW) tn (by have:=hp.2.2.2.1;omega) v [n.ag] hv (by simp) (by intro u hu;simp at hu;subst hu;exact hl);rw[t0]at h1;simpa using h1
 have u0:(n.aU.length:Int)<=100:=by omega
 have v0:(n.aU.length:Int)<=(cap:Int):=by omega
 obtain⟨L,hL⟩:=U (n.aU);rw[<-hL]at n5 u0 v0 hc r0⊢
 have x0:O (∀i,(hi:i<L.length)->∃b off,ao=some (Y b off)/\∃(y:Nat) (isb un:Bool) (lvk:Int),(∀W,E w W->D W b (off+i) (I (y:Int)))/\(∀W,E w W->F 135 #[M Cb,I 1,I y] W (Rq (.bool isb) W.drew))/\
   (∀W,E w W->F 136 #[M Cb,I y] W (Rq (I lvk) W))/\
   (∀W v,E w W->Zw W.heap.size W v [n.ag]->F 134 #[M Cb,I lvk,v] W (Rq (.bool un) W))/\zq2 p x n L[i]=(isb && un)):=λi hi=>by
  subst hL;obtain⟨b,off,e,y,hy,h1,h2,h3,h4⟩:=HE i hi;exact⟨b,off,e,y,_,_,_,h1,h2,h3,h4,rfl⟩
 clear h hn e0 hk HE hL
 go_enter func93,ntmps93
 go_wp2_with fail
 go_loopw [12] (λi wr=>E w wr/\∃k:Nat,k<=L.length/\i=I k/\(L.take k).all (zq2 p x n)=true) (λi _=>L.length - (intOf i).toNat)
 case atStart=>exact⟨Below.refl _ _,0,Nat.zero_le _,rfl,rfl⟩
 case round=>
  obtain⟨j0,k,hk,rfl,aH⟩:=hrel;have a0:=A j0;have f0:=A aH;clear j0 aH
  by_cases i0:k<L.length
  ·have y0:(k:Int)<(L.length:Int):=by omega
   obtain⟨b,off,rfl,y,isb,un,lvk,k0,l0,m0,n0,o0⟩:=x0 k i0;have cy:=k0 wr a0.out;have z0:=A l0;have p0:=A m0;have HU:=A n0;obtain⟨yk,q0⟩:=U (L[k]);have c0:O (yk∈L/\L.take (k+1)=L.take k++[yk]/\zq2 p x n yk=(isb && un)):=(by rw[q0];exact⟨getElem_mem i0,take_succ_eq_append_getElem i0,o0⟩)
   have b0:O ((isb && un)=false->L.all (zq2 p x n)=false):=λh0=>by
    rw[all_eq_false];exact⟨yk,c0.1,by rw[c0.2.2,h0];simp⟩
   have g0:O ((isb && un)=true->(L.take (k+1)).all (zq2 p x n)=true):=λh0=>by
    rw[c0.2.1,all_append,f0.out,all_cons,c0.2.2,h0];rfl
   have d0:O (E w (wr.alloc (.cells #[I n.ag] 3)).drew.drew):=((a0.alloc a0.size _).drew).drew;clear k0 l0 m0 n0 o0 q0
   go_wp2_with fail
   refine yy8 (λW=>E w W/\D W nb (no+1) (I n.ag)) [(0,0),(0,1),(1,2),(0,3),(0,4),(0,5),(0,6),(0,7),(0,9),(0,10),(0,11),(0,12)] 8 13 [(1,14),(0,15),(0,16)] [(4,20)] (by kernel_rfl) (by kernel_rfl) rfl [(_,_),(_,_),(_,_),(_,_),(_,_),(_,_),(_,_),(_,_),(_,_),(_,_),(_,_),(_,_)] [(_,_),(_,_),(_,_)] _ _ rfl rfl rfl rfl (λc a d v w h=>by cases d<;>exact h) (HS _ (a0.drew)) (λops hG=>?_);have g1:=hG (4,20) (by simp);simp only at g1;clear hG;simp only[getElem_toArray,getElem_cons_succ,getElem_cons_zero]
   iterate 2 refine Yj rfl (kE (by intros;go_simp<;>rfl) (by go_simp<;>rfl) ?_)
   refine Uv ?_
   go_wp2_with fail
   refine(z0 _ a0.drew).mono ?_;rintro _ _ ⟨rfl,rfl⟩
   go_wp2_with fail
   refine⟨HS _ a0.drew.drew,?_⟩
   iterate 2 refine Yj rfl (kE (by intros;go_simp<;>rfl) (by go_simp<;>rfl) ?_)
   cases isb
   ·have HF:O (L.all (zq2 p x n)=false):=b0 rfl
    iterate 7 refine za0 rfl (c:=true) (by simp[yielded,g1,put]) (by decide) ?_
    refine Xa ⟨HS _ a0.drew.drew,?_,?_⟩
    all_goals
     unfold zo1
     iterate 2 refine wpList_skip (by simp[wanted,yielded,g1,put]) ⟨HS _ a0.drew.drew,?_⟩
     refine yv1 rfl (c:=true) (by simp[yielded,g1,put]) (by decide) (HS _ a0.drew.drew) ?_;refine za0 rfl (c:=true) (by simp[yielded,g1,put]) (by decide) ?_;refine Yj rfl (kE (by intros;go_simp<;>rfl) (by go_simp<;>rfl) ?_);refine Xa ⟨HS _ a0.drew.drew,?_⟩;clear g1;go_wp2;go_ret;exact⟨cbE HF,a0.drew.drew⟩
   iterate 7 refine yp4 rfl (by simp[yielded,g1,put]) (kE (by intros;go_simp<;>rfl) (by go_simp<;>rfl) ?_)
   refine Xa ⟨HS _ a0.drew.drew,?_,?_⟩;unfold zo1;refine Ub (by simp[wanted,yielded,g1,put]) ?_
   go_wp2_with fail
   refine(p0 _ a0.drew.drew).mono ?_;rintro _ _ ⟨rfl,rfl⟩
   go_wp2_with fail
   refine⟨HS _ a0.drew.drew,?_⟩;refine Ub (by simp[wanted,yielded,g1,put]) ?_
   go_wp2_with fail
   refine⟨HS _ d0,?_⟩
   rotate_left
   unfold zo1;refine Ub (by simp[wanted,yielded,g1,put]) ?_
   go_wp2_with fail
   refine⟨HS _ d0,?_⟩;refine Ub (by simp[wanted,yielded,g1,put]) ?_
   go_wp2_with fail
   refine(p0 _ d0).mono ?_;rintro _ _ ⟨rfl,rfl⟩
   go_wp2_with fail
   refine⟨HS _ d0,?_⟩
   all_goals
    refine yn5 (by simp[wanted,yielded,g1,put]) ?_
    go_wp2_with fail
    refine(HU _ _ d0 (ys1 wr _)).mono ?_;rintro _ _ ⟨rfl,rfl⟩
    go_wp2_with fail
    refine⟨HS _ d0,?_⟩;refine yp4 rfl (by simp[yielded,g1,put]) (kE (by intros;go_simp<;>rfl) (by go_simp<;>rfl) ?_);refine Yj rfl (kE (by intros;go_simp<;>rfl) (by go_simp<;>rfl) ?_);refine Xa ⟨HS _ d0,?_⟩;clear g1
    cases un
    ·have HF:O (L.all (zq2 p x n)=false):=b0 rfl
     go_wp2;go_ret;exact⟨cbE HF,d0⟩
    have HN:O ((L.take (k+1)).all (zq2 p x n)=true):=g0 rfl;go_wp2
    go_roundw
    case rel=>exact⟨d0,k+1,by omega,by go_num,HN⟩
    case measure=>simp[intOf];omega
  have y0:¬(k:Int)<(L.length:Int):=(by omega);have HT:O (L.all (zq2 p x n)=true):=by
   show _=_;have h1:=f0.out;rw[take_of_length_le (by omega)]at h1;exact h1
  go_wp2;go_ret;exact⟨cbE HT,a0⟩
end
structure NdOk(p:aV)(x:List ar)(n:ar):Prop where
 kd:0<=n.kind/\n.kind<=7
 lv:0<=n.ag
 k1:n.kind=1->0<=n.a
 k2:n.kind=2->POk p x n.b/\POk p x n.c
 k3:n.kind=3\/n.kind=4->0<=n.a/\POk p x n.b
 k5:n.kind=5\/n.kind=6->POk p x n.a/\POk p x n.b
 k6:n.kind=5->POk p x n.c
 k7:n.kind=7->(∀k∈n.aU,POk p x k)/\n.aU.length<=100
section
variable{nv lv:Value}
def ycy(h:Yb w Cb Pb Lb Rl vv nv hv p (vars p ls) x)(hn:zv5 w nb no n lv)(ho:NdOk p x n)(hl:n.ag<p.n)(b0:∀y∈vars p ls,0<=y/\y<p.n)(c0:(vars p ls).length<=100)(d0:∀y∈p.aj,y<p.n)(e0:p.aj.length<=100)(kd:Nat)(f0:(kd:Int)=n.kind):
  F (zd3 kd) #[M Cb,Pp nb no] w (Rw (.bool (bT p ls x n)) w):=by
 have hk:=ho.kd;have a0:0<=n.ag/\n.ag<p.n:=⟨ho.lv,hl⟩;rcases(show kd=0\/kd=1\/kd=2\/kd=3\/kd=4\/kd=5\/kd=6\/kd=7 by omega) with rfl|rfl|rfl|rfl|rfl|rfl|rfl|rfl
 ·have e:bT p ls x n=true:=by unfold bT;rw[G (by omega)]
  rw[e];exact zb0 _ _
 ·have e:bT p ls x n=(decide (n.a<(vars p ls).length) && aR p ((vars p ls).getD n.a.toNat 0) n.ag):=by unfold bT;rw[Z (by omega),G (by omega)]
  rw[e];exact zcv h hn (ho.k1 (by omega)) a0 b0 c0
 ·have e:bT p ls x n=(decide (n.a<5) && (decide (dk (nd x n.b).kind=0) && (decide (dk (nd x n.c).kind=0) && (aR p (nd x n.b).ag n.ag && aR p (nd x n.c).ag n.ag)))):=by unfold bT;rw[Z (by omega),Z (by omega),G (by omega)]
  rw[e];exact yx2 h hn (ho.k2 (by omega)).1 (ho.k2 (by omega)).2 a0
 ·have e:bT p ls x n=dG p x n (vars p ls):=by unfold bT;rw[Z (by omega),Z (by omega),Z (by omega),G (by omega)]
  rw[e];exact zb1 h hn (ho.k3 (by omega)).1 (ho.k3 (by omega)).2 a0 b0 c0
 ·have e:bT p ls x n=dG p x n (p.aj.map λ(y:Nat)=>(y:Int)):=by unfold bT;rw[Z (by omega),Z (by omega),Z (by omega),Z (by omega),G (by omega)]
  rw[e];exact zb2 h hn (ho.k3 (by omega)).1 (ho.k3 (by omega)).2 a0 d0 e0
 ·have e:bT p ls x n=(cE p x n n.b && cE p x n n.c):=by unfold bT;rw[Z (by omega),Z (by omega),Z (by omega),Z (by omega),Z (by omega),G (by omega)]
  rw[e];exact yx3 h hn (ho.k5 (by omega)).1 (ho.k5 (by omega)).2 (ho.k6 (by omega)) a0
 ·have e:bT p ls x n=cE p x n n.b:=by unfold bT;rw[Z (by omega),Z (by omega),Z (by omega),Z (by omega),Z (by omega),Z (by omega),G (by omega)]
  rw[e];exact zgz h hn (ho.k5 (by omega)).1 (ho.k5 (by omega)).2 a0
 have e:bT p ls x n=n.aU.all (zq2 p x n):=by unfold bT;rw[Z (by omega),Z (by omega),Z (by omega),Z (by omega),Z (by omega),Z (by omega),Z (by omega)];rfl
 rw[e];exact zgy h hn (ho.k7 (by omega)).1 (ho.k7 (by omega)).2 a0
def yq3(h:Yb w Cb Pb Lb Rl vv nv hv p (vars p ls) x)(hn:zv5 w nb no n lv)(ho:NdOk p x n)(f0:∀y∈vars p ls,0<=y/\y<p.n)(g0:(vars p ls).length<=100)(h0:∀y∈p.aj,y<p.n)(i0:p.aj.length<=100):
  F 94 #[M Cb,Pp nb no] w (Rw (.bool (follows p ls x n)) w):=by
 obtain⟨kd,e0⟩:∃kd:Nat,(kd:Int)=n.kind:=⟨n.kind.toNat,by have:=ho.kd;omega⟩
 have k0:kd<8:=by have:=ho.kd;omega
 have l0:(kd:Int)<8:=by omega
 obtain⟨f,hf⟩:=U (zd3 kd)
 have HS:O (∀W,E w W->D W Cb 0 (M Pb)/\D W Pb 0 (M Lb)/\D W Cb 3 (Sq Rl 0 8 8)/\D W nb no (I (kd:Nat))/\D W nb (no+1) (I n.ag)/\D W Rl (kd*2+1) (.func (.func f) #[] #[])):=λW hW=>by
  have h1:=h.below hW;have h2:=hn.below hW;exact⟨h1.c0,h1.p0,h1.c3,by rw[e0];exact h2.c0,h2.c1,by rw[hf];exact(h1.ru kd k0).2⟩
 have a0:O (∀W,E w W->F 84 #[M Lb,I n.ag] W (Rq (.bool (decide (0<=n.ag/\n.ag<p.n))) W)):=λW hW=>yo0 (h.below hW).la n.ag
 by_cases hl:n.ag<p.n
 ·have HR:O (∀W,E w W->F f #[M Cb,Pp nb no] W (Rw (.bool (bT p ls x n)) W)):=λW hW=>by rw[hf];exact ycy (h.below hW) (hn.below hW) ho hl f0 g0 h0 i0 kd e0
  have d0:O (follows p ls x n=bT p ls x n):=(by show _=_;unfold follows;rw[decide_eq_true hl,Bool.true_and]);rw[decide_eq_true (show 0<=n.ag/\n.ag<p.n from⟨ho.lv,hl⟩)]at a0;generalize bT p ls x n=ru at*;clear h hn ho f0 g0 h0 i0 e0;rcases(show kd=0\/kd=1\/kd=2\/kd=3\/kd=4\/kd=5\/kd=6\/kd=7 by omega) with hk|hk|hk|hk|hk|hk|hk|hk
  all_goals
   rw[hk]at hf;simp[zd3]at hf;have HF:=A hf;clear hf hk
   go_enter func94,ntmps94
   go_wp2_with fail
   refine Zm HS (dA) [11,26] [] [(12,17)] (by kernel_rfl) (λ_ _ _ _ h=>h) (λops ⟨g1,_⟩=>?_)
   iterate 11 refine Zv rfl (by intros;go_simp<;>rfl) (by go_simp<;>rfl) ?_
   refine Zs ?_
   go_wp2_with fail
   refine(a0 _ dA).mono ?_;rintro _ _ ⟨rfl,rfl⟩
   go_wp2_with fail
   refine⟨HS _ dA,?_⟩
   iterate 14 refine Zv (by first|rfl|simp[wanted,yielded,g1,put]) (by intros;go_simp<;>rfl) (by go_simp<;>rfl) ?_
   refine Yt (by simp[wanted,yielded,g1,put]) ?_;have m0:=HF.out;subst m0
   go_wp2_with fail
   refine(HR _ dA).mono ?_;rintro e W1 ⟨rfl,b0⟩;have j0:O (E w W1):=dA.trans b0;clear b0
   go_wp2_with fail
   refine⟨HS _ j0,?_⟩
   iterate 2 refine Zv rfl (by intros;go_simp<;>rfl) (by go_simp<;>rfl) ?_
   refine Zu ?_;go_wp2;go_ret;exact⟨cbE d0,j0⟩
 have d0:O (follows p ls x n=false):=by show _=_;unfold follows;rw[decide_eq_false hl,Bool.false_and]
 rw[decide_eq_false (show ¬(0<=n.ag/\n.ag<p.n) from λh=>hl h.2)]at a0;clear h hn ho f0 g0 h0 i0 e0 hf
 go_enter func94,ntmps94
 go_wp2_with fail
 refine Zm HS (dA) [11,26] [] [(12,17)] (by kernel_rfl) (λ_ _ _ _ h=>h) (λops ⟨g1,_⟩=>?_)
 iterate 11 refine Zv rfl (by intros;go_simp<;>rfl) (by go_simp<;>rfl) ?_
 refine Zs ?_
 go_wp2_with fail
 refine(a0 _ dA).mono ?_;rintro _ _ ⟨rfl,rfl⟩
 go_wp2_with fail
 refine⟨HS _ dA,?_⟩;refine Zv rfl (by intros;go_simp<;>rfl) (by go_simp<;>rfl) ?_
 iterate 13
  refine Ud rfl (c:=false) (by simp[yielded,g1,put]) (by decide) ?_
 refine zxy rfl (c:=false) (by simp[yielded,g1,put]) (by decide) (HS _ dA) ?_
 iterate 2 refine Zv rfl (by intros;go_simp<;>rfl) (by go_simp<;>rfl) ?_
 refine Zu ?_;go_wp2;go_ret;exact⟨cbE d0,dA⟩
end
def Vw(p:aV)(ls:Is)(x:List ar):Int:=match (range x.length).find? (λk=> !Fl.follows p ls x (nth x k)) with
 |some k=>(k:Int)
 |none=> -1
section
variable{nv:Value}
def Yb.gO(h:Yb w Cb Pb Lb Rl vv nv hv p vs x)(k:Nat)(hk:k<x.length):∃b off cap lv,nv=Sq b off x.length cap/\zv5 w b (off+k*6) (nth x k) lv:=by
 obtain⟨ao,cap,e,-,-,h4⟩:=h.no;obtain⟨b,off,e2,hb,hc⟩:=h4 (by rintro rfl;simp at hk);obtain⟨lv,h0,h1,h2,h3,h5,h6,h7⟩:=hc k hk;exact⟨b,off,cap,lv,by rw[e,e2],⟨hb,h1,h2,h3,h5,h6,h7,h0⟩⟩
def zd4(h:Yb w Cb Pb Lb Rl vv nv hv p (vars p ls) x)(hx:∀k,k<x.length->(∀j,j<k->follows p ls x (nth x j)=true)->NdOk p x (nth x k))(B0:x.length<=100000)(k0:∀y∈vars p ls,0<=y/\y<p.n)(l0:(vars p ls).length<=100)(m0:∀y∈p.aj,y<p.n)(n0:p.aj.length<=100):
  F 48 #[M Cb] w (Rw (I (Vw p ls x)) w):=by
 have HC:O (∀W,E w W->W.cell? (Y Cb 2)=some nv):=λW hW=>(h.below hW).c2
 have HF:O (∀k,k<x.length->(∀j,j<k->follows p ls x (nth x j)=true)->∃b off cap,nv=Sq b off x.length cap/\∀W,E w W->F 94 #[M Cb,Pp b (off+k*6)] W (Rw (.bool (follows p ls x (nth x k))) W)):=λk hk aH=>by
  obtain⟨b,off,cap,lv,e,v0⟩:=h.gO k hk;exact⟨b,off,cap,e,λW hW=>yq3 (h.below hW) (v0.below hW) (hx k hk aH) k0 l0 m0 n0⟩
 have x0:O (∃a c,nv=J a x.length c):=by obtain⟨a,c,e,-⟩:=h.no;exact⟨a,c,e⟩
 have b0:O (∀k,k<x.length->(∀j,j<k->follows p ls x (nth x j)=true)->follows p ls x (nth x k)=false->Vw p ls x=k):=λk hk aH h0=>by
  unfold Vw;rw[fL _ _ k (λj hj=>by rw[aH j hj];rfl) hk (by rw[h0];rfl)]
 have e0:O ((∀j,j<x.length->follows p ls x (nth x j)=true)->Vw p ls x= -1):=λaH=>by
  unfold Vw;rw[ey _ _ (λj hj=>by rw[aH j hj];rfl)]
 have y0:(x.length:Int)<=100000:=by omega
 obtain⟨a0,c0,j0⟩:=x0.out;have c2:=h.c2;rw[j0]at c2;obtain⟨fw,o0⟩:=U (Vw p ls x);rw[<-o0]at b0 e0⊢;have C0:=A j0;clear h hx k0 l0 m0 n0 j0 o0
 go_enter func48,ntmps48
 go_wp2_with fail
 go_loopw [9] (λi wr=>E w wr/\∃k:Nat,k<=x.length/\i=I k/\∀j,j<k->follows p ls x (nth x j)=true) (λi _=>x.length - (intOf i).toNat)
 case atStart=>exact⟨Below.refl _ _,0,Nat.zero_le _,rfl,λj hj=>by omega⟩
 case round=>
  obtain⟨p0,k,hk,rfl,aH⟩:=hrel;have i0:=A p0;have d0:=A aH;clear p0 aH
  by_cases q0:k<x.length
  ·have z0:(k:Int)<(x.length:Int):=by omega
   obtain⟨b,off,cap,e,f0⟩:=HF k q0 d0.out;have cw:=HC wr i0.out;rw[e]at cw;have g0:O (F 94 #[M Cb,Pp b (off+k*6)] wr (Rw (.bool (follows p ls x (nth x k))) wr)):=f0 wr i0.out;have r0:O (follows p ls x (nth x k)=false->fw=(k:Int)):=λh0=>b0 k q0 d0 h0
   have s0:O (follows p ls x (nth x k)=true->∀j,j<k+1->follows p ls x (nth x j)=true):=λh0 j hj=>by
    by_cases A0:j=k
    ·rw[A0];exact h0
    exact d0 j (by omega)
   generalize follows p ls x (nth x k)=fk at g0 r0 s0;clear e f0
   go_wp2_with fail
   refine g0.mono ?_;rintro e w1 ⟨rfl,t0⟩;have u0:O (E w w1):=i0.trans (t0.mono i0.size);clear t0
   cases fk with
   |false=>
    have HE:O (fw=(k:Int)):=r0 rfl;go_wp2;go_ret;exact⟨congrArg (λb=>Ending.returned (I b)) HE.symm,u0⟩
   |true=>
    have HN:O (∀j,j<k+1->follows p ls x (nth x j)=true):=s0 rfl;go_wp2
    go_roundw
    case rel=>exact⟨u0,k+1,by omega,by go_num,HN⟩
    case measure=>simp[intOf];omega
  have z0:¬(k:Int)<(x.length:Int):=(by omega);have HE:O (fw= -1):=e0 (λj hj=>d0 j (by omega));go_wp2;go_ret;exact⟨congrArg (λb=>Ending.returned (I b)) HE.symm,i0⟩
end
section
def yx4(i0:Un w Lb p.n p.leq)(p0:w.cell? (Y Pb 0)=some (M Lb))(p3:w.cell? (Y Pb 3)=some (I p.ak))(v:Value)(ls:Is)(hl:Zw w.heap.size w v ls)(n0:ls.length<=100000):
  F 45 #[M Pb,v] w (Rq (.bool (decide (ls.length=p.ak/\∀y∈ls,0<=y/\y<p.n))) w):=by
 obtain⟨ao,cap,rfl,hc,-,a0⟩:=hl;have g0:O (∀y:Int,F 84 #[M Lb,I y] w (Rq (.bool (decide (0<=y/\y<p.n))) w)):=λy=>yo0 i0 y
 have l0:O (∀i,(hi:i<ls.length)->∃b off,ao=some (Y b off)/\w.cell? (Y b (off+i))=some (I ls[i])):=λi hi=>by
  obtain⟨b,off,e,-,h1⟩:=a0 (by rintro rfl;simp at hi);exact⟨b,off,e,by rw[h1 i hi,Qa,Qb hi];rfl⟩
 have o0:(ls.length:Int)<=100000:=by omega
 have q0:(ls.length:Int)<=(cap:Int):=by omega
 obtain⟨m,hm⟩:=U (p.ak);rw[<-hm]at p3⊢;obtain⟨aX,b0⟩:=U (decide (ls.length=m/\∀y∈ls,0<=y/\y<(p.n:Int)));rw[<-b0];have d0:=A b0;clear i0 a0 hm b0
 go_enter func45,ntmps45
 go_wp2_with fail
 go_loopw [9] (λi wr=>wr=w/\∃k:Nat,k<=ls.length/\i=I k/\∀y∈ls.take k,0<=y/\y<(p.n:Int)) (λi _=>ls.length - (intOf i).toNat)
 case atStart=>exact⟨rfl,0,Nat.zero_le _,rfl,λy hy=>by simp at hy⟩
 case round=>
  obtain⟨j0,k,hk,rfl,aH⟩:=hrel;have e0:=A aH;rw[j0];clear j0 aH wr
  by_cases h0:k<ls.length
  ·have m0:(k:Int)<(ls.length:Int):=by omega
   obtain⟨b,off,rfl,cy⟩:=l0 k h0;obtain⟨y,hy⟩:=U (ls[k]);rw[<-hy]at cy;have f0:O (y∈ls/\ls.take (k+1)=ls.take k++[y]):=(by rw[hy];exact⟨getElem_mem h0,take_succ_eq_append_getElem h0⟩);clear hy
   go_wp2_with fail
   refine(g0 y).mono ?_;rintro e w1 ⟨rfl,k0⟩;rw[k0];clear k0 w1
   by_cases c0:0<=y/\y<(p.n:Int)
   ·have HN:O (∀z∈ls.take (k+1),0<=z/\z<(p.n:Int)):=λz hz=>by
     rw[f0.2]at hz;rcases mem_append.1 hz with h1|h1
     ·exact e0 z h1
     simp at h1;subst h1;exact c0
    rw[decide_eq_true c0];clear c0;go_wp2
    go_roundw
    case rel=>exact⟨by first|rfl|trivial,k+1,by omega,by go_num,HN⟩
    case measure=>simp[intOf];omega
   have HE:O (aX=false):=(by show _=_;rw[d0.out];exact decide_eq_false (λh=>c0 (h.2 y f0.1)));rw[decide_eq_false c0];clear c0;go_wp2;go_ret;exact⟨cbE HE,rfl⟩
  have m0:¬(k:Int)<(ls.length:Int):=(by omega);have HE:O (aX=((ls.length:Int)==(m:Int))):=by
   have h1:=e0.out;rw[take_of_length_le (by omega)]at h1;show _=_;rw[d0.out,<-yo1]
   congr 1
   exact propext ⟨λh=>h.1,λh=>⟨h,h1⟩⟩
  go_wp2;go_ret;exact⟨cbE HE,rfl⟩
end
section
variable{S:World->Prop}
def yk9{l:List (Nat×Oper)}(hg:o.guard=some (j,b))(hy:yielded ops a.tmps j=none)
  (h:Yp P ops S Q l (a.put o.dst undef) w):Yp P ops S Q ((0,o)::l) a w:=⟨undef,.inr ⟨by simp[wanted,hg,hy],rfl⟩,h⟩
end
section
variable{vb:Nat}{nv vx vy:Value}
def zov(h:Yb w Cb Pb Lb Rl vv nv hv p vs x)(k:Nat)(hk:k<x.length)(vk va:Int)(e0:vb<w.heap.size)(v0:w.cell? (Y vb 0)=some (I vk))(v1:w.cell? (Y vb 1)=some (I va))(v2:w.cell? (Y vb 2)=some vx)(v3:w.cell? (Y vb 3)=some vy)(rb rc:Bool)
  (hb:vk=2->(nth x k).kind=2->∀W,E w W->F 139 #[M Cb,I (nth x k).b,vx] W (Rw (.bool rb) W))
  (hc:vk=2->(nth x k).kind=2->∀W,E w W->F 139 #[M Cb,I (nth x k).c,vy] W (Rw (.bool rc) W))
  (h0:∃a,vx=.pointer a) (i0:∃a,vy=.pointer a):
  F 139 #[M Cb,I k,M vb] w (Rw (.bool (decide ((nth x k).kind=vk) && (decide ((nth x k).a=va) && (decide (vk≠2)||(rb && rc))))) w):=by
 obtain⟨ax,rfl⟩:=h0;obtain⟨ay,rfl⟩:=i0;obtain⟨nb,kz,cap,lv,rfl,f0⟩:=h.gO k hk;obtain⟨no,dS⟩:=U (kz+k*6);obtain⟨n,hn⟩:=U (nth x k);rw[<-hn]at hb hc f0⊢;have c2:=h.c2
 have k0:(k:Int)<(x.length:Int):=by omega
 have HS:O (∀W,E w W->D W nb no (I n.kind)/\D W nb (no+2) (I n.a)/\D W nb (no+3) (I n.b)/\D W nb (no+4) (I n.c)/\D W vb 0 (I vk)/\D W vb 1 (I va)/\D W vb 2 (.pointer ax)/\D W vb 3 (.pointer ay)):=λW hW=>by
  have h2:=f0.below hW;rw[<-dS]at h2;exact⟨h2.c0,h2.c2,h2.c3,h2.c4,cT hW e0 v0,cT hW e0 v1,cT hW e0 v2,cT hW e0 v3⟩
 obtain⟨aX,b0⟩:=U ((decide (n.kind=vk) && (decide (n.a=va) && (decide (vk≠2)||(rb && rc)))));rw[<-b0];have a0:=A b0;have j0:=A dS;clear h f0 v0 v1 v2 v3 b0 hn dS
 go_enter func139,ntmps139
 go_wp2_with fail
 rw[<-j0.out];refine Zm HS dA [] [] [(9,23)] (by kernel_rfl) (λ_ _ _ _ h=>h) (λops ⟨g1,_⟩=>?_)
 iterate 10 refine Zv rfl (by intros;go_simp<;>rfl) (by go_simp<;>rfl) ?_
 by_cases h1:n.kind=vk
 rotate_left
 ·have HE:O (aX=false):=by show _=_;rw[a0.out,decide_eq_false h1];simp
  have e1:(n.kind !=vk)=true:=(by rw[bne_iff_ne];exact h1);clear hb hc h1 a0
  iterate 9 refine Ud rfl (c:=true) (by simp[yielded,g1,e1,put]) (by decide) ?_
  refine Zv rfl (by intros;go_simp<;>rfl) (by go_simp<;>rfl) ?_;refine Zu ?_;go_wp2;go_ret;exact⟨cbE HE,dA⟩
 have e1:(n.kind !=vk)=false:=by simp[h1]
 have H1:=A h1;clear h1
 iterate 10 refine Zv (by first|rfl|simp[wanted,yielded,g1,e1,put]) (by intros;go_simp<;>rfl) (by go_simp<;>rfl) ?_
 refine Zu ?_
 by_cases h2:n.a=va
 rotate_left
 ·have HE:O (aX=false):=by show _=_;rw[a0.out,decide_eq_false h2];simp
  have e2:(n.a !=va)=true:=(by rw[bne_iff_ne];exact h2);clear hb hc H1 h2 a0;go_wp2;go_ret;exact⟨cbE HE,dA⟩
 have e2:(n.a !=va)=false:=by simp[h2]
 have H2:=A h2;clear h2;clear g1
 go_wp2_with fail
 refine Zm HS dA.drew [15,26] [] [(5,39),(16,50)] (by kernel_rfl) (λ_ _ _ _ h=>h) (λops ⟨g1,g2,_⟩=>?_)
 iterate 6 refine Zv rfl (by intros;go_simp<;>rfl) (by go_simp<;>rfl) ?_
 by_cases h3:vk=2
 rotate_left
 ·have HE:O (aX=true):=by show _=_;rw[a0.out,decide_eq_true H1.out,decide_eq_true H2.out,decide_eq_true (show vk≠2 from h3)];simp
  have e3:(n.kind !=2)=true:=(by rw[bne_iff_ne,H1.out];exact h3);clear hb hc H1 H2 h3 a0
  iterate 9 refine Ud rfl (c:=true) (by simp[yielded,g1,e3,put]) (by decide) ?_
  refine zxy rfl (c:=true) (by simp[yielded,g1,e3,put]) (by decide) (HS _ dA.drew) ?_;refine Ud rfl (c:=true) (by simp[yielded,g1,e3,put]) (by decide) ?_
  iterate 9 refine yk9 rfl (by simp[yielded,g2,put,undef]) ?_
  refine ys0 rfl (by simp[yielded,g2,put,undef]) (HS _ dA.drew) ?_;refine Ud rfl (c:=true) (by simp[yielded,g1,e3,put]) (by decide) ?_
  iterate 2 refine Zv rfl (by intros;go_simp<;>rfl) (by go_simp<;>rfl) ?_
  refine Zu ?_;go_wp2;go_ret;exact⟨cbE HE,dA.drew⟩
 have HE:O (aX=(rb && rc)):=by show _=_;rw[a0.out,decide_eq_true H1.out,decide_eq_true H2.out,decide_eq_false (by intro h;exact h h3)];simp
 have HB:=A (hb h3 (H1.trans h3));have HC:=A (hc h3 (H1.trans h3))
 have e3:(n.kind !=2)=false:=by rw[H1.out,h3];rfl
 clear hb hc H1 H2 h3 a0
 iterate 9 refine Zv (by first|rfl|simp[wanted,yielded,g1,e3,put]) (by intros;go_simp<;>rfl) (by go_simp<;>rfl) ?_
 refine Yt (by simp[wanted,yielded,g1,e3,put]) ?_
 go_wp2_with fail
 refine(HB _ dA.drew).mono ?_;rintro _ W1 ⟨rfl,hW⟩;have d0:O (E w W1):=(dA.drew).trans hW;clear hW
 go_wp2_with fail
 refine⟨HS _ d0,?_⟩
 cases rb
 ·refine Zv (by simp[wanted,yielded,g1,e3,put]) (by intros;go_simp<;>rfl) (by go_simp<;>rfl) ?_
  iterate 9 refine Jn rfl (by simp[yielded,g2,put]) ?_
  refine Js rfl (by simp[yielded,g2,put]) (HS _ d0) ?_
  iterate 3 refine Zv (by first|rfl|simp[wanted,yielded,g1,e3,put]) (by intros;go_simp<;>rfl) (by go_simp<;>rfl) ?_
  refine Zu ?_;go_wp2;go_ret;exact⟨cbE HE,d0⟩
 iterate 10 refine Zv (by simp[wanted,yielded,g1,g2,e3,put]) (by intros;go_simp<;>rfl) (by go_simp<;>rfl) ?_
 refine Yt (by simp[wanted,yielded,g2,put]) ?_
 go_wp2_with fail
 refine(HC _ d0).mono ?_;rintro _ W2 ⟨rfl,hW⟩;have g0:O (E w W2):=d0.trans (hW.mono d0.size);clear hW
 go_wp2_with fail
 refine⟨HS _ g0,?_⟩
 iterate 3 refine Zv (by first|rfl|simp[wanted,yielded,g1,e3,put]) (by intros;go_simp<;>rfl) (by go_simp<;>rfl) ?_
 refine Zu ?_;go_wp2;go_ret;exact⟨cbE HE,g0⟩
end
section
variable{nv:Value}
def zq3(h:Yb w Cb Pb Lb Rl vv nv hv p vs x)(hS:∀b,S b->b<w.heap.size)(k:Int)(hk:0<=k/\k.toNat<x.length)(q:Value)(a:dI)(ha:Xy S w q a):
  F 139 #[M Cb,I k,q] w (Rw (.bool (dP x k a)) w):=by
 obtain⟨vb,rfl,hs,hc⟩:=ha;obtain⟨kn,b0⟩:∃kn:Nat,(kn:Int)=k:=⟨k.toNat,by omega⟩
 have e0:k.toNat=kn:=by omega
 have a0:(if a.var then(1:Int) else 0)≠2:=by cases a.var<;>decide
 have h1:=zov (vx:=.pointer none) (vy:=.pointer none) h kn (by omega) (if a.var then 1 else 0) a.v (hS _ hs) (hc.c 0 (by omega)) (hc.c 1 (by omega)) (hc.c 2 (by omega)) (hc.c 3 (by omega)) true true (λh2=>absurd h2 a0) (λh2=>absurd h2 a0) ⟨_,rfl⟩ ⟨_,rfl⟩;rw[b0]at h1;refine h1.mono ?_;rintro e w' ⟨rfl,hw⟩;refine⟨?_,hw⟩;unfold dP nd;rw[e0,decide_eq_true a0];simp
def yx5(h:Yb w Cb Pb Lb Rl vv nv hv p vs x)(hS:∀b,S b->b<w.heap.size)(k:Int)(hk:0<=k/\k.toNat<x.length)(b0:(nd x k).kind=2->(0<=(nd x k).b/\(nd x k).b.toNat<x.length)/\(0<=(nd x k).c/\(nd x k).c.toNat<x.length))(q:Value)(e:da)(g0:zy7 S w q e):
  F 139 #[M Cb,I k,q] w λr w'=>r=.returned (.bool (dj x k e))/\E w w':=by
 rcases g0 with⟨h1,h2⟩|⟨h1,vb,qx,qy,rfl,h3,h4,h5,h6⟩
 ·have e1:dj x k e=dP x k e.a:=by unfold dj;rw[G (by omega)]
  rw[e1];exact zq3 h hS k hk q e.a h2
 have e1:dj x k e=(decide ((nd x k).kind=2) && (decide ((nd x k).a=e.op) && (dP x (nd x k).b e.a && dP x (nd x k).c e.b))):=by unfold dj;rw[Z (by omega)]
 obtain⟨kn,h0⟩:∃kn:Nat,(kn:Int)=k:=⟨k.toNat,by omega⟩
 have e0:k.toNat=kn:=by omega
 have en:nd x k=nth x kn:=by unfold nd;rw[e0]
 rw[en]at b0 e1;have a0:∀W,E w W->Yb W Cb Pb Lb Rl vv nv hv p vs x:=λW hW=>h.below hW;have d0:∀W,E w W->∀q a,Xy S w q a->Xy S W q a:=λW hW q a ha=>ha.kept (λb hb=>hb) (λb hb=>hW.block b (hS b hb));have f0:∀W,E w W->∀b,S b->b<W.heap.size:=λW hW b hb=>Qj (hS b hb) hW.size
 have i0:∃a,qx=.pointer a:=by obtain⟨b,e,-⟩:=h5;exact⟨_,e⟩
 have j0:∃a,qy=.pointer a:=by obtain⟨b,e,-⟩:=h6;exact⟨_,e⟩
 have h7:=zov (vx:=qx) (vy:=qy) h kn (by omega) 2 e.op (hS _ h3) (h4.c 0 (by omega)) (h4.c 1 (by omega)) (h4.c 2 (by omega)) (h4.c 3 (by omega)) (dP x (nth x kn).b e.a) (dP x (nth x kn).c e.b)
  (λ_ c0 W hW=>zq3 (a0 W hW) (f0 W hW) _ (b0 c0).1 qx e.a (d0 W hW _ _ h5)) (λ_ c0 W hW=>zq3 (a0 W hW) (f0 W hW) _ (b0 c0).2 qy e.b (d0 W hW _ _ h6)) i0 j0
 rw[h0]at h7;refine h7.mono ?_;rintro r w' ⟨rfl,hw⟩;refine⟨?_,hw⟩;rw[e1];simp
end
section
variable{sb:Nat}{nv:Value}
def ys2(h:Yb w Cb Pb Lb Rl vv nv hv p vs x)(k:Nat)(hk:k<x.length)(sk sx:Int)(k0:sk=3\/sk=4\/sk=5\/sk=6)(av:Option Addr)(fa ea:Option Addr)(fn fc en ec:Nat)(cH:sb<w.heap.size)
  (m0:w.cell? (Y sb 0)=some (I sk)/\w.cell? (Y sb 2)=some (I sx)/\w.cell? (Y sb 3)=some (.pointer av)/\w.cell? (Y sb 4)=some (J fa fn fc)/\w.cell? (Y sb 5)=some (J ea en ec)) (va vb rb rc:Bool)
  (f0:sk=5\/sk=6->(nth x k).kind=sk->∀W,E w W->F 139 #[M Cb,I (nth x k).a,.pointer av] W (Rw (.bool va) W))
  (i0:sk=3\/sk=4->(nth x k).kind=sk->∀W,E w W->F 139 #[M Cb,I (nth x k).b,.pointer av] W (Rw (.bool vb) W))
  (g0:sk=5\/sk=6->(nth x k).kind=sk->∀W,E w W->F 49 #[M Cb,I (nth x k).b,J fa fn fc] W (Rw (.bool rb) W))
  (j0:sk=5->(nth x k).kind=sk->∀W,E w W->F 49 #[M Cb,I (nth x k).c,J ea en ec] W (Rw (.bool rc) W)):
  F 95 #[M Cb,I k,M sb] w (Rw (.bool (decide ((nth x k).kind=sk) && (if sk=5 then va && (rb && rc) else if sk=6 then va && rb else decide ((nth x k).a=sx) && vb))) w):=by
 obtain⟨nb,kz,cap,lv,rfl,l0⟩:=h.gO k hk;obtain⟨no,dS⟩:=U (kz+k*6);obtain⟨n,hn⟩:=U (nth x k);rw[<-hn]at f0 i0 g0 j0 l0⊢;have c2:=h.c2
 have p0:(k:Int)<(x.length:Int):=by omega
 have HS:O (∀W,E w W->D W nb no (I n.kind)/\D W nb (no+2) (I n.a)/\D W nb (no+3) (I n.b)/\D W nb (no+4) (I n.c)/\D W sb 0 (I sk)/\D W sb 2 (I sx)/\D W sb 3 (.pointer av)/\D W sb 4 (J fa fn fc)/\D W sb 5 (J ea en ec)):=λW hW=>by
  have h2:=l0.below hW;rw[<-dS]at h2;obtain⟨s0,s2,s3,s4,s5⟩:=m0;exact⟨h2.c0,h2.c2,h2.c3,h2.c4,cT hW cH s0,cT hW cH s2,cT hW cH s3,cT hW cH s4,cT hW cH s5⟩
 obtain⟨aX,h0⟩:=U ((decide (n.kind=sk) && (if sk=5 then va && (rb && rc) else if sk=6 then va && rb else decide (n.a=sx) && vb)));rw[<-h0];have a0:=A h0;have o0:=A dS;have q0:∀W,E w W->D W nb no (I n.kind):=λW hW=>(HS W hW).1;have d0:D w.drew nb no (I n.kind):=q0 _ dA;clear h l0 m0 h0 hn dS
 go_enter func95,ntmps95
 go_wp2_with fail
 rw[<-o0.out];refine Zm HS dA [] [] [] (by kernel_rfl) (λ_ _ _ _ h=>h) (λops hG=>?_);clear hG
 iterate 9 refine Zv rfl (by intros;go_simp<;>rfl) (by go_simp<;>rfl) ?_
 refine Zu ?_
 by_cases h1:n.kind=sk
 rotate_left
 ·have HE:O (aX=false):=by show _=_;rw[a0.out,decide_eq_false h1,Bool.false_and]
  have e1:(n.kind !=sk)=true:=(by rw[bne_iff_ne];exact h1);clear h1 a0 f0 i0 g0 j0 q0 k0;go_wp2;go_ret;exact⟨cbE HE,dA⟩
 have e1:(n.kind !=sk)=false:=by simp[h1]
 by_cases h5:sk=5
 ·have HV:=A (f0 (.inl h5) h1)
  have HB:=A (g0 (.inl h5) h1);have HC:=A (j0 h5 h1);have HE:O (aX=(va && (rb && rc))):=(by show _=_;rw[a0.out,decide_eq_true h1,G h5,Bool.true_and]);have e5:(n.kind==5)=true:=(by simp[h1,h5]);clear h1 h5 a0 f0 i0 g0 j0 q0 k0
  go_wp2_with fail
  refine Zm HS dA.drew [9,20,32] [] [(10,39),(22,51)] (by kernel_rfl) (λ_ _ _ _ h=>h) (λops ⟨g1,g2,_⟩=>?_)
  iterate 9 refine Zv rfl (by intros;go_simp<;>rfl) (by go_simp<;>rfl) ?_
  refine Zs ?_
  go_wp2_with fail
  refine(HV _ dA.drew).mono ?_;rintro _ W1 ⟨rfl,hW⟩;have b0:O (E w W1):=(dA.drew).trans hW;clear hW
  go_wp2_with fail
  refine⟨HS _ b0,?_⟩
  cases va
  ·repeat first|refine Jn rfl (by simp[yielded,g1,g2,put]) ?_|refine Js rfl (by simp[yielded,g1,g2,put]) (HS _ b0) ?_|refine Zv rfl (by intros;go_simp<;>rfl) (by go_simp<;>rfl) ?_
   refine Zu ?_;go_wp2;go_ret;exact⟨cbE HE,b0⟩
  iterate 10 refine Zv (by first|rfl|simp[wanted,yielded,g1,put]) (by intros;go_simp<;>rfl) (by go_simp<;>rfl) ?_
  refine Yt (by simp[wanted,yielded,g1,put]) ?_
  go_wp2_with fail
  refine(HB _ b0).mono ?_;rintro _ W2 ⟨rfl,hW⟩;have e0:O (E w W2):=b0.trans (hW.mono b0.size);clear hW
  go_wp2_with fail
  refine⟨HS _ e0,?_⟩
  cases rb
  ·repeat first|refine Jn rfl (by simp[yielded,g2,put]) ?_|refine Js rfl (by simp[yielded,g2,put]) (HS _ e0) ?_|refine Zv rfl (by intros;go_simp<;>rfl) (by go_simp<;>rfl) ?_
   refine Zu ?_;go_wp2;go_ret;exact⟨cbE HE,e0⟩
  iterate 11 refine Zv (by first|rfl|simp[wanted,yielded,g2,put]) (by intros;go_simp<;>rfl) (by go_simp<;>rfl) ?_
  refine Yt (by simp[wanted,yielded,g2,put]) ?_
  go_wp2_with fail
  refine(HC _ e0).mono ?_;rintro _ W3 ⟨rfl,hW⟩;have n0:O (E w W3):=e0.trans (hW.mono e0.size);clear hW
  go_wp2_with fail
  refine⟨HS _ n0,?_⟩
  iterate 2 refine Zv rfl (by intros;go_simp<;>rfl) (by go_simp<;>rfl) ?_
  refine Zu ?_;go_wp2;go_ret;exact⟨cbE HE,n0⟩
 by_cases h6:sk=6
 ·have HV:=A (f0 (.inr h6) h1)
  have HB:=A (g0 (.inr h6) h1);have HE:O (aX=(va && rb)):=(by show _=_;rw[a0.out,decide_eq_true h1,Z h5,G h6,Bool.true_and]);have e5:(n.kind==5)=false:=(by simp[h1,h6]);have e6:(n.kind==6)=true:=(by simp[h1,h6]);clear h1 h5 h6 a0 f0 i0 g0 j0 q0 k0
  go_wp2_with fail
  refine Zm HS dA.drew [9,20] [] [(10,75)] (by kernel_rfl) (λ_ _ _ _ h=>h) (λops ⟨g1,_⟩=>?_)
  iterate 9 refine Zv rfl (by intros;go_simp<;>rfl) (by go_simp<;>rfl) ?_
  refine Zs ?_
  go_wp2_with fail
  refine(HV _ dA.drew).mono ?_;rintro _ W1 ⟨rfl,hW⟩;have b0:O (E w W1):=(dA.drew).trans hW;clear hW
  go_wp2_with fail
  refine⟨HS _ b0,?_⟩
  cases va
  ·repeat first|refine Jn rfl (by simp[yielded,g1,put]) ?_|refine Js rfl (by simp[yielded,g1,put]) (HS _ b0) ?_|refine Zv rfl (by intros;go_simp<;>rfl) (by go_simp<;>rfl) ?_
   refine Zu ?_;go_wp2;go_ret;exact⟨cbE HE,b0⟩
  iterate 10 refine Zv (by first|rfl|simp[wanted,yielded,g1,put]) (by intros;go_simp<;>rfl) (by go_simp<;>rfl) ?_
  refine Yt (by simp[wanted,yielded,g1,put]) ?_
  go_wp2_with fail
  refine(HB _ b0).mono ?_;rintro _ W2 ⟨rfl,hW⟩;have e0:O (E w W2):=b0.trans (hW.mono b0.size);clear hW
  go_wp2_with fail
  refine⟨HS _ e0,?_⟩
  iterate 2 refine Zv rfl (by intros;go_simp<;>rfl) (by go_simp<;>rfl) ?_
  refine Zu ?_;go_wp2;go_ret;exact⟨cbE HE,e0⟩
 have HV:=A (i0 (by omega) h1)
 have e5:(n.kind==5)=false:=by rw[h1,Qh];exact h5
 have e6:(n.kind==6)=false:=by rw[h1,Qh];exact h6
 have HE:O (aX=(decide (n.a=sx) && vb)):=by show _=_;rw[a0.out,decide_eq_true h1,Z h5,Z h6,Bool.true_and]
 clear h1 h5 h6 a0 f0 i0 g0 j0 q0 k0
 go_wp2_with fail
 refine Zm HS dA.drew [19] [] [(9,96)] (by kernel_rfl) (λ_ _ _ _ h=>h) (λops ⟨g1,_⟩=>?_)
 by_cases ha:n.a=sx
 rotate_left
 ·have ea2:(n.a==sx)=false:=by rw[Qh];exact ha
  rw[decide_eq_false ha]at HE;clear ha
  repeat first|refine Jn rfl (by simp[yielded,g1,ea2,put]) ?_|refine Js rfl (by simp[yielded,g1,ea2,put]) (HS _ dA.drew) ?_|refine Zv rfl (by intros;go_simp<;>rfl) (by go_simp<;>rfl) ?_
  refine Zu ?_;go_wp2;go_ret;exact⟨cbE HE,dA.drew⟩
 have ea2:(n.a==sx)=true:=by simp[ha]
 rw[decide_eq_true ha]at HE;clear ha
 iterate 19 refine Zv (by first|rfl|simp[wanted,yielded,g1,put]) (by intros;go_simp<;>rfl) (by go_simp<;>rfl) ?_
 refine Yt (by simp[wanted,yielded,g1,put]) ?_
 go_wp2_with fail
 refine(HV _ dA.drew).mono ?_;rintro _ W1 ⟨rfl,hW⟩;have b0:O (E w W1):=(dA.drew).trans hW;clear hW
 go_wp2_with fail
 refine⟨HS _ b0,?_⟩
 iterate 2 refine Zv rfl (by intros;go_simp<;>rfl) (by go_simp<;>rfl) ?_
 refine Zu ?_;go_wp2;go_ret;exact⟨cbE HE,b0⟩
end
def zs8(x:List ar)(k:Int):Prop:=0<=k/\k.toNat<x.length
structure XOk(x:List ar):Prop where
 k2:∀k,k<x.length->(nth x k).kind=2->zs8 x (nth x k).b/\zs8 x (nth x k).c
 k3:∀k,k<x.length->(nth x k).kind=3\/(nth x k).kind=4->zs8 x (nth x k).b
 k5:∀k,k<x.length->(nth x k).kind=5\/(nth x k).kind=6->zs8 x (nth x k).a/\zs8 x (nth x k).b
 k6:∀k,k<x.length->(nth x k).kind=5->zs8 x (nth x k).c
 k7:∀k,k<x.length->(nth x k).kind=7->∀j∈(nth x k).aU,zs8 x j
def zvx:Nat->List aa->Prop
 |0,_=>True
 |d+1,l=>∀i,i<l.length->((l.getD i noS).kind=3\/(l.getD i noS).kind=4\/(l.getD i noS).kind=5\/(l.getD i noS).kind=6)/\zvx d (l.getD i noS).aZ/\zvx d (l.getD i noS).aP
def Zl.shape{l:List aa}(h:Zl d S w v l):∃a c,v=J a l.length c:=by
 cases d with
 |zero=>obtain⟨rfl,rfl⟩:=h;exact⟨none,0,rfl⟩
 |succ d=>obtain⟨a,c,e,-⟩:=h;exact⟨a,c,e⟩
def zy7.ptr{e:da}(h:zy7 S w v e):∃a,v=.pointer a:=by
 rcases h with⟨-,b,e,-⟩|⟨-,b,_,_,e,-⟩
 ·exact⟨_,e⟩
 exact⟨_,e⟩
def zd5(Cb Pb Lb Rl:Nat)(vv nv hv:Value)(p:aV)(vs:Is)(x:List ar)(S:Nat->Prop)(d:Nat):Prop:=
 ∀(w:World) (k:Int) (v:Value) (l:List aa),Yb w Cb Pb Lb Rl vv nv hv p vs x->(∀b,S b->b<w.heap.size)->zs8 x k->Zl d S w v l->zvx d l->F 49 #[M Cb,I k,v] w (Rw (.bool (cO d x k l)) w)
section
variable{nv:Value}
def yq4(hx:XOk x)(H:zd5 Cb Pb Lb Rl vv nv hv p vs x S d)(h:Yb w Cb Pb Lb Rl vv nv hv p vs x)(hS:∀b,S b->b<w.heap.size)(k:Int)(hk:zs8 x k)(q:Value)(s:aa)(hs:zy2 (Zl d) S w q s)(j0:s.kind=3\/s.kind=4\/s.kind=5\/s.kind=6)(f0:zvx d s.aZ)(g0:zvx d s.aP):
  F 95 #[M Cb,I k,q] w (Rw (.bool (eI (cO d x) x k s)) w):=by
 obtain⟨sb,vp,fv,ev,rfl,h0,hc,b0,hf,he⟩:=hs;obtain⟨av,rfl⟩:=b0.ptr;obtain⟨fa,fc,rfl⟩:=hf.shape;obtain⟨ea,ec,rfl⟩:=he.shape;obtain⟨kn,i0⟩:∃kn:Nat,(kn:Int)=k:=⟨k.toNat,by have:=hk.1;omega⟩
 have e0:k.toNat=kn:=by omega
 have c0:kn<x.length:=by have:=hk.2;omega
 have en:nd x k=nth x kn:=by unfold nd;rw[e0]
 have d0:∀W,E w W->∀b,S b->b<W.heap.size:=λW hW b hb=>Qj (hS b hb) hW.size
 have a0:∀(j:Int),zs8 x j->∀W,E w W->F 139 #[M Cb,I j,.pointer av] W (Rw (.bool (dj x j s.e)) W):=λj hj W hW=>
  yx5 (h.below hW) (d0 W hW) j hj (λh2=>by have:=hx.k2 j.toNat hj.2 h2;exact this) _ _ (b0.kept (λb hb=>hb) (λb hb=>hW.block b (hS b hb)))
 have aH:∀(j:Int) (v:Value) (l:List aa),zs8 x j->Zl d S w v l->zvx d l->∀W,E w W->F 49 #[M Cb,I j,v] W (Rw (.bool (cO d x j l)) W):=λj v l hj hv hkk W hW=>
  H W j v l (h.below hW) (d0 W hW) hj (Zl.kept (λb hb=>hb) (λb hb=>hW.block b (hS b hb)) _ _ _ hv) hkk
 have h1:=ys2 h kn c0 (s.kind:Nat) (s.x:Nat) (by omega) av fa ea s.aZ.length fc s.aP.length ec (hS _ h0) ⟨hc.c 0 (by omega),hc.c 2 (by omega),hc.c 3 (by omega),hc.c 4 (by omega),hc.c 5 (by omega)⟩ (dj x (nth x kn).a s.e) (dj x (nth x kn).b s.e) (cO d x (nth x kn).b s.aZ) (cO d x (nth x kn).c s.aP)
  (λh2 h3=>a0 _ (hx.k5 kn c0 (by omega)).1) (λh2 h3=>a0 _ (hx.k3 kn c0 (by omega))) (λh2 h3=>aH _ _ _ (hx.k5 kn c0 (by omega)).2 hf f0) (λh2 h3=>aH _ _ _ (hx.k6 kn c0 (by omega)) he g0)
 rw[i0]at h1;refine h1.mono ?_;rintro e w' ⟨rfl,hw⟩;refine⟨?_,hw⟩;unfold eI;rw[en]
 congr 2
 by_cases h5:s.kind=5
 ·rw[G h5,G (by omega)]
 by_cases h6:s.kind=6
 ·rw[Z h5,G h6,Z (by omega),G (by omega)]
 rw[Z h5,Z h6,Z (by omega),Z (by omega)]
end
section
variable{nv:Value}
def zj9(h:Yb w Cb Pb Lb Rl vv nv hv p vs x)(kn:Nat)(hk:kn<x.length)(a:Option Addr)(c:Nat)(len:Nat)(hc:len<=c)(bt:len<=16)(f:Nat->Bool)
  (dx:∀i,i<len->∃b off sp,a=some (Y b off)/\(∀W,E w W->W.cell? (Y b (off+i))=some (.pointer sp))/\((nth x kn).kind=7->(nth x kn).aU.length=len->∀W,E w W->F 95 #[M Cb,I ((nth x kn).aU.getD i 0),.pointer sp] W (Rw (.bool (f i)) W))):
  F 49 #[M Cb,I kn,J a len c] w (Rw (.bool (decide ((nth x kn).kind=7) && (decide ((nth x kn).aU.length=len) && (range len).all f))) w):=by
 obtain⟨nb,kz,cap,lv,rfl,e0⟩:=h.gO kn hk;obtain⟨no,dS⟩:=U (kz+kn*6);obtain⟨n,hn⟩:=U (nth x kn);rw[<-hn]at dx e0⊢;rw[<-dS]at e0;obtain⟨la,lc,rfl,z0,-,j0⟩:=e0.li;have c2:=h.c2
 have A0:(kn:Int)<(x.length:Int):=by omega
 have hz:=e0.hz;have n0:=e0.c0;have n5:=e0.c5;have HN:O (∀W,E w W->D W nb (no+5) (J la n.aU.length lc)):=λW hW=>cT hW hz n5
 have u0:O (∀i,i<n.aU.length->∃b off,la=some (Y b off)/\∀W,E w W->D W b (off+i) (I (n.aU.getD i 0))):=λi hi=>by
  obtain⟨b,off,e,hb,v0⟩:=j0 (by intro h;rw[h]at hi;simp at hi);exact⟨b,off,e,λW hW=>cT hW hb (v0 i hi)⟩
 obtain⟨aX,b0⟩:=U ((decide (n.kind=7) && (decide (n.aU.length=len) && (range len).all f)));rw[<-b0];have a0:=A b0;have B0:=A dS
 have o0:(len:Int)<=16:=by omega
 have C0:(len:Int)<=(c:Int):=by omega
 by_cases h7:n.kind=7
 ·have e7:(n.kind !=7)=false:=by simp[h7]
  by_cases hl:n.aU.length=len
  ·have el:((n.aU.length:Int) !=(len:Int))=false:=by simp[hl]
   have HE:O (aX=(range len).all f):=(by show _=_;rw[a0.out,decide_eq_true h7,decide_eq_true hl];simp)
   have x0:O (∀i,i<len->∃b off sp,a=some (Y b off)/\(∀W,E w W->D W b (off+i) (.pointer sp))/\(∀W,E w W->F 95 #[M Cb,I (n.aU.getD i 0),.pointer sp] W (Rw (.bool (f i)) W))):=λi hi=>by
    obtain⟨b,off,sp,e1,e2,e3⟩:=dx i hi;exact⟨b,off,sp,e1,e2,e3 h7 hl⟩
   have HL:=A hl;clear h e0 dx b0 hn a0 h7 hl j0;subst dS
   go_enter func49,ntmps49
   go_wp2_with fail
   go_loopw [33] (λi wr=>E w wr/\∃k:Nat,k<=len/\i=I k/\(range k).all f=true) (λi _=>len - (intOf i).toNat)
   case atStart=>exact⟨Below.refl _ _,0,Nat.zero_le _,rfl,rfl⟩
   case round=>
    obtain⟨p0,k,D0,rfl,aH⟩:=hrel;have g0:=A p0;have i0:=A aH;clear p0 aH
    by_cases k0:k<len
    ·have l0:(k:Int)<(len:Int):=by omega
     obtain⟨b,off,sp,rfl,q0,d0⟩:=x0 k k0;obtain⟨b2,off2,rfl,r0⟩:=u0 k (by rw[HL.out];exact k0);have d1:=q0 wr g0.out;have d2:=r0 wr g0.out;have d3:=HN wr g0.out;have E0:(k:Int)<(n.aU.length:Int):=(by have:=HL.out;omega);obtain⟨j,hj⟩:=U (n.aU.getD k 0);rw[<-hj]at d2 d0;have f0:O (F 95 #[M Cb,I j,.pointer sp] wr (Rw (.bool (f k)) wr)):=d0 wr g0.out
     have HF:O (f k=false->(range len).all f=false):=λh0=>by
      rw[all_eq_false];exact⟨k,mem_range.2 k0,by rw[h0];simp⟩
     have HT:O (f k=true->(range (k+1)).all f=true):=λh0=>by rw[range_succ,all_append,i0.out];simp[h0]
     generalize f k=fk at f0 HF HT;clear q0 r0 d0 hj
     go_wp2_with fail
     refine f0.mono ?_;rintro e w1 ⟨rfl,s0⟩;have t0:O (E w w1):=g0.trans (s0.mono g0.size);clear s0
     cases fk with
     |false=>
      have m0:O (aX=false):=(by show _=_;rw[HE.out];exact HF rfl);go_wp2;go_ret;exact⟨cbE m0,t0⟩
     |true=>
      have y0:O ((range (k+1)).all f=true):=HT rfl;go_wp2
      go_roundw
      case rel=>exact⟨t0,k+1,by omega,by go_num,y0⟩
      case measure=>simp[intOf];omega
    have l0:¬(k:Int)<(len:Int):=(by omega);have m0:O (aX=true):=by
     show _=_;rw[HE.out];have h1:=i0.out;rw[show k=len by omega]at h1;exact h1
    go_wp2;go_ret;exact⟨cbE m0,g0⟩
  have el:((n.aU.length:Int) !=(len:Int))=true:=(by rw[bne_iff_ne];omega);have HE:O (aX=false):=(by show _=_;rw[a0.out,decide_eq_false hl];simp);clear h e0 dx b0 hn a0 h7 hl j0;subst dS
  go_enter func49,ntmps49
  go_wp2;go_ret;exact⟨cbE HE,Below.refl _ _⟩
 have e7:(n.kind !=7)=true:=by rw[bne_iff_ne];exact h7
 have HE:O (aX=false):=by show _=_;rw[a0.out,decide_eq_false h7];simp
 clear h e0 dx b0 hn a0 h7 j0;subst dS
 go_enter func49,ntmps49
 go_wp2;go_ret;exact⟨cbE HE,Below.refl _ _⟩
end
section
variable{nv:Value}
def ycx:zd5 Cb Pb Lb Rl vv nv hv p vs x S 0:=by
 intro w k v l h hS hk a0 _;obtain⟨rfl,rfl⟩:=a0;obtain⟨kn,b0⟩:∃kn:Nat,(kn:Int)=k:=⟨k.toNat,by have:=hk.1;omega⟩
 have e0:k.toNat=kn:=by omega
 have h1:=zj9 h kn (by have:=hk.2;omega) none 0 0 lE (by omega) (λ_=>true) (λi hi=>by omega);rw[b0]at h1;refine h1.mono ?_;rintro e w' ⟨rfl,hw⟩;refine⟨?_,hw⟩;unfold cO nd;rw[e0]
 congr 3
 by_cases hl:(nth x kn).aU=[]
 ·simp[hl]
 have:(nth x kn).aU.length≠0:=λh=>hl (Qi h);simp[hl,this]
def ycw(hx:XOk x)(H:zd5 Cb Pb Lb Rl vv nv hv p vs x S d):zd5 Cb Pb Lb Rl vv nv hv p vs x S (d+1):=by
 intro w k v l h hS hk g0 h0;obtain⟨ao,cap,rfl,hc,-,i0,a0⟩:=g0;obtain⟨kn,j0⟩:∃kn:Nat,(kn:Int)=k:=⟨k.toNat,by have:=hk.1;omega⟩
 have e0:k.toNat=kn:=by omega
 have c0:kn<x.length:=by have:=hk.2;omega
 have h1:=zj9 h kn c0 ao cap l.length hc i0 (λi=>eI (cO d x) x ((nth x kn).aU.getD i 0) (l.getD i noS)) (λi hi=>by
  obtain⟨b,off,e,hb,k0⟩:=a0 (by rintro rfl;simp at hi);obtain⟨q,hq,d0⟩:=k0 i hi;obtain⟨sb,vp,fv,ev,rfl,-⟩:=id d0;refine⟨b,off,some (Y sb 0),e,λW hW=>cT hW (hS b hb) hq,λh7 bt W hW=>?_⟩;have b0:=h0 i hi;have dK:(nth x kn).aU.getD i 0∈(nth x kn).aU:=by
   have f0:i<(nth x kn).aU.length:=(by omega);rw[Qa,Qb f0];exact getElem_mem f0
  exact yq4 hx H (h.below hW) (λb hb=>Qj (hS b hb) hW.size) _ (hx.k7 kn c0 h7 _ dK) _ _ (d0.kept (λv l hh=>Zl.kept (λb hb=>hb) (λb hb=>hW.block b (hS b hb)) _ _ _ hh) (λb hb=>hb) (λb hb=>hW.block b (hS b hb))) b0.1 b0.2.1 b0.2.2)
 rw[j0]at h1;refine h1.mono ?_;rintro e w' ⟨rfl,hw⟩;refine⟨?_,hw⟩;unfold cO nd;rw[e0]
def ziv(hx:XOk x):∀d,zd5 Cb Pb Lb Rl vv nv hv p vs x S d
 |0=>ycx
 |d+1=>ycw hx (ziv hx d)
end
def zvw:Array Value:=#[I 0,.func (.func 86) #[] #[],I 0,.func (.func 87) #[] #[],I 0,.func (.func 88) #[] #[],I 1,.func (.func 89) #[] #[],I 1,.func (.func 90) #[] #[],I 1,.func (.func 91) #[] #[],I 1,.func (.func 92) #[] #[],I 2,.func (.func 93) #[] #[]]
def ykz(w:World):F 47 #[] w λe w'=>e=.returned (Sq w.heap.size 0 8 8)/\w'=w.alloc (.cells zvw 199):=by
 go_enter func47,ntmps47
 go_wp2;go_ret;exact⟨rfl,rfl⟩
def yky(h:w.heap[Rl]?=some (.cells zvw 199 (0,0))):∀k,k<8->w.cell? (Y Rl (k*2))=some (I (zmz k))/\w.cell? (Y Rl (k*2+1))=some (.func (.func (zd3 k)) #[] #[]):=by
 intro k hk;rw[cell_of_row _ _ (k*2) _ _ (0,0) h,cell_of_row _ _ (k*2+1) _ _ (0,0) h];rcases(show k=0\/k=1\/k=2\/k=3\/k=4\/k=5\/k=6\/k=7 by omega) with rfl|rfl|rfl|rfl|rfl|rfl|rfl|rfl<;>exact⟨rfl,rfl⟩
def yx6{lv:Value}{xs ys:Is}(hp:Pb<w.heap.size)(c1:w.cell? (Y Pb 1)=some bC)(hx:Zw w.heap.size w bC xs)(hy:Zw w.heap.size w lv ys)(hl:xs.length<=10000/\ys.length<=10000):
  F 46 #[M Pb,lv] w λe w'=>E w w'/\∃a c,e=.returned (J a (xs++ys).length c)/\Zw w'.heap.size w' (J a (xs++ys).length c) (xs++ys):=by
 obtain⟨a0,k0,e0⟩:=Vv hx;obtain⟨a1,k1,e1⟩:=Vv hy;subst e0;subst e1;have hB:E w (w.alloc (.cells #[J a0 xs.length k0,J a1 ys.length k1] 22)):=bA;obtain⟨zs,b0⟩:=U (xs++ys);have HC:O (F 85 #[Sq w.heap.size 0 2 2] (w.alloc (.cells #[J a0 xs.length k0,J a1 ys.length k1] 22)) λe w'=>E w w'/\∃a c,e=.returned (J a zs.length c)/\Zw w'.heap.size w' (J a zs.length c) zs):=by
  refine(ze1 (w.alloc (.cells #[J a0 xs.length k0,J a1 ys.length k1] 22)) w.heap.size _ _ xs ys (by simp) (by simp) (by simp) ((hx.below hB).mono hB.size) ((hy.below hB).mono hB.size) hl).mono ?_;rintro e w' ⟨hb,v,rfl,ho⟩;rw[<-b0]at ho;refine⟨hB.trans (hb.mono hB.size),?_⟩;have hi:=Zw.dD ho;obtain⟨a,c,e⟩:=Vv hi;subst e;exact⟨a,c,rfl,hi⟩
 rw[<-b0];clear hx hy b0 hB
 go_enter func46,ntmps46
 go_wp2_with fail
 refine HC.mono ?_;rintro e w1 ⟨hb,a,c,rfl,hi⟩;have HE:O (E w w1/\Zw w1.heap.size w1 (J a zs.length c) zs):=⟨hb,hi⟩;clear hb hi;go_wp2;go_ret;exact⟨HE.1,a,c,rfl,HE.2⟩
def yf1(aX:Nat×Int)(w:World)(e:Ending)(w':World):Prop:=
 E w w'/\((aX.1=0/\e=.returned .nilIface)\/(aX.1=10/\e=.returned (.iface 24 (I 10)))\/(aX.1=9/\∃a,e=.returned (.iface 78 (M a))/\w'.cell? (Y a 0)=some (I 9)/\w'.cell? (Y a 1)=some (I aX.2)))
def yf2(u:World)(o:Obj)(k:Nat)(hk:u.heap.size=k):(u.alloc o).heap[k]?=some o:=by subst hk;exact heap_alloc_last u o
structure CpIn(w:World)(Pb Lb:Nat)(bC hv bv lv nv:Value)(p:aV)(S:Nat->Prop)(ls:Is)(x:List ar):Prop where
 hz:Pb<w.heap.size/\Lb<w.heap.size
 p0:w.cell? (Y Pb 0)=some (M Lb)
 p1:w.cell? (Y Pb 1)=some bC
 p2:w.cell? (Y Pb 2)=some hv
 p3:w.cell? (Y Pb 3)=some (I p.ak)
 p4:w.cell? (Y Pb 4)=some bv
 la:Un w Lb p.n p.leq
 ci:Zw w.heap.size w bC (p.cells.map λ(y:Nat)=>(y:Int))
 hi:Zw w.heap.size w hv (p.aj.map λ(y:Nat)=>(y:Int))
 bs:Zl 4 S w bv p.aZ
 hS:∀b,S b->b<w.heap.size
 li:Zw w.heap.size w lv ls
 no:Yz w.heap.size w nv x
 n6:p.n<=6
 cl:p.cells.length<=6/\p.aj.length<=3
 cv:(∀y∈p.cells,y<p.n)/\∀y∈p.aj,y<p.n
 kd:zvx 4 p.aZ
 l0:ls.length<=4/\∀y∈ls,0<=y
 x0:0<x.length/\x.length<=200
 xo:XOk x
def CpIn.below{w w':World}{Pb Lb:Nat}{bC hv bv lv nv:Value}{p:aV}{S:Nat->Prop}{ls:Is}{x:List ar}(h:CpIn w Pb Lb bC hv bv lv nv p S ls x)(hb:E w w'):CpIn w' Pb Lb bC hv bv lv nv p S ls x:=by
 have hz:=hb.size;have q:∀i,w'.cell? (Y Pb i)=w.cell? (Y Pb i):=λi=>hb.cell (p:=(Y Pb i)) h.hz.1;exact{hz:=⟨by have:=h.hz.1;omega,by have:=h.hz.2;omega⟩,p0:=(q _).trans h.p0,p1:=(q _).trans h.p1,p2:=(q _).trans h.p2,p3:=(q _).trans h.p3,p4:=(q _).trans h.p4,la:=h.la.block (hb.block _ h.hz.2),ci:=(h.ci.below hb).mono hz,hi:=(h.hi.below hb).mono hz,bs:=Zl.kept (λb hb=>hb) (λb hs=>hb.block b (h.hS b hs)) _ _ _ h.bs,hS:=λb hs=>Qj (h.hS b hs) hz,li:=(h.li.below hb).mono hz,no:=(h.no.below hb).mono hz,n6:=h.n6,cl:=h.cl,cv:=h.cv,kd:=h.kd,l0:=h.l0,x0:=h.x0,xo:=h.xo}
def CpIn.oX{W:World}{bv lv nv:Value}(h:CpIn w Pb Lb bC hv bv lv nv p S ls x)(hb:E w W)(b0:Zw W.heap.size W vv (vars p ls)):
  Yb ((W.alloc (.cells zvw 199)).alloc (.cells #[M Pb,vv,nv,Sq W.heap.size 0 8 8] 145)) (W.heap.size+1) Pb Lb W.heap.size vv nv hv p (vars p ls) x:=by
 have hB:E W ((W.alloc (.cells zvw 199)).alloc (.cells #[M Pb,vv,nv,Sq W.heap.size 0 8 8] 145)):=(bA).alloc (by simp) _;have h2:=(h.below hb).below hB;obtain⟨W3,a0⟩:=U (((W.alloc (.cells zvw 199)).alloc (.cells #[M Pb,vv,nv,Sq W.heap.size 0 8 8] 145)))
 have rC:W3.heap[W.heap.size+1]?=some (.cells #[M Pb,vv,nv,Sq W.heap.size 0 8 8] 145 (0,0)):=by rw[a0];exact yf2 _ _ _ (by simp)
 have rR:W3.heap[W.heap.size]?=some (.cells zvw 199 (0,0)):=by rw[a0,Below.heap_alloc _ _ _ (by simp)];exact yf2 _ _ _ rfl
 have d0:W3.heap.size=W.heap.size+2:=by rw[a0];simp
 rw[<-a0]at h2 hB⊢;exact{hz:=⟨by omega,h2.hz.1,h2.hz.2,by omega⟩,c0:=cR 0 rC,c1:=cR 1 rC,c2:=cR 2 rC,c3:=cR 3 rC,p0:=h2.p0,p2:=h2.p2,la:=h2.la,vi:=(b0.below hB).mono hB.size,hi:=h2.hi,no:=h2.no,ru:=yky rR,n6:=h2.n6}
end Go.Proofs.YtjmcibbdedlcoaaGreatDoor
