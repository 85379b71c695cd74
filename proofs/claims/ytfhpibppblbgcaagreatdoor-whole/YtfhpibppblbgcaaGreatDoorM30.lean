import Derived.Test.YtfhpibppblbgcaaGreatDoorM11
set_option linter.all false
set_option maxRecDepth 100000
set_option maxHeartbeats 40000000
namespace Go.Proofs.YtfhpibppblbgcaaGreatDoor
open Go.RowKit Go.Proofs.Tryz
variable{w:World}{Lb Cb Pb Rl j nb no:Nat}{n:Fl.ar}{vv hv:Value}{p:Fl.aS}{vs:List Int}{x:List Fl.ar}{o:Oper}{a:Act}{b:Bool}
def zoz(k:Nat):Int:=if k<=2 then 0 else if k<=6 then 1 else 2
def zf2(k:Nat):FuncId:=if k=0 then 94 else if k=1 then 95 else if k=2 then 96 else if k=3 then 97 else if k=4 then 98 else if k=5 then 99 else if k=6 then 100 else 101
structure Xy(w:World)(Cb Pb Lb Rl:Nat)(vv nv hv:Value)(p:Fl.aS)(vs:List Int)(x:List Fl.ar):Prop where
 hz:Cb<w.heap.size/\Pb<w.heap.size/\Lb<w.heap.size/\Rl<w.heap.size
 c0:w.cell? (Aq Cb 0)=some (Pq Pb)
 c1:w.cell? (Aq Cb 1)=some vv
 c2:w.cell? (Aq Cb 2)=some nv
 c3:w.cell? (Aq Cb 3)=some (.slice (some (Aq Rl 0)) 8 8)
 p0:w.cell? (Aq Pb 0)=some (Pq Lb)
 p2:w.cell? (Aq Pb 2)=some hv
 la:Ur w Lb p.n p.leq
 vi:Zv w.heap.size w vv vs
 hi:Zv w.heap.size w hv (p.aj.map λ(y:Nat)=>(y:Int))
 no:Yv w.heap.size w nv x
 ru:∀k,k<8->w.cell? (Aq Rl (k*2))=some (Iq (zoz k))/\w.cell? (Aq Rl (k*2+1))=some (.func (.func (zf2 k)) #[] #[])
 n6:p.n<=6
def Xy.below{w w':World}{Cb Pb Lb Rl:Nat}{vv nv hv:Value}{p:Fl.aS}{vs:List Int}{x:List Fl.ar}(h:Xy w Cb Pb Lb Rl vv nv hv p vs x)(hb:Bq w w'):Xy w' Cb Pb Lb Rl vv nv hv p vs x:=by
 obtain⟨z1,z2,z3,z4⟩:=h.hz;have hz:=hb.size;have q:∀b i,b<w.heap.size->w'.cell? (Aq b i)=w.cell? (Aq b i):=λb i a0=>hb.cell (p:=(Aq b i)) a0;exact{hz:=⟨by omega,by omega,by omega,by omega⟩,c0:=(q _ _ z1).trans h.c0,c1:=(q _ _ z1).trans h.c1,c2:=(q _ _ z1).trans h.c2,c3:=(q _ _ z1).trans h.c3,p0:=(q _ _ z2).trans h.p0,p2:=(q _ _ z2).trans h.p2,la:=h.la.block (hb.block _ z3),vi:=(h.vi.below hb).mono hz,hi:=(h.hi.below hb).mono hz,no:=(h.no.below hb).mono hz,ru:=λk hk=>⟨(q _ _ z4).trans (h.ru k hk).1,(q _ _ z4).trans (h.ru k hk).2⟩,n6:=h.n6}
section
variable{n:Nat}{t:Fl.cM}
def ysz(h:Ur w Lb n t)(v:Int):Cq 93 #[Pq Lb,Iq v] w λe w'=>e=.returned (.bool (decide (0<=v/\v<n)))/\w'=w:=by
 have c0:=h.c0;clear h
 by_cases h1:0<=v
 ·by_cases h2:v<n
  ·have e:decide (0<=v/\v<n)=true:=decide_eq_true ⟨h1,h2⟩
   rw[e];clear e
   go_enter func93,ntmps93
   go_wp2;go_ret;exact⟨rfl,rfl⟩
  have e:decide (0<=v/\v<n)=false:=decide_eq_false (λh=>h2 h.2);rw[e];clear e
  go_enter func93,ntmps93
  go_wp2;go_ret;exact⟨rfl,rfl⟩
 have e:decide (0<=v/\v<n)=false:=decide_eq_false (λh=>h1 h.1);rw[e];clear e
 go_enter func93,ntmps93
 go_wp2;go_ret;exact⟨rfl,rfl⟩
def yj0(h:Ur w Lb n t)(hn:n<=6)(a b:Nat)(ha:a<n)(hb:b<n):Cq 120 #[Pq Lb,Iq a,Iq b] w λe w'=>e=.returned (.bool (t a b))/\w'=w:=by
 have c:=h.cu a b ha hb
 have a0:(a:Int)<6:=by omega
 have b0:(b:Int)<6:=by omega
 have e:1+6*a+b=1+a*6+b:=by omega
 rw[e]at c;clear h e
 go_enter func120,ntmps120
 go_wp2;go_ret;exact⟨rfl,rfl⟩
end
def ysy(r ro:Nat):decide (r=ro)=(((r:Nat):Int)==(ro:Int)):=by
 by_cases h:r=ro
 ·subst h;simp
 rw[decide_eq_false h];symm;rw[Qh];omega
def yg1(k:Nat):zoz k=((Fl.dw (k:Int):Nat):Int):=by
 unfold zoz Fl.dw
 by_cases h1:k<=2
 ·rw[if_pos h1,if_pos (by omega)];rfl
 by_cases h2:k<=6
 ·rw[if_neg h1,if_pos h2,if_neg (by omega),if_pos (by omega)];rfl
 rw[if_neg h1,if_neg h2,if_neg (by omega),if_neg (by omega)];rfl
section
variable{nv:Value}
def Xy.node(h:Xy w Cb Pb Lb Rl vv nv hv p vs x)(k:Nat)(hk:k<x.length):∃b off cap,nv=.slice (some (Aq b off)) x.length cap/\b<w.heap.size/\w.cell? (Aq b (off+k*6))=some (Iq (Fl.nth x k).kind)/\w.cell? (Aq b (off+k*6+1))=some (Iq (Fl.nth x k).ag):=by
 obtain⟨ao,cap,e,-,-,h4⟩:=h.no;obtain⟨b,off,e2,hb,hc⟩:=h4 (by rintro rfl;simp at hk);obtain⟨lv,-,h5,h6,-⟩:=hc k hk;exact⟨b,off,cap,by rw[e,e2],hb,h5,h6⟩
def yoy(h:Xy w Cb Pb Lb Rl vv nv hv p vs x)(k:Nat)(hk:k<x.length):Cq 130 #[Pq Cb,Iq k] w λe w'=>e=.returned (Iq (Fl.nth x k).ag)/\w'=w:=by
 obtain⟨b,off,cap,rfl,-,-,c1⟩:=h.node k hk;have c2:=h.c2
 have a0:(k:Int)<(x.length:Int):=by omega
 clear h
 go_enter func130,ntmps130
 go_wp2;go_ret;exact⟨rfl,rfl⟩
def is_any(h:Xy w Cb Pb Lb Rl vv nv hv p vs x)(ro:Nat)(k:Nat)(hk:k<x.length)(e0:0<=(Fl.nth x k).kind/\(Fl.nth x k).kind<=7):Cq 129 #[Pq Cb,Iq ro,Iq k] w λe w'=>e=.returned (.bool (decide (Fl.dw (Fl.nth x k).kind=ro)))/\w'=w.drew:=by
 obtain⟨b,off,cap,rfl,-,c0,-⟩:=h.node k hk;have c2:w.drew.cell? (Aq Cb 2)=some (.slice (some (Aq b off)) x.length cap):=h.c2;have c3:w.drew.cell? (Aq Cb 3)=some (.slice (some (Aq Rl 0)) 8 8):=h.c3;obtain⟨kd,a0⟩:∃kd:Nat,(kd:Int)=(Fl.nth x k).kind:=⟨(Fl.nth x k).kind.toNat,by omega⟩
 have f0:kd<8:=by omega
 have cr:w.drew.cell? (Aq Rl (kd*2))=some (Iq (zoz kd)):=(h.ru kd f0).1
 have c0':w.drew.cell? (Aq b (off+k*6))=some (Iq (kd:Int)):=by rw[a0];exact c0
 have h0:(k:Int)<(x.length:Int):=by omega
 have g0:(kd:Int)<8:=by omega
 have HR:Hid (decide (Fl.dw (Fl.nth x k).kind=ro)=(zoz kd==(ro:Int))):=by
  show _=_;rw[<-a0];rw[yg1];exact ysy _ _
 obtain⟨rl,d0⟩:=nmE (zoz kd);rw[<-d0]at cr HR;obtain⟨aV,b0⟩:=nmE (decide (Fl.dw (Fl.nth x k).kind=ro));rw[<-b0]at HR⊢;clear h e0 a0 c0 d0 b0
 go_enter func129,ntmps129
 go_wp2_with fail
 refine Zi (λW=>W.cell? (Aq Cb 2)=some (.slice (some (Aq b off)) x.length cap)/\W.cell? (Aq Cb 3)=some (.slice (some (Aq Rl 0)) 8 8)/\W.cell? (Aq Rl (kd*2))=some (Iq rl)/\W.cell? (Aq b (off+k*6))=some (Iq (kd:Int))) [] [] [] ⟨c2,c3,cr,c0'⟩ (by kernel_rfl) (λc a d v w h=>by cases d<;>exact h) (λops hG=>?_);clear hG c2 c3 cr c0'
 iterate 18 refine Zw rfl (by rintro _ ⟨_,_,_,_⟩;go_simp<;>rfl) (by go_simp<;>rfl) ?_
 refine Zu ?_;go_wp2;go_ret;exact⟨cbE HR,rfl⟩
def zl3(h:Xy w Cb Pb Lb Rl vv nv hv p vs x)(bC:Nat)(ht:bC<p.n)(v:Value)(ls:List Int)(hl:Zv w.heap.size w v ls)(n0:ls.length<=100)(hr:∀y∈ls,0<=y/\y<p.n):Cq 128 #[Pq Cb,Iq bC,v] w λe w'=>e=.returned (.bool (ls.all λy=>Fl.aL p y bC))/\w'=w:=by
 obtain⟨ao,cap,rfl,hc,-,a0⟩:=hl;have c0:=h.c0;have p0:=h.p0;have j0:Hid (∀(a:Nat),a<p.n->Cq 120 #[Pq Lb,Iq a,Iq bC] w λe w'=>e=.returned (.bool (p.leq a bC))/\w'=w):=λa ha=>yj0 h.la h.n6 a bC ha ht
 have k0:Hid (∀i,(hi:i<ls.length)->∃b off,ao=some (Aq b off)/\∃y:Nat,(y:Int)=ls[i]/\y<p.n/\w.cell? (Aq b (off+i))=some (Iq (y:Int))):=λi hi=>by
  obtain⟨b,off,e,-,hc⟩:=a0 (by rintro rfl;simp at hi);have h1:=hr ls[i] (List.getElem_mem hi);refine⟨b,off,e,ls[i].toNat,by omega,by omega,?_⟩;rw[hc i hi,Qa,Qb hi];simp only[Option.getD_some];rw[show ((ls[i].toNat:Nat):Int)=ls[i] by omega]
 have o0:(ls.length:Int)<=100:=by omega
 have q0:(ls.length:Int)<=(cap:Int):=by omega
 clear h a0 hr
 go_enter func128,ntmps128
 go_wp2_with fail
 go_loopw [11] (λi wr=>wr=w/\∃k:Nat,k<=ls.length/\i=Iq k/\(ls.take k).all (λy=>Fl.aL p y bC)=true) (λi _=>ls.length - (intOf i).toNat)
 case atStart=>exact⟨rfl,0,Nat.zero_le _,rfl,rfl⟩
 case round=>
  obtain⟨h0,k,hk,rfl,aK⟩:=hrel;have b0:=Zz aK;rw[h0];clear h0 aK wr
  by_cases f0:k<ls.length
  ·have l0:(k:Int)<(ls.length:Int):=by omega
   obtain⟨b,off,rfl,y,hy,m0,cy⟩:=k0 k f0;obtain⟨yk,g0⟩:=nmE (ls[k]);have d0:Hid (yk∈ls/\ls.take (k+1)=ls.take k++[yk]):=(by rw[g0];exact⟨List.getElem_mem f0,List.take_succ_eq_append_getElem f0⟩);have HU:Hid (Fl.aL p yk bC=p.leq y bC):=(by show _=_;unfold Fl.aL;rw[g0,<-hy];simp);have e0:Hid (Cq 120 #[Pq Lb,Iq y,Iq bC] w λe w'=>e=.returned (.bool (p.leq y bC))/\w'=w):=j0 y m0;generalize p.leq y bC=bb at*;clear hy g0
   go_wp2_with fail
   refine e0.mono ?_;rintro e w1 ⟨rfl,i0⟩;rw[i0];clear i0 w1
   cases bb with
   |false=>
    have HE:Hid ((ls.all λy=>Fl.aL p y bC)=false):=by
     show _=_;rw[List.all_eq_false];exact⟨yk,d0.1,by rw[HU.out];simp⟩
    go_wp2;go_ret;exact⟨cbE HE,rfl⟩
   |true=>
    have HN:Hid ((ls.take (k+1)).all (λy=>Fl.aL p y bC)=true):=by
     show _=_;rw[d0.2,List.all_append,b0.out,List.all_cons,HU.out];rfl
    go_wp2
    go_roundw
    case rel=>exact⟨by first|rfl|trivial,k+1,by omega,by go_num,HN⟩
    case measure=>simp[intOf];omega
  have l0:¬(k:Int)<(ls.length:Int):=(by omega);have HE:Hid ((ls.all λy=>Fl.aL p y bC)=true):=by
   show _=_;have h1:=b0.out;rw[List.take_of_length_le (by omega)]at h1;exact h1
  go_wp2;go_ret;exact⟨cbE HE,rfl⟩
end
section
variable{P:Program}{ops:Array Oper}{Q:Exit->Act->World->Prop}{S:World->Prop}
def Zl{l:List (Nat×Oper)}{c:Bool}(hg:o.guard=some (j,b))(hy:yielded ops a.tmps j=some c)(a0:(some c==some b)=false)(hS:S w)
  (h:Yg P ops S Q l (a.put o.dst undef) w):Yg P ops S Q ((1,o)::l) a w:=wpList_skip (by simpa [Region.wanted,hg,hy] using a0) ⟨hS,h⟩
def yv1{l:List (Nat×Oper)}(hg:o.guard=some (j,b))(hy:yielded ops a.tmps j=none)(hS:S w)
  (h:Yg P ops S Q l (a.put o.dst undef) w):Yg P ops S Q ((1,o)::l) a w:=wpList_skip (by simp[Region.wanted,hg,hy]) ⟨hS,h⟩
def Yz{l:List (Nat×Oper)}{dst:Option Tmp}{op:Op}{ty:TypeId}{pos:String}{after:Array Edge}{guard:Option (Nat×Bool)}
  (hw:Region.wanted {dst:=dst,op:=op,type:=ty,pos:=pos,after:=after,guard:=guard} (yielded ops a.tmps)=true) (h:wpList P ops (Exit.then (λa1 w1=>S w1/\Yg P ops S Q l a1 w1) Q) [{dst:=dst,op:=op,type:=ty,pos:=pos,after:=after,guard:=none}] a w):
  Yg P ops S Q ((1,{dst:=dst,op:=op,type:=ty,pos:=pos,after:=after,guard:=guard})::l) a w:=Uj hw h
end
structure zw6(w:World)(nb no:Nat)(n:Fl.ar)(lv:Value):Prop where
 hz:nb<w.heap.size
 c0:w.cell? (Aq nb no)=some (Iq n.kind)
 c1:w.cell? (Aq nb (no+1))=some (Iq n.ag)
 c2:w.cell? (Aq nb (no+2))=some (Iq n.a)
 c3:w.cell? (Aq nb (no+3))=some (Iq n.b)
 c4:w.cell? (Aq nb (no+4))=some (Iq n.c)
 c5:w.cell? (Aq nb (no+5))=some lv
 li:Zv w.heap.size w lv n.aU
def zw6.below{w w':World}{nb no:Nat}{n:Fl.ar}{lv:Value}(h:zw6 w nb no n lv)(hb:Bq w w'):zw6 w' nb no n lv:=
 have q:∀i,w'.cell? (Aq nb i)=w.cell? (Aq nb i):=λi=>hb.cell (p:=(Aq nb i)) h.hz
 ⟨Qj h.hz hb.size,(q _).trans h.c0,(q _).trans h.c1,(q _).trans h.c2,(q _).trans h.c3,(q _).trans h.c4,(q _).trans h.c5,(h.li.below hb).mono hb.size⟩
def POk(p:Fl.aS)(x:List Fl.ar)(j:Int):Prop:=0<=j/\j.toNat<x.length/\0<=(Fl.nd x j).ag/\(Fl.nd x j).ag<p.n/\0<=(Fl.nd x j).kind/\(Fl.nd x j).kind<=7
def zi3(W:World)(y:Int):Zv (W.alloc (.cells #[Iq y] 3)).heap.size (W.alloc (.cells #[Iq y] 3)) (.slice (some (Aq W.heap.size 0)) 1 1) [y]:=
 ⟨_,1,rfl,by simp,by simp[maxLen],λ_=>⟨W.heap.size,0,rfl,by simp,λi hi=>by
  have:i=0:=by simpa using hi
  subst this;simp⟩⟩
def zi4(W:World)(y z:Int):Zv (W.alloc (.cells #[Iq y,Iq z] 3)).heap.size (W.alloc (.cells #[Iq y,Iq z] 3)) (.slice (some (Aq W.heap.size 0)) 2 2) [y,z]:=
 ⟨_,2,rfl,by simp,by simp[maxLen],λ_=>⟨W.heap.size,0,rfl,by simp,λi hi=>by
  have:i<2:=hi
  match i,this with
  |0,_=>simp
  |1,_=>simp⟩⟩
section
variable{nv lv:Value}
def ze9(h:Xy w Cb Pb Lb Rl vv nv hv p vs x)(hn:zw6 w nb no n lv)(ha:0<=n.a)(hl:0<=n.ag/\n.ag<p.n)(e0:∀y∈vs,0<=y/\y<p.n)(p0:vs.length<=100):
  Cq 95 #[Pq Cb,.pointer (some (Aq nb no))] w λe w'=>e=.returned (.bool (decide (n.a<vs.length) && Fl.aL p (vs.getD n.a.toNat 0) n.ag))/\Bq w w':=by
 obtain⟨lvl,b0⟩:∃lvl:Nat,(lvl:Int)=n.ag:=⟨n.ag.toNat,by omega⟩;obtain⟨an,f0⟩:∃an:Nat,(an:Int)=n.a:=⟨n.a.toNat,by omega⟩;have n0:=h.hz.1;have j0:=hn.hz;obtain⟨ao,cap,g0,hc,-,a0⟩:=h.vi;have c1:=h.c1;rw[g0]at c1;have n1:=hn.c1;have n2:=hn.c2;rw[<-b0]at n1;rw[<-f0]at n2
 have o0:(vs.length:Int)<=100:=by omega
 by_cases d0:an<vs.length
 ·obtain⟨b,off,rfl,hbz,k0⟩:=a0 (by rintro rfl;simp at d0)
  have cy:=k0 an d0;obtain⟨y,hy⟩:=nmE (vs.getD an 0);have l0:0<=y/\y<p.n:=by
   have h1:=e0 vs[an] (List.getElem_mem d0);rw[hy,Qa,Qb d0];exact h1
  rw[<-hy]at cy;have h0:(an:Int)<(vs.length:Int):=(by omega);have HS:Hid (∀W,Bq w W->Cl W nb (no+2) (Iq (an:Nat))/\Cl W Cb 1 (.slice (some (Aq b off)) vs.length cap)/\Cl W nb (no+1) (Iq (lvl:Nat))/\Cl W b (off+an) (Iq y)):=λW hW=>⟨(hW.cell (p:=(Aq nb (no+2))) j0).trans n2,(hW.cell (p:=(Aq Cb 1)) n0).trans c1,(hW.cell (p:=(Aq nb (no+1))) j0).trans n1,(hW.cell (p:=(Aq b (off+an))) hbz).trans cy⟩;have HB:Hid (Bq w (w.alloc (.cells #[Iq y] 3)).drew):=(bA).drew;have HU:Hid (Cq 128 #[Pq Cb,Iq (lvl:Nat),.slice (some (Aq w.heap.size 0)) 1 1] (w.alloc (.cells #[Iq y] 3)).drew λe w'=>e=.returned (.bool (Fl.aL p y n.ag))/\w'=(w.alloc (.cells #[Iq y] 3)).drew):=by
   have h1:=zl3 (h.below HB) lvl (by omega) (.slice (some (Aq w.heap.size 0)) 1 1) [y] (zi3 w y) (by simp) (by intro z hz;simp at hz;subst hz;exact l0);show Calls _ _ _ _ _;rw[<-b0];simpa using h1
  have c0:Hid ((decide (n.a<vs.length) && Fl.aL p (vs.getD n.a.toNat 0) n.ag)=Fl.aL p y n.ag):=by
   show _=_;rw[decide_eq_true (show n.a<vs.length by omega),Bool.true_and,hy,show n.a.toNat=an by omega]
  generalize Fl.aL p y n.ag=aV at*;clear h hn a0 k0 e0 hy l0 b0 f0 c1 n1 n2 cy g0
  go_enter func95,ntmps95
  go_wp2_with fail
  refine Zp HS (dA) [26,27] [] [(10,15)] (by kernel_rfl) (λc a d v w h=>by cases d<;>exact h) (λops ⟨g1,_⟩=>?_)
  iterate 26 refine Zw (by first|rfl|simp[Region.wanted,yielded,g1,Act.put]) (by rintro _ ⟨_,_,_,_⟩;go_simp<;>rfl) (by go_simp<;>rfl) ?_
  refine Yz (by simp[Region.wanted,yielded,g1,Act.put]) ?_
  go_wp2_with fail
  refine⟨HS _ HB,?_⟩;refine Yz (by simp[Region.wanted,yielded,g1,Act.put]) ?_
  go_wp2_with fail
  refine HU.mono ?_;rintro e W1 ⟨rfl,m0⟩;rw[m0];clear m0 W1
  go_wp2_with fail
  refine⟨HS _ HB,?_⟩
  iterate 2 refine Zw rfl (by rintro _ ⟨_,_,_,_⟩;go_simp<;>rfl) (by go_simp<;>rfl) ?_
  refine Zu ?_;go_wp2;go_ret;exact⟨cbE c0,HB⟩
 have h0:¬(an:Int)<(vs.length:Int):=by omega
 have i0:Hid (Cl w.drew nb (no+2) (Iq (an:Nat))/\Cl w.drew Cb 1 (.slice ao vs.length cap)/\Cl w.drew nb (no+1) (Iq (lvl:Nat))/\True):=⟨n2,c1,n1,trivial⟩;have c0:Hid ((decide (n.a<vs.length) && Fl.aL p (vs.getD n.a.toNat 0) n.ag)=false):=by
  show _=_;rw[decide_eq_false (show ¬n.a<vs.length by omega),Bool.false_and]
 clear h hn a0 e0 b0 f0 c1 n1 n2 g0
 go_enter func95,ntmps95
 go_wp2_with fail
 refine Zi (λW=>Cl W nb (no+2) (Iq (an:Nat))/\Cl W Cb 1 (.slice ao vs.length cap)/\Cl W nb (no+1) (Iq (lvl:Nat))/\True) [26,27] [] [(10,15)] i0 (by kernel_rfl) (λc a d v w h=>by cases d<;>exact h) (λops ⟨g1,_⟩=>?_)
 iterate 11 refine Zw rfl (by rintro _ ⟨_,_,_,_⟩;go_simp<;>rfl) (by go_simp<;>rfl) ?_
 iterate 15
  refine Ys rfl (c:=false) (by simp[yielded,g1,Act.put]) (by decide) ?_
 refine Zl rfl (c:=false) (by simp[yielded,g1,Act.put]) (by decide) i0 ?_;refine Zl rfl (c:=false) (by simp[yielded,g1,Act.put]) (by decide) i0 ?_
 iterate 2 refine Zw rfl (by rintro _ ⟨_,_,_,_⟩;go_simp<;>rfl) (by go_simp<;>rfl) ?_
 refine Zu ?_;go_wp2;go_ret;exact⟨cbE c0,dA⟩
end
section
variable{nv lv:Value}
def zlx(h:Xy w Cb Pb Lb Rl vv nv hv p vs x)(ro:Nat)(j:Int)(hj:POk p x j)(jn:Nat)(a0:(jn:Int)=j):Cq 129 #[Pq Cb,Iq ro,Iq jn] w λe w'=>e=.returned (.bool (decide (Fl.dw (Fl.nd x j).kind=ro)))/\w'=w.drew:=by
 have e:jn=j.toNat:=by omega
 subst e;exact is_any h ro j.toNat hj.2.1 ⟨hj.2.2.2.2.1,hj.2.2.2.2.2⟩
def zu0(h:Xy w Cb Pb Lb Rl vv nv hv p vs x)(j:Int)(hj:POk p x j)(jn:Nat)(a0:(jn:Int)=j):Cq 130 #[Pq Cb,Iq jn] w λe w'=>e=.returned (Iq (Fl.nd x j).ag)/\w'=w:=by
 have e:jn=j.toNat:=by omega
 subst e;exact yoy h j.toNat hj.2.1
def zl4(h:Xy w Cb Pb Lb Rl vv nv hv p vs x)(bC:Int)(ht:0<=bC/\bC<p.n)(y z:Int)(hy:0<=y/\y<p.n)(hz:0<=z/\z<p.n)(v:Value)(a0:Zv w.heap.size w v [y,z]):Cq 128 #[Pq Cb,Iq bC,v] w λe w'=>e=.returned (.bool (Fl.aL p y bC && Fl.aL p z bC))/\w'=w:=by
 obtain⟨tn,b0⟩:∃tn:Nat,(tn:Int)=bC:=⟨bC.toNat,by omega⟩;have h1:=zl3 h tn (by omega) v [y,z] a0 (by simp) (by intro u hu;simp at hu;rcases hu with rfl|rfl;exact hy;exact hz);rw[b0]at h1;simpa using h1
def zb4(h:Xy w Cb Pb Lb Rl vv nv hv p vs x)(hn:zw6 w nb no n lv)(ha:0<=n.a)(hb:POk p x n.b)(hl:0<=n.ag/\n.ag<p.n)(lvv:Value)(ls:List Int)(n0:Zv w.heap.size w lvv ls)(h0:∀y∈ls,0<=y/\y<p.n)(q0:ls.length<=100):
  Cq 131 #[Pq Cb,.pointer (some (Aq nb no)),lvv] w λe w'=>e=.returned (.bool (Fl.dS p x n ls))/\Bq w w':=by
 obtain⟨an,i0⟩:∃an:Nat,(an:Int)=n.a:=⟨n.a.toNat,by omega⟩;obtain⟨bn,f0⟩:∃bn:Nat,(bn:Int)=n.b:=⟨n.b.toNat,by have:=hb.1;omega⟩;have e0:=hn.hz;obtain⟨ao,cap,rfl,hc,-,b0⟩:=n0;have n1:=hn.c1;have n2:=hn.c2;have n3:=hn.c3;rw[<-i0]at n2;rw[<-f0]at n3
 have o0:(ls.length:Int)<=100:=by omega
 have k0:Hid (∀W,Bq w W->Cq 129 #[Pq Cb,Iq 0,Iq bn] W λe w'=>e=.returned (.bool (decide (Fl.dw (Fl.nd x n.b).kind=0)))/\w'=W.drew):=λW hW=>zlx (h.below hW) 0 n.b hb bn f0;have p0:Hid (∀W,Bq w W->Cq 130 #[Pq Cb,Iq bn] W λe w'=>e=.returned (Iq (Fl.nd x n.b).ag)/\w'=W):=λW hW=>zu0 (h.below hW) n.b hb bn f0
 by_cases g0:an<ls.length
 ·obtain⟨b,off,rfl,hbz,l0⟩:=b0 (by rintro rfl;simp at g0)
  have cy:=l0 an g0;obtain⟨y,hy⟩:=nmE (ls.getD an 0);have m0:0<=y/\y<p.n:=by
   have h1:=h0 ls[an] (List.getElem_mem g0);rw[hy,Qa,Qb g0];exact h1
  rw[<-hy]at cy;have j0:(an:Int)<(ls.length:Int):=(by omega);have HS:Hid (∀W,Bq w W->Cl W nb (no+1) (Iq n.ag)/\Cl W nb (no+2) (Iq (an:Nat))/\Cl W nb (no+3) (Iq (bn:Nat))/\Cl W b (off+an) (Iq y)/\True):=λW hW=>⟨(hW.cell (p:=(Aq nb (no+1))) e0).trans n1,(hW.cell (p:=(Aq nb (no+2))) e0).trans n2,(hW.cell (p:=(Aq nb (no+3))) e0).trans n3,(hW.cell (p:=(Aq b (off+an))) hbz).trans cy,trivial⟩;have HU:Hid (∀W v,Bq w W->Zv W.heap.size W v [(Fl.nd x n.b).ag,n.ag]->Cq 128 #[Pq Cb,Iq y,v] W λe w'=>e=.returned (.bool (Fl.aL p (Fl.nd x n.b).ag y && Fl.aL p n.ag y))/\w'=W):=λW v hW hv2=>zl4 (h.below hW) y m0 _ _ ⟨hb.2.2.1,hb.2.2.2.1⟩ hl v hv2;have a0:Hid (Fl.dS p x n ls=(decide (Fl.dw (Fl.nd x n.b).kind=0) && (Fl.aL p (Fl.nd x n.b).ag y && Fl.aL p n.ag y))):=by
   show _=_;unfold Fl.dS;rw[decide_eq_true (show n.a<ls.length by omega),Bool.true_and,hy,show n.a.toNat=an by omega]
  generalize decide (Fl.dw (Fl.nd x n.b).kind=0)=isv at*;generalize (Fl.aL p (Fl.nd x n.b).ag y && Fl.aL p n.ag y)=un at*;generalize (Fl.nd x n.b).ag=lb at*;obtain⟨aV,c0⟩:=nmE (Fl.dS p x n ls);rw[<-c0]at a0⊢;clear h hn b0 l0 h0 hy m0 i0 n1 n2 n3 cy hb f0 c0
  cases isv with
  |true=>
   go_enter func131,ntmps131
   go_wp2_with fail
   refine Yj HS (dA) [(0,0),(0,1),(0,2),(0,3),(0,4),(0,5),(0,6),(0,7),(0,8),(0,9),(0,10),(0,11),(0,12),(1,13),(0,14),(0,15),(0,16),(0,17),(0,18),(0,19),(0,20),(0,21),(0,22),(0,23),(0,24),(0,25),(0,26),(0,27),(0,28),(0,30),(0,31),(0,32),(0,33),(1,29),(1,34),(1,35),(0,36),(0,37)] [] [(7,14),(15,22)] (by kernel_rfl) (λc a d v w h=>by cases d<;>exact h) (λops ⟨g1,g2,_⟩=>?_)
   iterate 13 refine Zw (by first|rfl|simp[Region.wanted,yielded,g1,Act.put]) (by rintro _ ⟨_,_,_,_,_⟩;go_simp<;>rfl) (by go_simp<;>rfl) ?_
   refine Yz (by simp[Region.wanted,yielded,g1,Act.put]) ?_
   go_wp2_with fail
   refine(k0 _ (dA)).mono ?_;rintro e W1 ⟨rfl,d0⟩;rw[d0];clear d0 W1
   go_wp2_with fail
   refine⟨HS _ (dA.drew),?_⟩
   iterate 19 refine Zw (by first|rfl|simp[Region.wanted,yielded,g2,Act.put]) (by rintro _ ⟨_,_,_,_,_⟩;go_simp<;>rfl) (by go_simp<;>rfl) ?_
   refine Yz (by simp[Region.wanted,yielded,g2,Act.put]) ?_
   go_wp2_with fail
   refine(p0 _ (dA.drew)).mono ?_;rintro e W1 ⟨rfl,d0⟩;rw[d0];clear d0 W1
   go_wp2_with fail
   refine⟨HS _ (dA.drew),?_⟩;refine Yz (by simp[Region.wanted,yielded,g2,Act.put]) ?_
   go_wp2_with fail
   refine⟨HS _ ((bA).drew.drew),?_⟩;refine Yz (by simp[Region.wanted,yielded,g2,Act.put]) ?_
   go_wp2_with fail
   refine(HU _ _ ((bA).drew.drew) (zi4 w _ _)).mono ?_;rintro e W1 ⟨rfl,d0⟩;rw[d0];clear d0 W1
   go_wp2_with fail
   refine⟨HS _ ((bA).drew.drew),?_⟩
   iterate 2 refine Zw rfl (by rintro _ ⟨_,_,_,_,_⟩;go_simp<;>rfl) (by go_simp<;>rfl) ?_
   refine Zu ?_;go_wp2;go_ret;exact⟨cbE a0,(bA).drew.drew⟩
  |false=>
   go_enter func131,ntmps131
   go_wp2_with fail
   refine Yj HS (dA) [(0,0),(0,1),(0,2),(0,3),(0,4),(0,5),(0,6),(0,7),(0,8),(0,9),(0,10),(0,11),(0,12),(1,13),(0,14),(0,15),(0,16),(0,17),(0,18),(0,19),(0,20),(0,21),(0,22),(0,23),(0,24),(0,25),(0,26),(0,27),(0,28),(0,30),(0,31),(0,32),(0,33),(1,29),(1,34),(1,35),(0,36),(0,37)] [] [(7,14),(15,22)] (by kernel_rfl) (λc a d v w h=>by cases d<;>exact h) (λops ⟨g1,g2,_⟩=>?_)
   iterate 13 refine Zw (by first|rfl|simp[Region.wanted,yielded,g1,Act.put]) (by rintro _ ⟨_,_,_,_,_⟩;go_simp<;>rfl) (by go_simp<;>rfl) ?_
   refine Yz (by simp[Region.wanted,yielded,g1,Act.put]) ?_
   go_wp2_with fail
   refine(k0 _ (dA)).mono ?_;rintro e W1 ⟨rfl,d0⟩;rw[d0];clear d0 W1
   go_wp2_with fail
   refine⟨HS _ (dA.drew),?_⟩
   iterate 2 refine Zw rfl (by rintro _ ⟨_,_,_,_,_⟩;go_simp<;>rfl) (by go_simp<;>rfl) ?_
   iterate 17
    refine Ys rfl (c:=false) (by simp[yielded,g2,Act.put]) (by decide) ?_
   refine Zl rfl (c:=false) (by simp[yielded,g2,Act.put]) (by decide) (HS _ dA.drew) ?_;refine Zl rfl (c:=false) (by simp[yielded,g2,Act.put]) (by decide) (HS _ dA.drew) ?_;refine Zl rfl (c:=false) (by simp[yielded,g2,Act.put]) (by decide) (HS _ dA.drew) ?_
   iterate 2 refine Zw rfl (by rintro _ ⟨_,_,_,_,_⟩;go_simp<;>rfl) (by go_simp<;>rfl) ?_
   refine Zu ?_;go_wp2;go_ret;exact⟨cbE a0,dA.drew⟩
 have j0:¬(an:Int)<(ls.length:Int):=by omega
 have HS:Hid (∀W,Bq w W->Cl W nb (no+1) (Iq n.ag)/\Cl W nb (no+2) (Iq (an:Nat))/\Cl W nb (no+3) (Iq (bn:Nat))/\True/\True):=λW hW=>⟨(hW.cell (p:=(Aq nb (no+1))) e0).trans n1,(hW.cell (p:=(Aq nb (no+2))) e0).trans n2,(hW.cell (p:=(Aq nb (no+3))) e0).trans n3,trivial,trivial⟩;have a0:Hid (Fl.dS p x n ls=false):=by
  show _=_;unfold Fl.dS;rw[decide_eq_false (show ¬n.a<ls.length by omega),Bool.false_and]
 obtain⟨aV,c0⟩:=nmE (Fl.dS p x n ls);rw[<-c0]at a0⊢;clear h hn b0 h0 i0 n1 n2 n3 hb f0 c0
 go_enter func131,ntmps131
 go_wp2_with fail
 refine Yj HS (dA) [(0,0),(0,1),(0,2),(0,3),(0,4),(0,5),(0,6),(0,7),(0,8),(0,9),(0,10),(0,11),(0,12),(1,13),(0,14),(0,15),(0,16),(0,17),(0,18),(0,19),(0,20),(0,21),(0,22),(0,23),(0,24),(0,25),(0,26),(0,27),(0,28),(0,30),(0,31),(0,32),(0,33),(1,29),(1,34),(1,35),(0,36),(0,37)] [] [(7,14),(15,22)] (by kernel_rfl) (λc a d v w h=>by cases d<;>exact h) (λops ⟨g1,g2,_⟩=>?_)
 iterate 8 refine Zw rfl (by rintro _ ⟨_,_,_,_,_⟩;go_simp<;>rfl) (by go_simp<;>rfl) ?_
 iterate 5
  refine Ys rfl (c:=false) (by simp[yielded,g1,Act.put]) (by decide) ?_
 refine Zl rfl (c:=false) (by simp[yielded,g1,Act.put]) (by decide) (HS _ dA) ?_
 iterate 2 refine Zw rfl (by rintro _ ⟨_,_,_,_,_⟩;go_simp<;>rfl) (by go_simp<;>rfl) ?_
 iterate 17
  refine Ys rfl (c:=false) (by simp[yielded,g2,Act.put]) (by decide) ?_
 refine Zl rfl (c:=false) (by simp[yielded,g2,Act.put]) (by decide) (HS _ dA) ?_;refine Zl rfl (c:=false) (by simp[yielded,g2,Act.put]) (by decide) (HS _ dA) ?_;refine Zl rfl (c:=false) (by simp[yielded,g2,Act.put]) (by decide) (HS _ dA) ?_
 iterate 2 refine Zw rfl (by rintro _ ⟨_,_,_,_,_⟩;go_simp<;>rfl) (by go_simp<;>rfl) ?_
 refine Zu ?_;go_wp2;go_ret;exact⟨cbE a0,dA⟩
end
section
variable{nv lv:Value}
def zoy(h:Xy w Cb Pb Lb Rl vv nv hv p vs x)(hn:zw6 w nb no n lv)(ha:POk p x n.a)(within:Int)(hw:POk p x within)(hl:0<=n.ag/\n.ag<p.n):
  Cq 132 #[Pq Cb,.pointer (some (Aq nb no)),Iq within] w λe w'=>e=.returned (.bool (Fl.cJ p x n within))/\Bq w w':=by
 obtain⟨an,d0⟩:∃an:Nat,(an:Int)=n.a:=⟨n.a.toNat,by have:=ha.1;omega⟩;obtain⟨wn,e0⟩:∃wn:Nat,(wn:Int)=within:=⟨within.toNat,by have:=hw.1;omega⟩;have g0:=hn.hz;have n1:=hn.c1;have n2:=hn.c2;rw[<-d0]at n2;have f0:Hid (∀W,Bq w W->Cq 129 #[Pq Cb,Iq 0,Iq an] W λe w'=>e=.returned (.bool (decide (Fl.dw (Fl.nd x n.a).kind=0)))/\w'=W.drew):=λW hW=>zlx (h.below hW) 0 n.a ha an d0;have h0:Hid (∀W,Bq w W->Cq 129 #[Pq Cb,Iq 2,Iq wn] W λe w'=>e=.returned (.bool (decide (Fl.dw (Fl.nd x within).kind=2)))/\w'=W.drew):=λW hW=>zlx (h.below hW) 2 within hw wn e0;have i0:Hid (∀W,Bq w W->Cq 130 #[Pq Cb,Iq an] W λe w'=>e=.returned (Iq (Fl.nd x n.a).ag)/\w'=W):=λW hW=>zu0 (h.below hW) n.a ha an d0;have j0:Hid (∀W,Bq w W->Cq 130 #[Pq Cb,Iq wn] W λe w'=>e=.returned (Iq (Fl.nd x within).ag)/\w'=W):=λW hW=>zu0 (h.below hW) within hw wn e0;have HS:Hid (∀W,Bq w W->Cl W nb (no+1) (Iq n.ag)/\Cl W nb (no+2) (Iq (an:Nat))/\True/\True/\True):=λW hW=>⟨(hW.cell (p:=(Aq nb (no+1))) g0).trans n1,(hW.cell (p:=(Aq nb (no+2))) g0).trans n2,trivial,trivial,trivial⟩;have HU:Hid (∀W v,Bq w W->Zv W.heap.size W v [(Fl.nd x n.a).ag,n.ag]->Cq 128 #[Pq Cb,Iq (Fl.nd x within).ag,v] W λe w'=>e=.returned (.bool (Fl.aL p (Fl.nd x n.a).ag (Fl.nd x within).ag && Fl.aL p n.ag (Fl.nd x within).ag))/\w'=W):=λW v hW hv2=>zl4 (h.below hW) _ ⟨hw.2.2.1,hw.2.2.2.1⟩ _ _ ⟨ha.2.2.1,ha.2.2.2.1⟩ hl v hv2;have b0:Hid (Fl.cJ p x n within=(decide (Fl.dw (Fl.nd x n.a).kind=0) && (decide (Fl.dw (Fl.nd x within).kind=2) && (Fl.aL p (Fl.nd x n.a).ag (Fl.nd x within).ag && Fl.aL p n.ag (Fl.nd x within).ag)))):=rfl;generalize decide (Fl.dw (Fl.nd x n.a).kind=0)=isa at*;generalize decide (Fl.dw (Fl.nd x within).kind=2)=isw at*;generalize (Fl.aL p (Fl.nd x n.a).ag (Fl.nd x within).ag && Fl.aL p n.ag (Fl.nd x within).ag)=un at*;generalize (Fl.nd x n.a).ag=la at*;generalize (Fl.nd x within).ag=lw at*;obtain⟨aV,c0⟩:=nmE (Fl.cJ p x n within);rw[<-c0]at b0⊢;rw[<-e0];clear h hn d0 n1 n2 ha hw e0 c0
 cases isa with
 |true=>
  cases isw with
  |true=>
   go_enter func132,ntmps132
   go_wp2_with fail
   refine Yj HS (dA) [(0,0),(0,1),(0,2),(0,3),(0,4),(1,5),(0,6),(0,7),(0,8),(1,9),(0,10),(0,11),(0,12),(0,13),(0,14),(0,16),(0,17),(0,18),(0,19),(0,20),(0,22),(0,23),(0,24),(0,25),(1,15),(1,21),(1,26),(1,27),(0,28),(0,29)] [] [(6,13),(11,18)] (by kernel_rfl) (λc a d v w h=>by cases d<;>exact h) (λops ⟨g1,g2,_⟩=>?_)
   iterate 5 refine Zw rfl (by rintro _ ⟨_,_,_,_,_⟩;go_simp<;>rfl) (by go_simp<;>rfl) ?_
   refine Zt ?_
   go_wp2_with fail
   refine(f0 _ (dA)).mono ?_;rintro e W1 ⟨rfl,a0⟩;rw[a0];clear a0 W1
   go_wp2_with fail
   refine⟨HS _ (dA.drew),?_⟩
   iterate 3 refine Zw (by first|rfl|simp[Region.wanted,yielded,g1,Act.put]) (by rintro _ ⟨_,_,_,_,_⟩;go_simp<;>rfl) (by go_simp<;>rfl) ?_
   refine Yz (by simp[Region.wanted,yielded,g1,Act.put]) ?_
   go_wp2_with fail
   refine(h0 _ (dA.drew)).mono ?_;rintro e W1 ⟨rfl,a0⟩;rw[a0];clear a0 W1
   go_wp2_with fail
   refine⟨HS _ (dA.drew.drew),?_⟩
   iterate 14 refine Zw (by first|rfl|simp[Region.wanted,yielded,g2,Act.put]) (by rintro _ ⟨_,_,_,_,_⟩;go_simp<;>rfl) (by go_simp<;>rfl) ?_
   refine Yz (by simp[Region.wanted,yielded,g2,Act.put]) ?_
   go_wp2_with fail
   refine(j0 _ (dA.drew.drew)).mono ?_;rintro e W1 ⟨rfl,a0⟩;rw[a0];clear a0 W1
   go_wp2_with fail
   refine⟨HS _ (dA.drew.drew),?_⟩;refine Yz (by simp[Region.wanted,yielded,g2,Act.put]) ?_
   go_wp2_with fail
   refine(i0 _ (dA.drew.drew)).mono ?_;rintro e W1 ⟨rfl,a0⟩;rw[a0];clear a0 W1
   go_wp2_with fail
   refine⟨HS _ (dA.drew.drew),?_⟩;refine Yz (by simp[Region.wanted,yielded,g2,Act.put]) ?_
   go_wp2_with fail
   refine⟨HS _ ((bA).drew.drew.drew),?_⟩;refine Yz (by simp[Region.wanted,yielded,g2,Act.put]) ?_
   go_wp2_with fail
   refine(HU _ _ ((bA).drew.drew.drew) (zi4 w _ _)).mono ?_;rintro e W1 ⟨rfl,a0⟩;rw[a0];clear a0 W1
   go_wp2_with fail
   refine⟨HS _ ((bA).drew.drew.drew),?_⟩
   iterate 2 refine Zw rfl (by rintro _ ⟨_,_,_,_,_⟩;go_simp<;>rfl) (by go_simp<;>rfl) ?_
   refine Zu ?_;go_wp2;go_ret;exact⟨cbE b0,(bA).drew.drew.drew⟩
  |false=>
   go_enter func132,ntmps132
   go_wp2_with fail
   refine Yj HS (dA) [(0,0),(0,1),(0,2),(0,3),(0,4),(1,5),(0,6),(0,7),(0,8),(1,9),(0,10),(0,11),(0,12),(0,13),(0,14),(0,16),(0,17),(0,18),(0,19),(0,20),(0,22),(0,23),(0,24),(0,25),(1,15),(1,21),(1,26),(1,27),(0,28),(0,29)] [] [(6,13),(11,18)] (by kernel_rfl) (λc a d v w h=>by cases d<;>exact h) (λops ⟨g1,g2,_⟩=>?_)
   iterate 5 refine Zw rfl (by rintro _ ⟨_,_,_,_,_⟩;go_simp<;>rfl) (by go_simp<;>rfl) ?_
   refine Zt ?_
   go_wp2_with fail
   refine(f0 _ (dA)).mono ?_;rintro e W1 ⟨rfl,a0⟩;rw[a0];clear a0 W1
   go_wp2_with fail
   refine⟨HS _ (dA.drew),?_⟩
   iterate 3 refine Zw (by first|rfl|simp[Region.wanted,yielded,g1,Act.put]) (by rintro _ ⟨_,_,_,_,_⟩;go_simp<;>rfl) (by go_simp<;>rfl) ?_
   refine Yz (by simp[Region.wanted,yielded,g1,Act.put]) ?_
   go_wp2_with fail
   refine(h0 _ (dA.drew)).mono ?_;rintro e W1 ⟨rfl,a0⟩;rw[a0];clear a0 W1
   go_wp2_with fail
   refine⟨HS _ (dA.drew.drew),?_⟩
   iterate 2 refine Zw rfl (by rintro _ ⟨_,_,_,_,_⟩;go_simp<;>rfl) (by go_simp<;>rfl) ?_
   iterate 12
    refine Ys rfl (c:=false) (by simp[yielded,g2,Act.put]) (by decide) ?_
   refine Zl rfl (c:=false) (by simp[yielded,g2,Act.put]) (by decide) (HS _ dA.drew.drew) ?_;refine Zl rfl (c:=false) (by simp[yielded,g2,Act.put]) (by decide) (HS _ dA.drew.drew) ?_;refine Zl rfl (c:=false) (by simp[yielded,g2,Act.put]) (by decide) (HS _ dA.drew.drew) ?_;refine Zl rfl (c:=false) (by simp[yielded,g2,Act.put]) (by decide) (HS _ dA.drew.drew) ?_
   iterate 2 refine Zw rfl (by rintro _ ⟨_,_,_,_,_⟩;go_simp<;>rfl) (by go_simp<;>rfl) ?_
   refine Zu ?_;go_wp2;go_ret;exact⟨cbE b0,dA.drew.drew⟩
 |false=>
  go_enter func132,ntmps132
  go_wp2_with fail
  refine Yj HS (dA) [(0,0),(0,1),(0,2),(0,3),(0,4),(1,5),(0,6),(0,7),(0,8),(1,9),(0,10),(0,11),(0,12),(0,13),(0,14),(0,16),(0,17),(0,18),(0,19),(0,20),(0,22),(0,23),(0,24),(0,25),(1,15),(1,21),(1,26),(1,27),(0,28),(0,29)] [] [(6,13),(11,18)] (by kernel_rfl) (λc a d v w h=>by cases d<;>exact h) (λops ⟨g1,g2,_⟩=>?_)
  iterate 5 refine Zw rfl (by rintro _ ⟨_,_,_,_,_⟩;go_simp<;>rfl) (by go_simp<;>rfl) ?_
  refine Zt ?_
  go_wp2_with fail
  refine(f0 _ (dA)).mono ?_;rintro e W1 ⟨rfl,a0⟩;rw[a0];clear a0 W1
  go_wp2_with fail
  refine⟨HS _ (dA.drew),?_⟩;refine Zw rfl (by rintro _ ⟨_,_,_,_,_⟩;go_simp<;>rfl) (by go_simp<;>rfl) ?_
  iterate 2
   refine Ys rfl (c:=false) (by simp[yielded,g1,Act.put]) (by decide) ?_
  refine Zl rfl (c:=false) (by simp[yielded,g1,Act.put]) (by decide) (HS _ dA.drew) ?_
  iterate 2 refine Zw rfl (by rintro _ ⟨_,_,_,_,_⟩;go_simp<;>rfl) (by go_simp<;>rfl) ?_
  iterate 12
   refine Ys rfl (c:=false) (by simp[yielded,g2,Act.put]) (by decide) ?_
  refine Zl rfl (c:=false) (by simp[yielded,g2,Act.put]) (by decide) (HS _ dA.drew) ?_;refine Zl rfl (c:=false) (by simp[yielded,g2,Act.put]) (by decide) (HS _ dA.drew) ?_;refine Zl rfl (c:=false) (by simp[yielded,g2,Act.put]) (by decide) (HS _ dA.drew) ?_;refine Zl rfl (c:=false) (by simp[yielded,g2,Act.put]) (by decide) (HS _ dA.drew) ?_
  iterate 2 refine Zw rfl (by rintro _ ⟨_,_,_,_,_⟩;go_simp<;>rfl) (by go_simp<;>rfl) ?_
  refine Zu ?_;go_wp2;go_ret;exact⟨cbE b0,dA.drew⟩
def za5(h:Xy w Cb Pb Lb Rl vv nv hv p vs x)(hn:zw6 w nb no n lv)(hb:POk p x n.b)(hc:POk p x n.c)(hl:0<=n.ag/\n.ag<p.n):
  Cq 96 #[Pq Cb,.pointer (some (Aq nb no))] w λe w'=>e=.returned (.bool (decide (n.a<5) && (decide (Fl.dw (Fl.nd x n.b).kind=0) && (decide (Fl.dw (Fl.nd x n.c).kind=0) && (Fl.aL p (Fl.nd x n.b).ag n.ag && Fl.aL p (Fl.nd x n.c).ag n.ag)))))/\Bq w w':=by
 obtain⟨bn,c0⟩:∃bn:Nat,(bn:Int)=n.b:=⟨n.b.toNat,by have:=hb.1;omega⟩;obtain⟨cn,d0⟩:∃cn:Nat,(cn:Int)=n.c:=⟨n.c.toNat,by have:=hc.1;omega⟩;have e0:=hn.hz;have n1:=hn.c1;have n2:=hn.c2;have n3:=hn.c3;have n4:=hn.c4;rw[<-c0]at n3;rw[<-d0]at n4;have f0:Hid (∀W,Bq w W->Cq 129 #[Pq Cb,Iq 0,Iq bn] W λe w'=>e=.returned (.bool (decide (Fl.dw (Fl.nd x n.b).kind=0)))/\w'=W.drew):=λW hW=>zlx (h.below hW) 0 n.b hb bn c0;have g0:Hid (∀W,Bq w W->Cq 129 #[Pq Cb,Iq 0,Iq cn] W λe w'=>e=.returned (.bool (decide (Fl.dw (Fl.nd x n.c).kind=0)))/\w'=W.drew):=λW hW=>zlx (h.below hW) 0 n.c hc cn d0;have h0:Hid (∀W,Bq w W->Cq 130 #[Pq Cb,Iq bn] W λe w'=>e=.returned (Iq (Fl.nd x n.b).ag)/\w'=W):=λW hW=>zu0 (h.below hW) n.b hb bn c0;have i0:Hid (∀W,Bq w W->Cq 130 #[Pq Cb,Iq cn] W λe w'=>e=.returned (Iq (Fl.nd x n.c).ag)/\w'=W):=λW hW=>zu0 (h.below hW) n.c hc cn d0;have HS:Hid (∀W,Bq w W->Cl W nb (no+1) (Iq n.ag)/\Cl W nb (no+2) (Iq n.a)/\Cl W nb (no+3) (Iq (bn:Nat))/\Cl W nb (no+4) (Iq (cn:Nat))/\True):=λW hW=>⟨(hW.cell (p:=(Aq nb (no+1))) e0).trans n1,(hW.cell (p:=(Aq nb (no+2))) e0).trans n2,(hW.cell (p:=(Aq nb (no+3))) e0).trans n3,(hW.cell (p:=(Aq nb (no+4))) e0).trans n4,trivial⟩;have HU:Hid (∀W v,Bq w W->Zv W.heap.size W v [(Fl.nd x n.b).ag,(Fl.nd x n.c).ag]->Cq 128 #[Pq Cb,Iq n.ag,v] W λe w'=>e=.returned (.bool (Fl.aL p (Fl.nd x n.b).ag n.ag && Fl.aL p (Fl.nd x n.c).ag n.ag))/\w'=W):=λW v hW hv2=>zl4 (h.below hW) _ hl _ _ ⟨hb.2.2.1,hb.2.2.2.1⟩ ⟨hc.2.2.1,hc.2.2.2.1⟩ v hv2;generalize decide (Fl.dw (Fl.nd x n.b).kind=0)=isa at*;generalize decide (Fl.dw (Fl.nd x n.c).kind=0)=isw at*;generalize (Fl.aL p (Fl.nd x n.b).ag n.ag && Fl.aL p (Fl.nd x n.c).ag n.ag)=un at*;generalize (Fl.nd x n.b).ag=la at*;generalize (Fl.nd x n.c).ag=lw at*;clear h hn n1 n2 n3 n4 hb hc c0 d0
 by_cases h5:n.a<5
 ·have b0:Hid ((decide (n.a<5) && (isa && (isw && un)))=(isa && (isw && un))):=by show _=_;rw[decide_eq_true h5,Bool.true_and]
  cases isa with
  |true=>
   cases isw with
   |true=>
    go_enter func96,ntmps96
    go_wp2_with fail
    refine Yj HS (dA) [(0,0),(0,1),(0,2),(0,3),(0,4),(0,5),(0,6),(0,7),(0,8),(0,9),(0,10),(1,11),(0,12),(0,13),(0,14),(0,15),(0,16),(0,17),(0,18),(1,19),(0,20),(0,21),(0,22),(0,23),(0,24),(0,25),(0,26),(0,27),(0,28),(0,29),(0,30),(0,31),(0,33),(0,34),(0,35),(0,36),(0,37),(1,32),(1,38),(1,39),(1,40),(0,41),(0,42)] [] [(5,10),(13,18),(21,26)] (by kernel_rfl) (λc a d v w h=>by cases d<;>exact h) (λops ⟨g1,g2,g3,_⟩=>?_)
    iterate 11 refine Zw (by first|rfl|simp[Region.wanted,yielded,g1,Act.put]) (by rintro _ ⟨_,_,_,_,_⟩;go_simp<;>rfl) (by go_simp<;>rfl) ?_
    refine Yz (by simp[Region.wanted,yielded,g1,Act.put]) ?_
    go_wp2_with fail
    refine(f0 _ (dA)).mono ?_;rintro e W1 ⟨rfl,a0⟩;rw[a0];clear a0 W1
    go_wp2_with fail
    refine⟨HS _ (dA.drew),?_⟩
    iterate 7 refine Zw (by first|rfl|simp[Region.wanted,yielded,g2,Act.put]) (by rintro _ ⟨_,_,_,_,_⟩;go_simp<;>rfl) (by go_simp<;>rfl) ?_
    refine Yz (by simp[Region.wanted,yielded,g2,Act.put]) ?_
    go_wp2_with fail
    refine(g0 _ (dA.drew)).mono ?_;rintro e W1 ⟨rfl,a0⟩;rw[a0];clear a0 W1
    go_wp2_with fail
    refine⟨HS _ (dA.drew.drew),?_⟩
    iterate 17 refine Zw (by first|rfl|simp[Region.wanted,yielded,g3,Act.put]) (by rintro _ ⟨_,_,_,_,_⟩;go_simp<;>rfl) (by go_simp<;>rfl) ?_
    refine Yz (by simp[Region.wanted,yielded,g3,Act.put]) ?_
    go_wp2_with fail
    refine(h0 _ (dA.drew.drew)).mono ?_;rintro e W1 ⟨rfl,a0⟩;rw[a0];clear a0 W1
    go_wp2_with fail
    refine⟨HS _ (dA.drew.drew),?_⟩;refine Yz (by simp[Region.wanted,yielded,g3,Act.put]) ?_
    go_wp2_with fail
    refine(i0 _ (dA.drew.drew)).mono ?_;rintro e W1 ⟨rfl,a0⟩;rw[a0];clear a0 W1
    go_wp2_with fail
    refine⟨HS _ (dA.drew.drew),?_⟩;refine Yz (by simp[Region.wanted,yielded,g3,Act.put]) ?_
    go_wp2_with fail
    refine⟨HS _ ((bA).drew.drew.drew),?_⟩;refine Yz (by simp[Region.wanted,yielded,g3,Act.put]) ?_
    go_wp2_with fail
    refine(HU _ _ ((bA).drew.drew.drew) (zi4 w _ _)).mono ?_;rintro e W1 ⟨rfl,a0⟩;rw[a0];clear a0 W1
    go_wp2_with fail
    refine⟨HS _ ((bA).drew.drew.drew),?_⟩
    iterate 2 refine Zw rfl (by rintro _ ⟨_,_,_,_,_⟩;go_simp<;>rfl) (by go_simp<;>rfl) ?_
    refine Zu ?_;go_wp2;go_ret;exact⟨cbE b0,(bA).drew.drew.drew⟩
   |false=>
    go_enter func96,ntmps96
    go_wp2_with fail
    refine Yj HS (dA) [(0,0),(0,1),(0,2),(0,3),(0,4),(0,5),(0,6),(0,7),(0,8),(0,9),(0,10),(1,11),(0,12),(0,13),(0,14),(0,15),(0,16),(0,17),(0,18),(1,19),(0,20),(0,21),(0,22),(0,23),(0,24),(0,25),(0,26),(0,27),(0,28),(0,29),(0,30),(0,31),(0,33),(0,34),(0,35),(0,36),(0,37),(1,32),(1,38),(1,39),(1,40),(0,41),(0,42)] [] [(5,10),(13,18),(21,26)] (by kernel_rfl) (λc a d v w h=>by cases d<;>exact h) (λops ⟨g1,g2,g3,_⟩=>?_)
    iterate 11 refine Zw (by first|rfl|simp[Region.wanted,yielded,g1,Act.put]) (by rintro _ ⟨_,_,_,_,_⟩;go_simp<;>rfl) (by go_simp<;>rfl) ?_
    refine Yz (by simp[Region.wanted,yielded,g1,Act.put]) ?_
    go_wp2_with fail
    refine(f0 _ (dA)).mono ?_;rintro e W1 ⟨rfl,a0⟩;rw[a0];clear a0 W1
    go_wp2_with fail
    refine⟨HS _ (dA.drew),?_⟩
    iterate 7 refine Zw (by first|rfl|simp[Region.wanted,yielded,g2,Act.put]) (by rintro _ ⟨_,_,_,_,_⟩;go_simp<;>rfl) (by go_simp<;>rfl) ?_
    refine Yz (by simp[Region.wanted,yielded,g2,Act.put]) ?_
    go_wp2_with fail
    refine(g0 _ (dA.drew)).mono ?_;rintro e W1 ⟨rfl,a0⟩;rw[a0];clear a0 W1
    go_wp2_with fail
    refine⟨HS _ (dA.drew.drew),?_⟩
    iterate 2 refine Zw rfl (by rintro _ ⟨_,_,_,_,_⟩;go_simp<;>rfl) (by go_simp<;>rfl) ?_
    iterate 15
     refine Ys rfl (c:=false) (by simp[yielded,g3,Act.put]) (by decide) ?_
    refine Zl rfl (c:=false) (by simp[yielded,g3,Act.put]) (by decide) (HS _ dA.drew.drew) ?_;refine Zl rfl (c:=false) (by simp[yielded,g3,Act.put]) (by decide) (HS _ dA.drew.drew) ?_;refine Zl rfl (c:=false) (by simp[yielded,g3,Act.put]) (by decide) (HS _ dA.drew.drew) ?_;refine Zl rfl (c:=false) (by simp[yielded,g3,Act.put]) (by decide) (HS _ dA.drew.drew) ?_
    iterate 2 refine Zw rfl (by rintro _ ⟨_,_,_,_,_⟩;go_simp<;>rfl) (by go_simp<;>rfl) ?_
    refine Zu ?_;go_wp2;go_ret;exact⟨cbE b0,dA.drew.drew⟩
  |false=>
   go_enter func96,ntmps96
   go_wp2_with fail
   refine Yj HS (dA) [(0,0),(0,1),(0,2),(0,3),(0,4),(0,5),(0,6),(0,7),(0,8),(0,9),(0,10),(1,11),(0,12),(0,13),(0,14),(0,15),(0,16),(0,17),(0,18),(1,19),(0,20),(0,21),(0,22),(0,23),(0,24),(0,25),(0,26),(0,27),(0,28),(0,29),(0,30),(0,31),(0,33),(0,34),(0,35),(0,36),(0,37),(1,32),(1,38),(1,39),(1,40),(0,41),(0,42)] [] [(5,10),(13,18),(21,26)] (by kernel_rfl) (λc a d v w h=>by cases d<;>exact h) (λops ⟨g1,g2,g3,_⟩=>?_)
   iterate 11 refine Zw (by first|rfl|simp[Region.wanted,yielded,g1,Act.put]) (by rintro _ ⟨_,_,_,_,_⟩;go_simp<;>rfl) (by go_simp<;>rfl) ?_
   refine Yz (by simp[Region.wanted,yielded,g1,Act.put]) ?_
   go_wp2_with fail
   refine(f0 _ (dA)).mono ?_;rintro e W1 ⟨rfl,a0⟩;rw[a0];clear a0 W1
   go_wp2_with fail
   refine⟨HS _ (dA.drew),?_⟩
   iterate 2 refine Zw rfl (by rintro _ ⟨_,_,_,_,_⟩;go_simp<;>rfl) (by go_simp<;>rfl) ?_
   iterate 5
    refine Ys rfl (c:=false) (by simp[yielded,g2,Act.put]) (by decide) ?_
   refine Zl rfl (c:=false) (by simp[yielded,g2,Act.put]) (by decide) (HS _ dA.drew) ?_
   iterate 2 refine Zw rfl (by rintro _ ⟨_,_,_,_,_⟩;go_simp<;>rfl) (by go_simp<;>rfl) ?_
   iterate 15
    refine Ys rfl (c:=false) (by simp[yielded,g3,Act.put]) (by decide) ?_
   refine Zl rfl (c:=false) (by simp[yielded,g3,Act.put]) (by decide) (HS _ dA.drew) ?_;refine Zl rfl (c:=false) (by simp[yielded,g3,Act.put]) (by decide) (HS _ dA.drew) ?_;refine Zl rfl (c:=false) (by simp[yielded,g3,Act.put]) (by decide) (HS _ dA.drew) ?_;refine Zl rfl (c:=false) (by simp[yielded,g3,Act.put]) (by decide) (HS _ dA.drew) ?_
   iterate 2 refine Zw rfl (by rintro _ ⟨_,_,_,_,_⟩;go_simp<;>rfl) (by go_simp<;>rfl) ?_
   refine Zu ?_;go_wp2;go_ret;exact⟨cbE b0,dA.drew⟩
 have b0:Hid ((decide (n.a<5) && (isa && (isw && un)))=false):=by show _=_;rw[decide_eq_false h5,Bool.false_and]
 have d5:(n.a<5)=False:=eq_false h5;clear h5
 go_enter func96,ntmps96
 go_wp2_with fail
 refine Yj HS (dA) [(0,0),(0,1),(0,2),(0,3),(0,4),(0,5),(0,6),(0,7),(0,8),(0,9),(0,10),(1,11),(0,12),(0,13),(0,14),(0,15),(0,16),(0,17),(0,18),(1,19),(0,20),(0,21),(0,22),(0,23),(0,24),(0,25),(0,26),(0,27),(0,28),(0,29),(0,30),(0,31),(0,33),(0,34),(0,35),(0,36),(0,37),(1,32),(1,38),(1,39),(1,40),(0,41),(0,42)] [] [(5,10),(13,18),(21,26)] (by kernel_rfl) (λc a d v w h=>by cases d<;>exact h) (λops ⟨g1,g2,g3,_⟩=>?_)
 iterate 6 refine Zw rfl (by rintro _ ⟨_,_,_,_,_⟩;go_simp<;>rfl) (by go_simp<;>rfl) ?_
 iterate 5
  refine Ys rfl (c:=false) (by simp[yielded,g1,Act.put,d5]) (by decide) ?_
 refine Zl rfl (c:=false) (by simp[yielded,g1,Act.put,d5]) (by decide) (HS _ dA) ?_
 iterate 2 refine Zw rfl (by rintro _ ⟨_,_,_,_,_⟩;go_simp<;>rfl) (by go_simp<;>rfl) ?_
 iterate 5
  refine Ys rfl (c:=false) (by simp[yielded,g2,Act.put,d5]) (by decide) ?_
 refine Zl rfl (c:=false) (by simp[yielded,g2,Act.put,d5]) (by decide) (HS _ dA) ?_
 iterate 2 refine Zw rfl (by rintro _ ⟨_,_,_,_,_⟩;go_simp<;>rfl) (by go_simp<;>rfl) ?_
 iterate 15
  refine Ys rfl (c:=false) (by simp[yielded,g3,Act.put,d5]) (by decide) ?_
 refine Zl rfl (c:=false) (by simp[yielded,g3,Act.put,d5]) (by decide) (HS _ dA) ?_;refine Zl rfl (c:=false) (by simp[yielded,g3,Act.put,d5]) (by decide) (HS _ dA) ?_;refine Zl rfl (c:=false) (by simp[yielded,g3,Act.put,d5]) (by decide) (HS _ dA) ?_;refine Zl rfl (c:=false) (by simp[yielded,g3,Act.put,d5]) (by decide) (HS _ dA) ?_
 iterate 2 refine Zw rfl (by rintro _ ⟨_,_,_,_,_⟩;go_simp<;>rfl) (by go_simp<;>rfl) ?_
 refine Zu ?_;go_wp2;go_ret;exact⟨cbE b0,dA⟩
end
section
variable{nv lv:Value}
def zez(a b:Value):Cq 94 #[a,b] w λe w'=>e=.returned (.bool true)/\Bq w w':=by
 go_enter func94,ntmps94
 go_wp2;go_ret;exact⟨rfl,Below.refl _ _⟩
def zey(h:Xy w Cb Pb Lb Rl vv nv hv p vs x)(hn:zw6 w nb no n lv)(ha:0<=n.a)(hb:POk p x n.b)(hl:0<=n.ag/\n.ag<p.n)(b0:∀y∈vs,0<=y/\y<p.n)(c0:vs.length<=100):
  Cq 97 #[Pq Cb,.pointer (some (Aq nb no))] w λe w'=>e=.returned (.bool (Fl.dS p x n vs))/\Bq w w':=by
 have HM:Hid (Cq 131 #[Pq Cb,.pointer (some (Aq nb no)),vv] w λe w'=>e=.returned (.bool (Fl.dS p x n vs))/\Bq w w'):=zb4 h hn ha hb hl vv vs h.vi b0 c0;obtain⟨a,c,rfl⟩:=Vo h.vi;have c1:=h.c1;clear h hn hb
 go_enter func97,ntmps97
 go_wp2_with fail
 refine HM.mono ?_;rintro e w1 ⟨rfl,a0⟩;have HW:=Zz a0;clear a0;go_wp2;go_ret;exact⟨rfl,HW⟩
def zex(h:Xy w Cb Pb Lb Rl vv nv hv p vs x)(hn:zw6 w nb no n lv)(ha:0<=n.a)(hb:POk p x n.b)(hl:0<=n.ag/\n.ag<p.n)(d0:∀y∈p.aj,y<p.n)(e0:p.aj.length<=100):
  Cq 98 #[Pq Cb,.pointer (some (Aq nb no))] w λe w'=>e=.returned (.bool (Fl.dS p x n (p.aj.map λ(y:Nat)=>(y:Int))))/\Bq w w':=by
 have HM:Hid (Cq 131 #[Pq Cb,.pointer (some (Aq nb no)),hv] w λe w'=>e=.returned (.bool (Fl.dS p x n (p.aj.map λ(y:Nat)=>(y:Int))))/\Bq w w'):=zb4 h hn ha hb hl hv _ h.hi (by intro y hy;obtain⟨z,hz,rfl⟩:=List.mem_map.1 hy;have:=d0 z hz;omega) (by simpa using e0);obtain⟨a,c,a0⟩:=Vo h.hi;rw[List.length_map]at a0;subst a0;have c0:=h.c0;have p2:=h.p2;clear h hn hb
 go_enter func98,ntmps98
 go_wp2_with fail
 refine HM.mono ?_;rintro e w1 ⟨rfl,b0⟩;have HW:=Zz b0;clear b0;go_wp2;go_ret;exact⟨rfl,HW⟩
def zi5(h:Xy w Cb Pb Lb Rl vv nv hv p vs x)(hn:zw6 w nb no n lv)(ha:POk p x n.a)(hb:POk p x n.b)(hl:0<=n.ag/\n.ag<p.n):
  Cq 100 #[Pq Cb,.pointer (some (Aq nb no))] w λe w'=>e=.returned (.bool (Fl.cJ p x n n.b))/\Bq w w':=by
 have HM:Hid (Cq 132 #[Pq Cb,.pointer (some (Aq nb no)),Iq n.b] w λe w'=>e=.returned (.bool (Fl.cJ p x n n.b))/\Bq w w'):=zoy h hn ha n.b hb hl;have n3:=hn.c3;clear h hn hb ha
 go_enter func100,ntmps100
 go_wp2_with fail
 refine HM.mono ?_;rintro e w1 ⟨rfl,a0⟩;have HW:=Zz a0;clear a0;go_wp2;go_ret;exact⟨rfl,HW⟩
def za6(h:Xy w Cb Pb Lb Rl vv nv hv p vs x)(hn:zw6 w nb no n lv)(ha:POk p x n.a)(hb:POk p x n.b)(hc:POk p x n.c)(hl:0<=n.ag/\n.ag<p.n):
  Cq 99 #[Pq Cb,.pointer (some (Aq nb no))] w λe w'=>e=.returned (.bool (Fl.cJ p x n n.b && Fl.cJ p x n n.c))/\Bq w w':=by
 have HM:Hid (Cq 132 #[Pq Cb,.pointer (some (Aq nb no)),Iq n.b] w λe w'=>e=.returned (.bool (Fl.cJ p x n n.b))/\Bq w w'):=zoy h hn ha n.b hb hl;have HN:Hid (∀W,Bq w W->Cl W nb (no+4) (Iq n.c)/\Cq 132 #[Pq Cb,.pointer (some (Aq nb no)),Iq n.c] W λe w'=>e=.returned (.bool (Fl.cJ p x n n.c))/\Bq W w'):=λW hW=>⟨(hn.below hW).c4,zoy (h.below hW) (hn.below hW) ha n.c hc hl⟩;have n3:=hn.c3;generalize Fl.cJ p x n n.b=gb at*;generalize Fl.cJ p x n n.c=gc at*;clear h hn hb ha hc
 go_enter func99,ntmps99
 go_wp2_with fail
 refine HM.mono ?_;rintro e w1 ⟨rfl,a0⟩;have HW:=Zz a0;obtain⟨n4,hg⟩:=HN w1 a0;have HG:=Zz hg;clear a0 hg HN
 cases gb with
 |false=>
  go_wp2;go_ret;exact⟨rfl,HW⟩
 |true=>
  go_wp2_with fail
  refine HG.mono ?_;rintro e w2 ⟨rfl,b0⟩;have c0:Hid (Bq w w2):=HW.trans (b0.mono HW.size);clear b0;go_wp2;go_ret;exact⟨rfl,c0⟩
end
def zu1(p:Fl.aS)(x:List Fl.ar)(n:Fl.ar)(k:Int):Bool:=decide (Fl.dw (Fl.nd x k).kind=1) && Fl.aL p n.ag (Fl.nd x k).ag
section
variable{nv lv:Value}
def zi6(h:Xy w Cb Pb Lb Rl vv nv hv p vs x)(hn:zw6 w nb no n lv)(hk:∀k∈n.aU,POk p x k)(t0:n.aU.length<=100)(hl:0<=n.ag/\n.ag<p.n):
  Cq 101 #[Pq Cb,.pointer (some (Aq nb no))] w λe w'=>e=.returned (.bool (n.aU.all (zu1 p x n)))/\Bq w w':=by
 obtain⟨ao,cap,rfl,hc,-,f0⟩:=hn.li;have n5:=hn.c5;have HS:Hid (∀W,Bq w W->Bq w W/\Cl W nb (no+1) (Iq n.ag)):=λW hW=>⟨hW,(hn.below hW).c1⟩
 have HE:Hid (∀i,(hi:i<n.aU.length)->∃b off,ao=some (Aq b off)/\∃y:Nat,(y:Int)=n.aU[i]/\(∀W,Bq w W->Cl W b (off+i) (Iq (y:Int)))/\(∀W,Bq w W->Cq 129 #[Pq Cb,Iq 1,Iq y] W λe w'=>e=.returned (.bool (decide (Fl.dw (Fl.nd x n.aU[i]).kind=1)))/\w'=W.drew)/\
   (∀W,Bq w W->Cq 130 #[Pq Cb,Iq y] W λe w'=>e=.returned (Iq (Fl.nd x n.aU[i]).ag)/\w'=W)/\
   (∀W v,Bq w W->Zv W.heap.size W v [n.ag]->Cq 128 #[Pq Cb,Iq (Fl.nd x n.aU[i]).ag,v] W λe w'=>e=.returned (.bool (Fl.aL p n.ag (Fl.nd x n.aU[i]).ag))/\w'=W)):=λi hi=>by
  obtain⟨b,off,e,hbz,u0⟩:=f0 (by intro h;rw[h]at hi;simp at hi);have hp:=hk n.aU[i] (List.getElem_mem hi);have hy:((n.aU[i].toNat:Nat):Int)=n.aU[i]:=(by have:=hp.1;omega);refine⟨b,off,e,n.aU[i].toNat,hy,λW hW=>?_,λW hW=>zlx (h.below hW) 1 _ hp _ hy,λW hW=>zu0 (h.below hW) _ hp _ hy,λW v hW hv=>?_⟩
  ·rw[hy]
   refine(hW.cell (p:=(Aq b (off+i))) hbz).trans ?_;rw[u0 i hi,Qa,Qb hi];rfl
  obtain⟨tn,v0⟩:∃tn:Nat,(tn:Int)=(Fl.nd x n.aU[i]).ag:=⟨(Fl.nd x n.aU[i]).ag.toNat,by have:=hp.2.2.1;omega⟩;have h1:=zl3 (h.below hW) tn (by have:=hp.2.2.2.1;omega) v [n.ag] hv (by simp) (by intro u hu;simp at hu;subst hu;exact hl);rw[v0]at h1;simpa using h1
 have x0:(n.aU.length:Int)<=100:=by omega
 have y0:(n.aU.length:Int)<=(cap:Int):=by omega
 obtain⟨L,hL⟩:=nmE (n.aU);rw[<-hL]at n5 x0 y0 hc t0⊢
 have z0:Hid (∀i,(hi:i<L.length)->∃b off,ao=some (Aq b off)/\∃(y:Nat) (isb un:Bool) (lvk:Int),(∀W,Bq w W->Cl W b (off+i) (Iq (y:Int)))/\(∀W,Bq w W->Cq 129 #[Pq Cb,Iq 1,Iq y] W λe w'=>e=.returned (.bool isb)/\w'=W.drew)/\
   (∀W,Bq w W->Cq 130 #[Pq Cb,Iq y] W λe w'=>e=.returned (Iq lvk)/\w'=W)/\
   (∀W v,Bq w W->Zv W.heap.size W v [n.ag]->Cq 128 #[Pq Cb,Iq lvk,v] W λe w'=>e=.returned (.bool un)/\w'=W)/\zu1 p x n L[i]=(isb && un)):=λi hi=>by
  subst hL;obtain⟨b,off,e,y,hy,h1,h2,h3,h4⟩:=HE i hi;exact⟨b,off,e,y,_,_,_,h1,h2,h3,h4,rfl⟩
 clear h hn f0 hk HE hL
 go_enter func101,ntmps101
 go_wp2_with fail
 go_loopw [12] (λi wr=>Bq w wr/\∃k:Nat,k<=L.length/\i=Iq k/\(L.take k).all (zu1 p x n)=true) (λi _=>L.length - (intOf i).toNat)
 case atStart=>exact⟨Below.refl _ _,0,Nat.zero_le _,rfl,rfl⟩
 case round=>
  obtain⟨k0,k,hk,rfl,aK⟩:=hrel;have a0:=Zz k0;have i0:=Zz aK;clear k0 aK
  by_cases j0:k<L.length
  ·have A0:(k:Int)<(L.length:Int):=by omega
   obtain⟨b,off,rfl,y,isb,un,lvk,l0,m0,n0,o0,p0⟩:=z0 k j0;have cy:=l0 wr a0.out;have q0:=Zz m0;have r0:=Zz n0;have HU:=Zz o0;obtain⟨yk,s0⟩:=nmE (L[k]);have e0:Hid (yk∈L/\L.take (k+1)=L.take k++[yk]/\zu1 p x n yk=(isb && un)):=(by rw[s0];exact⟨List.getElem_mem j0,List.take_succ_eq_append_getElem j0,p0⟩)
   have c0:Hid ((isb && un)=false->L.all (zu1 p x n)=false):=λh0=>by
    rw[List.all_eq_false];exact⟨yk,e0.1,by rw[e0.2.2,h0];simp⟩
   have g0:Hid ((isb && un)=true->(L.take (k+1)).all (zu1 p x n)=true):=λh0=>by
    rw[e0.2.1,List.all_append,i0.out,List.all_cons,e0.2.2,h0];rfl
   have d0:Hid (Bq w (wr.alloc (.cells #[Iq n.ag] 3)).drew.drew):=((a0.alloc a0.size _).drew).drew;clear l0 m0 n0 o0 p0 s0
   cases isb with
   |false=>
    have HF:Hid (L.all (zu1 p x n)=false):=c0 rfl
    go_wp2_with fail
    refine zov (λW=>Bq w W/\Cl W nb (no+1) (Iq n.ag)) [(0,0),(0,1),(1,2),(0,3),(0,4),(0,5),(0,6),(0,7),(0,9),(0,10),(0,11),(0,12)] 8 13 [(1,14),(0,15),(0,16)] [(4,20)] (by kernel_rfl) (by kernel_rfl) rfl [(_,_),(_,_),(_,_),(_,_),(_,_),(_,_),(_,_),(_,_),(_,_),(_,_),(_,_),(_,_)] [(_,_),(_,_),(_,_)] _ _ rfl rfl rfl rfl (λc a d v w h=>by cases d<;>exact h) (HS _ (a0.drew)) (λops hG=>?_);have g1:=hG (4,20) (by simp);simp only at g1;clear hG;simp only[List.getElem_toArray,List.getElem_cons_succ,List.getElem_cons_zero]
    iterate 2 refine Yq rfl (kE (by rintro _ ⟨_,_⟩;go_simp<;>rfl) (by go_simp<;>rfl) ?_)
    refine Ve ?_
    go_wp2_with fail
    refine(q0 _ (a0.drew)).mono ?_;rintro e W1 ⟨rfl,b0⟩;rw[b0];clear b0 W1
    go_wp2_with fail
    refine⟨HS _ (a0.drew.drew),?_⟩
    iterate 2 refine Yq rfl (kE (by rintro _ ⟨_,_⟩;go_simp<;>rfl) (by go_simp<;>rfl) ?_)
    iterate 7
     refine zm4 rfl (c:=true) (by simp[yielded,g1,Act.put]) (by decide) ?_
    refine Xe ⟨HS _ (a0.drew.drew),?_,?_⟩
    ·unfold zs7
     refine wpList_skip (by simp[Region.wanted,yielded,g1,Act.put]) ⟨HS _ (a0.drew.drew),?_⟩;refine wpList_skip (by simp[Region.wanted,yielded,g1,Act.put]) ⟨HS _ (a0.drew.drew),?_⟩;refine zm5 rfl (c:=true) (by simp[yielded,g1,Act.put]) (by decide) (HS _ (a0.drew.drew)) ?_;refine zm4 rfl (c:=true) (by simp[yielded,g1,Act.put]) (by decide) ?_;refine Yq rfl (kE (by rintro _ ⟨_,_⟩;go_simp<;>rfl) (by go_simp<;>rfl) ?_);refine Xe ⟨HS _ (a0.drew.drew),?_⟩;clear g1;go_wp2;go_ret;exact⟨cbE HF,a0.drew.drew⟩
    unfold zs7;refine wpList_skip (by simp[Region.wanted,yielded,g1,Act.put]) ⟨HS _ (a0.drew.drew),?_⟩;refine wpList_skip (by simp[Region.wanted,yielded,g1,Act.put]) ⟨HS _ (a0.drew.drew),?_⟩;refine zm5 rfl (c:=true) (by simp[yielded,g1,Act.put]) (by decide) (HS _ (a0.drew.drew)) ?_;refine zm4 rfl (c:=true) (by simp[yielded,g1,Act.put]) (by decide) ?_;refine Yq rfl (kE (by rintro _ ⟨_,_⟩;go_simp<;>rfl) (by go_simp<;>rfl) ?_);refine Xe ⟨HS _ (a0.drew.drew),?_⟩;clear g1;go_wp2;go_ret;exact⟨cbE HF,a0.drew.drew⟩
   |true=>
    go_wp2_with fail
    refine zov (λW=>Bq w W/\Cl W nb (no+1) (Iq n.ag)) [(0,0),(0,1),(1,2),(0,3),(0,4),(0,5),(0,6),(0,7),(0,9),(0,10),(0,11),(0,12)] 8 13 [(1,14),(0,15),(0,16)] [(4,20)] (by kernel_rfl) (by kernel_rfl) rfl [(_,_),(_,_),(_,_),(_,_),(_,_),(_,_),(_,_),(_,_),(_,_),(_,_),(_,_),(_,_)] [(_,_),(_,_),(_,_)] _ _ rfl rfl rfl rfl (λc a d v w h=>by cases d<;>exact h) (HS _ (a0.drew)) (λops hG=>?_);have g1:=hG (4,20) (by simp);simp only at g1;clear hG;simp only[List.getElem_toArray,List.getElem_cons_succ,List.getElem_cons_zero]
    iterate 2 refine Yq rfl (kE (by rintro _ ⟨_,_⟩;go_simp<;>rfl) (by go_simp<;>rfl) ?_)
    refine Ve ?_
    go_wp2_with fail
    refine(q0 _ (a0.drew)).mono ?_;rintro e W1 ⟨rfl,b0⟩;rw[b0];clear b0 W1
    go_wp2_with fail
    refine⟨HS _ (a0.drew.drew),?_⟩
    iterate 2 refine Yq rfl (kE (by rintro _ ⟨_,_⟩;go_simp<;>rfl) (by go_simp<;>rfl) ?_)
    iterate 7 refine zfy rfl (by simp[yielded,g1,Act.put]) (kE (by rintro _ ⟨_,_⟩;go_simp<;>rfl) (by go_simp<;>rfl) ?_)
    refine Xe ⟨HS _ (a0.drew.drew),?_,?_⟩
    ·unfold zs7
     refine Uj (by simp[Region.wanted,yielded,g1,Act.put]) ?_
     go_wp2_with fail
     refine(r0 _ (a0.drew.drew)).mono ?_;rintro e W1 ⟨rfl,b0⟩;rw[b0];clear b0 W1
     go_wp2_with fail
     refine⟨HS _ (a0.drew.drew),?_⟩;refine Uj (by simp[Region.wanted,yielded,g1,Act.put]) ?_
     go_wp2_with fail
     refine⟨HS _ (d0.out),?_⟩;refine zhy (by simp[Region.wanted,yielded,g1,Act.put]) ?_
     go_wp2_with fail
     refine(HU _ _ (d0.out) (zi3 wr _)).mono ?_;rintro e W1 ⟨rfl,b0⟩;rw[b0];clear b0 W1
     go_wp2_with fail
     refine⟨HS _ (d0.out),?_⟩;refine zfy rfl (by simp[yielded,g1,Act.put]) (kE (by rintro _ ⟨_,_⟩;go_simp<;>rfl) (by go_simp<;>rfl) ?_);refine Yq rfl (kE (by rintro _ ⟨_,_⟩;go_simp<;>rfl) (by go_simp<;>rfl) ?_);refine Xe ⟨HS _ (d0.out),?_⟩;clear g1
     cases un with
     |false=>
      have HF:Hid (L.all (zu1 p x n)=false):=c0 rfl;go_wp2;go_ret;exact⟨cbE HF,d0⟩
     |true=>
      have HN:Hid ((L.take (k+1)).all (zu1 p x n)=true):=g0 rfl;go_wp2
      go_roundw
      case rel=>exact⟨d0,k+1,by omega,by go_num,HN⟩
      case measure=>simp[intOf];omega
    unfold zs7;refine Uj (by simp[Region.wanted,yielded,g1,Act.put]) ?_
    go_wp2_with fail
    refine⟨HS _ (d0.out),?_⟩;refine Uj (by simp[Region.wanted,yielded,g1,Act.put]) ?_
    go_wp2_with fail
    refine(r0 _ (d0.out)).mono ?_;rintro e W1 ⟨rfl,b0⟩;rw[b0];clear b0 W1
    go_wp2_with fail
    refine⟨HS _ (d0.out),?_⟩;refine zhy (by simp[Region.wanted,yielded,g1,Act.put]) ?_
    go_wp2_with fail
    refine(HU _ _ (d0.out) (zi3 wr _)).mono ?_;rintro e W1 ⟨rfl,b0⟩;rw[b0];clear b0 W1
    go_wp2_with fail
    refine⟨HS _ (d0.out),?_⟩;refine zfy rfl (by simp[yielded,g1,Act.put]) (kE (by rintro _ ⟨_,_⟩;go_simp<;>rfl) (by go_simp<;>rfl) ?_);refine Yq rfl (kE (by rintro _ ⟨_,_⟩;go_simp<;>rfl) (by go_simp<;>rfl) ?_);refine Xe ⟨HS _ (d0.out),?_⟩;clear g1
    cases un with
    |false=>
     have HF:Hid (L.all (zu1 p x n)=false):=c0 rfl;go_wp2;go_ret;exact⟨cbE HF,d0⟩
    |true=>
     have HN:Hid ((L.take (k+1)).all (zu1 p x n)=true):=g0 rfl;go_wp2
     go_roundw
     case rel=>exact⟨d0,k+1,by omega,by go_num,HN⟩
     case measure=>simp[intOf];omega
  have A0:¬(k:Int)<(L.length:Int):=(by omega);have HT:Hid (L.all (zu1 p x n)=true):=by
   show _=_;have h1:=i0.out;rw[List.take_of_length_le (by omega)]at h1;exact h1
  go_wp2;go_ret;exact⟨cbE HT,a0⟩
end
end Go.Proofs.YtfhpibppblbgcaaGreatDoor
