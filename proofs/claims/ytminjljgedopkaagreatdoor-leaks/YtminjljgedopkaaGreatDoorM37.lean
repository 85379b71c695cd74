import Derived.Test.YtminjljgedopkaaGreatDoorM10
set_option linter.all false
set_option maxRecDepth 100000
set_option maxHeartbeats 40000000
namespace Go.Proofs.YtminjljgedopkaaGreatDoor
open Go.RowKit Go.Proofs.Tryz
def roleI(k:Nat):Int:=if k<=2 then 0 else if k<=6 then 1 else 2
def ruleF(k:Nat):FuncId:=if k=0 then 115 else if k=1 then 116 else if k=2 then 117 else if k=3 then 118 else if k=4 then 119 else if k=5 then 120 else if k=6 then 121 else 122
structure ChkIn(w:World)(Cb Pb Lb Rl:Nat)(vv nv hv:Value)(p:Fl.Prog)(vs:List Int)(x:List Fl.Node):Prop where
 hz:Cb<w.heap.size/\Pb<w.heap.size/\Lb<w.heap.size/\Rl<w.heap.size
 c0:w.cell? ⟨Cb,0,none⟩=some (.pointer (some ⟨Pb,0,none⟩))
 c1:w.cell? ⟨Cb,1,none⟩=some vv
 c2:w.cell? ⟨Cb,2,none⟩=some nv
 c3:w.cell? ⟨Cb,3,none⟩=some (.slice (some ⟨Rl,0,none⟩) 8 8)
 p0:w.cell? ⟨Pb,0,none⟩=some (.pointer (some ⟨Lb,0,none⟩))
 p2:w.cell? ⟨Pb,2,none⟩=some hv
 la:Un w Lb p.n p.leq
 vi:Zy w.heap.size w vv vs
 hi:Zy w.heap.size w hv (p.chans.map λ(y:Nat)=>(y:Int))
 no:Zo w.heap.size w nv x
 ru:∀k,k<8->w.cell? ⟨Rl,k*2,none⟩=some (.int .i64 (roleI k))/\w.cell? ⟨Rl,k*2+1,none⟩=some (.func (.func (ruleF k)) #[] #[])
 n6:p.n<=6
def ChkIn.below{w w':World}{Cb Pb Lb Rl:Nat}{vv nv hv:Value}{p:Fl.Prog}{vs:List Int}{x:List Fl.Node}(h:ChkIn w Cb Pb Lb Rl vv nv hv p vs x)(hb:Below w.heap.size w w'):ChkIn w' Cb Pb Lb Rl vv nv hv p vs x:=by
 obtain⟨z1,z2,z3,z4⟩:=h.hz;have hz:=hb.size;have q:∀b i,b<w.heap.size->w'.cell? ⟨b,i,none⟩=w.cell? ⟨b,i,none⟩:=λb i a0=>hb.cell (p:=⟨b,i,none⟩) a0;exact{hz:=⟨by omega,by omega,by omega,by omega⟩,c0:=(q _ _ z1).trans h.c0,c1:=(q _ _ z1).trans h.c1,c2:=(q _ _ z1).trans h.c2,c3:=(q _ _ z1).trans h.c3,p0:=(q _ _ z2).trans h.p0,p2:=(q _ _ z2).trans h.p2,la:=h.la.block (hb.block _ z3),vi:=(h.vi.below hb).mono hz,hi:=(h.hi.below hb).mono hz,no:=(h.no.below hb).mono hz,ru:=λk hk=>⟨(q _ _ z4).trans (h.ru k hk).1,(q _ _ z4).trans (h.ru k hk).2⟩,n6:=h.n6}
section
variable{w:World}{Lb n:Nat}{t:Fl.Tab}
def has_any(h:Un w Lb n t)(v:Int):Calls prog 114 #[.pointer (some ⟨Lb,0,none⟩),.int .i64 v] w λe w'=>e=.returned (.bool (decide (0<=v/\v<n)))/\w'=w:=by
 have c0:=h.c0;clear h
 by_cases h1:0<=v
 ·by_cases h2:v<n
  ·have e:decide (0<=v/\v<n)=true:=decide_eq_true ⟨h1,h2⟩
   rw[e];clear e
   go_enter func114,ntmps114
   go_wp2;go_ret;exact⟨rfl,rfl⟩
  have e:decide (0<=v/\v<n)=false:=decide_eq_false (λh=>h2 h.2);rw[e];clear e
  go_enter func114,ntmps114
  go_wp2;go_ret;exact⟨rfl,rfl⟩
 have e:decide (0<=v/\v<n)=false:=decide_eq_false (λh=>h1 h.1);rw[e];clear e
 go_enter func114,ntmps114
 go_wp2;go_ret;exact⟨rfl,rfl⟩
def below_any(h:Un w Lb n t)(hn:n<=6)(a b:Nat)(ha:a<n)(hb:b<n):Calls prog 156 #[.pointer (some ⟨Lb,0,none⟩),.int .i64 a,.int .i64 b] w λe w'=>e=.returned (.bool (t a b))/\w'=w:=by
 have c:=h.cu a b ha hb
 have a0:(a:Int)<6:=by omega
 have b0:(b:Int)<6:=by omega
 have e:1+6*a+b=1+a*6+b:=by omega
 rw[e]at c;clear h e
 go_enter func156,ntmps156
 go_wp2;go_ret;exact⟨rfl,rfl⟩
end
def dec_beq(r ro:Nat):decide (r=ro)=(((r:Nat):Int)==(ro:Int)):=by
 by_cases h:r=ro
 ·subst h;simp
 rw[decide_eq_false h];symm;rw[Qh];omega
def roleI_eq(k:Nat):roleI k=((Fl.role (k:Int):Nat):Int):=by
 unfold roleI Fl.role
 by_cases h1:k<=2
 ·rw[if_pos h1,if_pos (by omega)];rfl
 by_cases h2:k<=6
 ·rw[if_neg h1,if_pos h2,if_neg (by omega),if_pos (by omega)];rfl
 rw[if_neg h1,if_neg h2,if_neg (by omega),if_neg (by omega)];rfl
section
variable{w:World}{Cb Pb Lb Rl:Nat}{vv nv hv:Value}{p:Fl.Prog}{vs:List Int}{x:List Fl.Node}
def ChkIn.node(h:ChkIn w Cb Pb Lb Rl vv nv hv p vs x)(k:Nat)(hk:k<x.length):∃b off cap,nv=.slice (some ⟨b,off,none⟩) x.length cap/\b<w.heap.size/\w.cell? ⟨b,off+k*6,none⟩=some (.int .i64 (Fl.nth x k).kind)/\w.cell? ⟨b,off+k*6+1,none⟩=some (.int .i64 (Fl.nth x k).level):=by
 obtain⟨ao,cap,e,-,-,h4⟩:=h.no;obtain⟨b,off,e2,hb,hc⟩:=h4 (by rintro rfl;simp at hk);obtain⟨lv,-,h5,h6,-⟩:=hc k hk;exact⟨b,off,cap,by rw[e,e2],hb,h5,h6⟩
def clevel_any(h:ChkIn w Cb Pb Lb Rl vv nv hv p vs x)(k:Nat)(hk:k<x.length):Calls prog 161 #[.pointer (some ⟨Cb,0,none⟩),.int .i64 k] w λe w'=>e=.returned (.int .i64 (Fl.nth x k).level)/\w'=w:=by
 obtain⟨b,off,cap,rfl,-,-,c1⟩:=h.node k hk;have c2:=h.c2
 have a0:(k:Int)<(x.length:Int):=by omega
 clear h
 go_enter func161,ntmps161
 go_wp2;go_ret;exact⟨rfl,rfl⟩
def is_any(h:ChkIn w Cb Pb Lb Rl vv nv hv p vs x)(ro:Nat)(k:Nat)(hk:k<x.length)(e0:0<=(Fl.nth x k).kind/\(Fl.nth x k).kind<=7):Calls prog 160 #[.pointer (some ⟨Cb,0,none⟩),.int .i64 ro,.int .i64 k] w λe w'=>e=.returned (.bool (decide (Fl.role (Fl.nth x k).kind=ro)))/\w'=w.drew:=by
 obtain⟨b,off,cap,rfl,-,c0,-⟩:=h.node k hk;have c2:w.drew.cell? ⟨Cb,2,none⟩=some (.slice (some ⟨b,off,none⟩) x.length cap):=h.c2;have c3:w.drew.cell? ⟨Cb,3,none⟩=some (.slice (some ⟨Rl,0,none⟩) 8 8):=h.c3;obtain⟨kd,a0⟩:∃kd:Nat,(kd:Int)=(Fl.nth x k).kind:=⟨(Fl.nth x k).kind.toNat,by omega⟩
 have f0:kd<8:=by omega
 have cr:w.drew.cell? ⟨Rl,kd*2,none⟩=some (.int .i64 (roleI kd)):=(h.ru kd f0).1
 have c0':w.drew.cell? ⟨b,off+k*6,none⟩=some (.int .i64 (kd:Int)):=by rw[a0];exact c0
 have h0:(k:Int)<(x.length:Int):=by omega
 have g0:(kd:Int)<8:=by omega
 have HR:Hid (decide (Fl.role (Fl.nth x k).kind=ro)=(roleI kd==(ro:Int))):=by
  show _=_;rw[<-a0];rw[roleI_eq];exact dec_beq _ _
 obtain⟨rl,d0⟩:=nmE (roleI kd);rw[<-d0]at cr HR;obtain⟨res,b0⟩:=nmE (decide (Fl.role (Fl.nth x k).kind=ro));rw[<-b0]at HR⊢;clear h e0 a0 c0 d0 b0
 go_enter func160,ntmps160
 go_wp2_with fail
 refine zzw (λW=>W.cell? ⟨Cb,2,none⟩=some (.slice (some ⟨b,off,none⟩) x.length cap)/\W.cell? ⟨Cb,3,none⟩=some (.slice (some ⟨Rl,0,none⟩) 8 8)/\W.cell? ⟨Rl,kd*2,none⟩=some (.int .i64 rl)/\W.cell? ⟨b,off+k*6,none⟩=some (.int .i64 (kd:Int))) [] [] [] ⟨c2,c3,cr,c0'⟩ (by kernel_rfl) (λc a d v w h=>by cases d<;>exact h) (λops hG=>?_);clear hG c2 c3 cr c0'
 iterate 18 refine Ze rfl (by rintro _ ⟨_,_,_,_⟩;go_simp<;>rfl) (by go_simp<;>rfl) ?_
 refine Yt ?_;go_wp2;go_ret;exact⟨cbE HR.out,rfl⟩
def under_any(h:ChkIn w Cb Pb Lb Rl vv nv hv p vs x)(top:Nat)(ht:top<p.n)(v:Value)(ls:List Int)(hl:Zy w.heap.size w v ls)(n0:ls.length<=100)(hr:∀y∈ls,0<=y/\y<p.n):Calls prog 159 #[.pointer (some ⟨Cb,0,none⟩),.int .i64 top,v] w λe w'=>e=.returned (.bool (ls.all λy=>Fl.under p y top))/\w'=w:=by
 obtain⟨ao,cap,rfl,hc,-,a0⟩:=hl;have c0:=h.c0;have p0:=h.p0;have j0:Hid (∀(a:Nat),a<p.n->Calls prog 156 #[.pointer (some ⟨Lb,0,none⟩),.int .i64 a,.int .i64 top] w λe w'=>e=.returned (.bool (p.leq a top))/\w'=w):=λa ha=>below_any h.la h.n6 a top ha ht
 have k0:Hid (∀i,(hi:i<ls.length)->∃b off,ao=some ⟨b,off,none⟩/\∃y:Nat,(y:Int)=ls[i]/\y<p.n/\w.cell? ⟨b,off+i,none⟩=some (.int .i64 (y:Int))):=λi hi=>by
  obtain⟨b,off,e,-,hc⟩:=a0 (by rintro rfl;simp at hi);have h1:=hr ls[i] (List.getElem_mem hi);refine⟨b,off,e,ls[i].toNat,by omega,by omega,?_⟩;rw[hc i hi,Qa,Qb hi];simp only[Option.getD_some];rw[show ((ls[i].toNat:Nat):Int)=ls[i] by omega]
 have o0:(ls.length:Int)<=100:=by omega
 have q0:(ls.length:Int)<=(cap:Int):=by omega
 clear h a0 hr
 go_enter func159,ntmps159
 go_wp2_with fail
 go_loopw [11] (λi wr=>wr=w/\∃k:Nat,k<=ls.length/\i=.int .i64 k/\(ls.take k).all (λy=>Fl.under p y top)=true) (λi _=>ls.length - (intOf i).toNat)
 case atStart=>exact⟨rfl,0,Nat.zero_le _,rfl,rfl⟩
 case round=>
  obtain⟨h0,k,hk,rfl,hall⟩:=hrel;have b0:=Zz hall;rw[h0];clear h0 hall wr
  by_cases f0:k<ls.length
  ·have l0:(k:Int)<(ls.length:Int):=by omega
   obtain⟨b,off,rfl,y,hy,m0,cy⟩:=k0.out k f0;obtain⟨yk,g0⟩:=nmE (ls[k]);have d0:Hid (yk∈ls/\ls.take (k+1)=ls.take k++[yk]):=(by rw[g0];exact⟨List.getElem_mem f0,List.take_succ_eq_append_getElem f0⟩);have HU:Hid (Fl.under p yk top=p.leq y top):=(by show _=_;unfold Fl.under;rw[g0,<-hy];simp);have e0:Hid (Calls prog 156 #[.pointer (some ⟨Lb,0,none⟩),.int .i64 y,.int .i64 top] w λe w'=>e=.returned (.bool (p.leq y top))/\w'=w):=j0.out y m0;generalize p.leq y top=bb at*;clear hy g0
   go_wp2_with fail
   refine e0.out.mono ?_;rintro e w1 ⟨rfl,i0⟩;rw[i0];clear i0 w1
   cases bb with
   |false=>
    have HE:Hid ((ls.all λy=>Fl.under p y top)=false):=by
     show _=_;rw[List.all_eq_false];exact⟨yk,d0.out.1,by rw[HU.out];simp⟩
    go_wp2;go_ret;exact⟨cbE HE.out,rfl⟩
   |true=>
    have HN:Hid ((ls.take (k+1)).all (λy=>Fl.under p y top)=true):=by
     show _=_;rw[d0.out.2,List.all_append,b0.out,List.all_cons,HU.out];rfl
    go_wp2
    go_roundw
    case rel=>exact⟨by first|rfl|trivial,k+1,by omega,by go_num,HN.out⟩
    case measure=>simp[intOf];omega
  have l0:¬(k:Int)<(ls.length:Int):=(by omega);have HE:Hid ((ls.all λy=>Fl.under p y top)=true):=by
   show _=_;have h1:=b0.out;rw[List.take_of_length_le (by omega)]at h1;exact h1
  go_wp2;go_ret;exact⟨cbE HE.out,rfl⟩
end
section
variable{P:Program}{ops:Array Oper}{Q:Exit->Act->World->Prop}{S:World->Prop}
def late_do_skip{o:Oper}{l:List (Nat×Oper)}{a:Act}{w:World}{j:Nat}{b c:Bool}(hg:o.guard=some (j,b))(hy:yielded ops a.tmps j=some c)(a0:(some c==some b)=false)(hS:S w)
  (h:Xi P ops S Q l (a.put o.dst undef) w):Xi P ops S Q ((1,o)::l) a w:=wpList_skip (by simpa [Region.wanted,hg,hy] using a0) ⟨hS,h⟩
def late_do_none{o:Oper}{l:List (Nat×Oper)}{a:Act}{w:World}{j:Nat}{b:Bool}(hg:o.guard=some (j,b))(hy:yielded ops a.tmps j=none)(hS:S w)
  (h:Xi P ops S Q l (a.put o.dst undef) w):Xi P ops S Q ((1,o)::l) a w:=wpList_skip (by simp[Region.wanted,hg,hy]) ⟨hS,h⟩
def late_do_go{l:List (Nat×Oper)}{a:Act}{w:World}{dst:Option Tmp}{op:Op}{ty:TypeId}{pos:String}{after:Array Edge}{guard:Option (Nat×Bool)}
  (hw:Region.wanted {dst:=dst,op:=op,type:=ty,pos:=pos,after:=after,guard:=guard} (yielded ops a.tmps)=true) (h:wpList P ops (Exit.then (λa1 w1=>S w1/\Xi P ops S Q l a1 w1) Q) [{dst:=dst,op:=op,type:=ty,pos:=pos,after:=after,guard:=none}] a w):
  Xi P ops S Q ((1,{dst:=dst,op:=op,type:=ty,pos:=pos,after:=after,guard:=guard})::l) a w:=wpList_unguard hw h
end
structure NdAt(w:World)(nb no:Nat)(n:Fl.Node)(lv:Value):Prop where
 hz:nb<w.heap.size
 c0:w.cell? ⟨nb,no,none⟩=some (.int .i64 n.kind)
 c1:w.cell? ⟨nb,no+1,none⟩=some (.int .i64 n.level)
 c2:w.cell? ⟨nb,no+2,none⟩=some (.int .i64 n.a)
 c3:w.cell? ⟨nb,no+3,none⟩=some (.int .i64 n.b)
 c4:w.cell? ⟨nb,no+4,none⟩=some (.int .i64 n.c)
 c5:w.cell? ⟨nb,no+5,none⟩=some lv
 li:Zy w.heap.size w lv n.list
def NdAt.below{w w':World}{nb no:Nat}{n:Fl.Node}{lv:Value}(h:NdAt w nb no n lv)(hb:Below w.heap.size w w'):NdAt w' nb no n lv:=
 have q:∀i,w'.cell? ⟨nb,i,none⟩=w.cell? ⟨nb,i,none⟩:=λi=>hb.cell (p:=⟨nb,i,none⟩) h.hz
 ⟨Nat.lt_of_lt_of_le h.hz hb.size,(q _).trans h.c0,(q _).trans h.c1,(q _).trans h.c2,(q _).trans h.c3,(q _).trans h.c4,(q _).trans h.c5,(h.li.below hb).mono hb.size⟩
def POk(p:Fl.Prog)(x:List Fl.Node)(j:Int):Prop:=0<=j/\j.toNat<x.length/\0<=(Fl.nd x j).level/\(Fl.nd x j).level<p.n/\0<=(Fl.nd x j).kind/\(Fl.nd x j).kind<=7
def ints_one(W:World)(y:Int):Zy (W.alloc (.cells #[.int .i64 y] 3)).heap.size (W.alloc (.cells #[.int .i64 y] 3)) (.slice (some ⟨W.heap.size,0,none⟩) 1 1) [y]:=
 ⟨_,1,rfl,by simp,by simp[maxLen],λ_=>⟨W.heap.size,0,rfl,by simp,λi hi=>by
  have:i=0:=by simpa using hi
  subst this;simp⟩⟩
def ints_two(W:World)(y z:Int):Zy (W.alloc (.cells #[.int .i64 y,.int .i64 z] 3)).heap.size (W.alloc (.cells #[.int .i64 y,.int .i64 z] 3)) (.slice (some ⟨W.heap.size,0,none⟩) 2 2) [y,z]:=
 ⟨_,2,rfl,by simp,by simp[maxLen],λ_=>⟨W.heap.size,0,rfl,by simp,λi hi=>by
  have:i<2:=hi
  match i,this with
  |0,_=>simp
  |1,_=>simp⟩⟩
section
variable{w:World}{Cb Pb Lb Rl nb no:Nat}{vv nv hv lv:Value}{p:Fl.Prog}{vs:List Int}{x:List Fl.Node}{n:Fl.Node}
def varFollows_any(h:ChkIn w Cb Pb Lb Rl vv nv hv p vs x)(hn:NdAt w nb no n lv)(ha:0<=n.a)(hl:0<=n.level/\n.level<p.n)(e0:∀y∈vs,0<=y/\y<p.n)(p0:vs.length<=100):
  Calls prog 116 #[.pointer (some ⟨Cb,0,none⟩),.pointer (some ⟨nb,no,none⟩)] w λe w'=>e=.returned (.bool (decide (n.a<vs.length) && Fl.under p (vs.getD n.a.toNat 0) n.level))/\Below w.heap.size w w':=by
 obtain⟨lvl,b0⟩:∃lvl:Nat,(lvl:Int)=n.level:=⟨n.level.toNat,by omega⟩;obtain⟨an,f0⟩:∃an:Nat,(an:Int)=n.a:=⟨n.a.toNat,by omega⟩;have n0:=h.hz.1;have j0:=hn.hz;obtain⟨ao,cap,g0,hc,-,a0⟩:=h.vi;have c1:=h.c1;rw[g0]at c1;have n1:=hn.c1;have n2:=hn.c2;rw[<-b0]at n1;rw[<-f0]at n2
 have o0:(vs.length:Int)<=100:=by omega
 by_cases d0:an<vs.length
 ·obtain⟨b,off,rfl,hbz,k0⟩:=a0 (by rintro rfl;simp at d0)
  have cy:=k0 an d0;obtain⟨y,hy⟩:=nmE (vs.getD an 0);have l0:0<=y/\y<p.n:=by
   have h1:=e0 vs[an] (List.getElem_mem d0);rw[hy,Qa,Qb d0];exact h1
  rw[<-hy]at cy;have h0:(an:Int)<(vs.length:Int):=(by omega);have HS:Hid (∀W,Below w.heap.size w W->W.cell? ⟨nb,no+2,none⟩=some (.int .i64 (an:Nat))/\W.cell? ⟨Cb,1,none⟩=some (.slice (some ⟨b,off,none⟩) vs.length cap)/\W.cell? ⟨nb,no+1,none⟩=some (.int .i64 (lvl:Nat))/\W.cell? ⟨b,off+an,none⟩=some (.int .i64 y)):=λW hW=>⟨(hW.cell (p:=⟨nb,no+2,none⟩) j0).trans n2,(hW.cell (p:=⟨Cb,1,none⟩) n0).trans c1,(hW.cell (p:=⟨nb,no+1,none⟩) j0).trans n1,(hW.cell (p:=⟨b,off+an,none⟩) hbz).trans cy⟩;have HB:Hid (Below w.heap.size w (w.alloc (.cells #[.int .i64 y] 3)).drew):=(bA).drew;have HU:Hid (Calls prog 159 #[.pointer (some ⟨Cb,0,none⟩),.int .i64 (lvl:Nat),.slice (some ⟨w.heap.size,0,none⟩) 1 1] (w.alloc (.cells #[.int .i64 y] 3)).drew λe w'=>e=.returned (.bool (Fl.under p y n.level))/\w'=(w.alloc (.cells #[.int .i64 y] 3)).drew):=by
   have h1:=under_any (h.below HB.out) lvl (by omega) (.slice (some ⟨w.heap.size,0,none⟩) 1 1) [y] (ints_one w y) (by simp) (by intro z hz;simp at hz;subst hz;exact l0);show Calls _ _ _ _ _;rw[<-b0];simpa using h1
  have c0:Hid ((decide (n.a<vs.length) && Fl.under p (vs.getD n.a.toNat 0) n.level)=Fl.under p y n.level):=by
   show _=_;rw[decide_eq_true (show n.a<vs.length by omega),Bool.true_and,hy,show n.a.toNat=an by omega]
  generalize Fl.under p y n.level=res at*;clear h hn a0 k0 e0 hy l0 b0 f0 c1 n1 n2 cy g0
  go_enter func116,ntmps116
  go_wp2_with fail
  refine Yy HS ((Below.refl _ _).drew) [26,27] [] [(10,15)] (by kernel_rfl) (λc a d v w h=>by cases d<;>exact h) (λops ⟨g1,_⟩=>?_)
  iterate 26 refine Ze (by first|rfl|simp[Region.wanted,yielded,g1,Act.put]) (by rintro _ ⟨_,_,_,_⟩;go_simp<;>rfl) (by go_simp<;>rfl) ?_
  refine late_do_go (by simp[Region.wanted,yielded,g1,Act.put]) ?_
  go_wp2_with fail
  refine⟨HS.out _ HB.out,?_⟩;refine late_do_go (by simp[Region.wanted,yielded,g1,Act.put]) ?_
  go_wp2_with fail
  refine HU.out.mono ?_;rintro e W1 ⟨rfl,m0⟩;rw[m0];clear m0 W1
  go_wp2_with fail
  refine⟨HS.out _ HB.out,?_⟩
  iterate 2 refine Ze rfl (by rintro _ ⟨_,_,_,_⟩;go_simp<;>rfl) (by go_simp<;>rfl) ?_
  refine Yt ?_;go_wp2;go_ret;exact⟨cbE c0.out,HB.out⟩
 have h0:¬(an:Int)<(vs.length:Int):=by omega
 have i0:Hid (w.drew.cell? ⟨nb,no+2,none⟩=some (.int .i64 (an:Nat))/\w.drew.cell? ⟨Cb,1,none⟩=some (.slice ao vs.length cap)/\w.drew.cell? ⟨nb,no+1,none⟩=some (.int .i64 (lvl:Nat))/\True):=⟨n2,c1,n1,trivial⟩;have c0:Hid ((decide (n.a<vs.length) && Fl.under p (vs.getD n.a.toNat 0) n.level)=false):=by
  show _=_;rw[decide_eq_false (show ¬n.a<vs.length by omega),Bool.false_and]
 clear h hn a0 e0 b0 f0 c1 n1 n2 g0
 go_enter func116,ntmps116
 go_wp2_with fail
 refine zzw (λW=>W.cell? ⟨nb,no+2,none⟩=some (.int .i64 (an:Nat))/\W.cell? ⟨Cb,1,none⟩=some (.slice ao vs.length cap)/\W.cell? ⟨nb,no+1,none⟩=some (.int .i64 (lvl:Nat))/\True) [26,27] [] [(10,15)] i0.out (by kernel_rfl) (λc a d v w h=>by cases d<;>exact h) (λops ⟨g1,_⟩=>?_)
 iterate 11 refine Ze rfl (by rintro _ ⟨_,_,_,_⟩;go_simp<;>rfl) (by go_simp<;>rfl) ?_
 iterate 15
  refine late_skip rfl (c:=false) (by simp[yielded,g1,Act.put]) (by decide) ?_
 refine late_do_skip rfl (c:=false) (by simp[yielded,g1,Act.put]) (by decide) i0.out ?_;refine late_do_skip rfl (c:=false) (by simp[yielded,g1,Act.put]) (by decide) i0.out ?_
 iterate 2 refine Ze rfl (by rintro _ ⟨_,_,_,_⟩;go_simp<;>rfl) (by go_simp<;>rfl) ?_
 refine Yt ?_;go_wp2;go_ret;exact⟨cbE c0.out,(Below.refl _ _).drew⟩
end
section
variable{w:World}{Cb Pb Lb Rl nb no:Nat}{vv nv hv lv:Value}{p:Fl.Prog}{vs:List Int}{x:List Fl.Node}{n:Fl.Node}
def is_nd(h:ChkIn w Cb Pb Lb Rl vv nv hv p vs x)(ro:Nat)(j:Int)(hj:POk p x j)(jn:Nat)(a0:(jn:Int)=j):Calls prog 160 #[.pointer (some ⟨Cb,0,none⟩),.int .i64 ro,.int .i64 jn] w λe w'=>e=.returned (.bool (decide (Fl.role (Fl.nd x j).kind=ro)))/\w'=w.drew:=by
 have e:jn=j.toNat:=by omega
 subst e;exact is_any h ro j.toNat hj.2.1 ⟨hj.2.2.2.2.1,hj.2.2.2.2.2⟩
def level_nd(h:ChkIn w Cb Pb Lb Rl vv nv hv p vs x)(j:Int)(hj:POk p x j)(jn:Nat)(a0:(jn:Int)=j):Calls prog 161 #[.pointer (some ⟨Cb,0,none⟩),.int .i64 jn] w λe w'=>e=.returned (.int .i64 (Fl.nd x j).level)/\w'=w:=by
 have e:jn=j.toNat:=by omega
 subst e;exact clevel_any h j.toNat hj.2.1
def under_two(h:ChkIn w Cb Pb Lb Rl vv nv hv p vs x)(top:Int)(ht:0<=top/\top<p.n)(y z:Int)(hy:0<=y/\y<p.n)(hz:0<=z/\z<p.n)(v:Value)(a0:Zy w.heap.size w v [y,z]):Calls prog 159 #[.pointer (some ⟨Cb,0,none⟩),.int .i64 top,v] w λe w'=>e=.returned (.bool (Fl.under p y top && Fl.under p z top))/\w'=w:=by
 obtain⟨tn,b0⟩:∃tn:Nat,(tn:Int)=top:=⟨top.toNat,by omega⟩;have h1:=under_any h tn (by omega) v [y,z] a0 (by simp) (by intro u hu;simp at hu;rcases hu with rfl|rfl;exact hy;exact hz);rw[b0]at h1;simpa using h1
def mayGo_any(h:ChkIn w Cb Pb Lb Rl vv nv hv p vs x)(hn:NdAt w nb no n lv)(ha:0<=n.a)(hb:POk p x n.b)(hl:0<=n.level/\n.level<p.n)(lvv:Value)(ls:List Int)(n0:Zy w.heap.size w lvv ls)(h0:∀y∈ls,0<=y/\y<p.n)(q0:ls.length<=100):
  Calls prog 162 #[.pointer (some ⟨Cb,0,none⟩),.pointer (some ⟨nb,no,none⟩),lvv] w λe w'=>e=.returned (.bool (Fl.mayGo p x n ls))/\Below w.heap.size w w':=by
 obtain⟨an,i0⟩:∃an:Nat,(an:Int)=n.a:=⟨n.a.toNat,by omega⟩;obtain⟨bn,f0⟩:∃bn:Nat,(bn:Int)=n.b:=⟨n.b.toNat,by have:=hb.1;omega⟩;have e0:=hn.hz;obtain⟨ao,cap,rfl,hc,-,b0⟩:=n0;have n1:=hn.c1;have n2:=hn.c2;have n3:=hn.c3;rw[<-i0]at n2;rw[<-f0]at n3
 have o0:(ls.length:Int)<=100:=by omega
 have k0:Hid (∀W,Below w.heap.size w W->Calls prog 160 #[.pointer (some ⟨Cb,0,none⟩),.int .i64 0,.int .i64 bn] W λe w'=>e=.returned (.bool (decide (Fl.role (Fl.nd x n.b).kind=0)))/\w'=W.drew):=λW hW=>is_nd (h.below hW) 0 n.b hb bn f0;have p0:Hid (∀W,Below w.heap.size w W->Calls prog 161 #[.pointer (some ⟨Cb,0,none⟩),.int .i64 bn] W λe w'=>e=.returned (.int .i64 (Fl.nd x n.b).level)/\w'=W):=λW hW=>level_nd (h.below hW) n.b hb bn f0
 by_cases g0:an<ls.length
 ·obtain⟨b,off,rfl,hbz,l0⟩:=b0 (by rintro rfl;simp at g0)
  have cy:=l0 an g0;obtain⟨y,hy⟩:=nmE (ls.getD an 0);have m0:0<=y/\y<p.n:=by
   have h1:=h0 ls[an] (List.getElem_mem g0);rw[hy,Qa,Qb g0];exact h1
  rw[<-hy]at cy;have j0:(an:Int)<(ls.length:Int):=(by omega);have HS:Hid (∀W,Below w.heap.size w W->W.cell? ⟨nb,no+1,none⟩=some (.int .i64 n.level)/\W.cell? ⟨nb,no+2,none⟩=some (.int .i64 (an:Nat))/\W.cell? ⟨nb,no+3,none⟩=some (.int .i64 (bn:Nat))/\W.cell? ⟨b,off+an,none⟩=some (.int .i64 y)/\True):=λW hW=>⟨(hW.cell (p:=⟨nb,no+1,none⟩) e0).trans n1,(hW.cell (p:=⟨nb,no+2,none⟩) e0).trans n2,(hW.cell (p:=⟨nb,no+3,none⟩) e0).trans n3,(hW.cell (p:=⟨b,off+an,none⟩) hbz).trans cy,trivial⟩;have HU:Hid (∀W v,Below w.heap.size w W->Zy W.heap.size W v [(Fl.nd x n.b).level,n.level]->Calls prog 159 #[.pointer (some ⟨Cb,0,none⟩),.int .i64 y,v] W λe w'=>e=.returned (.bool (Fl.under p (Fl.nd x n.b).level y && Fl.under p n.level y))/\w'=W):=λW v hW hv2=>under_two (h.below hW) y m0 _ _ ⟨hb.2.2.1,hb.2.2.2.1⟩ hl v hv2;have a0:Hid (Fl.mayGo p x n ls=(decide (Fl.role (Fl.nd x n.b).kind=0) && (Fl.under p (Fl.nd x n.b).level y && Fl.under p n.level y))):=by
   show _=_;unfold Fl.mayGo;rw[decide_eq_true (show n.a<ls.length by omega),Bool.true_and,hy,show n.a.toNat=an by omega]
  generalize decide (Fl.role (Fl.nd x n.b).kind=0)=isv at*;generalize (Fl.under p (Fl.nd x n.b).level y && Fl.under p n.level y)=un at*;generalize (Fl.nd x n.b).level=lb at*;obtain⟨res,c0⟩:=nmE (Fl.mayGo p x n ls);rw[<-c0]at a0⊢;clear h hn b0 l0 h0 hy m0 i0 n1 n2 n3 cy hb f0 c0
  cases isv with
  |true=>
   go_enter func162,ntmps162
   go_wp2_with fail
   refine zzv HS ((Below.refl _ _).drew) [(0,0),(0,1),(0,2),(0,3),(0,4),(0,5),(0,6),(0,7),(0,8),(0,9),(0,10),(0,11),(0,12),(1,13),(0,14),(0,15),(0,16),(0,17),(0,18),(0,19),(0,20),(0,21),(0,22),(0,23),(0,24),(0,25),(0,26),(0,27),(0,28),(0,30),(0,31),(0,32),(0,33),(1,29),(1,34),(1,35),(0,36),(0,37)] [] [(7,14),(15,22)] (by kernel_rfl) (λc a d v w h=>by cases d<;>exact h) (λops ⟨g1,g2,_⟩=>?_)
   iterate 13 refine Ze (by first|rfl|simp[Region.wanted,yielded,g1,Act.put]) (by rintro _ ⟨_,_,_,_,_⟩;go_simp<;>rfl) (by go_simp<;>rfl) ?_
   refine late_do_go (by simp[Region.wanted,yielded,g1,Act.put]) ?_
   go_wp2_with fail
   refine(k0.out _ ((Below.refl _ _).drew)).mono ?_;rintro e W1 ⟨rfl,d0⟩;rw[d0];clear d0 W1
   go_wp2_with fail
   refine⟨HS.out _ ((Below.refl _ _).drew.drew),?_⟩
   iterate 19 refine Ze (by first|rfl|simp[Region.wanted,yielded,g2,Act.put]) (by rintro _ ⟨_,_,_,_,_⟩;go_simp<;>rfl) (by go_simp<;>rfl) ?_
   refine late_do_go (by simp[Region.wanted,yielded,g2,Act.put]) ?_
   go_wp2_with fail
   refine(p0.out _ ((Below.refl _ _).drew.drew)).mono ?_;rintro e W1 ⟨rfl,d0⟩;rw[d0];clear d0 W1
   go_wp2_with fail
   refine⟨HS.out _ ((Below.refl _ _).drew.drew),?_⟩;refine late_do_go (by simp[Region.wanted,yielded,g2,Act.put]) ?_
   go_wp2_with fail
   refine⟨HS.out _ ((bA).drew.drew),?_⟩;refine late_do_go (by simp[Region.wanted,yielded,g2,Act.put]) ?_
   go_wp2_with fail
   refine(HU.out _ _ ((bA).drew.drew) (ints_two w _ _)).mono ?_;rintro e W1 ⟨rfl,d0⟩;rw[d0];clear d0 W1
   go_wp2_with fail
   refine⟨HS.out _ ((bA).drew.drew),?_⟩
   iterate 2 refine Ze rfl (by rintro _ ⟨_,_,_,_,_⟩;go_simp<;>rfl) (by go_simp<;>rfl) ?_
   refine Yt ?_;go_wp2;go_ret;exact⟨cbE a0.out,(bA).drew.drew⟩
  |false=>
   go_enter func162,ntmps162
   go_wp2_with fail
   refine zzv HS ((Below.refl _ _).drew) [(0,0),(0,1),(0,2),(0,3),(0,4),(0,5),(0,6),(0,7),(0,8),(0,9),(0,10),(0,11),(0,12),(1,13),(0,14),(0,15),(0,16),(0,17),(0,18),(0,19),(0,20),(0,21),(0,22),(0,23),(0,24),(0,25),(0,26),(0,27),(0,28),(0,30),(0,31),(0,32),(0,33),(1,29),(1,34),(1,35),(0,36),(0,37)] [] [(7,14),(15,22)] (by kernel_rfl) (λc a d v w h=>by cases d<;>exact h) (λops ⟨g1,g2,_⟩=>?_)
   iterate 13 refine Ze (by first|rfl|simp[Region.wanted,yielded,g1,Act.put]) (by rintro _ ⟨_,_,_,_,_⟩;go_simp<;>rfl) (by go_simp<;>rfl) ?_
   refine late_do_go (by simp[Region.wanted,yielded,g1,Act.put]) ?_
   go_wp2_with fail
   refine(k0.out _ ((Below.refl _ _).drew)).mono ?_;rintro e W1 ⟨rfl,d0⟩;rw[d0];clear d0 W1
   go_wp2_with fail
   refine⟨HS.out _ ((Below.refl _ _).drew.drew),?_⟩
   iterate 2 refine Ze rfl (by rintro _ ⟨_,_,_,_,_⟩;go_simp<;>rfl) (by go_simp<;>rfl) ?_
   iterate 17
    refine late_skip rfl (c:=false) (by simp[yielded,g2,Act.put]) (by decide) ?_
   refine late_do_skip rfl (c:=false) (by simp[yielded,g2,Act.put]) (by decide) (HS.out _ (Below.refl _ _).drew.drew) ?_;refine late_do_skip rfl (c:=false) (by simp[yielded,g2,Act.put]) (by decide) (HS.out _ (Below.refl _ _).drew.drew) ?_;refine late_do_skip rfl (c:=false) (by simp[yielded,g2,Act.put]) (by decide) (HS.out _ (Below.refl _ _).drew.drew) ?_
   iterate 2 refine Ze rfl (by rintro _ ⟨_,_,_,_,_⟩;go_simp<;>rfl) (by go_simp<;>rfl) ?_
   refine Yt ?_;go_wp2;go_ret;exact⟨cbE a0.out,(Below.refl _ _).drew.drew⟩
 have j0:¬(an:Int)<(ls.length:Int):=by omega
 have HS:Hid (∀W,Below w.heap.size w W->W.cell? ⟨nb,no+1,none⟩=some (.int .i64 n.level)/\W.cell? ⟨nb,no+2,none⟩=some (.int .i64 (an:Nat))/\W.cell? ⟨nb,no+3,none⟩=some (.int .i64 (bn:Nat))/\True/\True):=λW hW=>⟨(hW.cell (p:=⟨nb,no+1,none⟩) e0).trans n1,(hW.cell (p:=⟨nb,no+2,none⟩) e0).trans n2,(hW.cell (p:=⟨nb,no+3,none⟩) e0).trans n3,trivial,trivial⟩;have a0:Hid (Fl.mayGo p x n ls=false):=by
  show _=_;unfold Fl.mayGo;rw[decide_eq_false (show ¬n.a<ls.length by omega),Bool.false_and]
 obtain⟨res,c0⟩:=nmE (Fl.mayGo p x n ls);rw[<-c0]at a0⊢;clear h hn b0 h0 i0 n1 n2 n3 hb f0 c0
 go_enter func162,ntmps162
 go_wp2_with fail
 refine zzv HS ((Below.refl _ _).drew) [(0,0),(0,1),(0,2),(0,3),(0,4),(0,5),(0,6),(0,7),(0,8),(0,9),(0,10),(0,11),(0,12),(1,13),(0,14),(0,15),(0,16),(0,17),(0,18),(0,19),(0,20),(0,21),(0,22),(0,23),(0,24),(0,25),(0,26),(0,27),(0,28),(0,30),(0,31),(0,32),(0,33),(1,29),(1,34),(1,35),(0,36),(0,37)] [] [(7,14),(15,22)] (by kernel_rfl) (λc a d v w h=>by cases d<;>exact h) (λops ⟨g1,g2,_⟩=>?_)
 iterate 8 refine Ze rfl (by rintro _ ⟨_,_,_,_,_⟩;go_simp<;>rfl) (by go_simp<;>rfl) ?_
 iterate 5
  refine late_skip rfl (c:=false) (by simp[yielded,g1,Act.put]) (by decide) ?_
 refine late_do_skip rfl (c:=false) (by simp[yielded,g1,Act.put]) (by decide) (HS.out _ (Below.refl _ _).drew) ?_
 iterate 2 refine Ze rfl (by rintro _ ⟨_,_,_,_,_⟩;go_simp<;>rfl) (by go_simp<;>rfl) ?_
 iterate 17
  refine late_skip rfl (c:=false) (by simp[yielded,g2,Act.put]) (by decide) ?_
 refine late_do_skip rfl (c:=false) (by simp[yielded,g2,Act.put]) (by decide) (HS.out _ (Below.refl _ _).drew) ?_;refine late_do_skip rfl (c:=false) (by simp[yielded,g2,Act.put]) (by decide) (HS.out _ (Below.refl _ _).drew) ?_;refine late_do_skip rfl (c:=false) (by simp[yielded,g2,Act.put]) (by decide) (HS.out _ (Below.refl _ _).drew) ?_
 iterate 2 refine Ze rfl (by rintro _ ⟨_,_,_,_,_⟩;go_simp<;>rfl) (by go_simp<;>rfl) ?_
 refine Yt ?_;go_wp2;go_ret;exact⟨cbE a0.out,(Below.refl _ _).drew⟩
end
section
variable{w:World}{Cb Pb Lb Rl nb no:Nat}{vv nv hv lv:Value}{p:Fl.Prog}{vs:List Int}{x:List Fl.Node}{n:Fl.Node}
def guards_any(h:ChkIn w Cb Pb Lb Rl vv nv hv p vs x)(hn:NdAt w nb no n lv)(ha:POk p x n.a)(within:Int)(hw:POk p x within)(hl:0<=n.level/\n.level<p.n):
  Calls prog 163 #[.pointer (some ⟨Cb,0,none⟩),.pointer (some ⟨nb,no,none⟩),.int .i64 within] w λe w'=>e=.returned (.bool (Fl.guards p x n within))/\Below w.heap.size w w':=by
 obtain⟨an,d0⟩:∃an:Nat,(an:Int)=n.a:=⟨n.a.toNat,by have:=ha.1;omega⟩;obtain⟨wn,e0⟩:∃wn:Nat,(wn:Int)=within:=⟨within.toNat,by have:=hw.1;omega⟩;have g0:=hn.hz;have n1:=hn.c1;have n2:=hn.c2;rw[<-d0]at n2;have f0:Hid (∀W,Below w.heap.size w W->Calls prog 160 #[.pointer (some ⟨Cb,0,none⟩),.int .i64 0,.int .i64 an] W λe w'=>e=.returned (.bool (decide (Fl.role (Fl.nd x n.a).kind=0)))/\w'=W.drew):=λW hW=>is_nd (h.below hW) 0 n.a ha an d0;have h0:Hid (∀W,Below w.heap.size w W->Calls prog 160 #[.pointer (some ⟨Cb,0,none⟩),.int .i64 2,.int .i64 wn] W λe w'=>e=.returned (.bool (decide (Fl.role (Fl.nd x within).kind=2)))/\w'=W.drew):=λW hW=>is_nd (h.below hW) 2 within hw wn e0;have i0:Hid (∀W,Below w.heap.size w W->Calls prog 161 #[.pointer (some ⟨Cb,0,none⟩),.int .i64 an] W λe w'=>e=.returned (.int .i64 (Fl.nd x n.a).level)/\w'=W):=λW hW=>level_nd (h.below hW) n.a ha an d0;have j0:Hid (∀W,Below w.heap.size w W->Calls prog 161 #[.pointer (some ⟨Cb,0,none⟩),.int .i64 wn] W λe w'=>e=.returned (.int .i64 (Fl.nd x within).level)/\w'=W):=λW hW=>level_nd (h.below hW) within hw wn e0;have HS:Hid (∀W,Below w.heap.size w W->W.cell? ⟨nb,no+1,none⟩=some (.int .i64 n.level)/\W.cell? ⟨nb,no+2,none⟩=some (.int .i64 (an:Nat))/\True/\True/\True):=λW hW=>⟨(hW.cell (p:=⟨nb,no+1,none⟩) g0).trans n1,(hW.cell (p:=⟨nb,no+2,none⟩) g0).trans n2,trivial,trivial,trivial⟩;have HU:Hid (∀W v,Below w.heap.size w W->Zy W.heap.size W v [(Fl.nd x n.a).level,n.level]->Calls prog 159 #[.pointer (some ⟨Cb,0,none⟩),.int .i64 (Fl.nd x within).level,v] W λe w'=>e=.returned (.bool (Fl.under p (Fl.nd x n.a).level (Fl.nd x within).level && Fl.under p n.level (Fl.nd x within).level))/\w'=W):=λW v hW hv2=>under_two (h.below hW) _ ⟨hw.2.2.1,hw.2.2.2.1⟩ _ _ ⟨ha.2.2.1,ha.2.2.2.1⟩ hl v hv2;have b0:Hid (Fl.guards p x n within=(decide (Fl.role (Fl.nd x n.a).kind=0) && (decide (Fl.role (Fl.nd x within).kind=2) && (Fl.under p (Fl.nd x n.a).level (Fl.nd x within).level && Fl.under p n.level (Fl.nd x within).level)))):=rfl;generalize decide (Fl.role (Fl.nd x n.a).kind=0)=isa at*;generalize decide (Fl.role (Fl.nd x within).kind=2)=isw at*;generalize (Fl.under p (Fl.nd x n.a).level (Fl.nd x within).level && Fl.under p n.level (Fl.nd x within).level)=un at*;generalize (Fl.nd x n.a).level=la at*;generalize (Fl.nd x within).level=lw at*;obtain⟨res,c0⟩:=nmE (Fl.guards p x n within);rw[<-c0]at b0⊢;rw[<-e0];clear h hn d0 n1 n2 ha hw e0 c0
 cases isa with
 |true=>
  cases isw with
  |true=>
   go_enter func163,ntmps163
   go_wp2_with fail
   refine zzv HS ((Below.refl _ _).drew) [(0,0),(0,1),(0,2),(0,3),(0,4),(1,5),(0,6),(0,7),(0,8),(1,9),(0,10),(0,11),(0,12),(0,13),(0,14),(0,16),(0,17),(0,18),(0,19),(0,20),(0,22),(0,23),(0,24),(0,25),(1,15),(1,21),(1,26),(1,27),(0,28),(0,29)] [] [(6,13),(11,18)] (by kernel_rfl) (λc a d v w h=>by cases d<;>exact h) (λops ⟨g1,g2,_⟩=>?_)
   iterate 5 refine Ze rfl (by rintro _ ⟨_,_,_,_,_⟩;go_simp<;>rfl) (by go_simp<;>rfl) ?_
   refine Zs ?_
   go_wp2_with fail
   refine(f0.out _ ((Below.refl _ _).drew)).mono ?_;rintro e W1 ⟨rfl,a0⟩;rw[a0];clear a0 W1
   go_wp2_with fail
   refine⟨HS.out _ ((Below.refl _ _).drew.drew),?_⟩
   iterate 3 refine Ze (by first|rfl|simp[Region.wanted,yielded,g1,Act.put]) (by rintro _ ⟨_,_,_,_,_⟩;go_simp<;>rfl) (by go_simp<;>rfl) ?_
   refine late_do_go (by simp[Region.wanted,yielded,g1,Act.put]) ?_
   go_wp2_with fail
   refine(h0.out _ ((Below.refl _ _).drew.drew)).mono ?_;rintro e W1 ⟨rfl,a0⟩;rw[a0];clear a0 W1
   go_wp2_with fail
   refine⟨HS.out _ ((Below.refl _ _).drew.drew.drew),?_⟩
   iterate 14 refine Ze (by first|rfl|simp[Region.wanted,yielded,g2,Act.put]) (by rintro _ ⟨_,_,_,_,_⟩;go_simp<;>rfl) (by go_simp<;>rfl) ?_
   refine late_do_go (by simp[Region.wanted,yielded,g2,Act.put]) ?_
   go_wp2_with fail
   refine(j0.out _ ((Below.refl _ _).drew.drew.drew)).mono ?_;rintro e W1 ⟨rfl,a0⟩;rw[a0];clear a0 W1
   go_wp2_with fail
   refine⟨HS.out _ ((Below.refl _ _).drew.drew.drew),?_⟩;refine late_do_go (by simp[Region.wanted,yielded,g2,Act.put]) ?_
   go_wp2_with fail
   refine(i0.out _ ((Below.refl _ _).drew.drew.drew)).mono ?_;rintro e W1 ⟨rfl,a0⟩;rw[a0];clear a0 W1
   go_wp2_with fail
   refine⟨HS.out _ ((Below.refl _ _).drew.drew.drew),?_⟩;refine late_do_go (by simp[Region.wanted,yielded,g2,Act.put]) ?_
   go_wp2_with fail
   refine⟨HS.out _ ((bA).drew.drew.drew),?_⟩;refine late_do_go (by simp[Region.wanted,yielded,g2,Act.put]) ?_
   go_wp2_with fail
   refine(HU.out _ _ ((bA).drew.drew.drew) (ints_two w _ _)).mono ?_;rintro e W1 ⟨rfl,a0⟩;rw[a0];clear a0 W1
   go_wp2_with fail
   refine⟨HS.out _ ((bA).drew.drew.drew),?_⟩
   iterate 2 refine Ze rfl (by rintro _ ⟨_,_,_,_,_⟩;go_simp<;>rfl) (by go_simp<;>rfl) ?_
   refine Yt ?_;go_wp2;go_ret;exact⟨cbE b0.out,(bA).drew.drew.drew⟩
  |false=>
   go_enter func163,ntmps163
   go_wp2_with fail
   refine zzv HS ((Below.refl _ _).drew) [(0,0),(0,1),(0,2),(0,3),(0,4),(1,5),(0,6),(0,7),(0,8),(1,9),(0,10),(0,11),(0,12),(0,13),(0,14),(0,16),(0,17),(0,18),(0,19),(0,20),(0,22),(0,23),(0,24),(0,25),(1,15),(1,21),(1,26),(1,27),(0,28),(0,29)] [] [(6,13),(11,18)] (by kernel_rfl) (λc a d v w h=>by cases d<;>exact h) (λops ⟨g1,g2,_⟩=>?_)
   iterate 5 refine Ze rfl (by rintro _ ⟨_,_,_,_,_⟩;go_simp<;>rfl) (by go_simp<;>rfl) ?_
   refine Zs ?_
   go_wp2_with fail
   refine(f0.out _ ((Below.refl _ _).drew)).mono ?_;rintro e W1 ⟨rfl,a0⟩;rw[a0];clear a0 W1
   go_wp2_with fail
   refine⟨HS.out _ ((Below.refl _ _).drew.drew),?_⟩
   iterate 3 refine Ze (by first|rfl|simp[Region.wanted,yielded,g1,Act.put]) (by rintro _ ⟨_,_,_,_,_⟩;go_simp<;>rfl) (by go_simp<;>rfl) ?_
   refine late_do_go (by simp[Region.wanted,yielded,g1,Act.put]) ?_
   go_wp2_with fail
   refine(h0.out _ ((Below.refl _ _).drew.drew)).mono ?_;rintro e W1 ⟨rfl,a0⟩;rw[a0];clear a0 W1
   go_wp2_with fail
   refine⟨HS.out _ ((Below.refl _ _).drew.drew.drew),?_⟩
   iterate 2 refine Ze rfl (by rintro _ ⟨_,_,_,_,_⟩;go_simp<;>rfl) (by go_simp<;>rfl) ?_
   iterate 12
    refine late_skip rfl (c:=false) (by simp[yielded,g2,Act.put]) (by decide) ?_
   refine late_do_skip rfl (c:=false) (by simp[yielded,g2,Act.put]) (by decide) (HS.out _ (Below.refl _ _).drew.drew.drew) ?_;refine late_do_skip rfl (c:=false) (by simp[yielded,g2,Act.put]) (by decide) (HS.out _ (Below.refl _ _).drew.drew.drew) ?_;refine late_do_skip rfl (c:=false) (by simp[yielded,g2,Act.put]) (by decide) (HS.out _ (Below.refl _ _).drew.drew.drew) ?_;refine late_do_skip rfl (c:=false) (by simp[yielded,g2,Act.put]) (by decide) (HS.out _ (Below.refl _ _).drew.drew.drew) ?_
   iterate 2 refine Ze rfl (by rintro _ ⟨_,_,_,_,_⟩;go_simp<;>rfl) (by go_simp<;>rfl) ?_
   refine Yt ?_;go_wp2;go_ret;exact⟨cbE b0.out,(Below.refl _ _).drew.drew.drew⟩
 |false=>
  go_enter func163,ntmps163
  go_wp2_with fail
  refine zzv HS ((Below.refl _ _).drew) [(0,0),(0,1),(0,2),(0,3),(0,4),(1,5),(0,6),(0,7),(0,8),(1,9),(0,10),(0,11),(0,12),(0,13),(0,14),(0,16),(0,17),(0,18),(0,19),(0,20),(0,22),(0,23),(0,24),(0,25),(1,15),(1,21),(1,26),(1,27),(0,28),(0,29)] [] [(6,13),(11,18)] (by kernel_rfl) (λc a d v w h=>by cases d<;>exact h) (λops ⟨g1,g2,_⟩=>?_)
  iterate 5 refine Ze rfl (by rintro _ ⟨_,_,_,_,_⟩;go_simp<;>rfl) (by go_simp<;>rfl) ?_
  refine Zs ?_
  go_wp2_with fail
  refine(f0.out _ ((Below.refl _ _).drew)).mono ?_;rintro e W1 ⟨rfl,a0⟩;rw[a0];clear a0 W1
  go_wp2_with fail
  refine⟨HS.out _ ((Below.refl _ _).drew.drew),?_⟩;refine Ze rfl (by rintro _ ⟨_,_,_,_,_⟩;go_simp<;>rfl) (by go_simp<;>rfl) ?_
  iterate 2
   refine late_skip rfl (c:=false) (by simp[yielded,g1,Act.put]) (by decide) ?_
  refine late_do_skip rfl (c:=false) (by simp[yielded,g1,Act.put]) (by decide) (HS.out _ (Below.refl _ _).drew.drew) ?_
  iterate 2 refine Ze rfl (by rintro _ ⟨_,_,_,_,_⟩;go_simp<;>rfl) (by go_simp<;>rfl) ?_
  iterate 12
   refine late_skip rfl (c:=false) (by simp[yielded,g2,Act.put]) (by decide) ?_
  refine late_do_skip rfl (c:=false) (by simp[yielded,g2,Act.put]) (by decide) (HS.out _ (Below.refl _ _).drew.drew) ?_;refine late_do_skip rfl (c:=false) (by simp[yielded,g2,Act.put]) (by decide) (HS.out _ (Below.refl _ _).drew.drew) ?_;refine late_do_skip rfl (c:=false) (by simp[yielded,g2,Act.put]) (by decide) (HS.out _ (Below.refl _ _).drew.drew) ?_;refine late_do_skip rfl (c:=false) (by simp[yielded,g2,Act.put]) (by decide) (HS.out _ (Below.refl _ _).drew.drew) ?_
  iterate 2 refine Ze rfl (by rintro _ ⟨_,_,_,_,_⟩;go_simp<;>rfl) (by go_simp<;>rfl) ?_
  refine Yt ?_;go_wp2;go_ret;exact⟨cbE b0.out,(Below.refl _ _).drew.drew⟩
def opFollows_any(h:ChkIn w Cb Pb Lb Rl vv nv hv p vs x)(hn:NdAt w nb no n lv)(hb:POk p x n.b)(hc:POk p x n.c)(hl:0<=n.level/\n.level<p.n):
  Calls prog 117 #[.pointer (some ⟨Cb,0,none⟩),.pointer (some ⟨nb,no,none⟩)] w λe w'=>e=.returned (.bool (decide (n.a<5) && (decide (Fl.role (Fl.nd x n.b).kind=0) && (decide (Fl.role (Fl.nd x n.c).kind=0) && (Fl.under p (Fl.nd x n.b).level n.level && Fl.under p (Fl.nd x n.c).level n.level)))))/\Below w.heap.size w w':=by
 obtain⟨bn,c0⟩:∃bn:Nat,(bn:Int)=n.b:=⟨n.b.toNat,by have:=hb.1;omega⟩;obtain⟨cn,d0⟩:∃cn:Nat,(cn:Int)=n.c:=⟨n.c.toNat,by have:=hc.1;omega⟩;have e0:=hn.hz;have n1:=hn.c1;have n2:=hn.c2;have n3:=hn.c3;have n4:=hn.c4;rw[<-c0]at n3;rw[<-d0]at n4;have f0:Hid (∀W,Below w.heap.size w W->Calls prog 160 #[.pointer (some ⟨Cb,0,none⟩),.int .i64 0,.int .i64 bn] W λe w'=>e=.returned (.bool (decide (Fl.role (Fl.nd x n.b).kind=0)))/\w'=W.drew):=λW hW=>is_nd (h.below hW) 0 n.b hb bn c0;have g0:Hid (∀W,Below w.heap.size w W->Calls prog 160 #[.pointer (some ⟨Cb,0,none⟩),.int .i64 0,.int .i64 cn] W λe w'=>e=.returned (.bool (decide (Fl.role (Fl.nd x n.c).kind=0)))/\w'=W.drew):=λW hW=>is_nd (h.below hW) 0 n.c hc cn d0;have h0:Hid (∀W,Below w.heap.size w W->Calls prog 161 #[.pointer (some ⟨Cb,0,none⟩),.int .i64 bn] W λe w'=>e=.returned (.int .i64 (Fl.nd x n.b).level)/\w'=W):=λW hW=>level_nd (h.below hW) n.b hb bn c0;have i0:Hid (∀W,Below w.heap.size w W->Calls prog 161 #[.pointer (some ⟨Cb,0,none⟩),.int .i64 cn] W λe w'=>e=.returned (.int .i64 (Fl.nd x n.c).level)/\w'=W):=λW hW=>level_nd (h.below hW) n.c hc cn d0;have HS:Hid (∀W,Below w.heap.size w W->W.cell? ⟨nb,no+1,none⟩=some (.int .i64 n.level)/\W.cell? ⟨nb,no+2,none⟩=some (.int .i64 n.a)/\W.cell? ⟨nb,no+3,none⟩=some (.int .i64 (bn:Nat))/\W.cell? ⟨nb,no+4,none⟩=some (.int .i64 (cn:Nat))/\True):=λW hW=>⟨(hW.cell (p:=⟨nb,no+1,none⟩) e0).trans n1,(hW.cell (p:=⟨nb,no+2,none⟩) e0).trans n2,(hW.cell (p:=⟨nb,no+3,none⟩) e0).trans n3,(hW.cell (p:=⟨nb,no+4,none⟩) e0).trans n4,trivial⟩;have HU:Hid (∀W v,Below w.heap.size w W->Zy W.heap.size W v [(Fl.nd x n.b).level,(Fl.nd x n.c).level]->Calls prog 159 #[.pointer (some ⟨Cb,0,none⟩),.int .i64 n.level,v] W λe w'=>e=.returned (.bool (Fl.under p (Fl.nd x n.b).level n.level && Fl.under p (Fl.nd x n.c).level n.level))/\w'=W):=λW v hW hv2=>under_two (h.below hW) _ hl _ _ ⟨hb.2.2.1,hb.2.2.2.1⟩ ⟨hc.2.2.1,hc.2.2.2.1⟩ v hv2;generalize decide (Fl.role (Fl.nd x n.b).kind=0)=isa at*;generalize decide (Fl.role (Fl.nd x n.c).kind=0)=isw at*;generalize (Fl.under p (Fl.nd x n.b).level n.level && Fl.under p (Fl.nd x n.c).level n.level)=un at*;generalize (Fl.nd x n.b).level=la at*;generalize (Fl.nd x n.c).level=lw at*;clear h hn n1 n2 n3 n4 hb hc c0 d0
 by_cases h5:n.a<5
 ·have b0:Hid ((decide (n.a<5) && (isa && (isw && un)))=(isa && (isw && un))):=by show _=_;rw[decide_eq_true h5,Bool.true_and]
  cases isa with
  |true=>
   cases isw with
   |true=>
    go_enter func117,ntmps117
    go_wp2_with fail
    refine zzv HS ((Below.refl _ _).drew) [(0,0),(0,1),(0,2),(0,3),(0,4),(0,5),(0,6),(0,7),(0,8),(0,9),(0,10),(1,11),(0,12),(0,13),(0,14),(0,15),(0,16),(0,17),(0,18),(1,19),(0,20),(0,21),(0,22),(0,23),(0,24),(0,25),(0,26),(0,27),(0,28),(0,29),(0,30),(0,31),(0,33),(0,34),(0,35),(0,36),(0,37),(1,32),(1,38),(1,39),(1,40),(0,41),(0,42)] [] [(5,10),(13,18),(21,26)] (by kernel_rfl) (λc a d v w h=>by cases d<;>exact h) (λops ⟨g1,g2,g3,_⟩=>?_)
    iterate 11 refine Ze (by first|rfl|simp[Region.wanted,yielded,g1,Act.put]) (by rintro _ ⟨_,_,_,_,_⟩;go_simp<;>rfl) (by go_simp<;>rfl) ?_
    refine late_do_go (by simp[Region.wanted,yielded,g1,Act.put]) ?_
    go_wp2_with fail
    refine(f0.out _ ((Below.refl _ _).drew)).mono ?_;rintro e W1 ⟨rfl,a0⟩;rw[a0];clear a0 W1
    go_wp2_with fail
    refine⟨HS.out _ ((Below.refl _ _).drew.drew),?_⟩
    iterate 7 refine Ze (by first|rfl|simp[Region.wanted,yielded,g2,Act.put]) (by rintro _ ⟨_,_,_,_,_⟩;go_simp<;>rfl) (by go_simp<;>rfl) ?_
    refine late_do_go (by simp[Region.wanted,yielded,g2,Act.put]) ?_
    go_wp2_with fail
    refine(g0.out _ ((Below.refl _ _).drew.drew)).mono ?_;rintro e W1 ⟨rfl,a0⟩;rw[a0];clear a0 W1
    go_wp2_with fail
    refine⟨HS.out _ ((Below.refl _ _).drew.drew.drew),?_⟩
    iterate 17 refine Ze (by first|rfl|simp[Region.wanted,yielded,g3,Act.put]) (by rintro _ ⟨_,_,_,_,_⟩;go_simp<;>rfl) (by go_simp<;>rfl) ?_
    refine late_do_go (by simp[Region.wanted,yielded,g3,Act.put]) ?_
    go_wp2_with fail
    refine(h0.out _ ((Below.refl _ _).drew.drew.drew)).mono ?_;rintro e W1 ⟨rfl,a0⟩;rw[a0];clear a0 W1
    go_wp2_with fail
    refine⟨HS.out _ ((Below.refl _ _).drew.drew.drew),?_⟩;refine late_do_go (by simp[Region.wanted,yielded,g3,Act.put]) ?_
    go_wp2_with fail
    refine(i0.out _ ((Below.refl _ _).drew.drew.drew)).mono ?_;rintro e W1 ⟨rfl,a0⟩;rw[a0];clear a0 W1
    go_wp2_with fail
    refine⟨HS.out _ ((Below.refl _ _).drew.drew.drew),?_⟩;refine late_do_go (by simp[Region.wanted,yielded,g3,Act.put]) ?_
    go_wp2_with fail
    refine⟨HS.out _ ((bA).drew.drew.drew),?_⟩;refine late_do_go (by simp[Region.wanted,yielded,g3,Act.put]) ?_
    go_wp2_with fail
    refine(HU.out _ _ ((bA).drew.drew.drew) (ints_two w _ _)).mono ?_;rintro e W1 ⟨rfl,a0⟩;rw[a0];clear a0 W1
    go_wp2_with fail
    refine⟨HS.out _ ((bA).drew.drew.drew),?_⟩
    iterate 2 refine Ze rfl (by rintro _ ⟨_,_,_,_,_⟩;go_simp<;>rfl) (by go_simp<;>rfl) ?_
    refine Yt ?_;go_wp2;go_ret;exact⟨cbE b0.out,(bA).drew.drew.drew⟩
   |false=>
    go_enter func117,ntmps117
    go_wp2_with fail
    refine zzv HS ((Below.refl _ _).drew) [(0,0),(0,1),(0,2),(0,3),(0,4),(0,5),(0,6),(0,7),(0,8),(0,9),(0,10),(1,11),(0,12),(0,13),(0,14),(0,15),(0,16),(0,17),(0,18),(1,19),(0,20),(0,21),(0,22),(0,23),(0,24),(0,25),(0,26),(0,27),(0,28),(0,29),(0,30),(0,31),(0,33),(0,34),(0,35),(0,36),(0,37),(1,32),(1,38),(1,39),(1,40),(0,41),(0,42)] [] [(5,10),(13,18),(21,26)] (by kernel_rfl) (λc a d v w h=>by cases d<;>exact h) (λops ⟨g1,g2,g3,_⟩=>?_)
    iterate 11 refine Ze (by first|rfl|simp[Region.wanted,yielded,g1,Act.put]) (by rintro _ ⟨_,_,_,_,_⟩;go_simp<;>rfl) (by go_simp<;>rfl) ?_
    refine late_do_go (by simp[Region.wanted,yielded,g1,Act.put]) ?_
    go_wp2_with fail
    refine(f0.out _ ((Below.refl _ _).drew)).mono ?_;rintro e W1 ⟨rfl,a0⟩;rw[a0];clear a0 W1
    go_wp2_with fail
    refine⟨HS.out _ ((Below.refl _ _).drew.drew),?_⟩
    iterate 7 refine Ze (by first|rfl|simp[Region.wanted,yielded,g2,Act.put]) (by rintro _ ⟨_,_,_,_,_⟩;go_simp<;>rfl) (by go_simp<;>rfl) ?_
    refine late_do_go (by simp[Region.wanted,yielded,g2,Act.put]) ?_
    go_wp2_with fail
    refine(g0.out _ ((Below.refl _ _).drew.drew)).mono ?_;rintro e W1 ⟨rfl,a0⟩;rw[a0];clear a0 W1
    go_wp2_with fail
    refine⟨HS.out _ ((Below.refl _ _).drew.drew.drew),?_⟩
    iterate 2 refine Ze rfl (by rintro _ ⟨_,_,_,_,_⟩;go_simp<;>rfl) (by go_simp<;>rfl) ?_
    iterate 15
     refine late_skip rfl (c:=false) (by simp[yielded,g3,Act.put]) (by decide) ?_
    refine late_do_skip rfl (c:=false) (by simp[yielded,g3,Act.put]) (by decide) (HS.out _ (Below.refl _ _).drew.drew.drew) ?_;refine late_do_skip rfl (c:=false) (by simp[yielded,g3,Act.put]) (by decide) (HS.out _ (Below.refl _ _).drew.drew.drew) ?_;refine late_do_skip rfl (c:=false) (by simp[yielded,g3,Act.put]) (by decide) (HS.out _ (Below.refl _ _).drew.drew.drew) ?_;refine late_do_skip rfl (c:=false) (by simp[yielded,g3,Act.put]) (by decide) (HS.out _ (Below.refl _ _).drew.drew.drew) ?_
    iterate 2 refine Ze rfl (by rintro _ ⟨_,_,_,_,_⟩;go_simp<;>rfl) (by go_simp<;>rfl) ?_
    refine Yt ?_;go_wp2;go_ret;exact⟨cbE b0.out,(Below.refl _ _).drew.drew.drew⟩
  |false=>
   go_enter func117,ntmps117
   go_wp2_with fail
   refine zzv HS ((Below.refl _ _).drew) [(0,0),(0,1),(0,2),(0,3),(0,4),(0,5),(0,6),(0,7),(0,8),(0,9),(0,10),(1,11),(0,12),(0,13),(0,14),(0,15),(0,16),(0,17),(0,18),(1,19),(0,20),(0,21),(0,22),(0,23),(0,24),(0,25),(0,26),(0,27),(0,28),(0,29),(0,30),(0,31),(0,33),(0,34),(0,35),(0,36),(0,37),(1,32),(1,38),(1,39),(1,40),(0,41),(0,42)] [] [(5,10),(13,18),(21,26)] (by kernel_rfl) (λc a d v w h=>by cases d<;>exact h) (λops ⟨g1,g2,g3,_⟩=>?_)
   iterate 11 refine Ze (by first|rfl|simp[Region.wanted,yielded,g1,Act.put]) (by rintro _ ⟨_,_,_,_,_⟩;go_simp<;>rfl) (by go_simp<;>rfl) ?_
   refine late_do_go (by simp[Region.wanted,yielded,g1,Act.put]) ?_
   go_wp2_with fail
   refine(f0.out _ ((Below.refl _ _).drew)).mono ?_;rintro e W1 ⟨rfl,a0⟩;rw[a0];clear a0 W1
   go_wp2_with fail
   refine⟨HS.out _ ((Below.refl _ _).drew.drew),?_⟩
   iterate 2 refine Ze rfl (by rintro _ ⟨_,_,_,_,_⟩;go_simp<;>rfl) (by go_simp<;>rfl) ?_
   iterate 5
    refine late_skip rfl (c:=false) (by simp[yielded,g2,Act.put]) (by decide) ?_
   refine late_do_skip rfl (c:=false) (by simp[yielded,g2,Act.put]) (by decide) (HS.out _ (Below.refl _ _).drew.drew) ?_
   iterate 2 refine Ze rfl (by rintro _ ⟨_,_,_,_,_⟩;go_simp<;>rfl) (by go_simp<;>rfl) ?_
   iterate 15
    refine late_skip rfl (c:=false) (by simp[yielded,g3,Act.put]) (by decide) ?_
   refine late_do_skip rfl (c:=false) (by simp[yielded,g3,Act.put]) (by decide) (HS.out _ (Below.refl _ _).drew.drew) ?_;refine late_do_skip rfl (c:=false) (by simp[yielded,g3,Act.put]) (by decide) (HS.out _ (Below.refl _ _).drew.drew) ?_;refine late_do_skip rfl (c:=false) (by simp[yielded,g3,Act.put]) (by decide) (HS.out _ (Below.refl _ _).drew.drew) ?_;refine late_do_skip rfl (c:=false) (by simp[yielded,g3,Act.put]) (by decide) (HS.out _ (Below.refl _ _).drew.drew) ?_
   iterate 2 refine Ze rfl (by rintro _ ⟨_,_,_,_,_⟩;go_simp<;>rfl) (by go_simp<;>rfl) ?_
   refine Yt ?_;go_wp2;go_ret;exact⟨cbE b0.out,(Below.refl _ _).drew.drew⟩
 have b0:Hid ((decide (n.a<5) && (isa && (isw && un)))=false):=by show _=_;rw[decide_eq_false h5,Bool.false_and]
 have d5:(n.a<5)=False:=eq_false h5;clear h5
 go_enter func117,ntmps117
 go_wp2_with fail
 refine zzv HS ((Below.refl _ _).drew) [(0,0),(0,1),(0,2),(0,3),(0,4),(0,5),(0,6),(0,7),(0,8),(0,9),(0,10),(1,11),(0,12),(0,13),(0,14),(0,15),(0,16),(0,17),(0,18),(1,19),(0,20),(0,21),(0,22),(0,23),(0,24),(0,25),(0,26),(0,27),(0,28),(0,29),(0,30),(0,31),(0,33),(0,34),(0,35),(0,36),(0,37),(1,32),(1,38),(1,39),(1,40),(0,41),(0,42)] [] [(5,10),(13,18),(21,26)] (by kernel_rfl) (λc a d v w h=>by cases d<;>exact h) (λops ⟨g1,g2,g3,_⟩=>?_)
 iterate 6 refine Ze rfl (by rintro _ ⟨_,_,_,_,_⟩;go_simp<;>rfl) (by go_simp<;>rfl) ?_
 iterate 5
  refine late_skip rfl (c:=false) (by simp[yielded,g1,Act.put,d5]) (by decide) ?_
 refine late_do_skip rfl (c:=false) (by simp[yielded,g1,Act.put,d5]) (by decide) (HS.out _ (Below.refl _ _).drew) ?_
 iterate 2 refine Ze rfl (by rintro _ ⟨_,_,_,_,_⟩;go_simp<;>rfl) (by go_simp<;>rfl) ?_
 iterate 5
  refine late_skip rfl (c:=false) (by simp[yielded,g2,Act.put,d5]) (by decide) ?_
 refine late_do_skip rfl (c:=false) (by simp[yielded,g2,Act.put,d5]) (by decide) (HS.out _ (Below.refl _ _).drew) ?_
 iterate 2 refine Ze rfl (by rintro _ ⟨_,_,_,_,_⟩;go_simp<;>rfl) (by go_simp<;>rfl) ?_
 iterate 15
  refine late_skip rfl (c:=false) (by simp[yielded,g3,Act.put,d5]) (by decide) ?_
 refine late_do_skip rfl (c:=false) (by simp[yielded,g3,Act.put,d5]) (by decide) (HS.out _ (Below.refl _ _).drew) ?_;refine late_do_skip rfl (c:=false) (by simp[yielded,g3,Act.put,d5]) (by decide) (HS.out _ (Below.refl _ _).drew) ?_;refine late_do_skip rfl (c:=false) (by simp[yielded,g3,Act.put,d5]) (by decide) (HS.out _ (Below.refl _ _).drew) ?_;refine late_do_skip rfl (c:=false) (by simp[yielded,g3,Act.put,d5]) (by decide) (HS.out _ (Below.refl _ _).drew) ?_
 iterate 2 refine Ze rfl (by rintro _ ⟨_,_,_,_,_⟩;go_simp<;>rfl) (by go_simp<;>rfl) ?_
 refine Yt ?_;go_wp2;go_ret;exact⟨cbE b0.out,(Below.refl _ _).drew⟩
end
section
variable{w:World}{Cb Pb Lb Rl nb no:Nat}{vv nv hv lv:Value}{p:Fl.Prog}{vs:List Int}{x:List Fl.Node}{n:Fl.Node}
def numFollows_any(a b:Value):Calls prog 115 #[a,b] w λe w'=>e=.returned (.bool true)/\Below w.heap.size w w':=by
 go_enter func115,ntmps115
 go_wp2;go_ret;exact⟨rfl,Below.refl _ _⟩
def setFollows_any(h:ChkIn w Cb Pb Lb Rl vv nv hv p vs x)(hn:NdAt w nb no n lv)(ha:0<=n.a)(hb:POk p x n.b)(hl:0<=n.level/\n.level<p.n)(b0:∀y∈vs,0<=y/\y<p.n)(c0:vs.length<=100):
  Calls prog 118 #[.pointer (some ⟨Cb,0,none⟩),.pointer (some ⟨nb,no,none⟩)] w λe w'=>e=.returned (.bool (Fl.mayGo p x n vs))/\Below w.heap.size w w':=by
 have HM:Hid (Calls prog 162 #[.pointer (some ⟨Cb,0,none⟩),.pointer (some ⟨nb,no,none⟩),vv] w λe w'=>e=.returned (.bool (Fl.mayGo p x n vs))/\Below w.heap.size w w'):=mayGo_any h hn ha hb hl vv vs h.vi b0 c0;obtain⟨a,c,rfl⟩:=Jn h.vi;have c1:=h.c1;clear h hn hb
 go_enter func118,ntmps118
 go_wp2_with fail
 refine HM.out.mono ?_;rintro e w1 ⟨rfl,a0⟩;have HW:=Zz a0;clear a0;go_wp2;go_ret;exact⟨rfl,HW.out⟩
def outFollows_any(h:ChkIn w Cb Pb Lb Rl vv nv hv p vs x)(hn:NdAt w nb no n lv)(ha:0<=n.a)(hb:POk p x n.b)(hl:0<=n.level/\n.level<p.n)(d0:∀y∈p.chans,y<p.n)(e0:p.chans.length<=100):
  Calls prog 119 #[.pointer (some ⟨Cb,0,none⟩),.pointer (some ⟨nb,no,none⟩)] w λe w'=>e=.returned (.bool (Fl.mayGo p x n (p.chans.map λ(y:Nat)=>(y:Int))))/\Below w.heap.size w w':=by
 have HM:Hid (Calls prog 162 #[.pointer (some ⟨Cb,0,none⟩),.pointer (some ⟨nb,no,none⟩),hv] w λe w'=>e=.returned (.bool (Fl.mayGo p x n (p.chans.map λ(y:Nat)=>(y:Int))))/\Below w.heap.size w w'):=mayGo_any h hn ha hb hl hv _ h.hi (by intro y hy;obtain⟨z,hz,rfl⟩:=List.mem_map.1 hy;have:=d0 z hz;omega) (by simpa using e0);obtain⟨a,c,a0⟩:=Jn h.hi;rw[List.length_map]at a0;subst a0;have c0:=h.c0;have p2:=h.p2;clear h hn hb
 go_enter func119,ntmps119
 go_wp2_with fail
 refine HM.out.mono ?_;rintro e w1 ⟨rfl,b0⟩;have HW:=Zz b0;clear b0;go_wp2;go_ret;exact⟨rfl,HW.out⟩
def whileFollows_any(h:ChkIn w Cb Pb Lb Rl vv nv hv p vs x)(hn:NdAt w nb no n lv)(ha:POk p x n.a)(hb:POk p x n.b)(hl:0<=n.level/\n.level<p.n):
  Calls prog 121 #[.pointer (some ⟨Cb,0,none⟩),.pointer (some ⟨nb,no,none⟩)] w λe w'=>e=.returned (.bool (Fl.guards p x n n.b))/\Below w.heap.size w w':=by
 have HM:Hid (Calls prog 163 #[.pointer (some ⟨Cb,0,none⟩),.pointer (some ⟨nb,no,none⟩),.int .i64 n.b] w λe w'=>e=.returned (.bool (Fl.guards p x n n.b))/\Below w.heap.size w w'):=guards_any h hn ha n.b hb hl;have n3:=hn.c3;clear h hn hb ha
 go_enter func121,ntmps121
 go_wp2_with fail
 refine HM.out.mono ?_;rintro e w1 ⟨rfl,a0⟩;have HW:=Zz a0;clear a0;go_wp2;go_ret;exact⟨rfl,HW.out⟩
def ifFollows_any(h:ChkIn w Cb Pb Lb Rl vv nv hv p vs x)(hn:NdAt w nb no n lv)(ha:POk p x n.a)(hb:POk p x n.b)(hc:POk p x n.c)(hl:0<=n.level/\n.level<p.n):
  Calls prog 120 #[.pointer (some ⟨Cb,0,none⟩),.pointer (some ⟨nb,no,none⟩)] w λe w'=>e=.returned (.bool (Fl.guards p x n n.b && Fl.guards p x n n.c))/\Below w.heap.size w w':=by
 have HM:Hid (Calls prog 163 #[.pointer (some ⟨Cb,0,none⟩),.pointer (some ⟨nb,no,none⟩),.int .i64 n.b] w λe w'=>e=.returned (.bool (Fl.guards p x n n.b))/\Below w.heap.size w w'):=guards_any h hn ha n.b hb hl;have HN:Hid (∀W,Below w.heap.size w W->W.cell? ⟨nb,no+4,none⟩=some (.int .i64 n.c)/\Calls prog 163 #[.pointer (some ⟨Cb,0,none⟩),.pointer (some ⟨nb,no,none⟩),.int .i64 n.c] W λe w'=>e=.returned (.bool (Fl.guards p x n n.c))/\Below W.heap.size W w'):=λW hW=>⟨(hn.below hW).c4,guards_any (h.below hW) (hn.below hW) ha n.c hc hl⟩;have n3:=hn.c3;generalize Fl.guards p x n n.b=gb at*;generalize Fl.guards p x n n.c=gc at*;clear h hn hb ha hc
 go_enter func120,ntmps120
 go_wp2_with fail
 refine HM.out.mono ?_;rintro e w1 ⟨rfl,a0⟩;have HW:=Zz a0;obtain⟨n4,hg⟩:=HN.out w1 a0;have HG:=Zz hg;clear a0 hg HN
 cases gb with
 |false=>
  go_wp2;go_ret;exact⟨rfl,HW.out⟩
 |true=>
  go_wp2_with fail
  refine HG.out.mono ?_;rintro e w2 ⟨rfl,b0⟩;have c0:Hid (Below w.heap.size w w2):=HW.out.trans (b0.mono HW.out.size);clear b0;go_wp2;go_ret;exact⟨rfl,c0.out⟩
end
end Go.Proofs.YtminjljgedopkaaGreatDoor
