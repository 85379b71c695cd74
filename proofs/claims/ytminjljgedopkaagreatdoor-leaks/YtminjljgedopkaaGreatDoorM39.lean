import Derived.Test.YtminjljgedopkaaGreatDoorM20
import Derived.Test.YtminjljgedopkaaGreatDoorM23
import Derived.Test.YtminjljgedopkaaGreatDoorM38
set_option linter.all false
set_option maxRecDepth 100000
set_option maxHeartbeats 40000000
namespace Go.Proofs.YtminjljgedopkaaGreatDoor
open Go.RowKit Go.Proofs.Tryz
def VIdx(x:List Fl.Node)(k:Int):Prop:=0<=k/\k.toNat<x.length
structure XOk(x:List Fl.Node):Prop where
 k2:∀k,k<x.length->(Fl.nth x k).kind=2->VIdx x (Fl.nth x k).b/\VIdx x (Fl.nth x k).c
 k3:∀k,k<x.length->(Fl.nth x k).kind=3\/(Fl.nth x k).kind=4->VIdx x (Fl.nth x k).b
 k5:∀k,k<x.length->(Fl.nth x k).kind=5\/(Fl.nth x k).kind=6->VIdx x (Fl.nth x k).a/\VIdx x (Fl.nth x k).b
 k6:∀k,k<x.length->(Fl.nth x k).kind=5->VIdx x (Fl.nth x k).c
 k7:∀k,k<x.length->(Fl.nth x k).kind=7->∀j∈(Fl.nth x k).list,VIdx x j
def kindsOk:Nat->List Fl.Stmt->Prop
 |0,_=>True
 |d+1,l=>∀i,i<l.length->((l.getD i noS).kind=3\/(l.getD i noS).kind=4\/(l.getD i noS).kind=5\/(l.getD i noS).kind=6)/\kindsOk d (l.getD i noS).body/\kindsOk d (l.getD i noS).other
def Zt.shape{d:Nat}{S:Nat->Prop}{w:World}{v:Value}{l:List Fl.Stmt}(h:Zt d S w v l):∃a c,v=.slice a l.length c:=by
 cases d with
 |zero=>obtain⟨rfl,rfl⟩:=h;exact⟨none,0,rfl⟩
 |succ d=>obtain⟨a,c,e,-⟩:=h;exact⟨a,c,e⟩
def zz3.ptr{S:Nat->Prop}{w:World}{v:Value}{e:Fl.Expr}(h:zz3 S w v e):∃a,v=.pointer a:=by
 rcases h with⟨-,b,e,-⟩|⟨-,b,_,_,e,-⟩
 ·exact⟨_,e⟩
 exact⟨_,e⟩
def AllOk(Cb Pb Lb Rl:Nat)(vv nv hv:Value)(p:Fl.Prog)(vs:List Int)(x:List Fl.Node)(S:Nat->Prop)(d:Nat):Prop:=
 ∀(w:World) (k:Int) (v:Value) (l:List Fl.Stmt),ChkIn w Cb Pb Lb Rl vv nv hv p vs x->(∀b,S b->b<w.heap.size)->VIdx x k->Zt d S w v l->kindsOk d l->Calls prog 70 #[.pointer (some ⟨Cb,0,none⟩),.int .i64 k,v] w λe w'=>e=.returned (.bool (Fl.ofAll d x k l))/\Below w.heap.size w w'
section
variable{w:World}{Cb Pb Lb Rl:Nat}{vv nv hv:Value}{p:Fl.Prog}{vs:List Int}{x:List Fl.Node}{S:Nat->Prop}{d:Nat}
def isOfOne_any(hx:XOk x)(H:AllOk Cb Pb Lb Rl vv nv hv p vs x S d)(h:ChkIn w Cb Pb Lb Rl vv nv hv p vs x)(hS:∀b,S b->b<w.heap.size)(k:Int)(hk:VIdx x k)(q:Value)(s:Fl.Stmt)(hs:Vj (Zt d) S w q s)(j0:s.kind=3\/s.kind=4\/s.kind=5\/s.kind=6)(f0:kindsOk d s.body)(g0:kindsOk d s.other):
  Calls prog 124 #[.pointer (some ⟨Cb,0,none⟩),.int .i64 k,q] w λe w'=>e=.returned (.bool (Fl.ofOne (Fl.ofAll d x) x k s))/\Below w.heap.size w w':=by
 obtain⟨sb,vp,fv,ev,rfl,h0,hc,b0,hf,he⟩:=hs;obtain⟨av,rfl⟩:=b0.ptr;obtain⟨fa,fc,rfl⟩:=hf.shape;obtain⟨ea,ec,rfl⟩:=he.shape;obtain⟨kn,i0⟩:∃kn:Nat,(kn:Int)=k:=⟨k.toNat,by have:=hk.1;omega⟩
 have e0:k.toNat=kn:=by omega
 have c0:kn<x.length:=by have:=hk.2;omega
 have en:Fl.nd x k=Fl.nth x kn:=by unfold Fl.nd;rw[e0]
 have d0:∀W,Below w.heap.size w W->∀b,S b->b<W.heap.size:=λW hW b hb=>Nat.lt_of_lt_of_le (hS b hb) hW.size
 have a0:∀(j:Int),VIdx x j->∀W,Below w.heap.size w W->Calls prog 164 #[.pointer (some ⟨Cb,0,none⟩),.int .i64 j,.pointer av] W λe w'=>e=.returned (.bool (Fl.ofExpr x j s.e))/\Below W.heap.size W w':=λj hj W hW=>
  isOfValue_any (h.below hW) (d0 W hW) j hj (λh2=>by have:=hx.k2 j.toNat hj.2 h2;exact this) _ _ (b0.kept (λb hb=>hb) (λb hb=>hW.block b (hS b hb)))
 have hall:∀(j:Int) (v:Value) (l:List Fl.Stmt),VIdx x j->Zt d S w v l->kindsOk d l->∀W,Below w.heap.size w W->Calls prog 70 #[.pointer (some ⟨Cb,0,none⟩),.int .i64 j,v] W λe w'=>e=.returned (.bool (Fl.ofAll d x j l))/\Below W.heap.size W w':=λj v l hj hv hkk W hW=>
  H W j v l (h.below hW) (d0 W hW) hj (Zt.kept (λb hb=>hb) (λb hb=>hW.block b (hS b hb)) _ _ _ hv) hkk
 have h1:=isOfOne_step h kn c0 (s.kind:Nat) (s.x:Nat) (by omega) av fa ea s.body.length fc s.other.length ec (hS _ h0) ⟨hc.c 0 (by omega),hc.c 2 (by omega),hc.c 3 (by omega),hc.c 4 (by omega),hc.c 5 (by omega)⟩ (Fl.ofExpr x (Fl.nth x kn).a s.e) (Fl.ofExpr x (Fl.nth x kn).b s.e) (Fl.ofAll d x (Fl.nth x kn).b s.body) (Fl.ofAll d x (Fl.nth x kn).c s.other)
  (λh2 h3=>a0 _ (hx.k5 kn c0 (by omega)).1) (λh2 h3=>a0 _ (hx.k3 kn c0 (by omega))) (λh2 h3=>hall _ _ _ (hx.k5 kn c0 (by omega)).2 hf f0) (λh2 h3=>hall _ _ _ (hx.k6 kn c0 (by omega)) he g0)
 rw[i0]at h1;refine h1.mono ?_;rintro e w' ⟨rfl,hw⟩;refine⟨?_,hw⟩;unfold Fl.ofOne;rw[en]
 congr 2
 by_cases h5:s.kind=5
 ·rw[if_pos h5,if_pos (by omega)]
 by_cases h6:s.kind=6
 ·rw[if_neg h5,if_pos h6,if_neg (by omega),if_pos (by omega)]
 rw[if_neg h5,if_neg h6,if_neg (by omega),if_neg (by omega)]
end
section
variable{Cb Pb Lb Rl:Nat}{vv nv hv:Value}{p:Fl.Prog}{vs:List Int}{x:List Fl.Node}{S:Nat->Prop}{d:Nat}
def isOfAll_step{w:World}(h:ChkIn w Cb Pb Lb Rl vv nv hv p vs x)(kn:Nat)(hk:kn<x.length)(a:Option Addr)(c:Nat)(len:Nat)(hc:len<=c)(hlen:len<=16)(f:Nat->Bool)
  (hst:∀i,i<len->∃b off sp,a=some ⟨b,off,none⟩/\(∀W,Below w.heap.size w W->W.cell? ⟨b,off+i,none⟩=some (.pointer sp))/\((Fl.nth x kn).kind=7->(Fl.nth x kn).list.length=len->∀W,Below w.heap.size w W->Calls prog 124 #[.pointer (some ⟨Cb,0,none⟩),.int .i64 ((Fl.nth x kn).list.getD i 0),.pointer sp] W λe w'=>e=.returned (.bool (f i))/\Below W.heap.size W w')):
  Calls prog 70 #[.pointer (some ⟨Cb,0,none⟩),.int .i64 kn,.slice a len c] w λe w'=>e=.returned (.bool (decide ((Fl.nth x kn).kind=7) && (decide ((Fl.nth x kn).list.length=len) && (List.range len).all f)))/\Below w.heap.size w w':=by
 obtain⟨nb,no0,cap,lv,rfl,e0⟩:=h.nodeAt kn hk;obtain⟨no,hno⟩:=nmE (no0+kn*6);obtain⟨n,hn⟩:=nmE (Fl.nth x kn);rw[<-hn]at hst e0⊢;rw[<-hno]at e0;obtain⟨la,lc,rfl,z0,-,j0⟩:=e0.li;have c2:=h.c2
 have A0:(kn:Int)<(x.length:Int):=by omega
 have hz:=e0.hz;have n0:=e0.c0;have n5:=e0.c5;have HN:Hid (∀W,Below w.heap.size w W->W.cell? ⟨nb,no+5,none⟩=some (.slice la n.list.length lc)):=λW hW=>(hW.cell (p:=⟨nb,no+5,none⟩) hz).trans n5
 have u0:Hid (∀i,i<n.list.length->∃b off,la=some ⟨b,off,none⟩/\∀W,Below w.heap.size w W->W.cell? ⟨b,off+i,none⟩=some (.int .i64 (n.list.getD i 0))):=λi hi=>by
  obtain⟨b,off,e,hb,v0⟩:=j0 (by intro h;rw[h]at hi;simp at hi);exact⟨b,off,e,λW hW=>(hW.cell (p:=⟨b,off+i,none⟩) hb).trans (v0 i hi)⟩
 obtain⟨res,b0⟩:=nmE ((decide (n.kind=7) && (decide (n.list.length=len) && (List.range len).all f)));rw[<-b0];have a0:=Zz b0;have B0:=Zz hno
 have o0:(len:Int)<=16:=by omega
 have C0:(len:Int)<=(c:Int):=by omega
 by_cases h7:n.kind=7
 ·have e7:(n.kind !=7)=false:=by simp[h7]
  by_cases hl:n.list.length=len
  ·have el:((n.list.length:Int) !=(len:Int))=false:=by simp[hl]
   have HE:Hid (res=(List.range len).all f):=(by show _=_;rw[a0.out,decide_eq_true h7,decide_eq_true hl];simp)
   have x0:Hid (∀i,i<len->∃b off sp,a=some ⟨b,off,none⟩/\(∀W,Below w.heap.size w W->W.cell? ⟨b,off+i,none⟩=some (.pointer sp))/\(∀W,Below w.heap.size w W->Calls prog 124 #[.pointer (some ⟨Cb,0,none⟩),.int .i64 (n.list.getD i 0),.pointer sp] W λe w'=>e=.returned (.bool (f i))/\Below W.heap.size W w')):=λi hi=>by
    obtain⟨b,off,sp,e1,e2,e3⟩:=hst i hi;exact⟨b,off,sp,e1,e2,e3 h7 hl⟩
   have HL:=Zz hl;clear h e0 hst b0 hn a0 h7 hl j0;subst hno
   go_enter func70,ntmps70
   go_wp2_with fail
   go_loopw [33] (λi wr=>Below w.heap.size w wr/\∃k:Nat,k<=len/\i=.int .i64 k/\(List.range k).all f=true) (λi _=>len - (intOf i).toNat)
   case atStart=>exact⟨Below.refl _ _,0,Nat.zero_le _,rfl,rfl⟩
   case round=>
    obtain⟨p0,k,D0,rfl,hall⟩:=hrel;have g0:=Zz p0;have i0:=Zz hall;clear p0 hall
    by_cases k0:k<len
    ·have l0:(k:Int)<(len:Int):=by omega
     obtain⟨b,off,sp,rfl,q0,d0⟩:=x0.out k k0;obtain⟨b2,off2,rfl,r0⟩:=u0.out k (by rw[HL.out];exact k0);have d1:=q0 wr g0.out;have d2:=r0 wr g0.out;have d3:=HN.out wr g0.out;have E0:(k:Int)<(n.list.length:Int):=(by have:=HL.out;omega);obtain⟨j,hj⟩:=nmE (n.list.getD k 0);rw[<-hj]at d2 d0;have f0:Hid (Calls prog 124 #[.pointer (some ⟨Cb,0,none⟩),.int .i64 j,.pointer sp] wr λe w'=>e=.returned (.bool (f k))/\Below wr.heap.size wr w'):=d0 wr g0.out
     have HF:Hid (f k=false->(List.range len).all f=false):=λh0=>by
      rw[List.all_eq_false];exact⟨k,List.mem_range.2 k0,by rw[h0];simp⟩
     have HT:Hid (f k=true->(List.range (k+1)).all f=true):=λh0=>by rw[List.range_succ,List.all_append,i0.out];simp[h0]
     generalize f k=fk at f0 HF HT;clear q0 r0 d0 hj
     go_wp2_with fail
     refine f0.out.mono ?_;rintro e w1 ⟨rfl,s0⟩;have t0:Hid (Below w.heap.size w w1):=g0.out.trans (s0.mono g0.out.size);clear s0
     cases fk with
     |false=>
      have m0:Hid (res=false):=(by show _=_;rw[HE.out];exact HF.out rfl);go_wp2;go_ret;exact⟨cbE m0.out,t0.out⟩
     |true=>
      have y0:Hid ((List.range (k+1)).all f=true):=HT.out rfl;go_wp2
      go_roundw
      case rel=>exact⟨t0.out,k+1,by omega,by go_num,y0.out⟩
      case measure=>simp[intOf];omega
    have l0:¬(k:Int)<(len:Int):=(by omega);have m0:Hid (res=true):=by
     show _=_;rw[HE.out];have h1:=i0.out;rw[show k=len by omega]at h1;exact h1
    go_wp2;go_ret;exact⟨cbE m0.out,g0.out⟩
  have el:((n.list.length:Int) !=(len:Int))=true:=(by rw[bne_iff_ne];omega);have HE:Hid (res=false):=(by show _=_;rw[a0.out,decide_eq_false hl];simp);clear h e0 hst b0 hn a0 h7 hl j0;subst hno
  go_enter func70,ntmps70
  go_wp2;go_ret;exact⟨cbE HE.out,Below.refl _ _⟩
 have e7:(n.kind !=7)=true:=by rw[bne_iff_ne];exact h7
 have HE:Hid (res=false):=by show _=_;rw[a0.out,decide_eq_false h7];simp
 clear h e0 hst b0 hn a0 h7 j0;subst hno
 go_enter func70,ntmps70
 go_wp2;go_ret;exact⟨cbE HE.out,Below.refl _ _⟩
end
section
variable{Cb Pb Lb Rl:Nat}{vv nv hv:Value}{p:Fl.Prog}{vs:List Int}{x:List Fl.Node}{S:Nat->Prop}{d:Nat}
def all_zero:AllOk Cb Pb Lb Rl vv nv hv p vs x S 0:=by
 intro w k v l h hS hk a0 _;obtain⟨rfl,rfl⟩:=a0;obtain⟨kn,b0⟩:∃kn:Nat,(kn:Int)=k:=⟨k.toNat,by have:=hk.1;omega⟩
 have e0:k.toNat=kn:=by omega
 have h1:=isOfAll_step h kn (by have:=hk.2;omega) none 0 0 (Nat.le_refl _) (by omega) (λ_=>true) (λi hi=>by omega);rw[b0]at h1;refine h1.mono ?_;rintro e w' ⟨rfl,hw⟩;refine⟨?_,hw⟩;unfold Fl.ofAll Fl.nd;rw[e0]
 congr 3
 by_cases hl:(Fl.nth x kn).list=[]
 ·simp[hl]
 have:(Fl.nth x kn).list.length≠0:=λh=>hl (Qi h);simp[hl,this]
def all_succ(hx:XOk x)(H:AllOk Cb Pb Lb Rl vv nv hv p vs x S d):AllOk Cb Pb Lb Rl vv nv hv p vs x S (d+1):=by
 intro w k v l h hS hk g0 h0;obtain⟨ao,cap,rfl,hc,-,i0,a0⟩:=g0;obtain⟨kn,j0⟩:∃kn:Nat,(kn:Int)=k:=⟨k.toNat,by have:=hk.1;omega⟩
 have e0:k.toNat=kn:=by omega
 have c0:kn<x.length:=by have:=hk.2;omega
 have h1:=isOfAll_step h kn c0 ao cap l.length hc i0 (λi=>Fl.ofOne (Fl.ofAll d x) x ((Fl.nth x kn).list.getD i 0) (l.getD i noS)) (λi hi=>by
  obtain⟨b,off,e,hb,k0⟩:=a0 (by rintro rfl;simp at hi);obtain⟨q,hq,d0⟩:=k0 i hi;obtain⟨sb,vp,fv,ev,rfl,-⟩:=id d0;refine⟨b,off,some ⟨sb,0,none⟩,e,λW hW=>(hW.cell (p:=⟨b,off+i,none⟩) (hS b hb)).trans hq,λh7 hlen W hW=>?_⟩;have b0:=h0 i hi;have hmem:(Fl.nth x kn).list.getD i 0∈(Fl.nth x kn).list:=by
   have f0:i<(Fl.nth x kn).list.length:=(by omega);rw[Qa,Qb f0];exact List.getElem_mem f0
  exact isOfOne_any hx H (h.below hW) (λb hb=>Nat.lt_of_lt_of_le (hS b hb) hW.size) _ (hx.k7 kn c0 h7 _ hmem) _ _ (d0.kept (λv l hh=>Zt.kept (λb hb=>hb) (λb hb=>hW.block b (hS b hb)) _ _ _ hh) (λb hb=>hb) (λb hb=>hW.block b (hS b hb))) b0.1 b0.2.1 b0.2.2)
 rw[j0]at h1;refine h1.mono ?_;rintro e w' ⟨rfl,hw⟩;refine⟨?_,hw⟩;unfold Fl.ofAll Fl.nd;rw[e0]
def isOfAll_any(hx:XOk x):∀d,AllOk Cb Pb Lb Rl vv nv hv p vs x S d
 |0=>all_zero
 |d+1=>all_succ hx (isOfAll_any hx d)
end
def rulesArr2:Array Value:=#[.int .i64 0,.func (.func 115) #[] #[],.int .i64 0,.func (.func 116) #[] #[],.int .i64 0,.func (.func 117) #[] #[],.int .i64 1,.func (.func 118) #[] #[],.int .i64 1,.func (.func 119) #[] #[],.int .i64 1,.func (.func 120) #[] #[],.int .i64 1,.func (.func 121) #[] #[],.int .i64 2,.func (.func 122) #[] #[]]
def crules_any(w:World):Calls prog 68 #[] w λe w'=>e=.returned (.slice (some ⟨w.heap.size,0,none⟩) 8 8)/\w'=w.alloc (.cells rulesArr2 235):=by
 go_enter func68,ntmps68
 go_wp2;go_ret;exact⟨rfl,rfl⟩
def rules_laid{w:World}{Rl:Nat}(h:w.heap[Rl]?=some (.cells rulesArr2 235 (0,0))):∀k,k<8->w.cell? ⟨Rl,k*2,none⟩=some (.int .i64 (roleI k))/\w.cell? ⟨Rl,k*2+1,none⟩=some (.func (.func (ruleF k)) #[] #[]):=by
 intro k hk;rw[cell_of_row _ _ (k*2) _ _ (0,0) h,cell_of_row _ _ (k*2+1) _ _ (0,0) h];rcases(show k=0\/k=1\/k=2\/k=3\/k=4\/k=5\/k=6\/k=7 by omega) with rfl|rfl|rfl|rfl|rfl|rfl|rfl|rfl<;>exact⟨rfl,rfl⟩
def variables_any{w:World}{Pb:Nat}{clv lv:Value}{xs ys:List Int}(hp:Pb<w.heap.size)(c1:w.cell? ⟨Pb,1,none⟩=some clv)(hx:Zy w.heap.size w clv xs)(hy:Zy w.heap.size w lv ys)(hl:xs.length<=10000/\ys.length<=10000):
  Calls prog 62 #[.pointer (some ⟨Pb,0,none⟩),lv] w λe w'=>Below w.heap.size w w'/\∃a c,e=.returned (.slice a (xs++ys).length c)/\Zy w'.heap.size w' (.slice a (xs++ys).length c) (xs++ys):=by
 obtain⟨a0,k0,e0⟩:=Jn hx;obtain⟨a1,k1,e1⟩:=Jn hy;subst e0;subst e1;have hB:Below w.heap.size w (w.alloc (.cells #[.slice a0 xs.length k0,.slice a1 ys.length k1] 23)):=bA;obtain⟨zs,b0⟩:=nmE (xs++ys);have HC:Hid (Calls prog 107 #[.slice (some ⟨w.heap.size,0,none⟩) 2 2] (w.alloc (.cells #[.slice a0 xs.length k0,.slice a1 ys.length k1] 23)) λe w'=>Below w.heap.size w w'/\∃a c,e=.returned (.slice a zs.length c)/\Zy w'.heap.size w' (.slice a zs.length c) zs):=by
  refine(yzx (w.alloc (.cells #[.slice a0 xs.length k0,.slice a1 ys.length k1] 23)) w.heap.size _ _ xs ys (by simp) (by simp) (by simp) ((hx.below hB).mono hB.size) ((hy.below hB).mono hB.size) hl).mono ?_;rintro e w' ⟨hb,v,rfl,ho⟩;rw[<-b0]at ho;refine⟨hB.trans (hb.mono hB.size),?_⟩;have hi:=Zy.of_own ho;obtain⟨a,c,e⟩:=Jn hi;subst e;exact⟨a,c,rfl,hi⟩
 rw[<-b0];clear hx hy b0 hB
 go_enter func62,ntmps62
 go_wp2_with fail
 refine HC.out.mono ?_;rintro e w1 ⟨hb,a,c,rfl,hi⟩;have HE:Hid (Below w.heap.size w w1/\Zy w1.heap.size w1 (.slice a zs.length c) zs):=⟨hb,hi⟩;clear hb hi;go_wp2;go_ret;exact⟨HE.out.1,a,c,rfl,HE.out.2⟩
def CpEnds(res:Nat×Int)(w:World)(e:Ending)(w':World):Prop:=
 Below w.heap.size w w'/\((res.1=0/\e=.returned .nilIface)\/(res.1=10/\e=.returned (.iface 27 (.int .i64 10)))\/(res.1=9/\∃a,e=.returned (.iface 76 (.pointer (some ⟨a,0,none⟩)))/\w'.cell? ⟨a,0,none⟩=some (.int .i64 9)/\w'.cell? ⟨a,1,none⟩=some (.int .i64 res.2)))
def ckHeap(u:World)(o:Obj)(k:Nat)(hk:u.heap.size=k):(u.alloc o).heap[k]?=some o:=by subst hk;exact heap_alloc_last u o
structure CpIn(w:World)(Pb Lb:Nat)(clv hv bv lv nv:Value)(p:Fl.Prog)(S:Nat->Prop)(ls:List Int)(x:List Fl.Node):Prop where
 hz:Pb<w.heap.size/\Lb<w.heap.size
 p0:w.cell? ⟨Pb,0,none⟩=some (.pointer (some ⟨Lb,0,none⟩))
 p1:w.cell? ⟨Pb,1,none⟩=some clv
 p2:w.cell? ⟨Pb,2,none⟩=some hv
 p3:w.cell? ⟨Pb,3,none⟩=some (.int .i64 p.locals)
 p4:w.cell? ⟨Pb,4,none⟩=some bv
 la:Un w Lb p.n p.leq
 ci:Zy w.heap.size w clv (p.cells.map λ(y:Nat)=>(y:Int))
 hi:Zy w.heap.size w hv (p.chans.map λ(y:Nat)=>(y:Int))
 bs:Zt 4 S w bv p.body
 hS:∀b,S b->b<w.heap.size
 li:Zy w.heap.size w lv ls
 no:Zo w.heap.size w nv x
 n6:p.n<=6
 cl:p.cells.length<=6/\p.chans.length<=3
 cv:(∀y∈p.cells,y<p.n)/\∀y∈p.chans,y<p.n
 kd:kindsOk 4 p.body
 l0:ls.length<=4/\∀y∈ls,0<=y
 x0:0<x.length/\x.length<=200
 xo:XOk x
def CpIn.below{w w':World}{Pb Lb:Nat}{clv hv bv lv nv:Value}{p:Fl.Prog}{S:Nat->Prop}{ls:List Int}{x:List Fl.Node}(h:CpIn w Pb Lb clv hv bv lv nv p S ls x)(hb:Below w.heap.size w w'):CpIn w' Pb Lb clv hv bv lv nv p S ls x:=by
 have hz:=hb.size;have q:∀i,w'.cell? ⟨Pb,i,none⟩=w.cell? ⟨Pb,i,none⟩:=λi=>hb.cell (p:=⟨Pb,i,none⟩) h.hz.1;exact{hz:=⟨by have:=h.hz.1;omega,by have:=h.hz.2;omega⟩,p0:=(q _).trans h.p0,p1:=(q _).trans h.p1,p2:=(q _).trans h.p2,p3:=(q _).trans h.p3,p4:=(q _).trans h.p4,la:=h.la.block (hb.block _ h.hz.2),ci:=(h.ci.below hb).mono hz,hi:=(h.hi.below hb).mono hz,bs:=Zt.kept (λb hb=>hb) (λb hs=>hb.block b (h.hS b hs)) _ _ _ h.bs,hS:=λb hs=>Nat.lt_of_lt_of_le (h.hS b hs) hz,li:=(h.li.below hb).mono hz,no:=(h.no.below hb).mono hz,n6:=h.n6,cl:=h.cl,cv:=h.cv,kd:=h.kd,l0:=h.l0,x0:=h.x0,xo:=h.xo}
def CpIn.checker{w W:World}{Pb Lb:Nat}{clv hv bv lv nv vv:Value}{p:Fl.Prog}{S:Nat->Prop}{ls:List Int}{x:List Fl.Node}(h:CpIn w Pb Lb clv hv bv lv nv p S ls x)(hb:Below w.heap.size w W)(b0:Zy W.heap.size W vv (Fl.vars p ls)):
  ChkIn ((W.alloc (.cells rulesArr2 235)).alloc (.cells #[.pointer (some ⟨Pb,0,none⟩),vv,nv,.slice (some ⟨W.heap.size,0,none⟩) 8 8] 162)) (W.heap.size+1) Pb Lb W.heap.size vv nv hv p (Fl.vars p ls) x:=by
 have hB:Below W.heap.size W ((W.alloc (.cells rulesArr2 235)).alloc (.cells #[.pointer (some ⟨Pb,0,none⟩),vv,nv,.slice (some ⟨W.heap.size,0,none⟩) 8 8] 162)):=(bA).alloc (by simp) _;have h2:=(h.below hb).below hB;obtain⟨W3,a0⟩:=nmE (((W.alloc (.cells rulesArr2 235)).alloc (.cells #[.pointer (some ⟨Pb,0,none⟩),vv,nv,.slice (some ⟨W.heap.size,0,none⟩) 8 8] 162)))
 have rC:W3.heap[W.heap.size+1]?=some (.cells #[.pointer (some ⟨Pb,0,none⟩),vv,nv,.slice (some ⟨W.heap.size,0,none⟩) 8 8] 162 (0,0)):=by rw[a0];exact ckHeap _ _ _ (by simp)
 have rR:W3.heap[W.heap.size]?=some (.cells rulesArr2 235 (0,0)):=by rw[a0,Below.heap_alloc _ _ _ (by simp)];exact ckHeap _ _ _ rfl
 have d0:W3.heap.size=W.heap.size+2:=by rw[a0];simp
 rw[<-a0]at h2 hB⊢;exact{hz:=⟨by omega,h2.hz.1,h2.hz.2,by omega⟩,c0:=cell_of_row _ _ 0 _ _ (0,0) rC,c1:=cell_of_row _ _ 1 _ _ (0,0) rC,c2:=cell_of_row _ _ 2 _ _ (0,0) rC,c3:=cell_of_row _ _ 3 _ _ (0,0) rC,p0:=h2.p0,p2:=h2.p2,la:=h2.la,vi:=(b0.below hB).mono hB.size,hi:=h2.hi,no:=h2.no,ru:=rules_laid rR,n6:=h2.n6}
def cproof_any{w:World}{Pb Lb:Nat}{clv hv bv lv nv:Value}{p:Fl.Prog}{S:Nat->Prop}{ls:List Int}{x:List Fl.Node}(h:CpIn w Pb Lb clv hv bv lv nv p S ls x)
  (v0:ls.length=p.locals->(∀y∈ls,y<p.n)->∀k,k<x.length->(∀j,j<k->Fl.follows p ls x (Fl.nth x j)=true)->NdOk p x (Fl.nth x k)):
  Calls prog 36 #[.pointer (some ⟨Pb,0,none⟩),.agg #[lv,nv]] w (CpEnds (Fl.check p ls x) w):=by
 obtain⟨la,lc,rfl⟩:=Jn h.li
 obtain⟨na,nc,rfl⟩:∃a c,nv=.slice a x.length c:=by obtain⟨a,c,e,-⟩:=h.no;exact⟨a,c,e⟩
 obtain⟨ba,bc,rfl⟩:∃a c,bv=.slice a p.body.length c:=by obtain⟨a,c,e,-⟩:=h.bs;exact⟨a,c,e⟩
 have HH:=Zz h;have y0:=Zz v0;have c0:=h.x0;clear v0 h
 go_enter func36,ntmps36
 go_wp2_with fail
 obtain⟨W1,h0⟩:=nmE (w.alloc (.cells #[.slice la ls.length lc,.slice na x.length nc] 26));rw[<-h0]
 have z0:Below w.heap.size w W1:=by rw[h0];exact bA
 have O0:W1.heap.size=w.heap.size+1:=by rw[h0];simp
 have hp:∀i,W1.cell? ⟨w.heap.size,i,none⟩=#[Value.slice la ls.length lc,.slice na x.length nc][i]?:=λi=>by rw[h0];exact World.cell?_alloc_new _ _ _ _
 have p0:W1.cell? ⟨w.heap.size,0,none⟩=some (.slice la ls.length lc):=hp 0;have p1:W1.cell? ⟨w.heap.size,1,none⟩=some (.slice na x.length nc):=hp 1;have HP:Hid (∀W,Below W1.heap.size W1 W->W.cell? ⟨w.heap.size,0,none⟩=some (.slice la ls.length lc)/\W.cell? ⟨w.heap.size,1,none⟩=some (.slice na x.length nc)):=λW hW=>⟨(hW.cell (p:=⟨w.heap.size,0,none⟩) (by simp only;omega)).trans p0,(hW.cell (p:=⟨w.heap.size,1,none⟩) (by simp only;omega)).trans p1⟩;have d0:=Zz z0;obtain⟨fit,e0⟩:=nmE (decide (ls.length=p.locals/\∀y∈ls,0<=y/\y<p.n));have A0:Hid (Calls prog 67 #[.pointer (some ⟨Pb,0,none⟩),.slice la ls.length lc] W1 λe w'=>e=.returned (.bool fit)/\w'=W1):=by
  have h2:=HH.out.below d0.out;rw[e0];exact localsFit_any h2.la h2.p0 h2.p3 _ ls h2.li (by have:=h2.l0.1;omega)
 have i0:=Zz e0;clear h0 z0 hp e0
 go_wp2_with fail
 refine(A0.out).mono ?_;rintro e w2 ⟨rfl,rfl⟩
 cases fit with
 |false=>
  have HE:Hid (Fl.check p ls x=(10,-1)):=by
   show _=_;have h1:=of_decide_eq_false i0.out.symm;unfold Fl.check;rw[if_pos]
   by_cases h2:ls.length=p.locals
   ·right
    refine Classical.byContradiction λh3=>h1 ⟨h2,λy hy=>⟨HH.out.l0.2 y hy,?_⟩⟩;refine Classical.byContradiction λh4=>h3 ?_;rw[List.any_eq_true];exact⟨y,hy,decide_eq_true (by omega)⟩
   exact .inl h2
  go_wp2;go_ret;refine⟨d0.out,.inr (.inl ⟨by rw[HE.out],rfl⟩)⟩
 |true=>
  have hf:=of_decide_eq_true i0.out.symm;have HF:=Zz hf
  have HV:Hid (∀W,Below w2.heap.size w2 W->Calls prog 62 #[.pointer (some ⟨Pb,0,none⟩),.slice la ls.length lc] W λe w'=>Below W.heap.size W w'/\∃a c,e=.returned (.slice a (Fl.vars p ls).length c)/\Zy w'.heap.size w' (.slice a (Fl.vars p ls).length c) (Fl.vars p ls)):=λW hW=>by
   have h2:=(HH.out.below d0.out).below hW;exact variables_any h2.hz.1 h2.p1 h2.ci h2.li ⟨by have:=h2.cl.1;simp;omega,by have:=h2.l0.1;omega⟩
  clear hf
  go_wp2_with fail
  refine zzv HP ((Below.refl _ _).drew) [(0,0),(0,1),(0,2),(0,3),(0,5),(0,6),(1,4),(1,7),(0,8),(1,9),(0,10)] [] [] (by kernel_rfl) (λc a d v w h=>by cases d<;>exact h) (λops hG=>?_);clear hG
  iterate 6 refine Ze rfl (by rintro _ ⟨_,_⟩;go_simp<;>rfl) (by go_simp<;>rfl) ?_
  refine Zs ?_
  go_wp2_with fail
  refine(HV.out _ (Below.refl _ _).drew).mono ?_;rintro e W2 ⟨B0,va,vc,rfl,C0⟩;have j0:Hid (Below w2.heap.size w2 W2):=(Below.refl _ _).drew.trans B0;have D0:=Zz C0;clear B0 C0
  go_wp2_with fail
  refine⟨HP.out _ j0.out,?_⟩;refine Zs ?_
  go_wp2_with fail
  refine(crules_any _).mono ?_;rintro e W3 ⟨rfl,q0⟩;have k0:Hid (Below w2.heap.size w2 W3):=(by rw[q0];exact j0.out.alloc j0.out.size _);have r0:=Zz q0;clear q0
  go_wp2_with fail
  refine⟨HP.out _ k0.out,?_⟩;refine Ze rfl (by rintro _ ⟨_,_⟩;go_simp<;>rfl) (by go_simp<;>rfl) ?_;refine Zs ?_
  go_wp2_with fail
  refine⟨HP.out _ (k0.out.alloc k0.out.size _),?_⟩;refine Ze rfl (by rintro _ ⟨_,_⟩;go_simp<;>rfl) (by go_simp<;>rfl) ?_;refine Yt ?_;obtain⟨W4,m0⟩:=nmE (W3.alloc (.cells #[.pointer (some ⟨Pb,0,none⟩),.slice va (Fl.vars p ls).length vc,.slice na x.length nc,.slice (some ⟨W2.heap.size,0,none⟩) 8 8] 162));rw[<-m0];have E0:Below w.heap.size w W2:=d0.out.trans (j0.out.mono d0.out.size);have n0:ChkIn W4 (W2.heap.size+1) Pb Lb W2.heap.size (.slice va (Fl.vars p ls).length vc) (.slice na x.length nc) hv p (Fl.vars p ls) x:=by
   rw[m0,r0.out];exact HH.out.checker E0 D0.out
  have F0:W3.heap.size=W2.heap.size+1:=(by rw[r0.out];simp);rw[<-F0]at n0;have G0:Below w.heap.size w W4:=by
   have h3:Below w.heap.size w W3:=d0.out.trans (k0.out.mono d0.out.size);rw[m0];exact h3.alloc h3.size _
  have H0:∀y∈Fl.vars p ls,0<=y/\y<p.n:=λy hy=>by
   unfold Fl.vars at hy;rcases List.mem_append.1 hy with h1|h1
   ·obtain⟨z,hz,rfl⟩:=List.mem_map.1 h1
    have:=HH.out.cv.1 z hz;omega
   exact HF.out.2 y h1
  have I0:(Fl.vars p ls).length<=100:=by
   have h1:=HH.out.cl.1;have h2:=HH.out.l0.1;unfold Fl.vars;simp;omega
  have J0:Hid (Calls prog 69 #[.pointer (some ⟨W3.heap.size,0,none⟩)] W4 λe w'=>e=.returned (.int .i64 (firstBadNode p ls x))/\Below W4.heap.size W4 w'):=
   cfirstWrong_any n0 (y0.out HF.out.1 λy hy=>(HF.out.2 y hy).2) (by omega) H0 I0 HH.out.cv.2 (by have:=HH.out.cl.2;omega)
  have K0:=Zz n0;have L0:=Zz G0
  have b0:Hid (Fl.check p ls x=match (List.range x.length).find? (λk=> !Fl.follows p ls x (Fl.nth x k)) with
   |some k=>(9,(k:Int))
   |none=>if Fl.ofAll 4 x ((x.length:Int) - 1) p.body then(0,-1) else(10,-1)):=by
   show _=_;unfold Fl.check;rw[if_neg]
   ·rfl
   rintro(h1|h1)
   ·exact h1 HF.out.1
   obtain⟨y,hy,h2⟩:=List.any_eq_true.1 h1;have h3:=HF.out.2 y hy;have h4:=of_decide_eq_true h2;omega
  generalize W3.heap.size=Cb at*;clear n0 G0 m0 H0 I0 E0 F0
  go_wp2_with fail
  refine(J0.out).mono ?_;rintro e W5 ⟨rfl,s0⟩;have M0:=Zz s0;have a0:Hid (Below w.heap.size w W5):=L0.out.trans (s0.mono L0.out.size)
  have o0:Hid (firstBadNode p ls x=match (List.range x.length).find? (λk=> !Fl.follows p ls x (Fl.nth x k)) with
   |some k=>(k:Int)
   |none=> -1):=rfl
  clear s0 J0 HV A0 y0 D0 j0 k0 r0
  cases f0:(List.range x.length).find? (λk=> !Fl.follows p ls x (Fl.nth x k)) with
  |some k=>
   have HE:Hid (Fl.check p ls x=(9,(k:Int))):=(by show _=_;rw[b0.out,f0]);have HK:Hid (firstBadNode p ls x=(k:Int)):=(by show _=_;rw[o0.out,f0]);have hk:k<x.length:=List.mem_range.1 (List.mem_of_find?_eq_some f0);rw[HK.out];clear f0 b0 o0 HK;have P0:((k:Int) ≥ 0)=True:=(by simp);go_wp2;go_ret;refine⟨?_,.inr (.inr ⟨by rw[HE.out],_,rfl,?_,?_⟩)⟩
   ·exact a0.out.alloc a0.out.size _
   ·rw[World.cell?_alloc_new];rfl
   rw[World.cell?_alloc_new,HE.out];rfl
  |none=>
   have HE:Hid (Fl.check p ls x=if Fl.ofAll 4 x ((x.length:Int) - 1) p.body then(0,-1) else(10,-1)):=(by show _=_;rw[b0.out,f0]);have HK:Hid (firstBadNode p ls x= -1):=(by show _=_;rw[o0.out,f0]);rw[HK.out];clear f0 b0 o0 HK
   have HQ:Hid (∀W,Below W5.heap.size W5 W->W.cell? ⟨Cb,2,none⟩=some (.slice na x.length nc)/\W.cell? ⟨Pb,4,none⟩=some (.slice ba p.body.length bc)):=λW hW=>by
    have h1:=(K0.out.below M0.out).below hW;have h2:=(HH.out.below a0.out).below hW;exact⟨h1.c2,h2.p4⟩
   obtain⟨res,g0⟩:=nmE (Fl.ofAll 4 x ((x.length:Int) - 1) p.body);rw[<-g0]at HE
   have t0:Hid (∀W,Below W5.heap.size W5 W->Calls prog 70 #[.pointer (some ⟨Cb,0,none⟩),.int .i64 ((x.length:Int) - 1),.slice ba p.body.length bc] W λe w'=>e=.returned (.bool res)/\Below W.heap.size W w'):=λW hW=>by
    have h1:=(K0.out.below M0.out).below hW;have h2:=(HH.out.below a0.out).below hW;rw[g0];exact isOfAll_any h2.xo 4 W _ _ _ h1 h2.hS ⟨by have:=c0.1;omega,by have:=c0.1;omega⟩ h2.bs h2.kd
   clear g0;have Q0:0<(x.length:Int)/\(x.length:Int)<=200:=(by omega)
   go_wp2_with fail
   refine Yy HQ ((Below.refl _ _).drew) [11] [] [] (by kernel_rfl) (λc a d v w h=>by cases d<;>exact h) (λops hG=>?_);clear hG
   iterate 11 refine Ze rfl (by rintro _ ⟨_,_⟩;go_simp<;>rfl) (by go_simp<;>rfl) ?_
   refine Zs ?_
   go_wp2_with fail
   refine(t0.out _ (Below.refl _ _).drew).mono ?_;rintro e W6 ⟨rfl,N0⟩;have u0:Hid (Below W5.heap.size W5 W6):=(Below.refl _ _).drew.trans N0;clear N0
   go_wp2_with fail
   refine⟨HQ.out _ u0.out,?_⟩;refine Ze rfl (by rintro _ ⟨_,_⟩;go_simp<;>rfl) (by go_simp<;>rfl) ?_;refine Yt ?_
   cases res with
   |true=>
    go_wp2;go_ret;exact⟨a0.out.trans (u0.out.mono a0.out.size),.inl ⟨by rw[HE.out];rfl,rfl⟩⟩
   |false=>
    go_wp2;go_ret;exact⟨a0.out.trans (u0.out.mono a0.out.size),.inr (.inl ⟨by rw[HE.out];rfl,rfl⟩)⟩
structure DecOk(ls:List Int)(x:List Fl.Node):Prop where
 l0:ls.length<=4/\∀y∈ls,0<=y
 x0:0<x.length/\x.length<=200
 ok:∀k,k<x.length->Fl.bad x k=false
def decode_ok{s:List UInt8}(h:(Fl.decode s).2.1=true):DecOk (Fl.decode s).1.1 (Fl.decode s).1.2:=by
 have h1:=Fl.decode_encode h;generalize (Fl.decode s).1.1=ls at h1⊢;generalize (Fl.decode s).1.2=x at h1⊢;unfold Fl.encode at h1
 split at h1
 ·simp at h1
 rename_i h2
 split at h1
 ·simp at h1
 rename_i h3
 split at h1
 ·simp at h1
 rename_i h4;refine⟨⟨by omega,λy hy=>?_⟩,by omega,λk hk=>?_⟩
 ·have h5:ls.all Fl.inR=true:=by simpa using h3
  have h6:=List.all_eq_true.1 h5 y hy;simp only[Fl.inR,Bool.and_eq_true,decide_eq_true_eq]at h6;exact h6.1
 cases hb:Fl.bad x k with
 |false=>rfl
 |true=>
  exfalso
  refine h4 ?_;unfold Fl.shaped
  cases hf:(List.range x.length).find? (Fl.bad x) with
  |some j=>exact Int.natCast_nonneg j
  |none=>
   have h7:=List.find?_eq_none.1 hf k (List.mem_range.2 hk);exact absurd hb h7
def bad_sound{x:List Fl.Node}{k:Nat}(h:Fl.bad x k=false):Fl.sound (Fl.nth x k)=true/\∀q∈prem (Fl.nth x k),q<(k:Int):=by
 unfold Fl.bad at h;simp only[Bool.or_eq_false_iff,Bool.not_eq_false']at h;refine⟨by simpa using h.1,λq hq=>?_⟩;have h2:=List.any_eq_false.1 h.2.1 q hq;simpa using h2
def sound_of{n:Fl.Node}(h:Fl.sound n=true):(0<=n.kind/\n.kind<=7)/\0<=n.level/\0<=n.a/\0<=n.b/\0<=n.c/\(∀y∈n.list,0<=y)/\n.list.length<=16:=by
 simp only[Fl.sound,Fl.okV,Fl.inR,Bool.and_eq_true,decide_eq_true_eq,List.all_eq_true]at h;obtain⟨h1,h2,h3,h4,h5,h6,h7,h8⟩:=h;refine⟨?_,h2.1,h4.1.1,h5.1.1,h6.1.1,λy hy=>(h7 y hy).1,h3⟩;refine Classical.byContradiction λhn=>h1 ?_;unfold Fl.fields;rw[if_neg (by omega),if_neg (by omega),if_neg (by omega),if_neg (by omega)]
def DecOk.idx{ls:List Int}{x:List Fl.Node}(h:DecOk ls x){k:Nat}(hk:k<x.length){q:Int}(hq:q∈prem (Fl.nth x k))(h0:0<=q):VIdx x q/\q.toNat<k:=by
 have h1:=(bad_sound (h.ok k hk)).2 q hq;exact⟨⟨h0,by omega⟩,by omega⟩
def DecOk.xok{ls:List Int}{x:List Fl.Node}(h:DecOk ls x):XOk x:=by
 refine⟨λk hk h2=>?_,λk hk h3=>?_,λk hk h5=>?_,λk hk h6=>?_,λk hk h7 j hj=>?_⟩
 all_goals obtain⟨-,-,s1,s2,s3,s4,-⟩:=sound_of (bad_sound (h.ok k hk)).1
 ·exact⟨(h.idx hk (by simp[prem,h2]) s2).1,(h.idx hk (by simp[prem,h2]) s3).1⟩
 ·exact(h.idx hk (by rcases h3 with h3|h3<;>simp[prem,h3]) s2).1
 ·exact⟨(h.idx hk (by rcases h5 with h5|h5<;>simp[prem,h5]) s1).1,(h.idx hk (by rcases h5 with h5|h5<;>simp[prem,h5]) s2).1⟩
 ·exact(h.idx hk (by simp[prem,h6]) s3).1
 exact(h.idx hk (by simp[prem,h7,hj]) (s4 j hj)).1
def DecOk.ndok{p:Fl.Prog}{ls:List Int}{x:List Fl.Node}(h:DecOk ls x)(k:Nat)(hk:k<x.length)(ha:∀j,j<k->Fl.follows p ls x (Fl.nth x j)=true):NdOk p x (Fl.nth x k):=by
 obtain⟨s0,sl,s1,s2,s3,s4,s5⟩:=sound_of (bad_sound (h.ok k hk)).1
 have hP:∀q,q∈prem (Fl.nth x k)->0<=q->POk p x q:=λq hq h0=>by
  obtain⟨h1,h2⟩:=h.idx hk hq h0;have h3:=ha q.toNat h2;obtain⟨t0,tl,-⟩:=sound_of (bad_sound (h.ok q.toNat h1.2)).1;simp only[Fl.follows,Bool.and_eq_true,decide_eq_true_eq]at h3;exact⟨h0,h1.2,tl,h3.1,t0⟩
 refine⟨s0,sl,λ_=>s1,λh2=>?_,λh3=>⟨s1,?_⟩,λh5=>?_,λh6=>?_,λh7=>⟨λj hj=>?_,by omega⟩⟩
 ·exact⟨hP _ (by simp[prem,h2]) s2,hP _ (by simp[prem,h2]) s3⟩
 ·exact hP _ (by rcases h3 with h3|h3<;>simp[prem,h3]) s2
 ·exact⟨hP _ (by rcases h5 with h5|h5<;>simp[prem,h5]) s1,hP _ (by rcases h5 with h5|h5<;>simp[prem,h5]) s2⟩
 ·exact hP _ (by simp[prem,h6]) s3
 exact hP _ (by simp[prem,h7,hj]) (s4 j hj)
def kinds_of{nv nc:Nat}:∀(d:Nat) (l:List Fl.Stmt),Fl.StmtsOk nv nc d l->kindsOk d l
 |0,_,_=>trivial
 |d+1,l,h=>λi hi=>by
  have hm:l.getD i noS∈l:=by
   rw[Qa,Qb hi];exact List.getElem_mem hi
  obtain⟨h1,-,h3,h4⟩:=h _ hm;refine⟨?_,kinds_of d _ h3,kinds_of d _ h4⟩;rcases h1 with h1|h1|h1|h1
  ·exact .inl h1.1
  ·exact .inr (.inl h1.1)
  ·exact .inr (.inr (.inl h1))
  exact .inr (.inr (.inr h1.1))
end Go.Proofs.YtminjljgedopkaaGreatDoor
namespace Go.Proofs.YtminjljgedopkaaGreatDoor
open Go.Proofs.Tryz
def Fl.checked(q:Nat×Nat×Fl.Prog)(d:(List Int×List Fl.Node)×Bool×Int):Nat×Int:=
 if q.1≠0 then(q.1,(q.2.1:Int)) else if d.2.1=false then(8,d.2.2) else Fl.check q.2.2 d.1.1 d.1.2
open Go.RowKit
def Fl.check_place(p:Fl.Prog)(ls:List Int)(x:List Fl.Node):((Fl.check p ls x).1=0->Fl.check p ls x=(0,-1))/\((Fl.check p ls x).1=10->Fl.check p ls x=(10,-1)):=by
 unfold Fl.check
 split
 ·exact⟨λh=>by simp at h,λ_=>rfl⟩
 split
 ·exact⟨λh=>by simp at h,λh=>by simp at h⟩
 split
 ·exact⟨λ_=>rfl,λh=>by simp at h⟩
 exact⟨λh=>by simp at h,λ_=>rfl⟩
def Ug.cpin{w:World}{Pb:Nat}{p:Fl.Prog}{lv nv:Value}{ls:List Int}{x:List Fl.Node}(h:Ug (λb=>b<w.heap.size) w Pb p)(ho:p.Ok)(hv:p.n<=6/\(∀y∈p.cells,y<p.n)/\∀y∈p.chans,y<p.n)(hd:DecOk ls x)(hl:Zy w.heap.size w lv ls)(hn:Zo w.heap.size w nv x):
  ∃Lb clv hv bv,CpIn w Pb Lb clv hv bv lv nv p (λb=>b<w.heap.size) ls x:=by
 obtain⟨Lb,clv,chv,bv,h1,h2,h3,h4,h5,h6,h7⟩:=h;exact⟨Lb,clv,chv,bv,{hz:=⟨h1,h2⟩,p0:=h3.c 0 (by omega),p1:=h3.c 1 (by omega),p2:=h3.c 2 (by omega),p3:=h3.c 3 (by omega),p4:=h3.c 4 (by omega),la:=h4,ci:=h5.ints (λb hb=>hb),hi:=h6.ints (λb hb=>hb),bs:=h7,hS:=λb hb=>hb,li:=hl,no:=hn,n6:=hv.1,cl:=⟨ho.ce,ho.ch⟩,cv:=hv.2,kd:=kinds_of 4 _ ho.body,l0:=hd.l0,x0:=hd.x0,xo:=hd.xok}⟩
def DcEnds(r:(List Int×List Fl.Node)×Bool×Int)(w:World)(e:Ending)(w':World):Prop:=
 Below w.heap.size w w'/\
 (r.2.1=false->∃q,e=.returned (.tuple #[.agg #[.slice none 0 0,.slice none 0 0],.iface 76 (.pointer (some ⟨q,0,none⟩))])/\w'.cell? ⟨q,0,none⟩=some (.int .i64 8)/\w'.cell? ⟨q,1,none⟩=some (.int .i64 r.2.2))/\
 (r.2.1=true->∃la n lc na n' nc,e=.returned (.tuple #[.agg #[.slice la n lc,.slice na n' nc],.nilIface])/\Zy w'.heap.size w' (.slice la n lc) r.1.1/\Zo w'.heap.size w' (.slice na n' nc) r.1.2)
def FcEnds(res:Nat×Int)(w:World)(e:Ending)(w':World):Prop:=
 Below w.heap.size w w'/\((res=(0,-1)/\e=.returned .nilIface)\/(res=(10,-1)/\e=.returned (.iface 27 (.int .i64 10)))\/∃a,e=.returned (.iface 76 (.pointer (some ⟨a,0,none⟩)))/\w'.cell? ⟨a,0,none⟩=some (.int .i64 res.1)/\w'.cell? ⟨a,1,none⟩=some (.int .i64 res.2))
def flows_check{w:World}{l s:List UInt8}{ao:Option Addr}{cap:Nat}(hl:l.length<=100000)(hg:2<w.heap.size)(hm:Yx w)(c0:∀w1:World,Below w.heap.size w w1->Calls prog 29 #[.slice ao s.length cap] w1 (DcEnds (Fl.decode s) w1)):
  Calls prog 27 #[.string ⟨l.toArray⟩,.slice ao s.length cap] w (FcEnds (Fl.checked (Fl.readProg l) (Fl.decode s)) w):=by
 have j0:Hid (Calls prog 34 #[.string ⟨l.toArray⟩] w (zv6 (Fl.readProg l) w)):=zh1 hl hg hm;have g0:=Zz c0;have k0:Hid ((Fl.readProg l).1=0->(Fl.readProg l).2.2.Ok):=λh=>(Fl.readProg_ok l h).1;have l0:Hid ((Fl.readProg l).2.2.n<=6/\(∀y∈(Fl.readProg l).2.2.cells,y<(Fl.readProg l).2.2.n)/\∀y∈(Fl.readProg l).2.2.chans,y<(Fl.readProg l).2.2.n):=Fl.readProg_lv l;have m0:Hid ((Fl.decode s).2.1=true->DecOk (Fl.decode s).1.1 (Fl.decode s).1.2):=decode_ok;obtain⟨q,hq⟩:=nmE (Fl.readProg l);obtain⟨d,hd⟩:=nmE (Fl.decode s);rw[<-hq]at j0 k0 l0⊢;rw[<-hd]at g0 m0⊢;clear hq hd hl hg hm c0
 go_enter func27,ntmps27
 go_wp2_with fail
 refine j0.out.mono ?_;rintro e w1 ⟨p0,d0⟩;have i0:=Zz p0;clear p0 j0;rcases d0 with⟨h0,Pb,rfl,hp⟩|⟨h0,a,rfl,a0,a1⟩
 ·have HP:Hid (Ug (λb=>b<w1.heap.size) w1 Pb q.2.2):=hp.kept (λb hb=>hb.2) (λ_ _=>rfl)
  have H0:=Zz h0;clear hp h0
  go_wp2_with fail
  refine(g0.out _ i0.out).mono ?_;rintro e w2 ⟨n0,b0,hgood⟩;have q0:=Zz n0;have e0:Hid (Below w.heap.size w w2):=i0.out.trans (n0.mono i0.out.size);clear n0
  cases hr:d.2.1 with
  |false=>
   obtain⟨a,rfl,a0,a1⟩:=b0 hr;have HE:Hid (Fl.checked q d=(8,d.2.2)):=(by show _=_;unfold Fl.checked;rw[if_neg (by rw[H0.out];simp),if_pos hr]);have ha:a<w2.heap.size:=Qe w2 _ a0;have A0:=Zz a0;have A1:=Zz a1;clear b0 hgood hr a0 a1
   go_wp2_with fail
   go_ret;refine⟨e0.out.alloc e0.out.size _,.inr (.inr ⟨a,rfl,?_,?_⟩)⟩
   ·rw[HE.out];exact(Qf _ _ _ ha).trans A0.out
   rw[HE.out];exact(Qf _ _ _ ha).trans A1.out
  |true=>
   obtain⟨la,n,lc,na,n',nc,rfl,hi,hn⟩:=hgood hr;have HE:Hid (Fl.checked q d=Fl.check q.2.2 d.1.1 d.1.2):=(by show _=_;unfold Fl.checked;rw[if_neg (by rw[H0.out];simp),if_neg (by rw[hr];simp)])
   have r0:Hid (∀W,Below w2.heap.size w2 W->Calls prog 36 #[.pointer (some ⟨Pb,0,none⟩),.agg #[.slice la n lc,.slice na n' nc]] W (CpEnds (Fl.check q.2.2 d.1.1 d.1.2) W)):=λW hW=>by
    have s0:=m0.out hr;have hw:=q0.out.trans (hW.mono q0.out.size);have u0:Ug (λb=>b<W.heap.size) W Pb q.2.2:=HP.out.kept (λb hb=>Nat.lt_of_lt_of_le hb hw.size) (λb hb=>hw.block b hb);obtain⟨Lb,clv,hv,bv,v0⟩:=u0.cpin (k0.out H0.out) l0.out s0 ((hi.below hW).mono hW.size) ((hn.below hW).mono hW.size);exact cproof_any v0 (λ_ _=>s0.ndok)
   clear b0 hgood hr hi hn m0 g0 HP k0 l0
   go_wp2_with fail
   refine(r0.out _ (bA)).mono ?_;rintro e w3 ⟨t0,hc⟩;have o0:Hid (Below w.heap.size w w3):=(e0.out.alloc e0.out.size _).trans (t0.mono (by have:=e0.out.size;simp;omega));have f0:Hid (((Fl.check q.2.2 d.1.1 d.1.2).1=0->Fl.check q.2.2 d.1.1 d.1.2=(0,-1))/\((Fl.check q.2.2 d.1.1 d.1.2).1=10->Fl.check q.2.2 d.1.1 d.1.2=(10,-1))):=Fl.check_place _ _ _;clear t0 r0;rcases hc with⟨h0,rfl⟩|⟨h0,rfl⟩|⟨h0,a,rfl,a0,a1⟩
   ·have HZ:Hid (Fl.checked q d=(0,-1)):=HE.out.trans (f0.out.1 h0)
    clear h0 HE f0;go_wp2;go_ret;exact⟨o0.out,.inl ⟨HZ.out,rfl⟩⟩
   ·have HZ:Hid (Fl.checked q d=(10,-1)):=HE.out.trans (f0.out.2 h0)
    clear h0 HE f0;go_wp2;go_ret;exact⟨o0.out,.inr (.inl ⟨HZ.out,rfl⟩)⟩
   have A0:Hid (w3.cell? ⟨a,0,none⟩=some (.int .i64 (Fl.checked q d).1)):=(by show _=_;rw[HE.out,h0];exact a0);have A1:Hid (w3.cell? ⟨a,1,none⟩=some (.int .i64 (Fl.checked q d).2)):=(by show _=_;rw[HE.out];exact a1);clear h0 a0 a1 HE f0;go_wp2;go_ret;exact⟨o0.out,.inr (.inr ⟨a,rfl,A0.out,A1.out⟩)⟩
 have HE:Hid (Fl.checked q d=(q.1,(q.2.1:Int))):=by show _=_;unfold Fl.checked;rw[if_pos h0]
 clear h0 g0;go_wp2;go_ret;refine⟨i0.out,.inr (.inr ⟨a,rfl,?_,?_⟩)⟩
 ·rw[HE.out];exact a0
 rw[HE.out];exact a1
def plain_check{w:World}{l s:List UInt8}{ao:Option Addr}{cap:Nat}(hE:Vs w)(hl:l.length<=100000)(hg:2<w.heap.size)(hm:Yx w)(c0:∀w1:World,Below w.heap.size w w1->Calls prog 29 #[.slice ao s.length cap] w1 (DcEnds (Fl.decode s) w1)):
  Calls prog 16 #[.string ⟨l.toArray⟩,.slice ao s.length cap] w λe w'=>e=.returned (.tuple #[.int .i64 (Fl.checked (Fl.readProg l) (Fl.decode s)).1,.int .i64 (Fl.checked (Fl.readProg l) (Fl.decode s)).2])/\Below w.heap.size w w':=by
 have HC:Hid (Calls prog 27 #[.string ⟨l.toArray⟩,.slice ao s.length cap] w (FcEnds (Fl.checked (Fl.readProg l) (Fl.decode s)) w)):=flows_check hl hg hm c0;have f0:Hid (∀o,Below w.heap.size w o->Vs o):=λo ho=>(ho.cell (p:=⟨0,0,none⟩) (Qe w _ hE)).trans hE;obtain⟨res,d0⟩:=nmE (Fl.checked (Fl.readProg l) (Fl.decode s));rw[<-d0]at HC⊢;clear hl hg hm c0 hE d0
 go_enter func16,ntmps16
 go_wp2_with fail
 refine HC.out.mono ?_;rintro e w1 ⟨hB,hc⟩;have HB:=Zz hB;clear hB HC;rcases hc with⟨rfl,rfl⟩|⟨rfl,rfl⟩|⟨a,rfl,a0,a1⟩
 ·go_wp2_with fail
  refine(zn8 _).mono ?_;rintro e w2 ⟨rfl,b0⟩;have e0:Hid (Below w.heap.size w w2):=HB.out.trans (b0.mono HB.out.size);clear b0;go_wp2
  go_ret2
  exact⟨rfl,e0.out⟩
 ·go_wp2_with fail
  refine(zk1 10 _ (f0.out _ HB.out)).mono ?_;rintro e w2 ⟨rfl,b0⟩;have e0:Hid (Below w.heap.size w w2):=HB.out.trans (b0.mono HB.out.size);clear b0;go_wp2
  go_ret2
  exact⟨rfl,e0.out⟩
 obtain⟨n,p⟩:=res;have A0:=Zz a0;have A1:=Zz a1;clear a0 a1
 go_wp2_with fail
 refine(zj3 a 0 (n:Int) p _ (f0.out _ HB.out) A0.out A1.out).mono ?_;rintro e w2 ⟨rfl,b0⟩;have e0:Hid (Below w.heap.size w w2):=HB.out.trans (b0.mono HB.out.size);clear b0;go_wp2
 go_ret2
 exact⟨rfl,e0.out⟩
end Go.Proofs.YtminjljgedopkaaGreatDoor
namespace Go.Proofs.YtminjljgedopkaaGreatDoor
open Go.Proofs.Tryz
namespace Fl
def tA:List UInt8:=[108,101,118,101,108,32,108,111,119,10,108,101,118,101,108,32,104,105,103,104,10,98,101,108,111,119,32,108,111,119,32,104,105,103,104,10,99,101,108,108,32,97,32,108,111,119,10,99,101,108,108,32,115,32,104,105,103,104,10,99,104,97,110,110,101,108,32,112,117,98,32,108,111,119,10,99,104,97,110,110,101,108,32,115,101,99,32,104,105,103,104,10,98,101,103,105,110,10,115,101,116,32,115,32,97,10,111,117,116,32,115,101,99,32,115,10,111,117,116,32,112,117,98,32,97,10]
def tB:List UInt8:=[108,101,118,101,108,32,108,111,119,10,108,101,118,101,108,32,104,105,103,104,10,98,101,108,111,119,32,108,111,119,32,104,105,103,104,10,99,101,108,108,32,97,32,108,111,119,10,99,101,108,108,32,115,32,104,105,103,104,10,99,104,97,110,110,101,108,32,112,117,98,32,108,111,119,10,99,104,97,110,110,101,108,32,115,101,99,32,104,105,103,104,10,98,101,103,105,110,10,115,101,116,32,120,32,115,10,111,117,116,32,112,117,98,32,120,10]
def bA:List UInt8:=[70,80,49,0,6,1,0,0,3,0,1,0,1,1,1,4,0,1,2,4,0,0,0,7,0,3,1,3,4]
def tA_inf:inferE (readProg tA)=(0,-1,bA):=by kernel_rfl
def tB_inf:inferE (readProg tB)=(7,10,[]):=by kernel_rfl
def tA_chk:checked (readProg tA) (decode bA)=(0,-1):=by kernel_rfl
end Fl
open Go.RowKit
def plain_check_at{w:World}{l s:List UInt8}{ao:Option Addr}{cap:Nat}(hE:Vs w)(hl:l.length<=100000)(hg:2<w.heap.size)(hm:Yx w)(hs:s.length<=1099511627776)(hb:zy4 w ao s):
  Calls prog 16 #[.string ⟨l.toArray⟩,.slice ao s.length cap] w λe w'=>e=.returned (.tuple #[.int .i64 (Fl.checked (Fl.readProg l) (Fl.decode s)).1,.int .i64 (Fl.checked (Fl.readProg l) (Fl.decode s)).2])/\Below w.heap.size w w':=by
 refine plain_check hE hl hg hm (λw1 hw1=>?_);refine(zbz (cap:=cap) (ao:=ao) (s:=s) (w:=w1) hs (hb.below hw1)).mono ?_;rintro e w' ⟨h1,h2,h3⟩;refine⟨h1,h2,λh=>?_⟩;obtain⟨la,n,lc,na,n',nc,e1,e2⟩:=h3 h;exact⟨la,n,lc,na,n',nc,e1,e2 w' ⟨Nat.le_refl _,λ_ _ _=>rfl⟩⟩
def stands_any{w:World}(hE:Vs w)(hg:2<w.heap.size)(hm:Yx w):
  Calls prog 9 #[] w λe w'=>e=.returned (.bool true)/\Below w.heap.size w w':=by
 have HE:Hid (∀W,Below w.heap.size w W->Vs W/\2<W.heap.size/\Yx W):=λW hW=>⟨(hW.cell (p:=⟨0,0,none⟩) (World.block_lt_of_cell? w _ hE)).trans hE,by have:=hW.size;omega,hm.below (Nat.le_refl _) hW⟩
 have HA:Hid (∀W,Below w.heap.size w W->Calls prog 14 #[.string ⟨Fl.tA.toArray⟩] W (zr1 (0,-1,Fl.bA) W)):=λW hW=>by
  have h:=zo7 (l:=Fl.tA) (HE.out W hW).1 (by decide) (HE.out W hW).2.1 (HE.out W hW).2.2;rw[Fl.tA_inf]at h;exact h
 have HB:Hid (∀W,Below w.heap.size w W->Calls prog 14 #[.string ⟨Fl.tB.toArray⟩] W (zr1 (7,10,[]) W)):=λW hW=>by
  have h:=zo7 (l:=Fl.tB) (HE.out W hW).1 (by decide) (HE.out W hW).2.1 (HE.out W hW).2.2;rw[Fl.tB_inf]at h;exact h
 have HC:Hid (∀W ao cap,Below w.heap.size w W->zy4 W ao Fl.bA->Calls prog 16 #[.string ⟨Fl.tA.toArray⟩,.slice ao Fl.bA.length cap] W λe w'=>e=.returned (.tuple #[.int .i64 0,.int .i64 (-1)])/\Below W.heap.size W w'):=λW ao cap hW hb=>by
  have h:=plain_check_at (l:=Fl.tA) (cap:=cap) (HE.out W hW).1 (by decide) (HE.out W hW).2.1 (HE.out W hW).2.2 (by decide) hb;rw[Fl.tA_chk]at h;exact h
 obtain⟨bl,ebl⟩:∃bl,bl=Fl.bA.length:=⟨_,rfl⟩
 have hbl:(bl:Int)>0:=by rw[ebl];decide
 rw[<-ebl]at HC;have EBL:Hid (bl=Fl.bA.length):=ebl;clear HE hE hg hm ebl
 go_enter func9,ntmps9
 obtain⟨vA,evA⟩:∃vA,vA=Value.string ⟨Fl.tA.toArray⟩:=⟨_,rfl⟩;obtain⟨vB,evB⟩:∃vB,vB=Value.string ⟨Fl.tB.toArray⟩:=⟨_,rfl⟩;rw[<-evA]at HA HC;rw[<-evB]at HB;have evA':Value.string ⟨(List.append [108,101,118,101,108,32,108,111,119,10,108,101,118,101,108,32,104,105,103,104,10,98,101,108,111,119,32,108,111,119,32,104,105,103,104,10,99,101,108,108,32,97,32,108,111,119,10,99,101,108,108,32,115,32,104,105,103,104,10,99,104,97,110] [110,101,108,32,112,117,98,32,108,111,119,10,99,104,97,110,110,101,108,32,115,101,99,32,104,105,103,104,10,98,101,103,105,110,10,115,101,116,32,115,32,97,10,111,117,116,32,115,101,99,32,115,10,111,117,116,32,112,117,98,32,97,10]:List UInt8).toArray⟩=vA:=evA.symm;have evB':Value.string ⟨(List.append [108,101,118,101,108,32,108,111,119,10,108,101,118,101,108,32,104,105,103,104,10,98,101,108,111,119,32,108,111,119,32,104,105,103,104,10,99,101,108,108,32,97,32,108,111,119,10,99,101,108,108,32,115,32,104,105,103,104] [10,99,104,97,110,110,101,108,32,112,117,98,32,108,111,119,10,99,104,97,110,110,101,108,32,115,101,99,32,104,105,103,104,10,98,101,103,105,110,10,115,101,116,32,120,32,115,10,111,117,116,32,112,117,98,32,120,10]:List UInt8).toArray⟩=vB:=evB.symm;rw[evA',evB'];clear evA evB evA' evB'
 go_wp2_with fail
 refine(HA.out _ (Below.refl _ _)).mono ?_;rintro e w1 ⟨hb1,va,n,c,rfl,ho⟩;have hby:=(zy4.of_own ho).2;obtain rfl:n=bl:=(zy4.of_own ho).1.trans EBL.out.symm;have HB1:Hid (Below w.heap.size w w1):=hb1;have HBY:Hid (zy4 w1 va Fl.bA):=hby;clear hb1 ho hby HA
 go_wp2_with fail
 refine(HB.out _ HB1.out).mono ?_;rintro e w2 ⟨hb2,va2,n2,c2,rfl,ho2⟩;obtain rfl:n2=0:=(zy4.of_own ho2).1;have HB2:Hid (Below w.heap.size w w2):=HB1.out.trans (hb2.mono HB1.out.size);have HBY2:Hid (zy4 w2 va Fl.bA):=HBY.out.below hb2;clear hb2 ho2 HB HBY
 go_wp2_with fail
 refine(HC.out _ _ _ HB2.out HBY2.out).mono ?_;rintro e w3 ⟨rfl,hb3⟩;have HB3:Hid (Below w.heap.size w w3):=HB2.out.trans (hb3.mono HB2.out.size);clear hb3 HBY2 HC;go_wp2;go_ret;exact⟨rfl,HB3.out⟩
end Go.Proofs.YtminjljgedopkaaGreatDoor
