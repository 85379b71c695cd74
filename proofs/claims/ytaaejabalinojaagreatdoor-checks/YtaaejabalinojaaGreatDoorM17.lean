import Derived.Test.YtaaejabalinojaaGreatDoorM15
import Derived.Lib.AppendZerosOnto
set_option linter.all false
set_option maxRecDepth 100000
set_option maxHeartbeats 40000000
namespace Go.Proofs.YtaaejabalinojaaGreatDoor
open Go.RowKit Go.Proofs.Tryz
section
variable{Cb Pb Lb Rl:Nat}{vv nv hv:Value}{p:Fl.Prog}{vs:List Int}{x:List Fl.Node}{S:Nat->Prop}{d:Nat}
def zo9{w:World}(h:Ya w Cb Pb Lb Rl vv nv hv p vs x)(kn:Nat)(hk:kn<x.length)(a:Option Addr)(c:Nat)(len:Nat)(hc:len<=c)(hlen:len<=16)(f:Nat->Bool)
  (hst:∀i,i<len->∃b off sp,a=some ⟨b,off,none⟩/\(∀W,Below w.heap.size w W->W.cell? ⟨b,off+i,none⟩=some (.pointer sp))/\((Fl.nth x kn).kind=7->(Fl.nth x kn).list.length=len->∀W,Below w.heap.size w W->Calls prog 91 #[.pointer (some ⟨Cb,0,none⟩),.int .i64 ((Fl.nth x kn).list.getD i 0),.pointer sp] W λe w'=>e=.returned (.bool (f i))/\Below W.heap.size W w')):
  Calls prog 52 #[.pointer (some ⟨Cb,0,none⟩),.int .i64 kn,.slice a len c] w λe w'=>e=.returned (.bool (decide ((Fl.nth x kn).kind=7) && (decide ((Fl.nth x kn).list.length=len) && (List.range len).all f)))/\Below w.heap.size w w':=by
 obtain⟨nb,no0,cap,lv,rfl,e0⟩:=h.nodeAt kn hk;obtain⟨no,hno⟩:=nmE (no0+kn*6);obtain⟨n,hn⟩:=nmE (Fl.nth x kn);rw[<-hn]at hst e0⊢;rw[<-hno]at e0;obtain⟨la,lc,rfl,z0,-,j0⟩:=e0.li;have c2:=h.c2
 have A0:(kn:Int)<(x.length:Int):=by omega
 have hz:=e0.hz;have n0:=e0.c0;have n5:=e0.c5;have HN:Hid (∀W,Below w.heap.size w W->W.cell? ⟨nb,no+5,none⟩=some (.slice la n.list.length lc)):=λW hW=>(hW.cell (p:=⟨nb,no+5,none⟩) hz).trans n5
 have u0:Hid (∀i,i<n.list.length->∃b off,la=some ⟨b,off,none⟩/\∀W,Below w.heap.size w W->W.cell? ⟨b,off+i,none⟩=some (.int .i64 (n.list.getD i 0))):=λi hi=>by
  obtain⟨b,off,e,hb,v0⟩:=j0 (by intro h;rw[h]at hi;simp at hi);exact⟨b,off,e,λW hW=>(hW.cell (p:=⟨b,off+i,none⟩) hb).trans (v0 i hi)⟩
 obtain⟨res,b0⟩:=nmE ((decide (n.kind=7) && (decide (n.list.length=len) && (List.range len).all f)));rw[<-b0];have a0:=Zz b0;have B0:=Zz hno
 have o0:(len:Int)<=16:=by omega
 have C0:(len:Int)<=(c:Int):=by omega
 by_cases h7:n.kind=7
 ·have e7:(n.kind !=7)=false:=by simp[h7]
  by_cases hl:n.list.length=len
  ·have el:((n.list.length:Int) !=(len:Int))=false:=by simp[hl]
   have HE:Hid (res=(List.range len).all f):=(by show _=_;rw[a0.out,decide_eq_true h7,decide_eq_true hl];simp)
   have x0:Hid (∀i,i<len->∃b off sp,a=some ⟨b,off,none⟩/\(∀W,Below w.heap.size w W->W.cell? ⟨b,off+i,none⟩=some (.pointer sp))/\(∀W,Below w.heap.size w W->Calls prog 91 #[.pointer (some ⟨Cb,0,none⟩),.int .i64 (n.list.getD i 0),.pointer sp] W λe w'=>e=.returned (.bool (f i))/\Below W.heap.size W w')):=λi hi=>by
    obtain⟨b,off,sp,e1,e2,e3⟩:=hst i hi;exact⟨b,off,sp,e1,e2,e3 h7 hl⟩
   have HL:=Zz hl;clear h e0 hst b0 hn a0 h7 hl j0;subst hno
   go_enter func52,ntmps52
   go_wp2_with fail
   go_loopw [33] (λi wr=>Below w.heap.size w wr/\∃k:Nat,k<=len/\i=.int .i64 k/\(List.range k).all f=true) (λi _=>len - (intOf i).toNat)
   case atStart=>exact⟨Below.refl _ _,0,Nat.zero_le _,rfl,rfl⟩
   case round=>
    obtain⟨p0,k,D0,rfl,hall⟩:=hrel;have g0:=Zz p0;have i0:=Zz hall;clear p0 hall
    by_cases k0:k<len
    ·have l0:(k:Int)<(len:Int):=by omega
     obtain⟨b,off,sp,rfl,q0,d0⟩:=x0.out k k0;obtain⟨b2,off2,rfl,r0⟩:=u0.out k (by rw[HL.out];exact k0);have d1:=q0 wr g0.out;have d2:=r0 wr g0.out;have d3:=HN.out wr g0.out;have E0:(k:Int)<(n.list.length:Int):=(by have:=HL.out;omega);obtain⟨j,hj⟩:=nmE (n.list.getD k 0);rw[<-hj]at d2 d0;have f0:Hid (Calls prog 91 #[.pointer (some ⟨Cb,0,none⟩),.int .i64 j,.pointer sp] wr λe w'=>e=.returned (.bool (f k))/\Below wr.heap.size wr w'):=d0 wr g0.out
     have HF:Hid (f k=false->(List.range len).all f=false):=λh0=>by
      rw[List.all_eq_false];exact⟨k,List.mem_range.2 k0,by rw[h0];simp⟩
     have HT:Hid (f k=true->(List.range (k+1)).all f=true):=λh0=>by rw[List.range_succ,List.all_append,i0.out];simp[h0]
     generalize f k=fk at f0 HF HT;clear q0 r0 d0 hj
     go_wp2_with fail
     refine f0.out.mono ?_;rintro e w1 ⟨rfl,s0⟩;have t0:Hid (Below w.heap.size w w1):=g0.out.trans (s0.mono g0.out.size);clear s0
     cases fk with
     |false=>
      have m0:Hid (res=false):=(by show _=_;rw[HE.out];exact HF.out rfl);go_wp2;go_ret;exact⟨cbE m0.out,t0.out⟩
     |true=>
      have y0:Hid ((List.range (k+1)).all f=true):=HT.out rfl;go_wp2
      go_roundw
      case rel=>exact⟨t0.out,k+1,by omega,by go_num,y0.out⟩
      case measure=>simp[intOf];omega
    have l0:¬(k:Int)<(len:Int):=(by omega);have m0:Hid (res=true):=by
     show _=_;rw[HE.out];have h1:=i0.out;rw[show k=len by omega]at h1;exact h1
    go_wp2;go_ret;exact⟨cbE m0.out,g0.out⟩
  have el:((n.list.length:Int) !=(len:Int))=true:=(by rw[bne_iff_ne];omega);have HE:Hid (res=false):=(by show _=_;rw[a0.out,decide_eq_false hl];simp);clear h e0 hst b0 hn a0 h7 hl j0;subst hno
  go_enter func52,ntmps52
  go_wp2;go_ret;exact⟨cbE HE.out,Below.refl _ _⟩
 have e7:(n.kind !=7)=true:=by rw[bne_iff_ne];exact h7
 have HE:Hid (res=false):=by show _=_;rw[a0.out,decide_eq_false h7];simp
 clear h e0 hst b0 hn a0 h7 j0;subst hno
 go_enter func52,ntmps52
 go_wp2;go_ret;exact⟨cbE HE.out,Below.refl _ _⟩
end
section
variable{Cb Pb Lb Rl:Nat}{vv nv hv:Value}{p:Fl.Prog}{vs:List Int}{x:List Fl.Node}{S:Nat->Prop}{d:Nat}
def yk6:zjy Cb Pb Lb Rl vv nv hv p vs x S 0:=by
 intro w k v l h hS hk a0 _;obtain⟨rfl,rfl⟩:=a0;obtain⟨kn,b0⟩:∃kn:Nat,(kn:Int)=k:=⟨k.toNat,by have:=hk.1;omega⟩
 have e0:k.toNat=kn:=by omega
 have h1:=zo9 h kn (by have:=hk.2;omega) none 0 0 (Nat.le_refl _) (by omega) (λ_=>true) (λi hi=>by omega);rw[b0]at h1;refine h1.mono ?_;rintro e w' ⟨rfl,hw⟩;refine⟨?_,hw⟩;unfold Fl.ofAll Fl.nd;rw[e0]
 congr 3
 by_cases hl:(Fl.nth x kn).list=[]
 ·simp[hl]
 have:(Fl.nth x kn).list.length≠0:=λh=>hl (Qi h);simp[hl,this]
def yk7(hx:XOk x)(H:zjy Cb Pb Lb Rl vv nv hv p vs x S d):zjy Cb Pb Lb Rl vv nv hv p vs x S (d+1):=by
 intro w k v l h hS hk g0 h0;obtain⟨ao,cap,rfl,hc,-,i0,a0⟩:=g0;obtain⟨kn,j0⟩:∃kn:Nat,(kn:Int)=k:=⟨k.toNat,by have:=hk.1;omega⟩
 have e0:k.toNat=kn:=by omega
 have c0:kn<x.length:=by have:=hk.2;omega
 have h1:=zo9 h kn c0 ao cap l.length hc i0 (λi=>Fl.ofOne (Fl.ofAll d x) x ((Fl.nth x kn).list.getD i 0) (l.getD i noS)) (λi hi=>by
  obtain⟨b,off,e,hb,k0⟩:=a0 (by rintro rfl;simp at hi);obtain⟨q,hq,d0⟩:=k0 i hi;obtain⟨sb,vp,fv,ev,rfl,-⟩:=id d0;refine⟨b,off,some ⟨sb,0,none⟩,e,λW hW=>(hW.cell (p:=⟨b,off+i,none⟩) (hS b hb)).trans hq,λh7 hlen W hW=>?_⟩;have b0:=h0 i hi;have hmem:(Fl.nth x kn).list.getD i 0∈(Fl.nth x kn).list:=by
   have f0:i<(Fl.nth x kn).list.length:=(by omega);rw[Qa,Qb f0];exact List.getElem_mem f0
  exact yxy hx H (h.below hW) (λb hb=>Nat.lt_of_lt_of_le (hS b hb) hW.size) _ (hx.k7 kn c0 h7 _ hmem) _ _ (d0.kept (λv l hh=>Yr.kept (λb hb=>hb) (λb hb=>hW.block b (hS b hb)) _ _ _ hh) (λb hb=>hb) (λb hb=>hW.block b (hS b hb))) b0.1 b0.2.1 b0.2.2)
 rw[j0]at h1;refine h1.mono ?_;rintro e w' ⟨rfl,hw⟩;refine⟨?_,hw⟩;unfold Fl.ofAll Fl.nd;rw[e0]
def zm3(hx:XOk x):∀d,zjy Cb Pb Lb Rl vv nv hv p vs x S d
 |0=>yk6
 |d+1=>yk7 hx (zm3 hx d)
end
def zxv:Array Value:=#[.int .i64 0,.func (.func 82) #[] #[],.int .i64 0,.func (.func 83) #[] #[],.int .i64 0,.func (.func 84) #[] #[],.int .i64 1,.func (.func 85) #[] #[],.int .i64 1,.func (.func 86) #[] #[],.int .i64 1,.func (.func 87) #[] #[],.int .i64 1,.func (.func 88) #[] #[],.int .i64 2,.func (.func 89) #[] #[]]
def ys6(w:World):Calls prog 50 #[] w λe w'=>e=.returned (.slice (some ⟨w.heap.size,0,none⟩) 8 8)/\w'=w.alloc (.cells zxv 185):=by
 go_enter func50,ntmps50
 go_wp2;go_ret;exact⟨rfl,rfl⟩
def ys7{w:World}{Rl:Nat}(h:w.heap[Rl]?=some (.cells zxv 185 (0,0))):∀k,k<8->w.cell? ⟨Rl,k*2,none⟩=some (.int .i64 (zrv k))/\w.cell? ⟨Rl,k*2+1,none⟩=some (.func (.func (zj7 k)) #[] #[]):=by
 intro k hk;rw[cell_of_row _ _ (k*2) _ _ (0,0) h,cell_of_row _ _ (k*2+1) _ _ (0,0) h];rcases(show k=0\/k=1\/k=2\/k=3\/k=4\/k=5\/k=6\/k=7 by omega) with rfl|rfl|rfl|rfl|rfl|rfl|rfl|rfl<;>exact⟨rfl,rfl⟩
def Tryz.infoIntZ:(Tryz.prog.info? 3).map (λi=>(i.zero,i.size,i.bytes))=some (some (.int .i64 0),1,8):=by kernel_rfl
def zp9{w:World}{ops:Array Oper}{rest:List Oper}{o:Oper}{a:Act}{Q:Exit->Act->World->Prop}(f0:o.guard=none)(s x:Operand)
  (ho:o.op=.call {callee:=.builtin .append,args:=#[s,x],argTypes:=#[30,3]}) (hs:a.eval s=.slice none 0 0) (k:Nat) (hx:a.eval x=.int .i64 k) (h0:0<k) (hk:k<=100000)
  (h:∀(cap:Nat) (W':World),Below w.heap.size w W'->k<=cap->cap<=maxLen->W'.ownsRow w.heap.size 3 1 (.slice (some ⟨w.heap.size,0,none⟩) 0 cap) 0 []->wpList prog ops Q rest (a.put o.dst (.slice (some ⟨w.heap.size,0,none⟩) k cap)) W'):wpList prog ops Q (o::rest) a w:=by
 obtain⟨i0,hi,g0,j0,d0⟩:=info_parts Tryz.infoIntZ;have hrun:=Go.Lib.run_append_grow_zeros (P:=prog) w 30 3 o.type 3 i0 (.int .i64 0) .i64 .i64 underlying30 underlying3 hi g0 none 0 0 [] (by simp[Builtin.firstCells]) k h0 (by rw[j0];omega) (by omega) (by omega) (by rw[d0];omega) (growslice_fits (by omega) (by rw[d0];omega));rw[Nat.zero_add]at hrun;have e0:=grownCap_ge w k 0 3;have b0:=grownCap_le_maxLen w k 0 3 (by unfold maxLen;omega);obtain⟨cap,c0⟩:=nmE (grownCap w k 0 3);rw[<-c0]at hrun e0 b0;obtain⟨cur,a0⟩:=nmE (([]:List Value).toArray++Builtin.zeroCells (Value.int .i64 0).cells k++Builtin.zeroCells (Value.int .i64 0).cells (cap - k));have hsz:cur.size=cap*1:=by
  rw[a0,Array.size_append,Array.size_append,size_zeroCells,size_zeroCells];have:(Value.int IntKind.i64 0).cells.size=1:=rfl;rw[this];simp;omega
 rw[<-a0]at hrun;refine wpList_plain f0 λK hK=>?_;have k0:=hK _ _ (h cap (w.drew.alloc (.cells cur 3)) ((Below.refl _ _).drew.alloc (Nat.le_refl _) _) e0 b0 (World.ownsRow_made w.drew cur cap (Nat.le_refl _) b0 hsz));unfold Oper.wp execOp;simp only[ho,resolve,invoke,builtin,Sem.run_bind,Sem.run_pure,Result.andThen_ok,List.map_toArray,List.map_cons,List.map_nil,hs,hx,hrun];exact k0
def zoz(w:World)(e:Ending)(w':World):Prop:=Below w.heap.size w w'/\∃a c,e=.returned (.slice a 0 c)/\w'.ownsRow w.heap.size 3 1 (.slice a 0 c) 0 []
def yk8(w:World)(n:Nat)(hn:n<=100000):Calls prog 112 #[.slice none 0 0,.int .i64 n] w (zoz w):=by
 have b0:(n:Int)<=100000:=by omega
 by_cases h0:n=0
 ·subst h0
  have HE:Hid (zoz w (.returned (.slice none 0 0)) w):=⟨Below.refl _ _,none,0,rfl,World.ownsRow_nil _ _ _ _⟩
  go_enter func112,ntmps112
  go_wp2;go_ret;exact HE.out
 have c0:(0:Int)<(n:Int):=by omega
 have a0:Hid (0<n):=by show 0<n;omega
 clear h0
 go_enter func112,ntmps112
 go_wp2_with (refine zp9 rfl (.tmp 20) (.tmp 21) rfl rfl n rfl a0.out hn ?_)
 intro cap W' hb hc hm ho;have HE:Hid (zoz w (.returned (.slice (some ⟨w.heap.size,0,none⟩) 0 cap)) W'):=⟨hb,_,_,rfl,ho⟩
 have d0:(n:Int)<=(cap:Int):=by omega
 have e0:(0:Int)<=(cap:Int):=by omega
 clear hb ho;go_wp2;go_ret;exact HE.out
def zr3(w:World)(base:Nat)(v:Value)(n:Nat)(xs:List Value)(a0:w.ownsRow base 3 1 v n xs)(c:Nat)(ty:TypeId){i:TypeInfo}(hi:prog.info? 3=some i):(Builtin.append_ #[30,30] ty #[v,.slice none 0 c]).run prog w=.ok v w:=by
 rcases a0.2 with⟨rfl,h0⟩|⟨g,cap,cur,rfl,hb,hg,b0,c0,d0,ht⟩
 ·simp[Builtin.append_,run_underlying underlying30,sizeOf,typeInfo,hi,Builtin.lenOf,Builtin.firstCells]
 simp[Builtin.append_,run_underlying underlying30,sizeOf,typeInfo,hi,Builtin.lenOf,Builtin.firstCells,b0,storeCells]
def zpz{w:World}{ops:Array Oper}{rest:List Oper}{o:Oper}{a:Act}{Q:Exit->Act->World->Prop}(e0:o.guard=none)(s x:Operand)
  (ho:o.op=.call {callee:=.builtin .append,args:=#[s,x],argTypes:=#[30,30]}) (base:Nat) (v:Value) (ys:List Int) (hs:a.eval s=v) (a0:w.ownsRow base 3 1 v ys.length (ys.map (Value.int .i64))) (xv:Value) (hx:a.eval x=xv) (B:Nat) (xs:List Int) (h0:Zv B w xv xs) (o0:ys.length<=1000000) (hlen:xs.length<=1000000) (c0:base<=w.heap.size)
  (h:∀v' w',w'.ownsRow base 3 1 v' (ys++xs).length ((ys++xs).map (Value.int .i64))->w.grownBy w' v.ownBlock->wpList prog ops Q rest (a.put o.dst v') w'):wpList prog ops Q (o::rest) a w:=by
 obtain⟨i0,hi,j0,k0,l0⟩:=info_parts Tryz.infoIntZ;obtain⟨ao,cap,rfl,hc,hm,d0⟩:=h0;have f0:∀ad,ao=some ad->(∀j u,(xs.map (Value.int .i64))[j]?=some u->w.cell? (ad.add j)=some u)->wpList prog ops Q (o::rest) a w:=by
  rintro ad rfl m0;refine wpList_append_own _ e0 s x 30 ho base 3 i0 (.int .i64 0) 1 8 underlying30 hi j0 k0 l0 rfl (by decide) _ _ _ hs a0 ad xs.length cap (xs.map (Value.int .i64)) hx (by simp) m0 ?_ (by unfold maxLen;omega) (by omega) c0 ?_
  ·intro u hu;simp only[List.mem_map]at hu;obtain⟨y,_,rfl⟩:=hu;rfl
  intro v' w' hown' hg _;exact h v' w' (by rw[List.length_append,List.map_append];exact hown') hg
 by_cases g0:xs=[]
 ·subst g0
  cases ao with
  |some ad=>exact f0 ad rfl (by simp)
  |none=>
   have hrun:=zr3 w base v ys.length _ a0 cap o.type hi;refine wpList_plain e0 λK hK=>?_;unfold Oper.wp;simp only[List.length_nil]at hx;simp[execOp,ho,resolve,invoke,builtin,hs,hx,hrun,Result.andThen];exact hK _ _ (h _ _ (by simpa using a0) ⟨rfl,rfl,rfl,Nat.le_refl _,λ_ _ _=>rfl⟩)
 obtain⟨b,off,rfl,p0,b0⟩:=d0 g0;refine f0 _ rfl ?_;intro j u hj;rw[List.getElem?_map]at hj;obtain⟨y,hy,rfl⟩:=Option.map_eq_some_iff.1 hj;have n0:j<xs.length:=(List.getElem?_eq_some_iff.1 hy).1;have:=b0 j n0;rw[Qa,hy]at this
 have h2:(⟨b,off,none⟩:Addr).add j=⟨b,off+j,none⟩:=by unfold Addr.add;split<;>simp_all
 rw[h2];simpa using this
def Ul(xs ys:List Int)(k:Nat):List Int:=if k=0 then [] else if k=1 then xs else xs++ys
def zv2(xs ys:List Int)(k:Nat):List Int:=if k=0 then xs else ys
def zfz(xs ys:List Int)(k:Nat)(hk:k<2):Ul xs ys (k+1)=Ul xs ys k++zv2 xs ys k:=by
 rcases(show k=0\/k=1 by omega) with rfl|rfl<;>simp[Ul,zv2]
def ys8(w:World)(sb:Nat)(c0v c1v:Value)(xs ys:List Int)(hsz:sb<w.heap.size)(h0:w.cell? ⟨sb,0,none⟩=some c0v)(h1:w.cell? ⟨sb,1,none⟩=some c1v)(hx:Zv w.heap.size w c0v xs)(hy:Zv w.heap.size w c1v ys)(hl:xs.length<=10000/\ys.length<=10000):
  Calls prog 81 #[.slice (some ⟨sb,0,none⟩) 2 2] w λe w'=>Below w.heap.size w w'/\∃v,e=.returned v/\w'.ownsRow w.heap.size 3 1 v (xs++ys).length ((xs++ys).map (Value.int .i64)):=by
 have i0:Hid (∀k,k<2->∀W,Below w.heap.size w W->∃a c,W.cell? ⟨sb,k,none⟩=some (.slice a (zv2 xs ys k).length c)/\Zv W.heap.size W (.slice a (zv2 xs ys k).length c) (zv2 xs ys k)/\(zv2 xs ys k).length<=10000):=λk hk W hW=>by
  rcases(show k=0\/k=1 by omega) with rfl|rfl
  ·obtain⟨a,c,e⟩:=Uf hx
   subst e;exact⟨a,c,(hW.cell (p:=⟨sb,0,none⟩) hsz).trans h0,(hx.below hW).mono hW.size,hl.1⟩
  obtain⟨a,c,e⟩:=Uf hy;subst e;exact⟨a,c,(hW.cell (p:=⟨sb,1,none⟩) hsz).trans h1,(hy.below hW).mono hW.size,hl.2⟩
 have j0:Hid (∀k,k<=2->(Ul xs ys k).length<=20000):=λk hk=>by
  rcases(show k=0\/k=1\/k=2 by omega) with rfl|rfl|rfl<;>simp[Ul]<;>omega
 have q0:Hid (∀n,n<=100000->Calls prog 112 #[.slice none 0 0,.int .i64 (n:Nat)] w (zoz w)):=λn hn=>yk8 w n hn;obtain⟨zs,e0⟩:=nmE (xs++ys);rw[<-e0];have r0:=Zz e0;clear h0 h1 hx hy e0
 go_enter func81,ntmps81
 go_wp2_with fail
 go_loopw [3,11] (λs i wr=>wr=w/\∃k:Nat,k<=2/\i=.int .i64 k/\s=.int .i64 ((Ul xs ys k).length:Nat)) (λ_ i _=>2 - (intOf i).toNat)
 case atStart=>exact⟨rfl,0,by omega,rfl,rfl⟩
 case round=>
  obtain⟨k0,k,hk,rfl,rfl⟩:=hrel;rw[k0];clear k0 wr;have D0:((Ul xs ys k).length:Int)<=20000:=(by have:=j0.out k hk;omega)
  by_cases b0:k<2
  ·have s0:(k:Int)<2:=by omega
   obtain⟨a,c,ck,-,t0⟩:=i0.out k b0 w (Below.refl _ _);have u0:((zv2 xs ys k).length:Int)<=10000:=(by omega);have E0:(0:Int)<=((Ul xs ys k).length:Int)+((zv2 xs ys k).length:Int):=(by omega);have f0:Hid (((Ul xs ys (k+1)).length:Int)=((Ul xs ys k).length:Int)+((zv2 xs ys k).length:Int)):=(by show _=_;rw[zfz xs ys k b0,List.length_append];omega);generalize (Ul xs ys k).length=lk at*;generalize (zv2 xs ys k).length=ek at*;go_wp2
   go_roundw
   case rel=>exact⟨by first|rfl|trivial,k+1,by omega,by go_num,by rw[f0.out]⟩
   case measure=>simp[intOf];omega
  have s0:¬(k:Int)<2:=(by omega)
  obtain rfl:k=2:=by omega
  have v0:Hid (Calls prog 112 #[.slice none 0 0,.int .i64 ((Ul xs ys 2).length:Nat)] w (zoz w)):=q0.out _ (by omega);generalize (Ul xs ys 2).length=tot at*
  go_wp2_with fail
  refine v0.out.mono ?_;rintro e W1 ⟨l0,a1,c1,rfl,m0⟩;have x0:=Zz l0;have y0:=Zz m0;clear l0 m0
  go_wp2_with fail
  go_loopw [6,27] (λv i wr=>Below w.heap.size w wr/\∃k:Nat,k<=2/\i=.int .i64 k/\wr.ownsRow w.heap.size 3 1 v (Ul xs ys k).length ((Ul xs ys k).map (Value.int .i64))) (λ_ i _=>2 - (intOf i).toNat)
  case atStart=>exact⟨x0.out,0,by omega,rfl,y0.out⟩
  case round=>
   rename_i u6 u27;obtain⟨n0,k,z0,rfl,c0⟩:=hrel;have d0:=Zz n0;have a0:=Zz c0;clear n0 c0
   by_cases b0:k<2
   ·have g0:(k:Int)<2:=by omega
    obtain⟨a,c,ck,o0,t0⟩:=i0.out k b0 wr d0.out;obtain⟨va,vc,rfl⟩:∃a c,u6=.slice a (Ul xs ys k).length c:=by
     rcases a0.out.2 with⟨e1,e2⟩|⟨g,cp,cur,e1,_⟩
     ·exact⟨none,0,by rw[e1,e2]⟩
     exact⟨_,cp,e1⟩
    have A0:=Zz o0;have B0:=j0.out k z0
    have f0:Hid (∀v' w',w'.ownsRow w.heap.size 3 1 v' (Ul xs ys k++zv2 xs ys k).length ((Ul xs ys k++zv2 xs ys k).map (Value.int .i64))->wr.grownBy w' (Value.slice va (Ul xs ys k).length vc).ownBlock->Below w.heap.size w w'/\w'.ownsRow w.heap.size 3 1 v' (Ul xs ys (k+1)).length ((Ul xs ys (k+1)).map (Value.int .i64))):=λv' w' h2 h3=>by
     rw[zfz xs ys k b0];exact⟨d0.out.grown h3 d0.out.size (λb hb=>(a0.out.lt b hb).1),h2⟩
    have C0:w.heap.size<=wr.heap.size:=d0.out.size;clear o0
    go_wp2_with (at_builtin;refine zpz rfl (.tmp 31) (.tmp 32) rfl w.heap.size _ (Ul xs ys k) rfl a0.out _ rfl wr.heap.size (zv2 xs ys k) A0.out (by omega) (by omega) C0 ?_)
    intro v' w' h2 h3;have p0:Hid _:=f0.out v' w' (by rw[List.length_append,List.map_append];exact h2) h3;clear h2 h3;go_wp2
    go_roundw
    case rel=>exact⟨p0.out.1,k+1,by omega,by go_num,p0.out.2⟩
    case measure=>simp[intOf];omega
   have g0:¬(k:Int)<2:=(by omega)
   obtain rfl:k=2:=by omega
   have HE:Hid (wr.ownsRow w.heap.size 3 1 u6 zs.length (zs.map (Value.int .i64))):=(by show World.ownsRow _ _ _ _ _ _ _;rw[r0.out];exact a0.out);clear a0;go_wp2;go_ret;exact⟨d0.out,u6,rfl,HE.out⟩
def zc0{w:World}{Pb:Nat}{clv lv:Value}{xs ys:List Int}(hp:Pb<w.heap.size)(c1:w.cell? ⟨Pb,1,none⟩=some clv)(hx:Zv w.heap.size w clv xs)(hy:Zv w.heap.size w lv ys)(hl:xs.length<=10000/\ys.length<=10000):
  Calls prog 49 #[.pointer (some ⟨Pb,0,none⟩),lv] w λe w'=>Below w.heap.size w w'/\∃a c,e=.returned (.slice a (xs++ys).length c)/\Zv w'.heap.size w' (.slice a (xs++ys).length c) (xs++ys):=by
 obtain⟨a0,k0,e0⟩:=Uf hx;obtain⟨a1,k1,e1⟩:=Uf hy;subst e0;subst e1;have hB:Below w.heap.size w (w.alloc (.cells #[.slice a0 xs.length k0,.slice a1 ys.length k1] 30)):=bA;obtain⟨zs,b0⟩:=nmE (xs++ys);have HC:Hid (Calls prog 81 #[.slice (some ⟨w.heap.size,0,none⟩) 2 2] (w.alloc (.cells #[.slice a0 xs.length k0,.slice a1 ys.length k1] 30)) λe w'=>Below w.heap.size w w'/\∃a c,e=.returned (.slice a zs.length c)/\Zv w'.heap.size w' (.slice a zs.length c) zs):=by
  refine(ys8 (w.alloc (.cells #[.slice a0 xs.length k0,.slice a1 ys.length k1] 30)) w.heap.size _ _ xs ys (by simp) (by simp) (by simp) ((hx.below hB).mono hB.size) ((hy.below hB).mono hB.size) hl).mono ?_;rintro e w' ⟨hb,v,rfl,ho⟩;rw[<-b0]at ho;refine⟨hB.trans (hb.mono hB.size),?_⟩;have hi:=Zv.of_own ho;obtain⟨a,c,e⟩:=Uf hi;subst e;exact⟨a,c,rfl,hi⟩
 rw[<-b0];clear hx hy b0 hB
 go_enter func49,ntmps49
 go_wp2_with fail
 refine HC.out.mono ?_;rintro e w1 ⟨hb,a,c,rfl,hi⟩;have HE:Hid (Below w.heap.size w w1/\Zv w1.heap.size w1 (.slice a zs.length c) zs):=⟨hb,hi⟩;clear hb hi;go_wp2;go_ret;exact⟨HE.out.1,a,c,rfl,HE.out.2⟩
def yo0(res:Nat×Int)(w:World)(e:Ending)(w':World):Prop:=
 Below w.heap.size w w'/\((res.1=0/\e=.returned .nilIface)\/(res.1=10/\e=.returned (.iface 24 (.int .i64 10)))\/(res.1=9/\∃a,e=.returned (.iface 65 (.pointer (some ⟨a,0,none⟩)))/\w'.cell? ⟨a,0,none⟩=some (.int .i64 9)/\w'.cell? ⟨a,1,none⟩=some (.int .i64 res.2)))
def yo1(u:World)(o:Obj)(k:Nat)(hk:u.heap.size=k):(u.alloc o).heap[k]?=some o:=by subst hk;exact heap_alloc_last u o
structure CpIn(w:World)(Pb Lb:Nat)(clv hv bv lv nv:Value)(p:Fl.Prog)(S:Nat->Prop)(ls:List Int)(x:List Fl.Node):Prop where
 hz:Pb<w.heap.size/\Lb<w.heap.size
 p0:w.cell? ⟨Pb,0,none⟩=some (.pointer (some ⟨Lb,0,none⟩))
 p1:w.cell? ⟨Pb,1,none⟩=some clv
 p2:w.cell? ⟨Pb,2,none⟩=some hv
 p3:w.cell? ⟨Pb,3,none⟩=some (.int .i64 p.locals)
 p4:w.cell? ⟨Pb,4,none⟩=some bv
 la:Jl w Lb p.n p.leq
 ci:Zv w.heap.size w clv (p.cells.map λ(y:Nat)=>(y:Int))
 hi:Zv w.heap.size w hv (p.chans.map λ(y:Nat)=>(y:Int))
 bs:Yr 4 S w bv p.body
 hS:∀b,S b->b<w.heap.size
 li:Zv w.heap.size w lv ls
 no:Yv w.heap.size w nv x
 n6:p.n<=6
 cl:p.cells.length<=6/\p.chans.length<=3
 cv:(∀y∈p.cells,y<p.n)/\∀y∈p.chans,y<p.n
 kd:Jv 4 p.body
 l0:ls.length<=4/\∀y∈ls,0<=y
 x0:0<x.length/\x.length<=200
 xo:XOk x
def CpIn.below{w w':World}{Pb Lb:Nat}{clv hv bv lv nv:Value}{p:Fl.Prog}{S:Nat->Prop}{ls:List Int}{x:List Fl.Node}(h:CpIn w Pb Lb clv hv bv lv nv p S ls x)(hb:Below w.heap.size w w'):CpIn w' Pb Lb clv hv bv lv nv p S ls x:=by
 have hz:=hb.size;have q:∀i,w'.cell? ⟨Pb,i,none⟩=w.cell? ⟨Pb,i,none⟩:=λi=>hb.cell (p:=⟨Pb,i,none⟩) h.hz.1;exact{hz:=⟨by have:=h.hz.1;omega,by have:=h.hz.2;omega⟩,p0:=(q _).trans h.p0,p1:=(q _).trans h.p1,p2:=(q _).trans h.p2,p3:=(q _).trans h.p3,p4:=(q _).trans h.p4,la:=h.la.block (hb.block _ h.hz.2),ci:=(h.ci.below hb).mono hz,hi:=(h.hi.below hb).mono hz,bs:=Yr.kept (λb hb=>hb) (λb hs=>hb.block b (h.hS b hs)) _ _ _ h.bs,hS:=λb hs=>Nat.lt_of_lt_of_le (h.hS b hs) hz,li:=(h.li.below hb).mono hz,no:=(h.no.below hb).mono hz,n6:=h.n6,cl:=h.cl,cv:=h.cv,kd:=h.kd,l0:=h.l0,x0:=h.x0,xo:=h.xo}
def CpIn.checker{w W:World}{Pb Lb:Nat}{clv hv bv lv nv vv:Value}{p:Fl.Prog}{S:Nat->Prop}{ls:List Int}{x:List Fl.Node}(h:CpIn w Pb Lb clv hv bv lv nv p S ls x)(hb:Below w.heap.size w W)(b0:Zv W.heap.size W vv (Fl.vars p ls)):
  Ya ((W.alloc (.cells zxv 185)).alloc (.cells #[.pointer (some ⟨Pb,0,none⟩),vv,nv,.slice (some ⟨W.heap.size,0,none⟩) 8 8] 140)) (W.heap.size+1) Pb Lb W.heap.size vv nv hv p (Fl.vars p ls) x:=by
 have hB:Below W.heap.size W ((W.alloc (.cells zxv 185)).alloc (.cells #[.pointer (some ⟨Pb,0,none⟩),vv,nv,.slice (some ⟨W.heap.size,0,none⟩) 8 8] 140)):=(bA).alloc (by simp) _;have h2:=(h.below hb).below hB;obtain⟨W3,a0⟩:=nmE (((W.alloc (.cells zxv 185)).alloc (.cells #[.pointer (some ⟨Pb,0,none⟩),vv,nv,.slice (some ⟨W.heap.size,0,none⟩) 8 8] 140)))
 have rC:W3.heap[W.heap.size+1]?=some (.cells #[.pointer (some ⟨Pb,0,none⟩),vv,nv,.slice (some ⟨W.heap.size,0,none⟩) 8 8] 140 (0,0)):=by rw[a0];exact yo1 _ _ _ (by simp)
 have rR:W3.heap[W.heap.size]?=some (.cells zxv 185 (0,0)):=by rw[a0,Below.heap_alloc _ _ _ (by simp)];exact yo1 _ _ _ rfl
 have d0:W3.heap.size=W.heap.size+2:=by rw[a0];simp
 rw[<-a0]at h2 hB⊢;exact{hz:=⟨by omega,h2.hz.1,h2.hz.2,by omega⟩,c0:=cell_of_row _ _ 0 _ _ (0,0) rC,c1:=cell_of_row _ _ 1 _ _ (0,0) rC,c2:=cell_of_row _ _ 2 _ _ (0,0) rC,c3:=cell_of_row _ _ 3 _ _ (0,0) rC,p0:=h2.p0,p2:=h2.p2,la:=h2.la,vi:=(b0.below hB).mono hB.size,hi:=h2.hi,no:=h2.no,ru:=ys7 rR,n6:=h2.n6}
def ys9{w:World}{Pb Lb:Nat}{clv hv bv lv nv:Value}{p:Fl.Prog}{S:Nat->Prop}{ls:List Int}{x:List Fl.Node}(h:CpIn w Pb Lb clv hv bv lv nv p S ls x)
  (v0:ls.length=p.locals->(∀y∈ls,y<p.n)->∀k,k<x.length->(∀j,j<k->Fl.follows p ls x (Fl.nth x j)=true)->zw5 p x (Fl.nth x k)):
  Calls prog 24 #[.pointer (some ⟨Pb,0,none⟩),.agg #[lv,nv]] w (yo0 (Fl.check p ls x) w):=by
 obtain⟨la,lc,rfl⟩:=Uf h.li
 obtain⟨na,nc,rfl⟩:∃a c,nv=.slice a x.length c:=by obtain⟨a,c,e,-⟩:=h.no;exact⟨a,c,e⟩
 obtain⟨ba,bc,rfl⟩:∃a c,bv=.slice a p.body.length c:=by obtain⟨a,c,e,-⟩:=h.bs;exact⟨a,c,e⟩
 have HH:=Zz h;have y0:=Zz v0;have c0:=h.x0;clear v0 h
 go_enter func24,ntmps24
 go_wp2_with fail
 obtain⟨W1,h0⟩:=nmE (w.alloc (.cells #[.slice la ls.length lc,.slice na x.length nc] 33));rw[<-h0]
 have z0:Below w.heap.size w W1:=by rw[h0];exact bA
 have O0:W1.heap.size=w.heap.size+1:=by rw[h0];simp
 have hp:∀i,W1.cell? ⟨w.heap.size,i,none⟩=#[Value.slice la ls.length lc,.slice na x.length nc][i]?:=λi=>by rw[h0];exact World.cell?_alloc_new _ _ _ _
 have p0:W1.cell? ⟨w.heap.size,0,none⟩=some (.slice la ls.length lc):=hp 0;have p1:W1.cell? ⟨w.heap.size,1,none⟩=some (.slice na x.length nc):=hp 1;have HP:Hid (∀W,Below W1.heap.size W1 W->W.cell? ⟨w.heap.size,0,none⟩=some (.slice la ls.length lc)/\W.cell? ⟨w.heap.size,1,none⟩=some (.slice na x.length nc)):=λW hW=>⟨(hW.cell (p:=⟨w.heap.size,0,none⟩) (by simp only;omega)).trans p0,(hW.cell (p:=⟨w.heap.size,1,none⟩) (by simp only;omega)).trans p1⟩;have d0:=Zz z0;obtain⟨fit,e0⟩:=nmE (decide (ls.length=p.locals/\∀y∈ls,0<=y/\y<p.n));have A0:Hid (Calls prog 48 #[.pointer (some ⟨Pb,0,none⟩),.slice la ls.length lc] W1 λe w'=>e=.returned (.bool fit)/\w'=W1):=by
  have h2:=HH.out.below d0.out;rw[e0];exact zdx h2.la h2.p0 h2.p3 _ ls h2.li (by have:=h2.l0.1;omega)
 have i0:=Zz e0;clear h0 z0 hp e0
 go_wp2_with fail
 refine(A0.out).mono ?_;rintro e w2 ⟨rfl,rfl⟩
 cases fit with
 |false=>
  have HE:Hid (Fl.check p ls x=(10,-1)):=by
   show _=_;have h1:=of_decide_eq_false i0.out.symm;unfold Fl.check;rw[if_pos]
   by_cases h2:ls.length=p.locals
   ·right
    refine Classical.byContradiction λh3=>h1 ⟨h2,λy hy=>⟨HH.out.l0.2 y hy,?_⟩⟩;refine Classical.byContradiction λh4=>h3 ?_;rw[List.any_eq_true];exact⟨y,hy,decide_eq_true (by omega)⟩
   exact .inl h2
  go_wp2;go_ret;refine⟨d0.out,.inr (.inl ⟨by rw[HE.out],rfl⟩)⟩
 |true=>
  have hf:=of_decide_eq_true i0.out.symm;have HF:=Zz hf
  have HV:Hid (∀W,Below w2.heap.size w2 W->Calls prog 49 #[.pointer (some ⟨Pb,0,none⟩),.slice la ls.length lc] W λe w'=>Below W.heap.size W w'/\∃a c,e=.returned (.slice a (Fl.vars p ls).length c)/\Zv w'.heap.size w' (.slice a (Fl.vars p ls).length c) (Fl.vars p ls)):=λW hW=>by
   have h2:=(HH.out.below d0.out).below hW;exact zc0 h2.hz.1 h2.p1 h2.ci h2.li ⟨by have:=h2.cl.1;simp;omega,by have:=h2.l0.1;omega⟩
  clear hf
  go_wp2_with fail
  refine Yc HP ((Below.refl _ _).drew) [(0,0),(0,1),(0,2),(0,3),(0,5),(0,6),(1,4),(1,7),(0,8),(1,9),(0,10)] [] [] (by kernel_rfl) (λc a d v w h=>by cases d<;>exact h) (λops hG=>?_);clear hG
  iterate 6 refine Zw rfl (by rintro _ ⟨_,_⟩;go_simp<;>rfl) (by go_simp<;>rfl) ?_
  refine Zk ?_
  go_wp2_with fail
  refine(HV.out _ (Below.refl _ _).drew).mono ?_;rintro e W2 ⟨B0,va,vc,rfl,C0⟩;have j0:Hid (Below w2.heap.size w2 W2):=(Below.refl _ _).drew.trans B0;have D0:=Zz C0;clear B0 C0
  go_wp2_with fail
  refine⟨HP.out _ j0.out,?_⟩;refine Zk ?_
  go_wp2_with fail
  refine(ys6 _).mono ?_;rintro e W3 ⟨rfl,q0⟩;have k0:Hid (Below w2.heap.size w2 W3):=(by rw[q0];exact j0.out.alloc j0.out.size _);have r0:=Zz q0;clear q0
  go_wp2_with fail
  refine⟨HP.out _ k0.out,?_⟩;refine Zw rfl (by rintro _ ⟨_,_⟩;go_simp<;>rfl) (by go_simp<;>rfl) ?_;refine Zk ?_
  go_wp2_with fail
  refine⟨HP.out _ (k0.out.alloc k0.out.size _),?_⟩;refine Zw rfl (by rintro _ ⟨_,_⟩;go_simp<;>rfl) (by go_simp<;>rfl) ?_;refine Zs ?_;obtain⟨W4,m0⟩:=nmE (W3.alloc (.cells #[.pointer (some ⟨Pb,0,none⟩),.slice va (Fl.vars p ls).length vc,.slice na x.length nc,.slice (some ⟨W2.heap.size,0,none⟩) 8 8] 140));rw[<-m0];have E0:Below w.heap.size w W2:=d0.out.trans (j0.out.mono d0.out.size);have n0:Ya W4 (W2.heap.size+1) Pb Lb W2.heap.size (.slice va (Fl.vars p ls).length vc) (.slice na x.length nc) hv p (Fl.vars p ls) x:=by
   rw[m0,r0.out];exact HH.out.checker E0 D0.out
  have F0:W3.heap.size=W2.heap.size+1:=(by rw[r0.out];simp);rw[<-F0]at n0;have G0:Below w.heap.size w W4:=by
   have h3:Below w.heap.size w W3:=d0.out.trans (k0.out.mono d0.out.size);rw[m0];exact h3.alloc h3.size _
  have H0:∀y∈Fl.vars p ls,0<=y/\y<p.n:=λy hy=>by
   unfold Fl.vars at hy;rcases List.mem_append.1 hy with h1|h1
   ·obtain⟨z,hz,rfl⟩:=List.mem_map.1 h1
    have:=HH.out.cv.1 z hz;omega
   exact HF.out.2 y h1
  have I0:(Fl.vars p ls).length<=100:=by
   have h1:=HH.out.cl.1;have h2:=HH.out.l0.1;unfold Fl.vars;simp;omega
  have J0:Hid (Calls prog 51 #[.pointer (some ⟨W3.heap.size,0,none⟩)] W4 λe w'=>e=.returned (.int .i64 (Vz p ls x))/\Below W4.heap.size W4 w'):=
   zj9 n0 (y0.out HF.out.1 λy hy=>(HF.out.2 y hy).2) (by omega) H0 I0 HH.out.cv.2 (by have:=HH.out.cl.2;omega)
  have K0:=Zz n0;have L0:=Zz G0
  have b0:Hid (Fl.check p ls x=match (List.range x.length).find? (λk=> !Fl.follows p ls x (Fl.nth x k)) with
   |some k=>(9,(k:Int))
   |none=>if Fl.ofAll 4 x ((x.length:Int) - 1) p.body then(0,-1) else(10,-1)):=by
   show _=_;unfold Fl.check;rw[if_neg]
   ·rfl
   rintro(h1|h1)
   ·exact h1 HF.out.1
   obtain⟨y,hy,h2⟩:=List.any_eq_true.1 h1;have h3:=HF.out.2 y hy;have h4:=of_decide_eq_true h2;omega
  generalize W3.heap.size=Cb at*;clear n0 G0 m0 H0 I0 E0 F0
  go_wp2_with fail
  refine(J0.out).mono ?_;rintro e W5 ⟨rfl,s0⟩;have M0:=Zz s0;have a0:Hid (Below w.heap.size w W5):=L0.out.trans (s0.mono L0.out.size)
  have o0:Hid (Vz p ls x=match (List.range x.length).find? (λk=> !Fl.follows p ls x (Fl.nth x k)) with
   |some k=>(k:Int)
   |none=> -1):=rfl
  clear s0 J0 HV A0 y0 D0 j0 k0 r0
  cases f0:(List.range x.length).find? (λk=> !Fl.follows p ls x (Fl.nth x k)) with
  |some k=>
   have HE:Hid (Fl.check p ls x=(9,(k:Int))):=(by show _=_;rw[b0.out,f0]);have HK:Hid (Vz p ls x=(k:Int)):=(by show _=_;rw[o0.out,f0]);have hk:k<x.length:=List.mem_range.1 (List.mem_of_find?_eq_some f0);rw[HK.out];clear f0 b0 o0 HK;have P0:((k:Int) ≥ 0)=True:=(by simp);go_wp2;go_ret;refine⟨?_,.inr (.inr ⟨by rw[HE.out],_,rfl,?_,?_⟩)⟩
   ·exact a0.out.alloc a0.out.size _
   ·rw[World.cell?_alloc_new];rfl
   rw[World.cell?_alloc_new,HE.out];rfl
  |none=>
   have HE:Hid (Fl.check p ls x=if Fl.ofAll 4 x ((x.length:Int) - 1) p.body then(0,-1) else(10,-1)):=(by show _=_;rw[b0.out,f0]);have HK:Hid (Vz p ls x= -1):=(by show _=_;rw[o0.out,f0]);rw[HK.out];clear f0 b0 o0 HK
   have HQ:Hid (∀W,Below W5.heap.size W5 W->W.cell? ⟨Cb,2,none⟩=some (.slice na x.length nc)/\W.cell? ⟨Pb,4,none⟩=some (.slice ba p.body.length bc)):=λW hW=>by
    have h1:=(K0.out.below M0.out).below hW;have h2:=(HH.out.below a0.out).below hW;exact⟨h1.c2,h2.p4⟩
   obtain⟨res,g0⟩:=nmE (Fl.ofAll 4 x ((x.length:Int) - 1) p.body);rw[<-g0]at HE
   have t0:Hid (∀W,Below W5.heap.size W5 W->Calls prog 52 #[.pointer (some ⟨Cb,0,none⟩),.int .i64 ((x.length:Int) - 1),.slice ba p.body.length bc] W λe w'=>e=.returned (.bool res)/\Below W.heap.size W w'):=λW hW=>by
    have h1:=(K0.out.below M0.out).below hW;have h2:=(HH.out.below a0.out).below hW;rw[g0];exact zm3 h2.xo 4 W _ _ _ h1 h2.hS ⟨by have:=c0.1;omega,by have:=c0.1;omega⟩ h2.bs h2.kd
   clear g0;have Q0:0<(x.length:Int)/\(x.length:Int)<=200:=(by omega)
   go_wp2_with fail
   refine Zn HQ ((Below.refl _ _).drew) [11] [] [] (by kernel_rfl) (λc a d v w h=>by cases d<;>exact h) (λops hG=>?_);clear hG
   iterate 11 refine Zw rfl (by rintro _ ⟨_,_⟩;go_simp<;>rfl) (by go_simp<;>rfl) ?_
   refine Zk ?_
   go_wp2_with fail
   refine(t0.out _ (Below.refl _ _).drew).mono ?_;rintro e W6 ⟨rfl,N0⟩;have u0:Hid (Below W5.heap.size W5 W6):=(Below.refl _ _).drew.trans N0;clear N0
   go_wp2_with fail
   refine⟨HQ.out _ u0.out,?_⟩;refine Zw rfl (by rintro _ ⟨_,_⟩;go_simp<;>rfl) (by go_simp<;>rfl) ?_;refine Zs ?_
   cases res with
   |true=>
    go_wp2;go_ret;exact⟨a0.out.trans (u0.out.mono a0.out.size),.inl ⟨by rw[HE.out];rfl,rfl⟩⟩
   |false=>
    go_wp2;go_ret;exact⟨a0.out.trans (u0.out.mono a0.out.size),.inr (.inl ⟨by rw[HE.out];rfl,rfl⟩)⟩
end Go.Proofs.YtaaejabalinojaaGreatDoor
namespace Go.Proofs.YtaaejabalinojaaGreatDoor
open Go.Proofs.Tryz
namespace Fl
structure RS.Lv(r:RS):Prop where
 le:r.levels.length<=6
 ce:∀y∈r.cellLv,y<r.levels.length
 ch:∀y∈r.chanLv,y<r.levels.length
def lv0:RS.zero.Lv:=⟨by decide,λ_ h=>(by cases h),λ_ h=>(by cases h)⟩
def RS.Lv.same{r r':RS}(h:r.Lv)(e:r'.levels=r.levels/\r'.cellLv=r.cellLv/\r'.chanLv=r.chanLv):r'.Lv:=⟨by rw[e.1];exact h.le,by rw[e.1,e.2.1];exact h.ce,by rw[e.1,e.2.2];exact h.ch⟩
def RS.put_lv(r:RS)(s:Stmt):(r.put s).levels=r.levels/\(r.put s).cellLv=r.cellLv/\(r.put s).chanLv=r.chanLv:=by
 unfold RS.put;split<;>exact⟨rfl,rfl,rfl⟩
def RS.ends_lv(r:RS):r.ends.levels=r.levels/\r.ends.cellLv=r.cellLv/\r.ends.chanLv=r.chanLv:=by
 unfold RS.ends;split<;>exact⟨rfl,rfl,rfl⟩
def RS.elses_lv(r:RS):r.elses.levels=r.levels/\r.elses.cellLv=r.cellLv/\r.elses.chanLv=r.chanLv:=by
 unfold RS.elses;split<;>exact⟨rfl,rfl,rfl⟩
def RS.target_lv(r:RS)(n:List UInt8){x:Nat}{r':RS}(h:r.target n=some (x,r')):r'.levels=r.levels/\r'.cellLv=r.cellLv/\r'.chanLv=r.chanLv:=by
 unfold RS.target at h
 split at h
 ·simp only[Option.some.injEq,Prod.mk.injEq]at h;rw[<-h.2];exact⟨rfl,rfl,rfl⟩
 split at h
 ·simp only[Option.some.injEq,Prod.mk.injEq]at h;rw[<-h.2];exact⟨rfl,rfl,rfl⟩
 split at h
 ·cases h
 simp only[Option.some.injEq,Prod.mk.injEq]at h;rw[<-h.2];exact⟨rfl,rfl,rfl⟩
def RS.stmt_lv(r:RS)(a:Nat)(w:List (List UInt8)):(r.stmt a w).2.levels=r.levels/\(r.stmt a w).2.cellLv=r.cellLv/\(r.stmt a w).2.chanLv=r.chanLv:=by
 unfold RS.stmt
 split
 ·split
  ·exact⟨rfl,rfl,rfl⟩
  split
  ·split
   ·exact r.elses_lv
   exact⟨rfl,rfl,rfl⟩
  exact r.ends_lv
 ·split
  ·exact⟨rfl,rfl,rfl⟩
  split
  ·exact⟨rfl,rfl,rfl⟩
  exact⟨rfl,rfl,rfl⟩
 ·split
  ·exact⟨rfl,rfl,rfl⟩
  split
  ·split
   ·exact⟨rfl,rfl,rfl⟩
   split
   ·exact⟨rfl,rfl,rfl⟩
   exact r.put_lv _
  split
  ·exact⟨rfl,rfl,rfl⟩
  split
  ·exact⟨rfl,rfl,rfl⟩
  rename_i h
  split
  ·exact⟨rfl,rfl,rfl⟩
  have h1:=r.target_lv _ h;have h2:=RS.put_lv;exact⟨(h2 _ _).1.trans h1.1,(h2 _ _).2.1.trans h1.2.1,(h2 _ _).2.2.trans h1.2.2⟩
 exact⟨rfl,rfl,rfl⟩
def RS.Lv.head{r:RS}(h:r.Lv)(w:List (List UInt8)):(r.head w).2.Lv:=by
 unfold RS.head
 split
 ·split
  ·exact h.same ⟨rfl,rfl,rfl⟩
  exact h
 ·split
  ·exact h
  split
  ·exact h
  rename_i h6;have hl:=h.le;exact⟨by simp;omega,λy hy=>by have:=h.ce y hy;simp;omega,λy hy=>by have:=h.ch y hy;simp;omega⟩
 ·rename_i k n l
  have hp:=place_cases r.levels l
  split
  ·split
   ·exact h
   exact h.same ⟨rfl,rfl,rfl⟩
  split
  ·exact h
  rename_i hn;have h0:¬place r.levels l<0:=λq=>hn (.inl q)
  split
  ·split
   ·exact h
   refine⟨h.le,λy hy=>?_,h.ch⟩;rcases List.mem_append.1 hy with h1|h1
   ·exact h.ce y h1
   simp only[List.mem_singleton]at h1;show y<r.levels.length;omega
  split
  ·exact h
  refine⟨h.le,h.ce,λy hy=>?_⟩;rcases List.mem_append.1 hy with h1|h1
  ·exact h.ch y h1
  simp only[List.mem_singleton]at h1;show y<r.levels.length;omega
 exact h
def RS.Lv.row{r:RS}(h:r.Lv)(w:List (List UInt8))(a:Nat):(r.row w a).2.Lv:=by
 unfold RS.row
 split
 ·exact h
 split
 ·exact h.head w
 exact h.same (r.stmt_lv a w)
def rows_lv:∀(ls:List (List UInt8)) (r:RS) (i:Nat),r.Lv->(rows r i ls).2.2.Lv
 |[],r,i,h=>h
 |[l],r,i,h=>by
  rw[rows]
  split
  ·split<;>exact h
  exact h
 |l::m::ls,r,i,h=>by
  rw[rows]
  split
  ·exact h
  split
  ·exact h
  exact rows_lv (m::ls) _ (i+1) (h.row _ _)
def readProg_lv(s:List UInt8):(readProg s).2.2.n<=6/\(∀y∈(readProg s).2.2.cells,y<(readProg s).2.2.n)/\∀y∈(readProg s).2.2.chans,y<(readProg s).2.2.n:=by
 unfold readProg
 split
 ·exact⟨lv0.le,lv0.ce,lv0.ch⟩
 have h:=rows_lv (cutR 10 s) RS.zero 0 lv0;exact⟨h.le,h.ce,h.ch⟩
end Fl
open Go.RowKit
namespace Fl
def codedF_small{x:Nat}(h:x<128)(f:Nat):codedF f x=[UInt8.ofNat x]:=by
 cases f with
 |zero=>rfl
 |succ f=>simp only[codedF,if_pos h]
def numG_back(at_ len:Nat)(l:List UInt8):∀k v unit f,k<=4->4<=k+f->0<=(numG at_ len k v unit l).2.1->
  ∃x,(k=0\/0<x)/\(numG at_ len k v unit l).1=((v+x*unit:Nat):Int)/\(numG at_ len k v unit l).2.1=((at_+k+(codedF f x).length:Nat):Int)/\l=codedF f x++l.drop (codedF f x).length:=by
 induction l with
 |nil=>intro k v unit f hk hf h;simp[numG]at h
 |cons c r ih=>
  intro k v unit f hk hf h;have hc:=c.toNat_lt;simp only[numG]at h⊢
  by_cases h1:(c.toNat=0/\0<k)\/2147483648<=v+c.toNat % 128*unit\/(k=4/\128<=c.toNat)
  ·rw[if_pos h1]at h;simp at h
  rw[if_neg h1]at h⊢
  by_cases h2:c.toNat<128
  ·rw[if_pos h2]
   refine⟨c.toNat,?_,by rw[Nat.mod_eq_of_lt h2],?_,?_⟩
   ·by_cases b0:k=0
    ·exact Or.inl b0
    right;rcases Nat.eq_zero_or_pos c.toNat with h0|h0
    ·exact absurd (Or.inl ⟨h0,by omega⟩) h1
    exact h0
   ·rw[codedF_small h2];rfl
   rw[codedF_small h2];simp
  rw[if_neg h2]at h⊢;have c0:k≠4:=λh4=>h1 (Or.inr (Or.inr ⟨h4,by omega⟩));obtain⟨f',rfl⟩:∃f',f=f'+1:=⟨f - 1,by omega⟩;obtain⟨y,hy,e1,e2,e3⟩:=ih (k+1) (v+c.toNat % 128*unit) (unit*128) f' (by omega) (by omega) h
  have d0:0<y:=by rcases hy with h|h<;>omega
  have a0:codedF (f'+1) (c.toNat % 128+y*128)=c::codedF f' y:=by
   have hn:¬(c.toNat % 128+y*128)<128:=(by omega);simp only[codedF,if_neg hn];have q1:(c.toNat % 128+y*128) % 128+128=c.toNat:=(by omega);have q2:(c.toNat % 128+y*128) / 128=y:=(by omega);rw[q1,q2];simp
  refine⟨c.toNat % 128+y*128,Or.inr (by omega),?_,?_,?_⟩
  ·rw[e1];congr 1
   rw[Nat.add_mul,Nat.mul_assoc,Nat.mul_comm 128 unit];omega
  ·rw[e2,a0];simp only[List.length_cons];congr 1;omega
  rw[a0];simp only[List.length_cons,List.cons_append,List.drop_succ_cons];rw[<-e3]
def num_back{s:List UInt8}{p:Nat}(hp:p<=s.length)(h:0<=(num s p).2.1):∃v:Nat,(num s p).1=(v:Int)/\v<2147483648/\(num s p).2.1=((p+(coded v).length:Nat):Int)/\s.drop p=coded v++s.drop (p+(coded v).length):=by
 obtain⟨x,_,e1,e2,e3⟩:=numG_back p s.length (s.drop p) 0 0 1 9 (by omega) (by omega) h;have ho:=num_ok s p hp;refine⟨x,by rw[num,e1];simp,?_,by rw[num,e2];simp[coded],by rw[<-List.drop_drop];exact e3⟩
 have:(num s p).1=(x:Int):=by rw[num,e1];simp
 omega
def codedAll_cons(x:Int)(l:List Int):codedAll (x::l)=coded x.toNat++codedAll l:=by simp[codedAll]
def numsA_back(s:List UInt8)(n:Nat):∀(p:Nat) (acc:List Int),p<=s.length->0<=(numsA s n p acc).2.1->
  ∃xs:List Int,(numsA s n p acc).1=acc++xs/\xs.length=n/\xs.all inR=true/\(numsA s n p acc).2.1=((p+(codedAll xs).length:Nat):Int)/\s.drop p=codedAll xs++s.drop (p+(codedAll xs).length):=by
 induction n with
 |zero=>intro p acc hp h;exact⟨[],by simp[numsA],rfl,rfl,by simp[numsA,codedAll],by simp[codedAll]⟩
 |succ n ih=>
  intro p acc hp h;simp only[numsA]at h⊢
  by_cases h1:(num s p).2.1<0
  ·rw[if_pos h1]at h;simp at h
  rw[if_neg h1]at h⊢;obtain⟨v,e1,e2,e3,e4⟩:=num_back hp (by omega);have ho:=num_ok s p hp;rw[e1,e3,Int.toNat_natCast]at h⊢;obtain⟨xs,f1,f2,f3,f4,f5⟩:=ih _ _ (by omega) h;refine⟨(v:Int)::xs,by rw[f1];simp,by simp[f2],?_,?_,?_⟩
  ·simp only[List.all_cons,f3,Bool.and_true,inR,Bool.and_eq_true,decide_eq_true_eq];omega
  ·rw[f4,codedAll_cons];simp[Nat.add_assoc]
  rw[codedAll_cons,Int.toNat_natCast,List.append_assoc,List.length_append,<-Nat.add_assoc,<-f5];exact e4
def nums_back{s:List UInt8}{p n:Nat}(hp:p<=s.length)(h:0<=(nums s p n).2.1):
  ∃xs:List Int,(nums s p n).1=xs/\xs.length=n/\xs.all inR=true/\(nums s p n).2.1=((p+(codedAll xs).length:Nat):Int)/\s.drop p=codedAll xs++s.drop (p+(codedAll xs).length):=by
 have:=numsA_back s n p [] hp h;simpa [nums] using this
end Fl
namespace Fl
def drop_lt{s a r:List UInt8}{p:Nat}(h:s.drop p=a++r)(ha:0<a.length):p<s.length:=by
 rcases Nat.lt_or_ge p s.length with h1|h1
 ·exact h1
 rw[List.drop_eq_nil_of_le h1]at h;have:=congrArg List.length h;simp at this;omega
def Jp{s r:List UInt8}{c:UInt8}{p:Nat}(h:s.drop p=c::r):p<s.length/\s.getD p 0=c/\s.drop (p+1)=r:=by
 have h1:p<s.length:=drop_lt (a:=[c]) (r:=r) (by simpa using h) (by simp);refine⟨h1,?_,by rw[<-List.drop_drop,h];rfl⟩
 have:(s.drop p)[0]?=some c:=by rw[h];rfl
 rw[List.getElem?_drop]at this;rw[Qa];simpa using congrArg (λo=>o.getD 0) this
def one_back{s:List UInt8}{p k:Nat}(hp:p<=s.length)(h:0<=(one s p k).2.1):
  s.drop p=nodeBytes (one s p k).1++s.drop (p+(nodeBytes (one s p k).1).length)/\(one s p k).2.1=((p+(nodeBytes (one s p k).1).length:Nat):Int):=by
 unfold one at h⊢
 by_cases h0:p=s.length
 ·rw[if_pos h0]at h;simp at h
 rw[if_neg h0]at h⊢;simp only at h⊢
 by_cases h1:fields ((s.getD p 0).toNat:Int)= -2
 ·rw[if_pos h1]at h;simp at h
 rw[if_neg h1]at h⊢;have d0:s.drop p=s.getD p 0::s.drop (p+1):=by
  rw[List.drop_eq_getElem_cons (show p<s.length by omega),Qa,Qb (show p<s.length by omega)];rfl
 generalize hc:s.getD p 0=c at*
 have g0:UInt8.ofNat ((c.toNat:Int)).toNat=c:=by simp
 have c0:∀(nd:Node) (e:Int),nd.kind=(c.toNat:Int)->0<=(oneFin p k nd e).2.1->e=((p+(nodeBytes nd).length:Nat):Int)->s.drop p=nodeBytes nd++s.drop (p+(nodeBytes nd).length)->
   s.drop p=nodeBytes (oneFin p k nd e).1++s.drop (p+(nodeBytes (oneFin p k nd e).1).length)/\(oneFin p k nd e).2.1=((p+(nodeBytes (oneFin p k nd e).1).length:Nat):Int):=by
  intro nd e _ hh he hd;unfold oneFin at hh⊢
  by_cases hq:((Yw nd).any λx=>decide ((k:Int)<=x))=true
  ·rw[if_pos hq]at hh;simp at hh
  rw[if_neg hq];exact⟨hd,he⟩
 have hno:=num_ok s (p+1) (by omega)
 by_cases h2:(num s (p+1)).2.1<0
 ·rw[if_pos h2]at h;simp at h
 rw[if_neg h2]at h⊢;obtain⟨v,a1,a2,a3,a4⟩:=num_back (s:=s) (p:=p+1) (by omega) (by omega);rw[a1,a3]at h⊢;rw[a3]at hno;simp only[Int.toNat_natCast]at h⊢
 by_cases h3:fields (c.toNat:Int)= -1
 ·rw[if_pos h3]at h⊢
  have a0:fields (c.toNat:Int)<0:=(by omega);have e0:=num_ok s (p+1+(coded v).length) (by omega)
  by_cases h4:(num s (p+1+(coded v).length)).2.1<0
  ·rw[if_pos h4]at h;simp at h
  rw[if_neg h4]at h⊢;obtain⟨m,b1,b2,b3,b4⟩:=num_back (s:=s) (p:=p+1+(coded v).length) (by omega) (by omega);rw[b1,b3]at h⊢;rw[b3]at e0;simp only[Int.toNat_natCast]at h⊢
  by_cases h5:(16:Int)<(m:Int)
  ·rw[if_pos h5]at h;simp at h
  rw[if_neg h5]at h⊢
  by_cases h6:(nums s (p+1+(coded v).length+(coded m).length) m).2.1<0
  ·rw[if_pos h6]at h;simp at h
  rw[if_neg h6]at h⊢;obtain⟨xs,c1,c2,c3,c4,c5⟩:=nums_back (s:=s) (p:=p+1+(coded v).length+(coded m).length) (n:=m) (by omega) (by omega);rw[c1,c4]at h⊢;have hnb:nodeBytes ⟨(c.toNat:Int),(v:Int),0,0,0,xs⟩=c::(coded v++(coded m++codedAll xs)):=by
   unfold nodeBytes nodeNums;simp only[if_pos a0,Int.toNat_natCast,c2];rw[show UInt8.ofNat c.toNat=c by simp]
  refine c0 _ _ rfl h ?_ ?_
  ·rw[hnb];simp only[List.length_cons,List.length_append];congr 1;omega
  rw[hnb];simp only[List.length_cons,List.length_append,List.cons_append,List.append_assoc];rw[d0,a4,b4,c5]
  have:p+((coded v).length+((coded m).length+(codedAll xs).length)+1)=p+1+(coded v).length+(coded m).length+(codedAll xs).length:=by omega
  rw[this]
 rw[if_neg h3]at h⊢;have i0:=fields_lt (c.toNat:Int)
 have a0:¬fields (c.toNat:Int)<0:=by omega
 by_cases h6:(nums s (p+1+(coded v).length) (fields (c.toNat:Int)).toNat).2.1<0
 ·rw[if_pos h6]at h;simp at h
 rw[if_neg h6]at h⊢;obtain⟨xs,c1,c2,c3,c4,c5⟩:=nums_back (s:=s) (p:=p+1+(coded v).length) (n:=(fields (c.toNat:Int)).toNat) (by omega) (by omega);rw[c1,c4]at h⊢;have f0:nodeNums ⟨(c.toNat:Int),(v:Int),xs.getD 0 0,xs.getD 1 0,xs.getD 2 0,[]⟩=xs:=by
  unfold nodeNums;simp only[if_neg a0];have b0:fields (c.toNat:Int)=0\/fields (c.toNat:Int)=1\/fields (c.toNat:Int)=2\/fields (c.toNat:Int)=3:=(by omega);rcases b0 with b0|b0|b0|b0<;>rw[b0]at c2⊢
  ·cases xs with
   |nil=>rfl
   |cons a t=>simp at c2
  ·obtain⟨a,rfl⟩:=List.length_eq_one_iff.1 c2;rfl
  ·match xs,c2 with
   |[a,b],_=>rfl
  match xs,c2 with
  |[a,b,d],_=>rfl
 have hnb:nodeBytes ⟨(c.toNat:Int),(v:Int),xs.getD 0 0,xs.getD 1 0,xs.getD 2 0,[]⟩=c::(coded v++codedAll xs):=by
  unfold nodeBytes;rw[f0];simp only[if_neg a0,Int.toNat_natCast,List.nil_append];rw[show UInt8.ofNat c.toNat=c by simp]
 refine c0 _ _ rfl h ?_ ?_
 ·rw[hnb];simp only[List.length_cons,List.length_append];congr 1;omega
 rw[hnb];simp only[List.length_cons,List.length_append,List.cons_append,List.append_assoc];rw[d0,a4,c5]
 have:p+((coded v).length+(codedAll xs).length+1)=p+1+(coded v).length+(codedAll xs).length:=by omega
 rw[this]
def allBytes_cons(x:Node)(l:List Node):allBytes (x::l)=nodeBytes x++allBytes l:=by simp[allBytes]
def nodesA_back(s:List UInt8)(m:Nat):∀(k p:Nat) (st:List Int) (acc:List Node),p<=s.length->(nodesA s m k p st acc).2.2.2<0->
  ∃ns,(nodesA s m k p st acc).1=acc++ns/\ns.length=m/\(nodesA s m k p st acc).2.2.1=((p+(allBytes ns).length:Nat):Int)/\s.drop p=allBytes ns++s.drop (p+(allBytes ns).length):=by
 induction m with
 |zero=>intro k p st acc hp h;exact⟨[],by simp[nodesA],rfl,by simp[nodesA,allBytes],by simp[allBytes]⟩
 |succ m ih=>
  intro k p st acc hp h;have a0:=one_ok s p k hp;simp only[nodesA]at h⊢
  by_cases h1:(one s p k).2.1<0
  ·rw[if_pos h1]at h;simp only at h;omega
  rw[if_neg h1]at h⊢;obtain⟨e1,e2⟩:=one_back hp (show 0<=(one s p k).2.1 by omega);rw[e2]at a0;rw[e2,Int.toNat_natCast]at h⊢;obtain⟨ns,f1,f2,f3,f4⟩:=ih _ _ _ _ (by omega) h;refine⟨(one s p k).1::ns,by rw[f1];simp,by simp[f2],?_,?_⟩
  ·rw[f3,allBytes_cons];simp[Nat.add_assoc]
  rw[allBytes_cons,List.append_assoc,List.length_append,<-Nat.add_assoc,<-f4];exact e1
end Fl
namespace Fl
def head_back{s:List UInt8}(h:¬headAt s<3):s=[70,80,49]++s.drop 3/\3<=s.length:=by
 unfold headAt at h
 cases h0:headOk s 0 with
 |false=>rw[if_pos h0]at h;omega
 |true=>
  cases h1:headOk s 1 with
  |false=>rw[if_neg (by rw[h0];simp),if_pos h1]at h;omega
  |true=>
   cases h2:headOk s 2 with
   |false=>rw[if_neg (by rw[h0];simp),if_neg (by rw[h1];simp),if_pos h2]at h;omega
   |true=>
    simp only[headOk,Bool.and_eq_true,decide_eq_true_eq,beq_iff_eq]at h0 h1 h2
    match s,h2.1 with
    |a::b::c::t,_=>
     have e0:=h0.2;have e1:=h1.2;have e2:=h2.2;simp at e0 e1 e2;subst e0 e1 e2;exact⟨rfl,by simp⟩
def decode_encode{s:List UInt8}(h:(decode s).2.1=true):encode (decode s).1.1 (decode s).1.2=(s,true,-1):=by
 unfold decode at h⊢
 by_cases h0:headAt s<3
 ·rw[if_pos h0]at h;simp at h
 rw[if_neg h0]at h⊢;obtain⟨hs,h3⟩:=head_back h0;simp only at h⊢;have hno:=num_ok s 3 h3
 by_cases h1:(num s 3).2.1<0
 ·rw[if_pos h1]at h;simp at h
 rw[if_neg h1]at h⊢;obtain⟨v,a1,a2,a3,a4⟩:=num_back h3 (show 0<=(num s 3).2.1 by omega);rw[a3]at hno;rw[a1,a3]at h⊢
 by_cases h2:(4:Int)<(v:Int)
 ·rw[if_pos h2]at h;simp at h
 rw[if_neg h2]at h⊢;simp only[Int.toNat_natCast]at h⊢
 by_cases h4:(nums s (3+(coded v).length) v).2.1<0
 ·rw[if_pos h4]at h;simp at h
 rw[if_neg h4]at h⊢;have hlo:=nums_ok s (3+(coded v).length) v (by omega);obtain⟨ls,b1,b2,b3,b4,b5⟩:=nums_back (s:=s) (p:=3+(coded v).length) (n:=v) (by omega) (by omega);rw[b4]at hlo;rw[b1,b4]at h⊢;simp only[Int.toNat_natCast]at h⊢;have b0:=num_ok s (3+(coded v).length+(codedAll ls).length) (by omega)
 by_cases h5:(num s (3+(coded v).length+(codedAll ls).length)).2.1<0
 ·rw[if_pos h5]at h;simp at h
 rw[if_neg h5]at h⊢;obtain⟨m,c1,c2,c3,c4⟩:=num_back (s:=s) (p:=3+(coded v).length+(codedAll ls).length) (by omega) (by omega);rw[c3]at b0;rw[c1,c3]at h⊢
 by_cases h6:(m:Int)<1\/200<(m:Int)
 ·rw[if_pos h6]at h;simp at h
 rw[if_neg h6]at h⊢;simp only[Int.toNat_natCast]at h⊢;generalize hr:nodesA s m 0 (3+(coded v).length+(codedAll ls).length+(coded m).length) [] []=r at h⊢
 by_cases h7:0<=r.2.2.2
 ·rw[if_pos h7]at h;simp at h
 rw[if_neg h7]at h⊢;obtain⟨ns,d1,d2,d3,d4⟩:=nodesA_back s m 0 (3+(coded v).length+(codedAll ls).length+(coded m).length) [] [] (by omega) (by rw[hr];omega);rw[hr]at d1 d3;rw[List.nil_append]at d1;rw[d1,d3]at h⊢
 by_cases h8:((3+(coded v).length+(codedAll ls).length+(coded m).length+(allBytes ns).length:Nat):Int)<(s.length:Int)
 ·rw[if_pos h8]at h;simp at h
 rw[if_neg h8]at h⊢
 by_cases h9:0<=shaped ns
 ·rw[if_pos h9]at h;simp at h
 rw[if_neg h9];simp only;unfold encode;rw[if_neg (by omega),if_neg (by rw[b3];simp),if_neg h9];have a0:s.drop (3+(coded v).length+(codedAll ls).length+(coded m).length+(allBytes ns).length)=[]:=List.drop_eq_nil_of_le (by omega);have:headBytes ls ns++allBytes ns=s:=by
  conv=>rhs;rw[hs,a4,b5,c4,d4,a0]
  unfold headBytes;rw[b2,d2];simp[List.append_assoc]
 rw[this]
end Fl
structure zzz(ls:List Int)(x:List Fl.Node):Prop where
 l0:ls.length<=4/\∀y∈ls,0<=y
 x0:0<x.length/\x.length<=200
 ok:∀k,k<x.length->Fl.bad x k=false
def zfy{s:List UInt8}(h:(Fl.decode s).2.1=true):zzz (Fl.decode s).1.1 (Fl.decode s).1.2:=by
 have h1:=Fl.decode_encode h;generalize (Fl.decode s).1.1=ls at h1⊢;generalize (Fl.decode s).1.2=x at h1⊢;unfold Fl.encode at h1
 split at h1
 ·simp at h1
 rename_i h2
 split at h1
 ·simp at h1
 rename_i h3
 split at h1
 ·simp at h1
 rename_i h4;refine⟨⟨by omega,λy hy=>?_⟩,by omega,λk hk=>?_⟩
 ·have h5:ls.all Fl.inR=true:=by simpa using h3
  have h6:=List.all_eq_true.1 h5 y hy;simp only[Fl.inR,Bool.and_eq_true,decide_eq_true_eq]at h6;exact h6.1
 cases hb:Fl.bad x k with
 |false=>rfl
 |true=>
  exfalso
  refine h4 ?_;unfold Fl.shaped
  cases hf:(List.range x.length).find? (Fl.bad x) with
  |some j=>exact Int.natCast_nonneg j
  |none=>
   have h7:=List.find?_eq_none.1 hf k (List.mem_range.2 hk);exact absurd hb h7
def zu1{x:List Fl.Node}{k:Nat}(h:Fl.bad x k=false):Fl.sound (Fl.nth x k)=true/\∀q∈Yw (Fl.nth x k),q<(k:Int):=by
 unfold Fl.bad at h;simp only[Bool.or_eq_false_iff,Bool.not_eq_false']at h;refine⟨by simpa using h.1,λq hq=>?_⟩;have h2:=List.any_eq_false.1 h.2.1 q hq;simpa using h2
def zl4{n:Fl.Node}(h:Fl.sound n=true):(0<=n.kind/\n.kind<=7)/\0<=n.level/\0<=n.a/\0<=n.b/\0<=n.c/\(∀y∈n.list,0<=y)/\n.list.length<=16:=by
 simp only[Fl.sound,Fl.okV,Fl.inR,Bool.and_eq_true,decide_eq_true_eq,List.all_eq_true]at h;obtain⟨h1,h2,h3,h4,h5,h6,h7,h8⟩:=h;refine⟨?_,h2.1,h4.1.1,h5.1.1,h6.1.1,λy hy=>(h7 y hy).1,h3⟩;refine Classical.byContradiction λhn=>h1 ?_;unfold Fl.fields;rw[if_neg (by omega),if_neg (by omega),if_neg (by omega),if_neg (by omega)]
def zzz.idx{ls:List Int}{x:List Fl.Node}(h:zzz ls x){k:Nat}(hk:k<x.length){q:Int}(hq:q∈Yw (Fl.nth x k))(h0:0<=q):Ji x q/\q.toNat<k:=by
 have h1:=(zu1 (h.ok k hk)).2 q hq;exact⟨⟨h0,by omega⟩,by omega⟩
def zzz.xok{ls:List Int}{x:List Fl.Node}(h:zzz ls x):XOk x:=by
 refine⟨λk hk h2=>?_,λk hk h3=>?_,λk hk h5=>?_,λk hk h6=>?_,λk hk h7 j hj=>?_⟩
 all_goals obtain⟨-,-,s1,s2,s3,s4,-⟩:=zl4 (zu1 (h.ok k hk)).1
 ·exact⟨(h.idx hk (by simp[Yw,h2]) s2).1,(h.idx hk (by simp[Yw,h2]) s3).1⟩
 ·exact(h.idx hk (by rcases h3 with h3|h3<;>simp[Yw,h3]) s2).1
 ·exact⟨(h.idx hk (by rcases h5 with h5|h5<;>simp[Yw,h5]) s1).1,(h.idx hk (by rcases h5 with h5|h5<;>simp[Yw,h5]) s2).1⟩
 ·exact(h.idx hk (by simp[Yw,h6]) s3).1
 exact(h.idx hk (by simp[Yw,h7,hj]) (s4 j hj)).1
def zzz.ndok{p:Fl.Prog}{ls:List Int}{x:List Fl.Node}(h:zzz ls x)(k:Nat)(hk:k<x.length)(ha:∀j,j<k->Fl.follows p ls x (Fl.nth x j)=true):zw5 p x (Fl.nth x k):=by
 obtain⟨s0,sl,s1,s2,s3,s4,s5⟩:=zl4 (zu1 (h.ok k hk)).1
 have hP:∀q,q∈Yw (Fl.nth x k)->0<=q->POk p x q:=λq hq h0=>by
  obtain⟨h1,h2⟩:=h.idx hk hq h0;have h3:=ha q.toNat h2;obtain⟨t0,tl,-⟩:=zl4 (zu1 (h.ok q.toNat h1.2)).1;simp only[Fl.follows,Bool.and_eq_true,decide_eq_true_eq]at h3;exact⟨h0,h1.2,tl,h3.1,t0⟩
 refine⟨s0,sl,λ_=>s1,λh2=>?_,λh3=>⟨s1,?_⟩,λh5=>?_,λh6=>?_,λh7=>⟨λj hj=>?_,by omega⟩⟩
 ·exact⟨hP _ (by simp[Yw,h2]) s2,hP _ (by simp[Yw,h2]) s3⟩
 ·exact hP _ (by rcases h3 with h3|h3<;>simp[Yw,h3]) s2
 ·exact⟨hP _ (by rcases h5 with h5|h5<;>simp[Yw,h5]) s1,hP _ (by rcases h5 with h5|h5<;>simp[Yw,h5]) s2⟩
 ·exact hP _ (by simp[Yw,h6]) s3
 exact hP _ (by simp[Yw,h7,hj]) (s4 j hj)
def zq1{nv nc:Nat}:∀(d:Nat) (l:List Fl.Stmt),Fl.StmtsOk nv nc d l->Jv d l
 |0,_,_=>trivial
 |d+1,l,h=>λi hi=>by
  have hm:l.getD i noS∈l:=by
   rw[Qa,Qb hi];exact List.getElem_mem hi
  obtain⟨h1,-,h3,h4⟩:=h _ hm;refine⟨?_,zq1 d _ h3,zq1 d _ h4⟩;rcases h1 with h1|h1|h1|h1
  ·exact .inl h1.1
  ·exact .inr (.inl h1.1)
  ·exact .inr (.inr (.inl h1))
  exact .inr (.inr (.inr h1.1))
end Go.Proofs.YtaaejabalinojaaGreatDoor
