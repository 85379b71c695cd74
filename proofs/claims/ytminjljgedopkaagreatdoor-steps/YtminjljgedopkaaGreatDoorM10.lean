import Derived.Test.YtminjljgedopkaaGreatDoorM09
set_option linter.all false
set_option maxRecDepth 100000
set_option maxHeartbeats 40000000
namespace Go.Proofs.YtminjljgedopkaaGreatDoor
open Go.RowKit Go.Proofs.Tryz
namespace Fl
def good(k:Nat)(nd:Node):Prop:=sound nd=true/\(prem nd).any (λp=>decide ((k:Int)<=p))=false
def inR_of{x:Int}(h:0<=x/\x<2147483648):inR x=true:=by simp[inR,h.1,h.2]
def getD_inR{l:List Int}(h:∀x∈l,0<=x/\x<2147483648)(i:Nat):inR (l.getD i 0)=true:=by
 rw[Qa]
 cases he:l[i]? with
 |none=>rfl
 |some x=>exact inR_of (h x (List.mem_of_getElem? he))
def getD_out{l:List Int}{i:Nat}(h:l.length<=i):l.getD i 0=0:=by
 rw[Qa,List.getElem?_eq_none h];rfl
def okV_get{l:List Int}(h:∀x∈l,0<=x/\x<2147483648){f:Nat}(hl:l.length=f)(i:Nat):okV (f:Int) (i:Int) (l.getD i 0)=true:=by
 unfold okV;rw[getD_inR h i,Bool.true_and,Bool.or_eq_true,decide_eq_true_eq,decide_eq_true_eq]
 by_cases hi:i<f
 ·left;omega
 right;exact getD_out (by omega)
def oneFin_good'{p k:Nat}{nd:Node}{e:Int}(h:¬(oneFin p k nd e).2.1<0)(hs:sound nd=true):good k (oneFin p k nd e).1:=by
 unfold oneFin at*
 split at h
 ·exact absurd (show (-1:Int)<0 by decide) h
 rename_i hn;rw[if_neg hn];exact⟨hs,by simpa using hn⟩
def one_good'(s:List UInt8)(p k:Nat)(hp:p<=s.length)(h:¬(one s p k).2.1<0):good k (one s p k).1:=by
 unfold one at*
 by_cases h0:p=s.length
 ·rw[if_pos h0]at h;exact absurd (show (-1:Int)<0 by decide) h
 rw[if_neg h0]at h⊢;simp only at h⊢;have hx:(s.getD p 0).toNat<256:=(s.getD p 0).toNat_lt;generalize (s.getD p 0).toNat=x at*
 by_cases h1:fields (x:Int)= -2
 ·rw[if_pos h1]at h;exact absurd (show (-1:Int)<0 by decide) h
 rw[if_neg h1]at h⊢
 by_cases h2:(num s (p+1)).2.1<0
 ·rw[if_pos h2]at h;exact absurd (show (-1:Int)<0 by decide) h
 rw[if_neg h2]at h⊢;obtain⟨v,q,hn,_,hq,hv⟩:=zvz s (p+1) (by omega) h2;rw[hn]at h⊢;simp only[Int.toNat_natCast]at h⊢;have a0:inR (v:Int)=true:=inR_of ⟨by omega,by omega⟩
 by_cases h3:fields (x:Int)= -1
 ·rw[if_pos h3]at h⊢
  by_cases h4:(num s q).2.1<0
  ·rw[if_pos h4]at h;exact absurd (show (-1:Int)<0 by decide) h
  rw[if_neg h4]at h⊢
  by_cases h5:16<(num s q).1
  ·rw[if_pos h5]at h;exact absurd (show (-1:Int)<0 by decide) h
  rw[if_neg h5]at h⊢;obtain⟨m,q2,hm,_,b0,_⟩:=zvz s q hq h4;rw[hm]at h h5⊢;simp only[Int.toNat_natCast]at h h5⊢
  by_cases h6:(nums s q2 m).2.1<0
  ·rw[if_pos h6]at h;exact absurd (show (-1:Int)<0 by decide) h
  rw[if_neg h6]at h⊢;refine oneFin_good' h ?_;rcases nums_ok s q2 m b0 with h7|⟨_,_,h8,h9⟩
  ·omega
  simp only[sound,h3,a0,h8,okV,Bool.and_eq_true,decide_eq_true_eq,Bool.or_eq_true];refine⟨by omega,by first|trivial|rfl,by omega,⟨by first|rfl|trivial,.inr (by first|rfl|trivial)⟩,⟨by first|rfl|trivial,.inr (by first|rfl|trivial)⟩,⟨by first|rfl|trivial,.inr (by first|rfl|trivial)⟩,?_,.inl (by first|trivial|rfl)⟩;rw[List.all_eq_true];intro y hy;exact inR_of (h9 y hy)
 rw[if_neg h3]at h⊢;have c0:=fields_lt (x:Int);obtain⟨f,hf⟩:∃f:Nat,fields (x:Int)=(f:Int):=⟨(fields (x:Int)).toNat,by omega⟩;rw[hf]at h⊢;simp only[Int.toNat_natCast]at h⊢
 by_cases h6:(nums s q f).2.1<0
 ·rw[if_pos h6]at h;exact absurd (show (-1:Int)<0 by decide) h
 rw[if_neg h6]at h⊢;refine oneFin_good' h ?_;rcases nums_ok s q f hq with h7|⟨_,_,h8,h9⟩
 ·omega
 have g0:=okV_get h9 h8 0;have g1:=okV_get h9 h8 1;have g2:=okV_get h9 h8 2;simp only[sound,hf,a0,Bool.and_eq_true,decide_eq_true_eq,Bool.or_eq_true];refine⟨by omega,by first|trivial|rfl,by simp,?_,?_,?_,by simp,.inr (by first|rfl|trivial)⟩
 ·simpa using g0
 ·simpa using g1
 simpa using g2
def sound_fits{nd:Node}(h:sound nd=true):fits nd/\0<=nd.kind/\nd.kind<8:=by
 simp only[sound,Bool.and_eq_true,decide_eq_true_eq,okV]at h;obtain⟨h1,h2,h3,⟨h4,_⟩,⟨h5,_⟩,⟨h6,_⟩,h7,_⟩:=h
 have hk:0<=nd.kind/\nd.kind<8:=by unfold fields at h1;(repeat' split at h1)<;>omega
 exact⟨⟨inR_of ⟨hk.1,by omega⟩,h2,h4,h5,h6,h3,h7⟩,hk⟩
def prem_inR{nd:Node}(h:sound nd=true):∀p∈prem nd,0<=p:=by
 obtain⟨⟨_,_,ha,hb,hc,_,hl⟩,_⟩:=sound_fits h
 have q:∀{x:Int},inR x=true->0<=x:=λh=>by simp only[inR,Bool.and_eq_true,decide_eq_true_eq]at h;exact h.1
 intro p hp;unfold prem at hp
 repeat' split at hp
 all_goals try simp only[List.mem_cons,List.not_mem_nil,or_false]at hp
 all_goals first|(rcases hp with rfl|rfl|rfl<;>first|exact q ha|exact q hb|exact q hc)|(rcases hp with rfl|rfl<;>first|exact q ha|exact q hb|exact q hc)|(subst hp;first|exact q ha|exact q hb|exact q hc)|exact q (List.all_eq_true.1 hl p hp)|exact hp.elim
def allGood(ns:List Node):Prop:=∀i,i<ns.length->good i (nth ns i)
def allGood_snoc{ns:List Node}{nd:Node}(h:allGood ns)(hg:good ns.length nd):allGood (ns++[nd]):=by
 intro i hi;simp only[List.length_append,List.length_cons,List.length_nil]at hi
 by_cases h1:i<ns.length
 ·have:nth (ns++[nd]) i=nth ns i:=by simp[nth,Qa,List.getElem?_append_left h1]
  rw[this];exact h i h1
 have hi':i=ns.length:=by omega
 subst hi'
 have:nth (ns++[nd]) ns.length=nd:=by simp[nth,Qa]
 rw[this];exact hg
def good_lt{k:Nat}{nd:Node}(h:good k nd){p:Int}(hp:p∈prem nd):0<=p/\p<k:=by
 refine⟨prem_inR h.1 p hp,?_⟩;have:=h.2;rw[List.any_eq_false]at this;have:=this p hp;simp only[decide_eq_true_eq]at this;omega
def shaped_good{ns:List Node}(h:allGood ns):shaped ns=if 0<=firstDup ns then firstDup ns else firstUn ns:=by
 have hb:∀k,k<ns.length->bad ns k=dupAt ns k:=λk hk=>by
  have:=h k hk;unfold bad dupAt;rw[this.1,this.2];rfl
 have hu:∀k,used ns k=usedBy ns ns.length k:=λk=>by
  unfold used usedBy;rw[Bool.eq_iff_iff,List.any_eq_true,List.any_eq_true]
  constructor
  ·rintro⟨j,hj,hh⟩;exact⟨j,hj,(Bool.and_eq_true_iff.1 hh).2⟩
  rintro⟨j,hj,hh⟩;refine⟨j,hj,?_⟩;rw[Bool.and_eq_true];refine⟨?_,hh⟩;rw[List.any_eq_true]at hh;obtain⟨p,hp,he⟩:=hh;have:=good_lt (h j (by simpa using hj)) hp;rw[beq_iff_eq]at he;rw[decide_eq_true_eq];omega
 have a0:(List.range ns.length).find? (bad ns)=(List.range ns.length).find? (dupAt ns):=by
  have:∀(l:List Nat),(∀k∈l,k<ns.length)->l.find? (bad ns)=l.find? (dupAt ns):=by
   intro l
   induction l with
   |nil=>intro _;rfl
   |cons x l ih=>intro hl;simp only[List.find?_cons,hb x (hl x (by simp)),ih (λk hk=>hl k (by simp[hk]))]
  exact this _ (λk hk=>by simpa using hk)
 unfold shaped firstDup firstUn;rw[a0]
 cases hd:(List.range ns.length).find? (dupAt ns) with
 |some k=>simp only;rw[if_pos (by omega)]
 |none=>
  simp only;rw[if_neg (by decide)]
  have:(λk=> !used ns k)=(λk=> !usedBy ns ns.length k):=by funext k;rw[hu]
  rw[this]
  cases (List.range (ns.length - 1)).find? (λk=> !usedBy ns ns.length k)<;>rfl
end Fl
def yw9(ns:List Fl.Node):Fl.firstDup ns<(ns.length:Int):=by
 unfold Fl.firstDup
 cases hf:(List.range ns.length).find? (Fl.dupAt ns) with
 |some k=>have:=List.mem_of_find?_eq_some hf;simp at this;simp only;omega
 |none=>simp only;omega
def yt9(ns:List Fl.Node):Fl.firstUn ns<(ns.length:Int):=by
 unfold Fl.firstUn
 cases hf:(List.range (ns.length - 1)).find? (λk=> !Fl.usedBy ns ns.length k) with
 |some k=>have:=List.mem_of_find?_eq_some hf;simp at this;simp only;omega
 |none=>simp only;omega
def yu5(ns:List Fl.Node)(st:List Int)(w:World)(e:Ending)(w':World):Prop:=
 Below w.heap.size w w'/\(0<=Fl.shaped ns->e=.panicked (Zl 8 (st.getD (Fl.shaped ns).toNat 0)))/\(¬0<=Fl.shaped ns->e=.returned (.tuple #[]))
def ywz(ns:List Fl.Node)(st:List Int)(nv sv:Value)(b:Nat)(w:World)(hn:Zm w.heap.size w nv ns)(hs:Zy w.heap.size w sv st)(hl:st.length=ns.length)(hlen:ns.length<=1000)(hg:Fl.allGood ns)(hc:w.cell? ⟨b,34,none⟩=some sv):
  Calls prog 85 #[.pointer (some ⟨b,0,none⟩),nv] w (yu5 ns st w):=by
 have hlb:b<w.heap.size:=Qe w _ hc;have g0:∀i,i<ns.length->Fl.fits (Fl.nth ns i):=λi hi=>(Fl.sound_fits (hg i hi).1).1;have h0:Hid (Calls prog 132 #[nv] w λe w'=>e=.returned (.int .i64 (Fl.firstDup ns))/\Below w.heap.size w w'):=zcx ns nv w hn g0 hlen
 have j0:Hid (∀w1,Below w.heap.size w w1->Calls prog 52 #[nv] w1 λe w'=>e=.returned (.int .i64 (Fl.firstUn ns))/\Below w1.heap.size w1 w'):=λw1 h1=>
  ztw ns nv w1 ((hn.below h1).mono h1.size) hlen (λi hi=>(Fl.sound_fits (hg i hi).1).2) (λi hi p hp=>by have:=Fl.good_lt (hg i hi) hp;omega)
 have l0:Hid (Fl.shaped ns=if 0<=Fl.firstDup ns then Fl.firstDup ns else Fl.firstUn ns):=Fl.shaped_good hg;have o0:=yw9 ns;have p0:=yt9 ns;obtain⟨sao,scap,rfl,_,t0,q0⟩:=hs;have r0:=Zz q0;have HC:=Zz hc;unfold maxLen at t0;clear q0 hc hn hg g0
 by_cases hd:0<=Fl.firstDup ns
 ·obtain⟨k,hk⟩:∃k:Nat,Fl.firstDup ns=(k:Int):=⟨(Fl.firstDup ns).toNat,by omega⟩
  have e0:k<st.length:=(by omega);obtain⟨sb,so,rfl,m0,i0⟩:=r0.out (by intro h;rw[h]at e0;simp at e0);have a0:Hid (Fl.shaped ns=(k:Int)):=(by show _=_;rw[l0.out,if_pos hd,hk]);rw[hk]at h0 o0;have b0:=i0 k e0;have u0:(k:Int)<(st.length:Int):=(by omega);clear hd hk i0
  go_enter func85,ntmps85
  go_wp2_with fail
  refine(h0.out).mono ?_;rintro e w1 ⟨rfl,c0⟩;have c34:w1.cell? ⟨b,34,none⟩=some (.slice (some ⟨sb,so,none⟩) st.length scap):=(c0.cell (p:=⟨b,34,none⟩) hlb).trans HC.out;have ck:w1.cell? ⟨sb,so+k,none⟩=some (.int .i64 (st.getD k 0)):=(c0.cell (p:=⟨sb,so+k,none⟩) m0).trans b0;have d0:=Zz c0;clear c0 b0;generalize hx:st.getD k 0=x at*;have HX:=Zz hx;clear hx
  go_wp2_with fail
  refine(Xp _ _ _).mono ?_;rintro e w2 ⟨rfl,f0⟩;refine⟨rfl,d0.out.trans (f0.mono d0.out.size),λ_=>?_,λh=>absurd (by rw[a0.out];omega) h⟩;rw[a0.out,Int.toNat_natCast,HX.out]
 obtain⟨d,n0⟩:=nmE (Fl.firstDup ns);rw[<-n0]at h0 hd o0
 have a0:Hid (Fl.shaped ns=Fl.firstUn ns):=by show _=_;rw[l0.out,<-n0,if_neg hd]
 clear n0 l0
 by_cases hu:0<=Fl.firstUn ns
 ·obtain⟨k,hk⟩:∃k:Nat,Fl.firstUn ns=(k:Int):=⟨(Fl.firstUn ns).toNat,by omega⟩
  have e0:k<st.length:=(by omega);obtain⟨sb,so,rfl,m0,i0⟩:=r0.out (by intro h;rw[h]at e0;simp at e0);rw[hk]at j0 p0 a0;have b0:=i0 k e0;have u0:(k:Int)<(st.length:Int):=(by omega);clear hu hk i0
  go_enter func85,ntmps85
  go_wp2_with fail
  refine(h0.out).mono ?_;rintro e w1 ⟨rfl,c0⟩;have d0:=Zz c0;clear c0
  go_wp2_with fail
  refine(j0.out w1 d0.out).mono ?_;rintro e w2 ⟨rfl,f0⟩;have hb2':Below w.heap.size w w2:=d0.out.trans (f0.mono d0.out.size);have c34:w2.cell? ⟨b,34,none⟩=some (.slice (some ⟨sb,so,none⟩) st.length scap):=(hb2'.cell (p:=⟨b,34,none⟩) hlb).trans HC.out;have ck:w2.cell? ⟨sb,so+k,none⟩=some (.int .i64 (st.getD k 0)):=(hb2'.cell (p:=⟨sb,so+k,none⟩) m0).trans b0;have k0:=Zz hb2';clear f0 b0 hb2';generalize hx:st.getD k 0=x at*;have HX:=Zz hx;clear hx
  go_wp2_with fail
  refine(Xp _ _ _).mono ?_;rintro e w3 ⟨rfl,v0⟩;refine⟨rfl,k0.out.trans (v0.mono k0.out.size),λ_=>?_,λh=>absurd (by rw[a0.out];omega) h⟩;rw[a0.out,Int.toNat_natCast,HX.out]
 obtain⟨u,s0⟩:=nmE (Fl.firstUn ns);rw[<-s0]at j0 hu p0 a0;clear s0
 go_enter func85,ntmps85
 go_wp2_with fail
 refine(h0.out).mono ?_;rintro e w1 ⟨rfl,c0⟩;have d0:=Zz c0;clear c0
 go_wp2_with fail
 refine(j0.out w1 d0.out).mono ?_;rintro e w2 ⟨rfl,f0⟩;have k0:Hid (Below w.heap.size w w2):=d0.out.trans (f0.mono d0.out.size);clear f0;go_wp2
 go_end0
 exact⟨k0.out,λh=>absurd h (by rw[a0.out];omega),λ_=>rfl⟩
structure Fr(w w':World)(b:Nat):Prop where
 g:w.grownBy w' (some b)
 o:∀j,j≠1->j≠34->w'.cell? ⟨b,j,none⟩=w.cell? ⟨b,j,none⟩
 f:∀j,w'.frozen? ⟨b,j,none⟩=w.frozen? ⟨b,j,none⟩
def Mv.fr{w w':World}{b:Nat}(h:Mv w w' b):Fr w w' b:=⟨h.g,λj h1 _=>h.o j h1,h.f⟩
def Fr.trans{w w1 w2:World}{b:Nat}(h:Fr w w1 b)(k:Fr w1 w2 b):Fr w w2 b:=
 ⟨⟨k.g.os.trans h.g.os,k.g.tape.trans h.g.tape,k.g.output.trans h.g.output,Nat.le_trans h.g.size k.g.size,λi hi a0=>(k.g.block i (Nat.lt_of_lt_of_le hi h.g.size) a0).trans (h.g.block i hi a0)⟩,λj hj hj'=>(k.o j hj hj').trans (h.o j hj hj'),λj=>(k.f j).trans (h.f j)⟩
def Fr.andGrown{w w1 w2:World}{b:Nat}{row:Option Nat}(h:Fr w w1 b)(g:w1.grownBy w2 row)(hb:b<w.heap.size)(hall:∀k,row=some k->w.heap.size<=k):Fr w w2 b:=by
 have a0:∀k,k<w.heap.size->some k≠row:=λk hk e=>by have:=hall k e.symm;omega
 have hz:=h.g.size;refine⟨⟨g.os.trans h.g.os,g.tape.trans h.g.tape,g.output.trans h.g.output,Nat.le_trans h.g.size g.size,λk hk b0=>(g.block k (by omega) (a0 k hk)).trans (h.g.block k hk b0)⟩,λj hj hj'=>?_,λj=>?_⟩
 ·exact(Qc (w:=w1) (a:=⟨b,j,none⟩) (g.block b (by omega) (a0 b hb))).trans (h.o j hj hj')
 exact(Qd (w:=w1) (a:=⟨b,j,none⟩) (g.block b (by omega) (a0 b hb))).trans (h.f j)
def Fr.set34(w:World)(b:Nat)(u:Value):Fr w (w.setCell ⟨b,34,none⟩ u) b:=
 ⟨Yl w b 34 u,λj _ hj=>Yp (λe=>hj e.symm),λj=>World.frozen?_setCell _ _ _ _⟩
structure Ys(base:Nat)(w w':World):Prop where
 size:w.heap.size<=w'.heap.size
 block:∀k,base<=k->k<w.heap.size->w'.heap[k]?=w.heap[k]?
def Ys.alloc(base:Nat)(w:World)(o:Obj):Ys base w (w.alloc o):=⟨by simp,λk _ hk=>Below.heap_alloc _ _ _ hk⟩
def Ys.grown{base:Nat}{w w':World}{row:Option Nat}(g:w.grownBy w' row)(h:∀k,row=some k->k<base):Ys base w w':=⟨g.size,λk hb hk=>g.block k hk (λe=>by have:=h k e.symm;omega)⟩
def Ys.below{base:Nat}{w w':World}(h:Below w.heap.size w w'):Ys base w w':=⟨h.size,λk _ hk=>h.block k hk⟩
def Ys.trans{base:Nat}{w w1 w2:World}(h:Ys base w w1)(k:Ys base w1 w2):Ys base w w2:=⟨Nat.le_trans h.size k.size,λi hb hi=>(k.block i hb (Nat.lt_of_lt_of_le hi h.size)).trans (h.block i hb hi)⟩
def zk5{base:Nat}{w w':World}{e:TypeId}{size:Nat}{v:Value}{n:Nat}{xs:List Value}(h:w.ownsRow base e size v n xs)(s:Ys base w w'):w'.ownsRow base e size v n xs:=by
 refine⟨h.1,?_⟩;rcases h.2 with hn|⟨g,cap,cur,hv,hb,hg,rest⟩
 ·exact .inl hn
 exact .inr ⟨g,cap,cur,hv,hb,(s.block g hb (Array.getElem?_eq_some_iff.1 hg).1).trans hg,rest⟩
def ztv{base:Nat}{w w':World}{lv:Value}{xs:List Int}(h:Zy w.heap.size w lv xs)(hb:xs≠[]->∀b,lv.ownBlock=some b->base<=b)(s:Ys base w w'):Zy w'.heap.size w' lv xs:=by
 obtain⟨ao,cap,rfl,hc,hl,hx⟩:=h;refine⟨ao,cap,rfl,hc,hl,λb0=>?_⟩;obtain⟨b,off,rfl,c0,a0⟩:=hx b0;have d0:=hb b0 b rfl;exact⟨b,off,rfl,Nat.lt_of_lt_of_le c0 s.size,λi hi=>(Qc (w:=w) (a:=⟨b,off+i,none⟩) (s.block b d0 c0)).trans (a0 i hi)⟩
structure Li(base:Nat)(w:World)(fam:List (Value×List Int))(sv nv:Value)(n1 n2:Nat)(xs ys:List Value):Prop where
 hs:w.ownsRow base 3 1 sv n1 xs
 hn:w.ownsRow base 121 6 nv n2 ys
 hall:∀p,p∈fam->Vz w p.1 p.2 sv nv/\(p.2≠[]->∀b,p.1.ownBlock=some b->base<=b)
section
variable{base:Nat}{w w':World}{fam:List (Value×List Int)}{sv nv:Value}{n1 n2:Nat}{xs ys:List Value}
def Li.stay(h:Li base w fam sv nv n1 n2 xs ys)(s:Ys base w w'):Li base w' fam sv nv n1 n2 xs ys:=
 ⟨zk5 h.hs s,zk5 h.hn s,λp hp=>⟨⟨ztv (h.hall p hp).1.1 (h.hall p hp).2 s,(h.hall p hp).1.2⟩,(h.hall p hp).2⟩⟩
def Li.first(h:Li base w fam sv nv n1 n2 xs ys){sv':Value}{n1':Nat}{xs':List Value}(ho:w'.ownsRow base 3 1 sv' n1' xs')(hg:w.grownBy w' sv.ownBlock)(hw:sv'.ownBlock=sv.ownBlock\/sv'.ownBlock=some w.heap.size):Li base w' fam sv' nv n1' n2 xs' ys:=
 ⟨ho,h.hn.kept hg (zty h.hn h.hs (by decide)),λp hp=>⟨(h.hall p hp).1.first hg hw,(h.hall p hp).2⟩⟩
def Li.second(h:Li base w fam sv nv n1 n2 xs ys){nv':Value}{n2':Nat}{ys':List Value}(ho:w'.ownsRow base 121 6 nv' n2' ys')(hg:w.grownBy w' nv.ownBlock)(hw:nv'.ownBlock=nv.ownBlock\/nv'.ownBlock=some w.heap.size):Li base w' fam sv nv' n1 n2' xs ys':=
 ⟨h.hs.kept hg (zty h.hs h.hn (by decide)),ho,λp hp=>⟨(h.hall p hp).1.second hg hw,(h.hall p hp).2⟩⟩
def Li.add(h:Li base w fam sv nv n1 n2 xs ys){lvn:Value}{l:List Int}{N:Nat}(hi:Zy w.heap.size w lvn l)(hf:∀b,lvn.ownBlock=some b->N<=b)(a0:∀b,sv.ownBlock=some b->b<N)(b0:∀b,nv.ownBlock=some b->b<N)(hN:base<=N):Li base w (fam++[(lvn,l)]) sv nv n1 n2 xs ys:=by
 refine⟨h.hs,h.hn,λp hp=>?_⟩;simp only[List.mem_append,List.mem_singleton]at hp;rcases hp with hp|rfl
 ·exact h.hall p hp
 refine⟨⟨hi,λhx=>?_⟩,λ_ b hb=>by have:=hf b hb;omega⟩;obtain⟨b,hb,c0⟩:=zxx hi hx;have:=hf b hb;exact⟨λhh=>by have:=a0 b (hh.symm.trans hb);omega,λhh=>by have:=b0 b (hh.symm.trans hb);omega⟩
end
structure PL(s:List UInt8)(M q0:Nat)(w:World)(b P0:Nat)(lv:Value)(ls:List Int)(wr:World)(k q:Nat)(sv nv:Value)(st:List Int)(acc:List Fl.Node)(lvs:List Value):Prop where
 hk:k<=M
 hq:q<=s.length
 hst:st.length=k
 hacc:acc.length=k
 hlvs:lvs.length=k
 hrun:Fl.nodesA s M 0 q0 [] []=Fl.nodesA s (M - k) k q st acc
 hgood:Fl.allGood acc
 hl:Li (P0+1) wr ((lv,ls)::Ye acc lvs) sv nv k k (st.map (Value.int .i64)) (Xs acc lvs)
 c0:wr.cell? ⟨P0,0,none⟩=some lv
 c1:wr.cell? ⟨P0,1,none⟩=some nv
 d0:wr.cell? ⟨w.heap.size,0,none⟩=some (.slice none 0 0)
 d1:wr.cell? ⟨w.heap.size,1,none⟩=some (.slice none 0 0)
 f0:∀j,wr.frozen? ⟨w.heap.size,j,none⟩=false
 f1:∀j,wr.frozen? ⟨P0,j,none⟩=false
 fb:∀j,wr.frozen? ⟨b,j,none⟩=false
 fr:Fr w wr b
 a1:wr.cell? ⟨b,1,none⟩=some (.int .i64 (q:Int))
 a34:wr.cell? ⟨b,34,none⟩=some sv
 hR:w.heap.size<P0
 hP:P0<wr.heap.size
 hb:b<w.heap.size
def PL.nodes{s:List UInt8}{M q0:Nat}{w:World}{b P0:Nat}{lv:Value}{ls:List Int}{wr:World}{k q:Nat}{sv nv:Value}{st:List Int}{acc:List Fl.Node}{lvs:List Value}(h:PL s M q0 w b P0 lv ls wr k q sv nv st acc lvs):Zm wr.heap.size wr nv acc:=
 Vd (by rw[h.hacc];exact h.hl.hn) (by rw[h.hacc,h.hlvs]) (λi hi=>(h.hl.hall _ (by simp only[List.mem_cons];right;exact Us acc lvs i (by rw[h.hacc,h.hlvs]) hi)).1.1)
def PL.locals{s:List UInt8}{M q0:Nat}{w:World}{b P0:Nat}{lv:Value}{ls:List Int}{wr:World}{k q:Nat}{sv nv:Value}{st:List Int}{acc:List Fl.Node}{lvs:List Value}(h:PL s M q0 w b P0 lv ls wr k q sv nv st acc lvs):Zy wr.heap.size wr lv ls:=(h.hl.hall (lv,ls) (by simp)).1.1
def PL.starts{s:List UInt8}{M q0:Nat}{w:World}{b P0:Nat}{lv:Value}{ls:List Int}{wr:World}{k q:Nat}{sv nv:Value}{st:List Int}{acc:List Fl.Node}{lvs:List Value}(h:PL s M q0 w b P0 lv ls wr k q sv nv st acc lvs):Zy wr.heap.size wr sv st:=Zy.of_own h.hl.hs
open Go.Maps Go.WideMaps
def ypw(w:World):Calls prog 92 #[] w λe w'=>e=.returned (.pointer (some ⟨w.heap.size+1,0,none⟩))/\Up w' (w.heap.size+1) w.heap.size []/\Below w.heap.size w w'/\w'.heap.size=w.heap.size+2:=by
 have hmm:= @run_makeMap prog
 go_enter func92,ntmps92
 go_wp2;go_ret;refine⟨rfl,⟨?_,0,.map [],Nat.le_refl _,(World.ownsMap_made w _ _ _).alloc _,rfl,λnd _=>?_,λi hi=>(by cases hi)⟩,?_,?_⟩
 ·simp
 ·simp[Maps.has]
 ·exact(((Below.refl _ _).alloc (Nat.le_refl _) _).alloc (by simp) _)
 ·simp
section
variable{w:World}{Fb Pb Lb:Nat}{clv chv bv vv:Value}{S:Nat->Prop}{p:Fl.Prog}{vs:List Int}
def ytz(h:Xo w Fb Pb Lb clv chv bv vv S p vs):Calls prog 66 #[.pointer (some ⟨Fb,0,none⟩)] w λe w'=>∃nv,e=.returned nv/\(∀w'',Ys w.heap.size w' w''->Zm w''.heap.size w'' nv (Fl.wBlock p vs 4 [] p.body (Fl.low p)).2)/\Below w.heap.size w w':=by
 obtain⟨lw,hlt,elw⟩:∃lw:Nat,lw<p.n/\Fl.low p=(lw:Int):=⟨(Fl.low p).toNat,by have:=h.lv.lv.low;omega,by have:=h.lv.lv.low;omega⟩
 have hso:Fl.StmtsOk vs.length p.chans.length 4 p.body:=by rw[h.ok.1];exact h.pk.body
 have HN:=Zz (ypw w);have HBL:Hid (∀V Xb T B,Yo w V Xb T B Fb (.slice none 0 0) [] []->Calls prog 113 #[.pointer (some ⟨Xb,0,none⟩),bv,.int .i64 lw] V (Xj (λ_=>False) w V Xb T B Fb (.slice none 0 0) [] [] (Fl.wBlock p vs 4 [] p.body lw))):=λV Xb T B hV=>ziy h 4 (by omega) V _ [] [] bv p.body lw h.bo hso hlt hV (by simp);rw[elw];generalize Fl.wBlock p vs 4 [] p.body lw=res at*
 have HL:Hid (∀V,Below w.heap.size w V->Calls prog 108 #[.pointer (some ⟨Lb,0,none⟩)] V λe w'=>e=.returned (.int .i64 lw)/\w'=V):=λV hV=>by
  have h5:=zu3 (h.below hV).lv.la;have e5:((Fl.bottom p.n p.leq:Nat):Int)=(lw:Int):=elw;rw[e5]at h5;exact h5
 have HS:Hid (∀V,Below w.heap.size w V->V.cell? ⟨Fb,0,none⟩=some (.pointer (some ⟨Pb,0,none⟩))/\V.cell? ⟨Pb,4,none⟩=some bv/\V.cell? ⟨Pb,0,none⟩=some (.pointer (some ⟨Lb,0,none⟩))):=λV hV=>⟨(h.below hV).c0,(h.below hV).p4,(h.below hV).lv.p0⟩;clear elw hso hlt
 go_enter func66,ntmps66
 go_wp2_with fail
 refine HN.out.mono ?_;rintro e W1 ⟨rfl,hse,hb1,hz1⟩;obtain⟨W2,hW2⟩:∃W2,W2=W1.alloc (.cells #[.pointer (some ⟨Fb,0,none⟩),.slice none 0 0,.pointer (some ⟨w.heap.size+1,0,none⟩)] 230):=⟨_,rfl⟩
 have hb2:Below W1.heap.size W1 W2:=by rw[hW2];exact bA
 have HWI:Hid (Yo w W2 (w.heap.size+2) (w.heap.size+1) w.heap.size Fb (.slice none 0 0) [] []):=by
  have og:W1.grownBy W2 none:=⟨hb2.os,hb2.tape,hb2.output,hb2.size,λk hk _=>hb2.block k hk⟩;refine⟨by omega,by rw[hW2];simp;omega,by rw[hW2,<-hz1];simp,by rw[hW2,<-hz1];simp,by rw[hW2,<-hz1];simp,λj=>?_,hse.kept og (by simp) (by simp),rfl,World.ownsRow_nil _ _ _ _,λp hp=>(by cases hp),hb1.trans (hb2.mono hb1.size)⟩;have h5:W2.heap[w.heap.size+2]?=some (.cells #[.pointer (some ⟨Fb,0,none⟩),.slice none 0 0,.pointer (some ⟨w.heap.size+1,0,none⟩)] 230 (0,0)):=(by rw[hW2,<-hz1];exact heap_alloc_last _ _);simp[World.frozen?,h5]
 have HB2:Hid (Below w.heap.size w W2):=hb1.trans (hb2.mono hb1.size);clear hse hb1 hb2 HN
 go_wp2_with fail
 rw[<-hW2];clear hW2 hz1;refine Zv HS HB2.out.drew [15,16] [] [] (by kernel_rfl) (λc a d v w h=>by cases d<;>exact h) (λops _=>?_)
 iterate 15 refine Zx rfl (by rintro _ ⟨_,_,_⟩;go_simp<;>rfl) (by go_simp<;>rfl) ?_
 refine Zo ?_
 go_wp2_with fail
 refine(HL.out _ HB2.out.drew).mono ?_;rintro e1 W3 ⟨rfl,rfl⟩
 go_wp2_with fail
 refine⟨HS.out _ HB2.out.drew,?_⟩;refine Zo ?_
 go_wp2_with fail
 refine(HBL.out _ _ _ _ (HWI.out.below (Below.refl _ _).drew)).mono ?_;rintro e2 W4 ⟨rfl,wv4,lvs4,hw4,hst4,-⟩;have HB4:Hid (Below w.heap.size w W4):=hw4.be;have c41:=hw4.c1
 have HE:Hid (∀w'',Ys w.heap.size W4 w''->Zm w''.heap.size w'' wv4 res.2):=λw'' hs=>by
  have hx:=hw4.x0;refine Vd (Yu hw4.ow (λb hb=>hs.block b ?_ ?_)) hw4.hl (λi hi=>ztv (hw4.li _ (Us _ _ i hw4.hl hi)).1.1 (λhne b hb=>?_) hs)
  ·have:=(hw4.ow.lt b hb).1;omega
  ·exact(hw4.ow.lt b hb).2
  ·have:=((hw4.li _ (Us _ _ i hw4.hl hi)).2 hne b hb).1;omega
 clear hw4 hst4
 go_wp2_with fail
 refine⟨HS.out _ HB4.out,?_⟩;refine Zs ?_;go_wp2;go_ret;exact⟨_,rfl,HE.out,HB4.out⟩
end
end Go.Proofs.YtminjljgedopkaaGreatDoor
namespace Go.Proofs.YtminjljgedopkaaGreatDoor
open Go.RowKit Go.Proofs.Tryz
def Jx(n k:Nat)(v:Int):List Value:=List.replicate k (Value.int .i64 v)++List.replicate (n - k) (Value.int .i64 0)
def ypv(n k:Nat)(v:Int)(h:k<n):(Jx n k v).toArray.setIfInBounds k (.int .i64 v)=(Jx n (k+1) v).toArray:=by
 rw[List.setIfInBounds_toArray]
 congr 1
 unfold Jx;rw[List.set_append_right _ _ (by simp)];simp only[List.length_replicate,Nat.sub_self];obtain⟨m,hm⟩:∃m,n - k=m+1:=⟨n - k - 1,by omega⟩;rw[hm,List.replicate_succ,List.set_cons_zero,show n - (k+1)=m by omega,List.replicate_succ',List.append_assoc];rfl
def yl7(n k:Nat)(v:Int)(h:k<n):(Jx n k v).toArray[k]?=some (.int .i64 0):=by
 unfold Jx;rw[List.getElem?_toArray,List.getElem?_append_right (by simp)];simp only[List.length_replicate,Nat.sub_self];rw[List.getElem?_replicate,if_pos (by omega)]
def yo0(W:World)(n:Nat)(hn:n<=100000):(Instr.makeSlice 23 (.int .i64 n) (.int .i64 n)).run prog W=.ok (.slice (some ⟨W.heap.size,0,none⟩) n n) (W.alloc (.cells (Jx n 0 0).toArray 3)):=by
 obtain⟨i0,hi0,hz0,hzs,hzb⟩:=info_parts Tryz.infoIntW;have h:=run_makeSlice (w:=W) 23 3 i0 (.int .i64 0) underlying23 hi0 hz0 .i64 .i64 (n:Int) (n:Int) (by omega) (Int.le_refl _) (by rw[hzs];simp;omega) (by rw[hzb];omega) (by omega);have e:madeCells (Value.int .i64 0).cells ((n:Int).toNat*1)=(Jx n 0 0).toArray:=by
  apply Array.ext
  ·simp[madeCells,Jx]
  ·intro i h1 h2
   simp[madeCells,Jx,Value.cells,Nat.mod_one]
 rw[h,hzs,e,Int.toNat_natCast]
section
variable{w:World}{Pb Lb:Nat}{p:Fl.Prog}
def zix(h:LvIn w Pb Lb p)(p3:w.cell? ⟨Pb,3,none⟩=some (.int .i64 p.locals))(hl:p.locals<=4):Calls prog 63 #[.pointer (some ⟨Pb,0,none⟩)] w λe w'=>∃lv,e=.returned lv/\Zy w'.heap.size w' lv (List.replicate p.locals (Fl.low p))/\Below w.heap.size w w':=by
 obtain⟨n,hn⟩:∃n,n=p.locals:=⟨_,rfl⟩;rw[<-hn]at p3 hl⊢;have HMS:Hid (∀W,(Instr.makeSlice 23 (.int .i64 n) (.int .i64 n)).run prog W=.ok (.slice (some ⟨W.heap.size,0,none⟩) n n) (W.alloc (.cells (Jx n 0 0).toArray 3))):=λW=>yo0 W n (by omega);obtain⟨lw,elw⟩:∃lw:Nat,Fl.low p=(lw:Int):=⟨(Fl.low p).toNat,by have:=h.lv.low;omega⟩
 have HL:Hid (∀V,Below w.heap.size w V->Calls prog 108 #[.pointer (some ⟨Lb,0,none⟩)] V λe w'=>e=.returned (.int .i64 lw)/\w'=V):=λV hV=>by
  have h5:=zu3 (h.below hV).la;have e5:((Fl.bottom p.n p.leq:Nat):Int)=(lw:Int):=elw;rw[e5]at h5;exact h5
 have HP:Hid (∀V,Below w.heap.size w V->V.cell? ⟨Pb,0,none⟩=some (.pointer (some ⟨Lb,0,none⟩))):=λV hV=>(h.below hV).p0;rw[elw];obtain⟨nb,hnb⟩:∃nb,nb=w.heap.size:=⟨_,rfl⟩;have hP:=h.hz.1;clear h hn elw
 go_enter func63,ntmps63
 go_wp2_with fail
 rw[HMS.out];obtain⟨W0,hW0⟩:∃W0,W0=w.alloc (.cells (Jx n 0 0).toArray 3):=⟨_,rfl⟩
 have HB0:Hid (Below w.heap.size w W0):=by show Below _ _ _;rw[hW0];exact bA
 have HR0:Hid (W0.heap[nb]?=some (.cells (Jx n 0 lw).toArray 3 (0,0))):=by
  show _=_;rw[hW0,hnb];exact heap_alloc_last w _
 have HNB:Hid (nb=w.heap.size):=hnb;rw[<-hW0,<-hnb];clear hW0 hnb
 go_wp2_with fail
 go_loopw [12] (λi wr=>∃k:Nat,k<=n/\i=.int .i64 k/\wr.heap[nb]?=some (.cells (Jx n k lw).toArray 3 (0,0))/\Below w.heap.size w wr) (λi _=>n - (intOf i).toNat)
 case atStart=>exact⟨0,by omega,rfl,HR0.out,HB0.out⟩
 case round=>
  obtain⟨k,hk,rfl,hrow,hbel⟩:=hrel
  by_cases hlt:k<n
  ·have hltI:(k:Int)<(n:Int):=by omega
   have HR1:Hid ((wr.setCell ⟨nb,k,none⟩ (.int .i64 lw)).heap[nb]?=some (.cells (Jx n (k+1) lw).toArray 3 (0,0))):=by
    have h5:=zs8 hrow k (.int .i64 lw);rw[ypv n k lw hlt]at h5;exact h5
   have HB1:Hid (Below w.heap.size w (wr.setCell ⟨nb,k,none⟩ (.int .i64 lw))):=hbel.setCell (by show w.heap.size<=nb;rw[HNB.out];exact Nat.le_refl _) _;have c0:wr.cell? ⟨nb,k,none⟩=some (.int .i64 0):=(by simp only[World.cell?,hrow];exact yl7 n k lw hlt);have f0:wr.frozen? ⟨nb,k,none⟩=false:=(by simp[World.frozen?,hrow]);have p0:=HP.out _ hbel;have HBE:Hid (Below w.heap.size w wr):=hbel;have HLT:Hid (k<n):=hlt;clear hrow hbel hlt
   go_wp2_with fail
   refine(HL.out _ HBE.out).mono ?_;rintro e W1 ⟨rfl,rfl⟩;go_wp2
   go_roundw
   case rel=>exact⟨k+1,by have:=HLT.out;omega,by go_num,HR1.out,HB1.out⟩
   case measure=>simp[intOf];omega
  ·have hke:k=n:=by omega
   subst hke;have HI:Hid (Zy wr.heap.size wr (.slice (some ⟨nb,0,none⟩) k k) (List.replicate k (lw:Int))):=by
    refine⟨_,k,by rw[List.length_replicate],by simp,by simp[maxLen];omega,λ_=>⟨nb,0,rfl,?_,λi hi=>?_⟩⟩
    ·rcases Nat.lt_or_ge nb wr.heap.size with h|h
     ·exact h
     ·rw[Array.getElem?_eq_none h]at hrow;cases hrow
    ·rw[List.length_replicate]at hi
     simp only[World.cell?,hrow,Jx,Nat.sub_self,Nat.zero_add];simp[List.getElem?_replicate,List.getD_eq_getElem?_getD,hi]
   have HBE:Hid (Below w.heap.size w wr):=hbel;clear hrow hbel;go_wp2;go_ret;exact⟨_,rfl,HI.out,HBE.out⟩
end
def zp1(k:Nat):Int:=if k<=2 then 0 else if k<=6 then 1 else 2
def ziw(k:Nat):FuncId:=if k=0 then 115 else if k=1 then 116 else if k=2 then 117 else if k=3 then 118 else if k=4 then 119 else if k=5 then 120 else if k=6 then 121 else 122
structure Yh(w:World)(Cb Pb Lb Rl:Nat)(vv nv hv:Value)(p:Fl.Prog)(vs:List Int)(x:List Fl.Node):Prop where
 hz:Cb<w.heap.size/\Pb<w.heap.size/\Lb<w.heap.size/\Rl<w.heap.size
 c0:w.cell? ⟨Cb,0,none⟩=some (.pointer (some ⟨Pb,0,none⟩))
 c1:w.cell? ⟨Cb,1,none⟩=some vv
 c2:w.cell? ⟨Cb,2,none⟩=some nv
 c3:w.cell? ⟨Cb,3,none⟩=some (.slice (some ⟨Rl,0,none⟩) 8 8)
 p0:w.cell? ⟨Pb,0,none⟩=some (.pointer (some ⟨Lb,0,none⟩))
 p2:w.cell? ⟨Pb,2,none⟩=some hv
 la:Vn w Lb p.n p.leq
 vi:Zy w.heap.size w vv vs
 hi:Zy w.heap.size w hv (p.chans.map λ(y:Nat)=>(y:Int))
 no:Zm w.heap.size w nv x
 ru:∀k,k<8->w.cell? ⟨Rl,k*2,none⟩=some (.int .i64 (zp1 k))/\w.cell? ⟨Rl,k*2+1,none⟩=some (.func (.func (ziw k)) #[] #[])
 n6:p.n<=6
def Yh.below{w w':World}{Cb Pb Lb Rl:Nat}{vv nv hv:Value}{p:Fl.Prog}{vs:List Int}{x:List Fl.Node}(h:Yh w Cb Pb Lb Rl vv nv hv p vs x)(hb:Below w.heap.size w w'):Yh w' Cb Pb Lb Rl vv nv hv p vs x:=by
 obtain⟨z1,z2,z3,z4⟩:=h.hz;have hz:=hb.size;have q:∀b i,b<w.heap.size->w'.cell? ⟨b,i,none⟩=w.cell? ⟨b,i,none⟩:=λb i a0=>hb.cell (p:=⟨b,i,none⟩) a0;exact{hz:=⟨by omega,by omega,by omega,by omega⟩,c0:=(q _ _ z1).trans h.c0,c1:=(q _ _ z1).trans h.c1,c2:=(q _ _ z1).trans h.c2,c3:=(q _ _ z1).trans h.c3,p0:=(q _ _ z2).trans h.p0,p2:=(q _ _ z2).trans h.p2,la:=h.la.block (hb.block _ z3),vi:=(h.vi.below hb).mono hz,hi:=(h.hi.below hb).mono hz,no:=(h.no.below hb).mono hz,ru:=λk hk=>⟨(q _ _ z4).trans (h.ru k hk).1,(q _ _ z4).trans (h.ru k hk).2⟩,n6:=h.n6}
section
variable{w:World}{Lb n:Nat}{t:Fl.Tab}
def yu6(h:Vn w Lb n t)(v:Int):Calls prog 114 #[.pointer (some ⟨Lb,0,none⟩),.int .i64 v] w λe w'=>e=.returned (.bool (decide (0<=v/\v<n)))/\w'=w:=by
 have c0:=h.c0;clear h
 by_cases h1:0<=v
 ·by_cases h2:v<n
  ·have e:decide (0<=v/\v<n)=true:=decide_eq_true ⟨h1,h2⟩
   rw[e];clear e
   go_enter func114,ntmps114
   go_wp2;go_ret;exact⟨rfl,rfl⟩
  have e:decide (0<=v/\v<n)=false:=decide_eq_false (λh=>h2 h.2);rw[e];clear e
  go_enter func114,ntmps114
  go_wp2;go_ret;exact⟨rfl,rfl⟩
 have e:decide (0<=v/\v<n)=false:=decide_eq_false (λh=>h1 h.1);rw[e];clear e
 go_enter func114,ntmps114
 go_wp2;go_ret;exact⟨rfl,rfl⟩
def yo1(h:Vn w Lb n t)(hn:n<=6)(a b:Nat)(ha:a<n)(hb:b<n):Calls prog 156 #[.pointer (some ⟨Lb,0,none⟩),.int .i64 a,.int .i64 b] w λe w'=>e=.returned (.bool (t a b))/\w'=w:=by
 have c:=h.cu a b ha hb
 have a0:(a:Int)<6:=by omega
 have b0:(b:Int)<6:=by omega
 have e:1+6*a+b=1+a*6+b:=by omega
 rw[e]at c;clear h e
 go_enter func156,ntmps156
 go_wp2;go_ret;exact⟨rfl,rfl⟩
end
def yu7(r ro:Nat):decide (r=ro)=(((r:Nat):Int)==(ro:Int)):=by
 by_cases h:r=ro
 ·subst h;simp
 rw[decide_eq_false h];symm;rw[Qh];omega
def yl8(k:Nat):zp1 k=((Fl.role (k:Int):Nat):Int):=by
 unfold zp1 Fl.role
 by_cases h1:k<=2
 ·rw[if_pos h1,if_pos (by omega)];rfl
 by_cases h2:k<=6
 ·rw[if_neg h1,if_pos h2,if_neg (by omega),if_pos (by omega)];rfl
 rw[if_neg h1,if_neg h2,if_neg (by omega),if_neg (by omega)];rfl
section
variable{w:World}{Cb Pb Lb Rl:Nat}{vv nv hv:Value}{p:Fl.Prog}{vs:List Int}{x:List Fl.Node}
def Yh.node(h:Yh w Cb Pb Lb Rl vv nv hv p vs x)(k:Nat)(hk:k<x.length):∃b off cap,nv=.slice (some ⟨b,off,none⟩) x.length cap/\b<w.heap.size/\w.cell? ⟨b,off+k*6,none⟩=some (.int .i64 (Fl.nth x k).kind)/\w.cell? ⟨b,off+k*6+1,none⟩=some (.int .i64 (Fl.nth x k).level):=by
 obtain⟨ao,cap,e,-,-,h4⟩:=h.no;obtain⟨b,off,e2,hb,hc⟩:=h4 (by rintro rfl;simp at hk);obtain⟨lv,-,h5,h6,-⟩:=hc k hk;exact⟨b,off,cap,by rw[e,e2],hb,h5,h6⟩
def yty(h:Yh w Cb Pb Lb Rl vv nv hv p vs x)(k:Nat)(hk:k<x.length):Calls prog 161 #[.pointer (some ⟨Cb,0,none⟩),.int .i64 k] w λe w'=>e=.returned (.int .i64 (Fl.nth x k).level)/\w'=w:=by
 obtain⟨b,off,cap,rfl,-,-,c1⟩:=h.node k hk;have c2:=h.c2
 have a0:(k:Int)<(x.length:Int):=by omega
 clear h
 go_enter func161,ntmps161
 go_wp2;go_ret;exact⟨rfl,rfl⟩
def is_any(h:Yh w Cb Pb Lb Rl vv nv hv p vs x)(ro:Nat)(k:Nat)(hk:k<x.length)(e0:0<=(Fl.nth x k).kind/\(Fl.nth x k).kind<=7):Calls prog 160 #[.pointer (some ⟨Cb,0,none⟩),.int .i64 ro,.int .i64 k] w λe w'=>e=.returned (.bool (decide (Fl.role (Fl.nth x k).kind=ro)))/\w'=w.drew:=by
 obtain⟨b,off,cap,rfl,-,c0,-⟩:=h.node k hk;have c2:w.drew.cell? ⟨Cb,2,none⟩=some (.slice (some ⟨b,off,none⟩) x.length cap):=h.c2;have c3:w.drew.cell? ⟨Cb,3,none⟩=some (.slice (some ⟨Rl,0,none⟩) 8 8):=h.c3;obtain⟨kd,a0⟩:∃kd:Nat,(kd:Int)=(Fl.nth x k).kind:=⟨(Fl.nth x k).kind.toNat,by omega⟩
 have f0:kd<8:=by omega
 have cr:w.drew.cell? ⟨Rl,kd*2,none⟩=some (.int .i64 (zp1 kd)):=(h.ru kd f0).1
 have c0':w.drew.cell? ⟨b,off+k*6,none⟩=some (.int .i64 (kd:Int)):=by rw[a0];exact c0
 have h0:(k:Int)<(x.length:Int):=by omega
 have g0:(kd:Int)<8:=by omega
 have HR:Hid (decide (Fl.role (Fl.nth x k).kind=ro)=(zp1 kd==(ro:Int))):=by
  show _=_;rw[<-a0];rw[yl8];exact yu7 _ _
 obtain⟨rl,d0⟩:=nmE (zp1 kd);rw[<-d0]at cr HR;obtain⟨res,b0⟩:=nmE (decide (Fl.role (Fl.nth x k).kind=ro));rw[<-b0]at HR⊢;clear h e0 a0 c0 d0 b0
 go_enter func160,ntmps160
 go_wp2_with fail
 refine Uu (λW=>W.cell? ⟨Cb,2,none⟩=some (.slice (some ⟨b,off,none⟩) x.length cap)/\W.cell? ⟨Cb,3,none⟩=some (.slice (some ⟨Rl,0,none⟩) 8 8)/\W.cell? ⟨Rl,kd*2,none⟩=some (.int .i64 rl)/\W.cell? ⟨b,off+k*6,none⟩=some (.int .i64 (kd:Int))) [] [] [] ⟨c2,c3,cr,c0'⟩ (by kernel_rfl) (λc a d v w h=>by cases d<;>exact h) (λops hG=>?_);clear hG c2 c3 cr c0'
 iterate 18 refine Zx rfl (by rintro _ ⟨_,_,_,_⟩;go_simp<;>rfl) (by go_simp<;>rfl) ?_
 refine Zs ?_;go_wp2;go_ret;exact⟨cbE HR.out,rfl⟩
def znx(h:Yh w Cb Pb Lb Rl vv nv hv p vs x)(top:Nat)(ht:top<p.n)(v:Value)(ls:List Int)(hl:Zy w.heap.size w v ls)(n0:ls.length<=100)(hr:∀y∈ls,0<=y/\y<p.n):Calls prog 159 #[.pointer (some ⟨Cb,0,none⟩),.int .i64 top,v] w λe w'=>e=.returned (.bool (ls.all λy=>Fl.under p y top))/\w'=w:=by
 obtain⟨ao,cap,rfl,hc,-,a0⟩:=hl;have c0:=h.c0;have p0:=h.p0;have j0:Hid (∀(a:Nat),a<p.n->Calls prog 156 #[.pointer (some ⟨Lb,0,none⟩),.int .i64 a,.int .i64 top] w λe w'=>e=.returned (.bool (p.leq a top))/\w'=w):=λa ha=>yo1 h.la h.n6 a top ha ht
 have k0:Hid (∀i,(hi:i<ls.length)->∃b off,ao=some ⟨b,off,none⟩/\∃y:Nat,(y:Int)=ls[i]/\y<p.n/\w.cell? ⟨b,off+i,none⟩=some (.int .i64 (y:Int))):=λi hi=>by
  obtain⟨b,off,e,-,hc⟩:=a0 (by rintro rfl;simp at hi);have h1:=hr ls[i] (List.getElem_mem hi);refine⟨b,off,e,ls[i].toNat,by omega,by omega,?_⟩;rw[hc i hi,Qa,Qb hi];simp only[Option.getD_some];rw[show ((ls[i].toNat:Nat):Int)=ls[i] by omega]
 have o0:(ls.length:Int)<=100:=by omega
 have q0:(ls.length:Int)<=(cap:Int):=by omega
 clear h a0 hr
 go_enter func159,ntmps159
 go_wp2_with fail
 go_loopw [11] (λi wr=>wr=w/\∃k:Nat,k<=ls.length/\i=.int .i64 k/\(ls.take k).all (λy=>Fl.under p y top)=true) (λi _=>ls.length - (intOf i).toNat)
 case atStart=>exact⟨rfl,0,Nat.zero_le _,rfl,rfl⟩
 case round=>
  obtain⟨h0,k,hk,rfl,hall⟩:=hrel;have b0:=Zz hall;rw[h0];clear h0 hall wr
  by_cases f0:k<ls.length
  ·have l0:(k:Int)<(ls.length:Int):=by omega
   obtain⟨b,off,rfl,y,hy,m0,cy⟩:=k0.out k f0;obtain⟨yk,g0⟩:=nmE (ls[k]);have d0:Hid (yk∈ls/\ls.take (k+1)=ls.take k++[yk]):=(by rw[g0];exact⟨List.getElem_mem f0,List.take_succ_eq_append_getElem f0⟩);have HU:Hid (Fl.under p yk top=p.leq y top):=(by show _=_;unfold Fl.under;rw[g0,<-hy];simp);have e0:Hid (Calls prog 156 #[.pointer (some ⟨Lb,0,none⟩),.int .i64 y,.int .i64 top] w λe w'=>e=.returned (.bool (p.leq y top))/\w'=w):=j0.out y m0;generalize p.leq y top=bb at*;clear hy g0
   go_wp2_with fail
   refine e0.out.mono ?_;rintro e w1 ⟨rfl,i0⟩;rw[i0];clear i0 w1
   cases bb with
   |false=>
    have HE:Hid ((ls.all λy=>Fl.under p y top)=false):=by
     show _=_;rw[List.all_eq_false];exact⟨yk,d0.out.1,by rw[HU.out];simp⟩
    go_wp2;go_ret;exact⟨cbE HE.out,rfl⟩
   |true=>
    have HN:Hid ((ls.take (k+1)).all (λy=>Fl.under p y top)=true):=by
     show _=_;rw[d0.out.2,List.all_append,b0.out,List.all_cons,HU.out];rfl
    go_wp2
    go_roundw
    case rel=>exact⟨by first|rfl|trivial,k+1,by omega,by go_num,HN.out⟩
    case measure=>simp[intOf];omega
  have l0:¬(k:Int)<(ls.length:Int):=(by omega);have HE:Hid ((ls.all λy=>Fl.under p y top)=true):=by
   show _=_;have h1:=b0.out;rw[List.take_of_length_le (by omega)]at h1;exact h1
  go_wp2;go_ret;exact⟨cbE HE.out,rfl⟩
end
section
variable{P:Program}{ops:Array Oper}{Q:Exit->Act->World->Prop}{S:World->Prop}
def Zr{o:Oper}{l:List (Nat×Oper)}{a:Act}{w:World}{j:Nat}{b c:Bool}(hg:o.guard=some (j,b))(hy:yielded ops a.tmps j=some c)(a0:(some c==some b)=false)(hS:S w)
  (h:Yn P ops S Q l (a.put o.dst undef) w):Yn P ops S Q ((1,o)::l) a w:=wpList_skip (by simpa [Region.wanted,hg,hy] using a0) ⟨hS,h⟩
def yz8{o:Oper}{l:List (Nat×Oper)}{a:Act}{w:World}{j:Nat}{b:Bool}(hg:o.guard=some (j,b))(hy:yielded ops a.tmps j=none)(hS:S w)
  (h:Yn P ops S Q l (a.put o.dst undef) w):Yn P ops S Q ((1,o)::l) a w:=wpList_skip (by simp[Region.wanted,hg,hy]) ⟨hS,h⟩
def Zi{l:List (Nat×Oper)}{a:Act}{w:World}{dst:Option Tmp}{op:Op}{ty:TypeId}{pos:String}{after:Array Edge}{guard:Option (Nat×Bool)}
  (hw:Region.wanted {dst:=dst,op:=op,type:=ty,pos:=pos,after:=after,guard:=guard} (yielded ops a.tmps)=true) (h:wpList P ops (Exit.then (λa1 w1=>S w1/\Yn P ops S Q l a1 w1) Q) [{dst:=dst,op:=op,type:=ty,pos:=pos,after:=after,guard:=none}] a w):
  Yn P ops S Q ((1,{dst:=dst,op:=op,type:=ty,pos:=pos,after:=after,guard:=guard})::l) a w:=Xy hw h
end
structure zy7(w:World)(nb no:Nat)(n:Fl.Node)(lv:Value):Prop where
 hz:nb<w.heap.size
 c0:w.cell? ⟨nb,no,none⟩=some (.int .i64 n.kind)
 c1:w.cell? ⟨nb,no+1,none⟩=some (.int .i64 n.level)
 c2:w.cell? ⟨nb,no+2,none⟩=some (.int .i64 n.a)
 c3:w.cell? ⟨nb,no+3,none⟩=some (.int .i64 n.b)
 c4:w.cell? ⟨nb,no+4,none⟩=some (.int .i64 n.c)
 c5:w.cell? ⟨nb,no+5,none⟩=some lv
 li:Zy w.heap.size w lv n.list
def zy7.below{w w':World}{nb no:Nat}{n:Fl.Node}{lv:Value}(h:zy7 w nb no n lv)(hb:Below w.heap.size w w'):zy7 w' nb no n lv:=
 have q:∀i,w'.cell? ⟨nb,i,none⟩=w.cell? ⟨nb,i,none⟩:=λi=>hb.cell (p:=⟨nb,i,none⟩) h.hz
 ⟨Nat.lt_of_lt_of_le h.hz hb.size,(q _).trans h.c0,(q _).trans h.c1,(q _).trans h.c2,(q _).trans h.c3,(q _).trans h.c4,(q _).trans h.c5,(h.li.below hb).mono hb.size⟩
def POk(p:Fl.Prog)(x:List Fl.Node)(j:Int):Prop:=0<=j/\j.toNat<x.length/\0<=(Fl.nd x j).level/\(Fl.nd x j).level<p.n/\0<=(Fl.nd x j).kind/\(Fl.nd x j).kind<=7
def zk6(W:World)(y:Int):Zy (W.alloc (.cells #[.int .i64 y] 3)).heap.size (W.alloc (.cells #[.int .i64 y] 3)) (.slice (some ⟨W.heap.size,0,none⟩) 1 1) [y]:=
 ⟨_,1,rfl,by simp,by simp[maxLen],λ_=>⟨W.heap.size,0,rfl,by simp,λi hi=>by
  have:i=0:=by simpa using hi
  subst this;simp⟩⟩
def zk7(W:World)(y z:Int):Zy (W.alloc (.cells #[.int .i64 y,.int .i64 z] 3)).heap.size (W.alloc (.cells #[.int .i64 y,.int .i64 z] 3)) (.slice (some ⟨W.heap.size,0,none⟩) 2 2) [y,z]:=
 ⟨_,2,rfl,by simp,by simp[maxLen],λ_=>⟨W.heap.size,0,rfl,by simp,λi hi=>by
  have:i<2:=hi
  match i,this with
  |0,_=>simp
  |1,_=>simp⟩⟩
section
variable{w:World}{Cb Pb Lb Rl nb no:Nat}{vv nv hv lv:Value}{p:Fl.Prog}{vs:List Int}{x:List Fl.Node}{n:Fl.Node}
def zf3(h:Yh w Cb Pb Lb Rl vv nv hv p vs x)(hn:zy7 w nb no n lv)(ha:0<=n.a)(hl:0<=n.level/\n.level<p.n)(e0:∀y∈vs,0<=y/\y<p.n)(p0:vs.length<=100):
  Calls prog 116 #[.pointer (some ⟨Cb,0,none⟩),.pointer (some ⟨nb,no,none⟩)] w λe w'=>e=.returned (.bool (decide (n.a<vs.length) && Fl.under p (vs.getD n.a.toNat 0) n.level))/\Below w.heap.size w w':=by
 obtain⟨lvl,b0⟩:∃lvl:Nat,(lvl:Int)=n.level:=⟨n.level.toNat,by omega⟩;obtain⟨an,f0⟩:∃an:Nat,(an:Int)=n.a:=⟨n.a.toNat,by omega⟩;have n0:=h.hz.1;have j0:=hn.hz;obtain⟨ao,cap,g0,hc,-,a0⟩:=h.vi;have c1:=h.c1;rw[g0]at c1;have n1:=hn.c1;have n2:=hn.c2;rw[<-b0]at n1;rw[<-f0]at n2
 have o0:(vs.length:Int)<=100:=by omega
 by_cases d0:an<vs.length
 ·obtain⟨b,off,rfl,hbz,k0⟩:=a0 (by rintro rfl;simp at d0)
  have cy:=k0 an d0;obtain⟨y,hy⟩:=nmE (vs.getD an 0);have l0:0<=y/\y<p.n:=by
   have h1:=e0 vs[an] (List.getElem_mem d0);rw[hy,Qa,Qb d0];exact h1
  rw[<-hy]at cy;have h0:(an:Int)<(vs.length:Int):=(by omega);have HS:Hid (∀W,Below w.heap.size w W->W.cell? ⟨nb,no+2,none⟩=some (.int .i64 (an:Nat))/\W.cell? ⟨Cb,1,none⟩=some (.slice (some ⟨b,off,none⟩) vs.length cap)/\W.cell? ⟨nb,no+1,none⟩=some (.int .i64 (lvl:Nat))/\W.cell? ⟨b,off+an,none⟩=some (.int .i64 y)):=λW hW=>⟨(hW.cell (p:=⟨nb,no+2,none⟩) j0).trans n2,(hW.cell (p:=⟨Cb,1,none⟩) n0).trans c1,(hW.cell (p:=⟨nb,no+1,none⟩) j0).trans n1,(hW.cell (p:=⟨b,off+an,none⟩) hbz).trans cy⟩;have HB:Hid (Below w.heap.size w (w.alloc (.cells #[.int .i64 y] 3)).drew):=(bA).drew;have HU:Hid (Calls prog 159 #[.pointer (some ⟨Cb,0,none⟩),.int .i64 (lvl:Nat),.slice (some ⟨w.heap.size,0,none⟩) 1 1] (w.alloc (.cells #[.int .i64 y] 3)).drew λe w'=>e=.returned (.bool (Fl.under p y n.level))/\w'=(w.alloc (.cells #[.int .i64 y] 3)).drew):=by
   have h1:=znx (h.below HB.out) lvl (by omega) (.slice (some ⟨w.heap.size,0,none⟩) 1 1) [y] (zk6 w y) (by simp) (by intro z hz;simp at hz;subst hz;exact l0);show Calls _ _ _ _ _;rw[<-b0];simpa using h1
  have c0:Hid ((decide (n.a<vs.length) && Fl.under p (vs.getD n.a.toNat 0) n.level)=Fl.under p y n.level):=by
   show _=_;rw[decide_eq_true (show n.a<vs.length by omega),Bool.true_and,hy,show n.a.toNat=an by omega]
  generalize Fl.under p y n.level=res at*;clear h hn a0 k0 e0 hy l0 b0 f0 c1 n1 n2 cy g0
  go_enter func116,ntmps116
  go_wp2_with fail
  refine Zv HS ((Below.refl _ _).drew) [26,27] [] [(10,15)] (by kernel_rfl) (λc a d v w h=>by cases d<;>exact h) (λops ⟨g1,_⟩=>?_)
  iterate 26 refine Zx (by first|rfl|simp[Region.wanted,yielded,g1,Act.put]) (by rintro _ ⟨_,_,_,_⟩;go_simp<;>rfl) (by go_simp<;>rfl) ?_
  refine Zi (by simp[Region.wanted,yielded,g1,Act.put]) ?_
  go_wp2_with fail
  refine⟨HS.out _ HB.out,?_⟩;refine Zi (by simp[Region.wanted,yielded,g1,Act.put]) ?_
  go_wp2_with fail
  refine HU.out.mono ?_;rintro e W1 ⟨rfl,m0⟩;rw[m0];clear m0 W1
  go_wp2_with fail
  refine⟨HS.out _ HB.out,?_⟩
  iterate 2 refine Zx rfl (by rintro _ ⟨_,_,_,_⟩;go_simp<;>rfl) (by go_simp<;>rfl) ?_
  refine Zs ?_;go_wp2;go_ret;exact⟨cbE c0.out,HB.out⟩
 have h0:¬(an:Int)<(vs.length:Int):=by omega
 have i0:Hid (w.drew.cell? ⟨nb,no+2,none⟩=some (.int .i64 (an:Nat))/\w.drew.cell? ⟨Cb,1,none⟩=some (.slice ao vs.length cap)/\w.drew.cell? ⟨nb,no+1,none⟩=some (.int .i64 (lvl:Nat))/\True):=⟨n2,c1,n1,trivial⟩;have c0:Hid ((decide (n.a<vs.length) && Fl.under p (vs.getD n.a.toNat 0) n.level)=false):=by
  show _=_;rw[decide_eq_false (show ¬n.a<vs.length by omega),Bool.false_and]
 clear h hn a0 e0 b0 f0 c1 n1 n2 g0
 go_enter func116,ntmps116
 go_wp2_with fail
 refine Uu (λW=>W.cell? ⟨nb,no+2,none⟩=some (.int .i64 (an:Nat))/\W.cell? ⟨Cb,1,none⟩=some (.slice ao vs.length cap)/\W.cell? ⟨nb,no+1,none⟩=some (.int .i64 (lvl:Nat))/\True) [26,27] [] [(10,15)] i0.out (by kernel_rfl) (λc a d v w h=>by cases d<;>exact h) (λops ⟨g1,_⟩=>?_)
 iterate 11 refine Zx rfl (by rintro _ ⟨_,_,_,_⟩;go_simp<;>rfl) (by go_simp<;>rfl) ?_
 iterate 15
  refine Yw rfl (c:=false) (by simp[yielded,g1,Act.put]) (by decide) ?_
 refine Zr rfl (c:=false) (by simp[yielded,g1,Act.put]) (by decide) i0.out ?_;refine Zr rfl (c:=false) (by simp[yielded,g1,Act.put]) (by decide) i0.out ?_
 iterate 2 refine Zx rfl (by rintro _ ⟨_,_,_,_⟩;go_simp<;>rfl) (by go_simp<;>rfl) ?_
 refine Zs ?_;go_wp2;go_ret;exact⟨cbE c0.out,(Below.refl _ _).drew⟩
end
section
variable{w:World}{Cb Pb Lb Rl nb no:Nat}{vv nv hv lv:Value}{p:Fl.Prog}{vs:List Int}{x:List Fl.Node}{n:Fl.Node}
def zl2(h:Yh w Cb Pb Lb Rl vv nv hv p vs x)(ro:Nat)(j:Int)(hj:POk p x j)(jn:Nat)(a0:(jn:Int)=j):Calls prog 160 #[.pointer (some ⟨Cb,0,none⟩),.int .i64 ro,.int .i64 jn] w λe w'=>e=.returned (.bool (decide (Fl.role (Fl.nd x j).kind=ro)))/\w'=w.drew:=by
 have e:jn=j.toNat:=by omega
 subst e;exact is_any h ro j.toNat hj.2.1 ⟨hj.2.2.2.2.1,hj.2.2.2.2.2⟩
def zw3(h:Yh w Cb Pb Lb Rl vv nv hv p vs x)(j:Int)(hj:POk p x j)(jn:Nat)(a0:(jn:Int)=j):Calls prog 161 #[.pointer (some ⟨Cb,0,none⟩),.int .i64 jn] w λe w'=>e=.returned (.int .i64 (Fl.nd x j).level)/\w'=w:=by
 have e:jn=j.toNat:=by omega
 subst e;exact yty h j.toNat hj.2.1
def znw(h:Yh w Cb Pb Lb Rl vv nv hv p vs x)(top:Int)(ht:0<=top/\top<p.n)(y z:Int)(hy:0<=y/\y<p.n)(hz:0<=z/\z<p.n)(v:Value)(a0:Zy w.heap.size w v [y,z]):Calls prog 159 #[.pointer (some ⟨Cb,0,none⟩),.int .i64 top,v] w λe w'=>e=.returned (.bool (Fl.under p y top && Fl.under p z top))/\w'=w:=by
 obtain⟨tn,b0⟩:∃tn:Nat,(tn:Int)=top:=⟨top.toNat,by omega⟩;have h1:=znx h tn (by omega) v [y,z] a0 (by simp) (by intro u hu;simp at hu;rcases hu with rfl|rfl;exact hy;exact hz);rw[b0]at h1;simpa using h1
def zd1(h:Yh w Cb Pb Lb Rl vv nv hv p vs x)(hn:zy7 w nb no n lv)(ha:0<=n.a)(hb:POk p x n.b)(hl:0<=n.level/\n.level<p.n)(lvv:Value)(ls:List Int)(n0:Zy w.heap.size w lvv ls)(h0:∀y∈ls,0<=y/\y<p.n)(q0:ls.length<=100):
  Calls prog 162 #[.pointer (some ⟨Cb,0,none⟩),.pointer (some ⟨nb,no,none⟩),lvv] w λe w'=>e=.returned (.bool (Fl.mayGo p x n ls))/\Below w.heap.size w w':=by
 obtain⟨an,i0⟩:∃an:Nat,(an:Int)=n.a:=⟨n.a.toNat,by omega⟩;obtain⟨bn,f0⟩:∃bn:Nat,(bn:Int)=n.b:=⟨n.b.toNat,by have:=hb.1;omega⟩;have e0:=hn.hz;obtain⟨ao,cap,rfl,hc,-,b0⟩:=n0;have n1:=hn.c1;have n2:=hn.c2;have n3:=hn.c3;rw[<-i0]at n2;rw[<-f0]at n3
 have o0:(ls.length:Int)<=100:=by omega
 have k0:Hid (∀W,Below w.heap.size w W->Calls prog 160 #[.pointer (some ⟨Cb,0,none⟩),.int .i64 0,.int .i64 bn] W λe w'=>e=.returned (.bool (decide (Fl.role (Fl.nd x n.b).kind=0)))/\w'=W.drew):=λW hW=>zl2 (h.below hW) 0 n.b hb bn f0;have p0:Hid (∀W,Below w.heap.size w W->Calls prog 161 #[.pointer (some ⟨Cb,0,none⟩),.int .i64 bn] W λe w'=>e=.returned (.int .i64 (Fl.nd x n.b).level)/\w'=W):=λW hW=>zw3 (h.below hW) n.b hb bn f0
 by_cases g0:an<ls.length
 ·obtain⟨b,off,rfl,hbz,l0⟩:=b0 (by rintro rfl;simp at g0)
  have cy:=l0 an g0;obtain⟨y,hy⟩:=nmE (ls.getD an 0);have m0:0<=y/\y<p.n:=by
   have h1:=h0 ls[an] (List.getElem_mem g0);rw[hy,Qa,Qb g0];exact h1
  rw[<-hy]at cy;have j0:(an:Int)<(ls.length:Int):=(by omega);have HS:Hid (∀W,Below w.heap.size w W->W.cell? ⟨nb,no+1,none⟩=some (.int .i64 n.level)/\W.cell? ⟨nb,no+2,none⟩=some (.int .i64 (an:Nat))/\W.cell? ⟨nb,no+3,none⟩=some (.int .i64 (bn:Nat))/\W.cell? ⟨b,off+an,none⟩=some (.int .i64 y)/\True):=λW hW=>⟨(hW.cell (p:=⟨nb,no+1,none⟩) e0).trans n1,(hW.cell (p:=⟨nb,no+2,none⟩) e0).trans n2,(hW.cell (p:=⟨nb,no+3,none⟩) e0).trans n3,(hW.cell (p:=⟨b,off+an,none⟩) hbz).trans cy,trivial⟩;have HU:Hid (∀W v,Below w.heap.size w W->Zy W.heap.size W v [(Fl.nd x n.b).level,n.level]->Calls prog 159 #[.pointer (some ⟨Cb,0,none⟩),.int .i64 y,v] W λe w'=>e=.returned (.bool (Fl.under p (Fl.nd x n.b).level y && Fl.under p n.level y))/\w'=W):=λW v hW hv2=>znw (h.below hW) y m0 _ _ ⟨hb.2.2.1,hb.2.2.2.1⟩ hl v hv2;have a0:Hid (Fl.mayGo p x n ls=(decide (Fl.role (Fl.nd x n.b).kind=0) && (Fl.under p (Fl.nd x n.b).level y && Fl.under p n.level y))):=by
   show _=_;unfold Fl.mayGo;rw[decide_eq_true (show n.a<ls.length by omega),Bool.true_and,hy,show n.a.toNat=an by omega]
  generalize decide (Fl.role (Fl.nd x n.b).kind=0)=isv at*;generalize (Fl.under p (Fl.nd x n.b).level y && Fl.under p n.level y)=un at*;generalize (Fl.nd x n.b).level=lb at*;obtain⟨res,c0⟩:=nmE (Fl.mayGo p x n ls);rw[<-c0]at a0⊢;clear h hn b0 l0 h0 hy m0 i0 n1 n2 n3 cy hb f0 c0
  cases isv with
  |true=>
   go_enter func162,ntmps162
   go_wp2_with fail
   refine Yv HS ((Below.refl _ _).drew) [(0,0),(0,1),(0,2),(0,3),(0,4),(0,5),(0,6),(0,7),(0,8),(0,9),(0,10),(0,11),(0,12),(1,13),(0,14),(0,15),(0,16),(0,17),(0,18),(0,19),(0,20),(0,21),(0,22),(0,23),(0,24),(0,25),(0,26),(0,27),(0,28),(0,30),(0,31),(0,32),(0,33),(1,29),(1,34),(1,35),(0,36),(0,37)] [] [(7,14),(15,22)] (by kernel_rfl) (λc a d v w h=>by cases d<;>exact h) (λops ⟨g1,g2,_⟩=>?_)
   iterate 13 refine Zx (by first|rfl|simp[Region.wanted,yielded,g1,Act.put]) (by rintro _ ⟨_,_,_,_,_⟩;go_simp<;>rfl) (by go_simp<;>rfl) ?_
   refine Zi (by simp[Region.wanted,yielded,g1,Act.put]) ?_
   go_wp2_with fail
   refine(k0.out _ ((Below.refl _ _).drew)).mono ?_;rintro e W1 ⟨rfl,d0⟩;rw[d0];clear d0 W1
   go_wp2_with fail
   refine⟨HS.out _ ((Below.refl _ _).drew.drew),?_⟩
   iterate 19 refine Zx (by first|rfl|simp[Region.wanted,yielded,g2,Act.put]) (by rintro _ ⟨_,_,_,_,_⟩;go_simp<;>rfl) (by go_simp<;>rfl) ?_
   refine Zi (by simp[Region.wanted,yielded,g2,Act.put]) ?_
   go_wp2_with fail
   refine(p0.out _ ((Below.refl _ _).drew.drew)).mono ?_;rintro e W1 ⟨rfl,d0⟩;rw[d0];clear d0 W1
   go_wp2_with fail
   refine⟨HS.out _ ((Below.refl _ _).drew.drew),?_⟩;refine Zi (by simp[Region.wanted,yielded,g2,Act.put]) ?_
   go_wp2_with fail
   refine⟨HS.out _ ((bA).drew.drew),?_⟩;refine Zi (by simp[Region.wanted,yielded,g2,Act.put]) ?_
   go_wp2_with fail
   refine(HU.out _ _ ((bA).drew.drew) (zk7 w _ _)).mono ?_;rintro e W1 ⟨rfl,d0⟩;rw[d0];clear d0 W1
   go_wp2_with fail
   refine⟨HS.out _ ((bA).drew.drew),?_⟩
   iterate 2 refine Zx rfl (by rintro _ ⟨_,_,_,_,_⟩;go_simp<;>rfl) (by go_simp<;>rfl) ?_
   refine Zs ?_;go_wp2;go_ret;exact⟨cbE a0.out,(bA).drew.drew⟩
  |false=>
   go_enter func162,ntmps162
   go_wp2_with fail
   refine Yv HS ((Below.refl _ _).drew) [(0,0),(0,1),(0,2),(0,3),(0,4),(0,5),(0,6),(0,7),(0,8),(0,9),(0,10),(0,11),(0,12),(1,13),(0,14),(0,15),(0,16),(0,17),(0,18),(0,19),(0,20),(0,21),(0,22),(0,23),(0,24),(0,25),(0,26),(0,27),(0,28),(0,30),(0,31),(0,32),(0,33),(1,29),(1,34),(1,35),(0,36),(0,37)] [] [(7,14),(15,22)] (by kernel_rfl) (λc a d v w h=>by cases d<;>exact h) (λops ⟨g1,g2,_⟩=>?_)
   iterate 13 refine Zx (by first|rfl|simp[Region.wanted,yielded,g1,Act.put]) (by rintro _ ⟨_,_,_,_,_⟩;go_simp<;>rfl) (by go_simp<;>rfl) ?_
   refine Zi (by simp[Region.wanted,yielded,g1,Act.put]) ?_
   go_wp2_with fail
   refine(k0.out _ ((Below.refl _ _).drew)).mono ?_;rintro e W1 ⟨rfl,d0⟩;rw[d0];clear d0 W1
   go_wp2_with fail
   refine⟨HS.out _ ((Below.refl _ _).drew.drew),?_⟩
   iterate 2 refine Zx rfl (by rintro _ ⟨_,_,_,_,_⟩;go_simp<;>rfl) (by go_simp<;>rfl) ?_
   iterate 17
    refine Yw rfl (c:=false) (by simp[yielded,g2,Act.put]) (by decide) ?_
   refine Zr rfl (c:=false) (by simp[yielded,g2,Act.put]) (by decide) (HS.out _ (Below.refl _ _).drew.drew) ?_;refine Zr rfl (c:=false) (by simp[yielded,g2,Act.put]) (by decide) (HS.out _ (Below.refl _ _).drew.drew) ?_;refine Zr rfl (c:=false) (by simp[yielded,g2,Act.put]) (by decide) (HS.out _ (Below.refl _ _).drew.drew) ?_
   iterate 2 refine Zx rfl (by rintro _ ⟨_,_,_,_,_⟩;go_simp<;>rfl) (by go_simp<;>rfl) ?_
   refine Zs ?_;go_wp2;go_ret;exact⟨cbE a0.out,(Below.refl _ _).drew.drew⟩
 have j0:¬(an:Int)<(ls.length:Int):=by omega
 have HS:Hid (∀W,Below w.heap.size w W->W.cell? ⟨nb,no+1,none⟩=some (.int .i64 n.level)/\W.cell? ⟨nb,no+2,none⟩=some (.int .i64 (an:Nat))/\W.cell? ⟨nb,no+3,none⟩=some (.int .i64 (bn:Nat))/\True/\True):=λW hW=>⟨(hW.cell (p:=⟨nb,no+1,none⟩) e0).trans n1,(hW.cell (p:=⟨nb,no+2,none⟩) e0).trans n2,(hW.cell (p:=⟨nb,no+3,none⟩) e0).trans n3,trivial,trivial⟩;have a0:Hid (Fl.mayGo p x n ls=false):=by
  show _=_;unfold Fl.mayGo;rw[decide_eq_false (show ¬n.a<ls.length by omega),Bool.false_and]
 obtain⟨res,c0⟩:=nmE (Fl.mayGo p x n ls);rw[<-c0]at a0⊢;clear h hn b0 h0 i0 n1 n2 n3 hb f0 c0
 go_enter func162,ntmps162
 go_wp2_with fail
 refine Yv HS ((Below.refl _ _).drew) [(0,0),(0,1),(0,2),(0,3),(0,4),(0,5),(0,6),(0,7),(0,8),(0,9),(0,10),(0,11),(0,12),(1,13),(0,14),(0,15),(0,16),(0,17),(0,18),(0,19),(0,20),(0,21),(0,22),(0,23),(0,24),(0,25),(0,26),(0,27),(0,28),(0,30),(0,31),(0,32),(0,33),(1,29),(1,34),(1,35),(0,36),(0,37)] [] [(7,14),(15,22)] (by kernel_rfl) (λc a d v w h=>by cases d<;>exact h) (λops ⟨g1,g2,_⟩=>?_)
 iterate 8 refine Zx rfl (by rintro _ ⟨_,_,_,_,_⟩;go_simp<;>rfl) (by go_simp<;>rfl) ?_
 iterate 5
  refine Yw rfl (c:=false) (by simp[yielded,g1,Act.put]) (by decide) ?_
 refine Zr rfl (c:=false) (by simp[yielded,g1,Act.put]) (by decide) (HS.out _ (Below.refl _ _).drew) ?_
 iterate 2 refine Zx rfl (by rintro _ ⟨_,_,_,_,_⟩;go_simp<;>rfl) (by go_simp<;>rfl) ?_
 iterate 17
  refine Yw rfl (c:=false) (by simp[yielded,g2,Act.put]) (by decide) ?_
 refine Zr rfl (c:=false) (by simp[yielded,g2,Act.put]) (by decide) (HS.out _ (Below.refl _ _).drew) ?_;refine Zr rfl (c:=false) (by simp[yielded,g2,Act.put]) (by decide) (HS.out _ (Below.refl _ _).drew) ?_;refine Zr rfl (c:=false) (by simp[yielded,g2,Act.put]) (by decide) (HS.out _ (Below.refl _ _).drew) ?_
 iterate 2 refine Zx rfl (by rintro _ ⟨_,_,_,_,_⟩;go_simp<;>rfl) (by go_simp<;>rfl) ?_
 refine Zs ?_;go_wp2;go_ret;exact⟨cbE a0.out,(Below.refl _ _).drew⟩
end
end Go.Proofs.YtminjljgedopkaaGreatDoor
