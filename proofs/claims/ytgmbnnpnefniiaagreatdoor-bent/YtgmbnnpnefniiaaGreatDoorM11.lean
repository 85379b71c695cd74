import Derived.Test.YtgmbnnpnefniiaaGreatDoorM07
import Derived.Test.YtgmbnnpnefniiaaGreatDoorM10
set_option linter.all false
set_option maxRecDepth 100000
set_option maxHeartbeats 40000000
namespace Go.Proofs.YtgmbnnpnefniiaaGreatDoor
open Go.Proofs.Tryz List World Value Fl
variable{x n Jb q0 b P0 k q base B:Nat}{s:L}{ls st:Is}{z:Int}{w wr w' w1:World}{lv sv sv' nv' v v0 v1 v2 v3 v4 v5:Value}{acc:List ar}{lvs xs:Vs}{e:TypeId}{c:UInt8}
namespace Fl
def RS.Tb(r' r:RS):Prop:=r'.au=r.au/\r'.aE=r.aE/\r'.aI=r.aI
def RS.lU(r:RS)(s:aa):(r.put s).Tb r:=by
 unfold RS.put;split<;>exact⟨rfl,rfl,rfl⟩
def RS.mj(r:RS):r.bG.Tb r:=by
 unfold RS.bG;split<;>exact⟨rfl,rfl,rfl⟩
def RS.lT(r:RS):r.bF.Tb r:=by
 unfold RS.bF;split<;>exact⟨rfl,rfl,rfl⟩
def RS.kY(r:RS)(n:L){r':RS}(h:r.bu n=some (x,r')):r'.Tb r:=by
 unfold RS.bu at h
 split at h
 ·simp only[Ql,Prod.mk.injEq]at h;rw[<-h.2];exact⟨rfl,rfl,rfl⟩
 split at h
 ·simp only[Ql,Prod.mk.injEq]at h;rw[<-h.2];exact⟨rfl,rfl,rfl⟩
 split at h
 ·cases h
 simp only[Ql,Prod.mk.injEq]at h;rw[<-h.2];exact⟨rfl,rfl,rfl⟩
def RS.mh(r:RS)(a:Nat)(w:List L):(r.bh a w).2.Tb r:=by
 unfold RS.bh
 split
 ·split
  ·exact⟨rfl,rfl,rfl⟩
  split
  ·split
   ·exact r.lT
   exact⟨rfl,rfl,rfl⟩
  exact r.mj
 ·split
  ·exact⟨rfl,rfl,rfl⟩
  split
  ·exact⟨rfl,rfl,rfl⟩
  exact⟨rfl,rfl,rfl⟩
 ·split
  ·exact⟨rfl,rfl,rfl⟩
  split
  ·split
   ·exact⟨rfl,rfl,rfl⟩
   split
   ·exact⟨rfl,rfl,rfl⟩
   exact r.lU _
  split
  ·exact⟨rfl,rfl,rfl⟩
  split
  ·exact⟨rfl,rfl,rfl⟩
  rename_i h
  split
  ·exact⟨rfl,rfl,rfl⟩
  have h1:=r.kY _ h;have h2:=RS.lU;exact⟨(h2 _ _).1.trans h1.1,(h2 _ _).2.1.trans h1.2.1,(h2 _ _).2.2.trans h1.2.2⟩
 exact⟨rfl,rfl,rfl⟩
def RS.Lt(r:RS):Prop:=r.ag=true->bp r.au.length r.tab=true
def RS.Lt.head{r:RS}(h:r.ag=false)(w:List L):(r.head w).2.Lt:=by
 have h0:∀r':RS,r'.ag=r.ag->r'.Lt:=λr' e hb=>by rw[e,h]at hb;cases hb
 unfold RS.head
 split
 ·split
  ·rename_i hl
   exact λ_=>hl
  exact h0 _ rfl
 ·split
  ·exact h0 _ rfl
  split
  ·exact h0 _ rfl
  exact h0 _ rfl
 ·split
  ·split
   ·exact h0 _ rfl
   exact h0 _ rfl
  split
  ·exact h0 _ rfl
  split
  ·split
   ·exact h0 _ rfl
   exact h0 _ rfl
  split
  ·exact h0 _ rfl
  exact h0 _ rfl
 exact h0 _ rfl
def RS.Lt.row{r:RS}(h:r.Lt)(w:List L)(a:Nat):(r.row w a).2.Lt:=by
 unfold RS.row
 split
 ·exact h
 rename_i a0
 split
 ·rename_i hh
  refine RS.Lt.head ?_ w
  cases hb:r.ag with
  |false=>rfl
  |true=>exact absurd (hh.trans hb.symm) a0
 rename_i hh;have hb:r.ag=true:=by
  cases hb:r.ag with
  |true=>rfl
  |false=>exact absurd ((Bool.eq_false_iff.2 hh).trans hb.symm) a0
 obtain⟨e1,e2,e3⟩:=r.mh a w;intro _;have h5:=h hb;unfold RS.tab at h5⊢;rw[e1,e2,e3];exact h5
def jF:∀(ls:List L) (r:RS) (i:Nat),r.Lt->(rows r i ls).2.2.Lt
 |[],r,i,h=>h
 |[l],r,i,h=>by
  rw[rows]
  split
  ·split<;>exact h
  exact h
 |l::m::ls,r,i,h=>by
  rw[rows]
  split
  ·exact h
  split
  ·exact h
  exact jF (m::ls) _ (i+1) (h.row _ _)
def jl(s:L)(h0:(ab s).1=0):(ab s).2.2.Lv:=by
 obtain⟨h1,h2,h3⟩:=fO s;refine⟨h1,?_,h2,h3⟩;unfold ab at h0⊢
 by_cases hs:1200<s.length
 ·rw[G hs]at h0;cases h0
 rw[U hs]at h0⊢;obtain⟨-,hb,-,-⟩:=iJ _ RS.zero 0 kA h0;exact RS.fh (jF (aK 10 s) RS.zero 0 (λh=>by cases h) hb)
end Fl
def zwy{p:Fl.aY}(h:p.Lv):Fl.bC p (Fl.start p):=by
 unfold Fl.start Fl.vars;refine⟨by simp,λi hi=>?_⟩;rw[Qa]
 by_cases hc:i<p.cells.length
 ·rw[getElem?_append_left (by simpa using hc),getElem?_map,Qb hc]
  have:=h.ce _ (getElem_mem hc);simp only[Option.map_some,Option.getD_some];omega
 rw[getElem?_append_right (by simp;omega),getElem?_replicate];have:=h.aE;simp at hi;rw[G (by simp;omega)];exact this
namespace Fl
def jk{p:aY}(lv:p.Lv)(ho:p.Ok):∀(f:Nat) (vs:Is),bC p vs->bC p (raise p f vs)/\(raise p f vs).take p.cells.length=vs.take p.cells.length
 |0,vs,h=>⟨h,rfl⟩
 |f+1,vs,h=>by
  unfold raise
  split
  ·rename_i vs' hr
   unfold jT at hr
   split at hr
   ·rename_i m hm
    injection hr with hr;subst hr;have hp:=find?_some hm;have fg:=mem_of_find?_eq_some hm;rw[Qk]at hp;have a0:=lv.aE;have b0:=zr6 lv h 4 p.aZ (aE p).toNat (by rw[h.1];exact ho.aZ) (by omega) m (by rw[show (((aE p).toNat:Nat):Int)=aE p by omega];exact fg);have h1:=(iG lv h b0 hp.1 (by simpa using hp.2)).1;obtain⟨g1,g2⟩:=jk lv ho f _ h1;refine⟨g1,g2.trans ?_⟩;have hl:=hp.1;unfold dm at hl;rw[Qk,Qn,Qn]at hl;rw[take_set,set_eq_of_length_le (by rw[length_take];omega)]
   cases hr
  exact⟨h,rfl⟩
def gY{p:aY}(lv:p.Lv)(ho:p.Ok):bC p (bJ p)/\vars p ((bJ p).drop p.cells.length)=bJ p:=by
 obtain⟨h1,h2⟩:=jk lv ho 25 (start p) (zwy lv);refine⟨h1,?_⟩;have e:(start p).take p.cells.length=p.cells.map (λ(x:Nat)=>(x:Int)):=by
  unfold start vars;rw[take_append_of_le_length (by simp),take_of_length_le (by simp)]
 show p.cells.map (λ(x:Nat)=>(x:Int))++(bJ p).drop p.cells.length=bJ p;rw[<-e,<-h2];exact take_append_drop _ _
def aa.Fit(s:aa):Prop:=0<s.aq/\(s.kind=3\/s.kind=4->s.aZ=[]/\s.aU=[])
def cK:Nat->List aa->Prop
 |0,_=>True
 |d+1,l=>∀s∈l,s.Fit/\cK d s.aZ/\cK d s.aU
def dB{p:aY}{vs:Is}:∀(d:Nat) (l:List aa) (u:Int),cK d l->∀m∈bO p vs d l u,0<m.1.aq
 |0,_,_,_,m,hm=>by cases hm
 |d+1,l,u,h,m,hm=>by
  obtain⟨s,hs,hm⟩:=mem_flatMap.1 (show m∈l.flatMap (cX (bO p vs d) p vs u) from hm);obtain⟨h1,h2,h3⟩:=h s hs;unfold cX at hm
  split at hm
  ·rw[mem_singleton]at hm
   rw[hm];exact h1.1
  split at hm
  ·rcases mem_append.1 hm with hm|hm
   ·exact dB d _ _ h2 m hm
   exact dB d _ _ h3 m hm
  cases hm
structure RS.Pos(r:RS):Prop where
 bK:∀d,cK d r.bK
 fr:∀f∈r.fr,(0<f.aq/\(f.kind=5\/f.kind=6))/\(∀d,cK d f.first)/\∀d,cK d f.fu
def Frame.fit{f:Frame}(h:0<f.aq/\(f.kind=5\/f.kind=6)):f.done.Fit:=⟨h.1,λhk=>by have e:f.done.kind=f.kind:=rfl;omega⟩
def cK.snoc{l:List aa}(h:∀d,cK d l){s:aa}(hs:s.Fit)(h1:∀d,cK d s.aZ)(h2:∀d,cK d s.aU):∀d,cK d (l++[s])
 |0=>trivial
 |d+1=>λx hx=>by
  rcases mem_append.1 hx with hx|hx
  ·exact h (d+1) x hx
  rw[mem_singleton]at hx;rw[hx];exact⟨hs,h1 d,h2 d⟩
def cK.nil:∀d,cK d []
 |0=>trivial
 |d+1=>λx hx=>by cases hx
def ni:RS.zero.Pos:=⟨cK.nil,λf hf=>by cases hf⟩
def RS.Pos.put{r:RS}(h:r.Pos){s:aa}(hs:s.Fit)(h1:∀d,cK d s.aZ)(h2:∀d,cK d s.aU):(r.put s).Pos:=by
 unfold RS.put
 split
 ·exact⟨cK.snoc h.bK hs h1 h2,h.fr⟩
 rename_i f fs hf;have a0:=h.fr;rw[hf]at a0;have h0:=a0 f (by simp);refine⟨h.bK,λg hg=>?_⟩;rcases mem_cons.1 hg with rfl|hg
 ·split
  ·exact⟨h0.1,h0.2.1,cK.snoc h0.2.2 hs h1 h2⟩
  exact⟨h0.1,cK.snoc h0.2.1 hs h1 h2,h0.2.2⟩
 exact a0 g (by simp[hg])
def RS.Pos.bG{r:RS}(h:r.Pos):r.bG.Pos:=by
 unfold RS.bG
 split
 ·exact h
 ·rename_i f hf
  have a0:=h.fr;rw[hf]at a0;have h0:=a0 f (by simp);exact⟨cK.snoc h.bK (Frame.fit h0.1) h0.2.1 h0.2.2,λg hg=>by cases hg⟩
 rename_i f g fs hf;have a0:=h.fr;rw[hf]at a0;have h0:=a0 f (by simp);have h9:=a0 g (by simp);refine⟨h.bK,λg' hg=>?_⟩;rcases mem_cons.1 hg with rfl|hg
 ·split
  ·exact⟨h9.1,h9.2.1,cK.snoc h9.2.2 (Frame.fit h0.1) h0.2.1 h0.2.2⟩
  exact⟨h9.1,cK.snoc h9.2.1 (Frame.fit h0.1) h0.2.1 h0.2.2,h9.2.2⟩
 exact a0 g' (by simp[hg])
def RS.Pos.bF{r:RS}(h:r.Pos):r.bF.Pos:=by
 unfold RS.bF
 split
 ·exact h
 rename_i f fs hf;have a0:=h.fr;rw[hf]at a0;have h0:=a0 f (by simp);refine⟨h.bK,λg hg=>?_⟩;rcases mem_cons.1 hg with rfl|hg
 ·exact h0
 exact a0 g (by simp[hg])
def RS.Pos.same{r r':RS}(h:r.Pos)(e:r'.bK=r.bK/\r'.fr=r.fr):r'.Pos:=⟨by rw[e.1];exact h.bK,by rw[e.2];exact h.fr⟩
def RS.kW(r:RS)(n:L){r':RS}(h:r.bu n=some (x,r')):r'.bK=r.bK/\r'.fr=r.fr/\r'.ag=r.ag:=by
 unfold RS.bu at h
 split at h
 ·simp only[Ql,Prod.mk.injEq]at h;rw[<-h.2];exact⟨rfl,rfl,rfl⟩
 split at h
 ·simp only[Ql,Prod.mk.injEq]at h;rw[<-h.2];exact⟨rfl,rfl,rfl⟩
 split at h
 ·cases h
 simp only[Ql,Prod.mk.injEq]at h;rw[<-h.2];exact⟨rfl,rfl,rfl⟩
def RS.Pos.bh{r:RS}(h:r.Pos){a:Nat}(ha:0<a)(w:List L):(r.bh a w).2.Pos:=by
 unfold RS.bh
 split
 ·split
  ·exact h
  split
  ·split
   ·exact h.bF
   exact h
  exact h.bG
 ·split
  ·exact h
  split
  ·exact h
  refine⟨h.bK,λg hg=>?_⟩;rcases mem_cons.1 hg with rfl|hg
  ·exact⟨⟨ha,by show (if _ then 5 else 6)=5\/(if _ then 5 else 6)=6;split<;>simp⟩,cK.nil,cK.nil⟩
  exact h.fr g hg
 ·split
  ·exact h
  split
  ·split
   ·exact h
   split
   ·exact h
   exact h.put ⟨ha,λ_=>⟨rfl,rfl⟩⟩ cK.nil cK.nil
  split
  ·exact h
  split
  ·exact h
  rename_i hh
  split
  ·exact h
  have h1:=r.kW _ hh;exact(h.same ⟨h1.1,h1.2.1⟩).put ⟨ha,λ_=>⟨rfl,rfl⟩⟩ cK.nil cK.nil
 exact h
def RS.gP(r:RS)(w:List L):(r.head w).2.bK=r.bK/\(r.head w).2.fr=r.fr:=by
 unfold RS.head
 repeat' split
 all_goals exact⟨rfl,rfl⟩
def RS.Pos.row{r:RS}(h:r.Pos)(w:List L){a:Nat}(ha:0<a):(r.row w a).2.Pos:=by
 unfold RS.row
 split
 ·exact h
 split
 ·exact h.same (r.gP w)
 exact h.bh ha w
def jj:∀(ls:List L) (r:RS) (i:Nat),r.Pos->(rows r i ls).2.2.Pos
 |[],r,i,h=>h
 |[l],r,i,h=>by
  rw[rows]
  split
  ·split<;>exact h
  exact h
 |l::m::ls,r,i,h=>by
  rw[rows]
  split
  ·exact h
  split
  ·exact h
  exact jj (m::ls) _ (i+1) (h.row _ (by omega))
def iA(s:L)(d:Nat):cK d (ab s).2.2.aZ:=by
 unfold ab
 split
 ·exact ni.bK d
 exact(jj (aK 10 s) RS.zero 0 ni).bK d
end Fl
open Go.RowKit
section
variable{q1 q2:Nat}
def yu8(hh:dy s=3)(h3:3<=s.length)(hb:(dH s 3 0 4).2.1<0):Fl.decode s=(([],[]),false,(dH s 3 0 4).2.2):=by
 have a0:=cA s 3 h3;unfold Fl.decode;rw[hh,U (by decide)];simp only;unfold dH at*
 by_cases h1:(num s 3).2.1<0
 ·rw[G h1,G h1]
 rw[U h1]at hb;rw[U h1,U h1]
 by_cases h2:(num s 3).1<0\/4<(num s 3).1
 ·rw[G h2,G (by omega)];rfl
 rw[U h2]at hb;exact absurd hb h1
def zp2(hh:dy s=3)(hn:num s 3=((n:Int),(q1:Int),0))(a0:n<=4):
  Fl.decode s=(let l:=bW s q1 n
   if l.2.1<0 then(([],[]),false,l.2.2) else
   let m:=num s l.2.1.toNat
   if m.2.1<0 then(([],[]),false,m.2.2) else
   if m.1<1\/200<m.1 then(([],[]),false,l.2.1) else
   let r:=bV s m.1.toNat 0 m.2.1.toNat [] []
   if 0<=r.2.2.2 then(([],[]),false,r.2.2.2) else
   if r.2.2.1<s.length then(([],[]),false,r.2.2.1) else
   if 0<=aJ r.1 then(([],[]),false,r.2.1.getD (aJ r.1).toNat 0) else((l.1,r.1),true,0)):=by
 unfold Fl.decode;rw[hh,U (by decide)];simp only[hn];rw[U (by omega),U (by omega)];rfl
def yu9(hh:dy s=3)(hn:num s 3=((n:Int),(q1:Int),0))(a0:n<=4)(hl:(bW s q1 n).2.1<0):Fl.decode s=(([],[]),false,(bW s q1 n).2.2):=by
 rw[zp2 hh hn a0];simp only;rw[G hl]
def yuz(hh:dy s=3)(hn:num s 3=((n:Int),(q1:Int),0))(a0:n<=4)(hl:bW s q1 n=(ls,(q2:Int),z))(b0:q2<=s.length)(hm:(dH s q2 1 200).2.1<0):Fl.decode s=(([],[]),false,(dH s q2 1 200).2.2):=by
 rw[zp2 hh hn a0];simp only[hl,Qm];rw[U (by omega)];unfold dH at*
 by_cases h1:(num s q2).2.1<0
 ·rw[G h1,G h1]
 rw[U h1]at hm;rw[U h1,U h1]
 by_cases h2:(num s q2).1<1\/200<(num s q2).1
 ·rw[G h2,G h2]
 rw[U h2]at hm;exact absurd hm h1
def zpx(s:L)(ls:Is)(Jb q0:Nat):(Is×List ar)×Bool×Int:=
 let r:=bV s Jb 0 q0 [] []
 if 0<=r.2.2.2 then(([],[]),false,r.2.2.2) else
 if r.2.2.1<s.length then(([],[]),false,r.2.2.1) else
 if 0<=aJ r.1 then(([],[]),false,r.2.1.getD (aJ r.1).toNat 0) else((ls,r.1),true,0)
def yrw(hh:dy s=3)(hn:num s 3=((n:Int),(q1:Int),0))(a0:n<=4)(hl:bW s q1 n=(ls,(q2:Int),z))(hm:num s q2=((Jb:Int),(q0:Int),0))(h1:1<=Jb)(h2:Jb<=200):Fl.decode s=zpx s ls Jb q0:=by
 rw[zp2 hh hn a0];simp only[hl,Qm,hm];rw[U (by omega),U (by omega),U (by omega)];rfl
end
section
variable{nv:Value}
def PL.nh(h:PL s Jb q0 w b P0 lv ls wr k q sv nv st acc lvs)(hk:k<Jb)(hb:(one s q k).2.1<0):zpx s ls Jb q0=(([],[]),false,(one s q k).2.2):=by
 have a0:=iM s q k h.hq;have hr:bV s Jb 0 q0 [] []=(acc,st,(q:Int),(one s q k).2.2):=by
  rw[h.ed,show Jb - k=(Jb - (k+1))+1 from by omega];simp only[bV];rw[G hb]
 unfold zpx;simp only[hr];rw[G (by omega)]
def PL.bG(h:PL s Jb q0 w b P0 lv ls wr k q sv nv st acc lvs)(hk:¬k<Jb):zpx s ls Jb q0=if q<s.length then(([],[]),false,(q:Int)) else if 0<=aJ acc then(([],[]),false,st.getD (aJ acc).toNat 0) else((ls,acc),true,0):=by
 have a0:k=Jb:=by have:=h.hk;omega
 have hr:bV s Jb 0 q0 [] []=(acc,st,(q:Int),-1):=by
  rw[h.ed,a0,Nat.sub_self];rfl
 unfold zpx;simp only[hr];rw[U (by decide)]
 by_cases h1:q<s.length
 ·rw[G (by omega),G h1]
 rw[U (by omega),U h1]
end
structure PC(w:World)(b P0:Nat)(lv:Value)(wr:World)(q:Nat)(s34 nc1:Value)(fam:List (Value×Is))(sv nv:Value)(n1 n2:Nat)(xs ys:Vs):Prop where
 hl:Li (P0+1) wr fam sv nv n1 n2 xs ys
 c0:wr.cell? (O P0 0)=some lv
 c1:wr.cell? (O P0 1)=some nc1
 d0:wr.cell? (O w.heap.size 0)=some K
 d1:wr.cell? (O w.heap.size 1)=some K
 f0:∀j,wr.frozen? (O w.heap.size j)=false
 f1:∀j,wr.frozen? (O P0 j)=false
 fb:∀j,wr.frozen? (O b j)=false
 fr:Fr w wr b
 a1:wr.cell? (O b 1)=some (I (q:Int))
 jY:wr.cell? (O b 34)=some s34
 hR:w.heap.size<P0
 hP:P0<wr.heap.size
 hb:b<w.heap.size
section
variable{s34 nc1:Value}{fam:List (Value×Is)}{nv:Value}{n1 n2:Nat}{ys:Vs}
def PC.own(h:PC w b P0 lv wr q s34 nc1 fam sv nv n1 n2 xs ys){row:Option Nat}(g:wr.grownBy w' row)(a0:∀k,row=some k->P0+1<=k){n1' n2':Nat}{xs' ys':Vs}{fam':List (Value×Is)}(hl:Li (P0+1) w' fam' sv' nv' n1' n2' xs' ys'):PC w b P0 lv w' q s34 nc1 fam' sv' nv' n1' n2' xs' ys':=by
 have hR:=h.hR;have hb:=h.hb;have hP:=h.hP
 have ne:∀k,k<=P0->some k≠row:=λk hk e=>by have:=a0 k e.symm;omega
 have fz:∀(N j:Nat),N<wr.heap.size->N<=P0->w'.frozen? (O N j)=wr.frozen? (O N j):=λN j hN hk=>Qd (g.block N hN (ne N hk));exact⟨hl,g.cell h.c0 (ne _ lE),g.cell h.c1 (ne _ lE),g.cell h.d0 (ne _ (by show w.heap.size<=P0;omega)),g.cell h.d1 (ne _ (by show w.heap.size<=P0;omega)),λj=>(fz _ j (by omega) (by omega)).trans (h.f0 j),λj=>(fz _ j hP (by omega)).trans (h.f1 j),λj=>(fz _ j (by omega) (by omega)).trans (h.fb j),h.fr.dY g hb (λk e=>by have:=a0 k e;omega),g.cell h.a1 (ne _ (by show b<=P0;omega)),g.cell h.jY (ne _ (by show b<=P0;omega)),hR,Qj hP g.size,hb⟩
def PC.alloc(h:PC w b P0 lv wr q s34 nc1 fam sv nv n1 n2 xs ys)(o:Obj):PC w b P0 lv (wr.alloc o) q s34 nc1 fam sv nv n1 n2 xs ys:=
 h.own (grownBy_alloc wr o none) (λk e=>by cases e) (h.hl.stay (Vv.alloc _ _ _))
def PC.drew(h:PC w b P0 lv wr q s34 nc1 fam sv nv n1 n2 xs ys):PC w b P0 lv wr.drew q s34 nc1 fam sv nv n1 n2 xs ys:=
 h.own (w':=wr.drew) (row:=none) ⟨rfl,rfl,rfl,lE,λ_ _ _=>rfl⟩ (λk e=>by cases e) (h.hl.stay ⟨lE,λ_ _ _=>rfl⟩)
def PC.below(h:PC w b P0 lv wr q s34 nc1 fam sv nv n1 n2 xs ys)(hb:D wr w'):PC w b P0 lv w' q s34 nc1 fam sv nv n1 n2 xs ys:=
 h.own (row:=none) ⟨hb.os,hb.tape,hb.output,hb.size,λk hk _=>hb.block k hk⟩ (λk e=>by cases e) (h.hl.stay (Vv.below hb))
def PC.first(h:PC w b P0 lv wr q s34 nc1 fam sv nv n1 n2 xs ys){sv':Value}{n1':Nat}{xs':Vs}(ho:w'.ownsRow (P0+1) 3 1 sv' n1' xs')(hg:wr.grownBy w' sv.ownBlock)(hw:sv'.ownBlock=sv.ownBlock\/sv'.ownBlock=some wr.heap.size):PC w b P0 lv w' q s34 nc1 fam sv' nv n1' n2 xs' ys:=
 h.own hg (λk e=>(h.hl.hs.lt k e).1) (h.hl.first ho hg hw)
def PC.second(h:PC w b P0 lv wr q s34 nc1 fam sv nv n1 n2 xs ys){nv':Value}{n2':Nat}{ys':Vs}(ho:w'.ownsRow (P0+1) 73 6 nv' n2' ys')(hg:wr.grownBy w' nv.ownBlock)(hw:nv'.ownBlock=nv.ownBlock\/nv'.ownBlock=some wr.heap.size):PC w b P0 lv w' q s34 nc1 fam sv nv' n1 n2' xs ys':=
 h.own hg (λk e=>(h.hl.hn.lt k e).1) (h.hl.second ho hg hw)
def PC.add(h:PC w b P0 lv wr q s34 nc1 fam sv nv n1 n2 xs ys){lvn:Value}{l:Is}{N:Nat}(hi:Zw wr.heap.size wr lvn l)(hf:∀b,lvn.ownBlock=some b->N<=b)(a0:∀b,sv.ownBlock=some b->b<N)(b0:∀b,nv.ownBlock=some b->b<N)(hN:P0+1<=N):PC w b P0 lv wr q s34 nc1 (fam++[(lvn,l)]) sv nv n1 n2 xs ys:=
 ⟨h.hl.add hi hf a0 b0 hN,h.c0,h.c1,h.d0,h.d1,h.f0,h.f1,h.fb,h.fr,h.a1,h.jY,h.hR,h.hP,h.hb⟩
def PC.move(h:PC w b P0 lv wr q s34 nc1 fam sv nv n1 n2 xs ys)(m:Mv wr w' b){q':Nat}(c:w'.cell? (O b 1)=some (I (q':Int))):PC w b P0 lv w' q' s34 nc1 fam sv nv n1 n2 xs ys:=by
 have hR:=h.hR;have hb:=h.hb;have hP:=h.hP
 have n1:some P0≠some b:=by simp;omega
 have n2:some w.heap.size≠some b:=by simp;omega
 have fz:∀(N j:Nat),N<wr.heap.size->some N≠some b->w'.frozen? (O N j)=wr.frozen? (O N j):=λN j hN a0=>Qd (m.g.block N hN a0);exact⟨h.hl.stay (Vv.grown m.g (λk e=>by injection e with e;omega)),m.g.cell h.c0 n1,m.g.cell h.c1 n1,m.g.cell h.d0 n2,m.g.cell h.d1 n2,λj=>(fz _ j (by omega) n2).trans (h.f0 j),λj=>(fz _ j hP n1).trans (h.f1 j),λj=>(m.f j).trans (h.fb j),h.fr.trans m.fr,c,(m.o 34 (by decide)).trans h.jY,hR,Qj hP m.g.size,hb⟩
def PC.lZ(h:PC w b P0 lv wr q s34 nc1 fam sv nv n1 n2 xs ys)(u:Value):PC w b P0 lv (wr.setCell (O b 34) u) q u nc1 fam sv nv n1 n2 xs ys:=by
 have hR:=h.hR;have hb:=h.hb;have g:=Yb wr b 34 u
 have n1:some P0≠some b:=by simp;omega
 have n2:some w.heap.size≠some b:=by simp;omega
 exact⟨h.hl.stay (Vv.grown g (λk e=>by injection e with e;omega)),g.cell h.c0 n1,g.cell h.c1 n1,g.cell h.d0 n2,g.cell h.d1 n2,λj=>(frozen?_setCell _ _ _ _).trans (h.f0 j),λj=>(frozen?_setCell _ _ _ _).trans (h.f1 j),λj=>(frozen?_setCell _ _ _ _).trans (h.fb j),h.fr.trans (Fr.lZ _ _ _),(Yl (by decide)).trans h.a1,Ub h.jY,hR,by simpa [setCell] using h.hP,hb⟩
def PC.mQ(h:PC w b P0 lv wr q s34 nc1 fam sv nv n1 n2 xs ys)(u:Value):PC w b P0 lv (wr.setCell (O P0 1) u) q s34 u fam sv nv n1 n2 xs ys:=by
 have hR:=h.hR;have hb:=h.hb;have g:=Yb wr P0 1 u
 have n1:some b≠some P0:=by simp;omega
 have n2:some w.heap.size≠some P0:=by simp;omega
 exact⟨h.hl.stay (Vv.grown g (λk e=>by injection e with e;omega)),(Yl (by decide)).trans h.c0,Ub h.c1,g.cell h.d0 n2,g.cell h.d1 n2,λj=>(frozen?_setCell _ _ _ _).trans (h.f0 j),λj=>(frozen?_setCell _ _ _ _).trans (h.f1 j),λj=>(frozen?_setCell _ _ _ _).trans (h.fb j),h.fr.dY g hb (λk e=>by injection e with e;omega),g.cell h.a1 n1,g.cell h.jY n1,hR,by simpa [setCell] using h.hP,hb⟩
end
section
variable{nv:Value}
def PL.pc(h:PL s Jb q0 w b P0 lv ls wr k q sv nv st acc lvs):PC w b P0 lv wr q sv nv ((lv,ls)::Yu acc lvs) sv nv k k (st.map (int .i64)) (flat acc lvs):=
 ⟨h.hl,h.c0,h.c1,h.d0,h.d1,h.f0,h.f1,h.fb,h.fr,h.a1,h.jY,h.hR,h.hP,h.hb⟩
def PL.step(h:PL s Jb q0 w b P0 lv ls wr k q sv nv st acc lvs)(b0:k<Jb){nd:ar}{af:Nat}(ho:one s q k=(nd,(af:Int),z))(a0:af<=s.length){lvn:Value}
  (hc:PC w b P0 lv w' af sv' nv' (((lv,ls)::Yu acc lvs)++[(lvn,nd.ae)]) sv' nv' (k+1) (k+1) (st.map (int .i64)++[I (q:Int)]) (flat acc lvs++Zc nd lvn)):
  PL s Jb q0 w b P0 lv ls w' (k+1) af sv' nv' (st++[(q:Int)]) (acc++[nd]) (lvs++[lvn]):=by
 have aL:lvs.length=acc.length:=by rw[h.ee,h.fV]
 have aS:fd k nd:=by
  have:=ke s q k h.hq (by rw[ho];simp only;omega);rw[ho]at this;exact this
 refine⟨by omega,a0,by simp[h.cZ],by simp[h.ee],by simp[h.fV],?_,iD h.aS (by rw[h.ee];exact aS),?_,hc.c0,hc.c1,hc.d0,hc.d1,hc.f0,hc.f1,hc.fb,hc.fr,hc.a1,hc.jY,hc.hR,hc.hP,hc.hb⟩
 ·rw[h.ed,show Jb - k=(Jb - (k+1))+1 from by omega];simp only[bV,ho,Qm];rw[U (by omega)]
 rw[Jw _ _ _ _ aL,zwv _ _ _ _ aL,map_append];exact hc.hl
end
def yg2{size:Nat}(h:w.ownsRow base e size v n xs)(hb:D w w'):w'.ownsRow base e size v n xs:=
 h.kept (row:=none) ⟨hb.os,hb.tape,hb.output,hb.size,λk hk _=>hb.block k hk⟩ (by cases v.ownBlock<;>simp)
def own_six{size:Nat}(h:w1.ownsRow base e size v n xs)(hB:B<base):
  ((((((w1.setCell (O B 0) v0).setCell (O B 1) v1).setCell (O B 2) v2).setCell (O B 3) v3).setCell (O B 4) v4).setCell (O B 5) v5).ownsRow base e size v n xs:=
 ownsRow_setCell_below (ownsRow_setCell_below (ownsRow_setCell_below (ownsRow_setCell_below (ownsRow_setCell_below (ownsRow_setCell_below h hB _) hB _) hB _) hB _) hB _) hB _
def zax(h:w.ownsRow base e 1 v n xs):∃ao cap,v=A ao n cap:=by
 rcases h.2 with⟨rfl,rfl⟩|⟨g,cap,cur,rfl,_⟩
 ·exact⟨_,_,rfl⟩
 exact⟨_,_,rfl⟩
def yuy{nv:Value}{r:ar×Int×Int}{nd:ar}{x:Int}{e:Ending}(hr:r=(nd,x,0))(he:e=.returned (.tuple #[nv,I x,I 0]))(a0:nv=Vt nd lv)(hl:Zw w'.heap.size w' lv nd.ae)(hf:∀b,lv.ownBlock=some b->w.heap.size<=b)(hb:D w w'):Ua r w e w':=by
 subst hr;have b0:=hl;obtain⟨ao,cap,c0,_⟩:=b0;exact⟨hb,nv,he,⟨nd,ao,_,cap,by rw[a0,c0]⟩,λ_=>⟨lv,a0,hl,hf⟩⟩
def ycy(s:ByteArray)(p k:Nat)(v n b v2 n2 b2 n3 b3:Int)(l:Is)(w:World)(H0:¬n2<0)(I0:¬16<v2)(J0:¬n3<0)(K0:l.length<=16)(hs:s.size<=4611686018427387904)(hp:p<s.size)(hn:¬n<0)
  (H1:Y (∀w,E 35 #[.string s,I ((p:Int)+1)] w (Rq (.tuple #[I v,I n,I b]) w)))
  (H:Y (∀w,E 48 #[I s[p].toNat] w (Rq (I (-1)) w)))
  (H2:Y (∀w,E 35 #[.string s,I n] w (Rq (.tuple #[I v2,I n2,I b2]) w)))
  (H3:Y (∀w,E 36 #[.string s,I n2,I v2] w λe w'=>∃lv,e=.returned (.tuple #[lv,I n3,I b3])/\w'.ownsRow w.heap.size 3 1 lv l.length (l.map (int .i64))/\D w w')):
  E 37 #[.string s,I p,I k] w λe w'=>Ua (bt p k ⟨s[p].toNat,v,0,0,0,l⟩ n3) w e w':=by
 have b1:((p:Int)==(s.size:Int))=false:=beq_eq_false_iff_ne.2 (by omega);have hc:s[p].toNat<256:=s[p].toNat_lt
 go_enter func37,ntmps37
 go_wp2_with (go_at_call 48;refine(H _).mono ?_;rintro e w' ⟨rfl,rfl⟩)
 refine(H1 _).mono ?_;rintro e w' ⟨rfl,rfl⟩
 go_wp2_with fail
 refine(H2 _).mono ?_;rintro e w' ⟨rfl,rfl⟩
 go_wp2_with fail
 refine(H3 _).mono ?_;rintro e w1 ⟨lv,rfl,i0,n0⟩;obtain⟨b0,p0⟩:=zj1 n0;simp only[size_alloc]at b0 p0 i0
 have hz:w.heap.size+1<w1.heap.size:=by have:=n0.size;simp at this;omega
 have k0:D w w1:=((bA).alloc (by simp) _).trans (n0.mono (by simp;omega));have r0:Y ((w1.setCell (O (w.heap.size+1) 5) lv).ownsRow (w.heap.size+1+1) 3 1 lv l.length (l.map (int .i64))):=ownsRow_setCell_below i0 (by simp) _;obtain⟨lao,lcap,rfl⟩:=zax i0
 have HP:Y (E 46 #[Vt ⟨s[p].toNat,v,0,0,0,l⟩ (A lao l.length lcap)] (w1.setCell (O (w.heap.size+1) 5) (A lao l.length lcap)) λe w'=>∃pv,e=.returned pv/\Zw w'.heap.size w' pv (prem ⟨s[p].toNat,v,0,0,0,l⟩)/\Below (w1.setCell (O (w.heap.size+1) 5) (A lao l.length lcap)).heap.size (w1.setCell (O (w.heap.size+1) 5) (A lao l.length lcap)) w'):=
  zvw _ _ _ _ lE (Zw.dp r0)
 have v0:Y (D w (w1.setCell (O (w.heap.size+1) 5) (A lao l.length lcap))):=k0.setCell (by simp) _;have g0:(w1.setCell (O (w.heap.size+1) 5) (A lao l.length lcap)).cell? (O (w.heap.size+1) 5)=some (A lao l.length lcap):=Uv (o:=K) (by rw[b0 _ _ (by omega)];simp);clear i0 k0
 go_wp2_with fail
 refine(HP.out).mono ?_;rintro e w2 ⟨pv,rfl,D0,l0⟩;obtain⟨e0,s0⟩:=zj1 l0
 have j0:(w1.setCell (O (w.heap.size+1) 5) (A lao l.length lcap)).heap.size=w1.heap.size:=by simp[setCell]
 rw[j0]at e0 s0
 have L0:w.heap.size+1<w2.heap.size:=by have:=l0.size;rw[j0]at this;omega
 have m0:D w w2:=v0.trans (l0.mono (by rw[j0];omega));have x0:Y (w2.ownsRow (w.heap.size+1+1) 3 1 (A lao l.length lcap) l.length (l.map (int .i64))):=yg2 r0 l0
 have c0:w2.cell? (O (w.heap.size+1) 0)=some (I s[p].toNat):=by rw[e0 _ _ (by omega),Jr (by decide),b0 _ _ (by omega)];simp
 have c1:w2.cell? (O (w.heap.size+1) 1)=some (I v):=by rw[e0 _ _ (by omega),Jr (by decide),b0 _ _ (by omega)];simp
 have c2:w2.cell? (O (w.heap.size+1) 2)=some (I 0):=by rw[e0 _ _ (by omega),Jr (by decide),b0 _ _ (by omega)];simp
 have c3:w2.cell? (O (w.heap.size+1) 3)=some (I 0):=by rw[e0 _ _ (by omega),Jr (by decide),b0 _ _ (by omega)];simp
 have c4:w2.cell? (O (w.heap.size+1) 4)=some (I 0):=by rw[e0 _ _ (by omega),Jr (by decide),b0 _ _ (by omega)];simp
 have c5:w2.cell? (O (w.heap.size+1) 5)=some (A lao l.length lcap):=by rw[e0 _ _ (by omega)];exact g0
 have a0:∀j,j<6->(w1.setCell (O (w.heap.size+1) 5) (A lao l.length lcap)).cell? (O w.heap.size j)=w1.cell? (O w.heap.size j):=λj _=>by apply Qg;intro hh;injection hh with h2;omega
 have d0:w2.cell? (O w.heap.size 0)=some (I 0):=by rw[e0 _ _ (by omega),a0 _ (by omega),b0 _ _ (by omega)];simp
 have d1:w2.cell? (O w.heap.size 1)=some (I 0):=by rw[e0 _ _ (by omega),a0 _ (by omega),b0 _ _ (by omega)];simp
 have d2:w2.cell? (O w.heap.size 2)=some (I 0):=by rw[e0 _ _ (by omega),a0 _ (by omega),b0 _ _ (by omega)];simp
 have d3:w2.cell? (O w.heap.size 3)=some (I 0):=by rw[e0 _ _ (by omega),a0 _ (by omega),b0 _ _ (by omega)];simp
 have d4:w2.cell? (O w.heap.size 4)=some (I 0):=by rw[e0 _ _ (by omega),a0 _ (by omega),b0 _ _ (by omega)];simp
 have d5:w2.cell? (O w.heap.size 5)=some K:=by rw[e0 _ _ (by omega),a0 _ (by omega),b0 _ _ (by omega)];simp
 have M0:∀j,w2.frozen? (O w.heap.size j)=false:=λj=>by
  rw[s0 _ _ (by omega),frozen?_setCell,p0 _ _ (by omega)];simp
 obtain⟨q0,q1,q2,q3,q4,q5⟩:=zu7 (w1:=w2) (B:=w.heap.size) (I s[p].toNat) (I v) (I 0) (I 0) (I 0) (A lao l.length lcap) d0 d1 d2 d3 d4 d5;obtain⟨pao,pcap,rfl,_,E0,y0⟩:=D0;generalize hps:prem ⟨s[p].toNat,v,0,0,0,l⟩=ps at*;have z0:=Z hps;have A0:=Z y0;clear hps y0 l0 n0 b0 p0 e0 s0 HP g0 a0 r0 v0;unfold maxLen at E0;go_wp2
 go_loop [23] (λi=>∃j:Nat,j<=ps.length/\i=I j/\∀t,t<j->¬(k:Int)<=ps.getD t 0) (λi=>ps.length - (intOf i).toNat)
 case atStart=>exact⟨0,by omega,rfl,λt ht=>by omega⟩
 case round=>
  obtain⟨j,hj,rfl,B0⟩:=hrel;have t0:=Z B0;clear B0
  by_cases o0:j<ps.length
  ·obtain⟨pb,po,rfl,N0,f0⟩:=A0 (by intro h;rw[h]at o0;simp at o0)
   have F0:=f0 j o0;obtain⟨x,hx⟩:=J (ps.getD j 0);rw[<-hx]at F0;have C0:=Z hx;have O0:(j:Int)<(ps.length:Int):=(by omega);clear f0 hx
   by_cases G0:(k:Int)<=x
   ·have h0:bt p k ⟨s[p].toNat,v,0,0,0,l⟩ n3=(fE,-1,(p:Int)):=by
     unfold bt;rw[z0.out,G];rw[any_eq_true];exact⟨x,by rw[C0.out];exact mo o0,by simpa using G0⟩
    have u0:=Z h0;clear h0;go_wp2;exact bodyPost_ret (v:=.tuple #[.agg #[I s[p].toNat,I v,I 0,I 0,I 0,A lao l.length lcap],I (-1),I p]) (by simp[results,results37,go_sem,q0,q1,q2,q3,q4,q5]) rfl (zx5 u0 rfl ⟨⟨_,_,_,_,_,[]⟩,_,_,_,rfl⟩ (zv3 m0))
   go_wp2
   go_round
   case rel=>exact⟨j+1,by omega,by go_num,λt ht=>by
    by_cases h:t<j
    ·exact t0 t h
    have:t=j:=by omega
    subst this;rw[<-C0.out];omega⟩
   case measure=>simp[intOf];omega
  have h0:bt p k ⟨s[p].toNat,v,0,0,0,l⟩ n3=(⟨s[p].toNat,v,0,0,0,l⟩,n3,0):=by
   unfold bt;rw[z0.out,U];rw[Bool.not_eq_true,any_eq_false];intro x hx;obtain⟨i,hi,rfl⟩:=getElem_of_mem hx;have:=t0 i (by omega);rw[Qa,Qb hi]at this;simpa using this
  have u0:=Z h0;clear h0 t0 A0;go_wp2;exact bodyPost_ret (v:=.tuple #[.agg #[I s[p].toNat,I v,I 0,I 0,I 0,A lao l.length lcap],I n3,I 0]) (by simp[results,results37,go_sem,q0,q1,q2,q3,q4,q5]) rfl (yuy u0 rfl rfl (Zw.dp (own_six x0 (by omega))) (λb hb=>by have:=(x0.lt b hb).1;omega) (zv3 m0))
def yux(h:w.ownsRow base e 1 v n xs)(hn:0<n):∃g cap,v=Sq g 0 n cap/\base<=g/\g<w.heap.size/\∀j u,xs[j]?=some u->w.cell? (O g j)=some u:=by
 rcases h.2 with⟨rfl,h0⟩|⟨g,cap,cur,rfl,hb,hg,_⟩
 ·omega
 refine⟨g,cap,rfl,hb,(Array.getElem?_eq_some_iff.1 hg).1,λj u hu=>?_⟩;have h1:=h.cells (g:=g) rfl j u hu
 have h2:((O g 0):Addr).add j=(O g j):=by unfold Addr.add;split<;>simp_all
 rw[h2]at h1;exact h1
def yyx{x y:Value}:∀j u,[x,y][j]?=some u->(w.alloc (.cells #[x,y] e)).cell? (((O w.heap.size 0):Addr).add j)=some u:=by
 intro j u hj
 match j,hj with
 |0,hj=>simp at hj;subst hj;simp[Addr.add]
 |1,hj=>simp at hj;subst hj;simp[Addr.add]
def ycx(s:ByteArray)(p k:Nat)(Wj v n b n3 b3:Int)(w:World)(hs:s.size<=4611686018427387904)(hp:p<s.size)(hn:¬n<0)(d0:0<=Wj)(e0:Wj<=3)(f0:n3<0)
  (H:Y (∀w,E 48 #[I s[p].toNat] w (Rq (I Wj) w)))
  (H1:Y (∀w,E 35 #[.string s,I ((p:Int)+1)] w (Rq (.tuple #[I v,I n,I b]) w)))
  (H3:Y (∀w,E 36 #[.string s,I n,I Wj] w λe w'=>∃lv,e=.returned (.tuple #[lv,I n3,I b3])/\D w w')):
  E 37 #[.string s,I p,I k] w λe w'=>Ua (fE,-1,b3) w e w':=by
 have b1:((p:Int)==(s.size:Int))=false:=beq_eq_false_iff_ne.2 (by omega);have b2:(Wj== -2)=false:=beq_eq_false_iff_ne.2 (by omega);have b4:(Wj== -1)=false:=beq_eq_false_iff_ne.2 (by omega);have hc:s[p].toNat<256:=s[p].toNat_lt
 go_enter func37,ntmps37
 go_wp2_with (go_at_call 48;refine(H _).mono ?_;rintro e w' ⟨rfl,rfl⟩)
 refine(H1 _).mono ?_;rintro e w' ⟨rfl,rfl⟩
 go_wp2_with fail
 refine(H3 _).mono ?_;rintro e w1 ⟨lv,rfl,b0⟩;obtain⟨a0,c0⟩:=zj1 b0;simp only[size_alloc]at a0 c0
 have hz:w.heap.size+1<w1.heap.size:=by have:=b0.size;simp at this;omega
 obtain⟨q0,q1,q2,q3,q4,q5⟩:=zu7 (w1:=w1) (B:=w.heap.size) (o0:=I 0) (o1:=I 0) (o2:=I 0) (o3:=I 0) (o4:=I 0) (o5:=K) (I s[p].toNat) (I v) (I 0) (I 0) (I 0) K (by rw[a0 _ _ (by omega)];simp) (by rw[a0 _ _ (by omega)];simp) (by rw[a0 _ _ (by omega)];simp) (by rw[a0 _ _ (by omega)];simp) (by rw[a0 _ _ (by omega)];simp) (by rw[a0 _ _ (by omega)];simp);go_wp2;exact bodyPost_ret (v:=.tuple #[.agg #[I s[p].toNat,I v,I 0,I 0,I 0,K],I (-1),I b3]) (by simp[results,results37,go_sem,q0,q1,q2,q3,q4,q5]) rfl (zx5 rfl rfl ⟨⟨_,_,_,_,_,[]⟩,_,_,_,rfl⟩ (zv3 (((bA).alloc (by simp) _).trans (b0.mono (by simp;omega)))))
def yuw{t:TypeId}{fr:Nat×Nat}(h:w.heap[b]?=some (.cells #[v0,v1,v2,v3,v4,v5] t fr)):w.cell? (O b 0)=some v0/\w.cell? (O b 1)=some v1/\w.cell? (O b 2)=some v2/\w.cell? (O b 3)=some v3/\w.cell? (O b 4)=some v4/\w.cell? (O b 5)=some v5:=
 ⟨cell_of_row _ _ _ _ _ _ h,cell_of_row _ _ _ _ _ _ h,cell_of_row _ _ _ _ _ _ h,cell_of_row _ _ _ _ _ _ h,cell_of_row _ _ _ _ _ _ h,cell_of_row _ _ _ _ _ _ h⟩
def one_f(s:ByteArray)(p k:Nat)(Wj v n b n3 b3:Int)(l:Is)(w:World)(hs:s.size<=4611686018427387904)(hp:p<s.size)(hn:¬n<0)(V0:¬n3<0)(hF:Wj=1/\l.length=1\/Wj=2/\l.length=2\/Wj=3/\l.length=3)
  (H:Y (∀w,E 48 #[I s[p].toNat] w (Rq (I Wj) w)))
  (H1:Y (∀w,E 35 #[.string s,I ((p:Int)+1)] w (Rq (.tuple #[I v,I n,I b]) w)))
  (H3:Y (∀w,E 36 #[.string s,I n,I Wj] w λe w'=>∃lv,e=.returned (.tuple #[lv,I n3,I b3])/\w'.ownsRow w.heap.size 3 1 lv l.length (l.map (int .i64))/\D w w')):
  E 37 #[.string s,I p,I k] w λe w'=>Ua (bt p k ⟨s[p].toNat,v,l.getD 0 0,l.getD 1 0,l.getD 2 0,[]⟩ n3) w e w':=by
 obtain⟨i0,hi,M0,N0,C0⟩:=info_parts Tryz.infoInt;have b1:((p:Int)==(s.size:Int))=false:=beq_eq_false_iff_ne.2 (by omega);have hc:s[p].toNat<256:=s[p].toNat_lt;have HX:Y (∀j,j<3->(l.map (int .i64)++[I 0,I 0])[j]?=some (I (l.getD j 0))):=by
  intro j hj;rcases(show j=0\/j=1\/j=2 by omega) with rfl|rfl|rfl
  all_goals
   match l,hF with
   |[],hl=>simp at hl
   |[_],_=>rfl
   |[_,_],_=>rfl
   |[_,_,_],_=>rfl
   |_::_::_::_::_,hl=>simp at hl
 have HZ:Y ((Wj=1->l.getD 1 0=0)/\(Wj<=2->l.getD 2 0=0)):=⟨λh=>by simp[Qa,getElem?_eq_none (show l.length<=1 by omega)],λh=>by simp[Qa,getElem?_eq_none (show l.length<=2 by omega)]⟩;obtain⟨x,hx⟩:=J (l.getD 0 0);obtain⟨y,hy⟩:=J (l.getD 1 0);obtain⟨z,hz⟩:=J (l.getD 2 0);have g0:=HX 0 (by omega);have g1:=HX 1 (by omega);have g2:=HX 2 (by omega);rw[<-hx]at g0⊢;rw[<-hy]at g1 HZ⊢;rw[<-hz]at g2 HZ⊢;obtain⟨nd,s0⟩:=J (α:=ar) (⟨s[p].toNat,v,x,y,z,[]⟩);rw[<-s0];have HG:=Z (And.intro g0 (And.intro g1 g2));have j0:=Z s0;clear hx hy hz g0 g1 g2 HX s0;rcases hF with⟨rfl,hl⟩|⟨rfl,hl⟩|⟨rfl,hl⟩
 all_goals
  rw[hl]at H3;obtain⟨xs,D0⟩:=J (l.map (int .i64));rw[<-D0]at H3 HG;clear D0
  go_enter func37,ntmps37
  go_wp2_with (go_at_call 48;refine(H _).mono ?_;rintro e w' ⟨rfl,rfl⟩)
  refine(H1 _).mono ?_;rintro e w' ⟨rfl,rfl⟩
  go_wp2_with fail
  refine(H3 _).mono ?_;rintro e w1 ⟨lv,rfl,b0,t0⟩;simp only[size_alloc]at b0;have u0:=t0.size;simp only[size_alloc]at u0
  go_wp2_with (at_builtin;refine wpList_append_own _ rfl _ _ 27 rfl (w.heap.size+1+1) 3 i0 (I 0) 1 8 underlying27 hi M0 N0 C0 rfl (by decide) _ _ _ rfl (b0.alloc _) (O _ 0) 2 2 [I 0,I 0] rfl rfl yyx ?c2 ?c3 ?c4 ?c5 ?_)
  case c2=>intro u hu;simp at hu;subst hu;rfl
  case c3=>unfold maxLen;omega
  case c4=>omega
  case c5=>simp;omega
  intro lv' w3 hown' h0 _;have k0:=(((t0.mono lE).alloc (by simp;omega) _).grown h0 (by simp;omega) (λg hg=>by have:=(b0.lt g hg).1;simp;omega));obtain⟨g,gcap,rfl,W0,X0,o0⟩:=yux hown' (by omega);have e0:=o0 0 _ HG.1;have e1:=o0 1 _ HG.2.1;have e2:=o0 2 _ HG.2.2
  have v0:∀(W:World) (o:Nat) (u:Value) (j:Nat),(W.setCell (O (w.heap.size+1) o) u).cell? (O g j)=W.cell? (O g j):=λW o u j=>by apply Qg;intro hh;injection hh with h2;omega
  have r0:w3.heap[w.heap.size]?=some (.cells #[I 0,I 0,I 0,I 0,I 0,K] 73 (0,0)):=by
   rw[k0.block _ (by simp;omega),Below.heap_alloc _ _ _ (by simp)];exact heap_alloc_new _ _
  have r1:w3.heap[w.heap.size+1]?=some (.cells #[I s[p].toNat,I v,I 0,I 0,I 0,K] 73 (0,0)):=by
   rw[k0.block _ (by simp),<-size_alloc w (.cells #[I 0,I 0,I 0,I 0,I 0,K] 73)];exact heap_alloc_new _ _
  have x0:D w w3:=((bA).alloc (by simp) _).trans (k0.mono (by simp;omega));have O0:∀b o,b<w.heap.size+1+1->w3.cell? (O b o)=_:=λb o h=>k0.cell (p:=(O b o)) (by simpa using h);have P0:∀b o,b<w.heap.size+1+1->w3.frozen? (O b o)=_:=λb o h=>k0.frozen (p:=(O b o)) (by simpa using h);clear b0 hown' h0 o0 k0 t0;have Q0:w.heap.size+1<w3.heap.size:=(by omega)
  first
   |have h9:l.length=2:=hl
    obtain⟨V,hV⟩:=J ((((w3.setCell (O (w.heap.size+1) 2) (I x)).setCell (O (w.heap.size+1) 3) (I y)).setCell (O (w.heap.size+1) 4) (I z)).setCell (O (w.heap.size+1) 4) (I 0));have h8:=heap_setCell_same _ _ 4 _ _ (I 0) (heap_setCell_same _ _ 4 _ _ (I z) (heap_setCell_same _ _ 3 _ _ (I y) (heap_setCell_same _ _ 2 _ _ (I x) r1)));rw[<-hV]at h8;have hN:nd=⟨s[p].toNat,v,x,y,0,[]⟩:=(by rw[j0.out,HZ.2 (by simp)]);clear h9
   |have h9:l.length=1:=hl
    obtain⟨V,hV⟩:=J (((w3.setCell (O (w.heap.size+1) 2) (I x)).setCell (O (w.heap.size+1) 3) (I y)).setCell (O (w.heap.size+1) 3) (I 0));have h8:=heap_setCell_same _ _ 3 _ _ (I 0) (heap_setCell_same _ _ 3 _ _ (I y) (heap_setCell_same _ _ 2 _ _ (I x) r1));rw[<-hV]at h8;have hN:nd=⟨s[p].toNat,v,x,0,0,[]⟩:=(by rw[j0.out,HZ.1 (by simp),HZ.2 (by simp)]);clear h9
   |obtain⟨V,hV⟩:=J (((w3.setCell (O (w.heap.size+1) 2) (I x)).setCell (O (w.heap.size+1) 3) (I y)).setCell (O (w.heap.size+1) 4) (I z))
    have h8:=heap_setCell_same _ _ 4 _ _ (I z) (heap_setCell_same _ _ 3 _ _ (I y) (heap_setCell_same _ _ 2 _ _ (I x) r1));rw[<-hV]at h8;have hN:nd=⟨s[p].toNat,v,x,y,z,[]⟩:=j0.out
  have hr:V.heap[w.heap.size+1]?=some (.cells #[I nd.kind,I nd.ak,I nd.a,I nd.b,I nd.c,K] 73 (0,0)):=by
   rw[hN,h8];simp
  have l0:Below (w.heap.size+1) w3 V:=by
   rw[hV]
   repeat (refine Below.setCell ?_ (by simp) _)
   exact Below.refl _ _
  obtain⟨f0,f1,f2,f3,f4,f5⟩:=yuw hr;rw[hN]at f0 f1 f2 f3 f4;rw[hV]at f0 f1 f2 f3 f4 f5;simp only at f0 f1 f2 f3 f4;have HR:=Z (And.intro hr (And.intro l0 r0));have HN:=Z hN;have HV:=Z hV;clear hr l0 r0 r1 hN hl hV h8
  go_wp2_with fail
  rw[<-HV.out];have hr:=HR.1;have l0:=HR.2.1;have r0:=HR.2.2;have hN:=HN.out;have HP:=Z (zvw nd K V.heap.size V lE (by rw[j0.out];exact Zw.nil _ _));rw[hN]at HP;refine HP.mono ?_;rintro e w2 ⟨pv,rfl,E0,m0⟩;rw[<-hN]at E0;have y0:=(Array.getElem?_eq_some_iff.1 hr).1;have F0:=(m0.block _ y0).trans hr;have z0:=(m0.block _ (by omega)).trans ((l0.block w.heap.size (by omega)).trans r0);have n0:D w w2:=(x0.trans (l0.mono (by omega))).trans (m0.mono (by omega));have C0:w.heap.size+1<w2.heap.size:=Qj y0 m0.size;obtain⟨c0,c1,c2,c3,c4,c5⟩:=yuw F0;obtain⟨d0,d1,d2,d3,d4,d5⟩:=yuw z0
  have Y0:∀j,w2.frozen? (O w.heap.size j)=false:=λj=>by simp[frozen?,z0]
  obtain⟨q0,q1,q2,q3,q4,q5⟩:=zu7 (w1:=w2) (B:=w.heap.size) (I nd.kind) (I nd.ak) (I nd.a) (I nd.b) (I nd.c) K d0 d1 d2 d3 d4 d5;obtain⟨pao,pcap,rfl,_,R0,G0⟩:=E0;generalize hps:prem nd=ps at*;have H0:=Z hps;have I0:=Z G0;have J0:nd.ae=[]:=(by rw[j0.out]);have S0:=Z J0;clear hps G0 m0 O0 P0 HP e0 e1 e2 v0 r0 hr F0 z0 l0 hN j0 HZ HG J0 y0 HR HN HV f0 f1 f2 f3 f4 f5;unfold maxLen at R0;go_wp2
  go_loop [23] (λi=>∃j:Nat,j<=ps.length/\i=I j/\∀t,t<j->¬(k:Int)<=ps.getD t 0) (λi=>ps.length - (intOf i).toNat)
  case atStart=>exact⟨0,by omega,rfl,λt ht=>by omega⟩
  case round=>
   obtain⟨j,hj,rfl,K0⟩:=hrel;have A0:=Z K0;clear K0
   by_cases p0:j<ps.length
   ·obtain⟨pb,po,rfl,Z0,a0⟩:=I0 (by intro h;rw[h]at p0;simp at p0)
    have T0:=a0 j p0;obtain⟨xv,hx⟩:∃x,x=ps.getD j 0:=⟨_,rfl⟩;rw[<-hx]at T0;have L0:=Z hx;have a1:(j:Int)<(ps.length:Int):=(by omega);clear a0 hx
    by_cases U0:(k:Int)<=xv
    ·have B0:Y (bt p k nd n3=(fE,-1,(p:Int))):=by
      show _=_;unfold bt;rw[H0.out,G];rw[any_eq_true];exact⟨xv,by rw[L0.out];exact mo p0,by simpa using U0⟩
     go_wp2;exact bodyPost_ret (v:=.tuple #[.agg #[I nd.kind,I nd.ak,I nd.a,I nd.b,I nd.c,K],I (-1),I p]) (by simp[results,results37,go_sem,q0,q1,q2,q3,q4,q5]) rfl (zx5 B0 rfl ⟨⟨_,_,_,_,_,[]⟩,_,_,_,rfl⟩ (zv3 n0))
    go_wp2
    go_round
    case rel=>exact⟨j+1,by omega,by go_num,λt ht=>by
     by_cases h:t<j
     ·exact A0 t h
     have:t=j:=by omega
     subst this;rw[<-L0.out];omega⟩
    case measure=>simp[intOf];omega
   have B0:Y (bt p k nd n3=(nd,n3,0)):=by
    show _=_;unfold bt;rw[H0.out,U];rw[Bool.not_eq_true,any_eq_false];intro x hx;obtain⟨i,hi,rfl⟩:=getElem_of_mem hx;have:=A0 i (by omega);rw[Qa,Qb hi]at this;simpa using this
   clear A0 I0;go_wp2;exact bodyPost_ret (v:=.tuple #[.agg #[I nd.kind,I nd.ak,I nd.a,I nd.b,I nd.c,K],I n3,I 0]) (by simp[results,results37,go_sem,q0,q1,q2,q3,q4,q5]) rfl (yuy B0 rfl rfl (by rw[S0.out];exact Zw.nil _ _) (λb hb=>by simp[ownBlock]at hb) (zv3 n0))
def zw0(s:ByteArray):s.toList.length=s.size:=by rw[ByteArray.toList_eq];simp
def zjw(s:ByteArray)(p:Nat)(h:p<s.size):s.toList.getD p 0=s[p]:=by
 rw[ByteArray.toList_eq,Qa,Qb (by simpa using h)];rfl
def one_any(s:ByteArray)(p k:Nat)(w:World)(hs:s.size<=4611686018427387904)(hp:p<=s.size):
  E 37 #[.string s,I p,I k] w λe w'=>Ua (one s.toList p k) w e w':=by
 have aL:=zw0 s
 by_cases h0:p=s.size
 ·have:one s.toList p k=(fE,-1,(p:Int)):=by unfold one;rw[G (by omega)]
  rw[this,h0];exact one_end s k w hs
 have hp':p<s.size:=by omega
 have hg:=zjw s p hp';obtain⟨Wj,hF⟩:∃Wj,aP (s[p].toNat:Int)=Wj:=⟨_,rfl⟩
 have H:Y (∀w,E 48 #[I s[p].toNat] w (Rq (I Wj) w)):=λw=>by have:=zs9 (s[p].toNat:Int) w;rwa [hF]at this
 have e0:=eY (s[p].toNat:Int);rw[hF]at e0
 by_cases h1:Wj= -2
 ·have:one s.toList p k=(fE,-1,(p:Int)):=by unfold one;rw[U (by omega)];simp only[hg,hF];rw[G h1]
  rw[this];subst h1;exact yc1 s p k w hs hp' H
 obtain⟨v,n,b,hv⟩:∃v n b,num s.toList (p+1)=(v,n,b):=⟨_,_,_,rfl⟩;have H1:Y (∀w,E 35 #[.string s,I ((p:Int)+1)] w (Rq (.tuple #[I v,I n,I b]) w)):=λw=>yxy s _ w hs (by omega) (by omega) v n b (by rw[show ((p:Int)+1).toNat=p+1 from by omega];exact hv);have f0:=cA s.toList (p+1) (by omega);rw[hv,aL]at f0;simp only at f0
 by_cases h2:n<0
 ·have:one s.toList p k=(fE,-1,b):=by unfold one;rw[U (by omega)];simp only[hg,hF];rw[U h1];simp only[hv];rw[G h2]
  rw[this];exact one_lev s p k Wj v n b w hs hp' h1 h2 H H1
 by_cases h3:Wj= -1
 ·subst h3
  obtain⟨v2,n2,b2,c0⟩:∃v m b,num s.toList n.toNat=(v,m,b):=⟨_,_,_,rfl⟩;have H2:Y (∀w,E 35 #[.string s,I n] w (Rq (.tuple #[I v2,I n2,I b2]) w)):=λw=>yxy s _ w hs (by omega) (by omega) v2 n2 b2 c0;have d0:=cA s.toList n.toNat (by omega);rw[c0,aL]at d0;simp only at d0
  by_cases h4:n2<0
  ·have:one s.toList p k=(fE,-1,b2):=by unfold one;rw[U (by omega)];simp only[hg,hF];rw[U h1];simp only[hv];rw[U h2,G trivial];simp only[c0];rw[G h4]
   rw[this];exact ypx s p k v n b v2 n2 b2 b2 w hs hp' h2 (Or.inl ⟨h4,rfl⟩) H H1 H2
  by_cases h5:16<v2
  ·have:one s.toList p k=(fE,-1,n):=by unfold one;rw[U (by omega)];simp only[hg,hF];rw[U h1];simp only[hv];rw[U h2,G trivial];simp only[c0];rw[U h4,G h5]
   rw[this];exact ypx s p k v n b v2 n2 b2 n w hs hp' h2 (Or.inr ⟨h4,h5,rfl⟩) H H1 H2
  obtain⟨l,n3,b3,b0⟩:∃l n b,bW s.toList n2.toNat v2.toNat=(l,n,b):=⟨_,_,_,rfl⟩;have H3:∀w,E 36 #[.string s,I n2,I v2] w λe w'=>∃lv,e=.returned (.tuple #[lv,I n3,I b3])/\w'.ownsRow w.heap.size 3 1 lv l.length (l.map (int .i64))/\D w w':=λw=>ywy s _ _ w hs (by omega) (by omega) (by omega) (by omega) l n3 b3 b0;have a0:=ey s.toList n2.toNat v2.toNat (by omega);rw[b0,aL]at a0;simp only at a0
  by_cases h6:n3<0
  ·have:one s.toList p k=(fE,-1,b3):=by unfold one;rw[U (by omega)];simp only[hg,hF];rw[U h1];simp only[hv];rw[U h2,G trivial];simp only[c0];rw[U h4,U h5];simp only[b0];rw[G h6]
   rw[this];exact yc2 s p k v n b v2 n2 b2 n3 b3 w hs hp' h2 h4 h5 h6 H H1 H2 (λw=>(H3 w).mono λe w' ⟨lv,a,_,c⟩=>⟨lv,a,c⟩)
  have:one s.toList p k=bt p k ⟨s[p].toNat,v,0,0,0,l⟩ n3:=by unfold one;rw[U (by omega)];simp only[hg,hF];rw[U h1];simp only[hv];rw[U h2,G trivial];simp only[c0];rw[U h4,U h5];simp only[b0];rw[U h6]
  rw[this];exact ycy s p k v n b v2 n2 b2 n3 b3 l w h4 h5 h6 (by omega) hs hp' h2 H1 H H2 H3
 obtain⟨l,n3,b3,b0⟩:∃l m b,bW s.toList n.toNat Wj.toNat=(l,m,b):=⟨_,_,_,rfl⟩;have H3:∀w,E 36 #[.string s,I n,I Wj] w λe w'=>∃lv,e=.returned (.tuple #[lv,I n3,I b3])/\w'.ownsRow w.heap.size 3 1 lv l.length (l.map (int .i64))/\D w w':=λw=>ywy s _ _ w hs (by omega) (by omega) (by omega) (by omega) l n3 b3 b0;have a0:=ey s.toList n.toNat Wj.toNat (by omega);rw[b0,aL]at a0;simp only at a0
 by_cases h6:n3<0
 ·have:one s.toList p k=(fE,-1,b3):=by unfold one;rw[U (by omega)];simp only[hg,hF];rw[U h1];simp only[hv];rw[U h2,U h3];simp only[b0];rw[G h6]
  rw[this];exact ycx s p k Wj v n b n3 b3 w hs hp' h2 (by omega) e0.2 h6 H H1 (λw=>(H3 w).mono λe w' ⟨lv,a,_,c⟩=>⟨lv,a,c⟩)
 have:one s.toList p k=bt p k ⟨s[p].toNat,v,l.getD 0 0,l.getD 1 0,l.getD 2 0,[]⟩ n3:=by unfold one;rw[U (by omega)];simp only[hg,hF];rw[U h1];simp only[hv];rw[U h2,U h3];simp only[b0];rw[U h6]
 rw[this];have g0:l.length=Wj.toNat:=by
  rcases a0 with h|h
  ·omega
  exact h.2.2.1
 have i0:1<=Wj:=by
  have:Wj≠0:=by intro h;rw[h]at hF;unfold aP at hF;repeat' split at hF<;>omega
  omega
 exact one_f s p k Wj v n b n3 b3 l w hs hp' h2 h6 (by omega) H H1 H3
def zc7(r:(Is×List ar)×Bool×Int)(w:World)(e:Ending)(w':World):Prop:=
 D w w'/\∃la n lc na n' nc,e=.returned (.tuple #[.agg #[A la n lc,A na n' nc],.bool r.2.1,I r.2.2])/\(r.2.1=true->Zw w'.heap.size w' (A la n lc) r.1.1/\Zl w'.heap.size w' (A na n' nc) r.1.2)
def Uj{la na:Option Addr}{lc n' nc:Nat}{b:Int}{r:(Is×List ar)×Bool×Int}{e:Ending}(hr:r=(([],[]),false,b))(he:e=.returned (.tuple #[.agg #[A la n lc,A na n' nc],.bool false,I b]))(hb:D w w'):zc7 r w e w':=by
 subst hr;exact⟨hb,la,n,lc,na,n',nc,he,λh=>by simp at h⟩
def zq9(s:ByteArray)(i:Nat)(hi:i<3)(h:∀j,j<i->bN s.toList j=true)(hb:bN s.toList i=false):dy s.toList=i:=by
 unfold dy;rcases(show i=0\/i=1\/i=2 from by omega) with rfl|rfl|rfl
 ·rw[G hb]
 ·rw[U (by rw[h 0 (by omega)];simp),G hb]
 rw[U (by rw[h 0 (by omega)];simp),U (by rw[h 1 (by omega)];simp),G hb]
def yl7(s:ByteArray)(h:∀j,j<3->bN s.toList j=true):dy s.toList=3/\3<=s.size:=by
 have h2:=h 2 (by omega)
 constructor
 ·unfold dy;rw[U (by rw[h 0 (by omega)];simp),U (by rw[h 1 (by omega)];simp),U (by rw[h2];simp)]
 unfold bN at h2;rw[Qk,Qn]at h2;have:=zw0 s;omega
def yrv(s:ByteArray)(i:Nat)(h:¬i<s.size):bN s.toList i=false:=by
 unfold bN;rw[decide_eq_false (by rw[zw0];exact h)];rfl
def zlw(s:ByteArray)(i:Nat)(h:i<s.size):bN s.toList i=(s[i]==([70,80,49]:L).getD i 0):=by
 unfold bN;rw[decide_eq_true (by rw[zw0];exact h),zjw s i h];rfl
def zc8{x:UInt8}(h:((x.toNat:Int) !=(c.toNat:Int))=true):(x==c)=false:=by
 rw[bne_iff_ne]at h;rw[Qh];intro hh;exact h (by rw[hh])
def zc9{x:UInt8}(h:((x.toNat:Int) !=(c.toNat:Int))=false):(x==c)=true:=by
 rw[beq_iff_eq];apply UInt8.toNat_inj.1;have:(x.toNat:Int)=(c.toNat:Int):=by simpa using h
 omega
def yl8(w:World)(m:Nat):(w.drewN m).heap.size=w.heap.size:=by
 induction m with
 |zero=>rfl
 |succ m ih=>exact ih
def yl9(w:World)(m:Nat)(a:Addr):(w.drewN m).cell? a=w.cell? a:=by
 induction m with
 |zero=>rfl
 |succ m ih=>exact ih
def yuv(w:World)(m:Nat)(a:Addr):(w.drewN m).frozen? a=w.frozen? a:=by
 induction m with
 |zero=>rfl
 |succ m ih=>exact ih
def zuw(v0 v1:Value){o0 o1:Value}(h0:w1.cell? (O B 0)=some o0)(h1:w1.cell? (O B 1)=some o1):
  (w1.setCell (O B 0) v0).cell? (O B 0)=some v0/\((w1.setCell (O B 0) v0).setCell (O B 1) v1).cell? (O B 1)=some v1:=
 ⟨Uv h0,Uv (o:=o1) ((Jr (by decide)).trans h1)⟩
def Jf(h:Below B w w1):Below B w ((w1.setCell (O B 0) v0).setCell (O B 1) v1):=(h.setCell lE _).setCell lE _
def yyw{o:Obj}{x:Value}:∀j u,[x][j]?=some u->((w.alloc o).alloc (.cells #[x] e)).cell? (((O (w.heap.size+1) 0):Addr).add j)=some u:=by
 intro j u hj;have:=zvx (w:=w.alloc o) (e:=e) j u hj
 rwa [size_alloc]at this
def Tryz.infoNode:(Tryz.prog.info? 73).map (λi=>(i.zero,i.size,i.bytes))=some (some (.agg #[I 0,I 0,I 0,I 0,I 0,K]),6,64):=by kernel_rfl
def yq0(s:ByteArray)(w:World)(hs:s.size<=4611686018427387904):
  E 16 #[.string s] w λe w'=>zc7 (Fl.decode s.toList) w e w':=by
 obtain⟨i0,hi,M1,N1,O1⟩:=info_parts Tryz.infoInt;obtain⟨i1,P1,Q1,R1,S1⟩:=info_parts Tryz.infoNode
 go_enter func16,ntmps16
 go_wp2
 go_loopw [7] (λi wr=>∃j m:Nat,j<=3/\i=I j/\(∀t,t<j->bN s.toList t=true)/\wr=((w.alloc (.cells #[K,K] 30)).alloc (.cells #[K,K] 30)).drewN m) (λi _=>3 - (intOf i).toNat)
 case atStart=>exact⟨0,0,by omega,rfl,λt ht=>by omega,rfl⟩
 case round=>
  obtain⟨j,m,hj,rfl,aT,rfl⟩:=hrel;have HA:=Z aT;clear aT
  by_cases I0:j<3
  ·by_cases J0:j<s.size
   ·have K0:decide ((s.size:Int)<=(j:Int))=false:=by simp;omega
    have T0:(j:Int)<(s.size:Int):=(by omega);rcases(show j=0\/j=1\/j=2 from by omega) with rfl|rfl|rfl
    ·have t1:decide ((s.size:Int)<=0)=false:=decide_eq_false (by omega)
     have m0:decide (s.size=0)=false:=decide_eq_false (by omega);have t2:decide (s.size<=0)=false:=decide_eq_false (by omega);have U0:¬s.size=0:=(by omega);have u2:0<s.size:=(by omega);have u1:(0:Int)<(s.size:Int):=(by omega);have h0:=zlw s 0 J0;have k0:=Z h0;clear h0 K0 T0
     go_wp2_with fail
     go_quiet (fail)
     go_wp2
     ·have l0:((s[0].toNat:Int) !=(((⟨#[70,80,49]⟩:ByteArray)[0]'(by decide)).toNat:Int))=true:=by assumption
      have t0:Fl.decode s.toList=(([],[]),false,((0:Nat):Int)):=by
       have:=zq9 s 0 I0 HA (k0.trans (zc8 l0));unfold Fl.decode;rw[G (by omega),this]
      exact bodyPost_ret (v:=.tuple #[.agg #[K,K],.bool false,I ((0:Nat):Int)]) (by simp[results,results16,go_sem]) rfl (Uj t0 rfl (by repeat (first|exact(bA).alloc (by simp) _|apply Below.cE|(refine Below.setCell ?_ (by simp) _))))
     have l0:((s[0].toNat:Int) !=(((⟨#[70,80,49]⟩:ByteArray)[0]'(by decide)).toNat:Int))=false:=(by assumption)
     go_roundw
     case rel=>exact⟨1,_,by omega,rfl,λt ht=>by
      by_cases h:t<0
      ·exact HA t h
      have:t=0:=by omega
      subst this;exact k0.trans (zc9 l0),rfl⟩
     case measure=>simp[intOf]
    ·have t1:decide ((s.size:Int)<=1)=false:=decide_eq_false (by omega)
     have u1:(1:Int)<(s.size:Int):=(by omega);have h0:=zlw s 1 J0;have k0:=Z h0;clear h0 K0 T0
     go_wp2_with fail
     go_quiet (fail)
     go_wp2
     ·have l0:((s[1].toNat:Int) !=(((⟨#[70,80,49]⟩:ByteArray)[1]'(by decide)).toNat:Int))=true:=by assumption
      have t0:Fl.decode s.toList=(([],[]),false,((1:Nat):Int)):=by
       have:=zq9 s 1 I0 HA (k0.trans (zc8 l0));unfold Fl.decode;rw[G (by omega),this]
      exact bodyPost_ret (v:=.tuple #[.agg #[K,K],.bool false,I ((1:Nat):Int)]) (by simp[results,results16,go_sem]) rfl (Uj t0 rfl (by repeat (first|exact(bA).alloc (by simp) _|apply Below.cE|(refine Below.setCell ?_ (by simp) _))))
     have l0:((s[1].toNat:Int) !=(((⟨#[70,80,49]⟩:ByteArray)[1]'(by decide)).toNat:Int))=false:=(by assumption)
     go_roundw
     case rel=>exact⟨2,_,by omega,rfl,λt ht=>by
      by_cases h:t<1
      ·exact HA t h
      have:t=1:=by omega
      subst this;exact k0.trans (zc9 l0),rfl⟩
     case measure=>simp[intOf]
    have t1:decide ((s.size:Int)<=2)=false:=decide_eq_false (by omega);have u1:(2:Int)<(s.size:Int):=(by omega);have h0:=zlw s 2 J0;have k0:=Z h0;clear h0 K0 T0
    go_wp2_with fail
    go_quiet (fail)
    go_wp2
    ·have l0:((s[2].toNat:Int) !=(((⟨#[70,80,49]⟩:ByteArray)[2]'(by decide)).toNat:Int))=true:=by assumption
     have t0:Fl.decode s.toList=(([],[]),false,((2:Nat):Int)):=by
      have:=zq9 s 2 I0 HA (k0.trans (zc8 l0));unfold Fl.decode;rw[G (by omega),this]
     exact bodyPost_ret (v:=.tuple #[.agg #[K,K],.bool false,I ((2:Nat):Int)]) (by simp[results,results16,go_sem]) rfl (Uj t0 rfl (by repeat (first|exact(bA).alloc (by simp) _|apply Below.cE|(refine Below.setCell ?_ (by simp) _))))
    have l0:((s[2].toNat:Int) !=(((⟨#[70,80,49]⟩:ByteArray)[2]'(by decide)).toNat:Int))=false:=(by assumption)
    go_roundw
    case rel=>exact⟨3,_,by omega,rfl,λt ht=>by
     by_cases h:t<2
     ·exact HA t h
     have:t=2:=by omega
     subst this;exact k0.trans (zc9 l0),rfl⟩
    case measure=>simp[intOf]
   have K0:decide ((s.size:Int)<=(j:Int))=true:=(by simp;omega);have t0:Fl.decode s.toList=(([],[]),false,(j:Int)):=by
    have:=zq9 s j I0 HA (yrv s j J0);unfold Fl.decode;rw[G (by omega),this]
   have HD:=Z t0;clear t0
   go_wp2_with fail
   go_quiet (fail)
   go_wp2;exact bodyPost_ret (v:=.tuple #[.agg #[K,K],.bool false,I j]) (by simp[results,results16,go_sem]) rfl (Uj HD rfl (by repeat (first|exact(bA).alloc (by simp) _|apply Below.cE|(refine Below.setCell ?_ (by simp) _))))
  obtain⟨v1,v2⟩:=yl7 s (λt ht=>HA t (by omega));have aL:=zw0 s;obtain⟨n,t3,b,hv⟩:∃v m b,num s.toList 3=(v,m,b):=⟨_,_,_,rfl⟩;have h0:=cA s.toList 3 (by omega);rw[hv,aL]at h0;simp only at h0;have k0:=Z h0;have H1:Y (∀w,E 35 #[.string s,I 3] w (Rq (.tuple #[I n,I t3,I b]) w)):=λw=>yxy s 3 w hs (by omega) (by omega) n t3 b (by simpa using hv);have HV:=Z hv;have A0:=Z v1;have a0:=Z aL;clear hv h0 v1 aL HA
  by_cases h1:t3<0
  ·have HD:Y (Fl.decode s.toList=(([],[]),false,b)):=by unfold Fl.decode;rw[U (by have:=A0.out;omega)];simp only[HV.out];rw[G h1];rfl
   go_wp2_with (go_at_call 35;refine(H1 _).mono ?_;rintro e w' ⟨rfl,rfl⟩)
   exact bodyPost_ret (v:=.tuple #[.agg #[K,K],.bool false,I b]) (by simp[results,results16,go_sem]) rfl (Uj HD rfl (by repeat (first|exact(bA).alloc (by simp) _|apply Below.cE|(refine Below.setCell ?_ (by simp) _))))
  have T1:((3:Nat):Int)<t3/\t3<=(s.size:Int)/\0<=n:=(by have:=k0.out;omega);obtain⟨U1,V0,V1⟩:=T1
  by_cases h2:4<n
  ·have HD:Y (Fl.decode s.toList=(([],[]),false,3)):=by unfold Fl.decode;rw[U (by have:=A0.out;omega)];simp only[HV.out];rw[U h1,G h2];rfl
   go_wp2_with (go_at_call 35;refine(H1 _).mono ?_;rintro e w' ⟨rfl,rfl⟩)
   exact bodyPost_ret (v:=.tuple #[.agg #[K,K],.bool false,I 3]) (by simp[results,results16,go_sem]) rfl (Uj HD rfl (by repeat (first|exact(bA).alloc (by simp) _|apply Below.cE|(refine Below.setCell ?_ (by simp) _))))
  obtain⟨l,t4,b4,L0⟩:∃l m b,bW s.toList t3.toNat n.toNat=(l,m,b):=⟨_,_,_,rfl⟩;have n0:=ey s.toList t3.toNat n.toNat (by have:=a0.out;omega);rw[L0,a0.out]at n0;simp only at n0;have B0:=Z n0;have H2:Y (∀w,E 36 #[.string s,I t3,I n] w λe w'=>∃v,e=.returned (.tuple #[v,I t4,I b4])/\w'.ownsRow w.heap.size 3 1 v l.length (l.map (int .i64))/\D w w'):=λw=>ywy s t3 n w hs (by omega) V0 V1 (by omega) l t4 b4 L0;have M0:=Z L0;clear L0 n0
  go_wp2_with (go_at_call 35;refine(H1 _).mono ?_;rintro e w' ⟨rfl,rfl⟩)
  refine(H2 _).mono ?_;rintro e w1 ⟨lv,rfl,j0,y0⟩;have N0:(((w.alloc (.cells #[K,K] 30)).alloc (.cells #[K,K] 30)).drewN m).heap.size=w.heap.size+2:=(by rw[yl8];simp);rw[N0]at j0
  replace y0:=y0.mono (Nat.le_of_eq N0.symm)
  have y2:w.heap.size+1<w1.heap.size:=(by have:=y0.size;rw[N0]at this;omega);have C0:∀b o,b<w.heap.size+2->w1.cell? (O b o)=((w.alloc (.cells #[K,K] 30)).alloc (.cells #[K,K] 30)).cell? (O b o):=λb o h=>cT y0 h (yl9 _ _ _);have W0:∀b o,b<w.heap.size+2->w1.frozen? (O b o)=((w.alloc (.cells #[K,K] 30)).alloc (.cells #[K,K] 30)).frozen? (O b o):=λb o h=>(y0.frozen (p:=(O b o)) h).trans (yuv _ _ _);have z0:D w w1:=(Below.cE ((bA).alloc (by simp) _) m).trans (y0.mono (by omega));have c0:w1.cell? (O (w.heap.size+1) 0)=some K:=(by rw[C0 _ _ (by omega)];simp);have c1:w1.cell? (O (w.heap.size+1) 1)=some K:=(by rw[C0 _ _ (by omega)];simp);have d0:w1.cell? (O w.heap.size 0)=some K:=(by rw[C0 _ _ (by omega)];simp);have d1:w1.cell? (O w.heap.size 1)=some K:=(by rw[C0 _ _ (by omega)];simp)
  have f0:∀j,w1.frozen? (O w.heap.size j)=false:=λj=>by rw[W0 _ _ (by omega)];simp
  have f1:∀j,w1.frozen? (O (w.heap.size+1) j)=false:=λj=>by rw[W0 _ _ (by omega)];simp
  clear C0 W0 y0 N0 H1 H2
  by_cases h4:t4<0
  ·have HD:Y (Fl.decode s.toList=(([],[]),false,b4)):=by unfold Fl.decode;rw[U (by have:=A0.out;omega)];simp only[HV.out];rw[U (by omega),U (by omega)];simp only[M0.out];rw[G h4];rfl
   obtain⟨q0,q1⟩:=zuw (w1:=w1) (B:=w.heap.size) K K d0 d1;go_wp2;exact bodyPost_ret (v:=.tuple #[.agg #[K,K],.bool false,I b4]) (by simp[results,results16,go_sem,q0,q1]) rfl (Uj HD rfl (Jf z0))
  have W1:t3<=t4/\t4<=(s.size:Int)/\l.length<=4:=(by have:=B0.out;omega);obtain⟨X1,X0,z2⟩:=W1;obtain⟨Jb,t5,b5,O0⟩:∃v m b,num s.toList t4.toNat=(v,m,b):=⟨_,_,_,rfl⟩;have o0:=cA s.toList t4.toNat (by have:=a0.out;omega);rw[O0,a0.out]at o0;simp only at o0;have D0:=Z o0;have H3:Y (∀w,E 35 #[.string s,I t4] w (Rq (.tuple #[I Jb,I t5,I b5]) w)):=λw=>yxy s t4 w hs (by omega) X0 Jb t5 b5 O0;have Y0:=Z O0;clear O0 o0;obtain⟨lao,lcap,rfl⟩:=zax j0;have hF:Fam w (w1.setCell (O (w.heap.size+1) 0) (A lao l.length lcap)) (A lao l.length lcap) K [(A lao l.length lcap,l)] K K 0 0 [] []:=by
   have A2:(w1.setCell (O (w.heap.size+1) 0) (A lao l.length lcap)).heap.size=w1.heap.size:=(by simp[setCell]);refine⟨ownsRow_nil _ _ _ _,ownsRow_nil _ _ _ _,λp hp=>?_,Uv c0,(Jr (by decide)).trans c1,?_,?_,λj=>by rw[frozen?_setCell];exact f0 j,λj=>by rw[frozen?_setCell];exact f1 j,z0.setCell (by simp) _,by omega⟩
   ·simp only[mem_singleton]at hp;subst hp
    have bB:∀b,(A lao l.length lcap).ownBlock=some b->w.heap.size+2<=b:=λb hb=>(j0.lt b hb).1;refine⟨⟨Xf (Zw.dp j0) (λ_ hh=>by have h9:w.heap.size+2<=w.heap.size+1:=bB _ hh;omega),λhx=>?_⟩,λ_=>bB⟩;obtain⟨b,hb,_⟩:=zv0 (Zw.dp j0) hx;rw[hb];simp[ownBlock]
   ·have h9:(w1.setCell (O (w.heap.size+1) 0) (A lao l.length lcap)).cell? (O w.heap.size 0)=w1.cell? (O w.heap.size 0):=by apply Qg;intro hh;injection hh with h2;omega
    rw[h9];exact d0
   have h9:(w1.setCell (O (w.heap.size+1) 0) (A lao l.length lcap)).cell? (O w.heap.size 1)=w1.cell? (O w.heap.size 1):=(by apply Qg;intro hh;injection hh with h2;omega);rw[h9];exact d1
  have HF:=Z hF;have e0:=hF.c0;have e1:=hF.c1;have g0:=hF.f0;obtain⟨q0,q1⟩:=zuw (w1:=(w1.setCell (O (w.heap.size+1) 0) (A lao l.length lcap))) (B:=w.heap.size) (A lao l.length lcap) K hF.d0 hF.d1;have P0:=Z hF.hb;clear hF j0 z0
  by_cases h5:t5<0
  ·have HD:Y (Fl.decode s.toList=(([],[]),false,b5)):=by unfold Fl.decode;rw[U (by have:=A0.out;omega)];simp only[HV.out];rw[U (by omega),U (by omega)];simp only[M0.out];rw[U (by omega)];simp only[Y0.out];rw[G h5];rfl
   go_wp2_with (go_at_call 35;refine(H3 _).mono ?_;rintro e w' ⟨rfl,rfl⟩)
   exact bodyPost_ret (v:=.tuple #[.agg #[A lao l.length lcap,K],.bool false,I b5]) (by simp[results,results16,go_sem,q0,q1]) rfl (Uj HD rfl (Jf P0))
  have Y1:t4<t5/\t5<=(s.size:Int)/\0<=Jb:=(by have:=D0.out;omega);obtain⟨Z1,a2,b2⟩:=Y1
  by_cases h6:Jb<1\/200<Jb
  ·have HD:Y (Fl.decode s.toList=(([],[]),false,t4)):=by unfold Fl.decode;rw[U (by have:=A0.out;omega)];simp only[HV.out];rw[U (by omega),U (by omega)];simp only[M0.out];rw[U (by omega)];simp only[Y0.out];rw[U (by omega),G h6];rfl
   by_cases h7:Jb<1
   ·clear h6
    go_wp2_with (go_at_call 35;refine(H3 _).mono ?_;rintro e w' ⟨rfl,rfl⟩)
    exact bodyPost_ret (v:=.tuple #[.agg #[A lao l.length lcap,K],.bool false,I t4]) (by simp[results,results16,go_sem,q0,q1]) rfl (Uj HD rfl (Jf P0))
   have h8:200<Jb:=(by omega);clear h6
   go_wp2_with (go_at_call 35;refine(H3 _).mono ?_;rintro e w' ⟨rfl,rfl⟩)
   exact bodyPost_ret (v:=.tuple #[.agg #[A lao l.length lcap,K],.bool false,I t4]) (by simp[results,results16,go_sem,q0,q1]) rfl (Uj HD rfl (Jf P0))
  have h7:¬Jb<1:=(by omega);have h8:¬200<Jb:=(by omega);obtain⟨Mn,rfl⟩:=Int.eq_ofNat_of_zero_le b2;obtain⟨p0,rfl⟩:=Int.eq_ofNat_of_zero_le (show 0<=t5 from by omega)
  have Z0:Y (Fl.decode s.toList=(if 0<=(bV s.toList Mn 0 p0 [] []).2.2.2 then(([],[]),false,(bV s.toList Mn 0 p0 [] []).2.2.2) else
    if(bV s.toList Mn 0 p0 [] []).2.2.1<s.size then(([],[]),false,(bV s.toList Mn 0 p0 [] []).2.2.1) else
    if 0<=aJ (bV s.toList Mn 0 p0 [] []).1 then(([],[]),false,(bV s.toList Mn 0 p0 [] []).2.1.getD (aJ (bV s.toList Mn 0 p0 [] []).1).toNat 0) else((l,(bV s.toList Mn 0 p0 [] []).1),true,0))):=by
   unfold Fl.decode;rw[U (by have:=A0.out;omega)];simp only[HV.out];rw[U (by omega),U (by omega)];simp only[M0.out];rw[U (by omega)];simp only[Y0.out];rw[U (by omega),U (by omega)];rw[a0.out];rfl
  clear h6 k0 B0 D0
  go_wp2_with (go_at_call 35;refine(H3 _).mono ?_;rintro e w' ⟨rfl,rfl⟩)
  go_loopw [12,13,14] (λnx sv kk wr=>∃(k q:Nat) (nv:Value) (st:Is) (acc:List ar) (lvs:Vs),zxx s.toList Mn p0 w (A lao l.length lcap) l wr k q sv nv st acc lvs/\nx=I q/\kk=I k) (λ_ _ kk _=>Mn - (intOf kk).toNat)
  case atStart=>exact⟨0,p0,K,[],[],[],⟨by omega,by have:=a0.out;omega,rfl,rfl,rfl,by simp,HF⟩,rfl,rfl⟩
  case round=>
   clear e0 e1 g0 q0 q1 c0 c1 d0 d1 f0 f1 HF P0;obtain⟨k,q,nv,st,acc,lvs,hR,rfl,rfl⟩:=hrel;have HR:=Z hR;have B2:=hR.hk;have d2:q<=s.size:=(by have:=hR.hq;have:=a0.out;omega);have C2:=hR.hf.hz;obtain⟨nao,ncap,rfl⟩:=Yh hR.hf.hn;obtain⟨sao,scap,rfl⟩:=Yh hR.hf.hs;clear hR
   by_cases f2:k<Mn
   ·obtain⟨nd,af,fb,ho⟩:∃n a b,one s.toList q k=(n,a,b):=⟨_,_,_,rfl⟩
    have HO:Y (E 37 #[.string s,I q,I k] wr λe w'=>Ua (nd,af,fb) wr e w'):=(by have:=one_any s q k wr hs d2;rw[ho]at this;exact this);have s0:=iM s.toList q k HR.hq;rw[ho,a0.out]at s0;simp only at s0;have y1:=Z ho;have E0:=Z s0;have i2:(k:Int)<(Mn:Int):=(by omega);clear ho s0
    go_wp2_with fail
    refine(HO.out).mono ?_;rintro e w2 ⟨F0,xv,rfl,⟨nd',xao,xn,xcap,a1⟩,aS⟩;have D2:w.heap.size+1<w2.heap.size:=(by have:=F0.size;omega);have hz2':w.heap.size<w2.heap.size:=(by omega);simp only at aS⊢
    by_cases j2:af<0
    ·have HD:Y (Fl.decode s.toList=(([],[]),false,fb)):=by
      have Q0:bV s.toList Mn 0 p0 [] []=(acc,st,(q:Int),fb):=by
       rw[HR.ed,show Mn - k=(Mn - (k+1))+1 from by omega];simp only[bV,y1.out];rw[G j2]
      rw[Z0.out,Q0];simp only;rw[G (by have:=E0.out;omega)];rfl
     rw[a1];unfold Vt;have F2:=HR.hf.below F0;have e0:=F2.c0;have e1:=F2.c1;have g0:=F2.f0;have d0:=F2.d0;have d1:=F2.d1;obtain⟨q0,q1⟩:=zuw (w1:=w2) (B:=w.heap.size) (A lao l.length lcap) (A nao k ncap) F2.d0 F2.d1;have b1:=Z F2.hb
     have r0:∀o,(((w2.setCell (O w.heap.size 0) (A lao l.length lcap)).setCell (O w.heap.size 1) (A nao k ncap)).alloc o).cell? (O w.heap.size 0)=some (A lao l.length lcap):=λo=>by rw[Qf _ _ _ (by simp[setCell];omega),Jr (by decide)];exact q0
     have r1:∀o,(((w2.setCell (O w.heap.size 0) (A lao l.length lcap)).setCell (O w.heap.size 1) (A nao k ncap)).alloc o).cell? (O w.heap.size 1)=some (A nao k ncap):=λo=>by rw[Qf _ _ _ (by simp[setCell];omega)];exact q1
     clear F2 F0 aS a1;go_wp2;exact bodyPost_ret (v:=.tuple #[.agg #[(A lao l.length lcap),A nao k ncap],.bool false,I fb]) (by simp[results,results16,go_sem,q0,q1,r0,r1]) rfl (Uj HD rfl (by repeat (first|exact Jf b1.out|refine Below.alloc ?_ (by simp[setCell];omega) _)))
    obtain⟨lvn,z1,A1,k2⟩:=aS (by omega);have g1:=A1;obtain⟨vao,vcap,l2,_⟩:=g1;subst l2;rw[z1];unfold Vt;clear a1 z1 aS;have F2:=(HR.hf.below F0).add (N:=wr.heap.size) A1 k2 (λb hb=>(HR.hf.hs.lt b hb).2) (λb hb=>(HR.hf.hn.lt b hb).2) (by omega);have B1:=Z F2;have E2:=F0.size;have cZ:=HR.cZ
    have b0:Y (some w2.heap.size≠(A sao k scap).ownBlock):=λhh=>by have:=(HR.hf.hs.lt _ hh.symm).2;omega
    clear F2
    go_wp2_with (at_builtin;refine Ap underlying27 hi M1 N1 O1 rfl ((B1.alloc _).alloc _).hs rfl [I q] rfl rfl yyw ?c2 ?c3 ?c4 ?c5 ?_)
    case c2=>first|rfl|(intro u hu;simp at hu;subst hu;rfl)
    case c3=>unfold maxLen;omega
    case c4=>omega
    case c5=>first|omega|(simp;omega)
    intro sv' w3 u0 m0 C1;have F3:=((B1.alloc _).alloc _).first u0 m0 (by simpa only [size_alloc] using C1);have x0:M w3 w2.heap.size 0 (I nd.kind):=m0.cell (by rw[Qf _ _ _ (by simp),cell?_alloc_new];rfl) b0.out;have x1:M w3 w2.heap.size 1 (I nd.ak):=m0.cell (by rw[Qf _ _ _ (by simp),cell?_alloc_new];rfl) b0.out;have x2:M w3 w2.heap.size 2 (I nd.a):=m0.cell (by rw[Qf _ _ _ (by simp),cell?_alloc_new];rfl) b0.out;have x3:M w3 w2.heap.size 3 (I nd.b):=m0.cell (by rw[Qf _ _ _ (by simp),cell?_alloc_new];rfl) b0.out;have x4:M w3 w2.heap.size 4 (I nd.c):=m0.cell (by rw[Qf _ _ _ (by simp),cell?_alloc_new];rfl) b0.out;have x5:M w3 w2.heap.size 5 (A vao nd.ae.length vcap):=m0.cell (by rw[Qf _ _ _ (by simp),cell?_alloc_new];rfl) b0.out;have G2:w2.heap.size+1<w3.heap.size:=(by have:=m0.size;simp at this;omega);have hz3':w2.heap.size<w3.heap.size:=(by omega);have m2:w.heap.size+1<w3.heap.size:=(by omega);have e1:=F3.c1;obtain⟨sao',scap',rfl⟩:=Yh F3.hs;have D1:=Z F3;clear F3 u0 m0 C1 b0
    go_wp2_with (at_builtin;refine Ap underlying28 P1 Q1 R1 S1 rfl (D1.alloc _).hn rfl (Zc nd (A vao nd.ae.length vcap)) rfl rfl (zkv (Zc nd (A vao nd.ae.length vcap))) ?n2 ?n3 ?n4 ?n5 ?_)
    case n2=>intro u hu;simp[Zc]at hu;rcases hu with rfl|rfl|rfl|rfl|rfl|rfl<;>rfl
    case n3=>unfold maxLen;omega
    case n4=>omega
    case n5=>first|omega|(simp;omega)
    intro nv' w4 v0 U0 E1;have F4:=(D1.alloc _).second v0 U0 (by simpa only [size_alloc] using E1);obtain⟨nao',ncap',rfl⟩:=Yh F4.hn;have e2:=F4.c1;have g2:=F4.f1;have o2:=Z F4;clear F4 v0 U0 E1 x0 x1 x2 x3 x4 x5 e1;have j1:(q:Int)<af/\af<=(s.size:Int):=(by have:=E0.out;omega);obtain⟨p2,k1⟩:=j1;go_wp2
    go_roundw
    case rel=>exact⟨k+1,af.toNat,_,_,_,_,HR.step f2 y1 (by omega) (by rw[a0.out];exact k1) (o2.store _),by rw[Int.toNat_of_nonneg (by omega)],by go_num⟩
    case measure=>simp[intOf];omega
   have Q0:bV s.toList Mn 0 p0 [] []=(acc,st,(q:Int),-1):=by
    rw[HR.ed,show Mn - k=0 from by omega];rfl
   have G0:=Z0.out;rw[Q0]at G0;simp only at G0;rw[U (by omega)]at G0;have l1:=Z G0;have e0:=HR.hf.c0;have e1:=HR.hf.c1;have g0:=HR.hf.f0;have d0:=HR.hf.d0;have d1:=HR.hf.d1;have i2:¬(k:Int)<(Mn:Int):=(by omega);clear Q0 G0 Z0
   by_cases I2:q<s.size
   ·have HD:Y (Fl.decode s.toList=(([],[]),false,(q:Int))):=by rw[l1.out,G (by omega)];rfl
    obtain⟨q0,q1⟩:=zuw (w1:=wr) (B:=w.heap.size) (A lao l.length lcap) (A nao k ncap) d0 d1;have b1:=Z HR.hf.hb;have F1:(q:Int)<(s.size:Int):=(by omega);go_wp2;exact bodyPost_ret (v:=.tuple #[.agg #[(A lao l.length lcap),A nao k ncap],.bool false,I q]) (by simp[results,results16,go_sem,q0,q1]) rfl (Uj HD rfl (Jf b1))
   have F1:¬(q:Int)<(s.size:Int):=(by omega);have m1:Y (E 21 #[A nao k ncap] wr (Rw (I (aJ acc)) wr)):=zjy acc _ _ _ lE HR.nodes;obtain⟨sh,R0⟩:∃sh,aJ acc=sh:=⟨_,rfl⟩;rw[R0]at m1;have n1:=ks acc;rw[R0,HR.ee]at n1;have S0:Y (Fl.decode s.toList=if 0<=sh then(([],[]),false,st.getD sh.toNat 0) else((l,acc),true,0)):=(by rw[l1.out,U F1,R0];rfl);clear R0 l1
   go_wp2_with fail
   refine(m1.out).mono ?_;rintro e w5 ⟨rfl,o1⟩;have F5:=HR.hf.below o1;have e0':=F5.c0;have e1':=F5.c1;have g0':=F5.f0;have d0':=F5.d0;have d1':=F5.d1;obtain⟨q0,q1⟩:=zuw (w1:=w5) (B:=w.heap.size) (A lao l.length lcap) (A nao k ncap) F5.d0 F5.d1;have G1:=Z F5.hb;have p1:=F5.hs;have q2:=Z o1;clear F5 o1 m1 e0 e1 g0 d0 d1
   by_cases I1:0<=sh
   ·obtain⟨sn,rfl⟩:=Int.eq_ofNat_of_zero_le I1
    have s1:sn<k:=(by omega);obtain⟨g,gcap,J1,J2,K2,K1⟩:=yux p1 (by omega);simp only[slice.injEq]at J1;obtain⟨rfl,_,_⟩:=J1;have r2:=K1 sn (I (st.getD sn 0)) (by simp[Qa,HR.cZ,s1]);have H0:Y (Fl.decode s.toList=(([],[]),false,st.getD sn 0)):=(by rw[S0.out,G (by omega)];simp[Hid]);obtain⟨xs,L1⟩:∃x,x=st.getD sn 0:=⟨_,rfl⟩;rw[<-L1]at r2 H0;have L2:(sn:Int)<(k:Int):=(by omega);clear K1 L1 p1 S0
    have s2:∀(W:World) (o:Nat) (u:Value) (j:Nat),(W.setCell (O w.heap.size o) u).cell? (O g j)=W.cell? (O g j):=λW o u j=>by apply Qg;intro hh;injection hh with h2;omega
    go_wp2_with fail
    go_region
    all_goals
     go_wp2;exact bodyPost_ret (v:=.tuple #[.agg #[(A lao l.length lcap),A nao k ncap],.bool false,I xs]) (by simp[results,results16,go_sem,q0,q1]) rfl (Uj H0 rfl (by repeat (first|exact Jf G1.out|apply Below.drew)))
   have H0:Y (Fl.decode s.toList=((l,acc),true,0)):=(by rw[S0.out,U I1];rfl);clear p1 S0;go_wp2;exact bodyPost_ret (v:=.tuple #[.agg #[(A lao l.length lcap),A nao k ncap],.bool true,I 0]) (by simp[results,results16,go_sem,q0,q1]) rfl ⟨Jf G1,_,_,_,_,_,_,by rw[H0.out],λ_=>by rw[H0.out];exact HR.bG q2 _ _⟩
end Go.Proofs.YtgmbnnpnefniiaaGreatDoor
