import Derived.Test.YtaaejabalinojaaGreatDoorM28
set_option linter.all false
set_option maxRecDepth 100000
set_option maxHeartbeats 40000000
namespace Go.Proofs.YtaaejabalinojaaGreatDoor
open Go.RowKit Go.Proofs.Tryz
def Xu(lo base Rb Pb:Nat)(w0:World)(t:Nat)(res:Nat×Fl.RS)(e:Ending)(w':World):Prop:=
 e=.returned (.int .i64 res.1)/\(res.1=0->∃m' fl',Zu lo base Rb Pb w0 w' m'/\Zh res.2 fl' (t+1) m'/\Xf fl' res.2/\cnt fl'=res.2.stmts)/\(res.1≠0->Below lo w0 w')
def Jg(f:Fl.Frame)(fs:List Fl.Frame):Xg (f::fs)=Xg fs++[.int .u8 (Jh f:Nat)]:=by simp[Xg]
def zez(fs:List Fl.Frame):(Xg fs).length=fs.length:=by simp[Xg]
def zuy(fl:List FlS)(f:FlS):Ud (fl++[f])=Ud fl++Zo f:=by simp[Ud]
section
variable{r r':Fl.RS}{fl fl':List FlS}{t t':Nat}{m m':Yn}
def Zh.move(h:Zh r fl t m)(e1:r'.levels=r.levels)(e2:r'.cells=r.cells)(e3:r'.chans=r.chans)(e4:r'.locals=r.locals)(e5:r'.low=r.low)(e6:r'.high=r.high)(e7:r'.cellLv=r.cellLv)(e8:r'.chanLv=r.chanLv)(e9:r'.begun=r.begun)
  (hv:∀i,i≠8->i≠10->m'.n i=m.n i/\m'.xs i=m.xs i) (r8:m'.n 8=r'.fr.length/\m'.xs 8=Xg r'.fr) (r10:m'.n 10=fl'.length/\m'.xs 10=Ud fl') (hb:m'.begun=m.begun/\∀n t,zi6 m n t->zi6 m' n t) (st:m'.stmts=r'.stmts) (sm:r'.stmts<=16) (fr:r'.fr.length<=3) (ht:t<=t') (ft:fl'.length<=t'):Zh r' fl' t' m':=by
 have g:∀i,i≠8->i≠10->∀{k:Nat} {xs:List Value},m.n i=k/\m.xs i=xs->m'.n i=k/\m'.xs i=xs:=λi h1 h2 k xs hh=>⟨(hv i h1 h2).1.trans hh.1,(hv i h1 h2).2.trans hh.2⟩;exact{r1:=by rw[e1];exact g 1 (by decide) (by decide) h.r1,r2:=by rw[e2];exact g 2 (by decide) (by decide) h.r2,r3:=by rw[e3];exact g 3 (by decide) (by decide) h.r3,r4:=by rw[e4];exact g 4 (by decide) (by decide) h.r4,r5:=by rw[e5];exact g 5 (by decide) (by decide) h.r5,r6:=by rw[e6];exact g 6 (by decide) (by decide) h.r6,r8:=r8,r10:=r10,r12:=by rw[e7];exact g 12 (by decide) (by decide) h.r12,r13:=by rw[e8];exact g 13 (by decide) (by decide) h.r13,bg:=by rw[hb.1,e9];exact h.bg,st:=st,nm:=by rw[e1,e2,e3,e4];exact h.nm,lv:=by rw[e1];exact h.lv,ce:=by rw[e2];exact h.ce,ch:=by rw[e3];exact h.ch,lo:=by rw[e4];exact h.lo,sm:=sm,fr:=fr,lw:=by rw[e5];have:=h.lw;omega,ft:=ft,pr:=by rw[e5,e6];exact h.pr,bw:=by rw[e1,e5,e6];exact h.bw,cl:=by rw[e7,e2];exact h.cl,hl:=by rw[e8,e3];exact h.hl,lt:=λhh=>by unfold Fl.RS.tab;rw[e1,e5,e6];exact hb.2 _ _ (h.lt (e9.symm.trans hh))}
def Zh.elses(h:Zh r fl t m){f:Fl.Frame}{fs:List Fl.Frame}(hf:r.fr=f::fs)(hk:f.kind=5)(v8 v':Value):Zh r.elses (fl++[Xd]) (t+1) ((zy1 m v8 (m.n 8) (Xg fs++[.int .u8 101])).app 10 v' (Zo Xd)):=by
 have e:r.elses={r with fr:={f with had:=true}::fs}:=by unfold Fl.RS.elses;rw[hf]
 have h8:=h.r8;rw[hf]at h8;have b0:=h.ft;have a0:=h.fr;rw[hf]at a0;rw[e];refine h.move rfl rfl rfl rfl rfl rfl rfl rfl rfl (λi h1 h2=>?_) ⟨?_,?_⟩ ⟨?_,?_⟩ ⟨rfl,λ_ _ h=>h⟩ h.st h.sm a0 (by omega) (by simp;omega)
 ·show (if i=10 then _ else if i=8 then _ else m.n i)=_/\(if i=10 then _ else if i=8 then _ else m.xs i)=_
  simp[h1,h2]
 ·exact h8.1
 ·show Xg fs++[.int .u8 101]=Xg ({f with had:=true}::fs)
  rw[Jg];simp[Jh,hk]
 ·show m.n 10+1=_
  rw[h.r10.1];simp
 show m.xs 10++_=_;rw[h.r10.2,zuy]
def ends_fr{f:Fl.Frame}{fs:List Fl.Frame}(hf:r.fr=f::fs):r.ends.fr.length=fs.length/\Xg r.ends.fr=Xg fs:=by
 unfold Fl.RS.ends;rw[hf]
 cases fs with
 |nil=>exact⟨rfl,rfl⟩
 |cons g gs=>
  refine⟨rfl,?_⟩;show Xg ((if g.had then _ else _)::gs)=_;rw[Jg,Jg]
  cases hg:g.had<;>simp[Jh,hg]
def zey{f:Fl.Frame}{fs:List Fl.Frame}(hf:r.fr=f::fs):r.ends.levels=r.levels/\r.ends.cells=r.cells/\r.ends.chans=r.chans/\r.ends.locals=r.locals/\r.ends.low=r.low/\r.ends.high=r.high/\r.ends.cellLv=r.cellLv/\r.ends.chanLv=r.chanLv/\r.ends.begun=r.begun/\r.ends.stmts=r.stmts:=by
 unfold Fl.RS.ends;rw[hf]
 cases fs<;>exact⟨rfl,rfl,rfl,rfl,rfl,rfl,rfl,rfl,rfl,rfl⟩
def Zh.ends(h:Zh r fl t m){f:Fl.Frame}{fs:List Fl.Frame}(hf:r.fr=f::fs)(v8 v':Value):Zh r.ends (fl++[Xl]) (t+1) ((zy1 m v8 fs.length (Xg fs)).app 10 v' (Zo Xl)):=by
 obtain⟨e1,e2,e3,e4,e5,e6,e7,e8,e9,e10⟩:=zey hf;obtain⟨f1,f2⟩:=ends_fr hf;have b0:=h.ft;have a0:=h.fr;rw[hf,List.length_cons]at a0;refine h.move e1 e2 e3 e4 e5 e6 e7 e8 e9 (λi h1 h2=>?_) ⟨f1.symm,f2.symm⟩ ⟨?_,?_⟩ ⟨rfl,λ_ _ h=>h⟩ (by rw[e10];exact h.st) (by rw[e10];exact h.sm) (by rw[f1];omega) (by omega) (by simp;omega)
 ·show (if i=10 then _ else if i=8 then _ else m.n i)=_/\(if i=10 then _ else if i=8 then _ else m.xs i)=_
  simp[h1,h2]
 ·show m.n 10+1=_
  rw[h.r10.1];simp
 show m.xs 10++_=_;rw[h.r10.2,zuy]
def yz6(s:Fl.Stmt):(r.put s).levels=r.levels/\(r.put s).cells=r.cells/\(r.put s).chans=r.chans/\(r.put s).locals=r.locals/\(r.put s).low=r.low/\(r.put s).high=r.high/\(r.put s).cellLv=r.cellLv/\(r.put s).chanLv=r.chanLv/\(r.put s).begun=r.begun/\(r.put s).stmts=r.stmts+1/\(r.put s).fr.length=r.fr.length/\Xg (r.put s).fr=Xg r.fr:=by
 unfold Fl.RS.put
 cases hf:r.fr with
 |nil=>exact⟨rfl,rfl,rfl,rfl,rfl,rfl,rfl,rfl,rfl,rfl,rfl,rfl⟩
 |cons g gs=>
  refine⟨rfl,rfl,rfl,rfl,rfl,rfl,rfl,rfl,rfl,rfl,rfl,?_⟩;show Xg ((if g.had then _ else _)::gs)=_;rw[Jg,Jg]
  cases hg:g.had<;>simp[Jh,hg]
def Zh.put(h:Zh r fl t m)(s:Fl.Stmt)(f:FlS)(hs:r.stmts<16)(v':Value):Zh (r.put s) (fl++[f]) (t+1) {m.app 10 v' (Zo f) with stmts:=r.stmts+1}:=by
 obtain⟨e1,e2,e3,e4,e5,e6,e7,e8,e9,e10,f1,f2⟩:=yz6 (r:=r) s;have a0:=h.ft;have b0:=h.fr;refine h.move e1 e2 e3 e4 e5 e6 e7 e8 e9 (λi h1 h2=>?_) ⟨?_,?_⟩ ⟨?_,?_⟩ ⟨rfl,λ_ _ h=>h⟩ (by rw[e10]) (by rw[e10];omega) (by rw[f1];omega) (by omega) (by simp;omega)
 ·show (if i=10 then _ else m.n i)=_/\(if i=10 then _ else m.xs i)=_
  simp[h2]
 ·rw[f1];exact h.r8.1
 ·rw[f2];exact h.r8.2
 ·show m.n 10+1=_
  rw[h.r10.1];simp
 show m.xs 10++_=_;rw[h.r10.2,zuy]
def Zh.opens(h:Zh r fl t m)(kind line:Nat)(e:Fl.Expr)(hs:r.stmts<16)(hl:r.fr.length<3)(v' v8:Value)(c:Nat)(hc:c=if kind=6 then 119 else 105):Zh (r.opens kind line e) (fl++[⟨0,⟨kind,0,line,e,[],[]⟩⟩]) (t+1) ({m.app 10 v' (Zo ⟨0,⟨kind,0,line,e,[],[]⟩⟩) with stmts:=r.stmts+1}.app 8 v8 [.int .u8 (c:Nat)]):=by
 have a0:=h.ft;refine h.move rfl rfl rfl rfl rfl rfl rfl rfl rfl (λi h1 h2=>?_) ⟨?_,?_⟩ ⟨?_,?_⟩ ⟨rfl,λ_ _ h=>h⟩ rfl (by show r.stmts+1<=16;omega) (by show (_::r.fr).length<=3;simp;omega) (by omega) (by simp;omega)
 ·show (if i=8 then _ else if i=10 then _ else m.n i)=_/\(if i=8 then _ else if i=10 then _ else m.xs i)=_
  simp[h1,h2]
 ·show m.n 8+1=(_::r.fr).length
  rw[h.r8.1];simp
 ·show m.xs 8++_=Xg (_::r.fr)
  rw[h.r8.2,Jg,hc];simp[Jh]
 ·show m.n 10+1=_
  rw[h.r10.1];simp
 show m.xs 10++_=_;rw[h.r10.2,zuy]
def yn9(ws:List (List UInt8)):(r.head ws).2.top=r.top/\(r.head ws).2.fr=r.fr/\(r.head ws).2.stmts=r.stmts:=by
 unfold Fl.RS.head
 repeat' split
 all_goals exact⟨rfl,rfl,rfl⟩
def Xf.same(h:Xf fl r)(e1:r'.top=r.top)(e2:r'.fr=r.fr):Xf fl r':=by
 obtain⟨a,b,h1,h2,h3⟩:=h;exact⟨a,b,h1,by rw[e1];exact h2,by rw[e2];exact h3⟩
def Yl.row{lo base Rb Pb:Nat}{w0 w':World}{ws:List (List UInt8)}{e:Ending}(hf:Xf fl r)(hc:cnt fl=r.stmts)(h:Yl lo base Rb Pb w0 fl t (r.head ws) e w'):Xu lo base Rb Pb w0 t (r.head ws) e w':=by
 obtain⟨h1,h2,h3⟩:=h;obtain⟨s1,s2,s3⟩:=yn9 (r:=r) ws;refine⟨h1,λh0=>?_,h3⟩;obtain⟨m',hm,hr⟩:=h2 h0;exact⟨m',fl,hm,hr,hf.same s1 s2,by rw[s3];exact hc⟩
end
end Go.Proofs.YtaaejabalinojaaGreatDoor
