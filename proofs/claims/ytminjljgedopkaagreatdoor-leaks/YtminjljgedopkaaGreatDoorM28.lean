import Derived.Test.YtminjljgedopkaaGreatDoorM20
set_option linter.all false
set_option maxRecDepth 100000
set_option maxHeartbeats 40000000
namespace Go.Proofs.YtminjljgedopkaaGreatDoor
open Go.RowKit Go.Proofs.Tryz
def zr4(c:Int)(n:Nat):Nat:=(if c<0 then -(c+1) else c).toNat % n
def yqw(c:Int){n:Nat}(h:0<n):zr4 c n<n:=Nat.mod_lt _ h
def slice_upto(V:World)(ao:Option Addr)(n cap k:Nat)(hk:k<=cap):(Instr.slice 30 (.slice ao n cap) none (some (.int .i64 k)) none).run prog V=.ok (.slice ao k cap) V:=by
 have h1:(k:Int)<=(cap:Int):=by omega
 simp[Instr.slice,run_underlying underlying30,Instr.sliceBounds,Instr.sliceBound,asIntOf,go_sem,h1];intro hh;omega
def yqv{c:Int}(n:Nat)(h:c<0): -((c+1).tmod (n:Int))=((zr4 c n:Nat):Int):=by
 unfold zr4;rw[if_pos h];obtain⟨d,hd⟩:∃d:Nat,c+1= -(d:Int):=⟨(-(c+1)).toNat,by omega⟩;rw[hd,Int.neg_tmod,Int.neg_neg,Int.neg_neg,Int.toNat_natCast];rfl
def yp0{c:Int}(n:Nat)(h:¬c<0):c % (n:Int)=((zr4 c n:Nat):Int):=by
 unfold zr4;rw[if_neg h];obtain⟨d,rfl⟩:∃d:Nat,c=(d:Int):=⟨c.toNat,by omega⟩;rw[Int.toNat_natCast];rfl
def ys5(c:Int)(n:Nat)(w:World)(hc: -9223372036854775808<=c/\c<=9223372036854775807)(hn:0<n/\n<=1000000000):Calls prog 15 #[.int .i64 c,.int .i64 n] w λe w'=>e=.returned (.int .i64 (zr4 c n:Nat))/\w'=w:=by
 have hn0:((n:Int)==0)=false:=beq_eq_false_iff_ne.2 (by omega)
 have hn1:0<(n:Int):=by omega
 by_cases h:c<0
 ·have HP:=Zz (yqv n h)
  go_enter func15,ntmps15
  go_wp2;go_ret;refine⟨?_,rfl⟩;rw[<-HP.out];rfl
 ·have HP:=Zz (yp0 n h)
  go_enter func15,ntmps15
  go_wp2;go_ret;refine⟨?_,rfl⟩;rw[<-HP.out];rfl
end Go.Proofs.YtminjljgedopkaaGreatDoor
