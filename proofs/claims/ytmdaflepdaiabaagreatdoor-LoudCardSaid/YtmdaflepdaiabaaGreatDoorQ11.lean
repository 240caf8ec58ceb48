import Derived.Laws.Bits64b
import Derived.Lib.TrailingZeros
import Derived.Laws.ShiftsVar
import Derived.Laws.ShiftsVarLaws
import Derived.Shelf.Spec.TrailingZeros
import Derived.RangeFuncNested
import Derived.RangeFuncBound
import Derived.RangeFuncCalls
import Derived.RangeFuncLeaves
import Derived.RangeFuncBox
import Derived.Shelf.Abstract
import Derived.Shelf.RegionOpen
import Derived.WalkKit
import Derived.OwnWalkIn
import Derived.TacticsInMore
import Derived.LoopNIn
import Derived.LoopIn
import Derived.Test.YtmdaflepdaiabaaGreatDoorQ00
set_option linter.unusedSimpArgs false
set_option linter.unusedVariables false
namespace Go.Proofs.YtmdaflepdaiabaaGreatDoor
section
open Go
def bI:Nat:=18446744073709551616
def dg(a b:Nat):Nat:=(a&&&b)%bI
def fa(a b:Nat):Nat:=(a|||b)%bI
def bj(a b:Nat):Nat:=(a%bI)&&&(bI-1-b%bI)
def aC(n:Nat):Nat:=2^n%bI
def cj(a:Nat):Nat:=(a+(bI-1))%bI
def dB(a n:Nat):Bool:=dg a (aC n)!=0
theorem oE(a b:Nat):dg a b< bI:=Nat.mod_lt _ (by decide)
theorem fT(a b:Nat):fa a b< bI:=Nat.mod_lt _ (by decide)
theorem xt(n:Nat):aC n< bI:=Nat.mod_lt _ (by decide)
theorem gP(a:Nat):cj a< bI:=Nat.mod_lt _ (by decide)
theorem dN(a b:Nat):bj a b< bI:=Nat.lt_of_le_of_lt Nat.and_le_left (Nat.mod_lt _ (by decide))
theorem fS(a:Nat):(BitVec.ofInt 64 (a:Int)).toNat=a%bI:=by
 rw[BitVec.ofInt_natCast,BitVec.toNat_ofNat];rfl
theorem yC(a b:Nat):(a%bI)&&&(b%bI)=dg a b:=by
 unfold dg bI
 exact(Nat.and_mod_two_pow (a:=a) (b:=b) (n:=64)).symm
theorem zJ(a b:Nat):(a%bI)|||(b%bI)=fa a b:=by
 unfold fa bI
 exact(Nat.or_mod_two_pow (a:=a) (b:=b) (n:=64)).symm
theorem dt(a b:Nat):bits .and .u64 (a:Int) (b:Int)=((dg a b:Nat):Int):=by
 show IntKind.u64.wrap ((BitVec.ofInt 64 (a:Int)&&&BitVec.ofInt 64 (b:Int)).toNat:Int)=_
 rw[BitVec.toNat_and,fS,fS,yC,IntKind.wrap_u64]
 have:=oE a b
 unfold bI at this
 omega
theorem cG(a b:Nat):bits .or .u64 (a:Int) (b:Int)=((fa a b:Nat):Int):=by
 show IntKind.u64.wrap ((BitVec.ofInt 64 (a:Int)|||BitVec.ofInt 64 (b:Int)).toNat:Int)=_
 rw[BitVec.toNat_or,fS,fS,zJ,IntKind.wrap_u64]
 have:=fT a b
 unfold bI at this
 omega
theorem cI(a b:Nat):bits .andNot .u64 (a:Int) (b:Int)=((bj a b:Nat):Int):=by
 show IntKind.u64.wrap ((BitVec.ofInt 64 (a:Int)&&&~~~ BitVec.ofInt 64 (b:Int)).toNat:Int)=_
 rw[BitVec.toNat_and,BitVec.toNat_not,fS,fS,IntKind.wrap_u64]
 have:=dN a b
 show(((a%bI)&&&(2^64-1-b%bI):Nat):Int)%18446744073709551616=((bj a b:Nat):Int)
 have e:(a%bI)&&&(2^64-1-b%bI)=bj a b:=rfl
 rw[e]
 unfold bI at this
 omega
theorem fR(n:Nat):IntKind.u64.wrap (2^n)=((aC n:Nat):Int):=by
 rw[IntKind.wrap_u64]
 unfold aC bI
 rw[Int.natCast_emod,Int.natCast_pow]
 rfl
theorem ii(a:Nat):IntKind.u64.wrap ((a:Int)-1)=((cj a:Nat):Int):=by
 rw[IntKind.wrap_u64]
 unfold cj bI
 omega
theorem iR(a:Nat):(((a:Nat):Int)!=0)=(a !=0):=by
 rw[Bool.eq_iff_iff];simp
theorem il{a n:Nat}(ha:a< bI)(h:a.testBit n=true):n< 64:=by
 rcases Nat.lt_or_ge n 64 with x|x
 ·exact x
 ·have:a< 2^n:=Nat.lt_of_lt_of_le ha (by show 2^64≤_;exact Nat.pow_le_pow_right (by decide) x)
  rw[Nat.testBit_lt_two_pow this]at h;cases h
theorem oD{n:Nat}(h:n< 64):aC n=2^n:=Nat.mod_eq_of_lt (by show 2^n< 2^64;exact Nat.pow_lt_pow_right (by decide) h)
theorem eN(a b n:Nat):(fa a b).testBit n=(decide (n< 64)&&(a.testBit n||b.testBit n)):=by
 unfold fa
 show((a|||b)%2^64).testBit n=_
 rw[Nat.testBit_mod_two_pow,Nat.testBit_or]
theorem eB(a b n:Nat):(bj a b).testBit n=(decide (n< 64)&&a.testBit n&&!b.testBit n):=by
 unfold bj
 show((a%2^64)&&&(2^64-1-b%2^64)).testBit n=_
 have hb:b%2^64< 2^64:=Nat.mod_lt _ (by decide)
 rw[Nat.testBit_and,Nat.testBit_mod_two_pow,show 2^64-1-b%2^64=2^64-(b%2^64+1)by omega,Nat.testBit_two_pow_sub_succ hb,Nat.testBit_mod_two_pow]
 cases decide (n< 64)<;>simp
theorem fM{n:Nat}(hn:n< 64)(k:Nat):(aC n).testBit k=decide (n=k):=by
 rw[oD hn,Nat.testBit_two_pow]
def els(s:Nat):List Nat:=(List.range 64).filter s.testBit
theorem hU:els 0=[]:=by decide
theorem iw{s n:Nat}(h:n∈els s):n< 64∧s.testBit n=true:=by
 unfold els at h
 rw[List.mem_filter,List.mem_range]at h
 exact h
theorem uE{s k:Nat}(hk:k< 64)(h1:s.testBit k=true)(h0:∀j,j< k→s.testBit j=false):els s=k::els (bj s (aC k)):=by
 unfold els
 have e:List.range 64=List.range k++(k::(List.range (63-k)).map (·+(k+1))):=by
  have h2:List.range 64=List.range (k+(1+(63-k))):=by congr 1;omega
  rw[h2,List.range_add,List.range_add]
  simp only[List.map_append,List.map_map]
  congr 1
  show[k+0]++_=_
  rw[Nat.add_zero]
  show k::_=_
  congr 1
  apply List.map_congr_left
  intro a _
  show k+(1+a)=a+(k+1)
  omega
 rw[e,List.filter_append,List.filter_append,List.filter_cons,List.filter_cons,if_pos h1]
 have z1:(List.range k).filter s.testBit=[]:=by
  rw[List.filter_eq_nil_iff]
  intro a ha
  rw[h0 a (List.mem_range.1 ha)];decide
 have z2:(List.range k).filter (bj s (aC k)).testBit=[]:=by
  rw[List.filter_eq_nil_iff]
  intro a ha
  rw[eB,h0 a (List.mem_range.1 ha)];simp
 have z3:(bj s (aC k)).testBit k=false:=by rw[eB,fM hk];simp
 rw[z1,z2,if_neg (by rw[z3];decide),List.nil_append,List.nil_append]
 congr 1
 apply List.filter_congr
 intro a ha
 obtain⟨b,hb,rfl⟩:=List.mem_map.1 ha
 have:=List.mem_range.1 hb
 rw[eB,fM hk]
 have h3:b+(k+1)< 64:=by omega
 have h4:¬k=b+(k+1):=by omega
 simp[h3,h4]
theorem eY{x:Nat}(h0:x≠0)(h:x< bI):Lib.ctz 64 x< 64∧x.testBit (Lib.ctz 64 x)=true∧∀j,j< Lib.ctz 64 x→x.testBit j=false:=by
 obtain⟨m,e,hl⟩:=Lib.ctzFrom_spec 64 x (by omega) h
 have ec:Lib.ctz 64 x=Lib.ctzFrom 64 x:=by unfold Lib.ctz;rw[if_neg h0]
 rw[ec]
 refine⟨hl,?_,fun j hj=>?_⟩
 ·have:(2^Lib.ctzFrom 64 x*(2*m+1)).testBit (Lib.ctzFrom 64 x)=true:=by
   rw[Nat.testBit_two_pow_mul]
   simp
  rw[←e]at this;exact this
 ·have:(2^Lib.ctzFrom 64 x*(2*m+1)).testBit j=false:=by
   rw[Nat.testBit_two_pow_mul]
   simp;omega
  rw[←e]at this;exact this
theorem dq{x:Nat}(h0:x≠0)(h:x< bI):els x=Lib.ctz 64 x::els (bj x (aC (Lib.ctz 64 x))):=uE (eY h0 h).1 (eY h0 h).2.1 (eY h0 h).2.2
theorem fd{x:Nat}(h0:x≠0)(h:x< bI):bj x (aC (Lib.ctz 64 x))< x:=by
 have hc:=eY h0 h
 have hle:bj x (aC (Lib.ctz 64 x))≤x:=Nat.le_trans Nat.and_le_left (Nat.mod_le _ _)
 rcases Nat.lt_or_ge (bj x (aC (Lib.ctz 64 x))) x with a|a
 ·exact a
 ·have e:bj x (aC (Lib.ctz 64 x))=x:=by omega
  have:=eB x (aC (Lib.ctz 64 x)) (Lib.ctz 64 x)
  rw[e,fM hc.1,hc.2.1]at this
  simp at this
abbrev El(s:Nat):={x:Nat//x< 64∧s.testBit x=true}
def jZ(s:Nat):List (El s):=(els s).attach.map (fun x=>⟨x.1,iw x.2⟩)
theorem cF(s:Nat):(jZ s).map (·.1)=els s:=by
 unfold jZ
 rw[List.map_map]
 exact(List.attach_map_subtype_val (els s))
theorem kJ{s:Nat}{pre:List (El s)}(h:pre.map (·.1)=els s):pre=jZ s:=by
 rw[←cF]at h
 exact List.map_inj_right (f:=fun x:El s=>x.1) (fun a b e=>Subtype.ext e) |>.1 h
theorem jj(s:Nat):(els s).length≤64:=by
 unfold els
 exact Nat.le_trans (List.length_filter_le _ _) (by simp)
end
section
structure Fs where
 p:Ph:={}
 r:List Pa:=[]
 fn:Nat:=0
 nx:Int:=0
 ins:Int:=0
structure Rp where
 main:Nat:=0
 mutexes:Nat:=0
 begins:List Nat:=[]
 stmts:List Fs:=[]
 starts:List Nat:=[]
 spots:Nat:=0
 twice:Nat:=0
 runs:List Nat:=[]
 below:List Nat:=[]
 ends:Nat:=0
namespace Rp
def st(x:Rp)(s:Nat):Fs:=x.stmts.getD s {}
def spot(x:Rp)(f:Nat)(place:Int):Nat:=if place=-1 then x.ends+f else place.toNat
def nextOf(x:Rp)(s:Nat):Nat:=
 if(x.st s).p.kind=12 then 0
 else if(x.st s).p.kind=13∨(x.st s).p.kind=14 then fa (aC (x.spot (x.st s).fn (x.st s).nx)) (aC (x.spot (x.st s).fn (x.st s).ins))
 else aC (x.spot (x.st s).fn (x.st s).nx)
def isCall(x:Rp)(s:Nat):Bool:=(x.st s).p.kind==11
def isStart(x:Rp)(s:Nat):Bool:=(x.st s).p.kind==7
def comeOf(x:Rp)(s:Nat):Nat:=if x.isCall s||x.isStart s then fa (x.nextOf s) (aC (x.begins.getD (x.st s).p.nn 0))else x.nextOf s
end Rp
end
section
set_option maxRecDepth 100000
set_option maxHeartbeats 1000000
open Go.RowKit
theorem gy(n:Nat)(hn:n< 64)(w:World):
  Calls Tryz.prog 89 #[.int .i64 n] w fun r w'=>r=.returned (.int .u64 (aC n:Nat))∧w'=w:=by
 have r1:=fR
 go_enter Tryz.func89,Tryz.ntmps89
 go_wp2_with fail
 go_ret
 exact⟨rfl,rfl⟩
theorem gX(n:Nat)(hn:n< 64)(w:World):
  Calls Tryz.prog 115 #[.int .i64 n] w fun r w'=>r=.returned (.int .u64 (aC n:Nat))∧w'=w:=by
 have r1:=fR
 go_enter Tryz.func115,Tryz.ntmps115
 go_wp2_with fail
 go_ret
 exact⟨rfl,rfl⟩
theorem qm(n:Nat)(hn:n< 64)(w:World):
  Calls Tryz.prog 153 #[.int .i64 n] w fun r w'=>r=.returned (.int .u64 (aC n:Nat))∧w'=w:=by
 have r1:=fR
 go_enter Tryz.func153,Tryz.ntmps153
 go_wp2_with fail
 go_ret
 exact⟨rfl,rfl⟩
theorem mn(n:Nat)(hn:n< 64)(w:World):
  Calls Tryz.prog 157 #[.int .i64 n] w fun r w'=>r=.returned (.int .u64 (aC n:Nat))∧w'=w:=by
 have r1:=fR
 go_enter Tryz.func157,Tryz.ntmps157
 go_wp2_with fail
 go_ret
 exact⟨rfl,rfl⟩
theorem lJ(n:Nat)(hn:n< 64)(w:World):
  Calls Tryz.prog 173 #[.int .i64 n] w fun r w'=>r=.returned (.int .u64 (aC n:Nat))∧w'=w:=by
 have r1:=fR
 go_enter Tryz.func173,Tryz.ntmps173
 go_wp2_with fail
 go_ret
 exact⟨rfl,rfl⟩
theorem dZ(n:Nat)(hn:n< 64)(w:World):
  Calls Tryz.prog 192 #[.int .i64 n] w fun r w'=>r=.returned (.int .u64 (aC n:Nat))∧w'=w:=by
 have r1:=fR
 go_enter Tryz.func192,Tryz.ntmps192
 go_wp2_with fail
 go_ret
 exact⟨rfl,rfl⟩
theorem jh(a n:Nat)(hn:n< 64)(w:World):
  Calls Tryz.prog 137 #[.int .u64 a,.int .i64 n] w fun r w'=>r=.returned (.bool (dB a n))∧w'=w:=by
 have r1:=dt
 have r2:=iR
 have H1:=aa (gy n hn w)
 go_enter Tryz.func137,Tryz.ntmps137
 go_wp2_with fail
 refine H1.out.mono ?_
 rintro r wq ⟨rfl,hq⟩
 subst wq
 go_wp2_with fail
 go_ret
 exact⟨rfl,rfl⟩
theorem gA(a n:Nat)(hn:n< 64)(w:World):
  Calls Tryz.prog 138 #[.int .u64 a,.int .i64 n] w fun r w'=>r=.returned (.bool (dB a n))∧w'=w:=by
 have r1:=dt
 have r2:=iR
 have H1:=aa (dZ n hn w)
 go_enter Tryz.func138,Tryz.ntmps138
 go_wp2_with fail
 refine H1.out.mono ?_
 rintro r wq ⟨rfl,hq⟩
 subst wq
 go_wp2_with fail
 go_ret
 exact⟨rfl,rfl⟩
theorem iU(a n:Nat)(hn:n< 64)(w:World):
  Calls Tryz.prog 174 #[.int .u64 a,.int .i64 n] w fun r w'=>r=.returned (.bool (dB a n))∧w'=w:=by
 have r1:=dt
 have r2:=iR
 have H1:=aa (gX n hn w)
 go_enter Tryz.func174,Tryz.ntmps174
 go_wp2_with fail
 refine H1.out.mono ?_
 rintro r wq ⟨rfl,hq⟩
 subst wq
 go_wp2_with fail
 go_ret
 exact⟨rfl,rfl⟩
theorem sD(n:Nat)(hn:n< 64)(w:World):
  Calls Tryz.prog 101 #[.int .i64 n] w fun r w'=>r=.returned (.int .u64 (cj (aC n):Nat))∧w'=w:=by
 have r1:=ii
 have H1:=aa (mn n hn w)
 go_enter Tryz.func101,Tryz.ntmps101
 go_wp2_with fail
 refine H1.out.mono ?_
 rintro r wq ⟨rfl,hq⟩
 subst wq
 go_wp2_with fail
 go_ret
 exact⟨rfl,rfl⟩
theorem jw(n:Nat)(hn:n< 64)(w:World):
  Calls Tryz.prog 187 #[.int .i64 n] w fun r w'=>r=.returned (.int .u64 (cj (aC n):Nat))∧w'=w:=by
 have r1:=ii
 have H1:=aa (dZ n hn w)
 go_enter Tryz.func187,Tryz.ntmps187
 go_wp2_with fail
 refine H1.out.mono ?_
 rintro r wq ⟨rfl,hq⟩
 subst wq
 go_wp2_with fail
 go_ret
 exact⟨rfl,rfl⟩
theorem sC(n:Nat)(hn:n< 64)(w:World):
  Calls Tryz.prog 191 #[.int .i64 n] w fun r w'=>r=.returned (.int .u64 (cj (aC n):Nat))∧w'=w:=by
 have r1:=ii
 have H1:=aa (gX n hn w)
 go_enter Tryz.func191,Tryz.ntmps191
 go_wp2_with fail
 refine H1.out.mono ?_
 rintro r wq ⟨rfl,hq⟩
 subst wq
 go_wp2_with fail
 go_ret
 exact⟨rfl,rfl⟩
theorem uP(n:Nat)(hn:n< 64)(w:World):
  Calls Tryz.prog 200 #[.int .i64 n] w fun r w'=>r=.returned (.int .u64 (cj (aC n):Nat))∧w'=w:=by
 have r1:=ii
 have H1:=aa (lJ n hn w)
 go_enter Tryz.func200,Tryz.ntmps200
 go_wp2_with fail
 refine H1.out.mono ?_
 rintro r wq ⟨rfl,hq⟩
 subst wq
 go_wp2_with fail
 go_ret
 exact⟨rfl,rfl⟩
def Tz(w:World):Prop:=TabAt 0 Lib.deBruijn64tab w
theorem Tz.below{w w':World}(h:Tz w)(k:Below w.heap.size w w'):Tz w':=fun j hj=>by
 have hc:=h j hj
 rw[k.cell (p:=⟨0,j,none⟩) (ah hc)];exact hc
theorem AB(x k idx:Nat)(w:World)(hx0:((x:Int)==0)=false)
  (key:IntKind.u64.wrap (bits BinOp.and IntKind.u64 (x:Int) (IntKind.u64.wrap (-(x:Int)))*285870213051353865)/288230376151711744=(idx:Int))
  (hi:idx< 64) (hk:k< 64) (hcell:w.cell? ⟨0,idx,none⟩=some (.int .u8 k)):
  Calls Tryz.prog 169 #[.int .u64 x] w fun r w'=>r=.returned (.int .i64 k)∧w'=w:=by
 go_enter Tryz.func169,Tryz.ntmps169
 go_wp2_with (simp only[key])
 go_ret
 exact⟨rfl,rfl⟩
theorem tJ(x:Nat)(hx:x< bI)(h0:x≠0)(w:World)(hT:Tz w):
  Calls Tryz.prog 169 #[.int .u64 x] w fun r w'=>r=.returned (.int .i64 (Lib.ctz 64 x))∧w'=w:=by
 obtain⟨hlow,hk⟩:=Lib.lowest_bit 64 x h0 hx
 obtain⟨hi,htab⟩:=Lib.deBruijn64_at _ hk
 have hcell:=hT _ hi
 rw[htab]at hcell
 exact AB x _ _ w (by rw[beq_eq_false_iff_ne];omega) (tz64_key x _ hx h0 hlow) hi hk hcell
theorem uB(x:Nat)(hx:x< bI)(h0:x≠0)(w:World)(hT:Tz w):
  Calls Tryz.prog 148 #[.int .u64 x] w fun r w'=>r=.returned (.tuple #[.int .i64 (Lib.ctz 64 x),.bool true])∧w'=w:=by
 have H1:=aa (tJ x hx h0 w hT)
 have hx0:((x:Int)!=0)=true:=by rw[bne_iff_ne];omega
 clear hT
 go_enter Tryz.func148,Tryz.ntmps148
 go_wp2_with fail
 refine H1.out.mono ?_
 rintro r wq ⟨rfl,hq⟩
 subst wq
 go_wp2_with fail
 go_ret2
 exact⟨rfl,rfl⟩
theorem sn(w:World):
  Calls Tryz.prog 148 #[.int .u64 0] w fun r w'=>r=.returned (.tuple #[.int .i64 64,.bool false])∧w'=w:=by
 go_enter Tryz.func148,Tryz.ntmps148
 go_wp2
 go_ret2
 exact⟨rfl,rfl⟩
theorem mB(x:Nat)(hx:x< bI)(h0:x≠0)(w:World)(hT:Tz w):
  Calls Tryz.prog 118 #[.int .u64 x] w fun r w'=>r=.returned (.tuple #[.int .i64 (Lib.ctz 64 x),.bool true])∧w'=w:=by
 have H1:=aa (tJ x hx h0 w hT)
 have hx0:((x:Int)!=0)=true:=by rw[bne_iff_ne];omega
 clear hT
 go_enter Tryz.func118,Tryz.ntmps118
 go_wp2_with fail
 refine H1.out.mono ?_
 rintro r wq ⟨rfl,hq⟩
 subst wq
 go_wp2_with fail
 go_ret2
 exact⟨rfl,rfl⟩
theorem kU(w:World):
  Calls Tryz.prog 118 #[.int .u64 0] w fun r w'=>r=.returned (.tuple #[.int .i64 64,.bool false])∧w'=w:=by
 go_enter Tryz.func118,Tryz.ntmps118
 go_wp2
 go_ret2
 exact⟨rfl,rfl⟩
theorem uC(x:Nat)(hx:x< bI)(h0:x≠0)(w:World)(hT:Tz w):
  Calls Tryz.prog 172 #[.int .u64 x] w fun r w'=>r=.returned (.tuple #[.int .i64 (Lib.ctz 64 x),.bool true])∧w'=w:=by
 have H1:=aa (tJ x hx h0 w hT)
 have hx0:((x:Int)!=0)=true:=by rw[bne_iff_ne];omega
 clear hT
 go_enter Tryz.func172,Tryz.ntmps172
 go_wp2_with fail
 refine H1.out.mono ?_
 rintro r wq ⟨rfl,hq⟩
 subst wq
 go_wp2_with fail
 go_ret2
 exact⟨rfl,rfl⟩
theorem sq(w:World):
  Calls Tryz.prog 172 #[.int .u64 0] w fun r w'=>r=.returned (.tuple #[.int .i64 64,.bool false])∧w'=w:=by
 go_enter Tryz.func172,Tryz.ntmps172
 go_wp2
 go_ret2
 exact⟨rfl,rfl⟩
theorem ss(x:Nat)(hx:x< bI)(h0:x≠0)(w:World)(hT:Tz w):
  Calls Tryz.prog 178 #[.int .u64 x] w fun r w'=>r=.returned (.tuple #[.int .i64 (Lib.ctz 64 x),.bool true])∧w'=w:=by
 have H1:=aa (tJ x hx h0 w hT)
 have hx0:((x:Int)!=0)=true:=by rw[bne_iff_ne];omega
 clear hT
 go_enter Tryz.func178,Tryz.ntmps178
 go_wp2_with fail
 refine H1.out.mono ?_
 rintro r wq ⟨rfl,hq⟩
 subst wq
 go_wp2_with fail
 go_ret2
 exact⟨rfl,rfl⟩
theorem qO(w:World):
  Calls Tryz.prog 178 #[.int .u64 0] w fun r w'=>r=.returned (.tuple #[.int .i64 64,.bool false])∧w'=w:=by
 go_enter Tryz.func178,Tryz.ntmps178
 go_wp2
 go_ret2
 exact⟨rfl,rfl⟩
theorem sj(x:Nat)(hx:x< bI)(h0:x≠0)(w:World)(hT:Tz w):
  Calls Tryz.prog 196 #[.int .u64 x] w fun r w'=>r=.returned (.tuple #[.int .i64 (Lib.ctz 64 x),.bool true])∧w'=w:=by
 have H1:=aa (tJ x hx h0 w hT)
 have hx0:((x:Int)!=0)=true:=by rw[bne_iff_ne];omega
 clear hT
 go_enter Tryz.func196,Tryz.ntmps196
 go_wp2_with fail
 refine H1.out.mono ?_
 rintro r wq ⟨rfl,hq⟩
 subst wq
 go_wp2_with fail
 go_ret2
 exact⟨rfl,rfl⟩
theorem qN(w:World):
  Calls Tryz.prog 196 #[.int .u64 0] w fun r w'=>r=.returned (.tuple #[.int .i64 64,.bool false])∧w'=w:=by
 go_enter Tryz.func196,Tryz.ntmps196
 go_wp2
 go_ret2
 exact⟨rfl,rfl⟩
theorem nh(x:Nat)(hx:x< bI)(h0:x≠0)(w:World)(hT:Tz w):
  Calls Tryz.prog 218 #[.int .u64 x] w fun r w'=>r=.returned (.tuple #[.int .i64 (Lib.ctz 64 x),.bool true])∧w'=w:=by
 have H1:=aa (tJ x hx h0 w hT)
 have hx0:((x:Int)!=0)=true:=by rw[bne_iff_ne];omega
 clear hT
 go_enter Tryz.func218,Tryz.ntmps218
 go_wp2_with fail
 refine H1.out.mono ?_
 rintro r wq ⟨rfl,hq⟩
 subst wq
 go_wp2_with fail
 go_ret2
 exact⟨rfl,rfl⟩
theorem mC(w:World):
  Calls Tryz.prog 218 #[.int .u64 0] w fun r w'=>r=.returned (.tuple #[.int .i64 64,.bool false])∧w'=w:=by
 go_enter Tryz.func218,Tryz.ntmps218
 go_wp2
 go_ret2
 exact⟨rfl,rfl⟩
end
section
set_option maxRecDepth 100000
set_option maxHeartbeats 2000000
open Go.RowKit Go.Shelf
attribute [local go_sem] Oper.semAt_some
theorem Tz.low{n:Nat}{w w':World}(h:Tz w)(hn:0< n)(k:Below n w w'):Tz w':=fun j hj=>by
 have hc:=h j hj
 rw[k.cell (p:=⟨0,j,none⟩) hn];exact hc
theorem wQ(n:Nat)(hn:1≤n)(l Bn n₀ s:Nat)(hs:s< bI)(hn0:0< n₀)(J Jx:List (El s)→World→Prop)
  (hY:∀pre x W,J pre W→pre.length< 64→YieldAt Fence.wide (n-1) Tryz.prog l #[.int .i64 x.1] W fun e W'=>
   (e=.returned (.bool true)∧J (pre++[x]) W'∧Below n₀ W W')∨(e=.returned (.bool false)∧Jx (pre++[x]) W'))
  (W:World) (hBn:W.cell? ⟨Bn,0,none⟩=some (.int .u64 s)) (hT:Tz W) (h0:J [] W):
  CallsIn Fence.wide n Tryz.prog 147 #[.func (.yield l) #[] #[],.pointer (some ⟨Bn,0,none⟩)] W fun e W'=>(∃v,e=.returned v)∧
   ((∃ys,ys=jZ s∧J ys W')∨(∃pre,pre.map (·.1)<+:els s∧Jx pre W')):=by
 have r1:=cI
 have HF:∀(x:Nat) (w:World),x< bI→Tz w→Hid (CallsIn Fence.wide (n-1) Tryz.prog 148 #[.int .u64 x] w fun r w'=>r=.returned (.tuple #[.int .i64 (if x=0 then 64 else Lib.ctz 64 x:Nat),.bool (x !=0)])∧w'=w):=fun x w hx hT=>by
  by_cases e:x=0
  ·subst e;exact callsIn_wide.2 (sn w)
  ·have:=uB x hx e w hT
   show CallsIn _ _ _ _ _ _ _
   rw[if_neg e,show(x !=0)=true by rw[bne_iff_ne];exact e]
   exact callsIn_wide.2 this
 obtain⟨c,hc⟩:∃c:Nat→Nat,c=fun x=>if x=0 then 64 else Lib.ctz 64 x:=⟨_,rfl⟩
 have HF2:∀(x:Nat) (w:World),x< bI→Tz w→Hid (CallsIn Fence.wide (n-1) Tryz.prog 148 #[.int .u64 x] w fun r w'=>r=.returned (.tuple #[.int .i64 (c x),.bool (x !=0)])∧w'=w):=by rw[hc];exact HF
 have HC:=aa hc
 have HYY:=aa hY
 have HT:=aa hT
 have HF3:=HF2 s W hs hT
 have HF4:=aa HF2
 clear HF hc hY hT HF2
 refine callsIn_of_wp Tryz.func147 rfl trivial ?_ rfl
 simp only[Tryz.ntmps147,List.size_toArray,List.length_cons,List.length_nil,Nat.reduceAdd,Nat.reduceSub,Array.replicate_succ,Array.replicate_zero,List.push_toArray,List.append_toArray,List.nil_append,List.cons_append]
 gi_wp2_with (refine⟨trivial,?_⟩;gi_at_call 148;refine HF3.out.mono ?_;rintro e w' ⟨rfl,hq⟩;subst w')
 gi_loopw [3,4,5] (fun a b ok wr=>∃(pre:List (El s)) (r:Nat),a=.int .u64 r∧b=.int .i64 (c r)∧ok=.bool (r !=0)∧r< bI∧Hid (pre.map (·.1)++els r=els s)∧Hid (J pre wr)∧Hid (Tz wr)) (fun a _ _ _=>(intOf a).toNat)
 case atStart=>exact⟨[],s,rfl,rfl,rfl,hs,rfl,h0,HT⟩
 case round=>
  obtain⟨pre,r,rfl,rfl,rfl,hr,HE,HJ,HTr⟩:=hrel
  by_cases h:r=0
  ·have hok:(r !=0)=false:=by simp[h]
   have HX:Hid (pre=jZ s):=kJ (by have:=HE.out;rw[h,hU,List.append_nil]at this;exact this)
   clear h
   rw[hok]
   gi_wp2
   go_end0
   exact⟨⟨_,rfl⟩,.inl ⟨pre,HX.out,HJ.out⟩⟩
  ·have hok:(r !=0)=true:=by simp[h]
   have hcr:c r=Lib.ctz 64 r:=by rw[HC.out];simp[h]
   have hb:=eY h hr
   rw[←hcr]at hb
   have hx:s.testBit (c r)=true:=by
    have hm:c r∈els s:=by rw[←HE.out,dq h hr,←hcr];simp
    exact(iw hm).2
   have HE2:Hid ((pre++[(⟨c r,hb.1,hx⟩:El s)]).map (·.1)++els (bj r (aC (c r)))=els s):=by
    show _=_
    rw[←HE.out,dq h hr,←hcr]
    simp
   have hl2:pre.length< 64:=by
    have h1:=congrArg List.length HE.out
    have h2:=jj s
    rw[dq h hr]at h1
    simp at h1
    omega
   have hless:=fd h hr
   rw[←hcr]at hless
   have hr2:=dN r (aC (c r))
   obtain⟨fn,tmps,assign,body,hy,hR⟩:=HYY.out pre ⟨c r,hb.1,hx⟩ wr HJ.out hl2
   dsimp only at hy
   have HR:=aa hR
   have HO:=aa (fun w=>callsIn_wide (n:=n-1).2 (gy (c r) hb.1 w))
   clear h hcr hR
   rw[hok]
   gi_wp2
   refine HR.out.mono ?_
   rintro e W3 (⟨rfl,hJ3,hk3⟩|⟨rfl,hJx3⟩)
   ·have HT3:Hid (Tz W3):=HTr.out.low hn0 hk3
    have HJ3:=aa hJ3
    have HF5:=HF4.out (bj r (aC (c r))) W3 hr2 HT3.out
    clear hJ3 hk3
    gi_wp2_with (first|(refine⟨trivial,?_⟩;gi_at_call 89;refine(HO.out _).mono ?_;rintro e w' ⟨rfl,hq⟩;subst w')|(refine⟨trivial,?_⟩;gi_at_call 148;refine HF5.out.mono ?_;rintro e w' ⟨rfl,hq⟩;subst w'))
    go_roundw
    case rel=>exact⟨pre++[⟨c r,hb.1,hx⟩],_,rfl,rfl,rfl,hr2,HE2,HJ3,HT3⟩
    case measure=>simp[intOf];omega
   ·have HJ3:=aa hJx3
    clear hJx3
    gi_wp2
    refine bodyPost_ret (results_none rfl _ _ _) rfl ?_
    exact⟨⟨_,rfl⟩,.inr ⟨pre++[⟨c r,hb.1,hx⟩],⟨els (bj r (aC (c r))),HE2.out⟩,HJ3.out⟩⟩
theorem uT(n:Nat)(hn:1≤n)(l Bn n₀ s:Nat)(hs:s< bI)(hn0:0< n₀)(J Jx:List (El s)→World→Prop)
  (hY:∀pre x W,J pre W→pre.length< 64→YieldAt Fence.wide (n-1) Tryz.prog l #[.int .i64 x.1] W fun e W'=>
   (e=.returned (.bool true)∧J (pre++[x]) W'∧Below n₀ W W')∨(e=.returned (.bool false)∧Jx (pre++[x]) W'))
  (W:World) (hBn:W.cell? ⟨Bn,0,none⟩=some (.int .u64 s)) (hT:Tz W) (h0:J [] W):
  CallsIn Fence.wide n Tryz.prog 195 #[.func (.yield l) #[] #[],.pointer (some ⟨Bn,0,none⟩)] W fun e W'=>(∃v,e=.returned v)∧
   ((∃ys,ys=jZ s∧J ys W')∨(∃pre,pre.map (·.1)<+:els s∧Jx pre W')):=by
 have r1:=cI
 have HF:∀(x:Nat) (w:World),x< bI→Tz w→Hid (CallsIn Fence.wide (n-1) Tryz.prog 196 #[.int .u64 x] w fun r w'=>r=.returned (.tuple #[.int .i64 (if x=0 then 64 else Lib.ctz 64 x:Nat),.bool (x !=0)])∧w'=w):=fun x w hx hT=>by
  by_cases e:x=0
  ·subst e;exact callsIn_wide.2 (qN w)
  ·have:=sj x hx e w hT
   show CallsIn _ _ _ _ _ _ _
   rw[if_neg e,show(x !=0)=true by rw[bne_iff_ne];exact e]
   exact callsIn_wide.2 this
 obtain⟨c,hc⟩:∃c:Nat→Nat,c=fun x=>if x=0 then 64 else Lib.ctz 64 x:=⟨_,rfl⟩
 have HF2:∀(x:Nat) (w:World),x< bI→Tz w→Hid (CallsIn Fence.wide (n-1) Tryz.prog 196 #[.int .u64 x] w fun r w'=>r=.returned (.tuple #[.int .i64 (c x),.bool (x !=0)])∧w'=w):=by rw[hc];exact HF
 have HC:=aa hc
 have HYY:=aa hY
 have HT:=aa hT
 have HF3:=HF2 s W hs hT
 have HF4:=aa HF2
 clear HF hc hY hT HF2
 refine callsIn_of_wp Tryz.func195 rfl trivial ?_ rfl
 simp only[Tryz.ntmps195,List.size_toArray,List.length_cons,List.length_nil,Nat.reduceAdd,Nat.reduceSub,Array.replicate_succ,Array.replicate_zero,List.push_toArray,List.append_toArray,List.nil_append,List.cons_append]
 gi_wp2_with (refine⟨trivial,?_⟩;gi_at_call 196;refine HF3.out.mono ?_;rintro e w' ⟨rfl,hq⟩;subst w')
 gi_loopw [3,4,5] (fun a b ok wr=>∃(pre:List (El s)) (r:Nat),a=.int .u64 r∧b=.int .i64 (c r)∧ok=.bool (r !=0)∧r< bI∧Hid (pre.map (·.1)++els r=els s)∧Hid (J pre wr)∧Hid (Tz wr)) (fun a _ _ _=>(intOf a).toNat)
 case atStart=>exact⟨[],s,rfl,rfl,rfl,hs,rfl,h0,HT⟩
 case round=>
  obtain⟨pre,r,rfl,rfl,rfl,hr,HE,HJ,HTr⟩:=hrel
  by_cases h:r=0
  ·have hok:(r !=0)=false:=by simp[h]
   have HX:Hid (pre=jZ s):=kJ (by have:=HE.out;rw[h,hU,List.append_nil]at this;exact this)
   clear h
   rw[hok]
   gi_wp2
   go_end0
   exact⟨⟨_,rfl⟩,.inl ⟨pre,HX.out,HJ.out⟩⟩
  ·have hok:(r !=0)=true:=by simp[h]
   have hcr:c r=Lib.ctz 64 r:=by rw[HC.out];simp[h]
   have hb:=eY h hr
   rw[←hcr]at hb
   have hx:s.testBit (c r)=true:=by
    have hm:c r∈els s:=by rw[←HE.out,dq h hr,←hcr];simp
    exact(iw hm).2
   have HE2:Hid ((pre++[(⟨c r,hb.1,hx⟩:El s)]).map (·.1)++els (bj r (aC (c r)))=els s):=by
    show _=_
    rw[←HE.out,dq h hr,←hcr]
    simp
   have hl2:pre.length< 64:=by
    have h1:=congrArg List.length HE.out
    have h2:=jj s
    rw[dq h hr]at h1
    simp at h1
    omega
   have hless:=fd h hr
   rw[←hcr]at hless
   have hr2:=dN r (aC (c r))
   obtain⟨fn,tmps,assign,body,hy,hR⟩:=HYY.out pre ⟨c r,hb.1,hx⟩ wr HJ.out hl2
   dsimp only at hy
   have HR:=aa hR
   have HO:=aa (fun w=>callsIn_wide (n:=n-1).2 (gX (c r) hb.1 w))
   clear h hcr hR
   rw[hok]
   gi_wp2
   refine HR.out.mono ?_
   rintro e W3 (⟨rfl,hJ3,hk3⟩|⟨rfl,hJx3⟩)
   ·have HT3:Hid (Tz W3):=HTr.out.low hn0 hk3
    have HJ3:=aa hJ3
    have HF5:=HF4.out (bj r (aC (c r))) W3 hr2 HT3.out
    clear hJ3 hk3
    gi_wp2_with (first|(refine⟨trivial,?_⟩;gi_at_call 115;refine(HO.out _).mono ?_;rintro e w' ⟨rfl,hq⟩;subst w')|(refine⟨trivial,?_⟩;gi_at_call 196;refine HF5.out.mono ?_;rintro e w' ⟨rfl,hq⟩;subst w'))
    go_roundw
    case rel=>exact⟨pre++[⟨c r,hb.1,hx⟩],_,rfl,rfl,rfl,hr2,HE2,HJ3,HT3⟩
    case measure=>simp[intOf];omega
   ·have HJ3:=aa hJx3
    clear hJx3
    gi_wp2
    refine bodyPost_ret (results_none rfl _ _ _) rfl ?_
    exact⟨⟨_,rfl⟩,.inr ⟨pre++[⟨c r,hb.1,hx⟩],⟨els (bj r (aC (c r))),HE2.out⟩,HJ3.out⟩⟩
theorem uS(n:Nat)(hn:1≤n)(l Bn n₀ s:Nat)(hs:s< bI)(hn0:0< n₀)(J Jx:List (El s)→World→Prop)
  (hY:∀pre x W,J pre W→pre.length< 64→YieldAt Fence.wide (n-1) Tryz.prog l #[.int .i64 x.1] W fun e W'=>
   (e=.returned (.bool true)∧J (pre++[x]) W'∧Below n₀ W W')∨(e=.returned (.bool false)∧Jx (pre++[x]) W'))
  (W:World) (hBn:W.cell? ⟨Bn,0,none⟩=some (.int .u64 s)) (hT:Tz W) (h0:J [] W):
  CallsIn Fence.wide n Tryz.prog 197 #[.func (.yield l) #[] #[],.pointer (some ⟨Bn,0,none⟩)] W fun e W'=>(∃v,e=.returned v)∧
   ((∃ys,ys=jZ s∧J ys W')∨(∃pre,pre.map (·.1)<+:els s∧Jx pre W')):=by
 have r1:=cI
 have HF:∀(x:Nat) (w:World),x< bI→Tz w→Hid (CallsIn Fence.wide (n-1) Tryz.prog 118 #[.int .u64 x] w fun r w'=>r=.returned (.tuple #[.int .i64 (if x=0 then 64 else Lib.ctz 64 x:Nat),.bool (x !=0)])∧w'=w):=fun x w hx hT=>by
  by_cases e:x=0
  ·subst e;exact callsIn_wide.2 (kU w)
  ·have:=mB x hx e w hT
   show CallsIn _ _ _ _ _ _ _
   rw[if_neg e,show(x !=0)=true by rw[bne_iff_ne];exact e]
   exact callsIn_wide.2 this
 obtain⟨c,hc⟩:∃c:Nat→Nat,c=fun x=>if x=0 then 64 else Lib.ctz 64 x:=⟨_,rfl⟩
 have HF2:∀(x:Nat) (w:World),x< bI→Tz w→Hid (CallsIn Fence.wide (n-1) Tryz.prog 118 #[.int .u64 x] w fun r w'=>r=.returned (.tuple #[.int .i64 (c x),.bool (x !=0)])∧w'=w):=by rw[hc];exact HF
 have HC:=aa hc
 have HYY:=aa hY
 have HT:=aa hT
 have HF3:=HF2 s W hs hT
 have HF4:=aa HF2
 clear HF hc hY hT HF2
 refine callsIn_of_wp Tryz.func197 rfl trivial ?_ rfl
 simp only[Tryz.ntmps197,List.size_toArray,List.length_cons,List.length_nil,Nat.reduceAdd,Nat.reduceSub,Array.replicate_succ,Array.replicate_zero,List.push_toArray,List.append_toArray,List.nil_append,List.cons_append]
 gi_wp2_with (refine⟨trivial,?_⟩;gi_at_call 118;refine HF3.out.mono ?_;rintro e w' ⟨rfl,hq⟩;subst w')
 gi_loopw [3,4,5] (fun a b ok wr=>∃(pre:List (El s)) (r:Nat),a=.int .u64 r∧b=.int .i64 (c r)∧ok=.bool (r !=0)∧r< bI∧Hid (pre.map (·.1)++els r=els s)∧Hid (J pre wr)∧Hid (Tz wr)) (fun a _ _ _=>(intOf a).toNat)
 case atStart=>exact⟨[],s,rfl,rfl,rfl,hs,rfl,h0,HT⟩
 case round=>
  obtain⟨pre,r,rfl,rfl,rfl,hr,HE,HJ,HTr⟩:=hrel
  by_cases h:r=0
  ·have hok:(r !=0)=false:=by simp[h]
   have HX:Hid (pre=jZ s):=kJ (by have:=HE.out;rw[h,hU,List.append_nil]at this;exact this)
   clear h
   rw[hok]
   gi_wp2
   go_end0
   exact⟨⟨_,rfl⟩,.inl ⟨pre,HX.out,HJ.out⟩⟩
  ·have hok:(r !=0)=true:=by simp[h]
   have hcr:c r=Lib.ctz 64 r:=by rw[HC.out];simp[h]
   have hb:=eY h hr
   rw[←hcr]at hb
   have hx:s.testBit (c r)=true:=by
    have hm:c r∈els s:=by rw[←HE.out,dq h hr,←hcr];simp
    exact(iw hm).2
   have HE2:Hid ((pre++[(⟨c r,hb.1,hx⟩:El s)]).map (·.1)++els (bj r (aC (c r)))=els s):=by
    show _=_
    rw[←HE.out,dq h hr,←hcr]
    simp
   have hl2:pre.length< 64:=by
    have h1:=congrArg List.length HE.out
    have h2:=jj s
    rw[dq h hr]at h1
    simp at h1
    omega
   have hless:=fd h hr
   rw[←hcr]at hless
   have hr2:=dN r (aC (c r))
   obtain⟨fn,tmps,assign,body,hy,hR⟩:=HYY.out pre ⟨c r,hb.1,hx⟩ wr HJ.out hl2
   dsimp only at hy
   have HR:=aa hR
   have HO:=aa (fun w=>callsIn_wide (n:=n-1).2 (qm (c r) hb.1 w))
   clear h hcr hR
   rw[hok]
   gi_wp2
   refine HR.out.mono ?_
   rintro e W3 (⟨rfl,hJ3,hk3⟩|⟨rfl,hJx3⟩)
   ·have HT3:Hid (Tz W3):=HTr.out.low hn0 hk3
    have HJ3:=aa hJ3
    have HF5:=HF4.out (bj r (aC (c r))) W3 hr2 HT3.out
    clear hJ3 hk3
    gi_wp2_with (first|(refine⟨trivial,?_⟩;gi_at_call 153;refine(HO.out _).mono ?_;rintro e w' ⟨rfl,hq⟩;subst w')|(refine⟨trivial,?_⟩;gi_at_call 118;refine HF5.out.mono ?_;rintro e w' ⟨rfl,hq⟩;subst w'))
    go_roundw
    case rel=>exact⟨pre++[⟨c r,hb.1,hx⟩],_,rfl,rfl,rfl,hr2,HE2,HJ3,HT3⟩
    case measure=>simp[intOf];omega
   ·have HJ3:=aa hJx3
    clear hJx3
    gi_wp2
    refine bodyPost_ret (results_none rfl _ _ _) rfl ?_
    exact⟨⟨_,rfl⟩,.inr ⟨pre++[⟨c r,hb.1,hx⟩],⟨els (bj r (aC (c r))),HE2.out⟩,HJ3.out⟩⟩
theorem wR(n:Nat)(hn:1≤n)(l Bn n₀ s:Nat)(hs:s< bI)(hn0:0< n₀)(J Jx:List (El s)→World→Prop)
  (hY:∀pre x W,J pre W→pre.length< 64→YieldAt Fence.wide (n-1) Tryz.prog l #[.int .i64 x.1] W fun e W'=>
   (e=.returned (.bool true)∧J (pre++[x]) W'∧Below n₀ W W')∨(e=.returned (.bool false)∧Jx (pre++[x]) W'))
  (W:World) (hBn:W.cell? ⟨Bn,0,none⟩=some (.int .u64 s)) (hT:Tz W) (h0:J [] W):
  CallsIn Fence.wide n Tryz.prog 171 #[.func (.yield l) #[] #[],.pointer (some ⟨Bn,0,none⟩)] W fun e W'=>(∃v,e=.returned v)∧
   ((∃ys,ys=jZ s∧J ys W')∨(∃pre,pre.map (·.1)<+:els s∧Jx pre W')):=by
 have r1:=cI
 have HF:∀(x:Nat) (w:World),x< bI→Tz w→Hid (CallsIn Fence.wide (n-1) Tryz.prog 172 #[.int .u64 x] w fun r w'=>r=.returned (.tuple #[.int .i64 (if x=0 then 64 else Lib.ctz 64 x:Nat),.bool (x !=0)])∧w'=w):=fun x w hx hT=>by
  by_cases e:x=0
  ·subst e;exact callsIn_wide.2 (sq w)
  ·have:=uC x hx e w hT
   show CallsIn _ _ _ _ _ _ _
   rw[if_neg e,show(x !=0)=true by rw[bne_iff_ne];exact e]
   exact callsIn_wide.2 this
 obtain⟨c,hc⟩:∃c:Nat→Nat,c=fun x=>if x=0 then 64 else Lib.ctz 64 x:=⟨_,rfl⟩
 have HF2:∀(x:Nat) (w:World),x< bI→Tz w→Hid (CallsIn Fence.wide (n-1) Tryz.prog 172 #[.int .u64 x] w fun r w'=>r=.returned (.tuple #[.int .i64 (c x),.bool (x !=0)])∧w'=w):=by rw[hc];exact HF
 have HC:=aa hc
 have HYY:=aa hY
 have HT:=aa hT
 have HF3:=HF2 s W hs hT
 have HF4:=aa HF2
 clear HF hc hY hT HF2
 refine callsIn_of_wp Tryz.func171 rfl trivial ?_ rfl
 simp only[Tryz.ntmps171,List.size_toArray,List.length_cons,List.length_nil,Nat.reduceAdd,Nat.reduceSub,Array.replicate_succ,Array.replicate_zero,List.push_toArray,List.append_toArray,List.nil_append,List.cons_append]
 gi_wp2_with (refine⟨trivial,?_⟩;gi_at_call 172;refine HF3.out.mono ?_;rintro e w' ⟨rfl,hq⟩;subst w')
 gi_loopw [3,4,5] (fun a b ok wr=>∃(pre:List (El s)) (r:Nat),a=.int .u64 r∧b=.int .i64 (c r)∧ok=.bool (r !=0)∧r< bI∧Hid (pre.map (·.1)++els r=els s)∧Hid (J pre wr)∧Hid (Tz wr)) (fun a _ _ _=>(intOf a).toNat)
 case atStart=>exact⟨[],s,rfl,rfl,rfl,hs,rfl,h0,HT⟩
 case round=>
  obtain⟨pre,r,rfl,rfl,rfl,hr,HE,HJ,HTr⟩:=hrel
  by_cases h:r=0
  ·have hok:(r !=0)=false:=by simp[h]
   have HX:Hid (pre=jZ s):=kJ (by have:=HE.out;rw[h,hU,List.append_nil]at this;exact this)
   clear h
   rw[hok]
   gi_wp2
   go_end0
   exact⟨⟨_,rfl⟩,.inl ⟨pre,HX.out,HJ.out⟩⟩
  ·have hok:(r !=0)=true:=by simp[h]
   have hcr:c r=Lib.ctz 64 r:=by rw[HC.out];simp[h]
   have hb:=eY h hr
   rw[←hcr]at hb
   have hx:s.testBit (c r)=true:=by
    have hm:c r∈els s:=by rw[←HE.out,dq h hr,←hcr];simp
    exact(iw hm).2
   have HE2:Hid ((pre++[(⟨c r,hb.1,hx⟩:El s)]).map (·.1)++els (bj r (aC (c r)))=els s):=by
    show _=_
    rw[←HE.out,dq h hr,←hcr]
    simp
   have hl2:pre.length< 64:=by
    have h1:=congrArg List.length HE.out
    have h2:=jj s
    rw[dq h hr]at h1
    simp at h1
    omega
   have hless:=fd h hr
   rw[←hcr]at hless
   have hr2:=dN r (aC (c r))
   obtain⟨fn,tmps,assign,body,hy,hR⟩:=HYY.out pre ⟨c r,hb.1,hx⟩ wr HJ.out hl2
   dsimp only at hy
   have HR:=aa hR
   have HO:=aa (fun w=>callsIn_wide (n:=n-1).2 (lJ (c r) hb.1 w))
   clear h hcr hR
   rw[hok]
   gi_wp2
   refine HR.out.mono ?_
   rintro e W3 (⟨rfl,hJ3,hk3⟩|⟨rfl,hJx3⟩)
   ·have HT3:Hid (Tz W3):=HTr.out.low hn0 hk3
    have HJ3:=aa hJ3
    have HF5:=HF4.out (bj r (aC (c r))) W3 hr2 HT3.out
    clear hJ3 hk3
    gi_wp2_with (first|(refine⟨trivial,?_⟩;gi_at_call 173;refine(HO.out _).mono ?_;rintro e w' ⟨rfl,hq⟩;subst w')|(refine⟨trivial,?_⟩;gi_at_call 172;refine HF5.out.mono ?_;rintro e w' ⟨rfl,hq⟩;subst w'))
    go_roundw
    case rel=>exact⟨pre++[⟨c r,hb.1,hx⟩],_,rfl,rfl,rfl,hr2,HE2,HJ3,HT3⟩
    case measure=>simp[intOf];omega
   ·have HJ3:=aa hJx3
    clear hJx3
    gi_wp2
    refine bodyPost_ret (results_none rfl _ _ _) rfl ?_
    exact⟨⟨_,rfl⟩,.inr ⟨pre++[⟨c r,hb.1,hx⟩],⟨els (bj r (aC (c r))),HE2.out⟩,HJ3.out⟩⟩
theorem uU(n:Nat)(hn:1≤n)(l Bn n₀ s:Nat)(hs:s< bI)(hn0:0< n₀)(J Jx:List (El s)→World→Prop)
  (hY:∀pre x W,J pre W→pre.length< 64→YieldAt Fence.wide (n-1) Tryz.prog l #[.int .i64 x.1] W fun e W'=>
   (e=.returned (.bool true)∧J (pre++[x]) W'∧Below n₀ W W')∨(e=.returned (.bool false)∧Jx (pre++[x]) W'))
  (W:World) (hBn:W.cell? ⟨Bn,0,none⟩=some (.int .u64 s)) (hT:Tz W) (h0:J [] W):
  CallsIn Fence.wide n Tryz.prog 177 #[.func (.yield l) #[] #[],.pointer (some ⟨Bn,0,none⟩)] W fun e W'=>(∃v,e=.returned v)∧
   ((∃ys,ys=jZ s∧J ys W')∨(∃pre,pre.map (·.1)<+:els s∧Jx pre W')):=by
 have r1:=cI
 have HF:∀(x:Nat) (w:World),x< bI→Tz w→Hid (CallsIn Fence.wide (n-1) Tryz.prog 178 #[.int .u64 x] w fun r w'=>r=.returned (.tuple #[.int .i64 (if x=0 then 64 else Lib.ctz 64 x:Nat),.bool (x !=0)])∧w'=w):=fun x w hx hT=>by
  by_cases e:x=0
  ·subst e;exact callsIn_wide.2 (qO w)
  ·have:=ss x hx e w hT
   show CallsIn _ _ _ _ _ _ _
   rw[if_neg e,show(x !=0)=true by rw[bne_iff_ne];exact e]
   exact callsIn_wide.2 this
 obtain⟨c,hc⟩:∃c:Nat→Nat,c=fun x=>if x=0 then 64 else Lib.ctz 64 x:=⟨_,rfl⟩
 have HF2:∀(x:Nat) (w:World),x< bI→Tz w→Hid (CallsIn Fence.wide (n-1) Tryz.prog 178 #[.int .u64 x] w fun r w'=>r=.returned (.tuple #[.int .i64 (c x),.bool (x !=0)])∧w'=w):=by rw[hc];exact HF
 have HC:=aa hc
 have HYY:=aa hY
 have HT:=aa hT
 have HF3:=HF2 s W hs hT
 have HF4:=aa HF2
 clear HF hc hY hT HF2
 refine callsIn_of_wp Tryz.func177 rfl trivial ?_ rfl
 simp only[Tryz.ntmps177,List.size_toArray,List.length_cons,List.length_nil,Nat.reduceAdd,Nat.reduceSub,Array.replicate_succ,Array.replicate_zero,List.push_toArray,List.append_toArray,List.nil_append,List.cons_append]
 gi_wp2_with (refine⟨trivial,?_⟩;gi_at_call 178;refine HF3.out.mono ?_;rintro e w' ⟨rfl,hq⟩;subst w')
 gi_loopw [3,4,5] (fun a b ok wr=>∃(pre:List (El s)) (r:Nat),a=.int .u64 r∧b=.int .i64 (c r)∧ok=.bool (r !=0)∧r< bI∧Hid (pre.map (·.1)++els r=els s)∧Hid (J pre wr)∧Hid (Tz wr)) (fun a _ _ _=>(intOf a).toNat)
 case atStart=>exact⟨[],s,rfl,rfl,rfl,hs,rfl,h0,HT⟩
 case round=>
  obtain⟨pre,r,rfl,rfl,rfl,hr,HE,HJ,HTr⟩:=hrel
  by_cases h:r=0
  ·have hok:(r !=0)=false:=by simp[h]
   have HX:Hid (pre=jZ s):=kJ (by have:=HE.out;rw[h,hU,List.append_nil]at this;exact this)
   clear h
   rw[hok]
   gi_wp2
   go_end0
   exact⟨⟨_,rfl⟩,.inl ⟨pre,HX.out,HJ.out⟩⟩
  ·have hok:(r !=0)=true:=by simp[h]
   have hcr:c r=Lib.ctz 64 r:=by rw[HC.out];simp[h]
   have hb:=eY h hr
   rw[←hcr]at hb
   have hx:s.testBit (c r)=true:=by
    have hm:c r∈els s:=by rw[←HE.out,dq h hr,←hcr];simp
    exact(iw hm).2
   have HE2:Hid ((pre++[(⟨c r,hb.1,hx⟩:El s)]).map (·.1)++els (bj r (aC (c r)))=els s):=by
    show _=_
    rw[←HE.out,dq h hr,←hcr]
    simp
   have hl2:pre.length< 64:=by
    have h1:=congrArg List.length HE.out
    have h2:=jj s
    rw[dq h hr]at h1
    simp at h1
    omega
   have hless:=fd h hr
   rw[←hcr]at hless
   have hr2:=dN r (aC (c r))
   obtain⟨fn,tmps,assign,body,hy,hR⟩:=HYY.out pre ⟨c r,hb.1,hx⟩ wr HJ.out hl2
   dsimp only at hy
   have HR:=aa hR
   have HO:=aa (fun w=>callsIn_wide (n:=n-1).2 (mn (c r) hb.1 w))
   clear h hcr hR
   rw[hok]
   gi_wp2
   refine HR.out.mono ?_
   rintro e W3 (⟨rfl,hJ3,hk3⟩|⟨rfl,hJx3⟩)
   ·have HT3:Hid (Tz W3):=HTr.out.low hn0 hk3
    have HJ3:=aa hJ3
    have HF5:=HF4.out (bj r (aC (c r))) W3 hr2 HT3.out
    clear hJ3 hk3
    gi_wp2_with (first|(refine⟨trivial,?_⟩;gi_at_call 157;refine(HO.out _).mono ?_;rintro e w' ⟨rfl,hq⟩;subst w')|(refine⟨trivial,?_⟩;gi_at_call 178;refine HF5.out.mono ?_;rintro e w' ⟨rfl,hq⟩;subst w'))
    go_roundw
    case rel=>exact⟨pre++[⟨c r,hb.1,hx⟩],_,rfl,rfl,rfl,hr2,HE2,HJ3,HT3⟩
    case measure=>simp[intOf];omega
   ·have HJ3:=aa hJx3
    clear hJx3
    gi_wp2
    refine bodyPost_ret (results_none rfl _ _ _) rfl ?_
    exact⟨⟨_,rfl⟩,.inr ⟨pre++[⟨c r,hb.1,hx⟩],⟨els (bj r (aC (c r))),HE2.out⟩,HJ3.out⟩⟩
theorem po(n:Nat)(hn:1≤n)(l Bn n₀ s:Nat)(hs:s< bI)(hn0:0< n₀)(J Jx:List (El s)→World→Prop)
  (hY:∀pre x W,J pre W→pre.length< 64→YieldAt Fence.wide (n-1) Tryz.prog l #[.int .i64 x.1] W fun e W'=>
   (e=.returned (.bool true)∧J (pre++[x]) W'∧Below n₀ W W')∨(e=.returned (.bool false)∧Jx (pre++[x]) W'))
  (W:World) (hBn:W.cell? ⟨Bn,0,none⟩=some (.int .u64 s)) (hT:Tz W) (h0:J [] W):
  CallsIn Fence.wide n Tryz.prog 217 #[.func (.yield l) #[] #[],.pointer (some ⟨Bn,0,none⟩)] W fun e W'=>(∃v,e=.returned v)∧
   ((∃ys,ys=jZ s∧J ys W')∨(∃pre,pre.map (·.1)<+:els s∧Jx pre W')):=by
 have r1:=cI
 have HF:∀(x:Nat) (w:World),x< bI→Tz w→Hid (CallsIn Fence.wide (n-1) Tryz.prog 218 #[.int .u64 x] w fun r w'=>r=.returned (.tuple #[.int .i64 (if x=0 then 64 else Lib.ctz 64 x:Nat),.bool (x !=0)])∧w'=w):=fun x w hx hT=>by
  by_cases e:x=0
  ·subst e;exact callsIn_wide.2 (mC w)
  ·have:=nh x hx e w hT
   show CallsIn _ _ _ _ _ _ _
   rw[if_neg e,show(x !=0)=true by rw[bne_iff_ne];exact e]
   exact callsIn_wide.2 this
 obtain⟨c,hc⟩:∃c:Nat→Nat,c=fun x=>if x=0 then 64 else Lib.ctz 64 x:=⟨_,rfl⟩
 have HF2:∀(x:Nat) (w:World),x< bI→Tz w→Hid (CallsIn Fence.wide (n-1) Tryz.prog 218 #[.int .u64 x] w fun r w'=>r=.returned (.tuple #[.int .i64 (c x),.bool (x !=0)])∧w'=w):=by rw[hc];exact HF
 have HC:=aa hc
 have HYY:=aa hY
 have HT:=aa hT
 have HF3:=HF2 s W hs hT
 have HF4:=aa HF2
 clear HF hc hY hT HF2
 refine callsIn_of_wp Tryz.func217 rfl trivial ?_ rfl
 simp only[Tryz.ntmps217,List.size_toArray,List.length_cons,List.length_nil,Nat.reduceAdd,Nat.reduceSub,Array.replicate_succ,Array.replicate_zero,List.push_toArray,List.append_toArray,List.nil_append,List.cons_append]
 gi_wp2_with (refine⟨trivial,?_⟩;gi_at_call 218;refine HF3.out.mono ?_;rintro e w' ⟨rfl,hq⟩;subst w')
 gi_loopw [3,4,5] (fun a b ok wr=>∃(pre:List (El s)) (r:Nat),a=.int .u64 r∧b=.int .i64 (c r)∧ok=.bool (r !=0)∧r< bI∧Hid (pre.map (·.1)++els r=els s)∧Hid (J pre wr)∧Hid (Tz wr)) (fun a _ _ _=>(intOf a).toNat)
 case atStart=>exact⟨[],s,rfl,rfl,rfl,hs,rfl,h0,HT⟩
 case round=>
  obtain⟨pre,r,rfl,rfl,rfl,hr,HE,HJ,HTr⟩:=hrel
  by_cases h:r=0
  ·have hok:(r !=0)=false:=by simp[h]
   have HX:Hid (pre=jZ s):=kJ (by have:=HE.out;rw[h,hU,List.append_nil]at this;exact this)
   clear h
   rw[hok]
   gi_wp2
   go_end0
   exact⟨⟨_,rfl⟩,.inl ⟨pre,HX.out,HJ.out⟩⟩
  ·have hok:(r !=0)=true:=by simp[h]
   have hcr:c r=Lib.ctz 64 r:=by rw[HC.out];simp[h]
   have hb:=eY h hr
   rw[←hcr]at hb
   have hx:s.testBit (c r)=true:=by
    have hm:c r∈els s:=by rw[←HE.out,dq h hr,←hcr];simp
    exact(iw hm).2
   have HE2:Hid ((pre++[(⟨c r,hb.1,hx⟩:El s)]).map (·.1)++els (bj r (aC (c r)))=els s):=by
    show _=_
    rw[←HE.out,dq h hr,←hcr]
    simp
   have hl2:pre.length< 64:=by
    have h1:=congrArg List.length HE.out
    have h2:=jj s
    rw[dq h hr]at h1
    simp at h1
    omega
   have hless:=fd h hr
   rw[←hcr]at hless
   have hr2:=dN r (aC (c r))
   obtain⟨fn,tmps,assign,body,hy,hR⟩:=HYY.out pre ⟨c r,hb.1,hx⟩ wr HJ.out hl2
   dsimp only at hy
   have HR:=aa hR
   have HO:=aa (fun w=>callsIn_wide (n:=n-1).2 (dZ (c r) hb.1 w))
   clear h hcr hR
   rw[hok]
   gi_wp2
   refine HR.out.mono ?_
   rintro e W3 (⟨rfl,hJ3,hk3⟩|⟨rfl,hJx3⟩)
   ·have HT3:Hid (Tz W3):=HTr.out.low hn0 hk3
    have HJ3:=aa hJ3
    have HF5:=HF4.out (bj r (aC (c r))) W3 hr2 HT3.out
    clear hJ3 hk3
    gi_wp2_with (first|(refine⟨trivial,?_⟩;gi_at_call 192;refine(HO.out _).mono ?_;rintro e w' ⟨rfl,hq⟩;subst w')|(refine⟨trivial,?_⟩;gi_at_call 218;refine HF5.out.mono ?_;rintro e w' ⟨rfl,hq⟩;subst w'))
    go_roundw
    case rel=>exact⟨pre++[⟨c r,hb.1,hx⟩],_,rfl,rfl,rfl,hr2,HE2,HJ3,HT3⟩
    case measure=>simp[intOf];omega
   ·have HJ3:=aa hJx3
    clear hJx3
    gi_wp2
    refine bodyPost_ret (results_none rfl _ _ _) rfl ?_
    exact⟨⟨_,rfl⟩,.inr ⟨pre++[⟨c r,hb.1,hx⟩],⟨els (bj r (aC (c r))),HE2.out⟩,HJ3.out⟩⟩
end
end Go.Proofs.YtmdaflepdaiabaaGreatDoor
