import Derived.Laws.Bits64b
import Derived.Lib.TrailingZeros
import Derived.Laws.ShiftsVar
import Derived.Laws.ShiftsVarLaws
import Derived.Shelf.Spec.TrailingZeros
import Derived.BigQuiet
import Derived.Deep.RegionHeld3
import Derived.Test.YtajfbbldaiaolaaGreatDoorQ00
set_option linter.unusedSimpArgs false
set_option linter.unusedVariables false
set_option maxRecDepth 100000
set_option maxHeartbeats 2000000
namespace Go.Proofs.YtajfbbldaiaolaaGreatDoor
open Go.RowKit
variable {W w:World}{a b f n s:Nat}{v:Value}
section
open Go
def ec:Nat:=18446744073709551616
def dT(a b:Nat):Nat:=(a&&&b)%ec
def fV(a b:Nat):Nat:=(a|||b)%ec
def ew(a b:Nat):Nat:=(a%ec)&&&(ec-1-b%ec)
def aW(n:Nat):Nat:=2^n%ec
def dB(a:Nat):Nat:=(a+(ec-1))%ec
def eU(a n:Nat):Bool:=dT a (aW n)!=0
theorem sq(a b:Nat):dT a b< ec:=Nat.mod_lt _ (by decide)
theorem kE(a b:Nat):fV a b< ec:=Nat.mod_lt _ (by decide)
theorem DD(n:Nat):aW n< ec:=Nat.mod_lt _ (by decide)
theorem jf(a:Nat):dB a< ec:=Nat.mod_lt _ (by decide)
theorem mH(a b:Nat):ew a b< ec:=Nat.lt_of_le_of_lt Nat.and_le_left (Nat.mod_lt _ (by decide))
theorem iC(a:Nat):(BitVec.ofInt 64 (a:Int)).toNat=a%ec:=by
 rw[BitVec.ofInt_natCast,BitVec.toNat_ofNat];rfl
theorem FC(a b:Nat):(a%ec)&&&(b%ec)=dT a b:=by
 unfold dT ec
 exact(Nat.and_mod_two_pow (a:=a) (b:=b) (n:=64)).symm
theorem Hs(a b:Nat):(a%ec)|||(b%ec)=fV a b:=by
 unfold fV ec
 exact(Nat.or_mod_two_pow (a:=a) (b:=b) (n:=64)).symm
theorem gz(a b:Nat):bits .and .u64 (a:Int) (b:Int)=((dT a b:Nat):Int):=by
 show IntKind.u64.wrap ((BitVec.ofInt 64 (a:Int)&&&BitVec.ofInt 64 (b:Int)).toNat:Int)=_
 rw[BitVec.toNat_and,iC,iC,FC,IntKind.wrap_u64]
 have:=sq a b
 unfold ec at this
 omega
theorem ff(a b:Nat):bits .or .u64 (a:Int) (b:Int)=((fV a b:Nat):Int):=by
 show IntKind.u64.wrap ((BitVec.ofInt 64 (a:Int)|||BitVec.ofInt 64 (b:Int)).toNat:Int)=_
 rw[BitVec.toNat_or,iC,iC,Hs,IntKind.wrap_u64]
 have:=kE a b
 unfold ec at this
 omega
theorem iK(a b:Nat):bits .andNot .u64 (a:Int) (b:Int)=((ew a b:Nat):Int):=by
 show IntKind.u64.wrap ((BitVec.ofInt 64 (a:Int)&&&~~~ BitVec.ofInt 64 (b:Int)).toNat:Int)=_
 rw[BitVec.toNat_and,BitVec.toNat_not,iC,iC,IntKind.wrap_u64]
 have:=mH a b
 show(((a%ec)&&&(2^64-1-b%ec):Nat):Int)%18446744073709551616=((ew a b:Nat):Int)
 have e:(a%ec)&&&(2^64-1-b%ec)=ew a b:=rfl
 rw[e]
 unfold ec at this
 omega
theorem zb(n:Nat):IntKind.u64.wrap (2^n)=((aW n:Nat):Int):=by
 rw[IntKind.wrap_u64]
 unfold aW ec
 rw[Int.natCast_emod,Int.natCast_pow]
 rfl
theorem wE(a:Nat):IntKind.u64.wrap ((a:Int)-1)=((dB a:Nat):Int):=by
 rw[IntKind.wrap_u64]
 unfold dB ec
 omega
theorem va(a:Nat):(((a:Nat):Int)!=0)=(a !=0):=by
 rw[Bool.eq_iff_iff];simp
theorem wM(A:a< ec)(h:a.testBit n=true):n< 64:=by
 rcases Nat.lt_or_ge n 64 with x|x
 ·exact x
 ·have:a< 2^n:=Nat.lt_of_lt_of_le A (by show 2^64<=_;exact Nat.pow_le_pow_right (by decide) x)
  rw[Nat.testBit_lt_two_pow this]at h;cases h
theorem sn(h:n< 64):aW n=2^n:=Nat.mod_eq_of_lt (by show 2^n< 2^64;exact Nat.pow_lt_pow_right (by decide) h)
theorem kG(a b n:Nat):(fV a b).testBit n=(decide (n< 64)&&(a.testBit n||b.testBit n)):=by
 unfold fV
 show((a|||b)%2^64).testBit n=_
 rw[Nat.testBit_mod_two_pow,Nat.testBit_or]
theorem fW(a b n:Nat):(ew a b).testBit n=(decide (n< 64)&&a.testBit n&&!b.testBit n):=by
 unfold ew
 show((a%2^64)&&&(2^64-1-b%2^64)).testBit n=_
 have A:b%2^64< 2^64:=Nat.mod_lt _ (by decide)
 rw[Nat.testBit_and,Nat.testBit_mod_two_pow,show 2^64-1-b%2^64=2^64-(b%2^64+1)by omega,Nat.testBit_two_pow_sub_succ A,Nat.testBit_mod_two_pow]
 cases decide (n< 64)<;>simp
theorem iu(A:n< 64)(k:Nat):(aW n).testBit k=decide (n=k):=by
 rw[sn A,Nat.testBit_two_pow]
def et(s:Nat):List Nat:=(List.range 64).filter s.testBit
theorem CJ:et 0=[]:=by decide
theorem tI(h:n∈et s):n< 64/\s.testBit n=true:=by
 unfold et at h
 rw[List.mem_filter,List.mem_range]at h
 exact h
theorem Ae{k:Nat}(B:k< 64)(L:s.testBit k=true)(C:∀j,j< k->s.testBit j=false):et s=k::et (ew s (aW k)):=by
 unfold et
 have e:List.range 64=List.range k++(k::(List.range (63-k)).map (·+(k+1))):=by
  have K:List.range 64=List.range (k+(1+(63-k))):=by congr 1;omega
  rw[K,List.range_add,List.range_add]
  simp only[List.map_append,List.map_map]
  congr 1
  show[k+0]++_=_
  rw[Nat.add_zero]
  show k::_=_
  congr 1
  apply List.map_congr_left
  intro a _
  show k+(1+a)=a+(k+1)
  omega
 rw[e,List.filter_append,List.filter_append,List.filter_cons,List.filter_cons,if_pos L]
 have F:(List.range k).filter s.testBit=[]:=by
  rw[List.filter_eq_nil_iff]
  intro a A
  rw[C a (List.mem_range.1 A)];decide
 have E:(List.range k).filter (ew s (aW k)).testBit=[]:=by
  rw[List.filter_eq_nil_iff]
  intro a A
  rw[fW,C a (List.mem_range.1 A)];simp
 have D:(ew s (aW k)).testBit k=false:=by rw[fW,iu B];simp
 rw[F,E,if_neg (by rw[D];decide),List.nil_append,List.nil_append]
 congr 1
 apply List.filter_congr
 intro a A
 obtain⟨b,G,rfl⟩:=List.mem_map.1 A
 have:=List.mem_range.1 G
 rw[fW,iu B]
 have J:b+(k+1)< 64:=by omega
 have H:¬k=b+(k+1):=by omega
 simp[J,H]
theorem lN{x:Nat}(B:x≠0)(h:x< ec):Lib.ctz 64 x< 64/\x.testBit (Lib.ctz 64 x)=true/\∀j,j< Lib.ctz 64 x->x.testBit j=false:=by
 obtain⟨m,e,A⟩:=Lib.ctzFrom_spec 64 x (by omega) h
 have C:Lib.ctz 64 x=Lib.ctzFrom 64 x:=by unfold Lib.ctz;rw[if_neg B]
 rw[C]
 refine⟨A,?_,fun j D=>?_⟩
 ·have:(2^Lib.ctzFrom 64 x*(2*m+1)).testBit (Lib.ctzFrom 64 x)=true:=by
   rw[Nat.testBit_two_pow_mul]
   simp
  rw[<-e]at this;exact this
 ·have:(2^Lib.ctzFrom 64 x*(2*m+1)).testBit j=false:=by
   rw[Nat.testBit_two_pow_mul]
   simp;omega
  rw[<-e]at this;exact this
theorem tJ{x:Nat}(A:x≠0)(h:x< ec):et x=Lib.ctz 64 x::et (ew x (aW (Lib.ctz 64 x))):=Ae (lN A h).1 (lN A h).2.1 (lN A h).2.2
theorem wH{x:Nat}(C:x≠0)(h:x< ec):ew x (aW (Lib.ctz 64 x))< x:=by
 have A:=lN C h
 have B:ew x (aW (Lib.ctz 64 x))<=x:=Nat.le_trans Nat.and_le_left (Nat.mod_le _ _)
 rcases Nat.lt_or_ge (ew x (aW (Lib.ctz 64 x))) x with a|a
 ·exact a
 ·have e:ew x (aW (Lib.ctz 64 x))=x:=by omega
  have:=fW x (aW (Lib.ctz 64 x)) (Lib.ctz 64 x)
  rw[e,iu A.1,A.2.1]at this
  simp at this
abbrev El(s:Nat):={x:Nat//x< 64/\s.testBit x=true}
def yT(s:Nat):List (El s):=(et s).attach.map (fun x=>⟨x.1,tI x.2⟩)
theorem dO(s:Nat):(yT s).map (·.1)=et s:=by
 unfold yT
 rw[List.map_map]
 exact(List.attach_map_subtype_val (et s))
theorem ID{A:List (El s)}(h:A.map (·.1)=et s):A=yT s:=by
 rw[<-dO]at h
 exact List.map_inj_right (f:=fun x:El s=>x.1) (fun a b e=>Subtype.ext e) |>.1 h
theorem Fq(s:Nat):(et s).length<=64:=by
 unfold et
 exact Nat.le_trans (List.length_filter_le _ _) (by simp)
end
section
structure Fs where
 p:Ph:={}
 r:List Pa:=[]
 fn:Nat:=0
 nx:Int:=0
 ins:Int:=0
structure Rp where
 main:Nat:=0
 mutexes:Nat:=0
 begins:List Nat:=[]
 stmts:List Fs:=[]
 starts:List Nat:=[]
 spots:Nat:=0
 twice:Nat:=0
 runs:List Nat:=[]
 below:List Nat:=[]
 ends:Nat:=0
namespace Rp
def st(x:Rp)(s:Nat):Fs:=x.stmts.getD s {}
def spot(x:Rp)(f:Nat)(place:Int):Nat:=if place=-1 then x.ends+f else place.toNat
def nextOf(x:Rp)(s:Nat):Nat:=
 if(x.st s).p.kind=12 then 0
 else if(x.st s).p.kind=13\/(x.st s).p.kind=14 then fV (aW (x.spot (x.st s).fn (x.st s).nx)) (aW (x.spot (x.st s).fn (x.st s).ins))
 else aW (x.spot (x.st s).fn (x.st s).nx)
def isCall(x:Rp)(s:Nat):Bool:=(x.st s).p.kind==11
def isStart(x:Rp)(s:Nat):Bool:=(x.st s).p.kind==7
def comeOf(x:Rp)(s:Nat):Nat:=if x.isCall s||x.isStart s then fV (x.nextOf s) (aW (x.begins.getD (x.st s).p.nn 0))else x.nextOf s
end Rp
end
theorem zC(A:f=137\/f=163\/f=218\/f=222\/f=238\/f=275)(n:Nat)(B:n< 64)(w:World):
  Calls Tryz.prog f #[aB n] w (Ru w (aH (aW n:Nat))):=by
 have r1:=zb
 rcases A with rfl|rfl|rfl|rfl|rfl|rfl
 all_goals
  go_in
  go_wp2_with fail
  go_ret
  exact⟨rfl,rfl⟩
abbrev jK:=@zC _ (.inl rfl)
abbrev kO:=@zC _ (.inr (.inl rfl))
abbrev uV:=@zC _ (.inr (.inr (.inl rfl)))
abbrev pO:=@zC _ (.inr (.inr (.inr (.inl rfl))))
abbrev te:=@zC _ (.inr (.inr (.inr (.inr (.inl rfl)))))
abbrev fC:=@zC _ (.inr (.inr (.inr (.inr (.inr rfl)))))
theorem Io{o:Nat}(A:f=202/\o=137\/f=203/\o=275\/f=239/\o=163)(B:∀(n:Nat),n< 64->∀w,Ca o #[aB n] w (Ru w (aH (aW n:Nat))))(a n:Nat)(D:n< 64)(w:World):
  Calls Tryz.prog f #[aH a,aB n] w (Ru w (.bool (eU a n))):=by
 have r1:=gz
 have r2:=va
 have E:=aG (B n D w)
 clear B
 rcases A with⟨rfl,rfl⟩|⟨rfl,rfl⟩|⟨rfl,rfl⟩
 all_goals
  go_in
  go_wp2_with fail
  refine E.mono ?_
  rintro r C ⟨rfl,A⟩
  subst C
  go_wp2_with fail
  go_ret
  exact⟨rfl,rfl⟩
abbrev lJ:=@Io _ _ (.inl ⟨rfl,rfl⟩) jK
abbrev iR:=@Io _ _ (.inr (.inl ⟨rfl,rfl⟩)) fC
abbrev kU:=@Io _ _ (.inr (.inr ⟨rfl,rfl⟩)) kO
theorem tN{o:Nat}(A:f=149/\o=222\/f=270/\o=275\/f=274/\o=163\/f=283/\o=238)(B:∀(n:Nat),n< 64->∀w,Ca o #[aB n] w (Ru w (aH (aW n:Nat))))(n:Nat)(D:n< 64)(w:World):
  Calls Tryz.prog f #[aB n] w (Ru w (aH (dB (aW n):Nat))):=by
 have r1:=wE
 have E:=aG (B n D w)
 clear B
 rcases A with⟨rfl,rfl⟩|⟨rfl,rfl⟩|⟨rfl,rfl⟩|⟨rfl,rfl⟩
 all_goals
  go_in
  go_wp2_with fail
  refine E.mono ?_
  rintro r C ⟨rfl,A⟩
  subst C
  go_wp2_with fail
  go_ret
  exact⟨rfl,rfl⟩
abbrev xP:=@tN _ _ (.inl ⟨rfl,rfl⟩) pO
abbrev mi:=@tN _ _ (.inr (.inl ⟨rfl,rfl⟩)) fC
abbrev xO:=@tN _ _ (.inr (.inr (.inl ⟨rfl,rfl⟩))) kO
abbrev Aq:=@tN _ _ (.inr (.inr (.inr ⟨rfl,rfl⟩))) te
def Tz(w:World):Prop:=TabAt 0 Lib.deBruijn64tab w
theorem Tz.below{w':World}(h:Tz w)(k:Bw w w'):Tz w':=fun j B=>by
 have A:=h j B
 rw[k.cell (p:=Ad 0 j) (aD A)];exact A
theorem Jp(x k A:Nat)(w:World)(D:((x:Int)==0)=false)
  (B:IntKind.u64.wrap (bits BinOp.and IntKind.u64 (x:Int) (IntKind.u64.wrap (-(x:Int)))*285870213051353865)/288230376151711744=(A:Int))
  (F:A< 64) (E:k< 64) (C:w.cell? (Ad 0 A)=some (.int .u8 k)):
  Calls Tryz.prog 234 #[aH x] w (Ru w (aB k)):=by
 go_in
 go_wp2_with (simp only[B])
 go_ret
 exact⟨rfl,rfl⟩
theorem Lb(x:Nat)(D:x< ec)(G:x≠0)(w:World)(H:Tz w):
  Ca 234 #[aH x] w (Ru w (aB (Lib.ctz 64 x))):=by
 obtain⟨C,E⟩:=Lib.lowest_bit 64 x G D
 obtain⟨F,B⟩:=Lib.deBruijn64_at _ E
 have A:=H _ F
 rw[B]at A
 exact Jp x _ _ w (by rw[beq_eq_false_iff_ne];omega) (tz64_key x _ D G C) F E A
theorem nW(A:f=213\/f=279\/f=166\/f=243\/f=237\/f=309)(x:Nat)(E:x< ec)(F:x≠0)(w:World)(B:Tz w):
  Calls Tryz.prog f #[aH x] w (Ru w (.tuple #[aB (Lib.ctz 64 x),.bool true])):=by
 have G:=aG (Lb x E F w B)
 have D:((x:Int)!=0)=true:=by rw[bne_iff_ne];omega
 clear B
 rcases A with rfl|rfl|rfl|rfl|rfl|rfl
 all_goals
  go_in
  go_wp2_with fail
  refine G.mono ?_
  rintro r C ⟨rfl,A⟩
  subst C
  go_wp2_with fail
  go_ret2
  exact⟨rfl,rfl⟩
abbrev zZ:=@nW _ (.inl rfl)
abbrev xG:=@nW _ (.inr (.inl rfl))
abbrev qj:=@nW _ (.inr (.inr (.inl rfl)))
abbrev xJ:=@nW _ (.inr (.inr (.inr (.inl rfl))))
abbrev Aa:=@nW _ (.inr (.inr (.inr (.inr (.inl rfl)))))
abbrev qN:=@nW _ (.inr (.inr (.inr (.inr (.inr rfl)))))
theorem lM(A:f=213\/f=279\/f=166\/f=243\/f=237\/f=309)(w:World):
  Calls Tryz.prog f #[aH 0] w (Ru w (.tuple #[aB 64,.bool false])):=by
 rcases A with rfl|rfl|rfl|rfl|rfl|rfl
 all_goals
  go_in
  go_wp2
  go_ret2
  exact⟨rfl,rfl⟩
abbrev xH:=@lM _ (.inl rfl)
abbrev vy:=@lM _ (.inr (.inl rfl))
abbrev ox:=@lM _ (.inr (.inr (.inl rfl)))
abbrev vz:=@lM _ (.inr (.inr (.inr (.inl rfl))))
abbrev xI:=@lM _ (.inr (.inr (.inr (.inr (.inl rfl)))))
abbrev qk:=@lM _ (.inr (.inr (.inr (.inr (.inr rfl)))))
theorem aR{w':World}(h:Below n w w')(k:Nat):Below n w (w'.drewN k):=⟨h.os,h.tape,h.output,h.size,h.block⟩
def dG(l:List Nat):List Value:=l.map (fun(a:Nat)=>Value.int .i64 (a:Int))
def aX(l:List Nat):List Value:=l.map (fun(a:Nat)=>Value.int .u64 (a:Int))
def ui(y:Nat×Fs):List Value:=[aF y.1,.int .i64 y.2.fn,.int .i64 y.2.nx,.int .i64 y.2.ins]
def kn(l:List (Nat×Fs)):List Value:=l.flatMap ui
theorem vv(l:List (Nat×Fs)):(kn l).length=l.length*4:=by
 induction l with
 |nil=>rfl
 |cons a l ih=>simp only[kn,List.flatMap_cons,List.length_append]at ih⊢;rw[ih];simp[ui];omega
theorem tE(l:List (Nat×Fs))(k:Nat)(y:Nat×Fs)(h:l[k]?=some y)(j:Nat)(A:j< 4):(kn l)[k*4+j]?=(ui y)[j]?:=by
 induction l generalizing k with
 |nil=>simp at h
 |cons a l ih=>
  cases k with
  |zero=>
   simp at h;subst h
   simp only[kn,List.flatMap_cons,Nat.zero_mul,Nat.zero_add]
   rw[List.getElem?_append_left (by simp[ui];omega)]
  |succ k=>
   have:=ih k (by simpa using h)
   rw[<-this]
   simp only[kn,List.flatMap_cons]
   rw[List.getElem?_append_right (by simp[ui];omega)]
   congr 1
   simp[ui];omega
structure yl(w:World)(sv:Value)(l:List Fs):Prop where
 ex:∃bs:List Nat,bs.length=l.length/\w.ownsRow 0 253 4 sv l.length (kn (bs.zip l))/\∀(k b:Nat) (s:Fs),bs[k]?=some b->l[k]?=some s->∃sr sb,aM w b (bK s.p sr sb)/\w.ownsRow 0 258 4 sr s.r.length (eF s.r)
theorem yl.below{w':World}{y:Value}{l:List Fs}(h:yl w y l)(k:Bw w w'):yl w' y l:=by
 obtain⟨H,G,F,E⟩:=h.ex
 refine⟨H,G,aP F k,fun j b s B A=>?_⟩
 obtain⟨sr,sb,D,C⟩:=E j b s B A
 exact⟨sr,sb,D.below k,aP C k⟩
structure cA(w:World)(bR:Nat)(x:Rp):Prop where
 ex:∃bv sv tv rv lv:Value,aM w bR #[.int .i64 x.main,.int .i64 x.mutexes,bv,sv,tv,.int .u64 x.spots,.int .u64 x.twice,rv,lv,.int .i64 x.ends]/\w.ownsRow 0 175 1 bv x.begins.length (dG x.begins)/\yl w sv x.stmts/\w.ownsRow 0 175 1 tv x.starts.length (dG x.starts)/\w.ownsRow 0 337 1 rv x.runs.length (aX x.runs)/\w.ownsRow 0 231 1 lv x.below.length (aX x.below)
theorem cA.keep{w':World}{x:Rp}(h:cA w a x)(k:Bw w w'):cA w' a x:=by
 obtain⟨K,A,tv,B,C,J,H,G,F,E,D⟩:=h.ex
 exact⟨K,A,tv,B,C,J.below k,aP H k,G.below k,aP F k,aP E k,aP D k⟩
theorem cA.stm{d:Nat}{x:Rp}(h:cA w d x)(G:s< x.stmts.length):∃g c b sr sb,w.cell? (Ad d 3)=some (.slice (some (Ad g 0)) x.stmts.length c)/\w.cell? (Ad g (s*4))=some (aF b)/\w.cell? (Ad g (s*4+1))=some (aB (x.st s).fn)/\w.cell? (Ad g (s*4+2))=some (aB (x.st s).nx)/\w.cell? (Ad g (s*4+3))=some (aB (x.st s).ins)/\aM w b (bK (x.st s).p sr sb)/\w.ownsRow 0 258 4 sr (x.st s).r.length (eF (x.st s).r):=by
 obtain⟨X,O,tv,P,Q,K,V,J,T,S,R⟩:=h.ex
 obtain⟨E,W,D,N⟩:=J.ex
 obtain⟨g,c,e⟩:=aO D (by omega)
 subst e
 have B:x.stmts[s]?=some (x.st s):=by unfold Rp.st;rw[List.getD_eq_getElem?_getD,List.getElem?_eq_getElem G];rfl
 obtain⟨b,C⟩:∃b,E[s]?=some b:=⟨_,List.getElem?_eq_getElem (by omega)⟩
 obtain⟨sr,sb,M,L⟩:=N s b _ C B
 have F:(E.zip x.stmts)[s]?=some (b,x.st s):=by rw[List.getElem?_zip_eq_some];exact⟨C,B⟩
 have A:∀j,j< 4->w.cell? (Ad g (s*4+j))=(ui (b,x.st s))[j]?:=fun j H=>by
  have:=D.cellAt (g:=g) (s*4+j) (by omega)
  rw[this,tE _ s _ F j H]
 refine⟨g,c,b,sr,sb,K.cell 3,A 0 (by decide),A 1 (by decide),A 2 (by decide),A 3 (by decide),M,L⟩
theorem jk{x:Rp}(h:cA w a x)(A:s< x.stmts.length):
  Calls Tryz.prog 204 #[aF a,aB s] w (Ru w (aB (x.st s).fn)):=by
 obtain⟨g,c,b,sr,sb,H,G,F,E,D,C,B⟩:=h.stm A
 clear h C B
 go_in
 go_wp2_with fail
 go_ret
 exact⟨rfl,rfl⟩
theorem BA{x:Rp}(h:cA w a x)(f:Nat)(p:Int)(hp:p=-1\/(0<=p/\p<=1000))(H:f<=1000)(J:x.ends<=1000):
  Calls Tryz.prog 135 #[aF a,aB f,aB p] w (Ru w (aB (x.spot f p:Nat))):=by
 obtain⟨N,E,tv,F,G,D,-⟩:=h.ex
 have M:Ce w a 9 (aB x.ends):=D.cell 9
 clear h D
 unfold Rp.spot
 rcases hp with rfl|⟨L,K⟩
 ·simp only[if_true]
  go_in
  go_wp2_with fail
  go_ret
  exact⟨by simp,rfl⟩
 ·have B:¬p=-1:=by omega
  have C:(p==-1)=false:=by rw[beq_eq_false_iff_ne];omega
  have A:((p.toNat:Nat):Int)=p:=by omega
  simp only[if_neg B]
  rw[A]
  clear A B
  go_in
  go_wp2_with fail
  go_ret
  exact⟨rfl,rfl⟩
theorem BD{x:Rp}(h:cA w a x)(B:s< x.stmts.length)(k:Nat):
  Calls Tryz.prog 226 #[aF a,aB s,aB k] w (Rt w (.tuple #[aB (x.st s).p.nn,.bool ((x.st s).p.kind==k)])):=by
 obtain⟨g,c,b,sr,sb,L,K,J,H,G,A,C⟩:=h.stm B
 have F:Ce w b 2 (aB (x.st s).p.kind):=A.cell 2
 have D:Ce w b 11 (aB (x.st s).p.nn):=A.cell 11
 have E:=A.lt
 have e:(((x.st s).p.kind:Int)==(k:Int))=((x.st s).p.kind==k):=by rw[Bool.eq_iff_iff,beq_iff_eq,beq_iff_eq];omega
 clear h A C
 go_in
 go_wp2_with fail
 go_quiet (fail)
 go_wp2_with fail
 go_ret2
 exact⟨rfl,aR (ba _ _) _⟩
theorem mP{x:Rp}(h:cA w a x)(B:s< x.stmts.length):
  Calls Tryz.prog 156 #[aF a,aB s] w (Rt w (.tuple #[aB (x.st s).p.nn,.bool (x.isCall s)])):=by
 have H:=aG (BD h B 11)
 clear h
 go_in
 go_wp2_with fail
 refine H.mono ?_
 rintro r C ⟨rfl,A⟩
 replace A:=aG A
 go_wp2_with fail
 go_ret2
 exact⟨rfl,A⟩
theorem pI{x:Rp}(h:cA w a x)(B:s< x.stmts.length):
  Calls Tryz.prog 206 #[aF a,aB s] w (Rt w (.tuple #[aB (x.st s).p.nn,.bool (x.isStart s)])):=by
 have H:=aG (BD h B 7)
 clear h
 go_in
 go_wp2_with fail
 refine H.mono ?_
 rintro r C ⟨rfl,A⟩
 replace A:=aG A
 go_wp2_with fail
 go_ret2
 exact⟨rfl,A⟩
theorem yI{x:Rp}(h:cA w a x)(E:s< x.stmts.length):
  Calls Tryz.prog 195 #[aF a,aB s] w (Rt w (.tuple #[aB (x.st s).p.nn,.bool (x.isCall s||x.isStart s)])):=by
 have H:=aG (mP h E)
 have D:=fun C (k:Bw w C)=>aG (pI (h.keep k) E)
 replace D:=aG D
 clear h
 go_in
 go_wp2_with fail
 refine H.mono ?_
 rintro r C ⟨rfl,B⟩
 replace B:=aG B
 cases F:x.isCall s
 ·go_wp2_with fail
  refine(D C B).out.mono ?_
  rintro r G ⟨rfl,A⟩
  replace A:=aG A
  go_wp2_with fail
  go_ret2
  exact⟨by simp[F],B.trans (A.mono B.size)⟩
 ·go_wp2_with fail
  go_ret2
  exact⟨by simp[F],B⟩
section
open Go.Shelf
structure eH(T:TypeId->Prop)(base:Nat)(W W':World):Prop where
 bel:Below base W W'
 typ:∀(b:Nat) (A:Array Value) (t:TypeId) (fz:Nat×Nat),¬T t->W.heap[b]?=some (.cells A t fz)->W'.heap[b]?=some (.cells A t fz)
theorem eH.refl(T:TypeId->Prop)(A:Nat)(W:World):eH T A W W:=⟨Below.refl _ _,fun _ _ _ _ _ h=>h⟩
theorem eH.trans{T:TypeId->Prop}{d:Nat}{a b c:World}(h:eH T d a b)(k:eH T d b c):eH T d a c:=⟨h.bel.trans k.bel,fun i A t C B e=>k.typ i A t C B (h.typ i A t C B e)⟩
theorem eH.of_below{T:TypeId->Prop}{W':World}(h:Bw W W')(B:a<=W.heap.size):eH T a W W':=⟨h.mono B,fun i A t C _ e=>(h.block i (gl e)).trans e⟩
theorem eH.drew{T:TypeId->Prop}{W':World}(h:eH T a W W'):eH T a W W'.drew:=⟨h.bel.drew,h.typ⟩
theorem eH.alloc{T:TypeId->Prop}{W':World}(h:eH T a W W')(A:a<=W'.heap.size)(o:Obj):eH T a W (W'.alloc o):=h.trans (eH.of_below (ba _ o) A)
theorem eH.grown{T:TypeId->Prop}{W':World}{e:TypeId}{size:Nat}{D:List Value}(h:W.ownsRow a e size v n D)(hg:W.grownBy W' v.ownBlock)(F:T e)(G:a<=W.heap.size):eH T a W W':=by
 refine⟨(Below.refl _ _).grown hg G (fun k e=>(h.lt k e).1),fun b A t J E B=>?_⟩
 refine(hg.block b (gl B) ?_).trans B
 rcases h.2 with⟨rfl,_⟩|⟨g,cap,H,rfl,_,C,_⟩
 ·exact fun e=>by cases e
 ·intro e'
  cases e'
  rw[C]at B
  cases B
  exact E F
theorem heap_set{j:Nat}{A:Array Value}{t:TypeId}{B:Nat×Nat}{u:Value}(h:W.heap[b]?=some (.cells A t B)):(W.setCell ⟨b,j,none⟩ u).heap[b]?=some (.cells (A.setIfInBounds j u) t B):=by
 show(W.heap.modify b _)[b]?=_
 rw[Array.getElem?_modify,h]
 simp
theorem eH.set{T:TypeId->Prop}{j:Nat}{A:Array Value}{t:TypeId}{G:Nat×Nat}{u:Value}(h:W.heap[b]?=some (.cells A t G))(D:T t)(E:a<=b):eH T a W (W.setCell ⟨b,j,none⟩ u):=by
 refine⟨(Below.refl _ _).setCell (p:=Ad b j) E u,fun i J H F B C=>?_⟩
 rw[Below.heap_setCell _ _ _ _ (by intro e;cases e;rw[h]at C;cases C;exact B D)]
 exact C
theorem eH.row{T:TypeId->Prop}{B:Nat}{W':World}{e:TypeId}{size:Nat}{C:List Value}(k:eH T a W W')(h:W.ownsRow B e size v n C)(G:¬T e):W'.ownsRow B e size v n C:=by
 refine⟨h.1,?_⟩
 rcases h.2 with E|⟨g,cap,A,D,hg,F,r⟩
 ·exact .inl E
 ·exact .inr ⟨g,cap,A,D,hg,k.typ _ _ _ _ G F,r⟩
theorem dP{B e size:Nat}{C:List Value}(h:w.ownsRow B e size v n C)(D:Nat)(H:D<=B):w.ownsRow D e size v n C:=by
 refine⟨h.1,?_⟩
 rcases h.2 with F|⟨g,cap,A,E,hg,G,r⟩
 ·exact .inl F
 ·exact .inr ⟨g,cap,A,E,by omega,G,r⟩
theorem aA{A:Array Value}{t:TypeId}(h:W.heap[b]?=some (.cells A t (0,0))):aM W b A:=
 ⟨fun j=>by simp[World.cell?,h],fun j=>by simp[World.frozen?,h],(gl h)⟩
theorem lu:(Tryz.prog.info? 253).map (fun i=>(i.zero,i.size,i.bytes))=some (some (.agg #[.pointer none,aB 0,aB 0,aB 0]),4,32):=by kernel_rfl
theorem qS:(Tryz.prog.info? 175).map (fun i=>(i.zero,i.size,i.bytes))=some (some (aB 0),1,8):=by kernel_rfl
theorem xV(g n c:Nat)(w:World):(binOp BinOp.eql 183 (.slice (some (Ad g 0)) n c) (.slice none 0 0)).run Tryz.prog w=.ok (.bool false) w:=by kernel_rfl
theorem GW{y:Value}{C:List Value}(h:w.ownsRow 0 253 4 y n C)(N:0< n)(M:n<=1000)(J:∀u∈C,u.oneCell'=true):
  Calls Tryz.prog 134 #[y] w fun r w'=>∃v,r=.returned v/\w'.ownsRow w.heap.size 253 4 v n C/\Bw w w':=by
 obtain⟨L,P,F,E,D⟩:=info_parts lu
 obtain⟨g,c,rfl⟩:=aO h (by omega)
 have G:=(h.lt g rfl).2
 have R:Hid (∀j u,C[j]?=some u->(w.alloc (.cells #[] 253)).cell? (((Ad g 0):Addr).add j)=some u):=fun j u O=>by
  rw[World.cell?_alloc_lt _ _ _ (by unfold Addr.add;split<;>exact G)]
  exact h.cells (g:=g) rfl j u O
 have S:Hid (C.length=n*4):=h.1
 have V:=aG J
 have W:=xV
 clear h J
 go_in
 go_wp2_with (at_builtin;refine bE rfl _ _ 183 rfl w.heap.size 253 L (.agg #[.pointer none,aB 0,aB 0,aB 0]) 4 32 Tryz.underlying183 P F E D rfl (by decide) _ _ _ rfl (World.ownsRow_made w #[] 0 (Nat.le_refl _) (by decide) rfl) (Ad g 0) n c C rfl S R V N (by unfold maxLen;omega) (by omega) (by simp) ?_;intro K H B A _)
 have Q:Hid (H.ownsRow w.heap.size 253 4 K n C):=by
  have:=B
  rw[Nat.zero_add,List.nil_append]at this
  exact this
 have T:Hid (Bw w H):=(ba w _).grown A (by simp) (fun k e=>by cases e;exact Nat.le_refl _)
 clear B A
 go_wp2_with fail
 go_ret
 exact⟨_,rfl,Q,T⟩
end
end Go.Proofs.YtajfbbldaiaolaaGreatDoor
