import Derived.Test.YtmdaflepdaiabaaGreatDoorQ14
set_option linter.unusedSimpArgs false
set_option linter.unusedVariables false
namespace Go.Proofs.YtmdaflepdaiabaaGreatDoor
section
set_option maxRecDepth 100000
set_option maxHeartbeats 2000000
open Go.RowKit Go.Shelf
structure Ac where
 spot:Nat:=0
 wr:Bool:=false
 kind:Nat:=0
 num:Nat:=0
 things:Nat:=0
def Ar(a:Ac):Array Value:=#[.int .i64 a.spot,.bool a.wr,.int .i64 a.kind,.int .i64 a.num,.int .u64 a.things]
def jy(a b:Ac):Int×Bool:=
 if a.kind=b.kind then
  if a.num=b.num then
   if a.kind=0 then(-1,true)
   else if dg a.things b.things=0 then(64,false)else((Lib.ctz 64 (dg a.things b.things):Nat),true)
  else(0,false)
 else(0,false)
theorem zo{w:World}(a b:Ac)(hT:Tz w):
  Calls Tryz.prog 70 #[.agg #[.int .i64 a.spot,.bool a.wr,.int .i64 a.kind,.int .i64 a.num,.int .u64 a.things],.agg #[.int .i64 b.spot,.bool b.wr,.int .i64 b.kind,.int .i64 b.num,.int .u64 b.things]] w fun r w'=>r=.returned (.tuple #[.int .i64 (jy a b).1,.bool (jy a b).2])∧Below w.heap.size w w':=by
 have r1:=dt
 obtain⟨W0,hW0⟩:∃W,W=(w.alloc (.cells #[.int .i64 a.spot,.bool a.wr,.int .i64 a.kind,.int .i64 a.num,.int .u64 a.things] 146)).alloc (.cells #[.int .i64 b.spot,.bool b.wr,.int .i64 b.kind,.int .i64 b.num,.int .u64 b.things] 146):=⟨_,rfl⟩
 have k0:Below w.heap.size w W0:=by rw[hW0];exact((Below.refl _ w).alloc (Nat.le_refl _) _).alloc (by simp) _
 have HK0:=aa k0
 have HT0:=aa (hT.below k0)
 have HW0:=aa hW0
 clear hT k0 hW0
 unfold jy
 by_cases h1:a.kind=b.kind
 ·have e1:((a.kind:Int)!=(b.kind:Int))=false:=by rw[bne_eq_false_iff_eq];omega
  simp only[if_pos h1]
  by_cases h2:a.num=b.num
  ·have e2:((a.num:Int)!=(b.num:Int))=false:=by rw[bne_eq_false_iff_eq];omega
   simp only[if_pos h2]
   by_cases h3:a.kind=0
   ·have e3:((a.kind:Int)==0)=true:=by rw[beq_iff_eq];omega
    simp only[if_pos h3]
    clear h1 h2 h3
    go_enter Tryz.func70,Tryz.ntmps70
    go_wp2_with fail
    go_ret2
    rw[←HW0.out]
    exact⟨rfl,HK0.out⟩
   ·have e3:((a.kind:Int)==0)=false:=by rw[beq_eq_false_iff_ne];omega
    simp only[if_neg h3]
    clear h1 h2 h3
    obtain⟨x,hx⟩:∃x,x=dg a.things b.things:=⟨_,rfl⟩
    have hxl:x< bI:=by rw[hx];exact oE _ _
    by_cases h4:x=0
    ·have HF:Hid (Calls Tryz.prog 118 #[.int .u64 (dg a.things b.things)] W0 fun r w'=>r=.returned (.tuple #[.int .i64 64,.bool false])∧w'=W0):=by show Calls _ _ _ _ _;rw[←hx,h4];exact kU W0
     rw[←hx,if_pos h4]
     clear hx h4 hxl
     go_enter Tryz.func70,Tryz.ntmps70
     go_wp2_with fail
     rw[←HW0.out]
     refine HF.out.mono ?_
     rintro r wq ⟨rfl,hq⟩
     subst wq
     go_wp2_with fail
     go_ret2
     exact⟨rfl,HK0.out⟩
    ·have HF:Hid (Calls Tryz.prog 118 #[.int .u64 (dg a.things b.things)] W0 fun r w'=>r=.returned (.tuple #[.int .i64 (Lib.ctz 64 x),.bool true])∧w'=W0):=by show Calls _ _ _ _ _;rw[←hx];exact mB x hxl h4 W0 HT0.out
     rw[←hx,if_neg h4]
     clear hx h4 hxl
     go_enter Tryz.func70,Tryz.ntmps70
     go_wp2_with fail
     rw[←HW0.out]
     refine HF.out.mono ?_
     rintro r wq ⟨rfl,hq⟩
     subst wq
     go_wp2_with fail
     go_ret2
     exact⟨rfl,HK0.out⟩
  ·have e2:((a.num:Int)!=(b.num:Int))=true:=by rw[bne_iff_ne];omega
   simp only[if_neg h2]
   clear h1 h2
   go_enter Tryz.func70,Tryz.ntmps70
   go_wp2_with fail
   go_ret2
   rw[←HW0.out]
   exact⟨rfl,HK0.out⟩
 ·have e1:((a.kind:Int)!=(b.kind:Int))=true:=by rw[bne_iff_ne];omega
  simp only[if_neg h1]
  clear h1
  go_enter Tryz.func70,Tryz.ntmps70
  go_wp2_with fail
  go_ret2
  rw[←HW0.out]
  exact⟨rfl,HK0.out⟩
end
section
set_option maxRecDepth 100000
set_option maxHeartbeats 2000000
open Go.RowKit Go.Shelf
theorem vJ{w:World}{bT bR s:Nat}{x:Rp}(h:aP w bR x)(ok:ei x)(hg:0< w.heap.size)(hT:Tz w)(hs:s< x.stmts.length)(hn:x.runs.length< 64)(c0:w.cell? ⟨bT,0,none⟩=some (ak bR)):
  Calls Tryz.prog 119 #[ak bT,.int .i64 s] w fun r w'=>r=.returned (.int .u64 (x.runByOf (x.st s).fn))∧Below w.heap.size w w':=by
 have hl:=ah c0
 have hf:(x.st s).fn< 64:=by have:=(ok.st s hs).1;omega
 have HF:Hid (Calls Tryz.prog 139 #[ak bR,.int .i64 s] w.drew fun r w'=>r=.returned (.int .i64 (x.st s).fn)∧w'=w.drew):=gT (h.keep ((Below.refl _ _).drew)) hs
 have HR:Hid (Calls Tryz.prog 170 #[ak bR,.int .i64 (x.st s).fn] w.drew fun r w'=>r=.returned (.int .u64 (x.runByOf (x.st s).fn))∧Below w.drew.heap.size w.drew w'∧w'.cell? ⟨bT,0,none⟩=some (ak bR)):=(zp (h.keep ((Below.refl _ _).drew)) hg (hT.below ((Below.refl _ _).drew)) hf hn).mono (fun r w' hh=>⟨hh.1,hh.2,by rw[hh.2.cell (p:=⟨bT,0,none⟩) hl];exact c0⟩)
 clear h ok hT
 go_enter Tryz.func119,Tryz.ntmps119
 go_wp2_with fail
 go_region_held3 (fun w'=>w'.cell? ⟨bT,0,none⟩=some (ak bR)) (first|exact e1|exact c0|go_keep) (first|(go_at_call 139;refine HF.out.mono ?_;rintro q wq ⟨rfl,hq⟩;subst wq)|(go_at_call 170;refine HR.out.mono ?_;rintro q w2 ⟨rfl,hb2,e1⟩;have HB2:=aa hb2;clear hb2))
 all_goals go_wp2_with fail
 all_goals go_ret
 all_goals exact⟨rfl,⟨HB2.out.os,HB2.out.tape,HB2.out.output,HB2.out.size,HB2.out.block⟩⟩
end
section
set_option maxRecDepth 100000
set_option maxHeartbeats 2000000
open Go.RowKit Go.Shelf
theorem mh(k:Nat)(hk:k+1≤1000)(w:World):
  Calls Tryz.prog 175 #[.int .i64 ((k+1:Nat):Int)] w fun r w'=>r=.returned (.int .i64 (k:Int))∧w'=w:=by
 go_enter Tryz.func175,Tryz.ntmps175
 go_wp2_with fail
 go_ret
 exact⟨by go_num,rfl⟩
structure fQ(w:World)(bT bR:Nat)(held about:List Nat):Prop where
 ex:∃av,an w bT (#[ak bR,av]++ab held++ab about)
 lh:held.length=53
 la:about.length=53
theorem fQ.keep{w w':World}{bT bR:Nat}{held about:List Nat}(h:fQ w bT bR held about)(k:Below w.heap.size w w'):fQ w' bT bR held about:=by
 obtain⟨av,h1⟩:=h.ex
 exact⟨⟨av,h1.below k⟩,h.lh,h.la⟩
theorem ar(l:List Nat):(ab l).size=l.length:=by simp[ab,aH]
theorem fQ.prog{w:World}{bT bR:Nat}{held about:List Nat}(h:fQ w bT bR held about):w.cell? ⟨bT,0,none⟩=some (ak bR):=by
 obtain⟨av,h1⟩:=h.ex
 rw[h1.cell 0,Array.getElem?_append_left (by simp[ar];omega),Array.getElem?_append_left (by simp)]
 rfl
theorem fQ.heldC{w:World}{bT bR:Nat}{held about:List Nat}(h:fQ w bT bR held about){s:Nat}(hs:s< 53):w.cell? ⟨bT,2+s,none⟩=some (.int .u64 (held.getD s 0:Nat)):=by
 obtain⟨av,h1⟩:=h.ex
 have:=h.lh
 rw[h1.cell,Array.getElem?_append_left (by simp[ar];omega),Array.getElem?_append_right (by simp),show 2+s-(#[ak bR,av]:Array Value).size=s by simp,aY (by omega)]
theorem fQ.aboutC{w:World}{bT bR:Nat}{held about:List Nat}(h:fQ w bT bR held about){s:Nat}(hs:s< 53):w.cell? ⟨bT,55+s,none⟩=some (.int .u64 (about.getD s 0:Nat)):=by
 obtain⟨av,h1⟩:=h.ex
 have:=h.lh
 have:=h.la
 rw[h1.cell,Array.getElem?_append_right (by simp[ar];omega),show 55+s-(#[ak bR,av]++ab held:Array Value).size=s by simp[ar];omega,aY (by omega)]
namespace Rp
def aboutAtOf(x:Rp)(about:List Nat)(k:Nat):Nat:=if x.runByOf (x.st (x.starts.getD k 0)).fn=aC 0 then about.getD (x.starts.getD k 0) 0 else cj (aC x.starts.length)
end Rp
theorem vN{w:World}{bT bR k:Nat}{x:Rp}{held about:List Nat}(h:aP w bR x)(ht:fQ w bT bR held about)(ok:ei x)(ag:jH x)(hg:0< w.heap.size)(hT:Tz w)(hk:k< x.starts.length)(hm:x.starts.length< 64)(hn:x.runs.length< 64)(hst:x.stmts.length≤53):
  Calls Tryz.prog 176 #[ak bT,.int .i64 k] w fun r w'=>r=.returned (.int .u64 (x.aboutAtOf about k))∧Below w.heap.size w w':=by
 obtain⟨g,c,d0,d1⟩:=h.start hk
 have hs:=ag.st k hk
 unfold Rp.aboutAtOf
 obtain⟨s,hs'⟩:∃s,s=x.starts.getD k 0:=⟨_,rfl⟩
 rw[←hs']at d1 hs⊢
 have d1':w.cell? ⟨g,k*1,none⟩=some (.int .i64 s):=by rw[Nat.mul_one];exact d1
 have c0:=ht.prog
 have HR:=aa (vJ h ok hg hT hs hn c0)
 have HA:Hid (∀W,Below w.heap.size w W→W.cell? ⟨bT,0,none⟩=some (ak bR)∧W.cell? ⟨bT,55+s,none⟩=some (.int .u64 (about.getD s 0:Nat))∧Calls Tryz.prog 134 #[ak bR] W fun r w'=>r=.returned (.int .u64 (cj (aC x.starts.length)))∧w'=W):=fun W kk=>⟨(ht.keep kk).prog,(ht.keep kk).aboutC (by omega),ip (h.keep kk) hm⟩
 have HO:Hid (∀W,Calls Tryz.prog 173 #[.int .i64 0] W fun r w'=>r=.returned (.int .u64 (aC 0))∧w'=W):=fun W=>lJ 0 (by decide) W
 have hs53:s< 53:=by omega
 clear h ht ok ag hT hs' hs
 by_cases he:x.runByOf (x.st s).fn=aC 0
 ·have e1:(((x.runByOf (x.st s).fn:Nat):Int)==((aC 0:Nat):Int))=true:=by rw[beq_iff_eq,he]
  simp only[if_pos he]
  generalize x.runByOf (x.st s).fn=q1 at *
  clear he
  go_enter Tryz.func176,Tryz.ntmps176
  go_wp2_with fail
  refine HR.out.mono ?_
  rintro r w2 ⟨rfl,hb2⟩
  obtain⟨g0,g1,HAS⟩:=HA.out w2 hb2
  have HB2:=aa hb2
  clear hb2 HAS
  go_wp2_with fail
  refine(HO.out _).mono ?_
  rintro r wq ⟨rfl,hq⟩
  subst wq
  go_wp2_with fail
  go_ret
  exact⟨rfl,HB2.out⟩
 ·have e1:(((x.runByOf (x.st s).fn:Nat):Int)==((aC 0:Nat):Int))=false:=by rw[beq_eq_false_iff_ne];omega
  simp only[if_neg he]
  generalize x.runByOf (x.st s).fn=q1 at *
  clear he
  go_enter Tryz.func176,Tryz.ntmps176
  go_wp2_with fail
  refine HR.out.mono ?_
  rintro r w2 ⟨rfl,hb2⟩
  obtain⟨g0,g1,HAS⟩:=HA.out w2 hb2
  have HB2:=aa hb2
  replace HAS:=aa HAS
  clear hb2
  go_wp2_with fail
  refine(HO.out _).mono ?_
  rintro r wq ⟨rfl,hq⟩
  subst wq
  go_wp2_with fail
  refine HAS.out.mono ?_
  rintro r wq ⟨rfl,hq⟩
  subst wq
  go_wp2_with fail
  go_ret
  exact⟨rfl,HB2.out⟩
end
section
set_option maxRecDepth 100000
set_option maxHeartbeats 1000000
open Go.RowKit Go.Shelf
namespace Rp
def atATimeOf(x:Rp)(about:List Nat)(ra a rb b:Nat):Bool:=
 if ra=rb then(ra !=0)&&dB x.twice (ra-1)
 else if ra=0 then dB (about.getD a 0) (rb-1)
 else if rb=0 then dB (about.getD b 0) (ra-1)
 else dB (x.aboutAtOf about (ra-1)) (rb-1)||dB (x.aboutAtOf about (rb-1)) (ra-1)
end Rp
theorem xR{w:World}{bT bR a b k:Nat}{x:Rp}{held about:List Nat}(ht:fQ w bT bR held about)(hk:k< 60)(ha:a< 53):
  Calls Tryz.prog 121 #[ak bT,.int .i64 0,.int .i64 a,.int .i64 ((k+1:Nat):Int),.int .i64 b] w fun r w'=>r=.returned (.bool (x.atATimeOf about 0 a (k+1) b))∧Below w.heap.size w w':=by
 have c1:=ht.aboutC ha
 have e:x.atATimeOf about 0 a (k+1) b=dB (about.getD a 0) k:=by unfold Rp.atATimeOf;simp
 rw[e]
 generalize about.getD a 0=v at *
 clear ht e
 have hk64:k< 64:=by omega
 go_enter Tryz.func121,Tryz.ntmps121
 go_wp2_with fail
 go_quiet ((first|(go_at_call 175;exact Calls.quiet_of_same (mh k (by omega) _))|(go_at_call 174;exact Calls.quiet_of_same (iU _ _ hk64 _))))
 go_wp2_with fail
 go_ret
 exact⟨rfl,az (Below.refl _ _) _⟩
theorem vM{w:World}{bT bR a b k:Nat}{x:Rp}{held about:List Nat}(ht:fQ w bT bR held about)(hk:k< 60)(hb:b< 53):
  Calls Tryz.prog 121 #[ak bT,.int .i64 ((k+1:Nat):Int),.int .i64 a,.int .i64 0,.int .i64 b] w fun r w'=>r=.returned (.bool (x.atATimeOf about (k+1) a 0 b))∧Below w.heap.size w w':=by
 have c1:=ht.aboutC hb
 have e:x.atATimeOf about (k+1) a 0 b=dB (about.getD b 0) k:=by unfold Rp.atATimeOf;simp
 rw[e]
 generalize about.getD b 0=v at *
 clear ht e
 have hk64:k< 64:=by omega
 go_enter Tryz.func121,Tryz.ntmps121
 go_wp2_with fail
 go_quiet ((first|(go_at_call 175;exact Calls.quiet_of_same (mh k (by omega) _))|(go_at_call 174;exact Calls.quiet_of_same (iU _ _ hk64 _))))
 go_wp2_with fail
 go_ret
 exact⟨rfl,az (Below.refl _ _) _⟩
theorem vL{w:World}{bT a b:Nat}{x:Rp}{about:List Nat}:
  Calls Tryz.prog 121 #[ak bT,.int .i64 0,.int .i64 a,.int .i64 0,.int .i64 b] w fun r w'=>r=.returned (.bool (x.atATimeOf about 0 a 0 b))∧Below w.heap.size w w':=by
 have e:x.atATimeOf about 0 a 0 b=false:=by unfold Rp.atATimeOf;simp
 rw[e]
 go_enter Tryz.func121,Tryz.ntmps121
 go_wp2_with fail
 go_region
 all_goals go_wp2_with fail
 all_goals go_ret
 all_goals exact⟨rfl,(Below.refl _ _).drew⟩
theorem xQ{w:World}{bT bR a b k:Nat}{x:Rp}{held about:List Nat}(h:aP w bR x)(ht:fQ w bT bR held about)(hk:k< 60):
  Calls Tryz.prog 121 #[ak bT,.int .i64 ((k+1:Nat):Int),.int .i64 a,.int .i64 ((k+1:Nat):Int),.int .i64 b] w fun r w'=>r=.returned (.bool (x.atATimeOf about (k+1) a (k+1) b))∧Below w.heap.size w w':=by
 obtain⟨bv,sv,tv,rv,lv,h1,-⟩:=h.ex
 have c6:w.cell? ⟨bR,6,none⟩=some (.int .u64 x.twice):=h1.cell 6
 have c0:=ht.prog
 have e:x.atATimeOf about (k+1) a (k+1) b=dB x.twice k:=by unfold Rp.atATimeOf;simp
 rw[e]
 generalize x.twice=v at *
 have hne:((((k+1:Nat):Int))!=0)=true:=by rw[bne_iff_ne];omega
 have hne2:decide (((k:Int)+1)=0)=false:=by rw[decide_eq_false_iff_not];omega
 clear h ht e h1
 have hk64:k< 64:=by omega
 go_enter Tryz.func121,Tryz.ntmps121
 go_wp2_with fail
 go_quiet ((first|(go_at_call 175;exact Calls.quiet_of_same (mh k (by omega) _))|(go_at_call 174;exact Calls.quiet_of_same (iU _ _ hk64 _))))
 go_wp2_with fail
 go_ret
 exact⟨rfl,az (Below.refl _ _) _⟩
end
section
set_option maxRecDepth 100000
set_option maxHeartbeats 2000000
open Go.RowKit Go.Shelf
theorem zI{w:World}{bT bR a b k j:Nat}{x:Rp}{held about:List Nat}(h:aP w bR x)(ht:fQ w bT bR held about)(ok:ei x)(ag:jH x)(hg:0< w.heap.size)(hT:Tz w)(hk:k< x.starts.length)(hj:j< x.starts.length)(hkj:k≠j)(hm:x.starts.length< 60)(hn:x.runs.length< 64)(hst:x.stmts.length≤53):
  Calls Tryz.prog 121 #[ak bT,.int .i64 ((k+1:Nat):Int),.int .i64 a,.int .i64 ((j+1:Nat):Int),.int .i64 b] w fun r w'=>r=.returned (.bool (x.atATimeOf about (k+1) a (j+1) b))∧Below w.heap.size w w':=by
 have e:x.atATimeOf about (k+1) a (j+1) b=(dB (x.aboutAtOf about k) j||dB (x.aboutAtOf about j) k):=by unfold Rp.atATimeOf;rw[if_neg (by omega),if_neg (by omega),if_neg (by omega)];rfl
 rw[e]
 have HA:Hid (∀W i,Below w.heap.size w W→i< x.starts.length→Calls Tryz.prog 176 #[ak bT,.int .i64 i] W fun r w'=>r=.returned (.int .u64 (x.aboutAtOf about i))∧Below W.heap.size W w'):=fun W i kk hi=>vN (h.keep kk) (ht.keep kk) ok ag (Nat.lt_of_lt_of_le hg kk.size) (hT.below kk) hi (by omega) hn hst
 have HK:Hid (∀W,Calls Tryz.prog 175 #[.int .i64 ((k+1:Nat):Int)] W fun r w'=>r=.returned (.int .i64 (k:Int))∧w'=W):=fun W=>mh k (by omega) W
 have HJ:Hid (∀W,Calls Tryz.prog 175 #[.int .i64 ((j+1:Nat):Int)] W fun r w'=>r=.returned (.int .i64 (j:Int))∧w'=W):=fun W=>mh j (by omega) W
 have HHJ:Hid (∀W,Calls Tryz.prog 174 #[.int .u64 (x.aboutAtOf about k),.int .i64 j] W fun r w'=>r=.returned (.bool (dB (x.aboutAtOf about k) j))∧w'=W):=fun W=>iU _ _ (by omega) W
 have HHK:Hid (∀W,Calls Tryz.prog 174 #[.int .u64 (x.aboutAtOf about j),.int .i64 k] W fun r w'=>r=.returned (.bool (dB (x.aboutAtOf about j) k))∧w'=W):=fun W=>iU _ _ (by omega) W
 have hne:(((k:Int)+1)==((j:Int)+1))=false:=by rw[beq_eq_false_iff_ne];omega
 have hne2:((((k+1:Nat):Int))==(((j+1:Nat):Int)))=false:=by rw[beq_eq_false_iff_ne];omega
 clear h ht ok ag hT e
 cases hq:dB (x.aboutAtOf about k) j
 ·rw[hq]at HHJ
  go_enter Tryz.func121,Tryz.ntmps121
  go_wp2_with fail
  refine(HK.out _).mono ?_
  rintro r wq ⟨rfl,hq⟩
  subst wq
  go_wp2_with fail
  refine(HA.out _ k (Below.refl _ _) hk).mono ?_
  rintro r w2 ⟨rfl,hb2⟩
  have HB2:=aa hb2
  clear hb2
  go_wp2_with fail
  refine(HJ.out _).mono ?_
  rintro r wq ⟨rfl,hq⟩
  subst wq
  go_wp2_with fail
  refine(HHJ.out _).mono ?_
  rintro r wq ⟨rfl,hq⟩
  subst wq
  go_wp2_with fail
  refine(HJ.out _).mono ?_
  rintro r wq ⟨rfl,hq⟩
  subst wq
  go_wp2_with fail
  refine(HA.out _ j HB2.out hj).mono ?_
  rintro r w3 ⟨rfl,hb3⟩
  have HB3:=aa (HB2.out.trans (hb3.mono HB2.out.size))
  clear hb3
  go_wp2_with fail
  refine(HK.out _).mono ?_
  rintro r wq ⟨rfl,hq⟩
  subst wq
  go_wp2_with fail
  refine(HHK.out _).mono ?_
  rintro r wq ⟨rfl,hq⟩
  subst wq
  go_wp2_with fail
  go_ret
  exact⟨by simp,HB3.out⟩
 ·rw[hq]at HHJ
  go_enter Tryz.func121,Tryz.ntmps121
  go_wp2_with fail
  refine(HK.out _).mono ?_
  rintro r wq ⟨rfl,hq⟩
  subst wq
  go_wp2_with fail
  refine(HA.out _ k (Below.refl _ _) hk).mono ?_
  rintro r w2 ⟨rfl,hb2⟩
  have HB2:=aa hb2
  clear hb2
  go_wp2_with fail
  refine(HJ.out _).mono ?_
  rintro r wq ⟨rfl,hq⟩
  subst wq
  go_wp2_with fail
  refine(HHJ.out _).mono ?_
  rintro r wq ⟨rfl,hq⟩
  subst wq
  go_wp2_with fail
  go_ret
  exact⟨by simp,HB2.out⟩
end
section
set_option maxRecDepth 100000
set_option maxHeartbeats 2000000
open Go.RowKit Go.Shelf
structure gN(w:World)(bH bR shared:Nat)(cs:List Nat):Prop where
 ex:∃mv,an w bH (#[.int .u64 shared,ak bR,mv]++ab cs)
 len:cs.length=104
theorem gN.keep{w w':World}{bH bR shared:Nat}{cs:List Nat}(h:gN w bH bR shared cs)(k:Below w.heap.size w w'):gN w' bH bR shared cs:=by
 obtain⟨mv,h1⟩:=h.ex
 exact⟨⟨mv,h1.below k⟩,h.len⟩
theorem gN.sharedC{w:World}{bH bR shared:Nat}{cs:List Nat}(h:gN w bH bR shared cs):w.cell? ⟨bH,0,none⟩=some (.int .u64 shared):=by
 obtain⟨mv,h1⟩:=h.ex
 rw[h1.cell,Array.getElem?_append_left (by simp)]
 rfl
theorem gN.src{w:World}{bH bR shared:Nat}{cs:List Nat}(h:gN w bH bR shared cs):w.cell? ⟨bH,1,none⟩=some (ak bR):=by
 obtain⟨mv,h1⟩:=h.ex
 rw[h1.cell,Array.getElem?_append_left (by simp)]
 rfl
theorem gN.word{w:World}{bH bR shared:Nat}{cs:List Nat}(h:gN w bH bR shared cs){j:Nat}(hj:j< 104):w.cell? ⟨bH,3+j,none⟩=some (.int .u64 (cs.getD j 0:Nat)):=by
 obtain⟨mv,h1⟩:=h.ex
 have:=h.len
 rw[h1.cell,Array.getElem?_append_right (by simp),show 3+j-(#[.int .u64 shared,ak bR,mv]:Array Value).size=j by simp,aY (by omega)]
theorem ws{w:World}{bH bR shared s n:Nat}{cs:List Nat}{x:Rp}{t:ByteArray}{a:Int}(h:aP w bR x)(hh:gN w bH bR shared cs)(hs:s< x.stmts.length)(hf:(x.st s).fn< 5)(hn:n< 6):
  Calls Tryz.prog 100 #[ak bH,.int .i64 s,.agg #[.string t,.int .i64 a,.int .i64 n]] w fun r w'=>r=.returned (.agg #[.int .u64 (ax cs ((x.st s).fn*6+n)).1,.int .u64 (ax cs ((x.st s).fn*6+n)).2])∧Below w.heap.size w w':=by
 have c1:=hh.src
 have hl:=ah c1
 have HF:Hid (∀W,Below w.heap.size w W→Calls Tryz.prog 139 #[ak bR,.int .i64 s] W fun r w'=>r=.returned (.int .i64 (x.st s).fn)∧w'=W):=fun W k=>gT (h.keep k) hs
 generalize(x.st s).fn=f at *
 have q0:w.cell? ⟨bH,3+f*12+n*2,none⟩=some (.int .u64 (ax cs (f*6+n)).1):=by
  have:=hh.word (j:=2*(f*6+n)) (by omega)
  rw[show 3+2*(f*6+n)=3+f*12+n*2 by omega]at this
  exact this
 have q1:w.cell? ⟨bH,3+f*12+n*2+1,none⟩=some (.int .u64 (ax cs (f*6+n)).2):=by
  have:=hh.word (j:=2*(f*6+n)+1) (by omega)
  rw[show 3+(2*(f*6+n)+1)=3+f*12+n*2+1 by omega]at this
  exact this
 generalize ax cs (f*6+n)=v at *
 clear h hh
 have y1:(0:Int)≤f:=by omega
 have y2:(f:Int)< 5:=by omega
 have y3:(0:Int)≤n:=by omega
 have y4:(n:Int)< 6:=by omega
 go_enter Tryz.func100,Tryz.ntmps100
 go_wp2_with fail
 go_region_held3 (fun w'=>w'.cell? ⟨bH,1,none⟩=some (ak bR)∧w'.cell? ⟨w.heap.size,2,none⟩=some (.int .i64 n)∧w'.cell? ⟨bH,3+f*12+n*2,none⟩=some (.int .u64 v.1)∧w'.cell? ⟨bH,3+f*12+n*2+1,none⟩=some (.int .u64 v.2)) (first|go_keep) (first|(go_at_call 139;refine(HF.out _ (by exact(((Below.refl _ w).alloc (Nat.le_refl _) _).alloc (by simp) _).drew)).mono ?_;rintro q wq ⟨rfl,hq⟩;subst wq))
 all_goals go_wp2_with fail
 all_goals
  refine bodyPost_ret (results_cell_row rfl _ _ (w.heap.size+1) 212 #[.int .u64 v.1,.int .u64 v.2] (0,0) _ rfl (gZ w _ _) Tryz.underlying212 rfl eF) rfl ⟨rfl,?_⟩
  exact(((Below.refl _ w).alloc (Nat.le_refl _) _).alloc (by simp) _).drew
end
section
set_option maxRecDepth 100000
set_option maxHeartbeats 2000000
open Go.RowKit Go.Shelf
namespace Rp
def joinedOf(x:Rp)(cs:List Nat)(s:Nat):Nat:=
 if(x.st s).p.kind=8 then
  if fL (ax cs ((x.st s).fn*6+((x.st s).r.getD 0 ⟨[],0,0,0⟩).num)).2=1 then bj (ax cs ((x.st s).fn*6+((x.st s).r.getD 0 ⟨[],0,0,0⟩).num)).2 x.twice else 0
 else 0
end Rp
theorem lB(a b:Int)(w:World):(Instr.field 212 (.agg #[.int .u64 a,.int .u64 b]) 1).run Tryz.prog w=.ok (.int .u64 b) w:=by kernel_rfl
theorem yG{w:World}{bH bR shared s:Nat}{cs:List Nat}{x:Rp}(h:aP w bR x)(hh:gN w bH bR shared cs)(hs:s< x.stmts.length)(hf:(x.st s).fn< 5)(hr:(x.st s).p.kind=8→0< (x.st s).r.length∧((x.st s).r.getD 0 ⟨[],0,0,0⟩).num< 6):
  Calls Tryz.prog 117 #[ak bR,ak bH,.int .i64 s] w fun r w'=>r=.returned (.int .u64 (x.joinedOf cs s))∧Below w.heap.size w w':=by
 have r1:=cI
 have hfd:=lB
 obtain⟨g,c,b,sr,sb,c0,c1,c2,c3,c4,hb,hrow⟩:=h.stm hs
 obtain⟨bv,sv,tv,rv,lv,h1,-⟩:=h.ex
 have d2:w.cell? ⟨b,2,none⟩=some (.int .i64 (x.st s).p.kind):=hb.cell 2
 have d12:w.cell? ⟨b,12,none⟩=some sr:=hb.cell 12
 have hbl:=hb.lt
 have hR:=h1.lt
 obtain⟨W0,hW0⟩:∃W,W=w.alloc (.cells #[ak b,.int .i64 (x.st s).fn,.int .i64 (x.st s).nx,.int .i64 (x.st s).ins] 197):=⟨_,rfl⟩
 have k0:Below w.heap.size w W0:=by rw[hW0];exact(Below.refl _ w).alloc (Nat.le_refl _) _
 unfold Rp.joinedOf
 by_cases hk:(x.st s).p.kind=8
 ·obtain⟨hr1,hr2⟩:=hr hk
  obtain⟨gr,cr,e⟩:=aG hrow (by omega)
  subst e
  obtain⟨a,ha⟩:∃a,(x.st s).r.getD 0 ⟨[],0,0,0⟩=a:=⟨_,rfl⟩
  have ha':(x.st s).r[0]?=some a:=by rw[←ha,List.getD_eq_getElem?_getD,List.getElem?_eq_getElem hr1];rfl
  rw[ha]at hr2⊢
  have q:∀j,j< 4→w.cell? ⟨gr,j,none⟩=(vH a)[j]?:=fun j hj=>by
   rw[hrow.cellAt j (by omega)]
   have:=jP ha' j hj
   rw[Nat.zero_mul,Nat.zero_add]at this
   exact this
  have q0:w.cell? ⟨gr,0,none⟩=some (.string ⟨a.text.toArray⟩):=q 0 (by decide)
  have q1:w.cell? ⟨gr,1,none⟩=some (.int .i64 a.at_):=q 1 (by decide)
  have q2:w.cell? ⟨gr,2,none⟩=some (.int .i64 a.num):=q 2 (by decide)
  have hgl:=ah q0
  have e1:(((x.st s).p.kind:Int)!=8)=false:=by rw[bne_eq_false_iff_eq];omega
  have HL:=aa (ws (t:=⟨a.text.toArray⟩) (a:=a.at_) (h.keep k0) (hh.keep k0) hs hf hr2)
  have HN:Hid (∀W v,Calls Tryz.prog 168 #[.int .u64 (v:Nat)] W fun r w'=>r=.returned (.int .i64 (fL v))∧w'=W):=fun W v=>vZ v W
  have HTW:Hid (∀W,Below w.heap.size w W→W.cell? ⟨bR,6,none⟩=some (.int .u64 x.twice)):=fun W kk=>by rw[kk.cell (p:=⟨bR,6,none⟩) hR];exact h1.cell 6
  have HK0:=aa k0
  have HW0:=aa hW0
  simp only[if_pos hk]
  generalize ax cs ((x.st s).fn*6+a.num)=v at *
  have hrl:=hr1
  clear h hh hb hrow h1 hk k0 hW0 hr q ha ha'
  by_cases ho:fL v.2=1
  ·have e2:((fL v.2:Int)!=1)=false:=by rw[bne_eq_false_iff_eq];exact ho
   simp only[if_pos ho]
   clear ho
   go_enter Tryz.func117,Tryz.ntmps117
   go_wp2_with fail
   rw[←HW0.out]
   refine HL.out.mono ?_
   rintro r w2 ⟨rfl,hb2⟩
   have t6:=HTW.out w2 (HK0.out.trans (hb2.mono HK0.out.size))
   have HB2:=aa hb2
   clear hb2
   go_wp2_with fail
   refine(HN.out _ _).mono ?_
   rintro r wq ⟨rfl,hq⟩
   subst wq
   go_wp2_with fail
   go_ret
   exact⟨rfl,HK0.out.trans (HB2.out.mono HK0.out.size)⟩
  ·have e2:((fL v.2:Int)!=1)=true:=by rw[bne_iff_ne];exact ho
   simp only[if_neg ho]
   clear ho
   go_enter Tryz.func117,Tryz.ntmps117
   go_wp2_with fail
   rw[←HW0.out]
   refine HL.out.mono ?_
   rintro r w2 ⟨rfl,hb2⟩
   have t6:=HTW.out w2 (HK0.out.trans (hb2.mono HK0.out.size))
   have HB2:=aa hb2
   clear hb2
   go_wp2_with fail
   refine(HN.out _ _).mono ?_
   rintro r wq ⟨rfl,hq⟩
   subst wq
   go_wp2_with fail
   go_ret
   exact⟨rfl,HK0.out.trans (HB2.out.mono HK0.out.size)⟩
 ·have e1:(((x.st s).p.kind:Int)!=8)=true:=by rw[bne_iff_ne];omega
  simp only[if_neg hk]
  have HK0:=aa k0
  have HW0:=aa hW0
  clear h hh hb hrow h1 hk k0 hW0 hr
  go_enter Tryz.func117,Tryz.ntmps117
  go_wp2_with fail
  rw[←HW0.out]
  go_ret
  exact⟨rfl,HK0.out⟩
end
section
set_option maxRecDepth 100000
set_option maxHeartbeats 2000000
open Go.RowKit Go.Shelf
structure dw(T:TypeId→Prop)(base:Nat)(W W':World):Prop where
 bel:Below base W W'
 typ:∀(b:Nat) (A:Array Value) (t:TypeId) (fz:Nat×Nat),¬T t→W.heap[b]?=some (.cells A t fz)→W'.heap[b]?=some (.cells A t fz)
theorem dw.refl(T:TypeId→Prop)(base:Nat)(W:World):dw T base W W:=⟨Below.refl _ _,fun _ _ _ _ _ h=>h⟩
theorem dw.trans{T:TypeId→Prop}{base:Nat}{a b c:World}(h:dw T base a b)(k:dw T base b c):dw T base a c:=⟨h.bel.trans k.bel,fun i A t fz ht e=>k.typ i A t fz ht (h.typ i A t fz ht e)⟩
theorem dw.of_below{T:TypeId→Prop}{base:Nat}{W W':World}(h:Below W.heap.size W W')(hb:base≤W.heap.size):dw T base W W':=⟨h.mono hb,fun i A t fz _ e=>(h.block i (Array.getElem?_eq_some_iff.1 e).1).trans e⟩
theorem dw.drew{T:TypeId→Prop}{base:Nat}{W W':World}(h:dw T base W W'):dw T base W W'.drew:=⟨h.bel.drew,h.typ⟩
theorem dw.alloc{T:TypeId→Prop}{base:Nat}{W W':World}(h:dw T base W W')(hb:base≤W'.heap.size)(o:Obj):dw T base W (W'.alloc o):=h.trans (dw.of_below ((Below.refl _ _).alloc (Nat.le_refl _) o) hb)
theorem dw.grown{T:TypeId→Prop}{base:Nat}{W W':World}{e:TypeId}{size n:Nat}{v:Value}{xs:List Value}(h:W.ownsRow base e size v n xs)(hg:W.grownBy W' v.ownBlock)(he:T e)(hb:base≤W.heap.size):dw T base W W':=by
 refine⟨(Below.refl _ _).grown hg hb (fun k e=>(h.lt k e).1),fun b A t fz ht hh=>?_⟩
 refine(hg.block b (Array.getElem?_eq_some_iff.1 hh).1 ?_).trans hh
 rcases h.2 with⟨rfl,_⟩|⟨g,cap,cur,rfl,_,hgg,_⟩
 ·exact fun e=>by cases e
 ·intro e'
  cases e'
  rw[hgg]at hh
  cases hh
  exact ht he
theorem eD{W:World}{b j:Nat}{A:Array Value}{t:TypeId}{fz:Nat×Nat}{u:Value}(h:W.heap[b]?=some (.cells A t fz)):(W.setCell ⟨b,j,none⟩ u).heap[b]?=some (.cells (A.setIfInBounds j u) t fz):=by
 show(W.heap.modify b _)[b]?=_
 rw[Array.getElem?_modify,h]
 simp
theorem dw.set{T:TypeId→Prop}{base:Nat}{W:World}{b j:Nat}{A:Array Value}{t:TypeId}{fz:Nat×Nat}{u:Value}(h:W.heap[b]?=some (.cells A t fz))(ht:T t)(hb:base≤b):dw T base W (W.setCell ⟨b,j,none⟩ u):=by
 refine⟨(Below.refl _ _).setCell (p:=⟨b,j,none⟩) hb u,fun i A' t' fz' ht' hh=>?_⟩
 rw[Below.heap_setCell _ _ _ _ (by intro e;cases e;rw[h]at hh;cases hh;exact ht' ht)]
 exact hh
theorem dw.row{T:TypeId→Prop}{base B:Nat}{W W':World}{e:TypeId}{size n:Nat}{v:Value}{xs:List Value}(k:dw T base W W')(h:W.ownsRow B e size v n xs)(he:¬T e):W'.ownsRow B e size v n xs:=by
 refine⟨h.1,?_⟩
 rcases h.2 with hn|⟨g,cap,cur,hv,hg,hh,r⟩
 ·exact Or.inl hn
 ·exact Or.inr ⟨g,cap,cur,hv,hg,k.typ _ _ _ _ he hh,r⟩
theorem cQ{w:World}{B e size n:Nat}{v:Value}{xs:List Value}(h:w.ownsRow B e size v n xs)(B':Nat)(hb:B'≤B):w.ownsRow B' e size v n xs:=by
 refine⟨h.1,?_⟩
 rcases h.2 with hn|⟨g,cap,cur,hv,hg,hh,r⟩
 ·exact Or.inl hn
 ·exact Or.inr ⟨g,cap,cur,hv,by omega,hh,r⟩
theorem af{W:World}{b:Nat}{A:Array Value}{t:TypeId}(h:W.heap[b]?=some (.cells A t (0,0))):an W b A:=
 ⟨fun j=>by simp[World.cell?,h],fun j=>by simp[World.frozen?,h],(Array.getElem?_eq_some_iff.1 h).1⟩
theorem iZ:(Tryz.prog.info? 197).map (fun i=>(i.zero,i.size,i.bytes))=some (some (.agg #[.pointer none,.int .i64 0,.int .i64 0,.int .i64 0]),4,32):=by kernel_rfl
theorem ns:(Tryz.prog.info? 141).map (fun i=>(i.zero,i.size,i.bytes))=some (some (.int .i64 0),1,8):=by kernel_rfl
theorem sJ(g n c:Nat)(w:World):(binOp BinOp.eql 149 (.slice (some ⟨g,0,none⟩) n c) (.slice none 0 0)).run Tryz.prog w=.ok (.bool false) w:=by kernel_rfl
theorem zr{w:World}{sv:Value}{n:Nat}{xs:List Value}(h:w.ownsRow 0 197 4 sv n xs)(hn:0< n)(hn2:n≤1000)(h1:∀u∈xs,u.oneCell'=true):
  Calls Tryz.prog 86 #[sv] w fun r w'=>∃v,r=.returned v∧w'.ownsRow w.heap.size 197 4 v n xs∧Below w.heap.size w w':=by
 obtain⟨i0,hi,hz0,hz1,hz2⟩:=info_parts iZ
 obtain⟨g,c,rfl⟩:=aG h (by omega)
 have hlt:=(h.lt g rfl).2
 have HN:Hid (∀j u,xs[j]?=some u→(w.alloc (.cells #[] 197)).cell? ((⟨g,0,none⟩:Addr).add j)=some u):=fun j u hj=>by
  rw[World.cell?_alloc_lt _ _ _ (by unfold Addr.add;split<;>exact hlt)]
  exact h.cells (g:=g) rfl j u hj
 have HL:Hid (xs.length=n*4):=h.1
 have H1:=aa h1
 have hq:=sJ
 clear h h1
 go_enter Tryz.func86,Tryz.ntmps86
 go_wp2_with (at_builtin;refine aq rfl _ _ 149 rfl w.heap.size 197 i0 (.agg #[.pointer none,.int .i64 0,.int .i64 0,.int .i64 0]) 4 32 Tryz.underlying149 hi hz0 hz1 hz2 rfl (by decide) _ _ _ rfl (World.ownsRow_made w #[] 0 (Nat.le_refl _) (by decide) rfl) ⟨g,0,none⟩ n c xs rfl HL.out HN.out H1.out hn (by unfold maxLen;omega) (by omega) (by simp) ?_;intro l4 w4 hown4 hgrow4 _)
 have HO:Hid (w4.ownsRow w.heap.size 197 4 l4 n xs):=by
  have:=hown4
  rw[Nat.zero_add,List.nil_append]at this
  exact this
 have HB:Hid (Below w.heap.size w w4):=((Below.refl _ w).alloc (Nat.le_refl _) _).grown hgrow4 (by simp) (fun k e=>by cases e;exact Nat.le_refl _)
 clear hown4 hgrow4
 go_wp2_with fail
 go_ret
 exact⟨_,rfl,HO.out,HB.out⟩
end
section
open Go.RowKit Go.Shelf
theorem uy(bs:List Nat)(l:List Fs)(b:Nat)(s:Fs)(h:bs.length=l.length):iW ((bs++[b]).zip (l++[s]))=iW (bs.zip l)++uz (b,s):=by
 rw[List.zip_append h]
 simp[iW]
theorem wy(l:List (Nat×Fs)):∀u∈iW l,u.oneCell'=true:=by
 intro u hu
 simp only[iW,List.mem_flatMap,uz]at hu
 obtain⟨a,_,h⟩:=hu
 simp at h
 rcases h with rfl|rfl|rfl|rfl<;>rfl
def yJ(W:World)(base b:Nat)(A:Array Value):Prop:=(b< base∧an W b A)∨W.heap[b]?=some (.cells A 161 (0,0))
theorem yJ.blk{W:World}{base b:Nat}{A:Array Value}(h:yJ W base b A):an W b A:=by
 rcases h with h|h
 ·exact h.2
 ·exact af h
theorem yJ.ty{T:TypeId→Prop}{W W':World}{base b:Nat}{A:Array Value}(h:yJ W base b A)(k:dw T base W W')(ht:¬T 161):yJ W' base b A:=by
 rcases h with h|h
 ·exact Or.inl ⟨h.1,h.2.below2 k.bel h.1⟩
 ·exact Or.inr (k.typ _ _ _ _ ht h)
structure ie(W:World)(base bR:Nat)(x:Rp)(bv sv tv rv lv:Value)(bs:List Nat):Prop where
 hd:W.heap[bR]?=some (.cells #[.int .i64 x.main,.int .i64 x.mutexes,bv,sv,tv,.int .u64 x.spots,.int .u64 x.twice,rv,lv,.int .i64 x.ends] 203 (0,0))
 bb:base≤bR
 b:W.ownsRow base 141 1 bv x.begins.length (bV x.begins)
 bl:bs.length=x.stmts.length
 s:W.ownsRow base 197 4 sv x.stmts.length (iW (bs.zip x.stmts))
 st:∀(k b:Nat) (s:Fs),bs[k]?=some b→x.stmts[k]?=some s→∃sr sb,yJ W base b (aK s.p sr sb)∧W.ownsRow 0 193 4 sr s.r.length (et s.r)
 t:W.ownsRow base 141 1 tv x.starts.length (bV x.starts)
 r:W.ownsRow base 252 1 rv x.runs.length (aH x.runs)
 l:W.ownsRow base 173 1 lv x.below.length (aH x.below)
 ne:∀i,bv.ownBlock=some i→tv.ownBlock≠some i
theorem ie.at{W:World}{base bR:Nat}{x:Rp}{bv sv tv rv lv:Value}{bs:List Nat}(h:ie W base bR x bv sv tv rv lv bs):aP W bR x:=by
 refine⟨bv,sv,tv,rv,lv,af h.hd,cQ h.b 0 (Nat.zero_le _),⟨bs,h.bl,cQ h.s 0 (Nat.zero_le _),fun k b s hb hs=>?_⟩,cQ h.t 0 (Nat.zero_le _),cQ h.r 0 (Nat.zero_le _),cQ h.l 0 (Nat.zero_le _)⟩
 obtain⟨sr,sb,h1,h2⟩:=h.st k b s hb hs
 exact⟨sr,sb,h1.blk,h2⟩
theorem ie.base_le{W:World}{base bR:Nat}{x:Rp}{bv sv tv rv lv:Value}{bs:List Nat}(h:ie W base bR x bv sv tv rv lv bs):base≤W.heap.size:=by
 have:=(Array.getElem?_eq_some_iff.1 h.hd).1
 have:=h.bb
 omega
theorem ie.sts{T:TypeId→Prop}{W W':World}{base bR:Nat}{x:Rp}{bv sv tv rv lv:Value}{bs:List Nat}(h:ie W base bR x bv sv tv rv lv bs)(k:dw T base W W')(h1:¬T 161)(h2:¬T 193):∀(k b:Nat) (s:Fs),bs[k]?=some b→x.stmts[k]?=some s→∃sr sb,yJ W' base b (aK s.p sr sb)∧W'.ownsRow 0 193 4 sr s.r.length (et s.r):=fun j b s hb hs=>by
 obtain⟨sr,sb,g1,g2⟩:=h.st j b s hb hs
 exact⟨sr,sb,g1.ty k h1,k.row g2 h2⟩
theorem ie.keep{W W':World}{base bR:Nat}{x:Rp}{bv sv tv rv lv:Value}{bs:List Nat}(h:ie W base bR x bv sv tv rv lv bs)(k:Below W.heap.size W W'):ie W' base bR x bv sv tv rv lv bs:=by
 have kk:dw (fun _=>False) base W W':=dw.of_below k h.base_le
 exact⟨kk.typ _ _ _ _ (fun e=>e) h.hd,h.bb,kk.row h.b (fun e=>e),h.bl,kk.row h.s (fun e=>e),h.sts kk (fun e=>e) (fun e=>e),kk.row h.t (fun e=>e),kk.row h.r (fun e=>e),kk.row h.l (fun e=>e),h.ne⟩
theorem ie.wr{W:World}{base bR:Nat}{x:Rp}{bv sv tv rv lv:Value}{bs:List Nat}(h:ie W base bR x bv sv tv rv lv bs)(j:Nat)(u:Value):dw (fun t=>t=203) base W (W.setCell ⟨bR,j,none⟩ u):=dw.set h.hd rfl h.bb
theorem ie.begin{W W1:World}{base bR b:Nat}{x:Rp}{bv sv rv lv v4:Value}{bs:List Nat}(h:ie W base bR x bv sv (.slice none 0 0) rv lv bs)(k:dw (fun t=>t=141) base W W1)(ho:W1.ownsRow base 141 1 v4 (x.begins.length+1) (bV x.begins++[.int .i64 b])):
  ie (W1.setCell ⟨bR,2,none⟩ v4) base bR {x with begins:=x.begins++[b]} v4 sv (.slice none 0 0) rv lv bs:=by
 have hd1:=k.typ _ _ _ _ (by decide) h.hd
 have k2:dw (fun t=>t=203) base W1 (W1.setCell ⟨bR,2,none⟩ v4):=dw.set hd1 rfl h.bb
 refine⟨eD hd1,h.bb,?_,h.bl,k2.row (k.row h.s (by decide)) (by decide),?_,?_,k2.row (k.row h.r (by decide)) (by decide),k2.row (k.row h.l (by decide)) (by decide),fun i _ e=>by cases e⟩
 ·have e1:bV (x.begins++[b])=bV x.begins++[.int .i64 b]:=by simp[bV]
  have e2:(x.begins++[b]).length=x.begins.length+1:=by simp
  show World.ownsRow _ _ _ _ _ (x.begins++[b]).length (bV (x.begins++[b]))
  rw[e1,e2]
  exact k2.row ho (by decide)
 ·intro j b s hb hs
  obtain⟨sr,sb,g1,g2⟩:=h.sts k (by decide) (by decide) j b s hb hs
  exact⟨sr,sb,g1.ty k2 (by decide),k2.row g2 (by decide)⟩
 ·have h0:=h.t
  rcases h0.2 with⟨_,hn⟩|⟨g,cap,cur,hv,_⟩
  ·exact⟨h0.1,Or.inl ⟨rfl,hn⟩⟩
  ·cases hv
theorem ie.stmt{W W1:World}{base bR b:Nat}{x:Rp}{s:Fs}{bv sv tv rv lv v4 sr sb:Value}{bs:List Nat}(h:ie W base bR x bv sv tv rv lv bs)(k:dw (fun t=>t=197) base W W1)(ho:W1.ownsRow base 197 4 v4 (x.stmts.length+1) (iW (bs.zip x.stmts)++uz (b,s)))
  (hs:yJ W base b (aK s.p sr sb)) (hr:W.ownsRow 0 193 4 sr s.r.length (et s.r)):
  ie (W1.setCell ⟨bR,3,none⟩ v4) base bR {x with stmts:=x.stmts++[s]} bv v4 tv rv lv (bs++[b]):=by
 have hd1:=k.typ _ _ _ _ (by decide) h.hd
 have k2:dw (fun t=>t=203) base W1 (W1.setCell ⟨bR,3,none⟩ v4):=dw.set hd1 rfl h.bb
 refine⟨eD hd1,h.bb,k2.row (k.row h.b (by decide)) (by decide),by simp[h.bl],?_,?_,k2.row (k.row h.t (by decide)) (by decide),k2.row (k.row h.r (by decide)) (by decide),k2.row (k.row h.l (by decide)) (by decide),h.ne⟩
 ·have e2:(x.stmts++[s]).length=x.stmts.length+1:=by simp
  show World.ownsRow _ _ _ _ _ (x.stmts++[s]).length (iW ((bs++[b]).zip (x.stmts++[s])))
  rw[uy _ _ _ _ h.bl,e2]
  exact k2.row ho (by decide)
 ·intro j b' s' hb hs'
  by_cases hj:j< bs.length
  ·rw[List.getElem?_append_left hj]at hb
   rw[List.getElem?_append_left (by rw[←h.bl];exact hj)]at hs'
   obtain⟨sr,sb,g1,g2⟩:=h.sts k (by decide) (by decide) j b' s' hb hs'
   exact⟨sr,sb,g1.ty k2 (by decide),k2.row g2 (by decide)⟩
  ·rw[List.getElem?_append_right (by omega)]at hb
   rw[List.getElem?_append_right (by rw[←h.bl];omega),←h.bl]at hs'
   have hj0:j-bs.length=0:=by
    rcases Nat.eq_zero_or_pos (j-bs.length)with e|e
    ·exact e
    ·rw[List.getElem?_eq_none (by simp;omega)]at hb;cases hb
   rw[hj0]at hb hs'
   cases hb
   cases hs'
   exact⟨sr,sb,(hs.ty k (by decide)).ty k2 (by decide),k2.row (k.row hr (by decide)) (by decide)⟩
theorem ie.start{W W0 W1:World}{base bR n:Nat}{x:Rp}{bv sv tv rv lv v4:Value}{bs:List Nat}(h:ie W base bR x bv sv tv rv lv bs)(k0:Below W.heap.size W W0)(hg:W0.grownBy W1 tv.ownBlock)(hw:v4.ownBlock=tv.ownBlock∨v4.ownBlock=some W0.heap.size)(ho:W1.ownsRow base 141 1 v4 (x.starts.length+1) (bV x.starts++[.int .i64 n])):
  ie (W1.setCell ⟨bR,4,none⟩ v4) base bR {x with starts:=x.starts++[n]} bv sv v4 rv lv bs:=by
 have h0:=h.keep k0
 have k:dw (fun t=>t=141) base W0 W1:=dw.grown h0.t hg rfl h0.base_le
 have hd1:=k.typ _ _ _ _ (by decide) h0.hd
 have k2:dw (fun t=>t=203) base W1 (W1.setCell ⟨bR,4,none⟩ v4):=dw.set hd1 rfl h.bb
 have hbv:W1.ownsRow base 141 1 bv x.begins.length (bV x.begins):=by
  refine h0.b.kept hg ?_
  rcases h0.b.2 with⟨e,_⟩|⟨g,cap,cur,e,_⟩
  ·exact Or.inl (by rw[e];rfl)
  ·exact Or.inr fun e'=>h.ne g (by rw[e];rfl) (by rw[←e',e];rfl)
 refine⟨eD hd1,h.bb,k2.row hbv (by decide),h.bl,k2.row (k.row h0.s (by decide)) (by decide),?_,?_,k2.row (k.row h0.r (by decide)) (by decide),k2.row (k.row h0.l (by decide)) (by decide),fun i hi=>?_⟩
 ·intro j b s hb hs
  obtain⟨sr,sb,g1,g2⟩:=h0.sts k (by decide) (by decide) j b s hb hs
  exact⟨sr,sb,g1.ty k2 (by decide),k2.row g2 (by decide)⟩
 ·have e1:bV (x.starts++[n])=bV x.starts++[.int .i64 n]:=by simp[bV]
  have e2:(x.starts++[n]).length=x.starts.length+1:=by simp
  show World.ownsRow _ _ _ _ _ (x.starts++[n]).length (bV (x.starts++[n]))
  rw[e1,e2]
  exact k2.row ho (by decide)
 ·rcases hw with e|e
  ·rw[e];exact h.ne i hi
  ·rw[e]
   intro e'
   cases e'
   have:=(h0.b.lt _ hi).2
   omega
theorem ie.spots{W:World}{base bR n:Nat}{x:Rp}{bv sv tv rv lv:Value}{bs:List Nat}(h:ie W base bR x bv sv tv rv lv bs):ie (W.setCell ⟨bR,5,none⟩ (.int .u64 (n:Nat))) base bR {x with spots:=n} bv sv tv rv lv bs:=by
 have k2:=h.wr 5 (.int .u64 (n:Nat))
 exact⟨eD h.hd,h.bb,k2.row h.b (by decide),h.bl,k2.row h.s (by decide),h.sts k2 (by decide) (by decide),k2.row h.t (by decide),k2.row h.r (by decide),k2.row h.l (by decide),h.ne⟩
theorem ie.twice{W:World}{base bR n:Nat}{x:Rp}{bv sv tv rv lv:Value}{bs:List Nat}(h:ie W base bR x bv sv tv rv lv bs):ie (W.setCell ⟨bR,6,none⟩ (.int .u64 (n:Nat))) base bR {x with twice:=n} bv sv tv rv lv bs:=by
 have k2:=h.wr 6 (.int .u64 (n:Nat))
 exact⟨eD h.hd,h.bb,k2.row h.b (by decide),h.bl,k2.row h.s (by decide),h.sts k2 (by decide) (by decide),k2.row h.t (by decide),k2.row h.r (by decide),k2.row h.l (by decide),h.ne⟩
theorem ie.setRuns{W:World}{base bR:Nat}{x:Rp}{l:List Nat}{bv sv tv rv lv v:Value}{bs:List Nat}(h:ie W base bR x bv sv tv rv lv bs)(ho:W.ownsRow base 252 1 v l.length (aH l)):ie (W.setCell ⟨bR,7,none⟩ v) base bR {x with runs:=l} bv sv tv v lv bs:=by
 have k2:=h.wr 7 v
 exact⟨eD h.hd,h.bb,k2.row h.b (by decide),h.bl,k2.row h.s (by decide),h.sts k2 (by decide) (by decide),k2.row h.t (by decide),k2.row ho (by decide),k2.row h.l (by decide),h.ne⟩
theorem ie.setBelow{W:World}{base bR:Nat}{x:Rp}{l:List Nat}{bv sv tv rv lv v:Value}{bs:List Nat}(h:ie W base bR x bv sv tv rv lv bs)(ho:W.ownsRow base 173 1 v l.length (aH l)):ie (W.setCell ⟨bR,8,none⟩ v) base bR {x with below:=l} bv sv tv rv v bs:=by
 have k2:=h.wr 8 v
 exact⟨eD h.hd,h.bb,k2.row h.b (by decide),h.bl,k2.row h.s (by decide),h.sts k2 (by decide) (by decide),k2.row h.t (by decide),k2.row h.r (by decide),k2.row ho (by decide),h.ne⟩
end
end Go.Proofs.YtmdaflepdaiabaaGreatDoor
