import Derived.Deep.RegionWith
import Derived.Deep.Cut
import Derived.Lib.SmallJoins
import Derived.Test.YtmdaflepdaiabaaGreatDoorQ00
set_option linter.unusedSimpArgs false
set_option linter.unusedVariables false
namespace Go.Proofs.YtmdaflepdaiabaaGreatDoor
section
open Go.RowKit
abbrev cY(b:Nat):Ending:=.panicked [{v:=.iface 70 (.pointer (some ⟨b,0,none⟩)),recovered:=false}]
def cc(w:World)(r:Ending)(e a:Nat):Prop:=∃b,r=cY b∧an w b #[.int .i64 e,.int .i64 a]
theorem bo(e a:Nat)(w:World):
  Calls Tryz.prog 36 #[.int .i64 e,.int .i64 a] w fun r w'=>cc w' r e a∧Below w.heap.size w w':=by
 go_enter Tryz.func36,Tryz.ntmps36
 go_wp2
 exact⟨rfl,⟨_,rfl,an.new _ _ _⟩,(Below.refl _ _).alloc (Nat.le_refl _) _⟩
def dY:List aj:=[[118,97,114],[109,117,116,101,120],[102,117,110,99],[108,111,99,107],[117,110,108,111,99,107],[106,111,105,110],[114,101,116,117,114,110],[105,102],[101,108,115,101],[119,104,105,108,101],[103,111],[110,101,119]]
def yW(i n:Nat):Bool:=n==0||(sub lz i (n+2)).head? !=some 32||(sub lz i (n+2)).length !=n+2||(sub lz i (n+2)).getLast? !=some 32||decide ((32:UInt8)∈((sub lz i (n+2)).drop 1).take n)||decide (((sub lz i (n+2)).drop 1).take n∈dY)
theorem uh:((List.range 62).all fun i=>(List.range 7).all fun n=>yW i n)=true:=by decide
theorem uR(i:Nat)(hi:i< 62)(n:Nat)(hn:n< 7)(h1:1≤n)(h2:(sub lz i (n+2)).head?=some 32)(h3:(sub lz i (n+2)).length=n+2)(h5:(sub lz i (n+2)).getLast?=some 32)(h4:(32:UInt8)∉((sub lz i (n+2)).drop 1).take n):((sub lz i (n+2)).drop 1).take n∈dY:=by
 have:=List.all_eq_true.1 (List.all_eq_true.1 uh i (List.mem_range.2 hi)) n (List.mem_range.2 hn)
 unfold yW at this
 have h0:(n==0)=false:=by rw[beq_eq_false_iff_ne];omega
 simp only[h0,h2,h3,h5,bne_self_eq_false,Bool.false_or,Bool.or_eq_true,decide_eq_true_eq]at this
 rcases this with h|h
 ·exact absurd h h4
 ·exact h
theorem oy:∀t,t∈dY→iz t=true:=by decide
theorem sF(t:aj)(h6:t.length≤6)(h1:1≤t.length)(hn:(32:UInt8)∉t):iz t=decide (t∈dY):=by
 rw[Bool.eq_iff_iff,decide_eq_true_iff]
 constructor
 ·intro h
  unfold iz at h
  rw[List.any_eq_true]at h
  obtain⟨i,hi,hx⟩:=h
  simp only[Bool.and_eq_true,decide_eq_true_eq,beq_iff_eq]at hx
  obtain⟨_,hx⟩:=hx
  have e:((sub lz i (t.length+2)).drop 1).take t.length=t:=by rw[hx];simp
  have:=uR i (List.mem_range.1 hi) t.length (by omega) h1 (by rw[hx];rfl) (by rw[hx];simp) (by rw[hx,←List.cons_append,List.getLast?_append];rfl) (by rw[e];exact hn)
  rw[e]at this
  exact this
 ·exact oy t
end
section
set_option maxRecDepth 100000
set_option maxHeartbeats 1000000
open Go.RowKit
theorem zH(c:UInt8)(w:World):
  Calls Tryz.prog 52 #[.int .u8 c.toNat] w fun e w'=>e=.returned (.bool (it c))∧w'=w:=by
 go_enter Tryz.func52,Tryz.ntmps52
 go_wp2
 all_goals(go_ret;refine⟨?_,rfl⟩;refine congrArg (fun b=>Ending.returned (.bool b)) ?_;unfold it;rw[Bool.eq_iff_iff];simp;try omega)
theorem oT(c:UInt8)(w:World):
  Calls Tryz.prog 53 #[.int .u8 c.toNat] w fun e w'=>e=.returned (.bool (kP c))∧w'=w:=by
 go_enter Tryz.func53,Tryz.ntmps53
 go_wp2
 all_goals(go_ret;refine⟨?_,rfl⟩;refine congrArg (fun b=>Ending.returned (.bool b)) ?_;unfold kP;rw[Bool.eq_iff_iff];simp;try omega)
theorem oU(c:UInt8)(w:World):
  Calls Tryz.prog 55 #[.int .u8 c.toNat] w fun e w'=>e=.returned (.bool (cJ c))∧w'=w:=by
 go_enter Tryz.func55,Tryz.ntmps55
 go_wp2
 all_goals(go_ret;refine⟨?_,rfl⟩;refine congrArg (fun b=>Ending.returned (.bool b)) ?_;unfold cJ;rw[Bool.eq_iff_iff];simp;try omega)
theorem Co(c:UInt8)(w:World):
  Calls Tryz.prog 74 #[.int .u8 c.toNat] w fun e w'=>e=.returned (.bool (dG c))∧w'=w:=by
 cases h1:kP c
 ·cases h2:cJ c
  all_goals
   have hr:Hid (dG c=cJ c):=by show _=_;unfold dG;rw[h1];rfl
   go_enter Tryz.func74,Tryz.ntmps74
   go_wp2_with (first|(go_at_call 53;refine(oT _ _).mono ?_;rintro e w' ⟨rfl,rfl⟩)|(go_at_call 55;refine(oU _ _).mono ?_;rintro e w' ⟨rfl,rfl⟩))
   go_ret
   exact⟨by rw[hr.out,h2];rfl,rfl⟩
 ·have hr:Hid (dG c=true):=by show _=_;unfold dG;rw[h1];rfl
  go_enter Tryz.func74,Tryz.ntmps74
  go_wp2_with (first|(go_at_call 53;refine(oT _ _).mono ?_;rintro e w' ⟨rfl,rfl⟩)|(go_at_call 55;refine(oU _ _).mono ?_;rintro e w' ⟨rfl,rfl⟩))
  go_ret
  exact⟨by rw[hr.out];rfl,rfl⟩
theorem tU(t:ByteArray)(w:World):
  Calls Tryz.prog 76 #[.string t] w fun e w'=>e=.returned (.bool (decide (t.data.toList∈dY)))∧w'=w:=by
 go_enter Tryz.func76,Tryz.ntmps76
 go_wp2
 all_goals(go_ret;refine⟨?_,rfl⟩;refine congrArg (fun b=>Ending.returned (.bool b)) ?_;simp_all [dY,ByteArray.toList_eq])
theorem zz{w:World}{bw n G:Nat}{s:ByteArray}(p:UInt8→Bool)(hcf:∀(args:Array Value) (w:World),(callFunc G args).run Tryz.prog w=.ok (.enter G args) w)(hG:∀(c:UInt8) (w:World),Calls Tryz.prog G #[.int .u8 c.toNat] w fun e w'=>e=.returned (.bool (p c))∧w'=w)(c0:w.cell? ⟨bw,0,none⟩=some (.string s))(c1:w.cell? ⟨bw,1,none⟩=some (.int .i64 n))(hn:n≤s.size)(hs:s.size≤700):
  Calls Tryz.prog 51 #[.pointer (some ⟨bw,0,none⟩),.func (.func G) #[] #[]] w fun e w'=>e=.returned (.int .i64 (bu p s.data.toList n))∧w'=w:=by
 have HG:=aa hG
 clear hG
 go_enter Tryz.func51,Tryz.ntmps51
 go_wp2_with fail
 go_loop [5] (fun i=>∃k:Nat,n+k≤s.size∧i=.int .i64 (n+k:Nat)∧Hid (∀j,j< k→∀h:n+j< s.data.toList.length,p s.data.toList[n+j]=true)) (fun i=>s.size-(intOf i).toNat)
 case atStart=>exact⟨0,by omega,rfl,fun j hj=>by omega⟩
 case round=>
  obtain⟨k,hk,rfl,hall⟩:=hrel
  by_cases hlt:n+k< s.size
  ·cases hp:p s[n+k]
   ·have HR:Hid (bu p s.data.toList n=k):=pQ _ _ _ _ hk hall (fun h=>hp)
    go_wp2_with fail
    refine(HG.out _ _).mono ?_
    rintro e wq ⟨rfl,hq⟩
    subst wq
    go_wp2_with fail
    go_ret
    exact⟨by rw[HR.out];go_num,rfl⟩
   ·have hr:Hid (∀j,j< k+1→∀h:n+j< s.data.toList.length,p s.data.toList[n+j]=true):=by
     intro j hj h
     by_cases e:j=k
     ·subst e;exact hp
     ·exact hall j (by omega) h
    clear hall
    go_wp2_with fail
    refine(HG.out _ _).mono ?_
    rintro e wq ⟨rfl,hq⟩
    subst wq
    go_wp2_with fail
    go_round
    case rel=>exact⟨k+1,by omega,by go_num,hr⟩
    case measure=>simp[intOf];omega
  ·have HR:Hid (bu p s.data.toList n=k):=pQ _ _ _ _ hk hall (fun h=>absurd h hlt)
   go_wp2_with fail
   go_ret
   exact⟨by rw[HR.out];go_num,rfl⟩
theorem yB(args:Array Value)(w:World):(callFunc 52 args).run Tryz.prog w=.ok (.enter 52 args) w:=sA Tryz.func52 rfl (by kernel_rfl) args w
theorem yx(args:Array Value)(w:World):(callFunc 55 args).run Tryz.prog w=.ok (.enter 55 args) w:=sA Tryz.func55 rfl (by kernel_rfl) args w
theorem BS(args:Array Value)(w:World):(callFunc 74 args).run Tryz.prog w=.ok (.enter 74 args) w:=sA Tryz.func74 rfl (by kernel_rfl) args w
end
section
set_option maxRecDepth 100000
set_option maxHeartbeats 1000000
open Go.RowKit
theorem pG(n m:Nat)(h:n+m≤1000000000000):IntKind.i64.wrap ((n:Int)+(m:Int))=((n+m:Nat):Int):=by
 rw[IntKind.wrap_i64]
 omega
theorem uH(s:ByteArray)(w:World)(hs:s.size≤100000):
  Calls Tryz.prog 123 #[.string s] w fun e w'=>e=.returned (.string s)∧Below w.heap.size w w':=by
 go_enter Tryz.func123,Tryz.ntmps123
 go_wp2_with fail
 refine(Tryz.stringslite_Clone s _ (by omega)).mono ?_
 rintro e wq ⟨rfl,hq⟩
 replace hq:=aa hq
 go_wp2_with fail
 go_ret
 exact⟨rfl,hq.out⟩
theorem jI{w:World}{bw n len:Nat}{s:ByteArray}(kind:Nat)(hB:an w bw #[.string s,.int .i64 n])(hl:n+len≤s.size)(hs:s.size≤700):
  Calls Tryz.prog 75 #[.pointer (some ⟨bw,0,none⟩),.int .i64 kind,.int .i64 len] w fun r w'=>r=.returned (.agg #[.int .i64 kind,.string ⟨(sub s.data.toList n len).toArray⟩,.int .i64 n])∧an w' bw #[.string s,.int .i64 (n+len:Nat)]∧ae (ao bw) w w':=by
 have HB:=aa hB
 have q0:w.cell? ⟨bw,0,none⟩=some (.string s):=hB.cell 0
 have q1:w.cell? ⟨bw,1,none⟩=some (.int .i64 n):=hB.cell 1
 have hlt:=hB.lt
 have hlz:bw≠w.heap.size:=by omega
 have i1:(n:Int)≤(n:Int)+len:=by omega
 have i2:(n:Int)+len≤(s.size:Int):=by omega
 have i3:(0:Int)≤(n:Int)+len:=by omega
 have i4:(n:Int)≤(s.size:Int):=by omega
 have i5:=pG n len (by omega)
 have i8:((n:Int)+(len:Int)).toNat=n+len:=by omega
 have i6:((n+len:Nat):Int)≤(s.size:Int):=by omega
 have i7:(n:Int)≤((n+len:Nat):Int):=by omega
 clear hB
 go_enter Tryz.func75,Tryz.ntmps75
 go_upto_region 1 with fail
 go_cut [7]from 9 (fun s7 wx=>s7=.string ⟨(sub s.data.toList n len).toArray⟩∧Hid (Below (w.heap.size+1) (w.alloc (.cells #[.int .i64 0,.string ⟨#[]⟩,.int .i64 0] 77)) wx))
 case first=>
  go_region_with (go_at_call 123;refine(uH _ _ (by have:=xz s n len hl;omega)).mono ?_;rintro e w1 ⟨rfl,hb1⟩;replace hb1:=aa hb1)
  all_goals
   go_wp2_with fail
   go_meet
   exact⟨by rw[←kK],(Below.refl _ _).drew.trans (hb1.out.mono (by simp))⟩
 case rest=>
  obtain⟨rfl,hb1⟩:=hcut
  rename World=>w1
  clear i1 i2 i3 i4 i5 i6 i7 i8 q0 q1
  have hs1:w.heap.size+1≤w1.heap.size:=by have:=hb1.out.size;simpa using this
  have HB1:=aa ((HB.out.alloc (.cells #[.int .i64 0,.string ⟨#[]⟩,.int .i64 0] 77)).below (by have:=hb1.out;simpa using this))
  have HR1:=aa ((an.new w #[.int .i64 0,.string ⟨#[]⟩,.int .i64 0] 77).below (by have:=hb1.out;simpa using this))
  have q0:w1.cell? ⟨bw,0,none⟩=some (.string s):=HB1.out.cell 0
  have q1:w1.cell? ⟨bw,1,none⟩=some (.int .i64 n):=HB1.out.cell 1
  have qf:=HB1.out.fz
  have r0:=HR1.out.cell 0
  have r1:=HR1.out.cell 1
  have r2:=HR1.out.cell 2
  have rf:=HR1.out.fz
  have hz1:bw< w1.heap.size:=by omega
  have hz2:w.heap.size< w1.heap.size:=by omega
  have hlz':w.heap.size≠bw:=by omega
  go_wp2_with fail
  have hk1:ae (ao bw) w w1:=((ae.refl (ao bw) w).alloc (.cells #[.int .i64 0,.string ⟨#[]⟩,.int .i64 0] 77)).below (by have:=hb1.out;simpa using this)
  refine bodyPost_ret (v:=.agg #[.int .i64 kind,.string ⟨(sub s.data.toList n len).toArray⟩,.int .i64 n]) (by simp[results,Tryz.results75,go_sem,r0,r1,r2,hz2,World.cell?_setCell_other,hlz]) rfl ⟨rfl,?_,?_⟩
  ·have h:=((((HB1.out.set 1 (.int .i64 ((n:Int)+len)) (by simp)).setO w.heap.size 0 (.int .i64 kind) hlz).setO w.heap.size 1 (.string ⟨(sub s.data.toList n len).toArray⟩) hlz).setO w.heap.size 2 (.int .i64 n) hlz).alloc (.cells #[.int .i64 kind,.string ⟨(sub s.data.toList n len).toArray⟩,.int .i64 n] 77)
   rw[Int.natCast_add]
   exact h
  ·exact((((hk1.setCell (p:=⟨bw,1,none⟩) (Or.inl rfl) _).setCell (p:=⟨w.heap.size,0,none⟩) (Or.inr (Nat.le_refl _)) _).setCell (p:=⟨w.heap.size,1,none⟩) (Or.inr (Nat.le_refl _)) _).setCell (p:=⟨w.heap.size,2,none⟩) (Or.inr (Nat.le_refl _)) _).alloc _
end
section
set_option maxRecDepth 100000
set_option maxHeartbeats 1000000
open Go.RowKit
def ez(k:Nat):Nat:=if k=36 then 0 else if k=97 then 1 else if k=110 then 2 else 3
def dM(t:aI):Value:=.agg #[.int .i64 (ez t.k),.string ⟨t.text.toArray⟩,.int .i64 t.at_]
def gG(w w':World)(bw:Nat)(s:ByteArray)(r:Ending)(t:aI):Prop:=
 ae (ao bw) w w'∧((t.k≠120∧r=.returned (dM t)∧an w' bw #[.string s,.int .i64 (t.at_+t.text.length:Nat)])∨(t.k=120∧cc w' r t.e t.at_))
theorem dI{w w1:World}{bw:Nat}{s:ByteArray}{t:aI}(hne:bw≠w.heap.size)(hk:ae (ao bw) w w1)(hB:an w1 bw #[.string s,.int .i64 (t.at_+t.text.length:Nat)])(ht:t.k≠120)(a b c:Value):
  gG w (((w1.setCell ⟨w.heap.size,0,none⟩ a).setCell ⟨w.heap.size,1,none⟩ b).setCell ⟨w.heap.size,2,none⟩ c) bw s (.returned (dM t)) t:=
 ⟨((hk.setCell (p:=⟨w.heap.size,0,none⟩) (Or.inr (Nat.le_refl _)) _).setCell (p:=⟨w.heap.size,1,none⟩) (Or.inr (Nat.le_refl _)) _).setCell (p:=⟨w.heap.size,2,none⟩) (Or.inr (Nat.le_refl _)) _,Or.inl ⟨ht,rfl,((hB.setO _ 0 _ hne).setO _ 1 _ hne).setO _ 2 _ hne⟩⟩
theorem gG.alloc{w w1:World}{bw:Nat}{s:ByteArray}{t:aI}{v:Value}(h:gG w w1 bw s (.returned v) t)(o:Obj):gG w (w1.alloc o) bw s (.returned v) t:=by
 obtain⟨hk,h|h⟩:=h
 ·exact⟨hk.alloc o,Or.inl ⟨h.1,h.2.1,h.2.2.alloc o⟩⟩
 ·obtain⟨_,b,h,_⟩:=h
  cases h
theorem oH{p:UInt8→Bool}(l:aj)(i:Nat):∀c,c∈sub l i (bu p l i)→p c=true:=by
 intro c hc
 unfold sub bu at hc
 have:(l.drop i).take ((l.drop i).takeWhile p).length=(l.drop i).takeWhile p:=by
  rw[List.prefix_iff_eq_take.1 (List.takeWhile_prefix p)]
  simp
 rw[this]at hc
 exact List.all_eq_true.1 List.all_takeWhile c hc
theorem vR{w:World}{bw n:Nat}{s:ByteArray}{c:UInt8}(hB:an w bw #[.string s,.int .i64 n])(hs:s.size≤700)(hc:s.data.toList[n]?=some c)(hl:kP c=true):
  Calls Tryz.prog 54 #[.pointer (some ⟨bw,0,none⟩)] w fun r w'=>gG w w' bw s r (el s.data.toList n):=by
 have hn:n< s.size:=(List.getElem?_eq_some_iff.1 hc).1
 have hd:cJ c=false:=by unfold kP at hl;unfold cJ;simp at hl⊢;omega
 have hld:dG c=true:=by unfold dG;rw[hl];rfl
 have hr:=gS dG s.data.toList n (by rw[bJ];omega)
 rw[bJ]at hr
 have h1:=je dG s.data.toList n c hc hld
 have HX:Hid (el s.data.toList n=if 6< bu dG s.data.toList n then⟨120,[],n,3⟩else if iz (sub s.data.toList n (bu dG s.data.toList n))then⟨107,sub s.data.toList n (bu dG s.data.toList n),n,0⟩else⟨97,sub s.data.toList n (bu dG s.data.toList n),n,0⟩):=by
  show _=_
  unfold el
  rw[hc]
  simp[hd,hld]
 have HAM:Hid (bu dG s.data.toList n≤6→iz (sub s.data.toList n (bu dG s.data.toList n))=decide (sub s.data.toList n (bu dG s.data.toList n)∈dY)):=fun h6=>by
  have hlen:=eK s.data.toList n (bu dG s.data.toList n) (by rw[bJ];exact hr)
  exact sF _ (by omega) (by omega) (fun h=>by have:=oH (p:=dG) s.data.toList n 32 h;revert this;decide)
 have HLN:=aa (eK s.data.toList n (bu dG s.data.toList n) (by rw[bJ];exact hr))
 have HB:=aa hB
 have q0:w.cell? ⟨bw,0,none⟩=some (.string s):=hB.cell 0
 have q1:w.cell? ⟨bw,1,none⟩=some (.int .i64 n):=hB.cell 1
 have hlt:=hB.lt
 have hlz:bw≠w.heap.size:=by omega
 clear hB hc hl hd hld
 generalize hm:bu dG s.data.toList n=m at *
 replace hm:=aa hm
 have HA:=aa (HB.out.alloc (.cells #[.int .i64 0,.string ⟨#[]⟩,.int .i64 0] 77))
 go_enter Tryz.func54,Tryz.ntmps54
 go_wp2_with fail
 refine(zz (s:=s) (n:=n) dG BS Co (HA.out.cell 0) (HA.out.cell 1) (by omega) hs).mono ?_
 rintro e wq ⟨rfl,hq⟩
 subst wq
 rw[hm.out]
 by_cases h6:6< m
 ·have HX2:Hid (el s.data.toList n=⟨120,[],n,3⟩):=by show _=_;rw[HX.out,if_pos h6]
  go_wp2_with fail
  refine(bo 3 n _).mono ?_
  rintro e w1 ⟨⟨b,rfl,hblk⟩,hb1⟩
  replace hb1:=aa hb1
  replace hblk:=aa hblk
  go_wp2_with fail
  refine⟨rfl,?_⟩
  rw[HX2.out]
  exact⟨((ae.refl (ao bw) w).alloc _).below hb1.out,Or.inr ⟨rfl,b,rfl,hblk.out⟩⟩
 ·go_wp2_with fail
  refine(jI 1 HA.out (by omega) hs).mono ?_
  rintro e w1 ⟨rfl,hB1,hk1⟩
  replace hB1:=aa hB1
  replace hk1:=aa hk1
  have hlt2:=hk1.out.size
  have hz2:w.heap.size< w1.heap.size:=by simp at hlt2;omega
  have hlz2:w.heap.size≠bw:=by omega
  have HR1:=aa ((an.new w #[.int .i64 0,.string ⟨#[]⟩,.int .i64 0] 77).only hk1.out hlz2)
  have r0:=HR1.out.cell 0
  have r1:=HR1.out.cell 1
  have r2:=HR1.out.cell 2
  have rf:=HR1.out.fz
  have hkk:Hid (ae (ao bw) w w1):=((ae.refl (ao bw) w).alloc _).trans hk1.out
  clear hlt2 hk1
  have hb6:m≤6:=by omega
  have HA2:=aa (HAM.out hb6)
  go_wp2_with fail
  refine(tU _ _).mono ?_
  rintro e wq ⟨rfl,hq⟩
  subst wq
  cases hres:decide (sub s.data.toList n m∈dY)
  ·have HX2:Hid (el s.data.toList n=⟨97,sub s.data.toList n m,n,0⟩):=by show _=_;rw[HX.out,if_neg h6,HA2.out,hres];rfl
   have hres2:decide (({data:=(sub s.data.toList n m).toArray}:ByteArray).data.toList∈dY)=false:=hres
   go_wp2_with fail
   refine bodyPost_ret (v:=dM ⟨97,sub s.data.toList n m,n,0⟩) (by simp[results,Tryz.results54,go_sem,r0,r1,r2,hz2,dM,ez]) rfl ?_
   rw[HX2.out]
   exact(dI (t:=⟨97,sub s.data.toList n m,n,0⟩) hlz hkk.out (by show an _ _ #[_,.int .i64 ((n+(sub s.data.toList n m).length:Nat):Int)];rw[HLN.out];exact hB1.out) (by simp) _ _ _).alloc _
  ·have HX2:Hid (el s.data.toList n=⟨107,sub s.data.toList n m,n,0⟩):=by show _=_;rw[HX.out,if_neg h6,HA2.out,hres];rfl
   have hres2:decide (({data:=(sub s.data.toList n m).toArray}:ByteArray).data.toList∈dY)=true:=hres
   go_wp2_with fail
   refine bodyPost_ret (v:=dM ⟨107,sub s.data.toList n m,n,0⟩) (by simp[results,Tryz.results54,go_sem,r0,r1,r2,hz2,dM,ez]) rfl ?_
   rw[HX2.out]
   exact(dI (t:=⟨107,sub s.data.toList n m,n,0⟩) hlz hkk.out (by show an _ _ #[_,.int .i64 ((n+(sub s.data.toList n m).length:Nat):Int)];rw[HLN.out];exact hB1.out) (by simp) _ _ _).alloc _
theorem rP{w:World}{bw n:Nat}{s:ByteArray}{c:UInt8}(hB:an w bw #[.string s,.int .i64 n])(hs:s.size≤700)(hc:s.data.toList[n]?=some c)(hl:cJ c=true):
  Calls Tryz.prog 56 #[.pointer (some ⟨bw,0,none⟩)] w fun r w'=>gG w w' bw s r (el s.data.toList n):=by
 have hn:n< s.size:=(List.getElem?_eq_some_iff.1 hc).1
 have hr:=gS cJ s.data.toList n (by rw[bJ];omega)
 rw[bJ]at hr
 have HX:Hid (el s.data.toList n=if 6< bu cJ s.data.toList n then⟨120,[],n,4⟩else⟨110,sub s.data.toList n (bu cJ s.data.toList n),n,0⟩):=by
  show _=_
  unfold el
  rw[hc]
  simp[hl]
 have HLN:=aa (eK s.data.toList n (bu cJ s.data.toList n) (by rw[bJ];exact hr))
 have HB:=aa hB
 have q0:w.cell? ⟨bw,0,none⟩=some (.string s):=hB.cell 0
 have q1:w.cell? ⟨bw,1,none⟩=some (.int .i64 n):=hB.cell 1
 have hlt:=hB.lt
 have hlz:bw≠w.heap.size:=by omega
 clear hB hc hl
 generalize hm:bu cJ s.data.toList n=m at *
 replace hm:=aa hm
 have HA:=aa (HB.out.alloc (.cells #[.int .i64 0,.string ⟨#[]⟩,.int .i64 0] 77))
 go_enter Tryz.func56,Tryz.ntmps56
 go_wp2_with fail
 refine(zz (s:=s) (n:=n) cJ yx oU (HA.out.cell 0) (HA.out.cell 1) (by omega) hs).mono ?_
 rintro e wq ⟨rfl,hq⟩
 subst wq
 rw[hm.out]
 by_cases h6:6< m
 ·have HX2:Hid (el s.data.toList n=⟨120,[],n,4⟩):=by show _=_;rw[HX.out,if_pos h6]
  go_wp2_with fail
  refine(bo 4 n _).mono ?_
  rintro e w1 ⟨⟨b,rfl,hblk⟩,hb1⟩
  replace hb1:=aa hb1
  replace hblk:=aa hblk
  go_wp2_with fail
  refine⟨rfl,?_⟩
  rw[HX2.out]
  exact⟨((ae.refl (ao bw) w).alloc _).below hb1.out,Or.inr ⟨rfl,b,rfl,hblk.out⟩⟩
 ·go_wp2_with fail
  refine(jI 2 HA.out (by omega) hs).mono ?_
  rintro e w1 ⟨rfl,hB1,hk1⟩
  replace hB1:=aa hB1
  replace hk1:=aa hk1
  have hlt2:=hk1.out.size
  have hz2:w.heap.size< w1.heap.size:=by simp at hlt2;omega
  have hlz2:w.heap.size≠bw:=by omega
  have HR1:=aa ((an.new w #[.int .i64 0,.string ⟨#[]⟩,.int .i64 0] 77).only hk1.out hlz2)
  have r0:=HR1.out.cell 0
  have r1:=HR1.out.cell 1
  have r2:=HR1.out.cell 2
  have rf:=HR1.out.fz
  have hkk:Hid (ae (ao bw) w w1):=((ae.refl (ao bw) w).alloc _).trans hk1.out
  clear hlt2 hk1
  have HX2:Hid (el s.data.toList n=⟨110,sub s.data.toList n m,n,0⟩):=by show _=_;rw[HX.out,if_neg h6]
  go_wp2_with fail
  refine bodyPost_ret (v:=dM ⟨110,sub s.data.toList n m,n,0⟩) (by simp[results,Tryz.results56,go_sem,r0,r1,r2,dM,ez]) rfl ?_
  rw[HX2.out]
  exact dI (t:=⟨110,sub s.data.toList n m,n,0⟩) hlz hkk.out (by show an _ _ #[_,.int .i64 ((n+(sub s.data.toList n m).length:Nat):Int)];rw[HLN.out];exact hB1.out) (by simp) _ _ _
end
section
set_option maxRecDepth 100000
set_option maxHeartbeats 1000000
open Go.RowKit
theorem ng(c:UInt8)(l:aj):0≤Lib.indexByte l c↔c∈l:=by
 induction l with
 |nil=>simp[Lib.indexByte]
 |cons b l ih=>
  have hg:=Lib.indexByte_ge l c
  by_cases e:b=c
  ·subst e;simp[Lib.indexByte]
  ·have e2:¬c=b:=fun h=>e h.symm
   by_cases h1:Lib.indexByte l c=-1
   ·have:c∉l:=fun h=>by have:=ih.2 h;omega
    simp[Lib.indexByte,e,e2,h1,this]
   ·have:c∈l:=ih.1 (by omega)
    simp[Lib.indexByte,e,e2,h1,this];omega
theorem mx(c:UInt8):decide (0≤Lib.indexByte vk c)=fH c:=by
 unfold fH
 rw[Bool.eq_iff_iff,decide_eq_true_iff,decide_eq_true_iff]
 exact ng c vk
theorem yT(c:UInt8)(w:World):
  Calls Tryz.prog 78 #[.int .u8 c.toNat] w fun e w'=>e=.returned (.bool (fH c))∧w'=w:=by
 have HS:=aa (mx c)
 go_enter Tryz.func78,Tryz.ntmps78
 go_wp2_with (go_at_call 125;refine(Tryz.strings_IndexByte _ _ _).mono ?_;rintro e w' ⟨rfl,rfl⟩)
 go_ret
 refine⟨?_,rfl⟩
 rw[←HS.out]
 rfl
theorem rL(s:ByteArray)(n:Nat)(hn:n≤s.size):Lib.hasPrefix (s.extract n s.size).data.toList [61,61]=(sub s.data.toList n 2==[61,61]):=by
 have e:(s.extract n s.size).data.toList=s.data.toList.drop n:=by
  have h:=kK s n (s.size-n)
  rw[show n+(s.size-n)=s.size by omega]at h
  rw[h]
  show sub s.data.toList n (s.size-n)=_
  unfold sub
  rw[List.take_of_length_le (by simp[bJ])]
 rw[e]
 unfold sub Lib.hasPrefix
 generalize s.data.toList.drop n=l
 rcases l with _|⟨a,_|⟨b,l⟩⟩
 ·rfl
 ·simp[List.isPrefixOf]
 ·simp only[List.isPrefixOf,List.take_succ_cons,List.take_zero,Bool.and_true]
  rw[Bool.eq_iff_iff]
  simp
  constructor
  ·rintro⟨h1,h2⟩;exact⟨h1.symm,h2.symm⟩
  ·rintro⟨h1,h2⟩;exact⟨h1.symm,h2.symm⟩
theorem tO{w:World}{bw n:Nat}{s:ByteArray}{c:UInt8}(hB:an w bw #[.string s,.int .i64 n])(hs:s.size≤700)(hc:s.data.toList[n]?=some c)(hl:kP c=false)(hd:cJ c=false):
  Calls Tryz.prog 57 #[.pointer (some ⟨bw,0,none⟩)] w fun r w'=>gG w w' bw s r (el s.data.toList n):=by
 have hn:n< s.size:=(List.getElem?_eq_some_iff.1 hc).1
 have hld:dG c=false:=by unfold dG;rw[hl,hd];rfl
 have hcs:s[n]=c:=by have:=qI s n hn;rw[hc]at this;exact(Option.some.inj this).symm
 have HC2:=aa (xy s n hn)
 have HX:Hid (el s.data.toList n=if fH c then(if sub s.data.toList n 2==[61,61]then⟨115,[61,61],n,0⟩else⟨115,[c],n,0⟩)else⟨120,[],n,2⟩):=by
  show _=_
  unfold el
  rw[hc]
  simp[hd,hld]
 have HEQ:Hid (sub s.data.toList n 2=[61,61]→fH c=true∧n+2≤s.size):=fun h=>by
  have h1:(sub s.data.toList n 2).length=2:=by rw[h];rfl
  have h2:(sub s.data.toList n 2)[0]?=some c:=by unfold sub;rw[List.getElem?_take_of_lt (by omega),List.getElem?_drop];exact hc
  rw[h]at h2
  simp at h2
  subst h2
  refine⟨by decide,?_⟩
  simp[sub,bJ]at h1
  omega
 have HPF:=aa (rL s n (by omega))
 have HB:=aa hB
 have q0:w.cell? ⟨bw,0,none⟩=some (.string s):=hB.cell 0
 have q1:w.cell? ⟨bw,1,none⟩=some (.int .i64 n):=hB.cell 1
 have hlt:=hB.lt
 have hlz:bw≠w.heap.size:=by omega
 have HA:=aa (HB.out.alloc (.cells #[.int .i64 0,.string ⟨#[]⟩,.int .i64 0] 77))
 have i4:(n:Int)≤(s.size:Int):=by omega
 clear hB hc hl hd hld
 cases heq:(sub s.data.toList n 2==[61,61])
 ·have HP2:Hid (Lib.hasPrefix (s.extract n s.size).data.toList [61,61]=false):=by show _=_;rw[HPF.out,heq]
  go_enter Tryz.func57,Tryz.ntmps57
  go_upto_region 1 with fail
  go_cut [12]from 3 (fun s12 wx=>s12=.bool false∧wx=(w.alloc (.cells #[.int .i64 0,.string ⟨#[]⟩,.int .i64 0] 77)).drew)
  case first=>
   go_region_with (go_at_call 77;refine(Tryz.strings_HasPrefix _ _ _).mono ?_;rintro e wq ⟨rfl,hq⟩;subst wq)
   all_goals
    go_wp2_with fail
    go_meet
    exact⟨congrArg Value.bool (by first|exact HP2.out|(have:=HP2.out;simpa using this)),rfl⟩
  case rest=>
   obtain⟨rfl,rfl⟩:=hcut
   have HSG:Hid (sub s.data.toList n 1=[c]):=by show _=_;rw[HC2.out,hcs]
   have hgi:(s[n].toNat:Int)=(c.toNat:Int):=by rw[hcs]
   clear hcs HC2
   cases hsg:fH c
   ·have HX2:Hid (el s.data.toList n=⟨120,[],n,2⟩):=by show _=_;rw[HX.out,hsg];rfl
    have HSI:Hid (fH c=false):=hsg
    clear hsg
    go_upto_region 3 with fail
    go_cut [25]from 3 (fun s25 wx=>s25=.bool true∧wx=(w.alloc (.cells #[.int .i64 0,.string ⟨#[]⟩,.int .i64 0] 77)).drew.drew)
    case first=>
     go_region_with (go_at_call 78;refine(yT c _).mono ?_;rintro e wq ⟨rfl,hq⟩;subst wq;rw[HSI.out])
     all_goals
      go_wp2_with fail
      go_meet
      exact⟨rfl,rfl⟩
    case rest=>
    obtain⟨rfl,rfl⟩:=hcut
    go_wp2_with fail
    refine(bo 2 n _).mono ?_
    rintro e w1 ⟨⟨b,rfl,hblk⟩,hb1⟩
    replace hb1:=aa hb1
    replace hblk:=aa hblk
    go_wp2_with fail
    refine⟨rfl,?_⟩
    rw[HX2.out]
    exact⟨(((ae.refl (ao bw) w).alloc (.cells #[.int .i64 0,.string ⟨#[]⟩,.int .i64 0] 77)).drew.drew).below hb1.out,Or.inr ⟨rfl,b,rfl,hblk.out⟩⟩
   ·have HX2:Hid (el s.data.toList n=⟨115,[c],n,0⟩):=by show _=_;rw[HX.out,hsg,heq];rfl
    have HSI:Hid (fH c=true):=hsg
    clear hsg
    go_upto_region 3 with fail
    go_cut [25]from 3 (fun s25 wx=>s25=.bool false∧wx=(w.alloc (.cells #[.int .i64 0,.string ⟨#[]⟩,.int .i64 0] 77)).drew.drew)
    case first=>
     go_region_with (go_at_call 78;refine(yT c _).mono ?_;rintro e wq ⟨rfl,hq⟩;subst wq;rw[HSI.out])
     all_goals
      go_wp2_with fail
      go_meet
      exact⟨rfl,rfl⟩
    case rest=>
    obtain⟨rfl,rfl⟩:=hcut
    go_wp2_with fail
    refine(jI (len:=1) 3 (HA.out.below ((Below.refl _ _).drew.drew)) (by omega) hs).mono ?_
    rintro e w1 ⟨rfl,hB1,hk1⟩
    replace hB1:=aa hB1
    replace hk1:=aa hk1
    have hlt2:=hk1.out.size
    have hz2:w.heap.size< w1.heap.size:=by simp at hlt2;omega
    have hlz2:w.heap.size≠bw:=by omega
    have HR1:=aa (((an.new w #[.int .i64 0,.string ⟨#[]⟩,.int .i64 0] 77).below ((Below.refl _ _).drew.drew)).only hk1.out hlz2)
    have r0:=HR1.out.cell 0
    have r1:=HR1.out.cell 1
    have r2:=HR1.out.cell 2
    have rf:=HR1.out.fz
    have hkk:Hid (ae (ao bw) w w1):=((ae.refl (ao bw) w).alloc (.cells #[.int .i64 0,.string ⟨#[]⟩,.int .i64 0] 77)).drew.drew.trans hk1.out
    clear hlt2 hk1
    rw[HSG.out]
    go_wp2_with fail
    refine bodyPost_ret (v:=dM ⟨115,[c],n,0⟩) (by simp[results,Tryz.results57,go_sem,r0,r1,r2,dM,ez]) rfl ?_
    rw[HX2.out]
    exact dI (t:=⟨115,[c],n,0⟩) hlz hkk.out hB1.out (by simp) _ _ _
 ·have HP2:Hid (Lib.hasPrefix (s.extract n s.size).data.toList [61,61]=true):=by show _=_;rw[HPF.out,heq]
  obtain⟨hsg,h2⟩:=HEQ.out (beq_iff_eq.1 heq)
  have HX2:Hid (el s.data.toList n=⟨115,[61,61],n,0⟩):=by show _=_;rw[HX.out,hsg,heq];rfl
  have HE2:Hid (sub s.data.toList n 2=[61,61]):=beq_iff_eq.1 heq
  clear hsg heq
  go_enter Tryz.func57,Tryz.ntmps57
  go_upto_region 1 with fail
  go_cut [12]from 3 (fun s12 wx=>s12=.bool true∧wx=(w.alloc (.cells #[.int .i64 0,.string ⟨#[]⟩,.int .i64 0] 77)).drew)
  case first=>
   go_region_with (go_at_call 77;refine(Tryz.strings_HasPrefix _ _ _).mono ?_;rintro e wq ⟨rfl,hq⟩;subst wq)
   all_goals
    go_wp2_with fail
    go_meet
    exact⟨congrArg Value.bool (by first|exact HP2.out|(have:=HP2.out;simpa using this)),rfl⟩
  case rest=>
    obtain⟨rfl,rfl⟩:=hcut
    go_wp2_with fail
    refine(jI (len:=2) 3 (HA.out.below ((Below.refl _ _).drew)) (by omega) hs).mono ?_
    rintro e w1 ⟨rfl,hB1,hk1⟩
    replace hB1:=aa hB1
    replace hk1:=aa hk1
    have hlt2:=hk1.out.size
    have hz2:w.heap.size< w1.heap.size:=by simp at hlt2;omega
    have hlz2:w.heap.size≠bw:=by omega
    have HR1:=aa (((an.new w #[.int .i64 0,.string ⟨#[]⟩,.int .i64 0] 77).below ((Below.refl _ _).drew)).only hk1.out hlz2)
    have r0:=HR1.out.cell 0
    have r1:=HR1.out.cell 1
    have r2:=HR1.out.cell 2
    have rf:=HR1.out.fz
    have hkk:Hid (ae (ao bw) w w1):=((ae.refl (ao bw) w).alloc (.cells #[.int .i64 0,.string ⟨#[]⟩,.int .i64 0] 77)).drew.trans hk1.out
    clear hlt2 hk1
    rw[HE2.out]
    go_wp2_with fail
    refine bodyPost_ret (v:=dM ⟨115,[61,61],n,0⟩) (by simp[results,Tryz.results57,go_sem,r0,r1,r2,dM,ez]) rfl ?_
    rw[HX2.out]
    exact dI (t:=⟨115,[61,61],n,0⟩) hlz hkk.out hB1.out (by simp) _ _ _
end
section
set_option maxRecDepth 100000
set_option maxHeartbeats 1000000
open Go.RowKit
theorem an.newAt(w:World)(A:Array Value)(t:TypeId)(B:Nat)(hB:w.heap.size=B):an (w.alloc (.cells A t)) B A:=hB▸an.new w A t
theorem gG.drew{w w1:World}{bw:Nat}{s:ByteArray}{t:aI}{v:Value}(h:gG w w1 bw s (.returned v) t):gG w w1.drew bw s (.returned v) t:=by
 obtain⟨hk,h|h⟩:=h
 ·exact⟨hk.drew,Or.inl ⟨h.1,h.2.1,h.2.2.below ((Below.refl _ _).drew)⟩⟩
 ·obtain⟨_,b,h,_⟩:=h
  cases h
theorem gG.thrown{w w1 w2:World}{bw:Nat}{s:ByteArray}{r:Ending}{t:aI}(hk:ae (ao bw) w w1)(h:gG w1 w2 bw s r t):gG w w2 bw s r t:=⟨hk.trans h.1,h.2⟩
theorem qt{w:World}{bw n:Nat}{s:ByteArray}(hB:an w bw #[.string s,.int .i64 n])(hs:s.size≤700)(hn:n≤s.size):
  Calls Tryz.prog 37 #[.pointer (some ⟨bw,0,none⟩)] w fun r w'=>gG w w' bw s r (el s.data.toList (dO s.data.toList n)):=by
 have hsk:=gR s.data.toList n (by rw[bJ];exact hn)
 rw[bJ]at hsk
 have HSK:Hid (dO s.data.toList n=n+bu it s.data.toList n):=rfl
 have HB:=aa hB
 have q0:w.cell? ⟨bw,0,none⟩=some (.string s):=hB.cell 0
 have q1:w.cell? ⟨bw,1,none⟩=some (.int .i64 n):=hB.cell 1
 have qf:=hB.fz
 have hlt:=hB.lt
 have hlz:bw≠w.heap.size:=by omega
 have HA:=aa (HB.out.alloc (.cells #[.int .i64 0,.string ⟨#[]⟩,.int .i64 0] 77))
 have HA1:=aa (HA.out.below ((Below.refl _ _).drew))
 clear hB
 generalize hm:bu it s.data.toList n=m at *
 replace hm:=aa hm
 generalize hk:dO s.data.toList n=k at *
 have hkm:n+m≤s.size:=by have:=HSK.out;omega
 have i5:=pG n m (by omega)
 go_enter Tryz.func37,Tryz.ntmps37
 go_upto_region 1 with fail
 go_cut []from 4 (fun wx=>Hid (an wx bw #[.string s,.int .i64 k]∧ae (ao bw) w wx∧an wx w.heap.size #[.int .i64 0,.string ⟨#[]⟩,.int .i64 0]))
 case first=>
  go_region_with (go_at_call 51;refine(zz (s:=s) (n:=n) it yB zH (HA1.out.cell 0) (HA1.out.cell 1) (by omega) hs).mono ?_;rintro e wq ⟨rfl,hq⟩;subst wq;rw[hm.out])
  all_goals
   go_wp2_with fail
   go_meet
   have hkv:((k:Nat):Int)=(n:Int)+m:=by have:=HSK.out;omega
   refine⟨?_,?_,?_⟩
   ·rw[hkv];exact((HB.out.set 1 _ (by simp)).alloc _).below ((Below.refl _ _).drew)
   ·exact(((ae.refl (ao bw) w).setCell (p:=⟨bw,1,none⟩) (Or.inl rfl) _).alloc _).drew
   ·exact(an.newAt _ _ _ _ (by simp[World.setCell])).below ((Below.refl _ _).drew)
 case rest=>
  rename World=>w1
  have HB1:=aa hcut.out.1
  have HK1:=aa hcut.out.2.1
  have HR0:=aa hcut.out.2.2
  clear hcut i5 q0 q1 qf
  have q0:w1.cell? ⟨bw,0,none⟩=some (.string s):=HB1.out.cell 0
  have q1:w1.cell? ⟨bw,1,none⟩=some (.int .i64 k):=HB1.out.cell 1
  have hlz2:w.heap.size≠bw:=by omega
  by_cases hend:k=s.size
  ·have hkb:((k:Int)==(s.size:Int))=true:=by rw[beq_iff_eq];omega
   have HX:Hid (el s.data.toList k=⟨36,[],k,0⟩):=by show _=_;unfold el;rw[List.getElem?_eq_none (by rw[bJ];omega)]
   have r0:=HR0.out.cell 0
   have r1:=HR0.out.cell 1
   have r2:=HR0.out.cell 2
   have rf:=HR0.out.fz
   replace hend:=aa hend
   go_wp2_with fail
   go_region
   go_wp2_with fail
   refine bodyPost_ret (v:=dM ⟨36,[],k,0⟩) (by simp[results,Tryz.results37,go_sem,r0,r1,r2,dM,ez]) rfl ?_
   rw[HX.out]
   have h:=dI (t:=⟨36,[],k,0⟩) hlz HK1.out HB1.out (by simp) (.int .i64 0) (.string ⟨#[]⟩) (.int .i64 k)
   exact h.drew
  ·have hkb:((k:Int)==(s.size:Int))=false:=by rw[beq_eq_false_iff_ne];omega
   have hks:k< s.size:=by omega
   have hc:=qI s k hks
   have HC:=aa hc
   have HK2:=aa (HK1.out.drew.drew)
   have HB2':=aa (HB1.out.below ((Below.refl _ _).drew.drew))
   have HR1:=aa (HR0.out.below ((Below.refl _ _).drew.drew))
   clear hend hc
   go_wp2_with fail
   go_region
   go_wp2_with fail
   go_region
   go_wp2_with fail
   refine(oT _ _).mono ?_
   rintro e wq ⟨rfl,hq⟩
   subst wq
   generalize hcc:s[k]=c at *
   replace hcc:=aa hcc
   cases hlet:kP c
   ·have HLET:=aa hlet
    clear hlet
    go_wp2_with fail
    refine(oU _ _).mono ?_
    rintro e wq ⟨rfl,hq⟩
    subst wq
    cases hdig:cJ c
    ·have HDIG:=aa hdig
     clear hdig
     go_wp2_with fail
     refine(tO HB2'.out hs HC.out HLET.out HDIG.out).mono ?_
     rintro e w2 hN
     have HN:=aa (hN.thrown HK2.out)
     obtain⟨hk2,⟨hx,rfl,hB2⟩|⟨hx,⟨b,rfl,hblk⟩⟩⟩:=hN
     ·have HX:=aa hx
      have HB2:=aa hB2
      have HK3:=aa (HK2.out.trans hk2)
      have HR2:=aa (HR1.out.only hk2 hlz2)
      have r0:=HR2.out.cell 0
      have r1:=HR2.out.cell 1
      have r2:=HR2.out.cell 2
      have rf:=HR2.out.fz
      clear hk2 hx hB2 HN
      generalize hlx:el s.data.toList k=t at *
      replace hlx:=aa hlx
      unfold dM
      go_wp2_with fail
      refine bodyPost_ret (v:=dM t) (by simp[results,Tryz.results37,go_sem,r0,r1,r2,dM]) rfl ?_
      rw[hlx.out]
      exact dI hlz HK3.out HB2.out HX.out _ _ _
     ·clear hk2 hx hblk
      go_wp2_with fail
      exact⟨rfl,HN.out⟩
    ·have HDIG:=aa hdig
     clear hdig
     go_wp2_with fail
     refine(rP HB2'.out hs HC.out HDIG.out).mono ?_
     rintro e w2 hN
     have HN:=aa (hN.thrown HK2.out)
     obtain⟨hk2,⟨hx,rfl,hB2⟩|⟨hx,⟨b,rfl,hblk⟩⟩⟩:=hN
     ·have HX:=aa hx
      have HB2:=aa hB2
      have HK3:=aa (HK2.out.trans hk2)
      have HR2:=aa (HR1.out.only hk2 hlz2)
      have r0:=HR2.out.cell 0
      have r1:=HR2.out.cell 1
      have r2:=HR2.out.cell 2
      have rf:=HR2.out.fz
      clear hk2 hx hB2 HN
      generalize hlx:el s.data.toList k=t at *
      replace hlx:=aa hlx
      unfold dM
      go_wp2_with fail
      refine bodyPost_ret (v:=dM t) (by simp[results,Tryz.results37,go_sem,r0,r1,r2,dM]) rfl ?_
      rw[hlx.out]
      exact dI hlz HK3.out HB2.out HX.out _ _ _
     ·clear hk2 hx hblk
      go_wp2_with fail
      exact⟨rfl,HN.out⟩
   ·have HLET:=aa hlet
    clear hlet
    go_wp2_with fail
    refine(vR HB2'.out hs HC.out HLET.out).mono ?_
    rintro e w2 hN
    have HN:=aa (hN.thrown HK2.out)
    obtain⟨hk2,⟨hx,rfl,hB2⟩|⟨hx,⟨b,rfl,hblk⟩⟩⟩:=hN
    ·have HX:=aa hx
     have HB2:=aa hB2
     have HK3:=aa (HK2.out.trans hk2)
     have HR2:=aa (HR1.out.only hk2 hlz2)
     have r0:=HR2.out.cell 0
     have r1:=HR2.out.cell 1
     have r2:=HR2.out.cell 2
     have rf:=HR2.out.fz
     clear hk2 hx hB2 HN
     generalize hlx:el s.data.toList k=t at *
     replace hlx:=aa hlx
     unfold dM
     go_wp2_with fail
     refine bodyPost_ret (v:=dM t) (by simp[results,Tryz.results37,go_sem,r0,r1,r2,dM]) rfl ?_
     rw[hlx.out]
     exact dI hlz HK3.out HB2.out HX.out _ _ _
    ·clear hk2 hx hblk
     go_wp2_with fail
     exact⟨rfl,HN.out⟩
end
section
set_option maxRecDepth 100000
set_option maxHeartbeats 1000000
open Go.RowKit
theorem un(l:aj)(i:Nat):(el l i).k=36∨(el l i).k=97∨(el l i).k=107∨(el l i).k=110∨(el l i).k=115∨(el l i).k=120:=by
 unfold el
 split
 ·simp
 ·repeat' split
  all_goals simp
theorem V.go1_step{l:aj}{ts:List aI}{v:V}(hT:eG l ts)(hi:v.i< ts.length)(hok:v.ok=true)(hf:de (v.here ts)=false):
  (v.go1 ts).i< ts.length∧(v.go1 ts).here ts=tr l (v.here ts)∧(((tr l (v.here ts)).k≠120∧(v.go1 ts).ok=true)∨((tr l (v.here ts)).k=120∧(v.go1 ts).ok=false∧(v.go1 ts).e=(tr l (v.here ts)).e∧(v.go1 ts).a=(tr l (v.here ts)).at_)):=by
 have hg:ts[v.i]?=some (v.here ts):=by unfold V.here;rw[List.getElem?_eq_getElem hi];rfl
 have hn:=hT.next _ _ hg hf
 have hlt:=(List.getElem?_eq_some_iff.1 hn).1
 have hon:=V.on_next hT hi hok hf
 have hh:(v.on ts).here ts=tr l (v.here ts):=by rw[hon];unfold V.here;rw[hn];rfl
 have hh2:(v.go1 ts).here ts=tr l (v.here ts):=by rw[←hh];unfold V.here;rw[V.go1_i]
 have he:v.e=0:=by simpa[V.ok]using hok
 refine⟨V.go1_lt hi,hh2,?_⟩
 by_cases h:(tr l (v.here ts)).k=120
 ·refine Or.inr ⟨h,?_⟩
  have e0:=tB l _ h
  unfold V.go1
  rw[hh,if_pos h,hon]
  unfold V.flt
  rw[if_pos (by exact he)]
  exact⟨by simp only[V.ok];exact beq_eq_false_iff_ne.2 e0,rfl,rfl⟩
 ·refine Or.inl ⟨h,?_⟩
  unfold V.go1
  rw[hh,if_neg h,hon]
  exact hok
structure RV(w:World)(br bw:Nat)(s:ByteArray)(ts:List aI)(v:V)(dep:Nat):Prop where
 rb:an w br #[.pointer (some ⟨bw,0,none⟩),.int .i64 (ez (v.here ts).k),.string ⟨(v.here ts).text.toArray⟩,.int .i64 (v.here ts).at_,.int .i64 dep]
 wb:an w bw #[.string s,.int .i64 ((v.here ts).at_+(v.here ts).text.length:Nat)]
 ne:br≠bw
 ok:v.ok=true
 lt:v.i< ts.length
 x:(v.here ts).k≠120
 tk:eG s.data.toList ts
 sz:s.size≤700
theorem RV.kept{S:Nat→Prop}{w w':World}{br bw:Nat}{s:ByteArray}{ts:List aI}{v:V}{dep:Nat}(h:RV w br bw s ts v dep)(k:ae S w w')(h1:¬S br)(h2:¬S bw):RV w' br bw s ts v dep:=
 ⟨h.rb.kept k h1,h.wb.kept k h2,h.ne,h.ok,h.lt,h.x,h.tk,h.sz⟩
theorem RV.below{w w':World}{br bw:Nat}{s:ByteArray}{ts:List aI}{v:V}{dep:Nat}(h:RV w br bw s ts v dep)(k:Below w.heap.size w w'):RV w' br bw s ts v dep:=
 h.kept (S:=fun _=>False) (ae.of_below k) (fun x=>x) (fun x=>x)
theorem RV.kinds{w:World}{br bw:Nat}{s:ByteArray}{ts:List aI}{v:V}{dep:Nat}(h:RV w br bw s ts v dep):(v.here ts).k=36∨(v.here ts).k=97∨(v.here ts).k=107∨(v.here ts).k=110∨(v.here ts).k=115:=by
 obtain⟨i,_,e⟩:=V.here_lex h.tk h.lt
 have:=un s.data.toList i
 have hx:=h.x
 rw[e]at hx⊢
 omega
theorem RV.end_le{w:World}{br bw:Nat}{s:ByteArray}{ts:List aI}{v:V}{dep:Nat}(h:RV w br bw s ts v dep):(v.here ts).at_+(v.here ts).text.length≤s.size:=by
 obtain⟨i,hi,e⟩:=V.here_lex h.tk h.lt
 rw[e,pe]
 cases hf:de (el s.data.toList i)
 ·exact(jW s.data.toList i hi hf).2
 ·rw[kG _ _ hf];simpa using hi
def ig(w w':World)(br bw:Nat)(s:ByteArray)(ts:List aI)(v:V)(dep:Nat)(r:Ending)(R:Ending→World→Prop):Prop:=
 ae (eZ br bw) w w'∧((v.ok=true∧RV w' br bw s ts v dep∧R r w')∨(v.ok=false∧cc w' r v.e v.a))
abbrev qV:Ending→World→Prop:=fun r _=>r=.returned (.tuple #[])
theorem nZ{w:World}{br bw:Nat}{s:ByteArray}{ts:List aI}{v:V}{dep:Nat}(h:RV w br bw s ts v dep)(hf:de (v.here ts)=false):
  Calls Tryz.prog 26 #[.pointer (some ⟨br,0,none⟩)] w fun r w'=>ig w w' br bw s ts (v.go1 ts) dep r qV:=by
 have HV:=aa h
 have HG:=aa (V.go1_step h.tk h.lt h.ok hf)
 have c0:=h.rb.cell 0
 have hel:=h.end_le
 have HNX:Hid (tr s.data.toList (v.here ts)=el s.data.toList (dO s.data.toList ((v.here ts).at_+(v.here ts).text.length))):=rfl
 have hne:=h.ne
 clear h hf
 go_enter Tryz.func26,Tryz.ntmps26
 go_wp2_with fail
 refine(qt HV.out.wb HV.out.sz hel).mono ?_
 rintro e w1 ⟨hk1,⟨hx,rfl,hB1⟩|⟨hx,⟨b,rfl,hblk⟩⟩⟩
 ·rw[←HNX.out]at hx hB1⊢
  obtain⟨g1,g2,g3|g3⟩:=HG.out
  ·have HX:=aa hx
   have HB1:=aa hB1
   have HK1:=aa hk1
   have HRB:=aa (HV.out.rb.only hk1 hne)
   have r0:=HRB.out.cell 0
   have r1:=HRB.out.cell 1
   have r2:=HRB.out.cell 2
   have r3:=HRB.out.cell 3
   have rf:=HRB.out.fz
   have G1:=aa g1
   have G2:=aa g2
   have G3:=aa g3.2
   clear g1 g2 g3 hx hB1 hk1
   generalize tr s.data.toList (v.here ts)=t at *
   unfold dM
   go_wp2_with fail
   go_end0
   refine⟨?_,Or.inl ⟨G3.out,⟨?_,?_,hne,G3.out,G1.out,by rw[G2.out];exact HX.out,HV.out.tk,HV.out.sz⟩,rfl⟩⟩
   ·exact((((ae.of_below (S:=eZ br bw) (Below.refl _ _)).trans (HK1.out.mono (fun _ e=>Or.inr e))).setCell (p:=⟨br,1,none⟩) (Or.inl (Or.inl rfl)) _).setCell (p:=⟨br,2,none⟩) (Or.inl (Or.inl rfl)) _).setCell (p:=⟨br,3,none⟩) (Or.inl (Or.inl rfl)) _
   ·have h:=((HRB.out.set 1 (.int .i64 (ez t.k)) (by simp)).set 2 (.string ⟨t.text.toArray⟩) (by simp)).set 3 (.int .i64 t.at_) (by simp)
    rw[G2.out]
    exact h
   ·rw[G2.out]
    exact((HB1.out.setO _ 1 _ (Ne.symm hne)).setO _ 2 _ (Ne.symm hne)).setO _ 3 _ (Ne.symm hne)
  ·exact absurd g3.1 hx
 ·rw[←HNX.out]at hx hblk
  obtain⟨g1,g2,g3|g3⟩:=HG.out
  ·exact absurd hx g3.1
  ·have HK1:=aa hk1
   have HBL:=aa hblk
   have G3:=aa g3.2
   clear g1 g2 g3 hx hblk hk1
   go_wp2_with fail
   refine⟨rfl,HK1.out.mono (fun _ e=>Or.inr e),Or.inr ⟨G3.out.1,b,rfl,?_⟩⟩
   rw[G3.out.2.1,G3.out.2.2]
   exact HBL.out
end
section
set_option maxRecDepth 100000
set_option maxHeartbeats 1000000
open Go.RowKit
section
variable {w:World} {br bw:Nat} {s:ByteArray} {ts:List aI} {v:V} {dep:Nat}
theorem V.must_yes{t:aj}(h:v.at ts t=true):v.must ts t=v.go1 ts:=by unfold V.must;rw[if_pos h]
theorem V.flt_yes(h:v.ok=true)(e a:Nat)(he:e≠0):(v.flt e a).ok=false∧(v.flt e a).e=e∧(v.flt e a).a=a:=by
 have h0:v.e=0:=by simpa[V.ok]using h
 unfold V.flt
 rw[if_pos h0]
 exact⟨by simpa[V.ok]using he,rfl,rfl⟩
theorem V.must_not{t:aj}(hok:v.ok=true)(h:v.at ts t=false):v.must ts t=v.flt 5 (v.here ts).at_:=by
 unfold V.must
 rw[if_neg (by simp[h]),V.go1_no (V.flt_yes hok 5 _ (by decide)).1]
theorem V.named_yes{num:Bool}(h:v.bad ts num=false):v.named ts num=v.go1 ts:=by unfold V.named;rw[if_neg (by simp[h])]
theorem V.named_not{num:Bool}(hok:v.ok=true)(h:v.bad ts num=true):v.named ts num=v.flt 5 (v.here ts).at_:=by
 unfold V.named
 rw[if_pos h,V.go1_no (V.flt_yes hok 5 _ (by decide)).1]
theorem RV.fixed(h:RV w br bw s ts v dep):((ez (v.here ts).k:Int)==3)=((v.here ts).k==115||(v.here ts).k==107):=by
 rcases h.kinds with e|e|e|e|e<;>rw[e]<;>rfl
theorem pE(h:RV w br bw s ts v dep)(t:ByteArray):
  Calls Tryz.prog 58 #[.pointer (some ⟨br,0,none⟩),.string t] w fun r w'=>r=.returned (.bool (v.at ts t.data.toList))∧w'=w:=by
 have c1:=h.rb.cell 1
 have c1':w.cell? ⟨br,1+0,none⟩=some (.int .i64 (ez (v.here ts).k)):=h.rb.cell 1
 have c2:=h.rb.cell 2
 have c2':w.cell? ⟨br,1+1,none⟩=some (.string ⟨(v.here ts).text.toArray⟩):=h.rb.cell 2
 have hfx:=h.fixed
 cases hb:((v.here ts).k==115||(v.here ts).k==107)
 ·have HR:Hid (v.at ts t.data.toList=false):=by show _=_;unfold V.at;rw[hb];rfl
  rw[hb]at hfx
  clear h hb
  go_enter Tryz.func58,Tryz.ntmps58
  go_wp2_with fail
  go_ret
  exact⟨by rw[HR.out];rfl,rfl⟩
 ·have HR:Hid (v.at ts t.data.toList=((v.here ts).text==t.data.toList)):=by show _=_;unfold V.at;rw[hb];rfl
  rw[hb]at hfx
  clear h hb
  go_enter Tryz.func58,Tryz.ntmps58
  go_wp2_with fail
  go_ret
  exact⟨by rw[HR.out,←ByteArray.toList_eq];rfl,rfl⟩
theorem bU(h:RV w br bw s ts v dep)(t:ByteArray)(hat:v.at ts t.data.toList=false):
  Calls Tryz.prog 38 #[.pointer (some ⟨br,0,none⟩),.string t] w fun r w'=>r=.returned (.bool false)∧w'=w:=by
 have HV:=aa h
 have HAT:=aa hat
 clear h hat
 go_enter Tryz.func38,Tryz.ntmps38
 go_wp2_with fail
 refine(pE HV.out t).mono ?_
 rintro e wq ⟨rfl,hq⟩
 subst wq
 rw[HAT.out]
 go_wp2_with fail
 go_ret
 exact⟨rfl,rfl⟩
theorem aZ(h:RV w br bw s ts v dep)(t:ByteArray)(hat:v.at ts t.data.toList=true):
  Calls Tryz.prog 38 #[.pointer (some ⟨br,0,none⟩),.string t] w fun r w'=>ig w w' br bw s ts (v.go1 ts) dep r (fun r _=>r=.returned (.bool true)):=by
 have HV:=aa h
 have HAT:=aa hat
 clear h hat
 go_enter Tryz.func38,Tryz.ntmps38
 go_wp2_with fail
 refine(pE HV.out t).mono ?_
 rintro e wq ⟨rfl,hq⟩
 subst wq
 rw[HAT.out]
 go_wp2_with fail
 refine(nZ HV.out (V.at_open HAT.out)).mono ?_
 rintro e w1 ⟨hk,⟨h1,h2,rfl⟩|⟨h1,b,rfl,h2⟩⟩
 ·have HO:Hid (ig w w1 br bw s ts (v.go1 ts) dep (.returned (.bool true)) (fun r _=>r=.returned (.bool true))):=⟨hk,Or.inl ⟨h1,h2,rfl⟩⟩
  clear hk h1 h2
  go_wp2_with fail
  go_ret
  exact HO.out
 ·have HO:Hid (ig w w1 br bw s ts (v.go1 ts) dep (cY b) (fun r _=>r=.returned (.bool true))):=⟨hk,Or.inr ⟨h1,b,rfl,h2⟩⟩
  clear hk h1 h2
  go_wp2_with fail
  exact⟨rfl,HO.out⟩
theorem lH(h:RV w br bw s ts v dep):
  Calls Tryz.prog 39 #[.pointer (some ⟨br,0,none⟩)] w fun r w'=>cc w' r 5 (v.here ts).at_∧Below w.heap.size w w':=by
 have c3:=h.rb.cell 3
 have c3':w.cell? ⟨br,1+2,none⟩=some (.int .i64 (v.here ts).at_):=h.rb.cell 3
 clear h
 go_enter Tryz.func39,Tryz.ntmps39
 go_wp2_with fail
 refine(bo 5 (v.here ts).at_ w).mono ?_
 rintro e w1 ⟨⟨b,rfl,h1⟩,h2⟩
 have HO:Hid (cc w1 (cY b) 5 (v.here ts).at_∧Below w.heap.size w w1):=⟨⟨b,rfl,h1⟩,h2⟩
 clear h1 h2
 go_wp2_with fail
 exact⟨rfl,HO.out⟩
theorem fk(h:RV w br bw s ts v dep)(t:ByteArray):
  Calls Tryz.prog 41 #[.pointer (some ⟨br,0,none⟩),.string t] w fun r w'=>ig w w' br bw s ts (v.must ts t.data.toList) dep r qV:=by
 have HV:=aa h
 cases hat:v.at ts t.data.toList
 ·have HM:=aa (V.must_not h.ok hat)
  have HF:=aa (V.flt_yes h.ok 5 (v.here ts).at_ (by decide))
  have HAT:=aa hat
  clear h hat
  go_enter Tryz.func41,Tryz.ntmps41
  go_wp2_with fail
  refine(bU HV.out t HAT.out).mono ?_
  rintro e wq ⟨rfl,hq⟩
  subst wq
  go_wp2_with fail
  refine(lH HV.out).mono ?_
  rintro e w1 ⟨⟨b,rfl,h1⟩,h2⟩
  replace h1:=aa h1
  replace h2:=aa h2
  go_wp2_with fail
  refine⟨rfl,ae.of_below h2.out,Or.inr ?_⟩
  rw[HM.out]
  exact⟨HF.out.1,b,rfl,by rw[HF.out.2.1,HF.out.2.2];exact h1.out⟩
 ·have HM:=aa (V.must_yes hat)
  have HAT:=aa hat
  clear h hat
  go_enter Tryz.func41,Tryz.ntmps41
  go_wp2_with fail
  refine(aZ HV.out t HAT.out).mono ?_
  rintro e w1 ⟨hk,⟨h1,h2,rfl⟩|⟨h1,b,rfl,h2⟩⟩
  ·have HO:Hid (ig w w1 br bw s ts (v.go1 ts) dep (.returned (.tuple #[])) qV):=⟨hk,Or.inl ⟨h1,h2,rfl⟩⟩
   clear hk h1 h2
   go_wp2_with fail
   first|go_end0|refine bodyPost_ret (results_none rfl _ _ _) rfl ?_
   rw[HM.out]
   exact HO.out
  ·have HO:Hid (ig w w1 br bw s ts (v.go1 ts) dep (cY b) qV):=⟨hk,Or.inr ⟨h1,b,rfl,h2⟩⟩
   clear hk h1 h2
   go_wp2_with fail
   rw[HM.out]
   exact⟨rfl,HO.out⟩
end
end
section
set_option maxRecDepth 100000
set_option maxHeartbeats 1000000
open Go.RowKit
def eW(t:aI):Value:=.agg #[.string ⟨t.text.toArray⟩,.int .i64 t.at_,.int .i64 0]
section
variable {w:World} {br bw:Nat} {s:ByteArray} {ts:List aI} {v:V} {dep:Nat}
theorem RV.isName(h:RV w br bw s ts v dep):((ez (v.here ts).k:Int)!=1)=((v.here ts).k !=97):=by
 rcases h.kinds with e|e|e|e|e<;>rw[e]<;>rfl
theorem RV.isNum(h:RV w br bw s ts v dep):((ez (v.here ts).k:Int)!=2)=((v.here ts).k !=110):=by
 rcases h.kinds with e|e|e|e|e<;>rw[e]<;>rfl
theorem ig.mono{w w':World}{v:V}{r:Ending}{R R':Ending→World→Prop}(h:ig w w' br bw s ts v dep r R)(hr:∀r w,R r w→R' r w):ig w w' br bw s ts v dep r R':=
 ⟨h.1,h.2.imp (fun x=>⟨x.1,x.2.1,hr _ _ x.2.2⟩) (fun x=>x)⟩
theorem gU(h:RV w br bw s ts v dep):
  Calls Tryz.prog 40 #[.pointer (some ⟨br,0,none⟩)] w fun r w'=>ig w w' br bw s ts (v.named ts false) dep r (fun r _=>r=.returned (eW (v.here ts))):=by
 have HV:=aa h
 have c1:=h.rb.cell 1
 have c1':w.cell? ⟨br,1+0,none⟩=some (.int .i64 (ez (v.here ts).k)):=h.rb.cell 1
 have c2:=h.rb.cell 2
 have c2':w.cell? ⟨br,1+1,none⟩=some (.string ⟨(v.here ts).text.toArray⟩):=h.rb.cell 2
 have c3:=h.rb.cell 3
 have c3':w.cell? ⟨br,1+2,none⟩=some (.int .i64 (v.here ts).at_):=h.rb.cell 3
 have hlt:=h.rb.lt
 have hlw:=h.wb.lt
 have hlz:br≠w.heap.size:=by omega
 have hlz2:w.heap.size≠br:=by omega
 have hbad:v.bad ts false=((v.here ts).k !=97):=by unfold V.bad;simp
 have hnm:=h.isName
 have HA:=aa (h.below ((Below.refl _ _).alloc (Nat.le_refl _) (.cells #[.string ⟨#[]⟩,.int .i64 0,.int .i64 0] 96)))
 cases hk:((v.here ts).k !=97)
 ·rw[hk]at hnm hbad
  have HM:=aa (V.named_yes (num:=false) hbad)
  have hop:de (v.here ts)=false:=by
    have:(v.here ts).k=97:=by simpa using hk
    unfold de;rw[this];rfl
  have HOP:=aa hop
  clear h hbad hk hop
  go_enter Tryz.func40,Tryz.ntmps40
  go_wp2_with fail
  go_region
  go_wp2_with fail
  refine(nZ (HV.out.below (((Below.refl _ _).alloc (Nat.le_refl _) (.cells #[.string ⟨#[]⟩,.int .i64 0,.int .i64 0] 96)).alloc (by simp) (.cells #[.string ⟨(v.here ts).text.toArray⟩,.int .i64 (v.here ts).at_,.int .i64 0] 96)).drew) HOP.out).mono ?_
  rintro e w1 ⟨hk,⟨h1,h2,rfl⟩|⟨h1,b,rfl,h2⟩⟩
  ·have hzz:=hk.size
   have hz1:w.heap.size< w1.heap.size:=by simp at hzz;omega
   have hz2:w.heap.size+1< w1.heap.size:=by simp at hzz;omega
   have ha:¬eZ br bw w.heap.size:=fun e=>by unfold eZ at e;omega
   have hb:¬eZ br bw (w.heap.size+1):=fun e=>by unfold eZ at e;omega
   have HR:=aa (((an.new w #[.string ⟨#[]⟩,.int .i64 0,.int .i64 0] 96).below (((Below.refl _ _).alloc (Nat.le_refl _) (.cells #[.string ⟨(v.here ts).text.toArray⟩,.int .i64 (v.here ts).at_,.int .i64 0] 96)).drew)).kept hk ha)
   have HN:=aa (((an.new' (w.alloc (.cells #[.string ⟨#[]⟩,.int .i64 0,.int .i64 0] 96)) #[.string ⟨(v.here ts).text.toArray⟩,.int .i64 (v.here ts).at_,.int .i64 0] 96 (w.heap.size+1) (by simp)).below ((Below.refl _ _).drew)).kept hk hb)
   have r0:=HR.out.cell 0
   have r1:=HR.out.cell 1
   have r2:=HR.out.cell 2
   have rf:=HR.out.fz
   have n0:=HN.out.cell 0
   have n1:=HN.out.cell 1
   have n2:=HN.out.cell 2
   have HK:=aa hk
   have H1:=aa h1
   have H2:=aa h2
   clear hk h1 h2 hzz c1 c1' c2 c2' c3 c3'
   go_wp2_with fail
   have hk2:ae (eZ br bw) w w1:=((((ae.refl (eZ br bw) w).alloc _).alloc _).drew).trans HK.out
   refine bodyPost_ret (v:=eW (v.here ts)) (by simp[results,Tryz.results40,go_sem,r0,r1,r2,eW]) rfl ?_
   rw[HM.out]
   have hk3:=((ae.refl (fun k=>k=w.heap.size) w1).setCell (p:=⟨w.heap.size,0,none⟩) (Or.inl rfl) (.string ⟨(v.here ts).text.toArray⟩)).setCell (p:=⟨w.heap.size,1,none⟩) (Or.inl rfl) (.int .i64 (v.here ts).at_) |>.setCell (p:=⟨w.heap.size,2,none⟩) (Or.inl rfl) (.int .i64 0)
   exact⟨((hk2.setCell (p:=⟨w.heap.size,0,none⟩) (Or.inr (Nat.le_refl _)) _).setCell (p:=⟨w.heap.size,1,none⟩) (Or.inr (Nat.le_refl _)) _).setCell (p:=⟨w.heap.size,2,none⟩) (Or.inr (Nat.le_refl _)) _,Or.inl ⟨H1.out,H2.out.kept hk3 (fun e=>hlz e) (fun e=>by have:bw=w.heap.size:=e;omega),rfl⟩⟩
  ·have hk2:ae (eZ br bw) w w1:=((((ae.refl (eZ br bw) w).alloc _).alloc _).drew).trans hk
   have HO:Hid (ig w w1 br bw s ts (v.go1 ts) dep (cY b) (fun r _=>r=.returned (eW (v.here ts)))):=⟨hk2,Or.inr ⟨h1,b,rfl,h2⟩⟩
   clear hk hk2 h1 h2
   go_wp2_with fail
   rw[HM.out]
   exact⟨rfl,HO.out⟩
 ·rw[hk]at hnm hbad
  have HM:=aa (V.named_not (num:=false) h.ok hbad)
  have HF:=aa (V.flt_yes h.ok 5 (v.here ts).at_ (by decide))
  clear h hbad hk
  go_enter Tryz.func40,Tryz.ntmps40
  go_wp2_with fail
  refine(lH HA.out).mono ?_
  rintro e w1 ⟨⟨b,rfl,h1⟩,h2⟩
  replace h1:=aa h1
  replace h2:=aa h2
  go_wp2_with fail
  refine⟨rfl,((ae.refl _ _).alloc _).below h2.out,Or.inr ?_⟩
  rw[HM.out]
  exact⟨HF.out.1,b,rfl,by rw[HF.out.2.1,HF.out.2.2];exact h1.out⟩
end
end
section
set_option maxRecDepth 100000
set_option maxHeartbeats 1000000
open Go.RowKit
def vO(l:aj):Nat:=(Lib.decFrom 0 l).getD 0
def ki(t:aI):aj:=if t.k=110 then[]else t.text
def yH(t:aI):Nat:=if t.k=110 then 0 else t.at_
def pq(t:aI):Nat:=if t.k=110 then vO t.text else 0
def ef(t:aI):Value:=.agg #[.string ⟨(ki t).toArray⟩,.int .i64 (yH t),.int .i64 0,.int .i64 (pq t)]
theorem qR(l:aj)(h:∀c,c∈l→cJ c=true):∀acc,∃n,Lib.decFrom acc l=some n:=by
 induction l with
 |nil=>intro acc;exact⟨acc,rfl⟩
 |cons b l ih=>
  intro acc
  have hb:=h b (by simp)
  unfold cJ at hb
  simp at hb
  have:Lib.digitVal b=some (b.toNat-48):=by unfold Lib.digitVal;rw[if_pos hb]
  rw[Lib.decFrom,this]
  exact ih (fun c hc=>h c (by simp[hc])) _
theorem wL(l:aj)(h:∀c,c∈l→cJ c=true)(h1:1≤l.length):Lib.atoi l=some ((vO l:Nat):Int):=by
 rcases l with _|⟨b,r⟩
 ·simp at h1
 ·obtain⟨n,hn⟩:=qR (b::r) h 0
  have hb:=h b (by simp)
  unfold cJ at hb
  simp at hb
  have e1:(b==45)=false:=by rw[beq_eq_false_iff_ne];rintro rfl;revert hb;decide
  have e2:(b==43)=false:=by rw[beq_eq_false_iff_ne];rintro rfl;revert hb;decide
  simp only[Lib.atoi,e1,e2]
  simp[Lib.decNat,hn,vO]
theorem xZ(l:aj)(i:Nat)(h:(el l i).k=110):(∀c,c∈(el l i).text→cJ c=true)∧1≤(el l i).text.length∧(el l i).text.length≤6:=by
 unfold el at h⊢
 cases hg:l[i]? with
 |none=>rw[hg]at h;simp at h
 |some c=>
  rw[hg]at h
  simp only at h⊢
  by_cases h1:cJ c=true
  ·by_cases h2:6< bu cJ l i
   ·simp[h1,h2]at h
   ·simp only[h1,h2,if_true,if_false]
    obtain⟨hlt,_⟩:=List.getElem?_eq_some_iff.1 hg
    have hr1:=gS cJ l i (by omega)
    have hp:=je cJ l i c hg h1
    rw[eK _ _ _ hr1]
    exact⟨oH l i,hp,by omega⟩
  ·exfalso
   simp only[h1]at h
   by_cases h3:dG c=true
   ·by_cases h2:6< bu dG l i
    ·simp[h2,h3]at h
    ·by_cases h4:iz (sub l i (bu dG l i))=true
     ·simp[h2,h3,h4]at h
     ·simp[h2,h3,h4]at h
   ·by_cases h5:fH c=true
    ·by_cases h6:(sub l i 2==[61,61])=true
     ·simp[h3,h5,h6]at h
     ·simp[h3,h5,h6]at h
    ·simp[h3,h5]at h
section
variable {w:World} {br bw:Nat} {s:ByteArray} {ts:List aI} {v:V} {dep:Nat}
theorem ig.ret{w w1 w2:World}{v:V}{r:Ending}{R:Ending→World→Prop}{b:Nat}(hk:ae (eZ br bw) w w1)(h1:v.ok=true)(h2:RV w1 br bw s ts v dep)(k3:ae (ao b) w1 w2)(hb:w.heap.size≤b)(h3:br< w.heap.size)(h4:bw< w.heap.size)(hR:R r w2):ig w w2 br bw s ts v dep r R:=
 ⟨hk.trans' k3 (fun i e=>Or.inr (by have:i=b:=e;omega)),Or.inl ⟨h1,h2.kept k3 (fun e=>by have:br=b:=e;omega) (fun e=>by have:bw=b:=e;omega),hR⟩⟩
theorem iO(h:RV w br bw s ts v dep):
  Calls Tryz.prog 126 #[.pointer (some ⟨br,0,none⟩)] w fun r w'=>ig w w' br bw s ts (v.named ts true) dep r (fun r _=>r=.returned (ef (v.here ts))):=by
 have HV:=aa h
 have c1:=h.rb.cell 1
 have c1':w.cell? ⟨br,1+0,none⟩=some (.int .i64 (ez (v.here ts).k)):=h.rb.cell 1
 have c2:=h.rb.cell 2
 have c2':w.cell? ⟨br,1+1,none⟩=some (.string ⟨(v.here ts).text.toArray⟩):=h.rb.cell 2
 have hlt:=h.rb.lt
 have hlw:=h.wb.lt
 have hlz:br≠w.heap.size:=by omega
 have hlz2:w.heap.size≠br:=by omega
 have hnm:=h.isNum
 have HA:=aa (h.below ((Below.refl _ _).alloc (Nat.le_refl _) (.cells #[.string ⟨#[]⟩,.int .i64 0,.int .i64 0,.int .i64 0] 193)))
 cases hk:((v.here ts).k !=110)
 ·rw[hk]at hnm
  have hk2:(v.here ts).k=110:=by simpa using hk
  have hbad:v.bad ts true=false:=by unfold V.bad;rw[hk2];rfl
  have HM:=aa (V.named_yes (num:=true) hbad)
  have hop:de (v.here ts)=false:=by unfold de;rw[hk2];rfl
  have HOP:=aa hop
  have HAV:Hid (ef (v.here ts)=.agg #[.string ⟨#[]⟩,.int .i64 0,.int .i64 0,.int .i64 (vO (v.here ts).text)]):=by show _=_;simp[ef,ki,yH,pq,hk2]
  have HNUM:Hid ((∀c,c∈(v.here ts).text→cJ c=true)∧1≤(v.here ts).text.length∧(v.here ts).text.length≤6):=by
   obtain⟨i,_,e⟩:=V.here_lex h.tk h.lt
   have hk3:=hk2
   rw[e]at hk3
   show _∧_
   rw[e]
   exact xZ _ _ hk3
  clear h hbad hk hop hk2
  go_enter Tryz.func126,Tryz.ntmps126
  go_wp2_with fail
  refine(Tryz.strconv_Atoi _ ((vO (v.here ts).text:Nat):Int) (by show(v.here ts).text.length≤18;have:=HNUM.out;omega) (wL _ HNUM.out.1 HNUM.out.2.1) _).mono ?_
  rintro e w0 ⟨rfl,tt,hw0⟩
  have hb0:Below (w.heap.size+1) (w.alloc (.cells #[.string ⟨#[]⟩,.int .i64 0,.int .i64 0,.int .i64 0] 193)) w0:=by rw[hw0];exact Go.Joins.below_bytesWorld _ _ _ _ (by simp)
  have HA2:=aa (HA.out.below (by simpa using hb0))
  have HR0:=aa ((an.new w #[.string ⟨#[]⟩,.int .i64 0,.int .i64 0,.int .i64 0] 193).below (by simpa using hb0))
  have HK0:Hid (ae (eZ br bw) w w0):=((ae.refl (eZ br bw) w).alloc _).below (by simpa using hb0)
  have hz0:w.heap.size+1≤w0.heap.size:=by have:=hb0.size;simpa using this
  clear hw0 hb0 c1 c1' c2 c2'
  go_wp2_with fail
  refine(nZ HA2.out HOP.out).mono ?_
  rintro e w1 ⟨hk,⟨h1,h2,rfl⟩|⟨h1,b,rfl,h2⟩⟩
  ·have hzz:=hk.size
   have hz1:w.heap.size< w1.heap.size:=by omega
   have ha:¬eZ br bw w.heap.size:=fun e=>by unfold eZ at e;omega
   have HR:=aa (HR0.out.kept hk ha)
   have r0:=HR.out.cell 0
   have r1:=HR.out.cell 1
   have r2:=HR.out.cell 2
   have r3:=HR.out.cell 3
   have rf:=HR.out.fz
   have HK:=aa (HK0.out.trans hk)
   have H1:=aa h1
   have H2:=aa h2
   clear hk h1 h2 hzz
   go_wp2_with fail
   refine bodyPost_ret (v:=ef (v.here ts)) (by rw[HAV.out];simp[results,Tryz.results126,go_sem,r0,r1,r2,r3]) rfl ?_
   rw[HM.out]
   exact ig.ret HK.out H1.out H2.out (((((ae.refl (ao w.heap.size) w1).set1 0 _).set1 1 _).set1 2 _).set1 3 _) (Nat.le_refl _) hlt hlw rfl
  ·have HO:Hid (ig w w1 br bw s ts (v.go1 ts) dep (cY b) (fun r _=>r=.returned (ef (v.here ts)))):=⟨HK0.out.trans hk,Or.inr ⟨h1,b,rfl,h2⟩⟩
   clear hk h1 h2
   go_wp2_with fail
   rw[HM.out]
   exact⟨rfl,HO.out⟩
 ·rw[hk]at hnm
  have hk2:(v.here ts).k≠110:=by simpa using hk
  have HM:Hid (v.named ts true=v.named ts false):=by
    show _=_;unfold V.named V.bad;have:((v.here ts).k==110)=false:=by simpa using hk2
    simp[this]
  have HAV:Hid (ef (v.here ts)=.agg #[.string ⟨(v.here ts).text.toArray⟩,.int .i64 (v.here ts).at_,.int .i64 0,.int .i64 0]):=by show _=_;simp[ef,ki,yH,pq,hk2]
  clear h hk hk2
  go_enter Tryz.func126,Tryz.ntmps126
  go_wp2_with fail
  refine(gU HA.out).mono ?_
  rintro e w1 ⟨hk,⟨h1,h2,rfl⟩|⟨h1,b,rfl,h2⟩⟩
  ·have hzz:=hk.size
   have hz1:w.heap.size< w1.heap.size:=by simp at hzz;omega
   have ha:¬eZ br bw w.heap.size:=fun e=>by unfold eZ at e;omega
   have HR:=aa ((an.new w #[.string ⟨#[]⟩,.int .i64 0,.int .i64 0,.int .i64 0] 193).kept hk ha)
   have r0:=HR.out.cell 0
   have r1:=HR.out.cell 1
   have r2:=HR.out.cell 2
   have r3:=HR.out.cell 3
   have rf:=HR.out.fz
   have HK:=aa hk
   have H1:=aa h1
   have H2:=aa h2
   clear hk h1 h2 hzz c1 c1' c2 c2'
   unfold eW
   go_wp2_with fail
   refine bodyPost_ret (v:=ef (v.here ts)) (by rw[HAV.out];simp[results,Tryz.results126,go_sem,r0,r1,r2,r3,eW]) rfl ?_
   rw[HM.out]
   exact ig.ret (((ae.refl (eZ br bw) w).alloc _).trans HK.out) H1.out H2.out (((((ae.refl (ao w.heap.size) w1).set1 0 _).set1 1 _).set1 2 _).set1 3 _) (Nat.le_refl _) hlt hlw rfl
  ·have HO:Hid (ig w w1 br bw s ts (v.named ts false) dep (cY b) (fun r _=>r=.returned (ef (v.here ts)))):=⟨((ae.refl (eZ br bw) w).alloc _).trans hk,Or.inr ⟨h1,b,rfl,h2⟩⟩
   clear hk h1 h2
   go_wp2_with fail
   rw[HM.out]
   exact⟨rfl,HO.out⟩
end
end
end Go.Proofs.YtmdaflepdaiabaaGreatDoor
