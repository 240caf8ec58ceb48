import Derived.Deep.RegionWith
import Derived.Deep.Cut
import Derived.Lib.SmallJoins
import Derived.Deep.LoopGhost
import Derived.Test.YtajfbbldaiaolaaGreatDoorQ00
set_option linter.unusedSimpArgs false
set_option linter.unusedVariables false
set_option maxRecDepth 100000
set_option maxHeartbeats 2000000
namespace Go.Proofs.YtajfbbldaiaolaaGreatDoor
open Go.RowKit
variable {a b c d n:Nat}{u w:World}{v:Value}
abbrev ee(b:Nat):Ending:=.panicked [{v:=.iface 93 (.pointer (some ⟨b,0,none⟩)),recovered:=false}]
def dA(w:World)(r:Ending)(e a:Nat):Prop:=∃b,r=ee b/\aM w b #[.int .i64 e,.int .i64 a]
theorem cO(e a:Nat)(w:World):
  Calls Tryz.prog 55 #[aB e,aB a] w fun r w'=>dA w' r e a/\Bw w w':=by
 go_in
 go_wp2
 exact⟨rfl,⟨_,rfl,aM.new _ _ _⟩,ba _ _⟩
def fB:List aJ:=[[118,97,114],[109,117,116,101,120],[102,117,110,99],[108,111,99,107],[117,110,108,111,99,107],[106,111,105,110],[114,101,116,117,114,110],[105,102],[101,108,115,101],[119,104,105,108,101],[103,111],[110,101,119]]
def Gi(i n:Nat):Bool:=n==0||(sub oN i (n+2)).head? !=some 32||(sub oN i (n+2)).length !=n+2||(sub oN i (n+2)).getLast? !=some 32||decide ((32:UInt8)∈((sub oN i (n+2)).drop 1).take n)||decide (((sub oN i (n+2)).drop 1).take n∈fB)
theorem zJ:((List.range 62).all fun i=>(List.range 7).all fun n=>Gi i n)=true:=by decide
theorem As(i:Nat)(B:i< 62)(n:Nat)(A:n< 7)(H:1<=n)(F:(sub oN i (n+2)).head?=some 32)(E:(sub oN i (n+2)).length=n+2)(C:(sub oN i (n+2)).getLast?=some 32)(D:(32:UInt8)∉((sub oN i (n+2)).drop 1).take n):((sub oN i (n+2)).drop 1).take n∈fB:=by
 have:=List.all_eq_true.1 (List.all_eq_true.1 zJ i (List.mem_range.2 B)) n (List.mem_range.2 A)
 unfold Gi at this
 have G:(n==0)=false:=by rw[beq_eq_false_iff_ne];omega
 simp only[G,F,E,C,bne_self_eq_false,Bool.false_or,Bool.or_eq_true,decide_eq_true_eq]at this
 rcases this with h|h
 ·exact absurd h D
 ·exact h
theorem sd:∀t,t∈fB->jO t=true:=by decide
theorem xR(t:aJ)(E:t.length<=6)(D:1<=t.length)(B:(32:UInt8)∉t):jO t=decide (t∈fB):=by
 rw[Bool.eq_iff_iff,decide_eq_true_iff]
 constructor
 ·intro h
  unfold jO at h
  rw[List.any_eq_true]at h
  obtain⟨i,C,A⟩:=h
  simp only[Bool.and_eq_true,decide_eq_true_eq,beq_iff_eq]at A
  obtain⟨_,A⟩:=A
  have e:((sub oN i (t.length+2)).drop 1).take t.length=t:=by rw[A];simp
  have:=As i (List.mem_range.1 C) t.length (by omega) D (by rw[A];rfl) (by rw[A];simp) (by rw[A,<-List.cons_append,List.getLast?_append];rfl) (by rw[e];exact B)
  rw[e]at this
  exact this
 ·exact sd t
theorem Hp(c:UInt8)(w:World):
  Calls Tryz.prog 84 #[.int .u8 c.toNat] w (Ru w (.bool (jL c))):=by
 go_in
 go_wp2
 all_goals(go_ret;refine⟨?_,rfl⟩;refine congrArg (fun b=>Ending.returned (.bool b)) ?_;unfold jL;rw[Bool.eq_iff_iff];simp;try omega)
theorem sT(c:UInt8)(w:World):
  Calls Tryz.prog 85 #[.int .u8 c.toNat] w (Ru w (.bool (ou c))):=by
 go_in
 go_wp2
 all_goals(go_ret;refine⟨?_,rfl⟩;refine congrArg (fun b=>Ending.returned (.bool b)) ?_;unfold ou;rw[Bool.eq_iff_iff];simp;try omega)
theorem sU(c:UInt8)(w:World):
  Calls Tryz.prog 87 #[.int .u8 c.toNat] w (Ru w (.bool (dR c))):=by
 go_in
 go_wp2
 all_goals(go_ret;refine⟨?_,rfl⟩;refine congrArg (fun b=>Ending.returned (.bool b)) ?_;unfold dR;rw[Bool.eq_iff_iff];simp;try omega)
theorem MK(c:UInt8)(w:World):
  Calls Tryz.prog 122 #[.int .u8 c.toNat] w (Ru w (.bool (eQ c))):=by
 cases B:ou c
 ·cases C:dR c
  all_goals
   have A:Hid (eQ c=dR c):=by show _=_;unfold eQ;rw[B];rfl
   go_in
   go_wp2_with (first|(go_at_call 85;refine(sT _ _).mono ?_;rintro e w' ⟨rfl,rfl⟩)|(go_at_call 87;refine(sU _ _).mono ?_;rintro e w' ⟨rfl,rfl⟩))
   go_ret
   exact⟨by rw[A.out,C];rfl,rfl⟩
 ·have A:Hid (eQ c=true):=by show _=_;unfold eQ;rw[B];rfl
  go_in
  go_wp2_with (first|(go_at_call 85;refine(sT _ _).mono ?_;rintro e w' ⟨rfl,rfl⟩)|(go_at_call 87;refine(sU _ _).mono ?_;rintro e w' ⟨rfl,rfl⟩))
  go_ret
  exact⟨by rw[A.out];rfl,rfl⟩
theorem zw(t:ByteArray)(w:World):
  Calls Tryz.prog 124 #[.string t] w (Ru w (.bool (decide (t.data.toList∈fB)))):=by
 go_in
 go_wp2
 all_goals(go_ret;refine⟨?_,rfl⟩;refine congrArg (fun b=>Ending.returned (.bool b)) ?_;simp_all [fB,ByteArray.toList_eq])
theorem Hf{G:Nat}{s:ByteArray}(p:UInt8->Bool)(M:∀(args:Array Value) (w:World),(callFunc G args).run Tryz.prog w=.ok (.enter G args) w)(F:∀(c:UInt8) (w:World),Ca G #[.int .u8 c.toNat] w (Ru w (.bool (p c))))(Q:w.cell? (Ad a 0)=some (.string s))(P:w.cell? (Ad a 1)=some (aB n))(O:n<=s.size)(N:s.size<=700):
  Calls Tryz.prog 83 #[Pt a 0,.func (.func G) #[] #[]] w (Ru w (aB (cQ p s.data.toList n))):=by
 have H:=aG F
 clear F
 go_in
 go_wp2_with fail
 go_loop [5] (fun i=>∃k:Nat,n+k<=s.size/\i=aB (n+k:Nat)/\Hid (∀j,j< k->∀h:n+j< s.data.toList.length,p s.data.toList[n+j]=true)) (fun i=>s.size-(intOf i).toNat)
 case atStart=>exact⟨0,by omega,rfl,fun j L=>by omega⟩
 case round=>
  obtain⟨k,E,rfl,A⟩:=hrel
  by_cases C:n+k< s.size
  ·cases hp:p s[n+k]
   ·have D:Hid (cQ p s.data.toList n=k):=uF _ _ _ _ E A (fun h=>hp)
    go_wp2_with fail
    refine(H _ _).mono ?_
    rintro e B ⟨rfl,K⟩
    subst B
    go_wp2_with fail
    go_ret
    exact⟨by rw[D.out];go_num,rfl⟩
   ·have J:Hid (∀j,j< k+1->∀h:n+j< s.data.toList.length,p s.data.toList[n+j]=true):=by
     intro j L h
     by_cases e:j=k
     ·subst e;exact hp
     ·exact A j (by omega) h
    clear A
    go_wp2_with fail
    refine(H _ _).mono ?_
    rintro e B ⟨rfl,K⟩
    subst B
    go_wp2_with fail
    go_round
    case rel=>exact⟨k+1,by omega,by go_num,J⟩
    case measure=>simp[intOf];omega
  ·have D:Hid (cQ p s.data.toList n=k):=uF _ _ _ _ E A (fun h=>absurd h C)
   go_wp2_with fail
   go_ret
   exact⟨by rw[D.out];go_num,rfl⟩
theorem FA(args:Array Value)(w:World):(callFunc 84 args).run Tryz.prog w=.ok (.enter 84 args) w:=xL Tryz.func84 rfl (by kernel_rfl) args w
theorem Ft(args:Array Value)(w:World):(callFunc 87 args).run Tryz.prog w=.ok (.enter 87 args) w:=xL Tryz.func87 rfl (by kernel_rfl) args w
theorem LQ(args:Array Value)(w:World):(callFunc 122 args).run Tryz.prog w=.ok (.enter 122 args) w:=xL Tryz.func122 rfl (by kernel_rfl) args w
theorem uk(n m:Nat)(h:n+m<=1000000000000):IntKind.i64.wrap ((n:Int)+(m:Int))=((n+m:Nat):Int):=by
 rw[IntKind.wrap_i64]
 omega
theorem Ah(s:ByteArray)(w:World)(C:s.size<=100000):
  Calls Tryz.prog 188 #[.string s] w (Rt w (.string s)):=by
 go_in
 go_wp2_with fail
 refine(Tryz.stringslite_Clone s _ (by omega)).mono ?_
 rintro e B ⟨rfl,A⟩
 replace A:=aG A
 go_wp2_with fail
 go_ret
 exact⟨rfl,A⟩
theorem mI{len:Nat}{s:ByteArray}(kind:Nat)(F:aM w a #[.string s,aB n])(c:n+len<=s.size)(i:s.size<=700):
  Calls Tryz.prog 123 #[Pt a 0,aB kind,aB len] w fun r w'=>r=.returned (.agg #[aB kind,.string ⟨(sub s.data.toList n len).toArray⟩,aB n])/\aM w' a #[.string s,aB (n+len:Nat)]/\aC (aK a) w w':=by
 have d:=aG F
 have K:Ce w a 0 (.string s):=F.cell 0
 have J:Ce w a 1 (aB n):=F.cell 1
 have b:=F.lt
 have B:a≠w.heap.size:=by omega
 have X:(n:Int)<=(n:Int)+len:=by omega
 have W:(n:Int)+len<=(s.size:Int):=by omega
 have V:(0:Int)<=(n:Int)+len:=by omega
 have T:(n:Int)<=(s.size:Int):=by omega
 have S:=uk n len (by omega)
 have P:((n:Int)+(len:Int)).toNat=n+len:=by omega
 have R:((n+len:Nat):Int)<=(s.size:Int):=by omega
 have Q:(n:Int)<=((n+len:Nat):Int):=by omega
 clear F
 go_in
 go_upto_region 1 with fail
 go_cut [7]from 9 (fun N M=>N=.string ⟨(sub s.data.toList n len).toArray⟩/\Hid (Below (w.heap.size+1) (w.alloc (.cells #[aB 0,.string ⟨#[]⟩,aB 0] 100)) M))
 case first=>
  go_region_with (go_at_call 188;refine(Ah _ _ (by have:=DT s n len c;omega)).mono ?_;rintro e E ⟨rfl,A⟩;replace A:=aG A)
  all_goals
   go_wp2_with fail
   go_meet
   exact⟨by rw[<-og],(Below.refl _ _).drew.trans (A.mono (by simp))⟩
 case rest=>
  obtain⟨rfl,A⟩:=hcut
  rename World=>E
  clear X W V T S R Q P K J
  have Z:w.heap.size+1<=E.heap.size:=by have:=A.size;simpa using this
  obtain⟨D,C⟩:=aN ((d.alloc (.cells #[aB 0,.string ⟨#[]⟩,aB 0] 100)).below (by have:=A.out;simpa using this)) ((aM.new w #[aB 0,.string ⟨#[]⟩,aB 0] 100).below (by have:=A.out;simpa using this))
  have K:Ce E a 0 (.string s):=D.cell 0
  have J:Ce E a 1 (aB n):=D.cell 1
  have g:=D.fz
  have O:=C.cell 0
  have r1:=C.cell 1
  have r2:=C.cell 2
  have f:=C.fz
  have Y:a< E.heap.size:=by omega
  have G:w.heap.size< E.heap.size:=by omega
  have L:w.heap.size≠a:=by omega
  go_wp2_with fail
  have H:aC (aK a) w E:=((aC.refl (aK a) w).alloc (.cells #[aB 0,.string ⟨#[]⟩,aB 0] 100)).below (by have:=A.out;simpa using this)
  refine bodyPost_ret (v:=.agg #[aB kind,.string ⟨(sub s.data.toList n len).toArray⟩,aB n]) (by simp[results,Tryz.results123,go_sem,O,r1,r2,G,World.cell?_setCell_other,B]) rfl ⟨rfl,?_,?_⟩
  ·have h:=((((D.set 1 (aB ((n:Int)+len)) (by simp)).setO w.heap.size 0 (aB kind) B).setO w.heap.size 1 (.string ⟨(sub s.data.toList n len).toArray⟩) B).setO w.heap.size 2 (aB n) B).alloc (.cells #[aB kind,.string ⟨(sub s.data.toList n len).toArray⟩,aB n] 100)
   rw[Int.natCast_add]
   exact h
  ·exact((((H.setCell (p:=Ad a 1) (.inl rfl) _).setCell (p:=Ad w.heap.size 0) (.inr (Nat.le_refl _)) _).setCell (p:=Ad w.heap.size 1) (.inr (Nat.le_refl _)) _).setCell (p:=Ad w.heap.size 2) (.inr (Nat.le_refl _)) _).alloc _
def fP(k:Nat):Nat:=if k=36 then 0 else if k=97 then 1 else if k=110 then 2 else 3
def eZ(t:bB):Value:=.agg #[.int .i64 (fP t.k),.string ⟨t.text.toArray⟩,.int .i64 t.at_]
def iY(w w':World)(bw:Nat)(s:ByteArray)(r:Ending)(t:bB):Prop:=
 aC (aK bw) w w'/\((t.k≠120/\r=.returned (eZ t)/\aM w' bw #[.string s,.int .i64 (t.at_+t.text.length:Nat)])\/(t.k=120/\dA w' r t.e t.at_))
theorem eT{v:World}{s:ByteArray}{t:bB}(A:d≠w.heap.size)(C:aC (aK d) w v)(D:aM v d #[.string s,aB (t.at_+t.text.length:Nat)])(B:t.k≠120)(a b c:Value):
  iY w (((v.setCell ⟨w.heap.size,0,none⟩ a).setCell ⟨w.heap.size,1,none⟩ b).setCell ⟨w.heap.size,2,none⟩ c) d s (.returned (eZ t)) t:=
 ⟨((C.setCell (p:=Ad w.heap.size 0) (.inr (Nat.le_refl _)) _).setCell (p:=Ad w.heap.size 1) (.inr (Nat.le_refl _)) _).setCell (p:=Ad w.heap.size 2) (.inr (Nat.le_refl _)) _,.inl ⟨B,rfl,((D.setO _ 0 _ A).setO _ 1 _ A).setO _ 2 _ A⟩⟩
theorem iY.alloc{s:ByteArray}{t:bB}(h:iY w u a s (.returned v) t)(o:Obj):iY w (u.alloc o) a s (.returned v) t:=by
 obtain⟨A,h|h⟩:=h
 ·exact⟨A.alloc o,.inl ⟨h.1,h.2.1,h.2.2.alloc o⟩⟩
 ·obtain⟨_,b,h,_⟩:=h
  cases h
theorem sB{p:UInt8->Bool}(l:aJ)(i:Nat):∀c,c∈sub l i (cQ p l i)->p c=true:=by
 intro c A
 unfold sub cQ at A
 have:(l.drop i).take ((l.drop i).takeWhile p).length=(l.drop i).takeWhile p:=by
  rw[List.prefix_iff_eq_take.1 (List.takeWhile_prefix p)]
  simp
 rw[this]at A
 exact List.all_eq_true.1 List.all_takeWhile c A
theorem BZ{s:ByteArray}{c:UInt8}(P:aM w a #[.string s,aB n])(k:s.size<=700)(T:s.data.toList[n]?=some c)(S:ou c=true):
  Calls Tryz.prog 86 #[Pt a 0] w fun r w'=>iY w w' a s r (fG s.data.toList n):=by
 have hn:n< s.size:=(List.getElem?_eq_some_iff.1 T).1
 have o:dR c=false:=by unfold ou at S;unfold dR;simp at S⊢;omega
 have J:eQ c=true:=by unfold eQ;rw[S];rfl
 have Y:=jj eQ s.data.toList n (by rw[dt];omega)
 rw[dt]at Y
 have h1:=lH eQ s.data.toList n c T J
 have f:Hid (fG s.data.toList n=if 6< cQ eQ s.data.toList n then⟨120,[],n,3⟩else if jO (sub s.data.toList n (cQ eQ s.data.toList n))then⟨107,sub s.data.toList n (cQ eQ s.data.toList n),n,0⟩else⟨97,sub s.data.toList n (cQ eQ s.data.toList n),n,0⟩):=by
  show _=_
  unfold fG
  rw[T]
  simp[o,J]
 have g:Hid (cQ eQ s.data.toList n<=6->jO (sub s.data.toList n (cQ eQ s.data.toList n))=decide (sub s.data.toList n (cQ eQ s.data.toList n)∈fB)):=fun V=>by
  have l:=gj s.data.toList n (cQ eQ s.data.toList n) (by rw[dt];exact Y)
  exact xR _ (by omega) (by omega) (fun h=>by have:=sB (p:=eQ) s.data.toList n 32 h;revert this;decide)
 obtain⟨Q,x⟩:=aN (gj s.data.toList n (cQ eQ s.data.toList n) (by rw[dt];exact Y)) P
 have q0:Ce w a 0 (.string s):=P.cell 0
 have z:Ce w a 1 (aB n):=P.cell 1
 have u:=P.lt
 have N:a≠w.heap.size:=by omega
 clear P T S o J
 generalize Z:cQ eQ s.data.toList n=m at *
 replace Z:=aG Z
 have i:=aG (x.alloc (.cells #[aB 0,.string ⟨#[]⟩,aB 0] 100))
 go_in
 go_wp2_with fail
 refine(Hf (s:=s) (n:=n) eQ LQ MK (i.cell 0) (i.cell 1) (by omega) k).mono ?_
 rintro e W ⟨rfl,q⟩
 subst W
 rw[Z.out]
 by_cases V:6< m
 ·have D:Hid (fG s.data.toList n=⟨120,[],n,3⟩):=by show _=_;rw[f.out,if_pos V]
  go_wp2_with fail
  refine(cO 3 n _).mono ?_
  rintro e X ⟨⟨b,rfl,C⟩,K⟩
  replace K:=aG K
  replace C:=aG C
  go_wp2_with fail
  refine⟨rfl,?_⟩
  rw[D.out]
  exact⟨((aC.refl (aK a) w).alloc _).below K,.inr ⟨rfl,b,rfl,C⟩⟩
 ·go_wp2_with fail
  refine(mI 1 i (by omega) k).mono ?_
  rintro e X ⟨rfl,E,B⟩
  replace E:=aG E
  replace B:=aG B
  have G:=B.size
  have L:w.heap.size< X.heap.size:=by simp at G;omega
  have M:w.heap.size≠a:=by omega
  have F:=aG ((aM.new w #[aB 0,.string ⟨#[]⟩,aB 0] 100).only B M)
  have j:=F.cell 0
  have r1:=F.cell 1
  have r2:=F.cell 2
  have y:=F.fz
  have O:Hid (aC (aK a) w X):=((aC.refl (aK a) w).alloc _).trans B
  clear G B
  have d:m<=6:=by omega
  have R:=aG (g d)
  go_wp2_with fail
  refine(zw _ _).mono ?_
  rintro e W ⟨rfl,q⟩
  subst W
  cases A:decide (sub s.data.toList n m∈fB)
  ·have D:Hid (fG s.data.toList n=⟨97,sub s.data.toList n m,n,0⟩):=by show _=_;rw[f.out,if_neg V,R.out,A];rfl
   have H:decide (({data:=(sub s.data.toList n m).toArray}:ByteArray).data.toList∈fB)=false:=A
   go_wp2_with fail
   refine bodyPost_ret (v:=eZ ⟨97,sub s.data.toList n m,n,0⟩) (by simp[results,Tryz.results86,go_sem,j,r1,r2,L,eZ,fP]) rfl ?_
   rw[D.out]
   exact(eT (t:=⟨97,sub s.data.toList n m,n,0⟩) N O (by show aM _ _ #[_,aB ((n+(sub s.data.toList n m).length:Nat):Int)];rw[Q.out];exact E) (by simp) _ _ _).alloc _
  ·have D:Hid (fG s.data.toList n=⟨107,sub s.data.toList n m,n,0⟩):=by show _=_;rw[f.out,if_neg V,R.out,A];rfl
   have H:decide (({data:=(sub s.data.toList n m).toArray}:ByteArray).data.toList∈fB)=true:=A
   go_wp2_with fail
   refine bodyPost_ret (v:=eZ ⟨107,sub s.data.toList n m,n,0⟩) (by simp[results,Tryz.results86,go_sem,j,r1,r2,L,eZ,fP]) rfl ?_
   rw[D.out]
   exact(eT (t:=⟨107,sub s.data.toList n m,n,0⟩) N O (by show aM _ _ #[_,aB ((n+(sub s.data.toList n m).length:Nat):Int)];rw[Q.out];exact E) (by simp) _ _ _).alloc _
theorem xl{s:ByteArray}{c:UInt8}(J:aM w a #[.string s,aB n])(R:s.size<=700)(O:s.data.toList[n]?=some c)(T:dR c=true):
  Calls Tryz.prog 88 #[Pt a 0] w fun r w'=>iY w w' a s r (fG s.data.toList n):=by
 have k:n< s.size:=(List.getElem?_eq_some_iff.1 O).1
 have S:=jj dR s.data.toList n (by rw[dt];omega)
 rw[dt]at S
 have W:Hid (fG s.data.toList n=if 6< cQ dR s.data.toList n then⟨120,[],n,4⟩else⟨110,sub s.data.toList n (cQ dR s.data.toList n),n,0⟩):=by
  show _=_
  unfold fG
  rw[O]
  simp[T]
 obtain⟨P,f⟩:=aN (gj s.data.toList n (cQ dR s.data.toList n) (by rw[dt];exact S)) J
 have i:Ce w a 0 (.string s):=J.cell 0
 have h:Ce w a 1 (aB n):=J.cell 1
 have d:=J.lt
 have M:a≠w.heap.size:=by omega
 clear J O T
 generalize L:cQ dR s.data.toList n=m at *
 replace L:=aG L
 have Q:=aG (f.alloc (.cells #[aB 0,.string ⟨#[]⟩,aB 0] 100))
 go_in
 go_wp2_with fail
 refine(Hf (s:=s) (n:=n) dR Ft sU (Q.cell 0) (Q.cell 1) (by omega) R).mono ?_
 rintro e X ⟨rfl,j⟩
 subst X
 rw[L.out]
 by_cases V:6< m
 ·have G:Hid (fG s.data.toList n=⟨120,[],n,4⟩):=by show _=_;rw[W.out,if_pos V]
  go_wp2_with fail
  refine(cO 4 n _).mono ?_
  rintro e K ⟨⟨b,rfl,B⟩,E⟩
  replace E:=aG E
  replace B:=aG B
  go_wp2_with fail
  refine⟨rfl,?_⟩
  rw[G.out]
  exact⟨((aC.refl (aK a) w).alloc _).below E,.inr ⟨rfl,b,rfl,B⟩⟩
 ·go_wp2_with fail
  refine(mI 2 Q (by omega) R).mono ?_
  rintro e K ⟨rfl,F,A⟩
  replace F:=aG F
  replace A:=aG A
  have D:=A.size
  have Z:w.heap.size< K.heap.size:=by simp at D;omega
  have H:w.heap.size≠a:=by omega
  have C:=aG ((aM.new w #[aB 0,.string ⟨#[]⟩,aB 0] 100).only A H)
  have Y:=C.cell 0
  have r1:=C.cell 1
  have r2:=C.cell 2
  have g:=C.fz
  have N:Hid (aC (aK a) w K):=((aC.refl (aK a) w).alloc _).trans A
  clear D A
  have G:Hid (fG s.data.toList n=⟨110,sub s.data.toList n m,n,0⟩):=by show _=_;rw[W.out,if_neg V]
  go_wp2_with fail
  refine bodyPost_ret (v:=eZ ⟨110,sub s.data.toList n m,n,0⟩) (by simp[results,Tryz.results88,go_sem,Y,r1,r2,eZ,fP]) rfl ?_
  rw[G.out]
  exact eT (t:=⟨110,sub s.data.toList n m,n,0⟩) M N (by show aM _ _ #[_,aB ((n+(sub s.data.toList n m).length:Nat):Int)];rw[P.out];exact F) (by simp) _ _ _
theorem qL(c:UInt8)(l:aJ):0<=Lib.indexByte l c↔c∈l:=by
 induction l with
 |nil=>simp[Lib.indexByte]
 |cons b l ih=>
  have hg:=Lib.indexByte_ge l c
  by_cases e:b=c
  ·subst e;simp[Lib.indexByte]
  ·have B:¬c=b:=fun h=>e h.symm
   by_cases A:Lib.indexByte l c=-1
   ·have:c∉l:=fun h=>by have:=ih.2 h;omega
    simp[Lib.indexByte,e,B,A,this]
   ·have:c∈l:=ih.1 (by omega)
    simp[Lib.indexByte,e,B,A,this];omega
theorem qc(c:UInt8):decide (0<=Lib.indexByte Bj c)=ik c:=by
 unfold ik
 rw[Bool.eq_iff_iff,decide_eq_true_iff,decide_eq_true_iff]
 exact qL c Bj
theorem Ge(c:UInt8)(w:World):
  Calls Tryz.prog 126 #[.int .u8 c.toNat] w (Ru w (.bool (ik c))):=by
 have A:=aG (qc c)
 go_in
 go_wp2_with (go_at_call 190;refine(Tryz.strings_IndexByte _ _ _).mono ?_;rintro e w' ⟨rfl,rfl⟩)
 go_ret
 refine⟨?_,rfl⟩
 rw[<-A.out]
 rfl
theorem xf(s:ByteArray)(n:Nat)(C:n<=s.size):Lib.hasPrefix (s.extract n s.size).data.toList [61,61]=(sub s.data.toList n 2==[61,61]):=by
 have e:(s.extract n s.size).data.toList=s.data.toList.drop n:=by
  have h:=og s n (s.size-n)
  rw[show n+(s.size-n)=s.size by omega]at h
  rw[h]
  show sub s.data.toList n (s.size-n)=_
  unfold sub
  rw[List.take_of_length_le (by simp[dt])]
 rw[e]
 unfold sub Lib.hasPrefix
 generalize s.data.toList.drop n=l
 rcases l with _|⟨a,_|⟨b,l⟩⟩
 ·rfl
 ·simp[List.isPrefixOf]
 ·simp only[List.isPrefixOf,List.take_succ_cons,List.take_zero,Bool.and_true]
  rw[Bool.eq_iff_iff]
  simp
  constructor
  ·rintro⟨B,A⟩;exact⟨B.symm,A.symm⟩
  ·rintro⟨B,A⟩;exact⟨B.symm,A.symm⟩
theorem zj{s:ByteArray}{c:UInt8}(Y:aM w a #[.string s,aB n])(q:s.size<=700)(X:s.data.toList[n]?=some c)(x:ou c=false)(k:dR c=false):
  Calls Tryz.prog 89 #[Pt a 0] w fun r w'=>iY w w' a s r (fG s.data.toList n):=by
 have u:n< s.size:=(List.getElem?_eq_some_iff.1 X).1
 have W:eQ c=false:=by unfold eQ;rw[x,k];rfl
 have Q:s[n]=c:=by have:=vt s n u;rw[X]at this;exact(Option.some.inj this).symm
 have d:=aG (DS s n u)
 have l:Hid (fG s.data.toList n=if ik c then(if sub s.data.toList n 2==[61,61]then⟨115,[61,61],n,0⟩else⟨115,[c],n,0⟩)else⟨120,[],n,2⟩):=by
  show _=_
  unfold fG
  rw[X]
  simp[k,W]
 have o:Hid (sub s.data.toList n 2=[61,61]->ik c=true/\n+2<=s.size):=fun h=>by
  have h1:(sub s.data.toList n 2).length=2:=by rw[h];rfl
  have f:(sub s.data.toList n 2)[0]?=some c:=by unfold sub;rw[List.getElem?_take_of_lt (by omega),List.getElem?_drop];exact X
  rw[h]at f
  simp at f
  subst f
  refine⟨by decide,?_⟩
  simp[sub,dt]at h1
  omega
 obtain⟨Z,HB⟩:=aN (xf s n (by omega)) Y
 have q0:Ce w a 0 (.string s):=Y.cell 0
 have q1:Ce w a 1 (aB n):=Y.cell 1
 have a0:=Y.lt
 have V:a≠w.heap.size:=by omega
 have y:=aG (HB.alloc (.cells #[aB 0,.string ⟨#[]⟩,aB 0] 100))
 have i4:(n:Int)<=(s.size:Int):=by omega
 clear Y X x k W
 cases E:(sub s.data.toList n 2==[61,61])
 ·have K:Hid (Lib.hasPrefix (s.extract n s.size).data.toList [61,61]=false):=by show _=_;rw[Z.out,E]
  go_in
  go_upto_region 1 with fail
  go_cut [12]from 3 (fun O L=>O=.bool false/\L=(w.alloc (.cells #[aB 0,.string ⟨#[]⟩,aB 0] 100)).drew)
  case first=>
   go_region_with (go_at_call 125;refine(Tryz.strings_HasPrefix _ _ _).mono ?_;rintro e M ⟨rfl,j⟩;subst M)
   all_goals
    go_wp2_with fail
    go_meet
    exact⟨congrArg Value.bool (by first|exact K|(have:=K.out;simpa using this)),rfl⟩
  case rest=>
   obtain⟨rfl,rfl⟩:=hcut
   have m:Hid (sub s.data.toList n 1=[c]):=by show _=_;rw[d.out,Q]
   have a1:(s[n].toNat:Int)=(c.toNat:Int):=by rw[Q]
   clear Q d
   cases B:ik c
   ·have J:Hid (fG s.data.toList n=⟨120,[],n,2⟩):=by show _=_;rw[l.out,B];rfl
    have S:Hid (ik c=false):=B
    clear B
    go_upto_region 3 with fail
    go_cut [25]from 3 (fun N L=>N=.bool true/\L=(w.alloc (.cells #[aB 0,.string ⟨#[]⟩,aB 0] 100)).drew.drew)
    case first=>
     go_region_with (go_at_call 126;refine(Ge c _).mono ?_;rintro e M ⟨rfl,j⟩;subst M;rw[S.out])
     all_goals
      go_wp2_with fail
      go_meet
      exact⟨rfl,rfl⟩
    case rest=>
    obtain⟨rfl,rfl⟩:=hcut
    go_wp2_with fail
    refine(cO 2 n _).mono ?_
    rintro e T ⟨⟨b,rfl,H⟩,R⟩
    replace R:=aG R
    replace H:=aG H
    go_wp2_with fail
    refine⟨rfl,?_⟩
    rw[J.out]
    exact⟨(((aC.refl (aK a) w).alloc (.cells #[aB 0,.string ⟨#[]⟩,aB 0] 100)).drew.drew).below R,.inr ⟨rfl,b,rfl,H⟩⟩
   ·have J:Hid (fG s.data.toList n=⟨115,[c],n,0⟩):=by show _=_;rw[l.out,B,E];rfl
    have S:Hid (ik c=true):=B
    clear B
    go_upto_region 3 with fail
    go_cut [25]from 3 (fun N L=>N=.bool false/\L=(w.alloc (.cells #[aB 0,.string ⟨#[]⟩,aB 0] 100)).drew.drew)
    case first=>
     go_region_with (go_at_call 126;refine(Ge c _).mono ?_;rintro e M ⟨rfl,j⟩;subst M;rw[S.out])
     all_goals
      go_wp2_with fail
      go_meet
      exact⟨rfl,rfl⟩
    case rest=>
    obtain⟨rfl,rfl⟩:=hcut
    go_wp2_with fail
    refine(mI (len:=1) 3 (y.below ((Below.refl _ _).drew.drew)) (by omega) q).mono ?_
    rintro e T ⟨rfl,F,A⟩
    replace F:=aG F
    replace A:=aG A
    have D:=A.size
    have i:w.heap.size< T.heap.size:=by simp at D;omega
    have G:w.heap.size≠a:=by omega
    have C:=aG (((aM.new w #[aB 0,.string ⟨#[]⟩,aB 0] 100).below ((Below.refl _ _).drew.drew)).only A G)
    have g:=C.cell 0
    have r1:=C.cell 1
    have r2:=C.cell 2
    have z:=C.fz
    have P:Hid (aC (aK a) w T):=((aC.refl (aK a) w).alloc (.cells #[aB 0,.string ⟨#[]⟩,aB 0] 100)).drew.drew.trans A
    clear D A
    rw[m.out]
    go_wp2_with fail
    refine bodyPost_ret (v:=eZ ⟨115,[c],n,0⟩) (by simp[results,Tryz.results89,go_sem,g,r1,r2,eZ,fP]) rfl ?_
    rw[J.out]
    exact eT (t:=⟨115,[c],n,0⟩) V P F (by simp) _ _ _
 ·have K:Hid (Lib.hasPrefix (s.extract n s.size).data.toList [61,61]=true):=by show _=_;rw[Z.out,E]
  obtain⟨B,f⟩:=o (beq_iff_eq.1 E)
  have J:Hid (fG s.data.toList n=⟨115,[61,61],n,0⟩):=by show _=_;rw[l.out,B,E];rfl
  have p:Hid (sub s.data.toList n 2=[61,61]):=beq_iff_eq.1 E
  clear B E
  go_in
  go_upto_region 1 with fail
  go_cut [12]from 3 (fun O L=>O=.bool true/\L=(w.alloc (.cells #[aB 0,.string ⟨#[]⟩,aB 0] 100)).drew)
  case first=>
   go_region_with (go_at_call 125;refine(Tryz.strings_HasPrefix _ _ _).mono ?_;rintro e M ⟨rfl,j⟩;subst M)
   all_goals
    go_wp2_with fail
    go_meet
    exact⟨congrArg Value.bool (by first|exact K|(have:=K.out;simpa using this)),rfl⟩
  case rest=>
    obtain⟨rfl,rfl⟩:=hcut
    go_wp2_with fail
    refine(mI (len:=2) 3 (y.below ((Below.refl _ _).drew)) (by omega) q).mono ?_
    rintro e T ⟨rfl,F,A⟩
    replace F:=aG F
    replace A:=aG A
    have D:=A.size
    have i:w.heap.size< T.heap.size:=by simp at D;omega
    have G:w.heap.size≠a:=by omega
    have C:=aG (((aM.new w #[aB 0,.string ⟨#[]⟩,aB 0] 100).below ((Below.refl _ _).drew)).only A G)
    have g:=C.cell 0
    have r1:=C.cell 1
    have r2:=C.cell 2
    have z:=C.fz
    have P:Hid (aC (aK a) w T):=((aC.refl (aK a) w).alloc (.cells #[aB 0,.string ⟨#[]⟩,aB 0] 100)).drew.trans A
    clear D A
    rw[p.out]
    go_wp2_with fail
    refine bodyPost_ret (v:=eZ ⟨115,[61,61],n,0⟩) (by simp[results,Tryz.results89,go_sem,g,r1,r2,eZ,fP]) rfl ?_
    rw[J.out]
    exact eT (t:=⟨115,[61,61],n,0⟩) V P F (by simp) _ _ _
theorem aM.newAt(w:World)(A:Array Value)(t:TypeId)(B:Nat)(C:w.heap.size=B):aM (w.alloc (.cells A t)) B A:=C▸aM.new w A t
theorem iY.drew{s:ByteArray}{t:bB}(h:iY w u a s (.returned v) t):iY w u.drew a s (.returned v) t:=by
 obtain⟨A,h|h⟩:=h
 ·exact⟨A.drew,.inl ⟨h.1,h.2.1,h.2.2.below ((Below.refl _ _).drew)⟩⟩
 ·obtain⟨_,b,h,_⟩:=h
  cases h
theorem iY.thrown{v:World}{s:ByteArray}{r:Ending}{t:bB}(A:aC (aK a) w v)(h:iY v u a s r t):iY w u a s r t:=⟨A.trans h.1,h.2⟩
theorem uZ{s:ByteArray}(d:aM w a #[.string s,aB n])(o:s.size<=700)(hn:n<=s.size):
  Calls Tryz.prog 56 #[Pt a 0] w fun r w'=>iY w w' a s r (fG s.data.toList (fa s.data.toList n)):=by
 have x:=ji s.data.toList n (by rw[dt];exact hn)
 rw[dt]at x
 have i:Hid (fa s.data.toList n=n+cQ jL s.data.toList n):=rfl
 have HB:=aG d
 have q0:Ce w a 0 (.string s):=d.cell 0
 have q1:Ce w a 1 (aB n):=d.cell 1
 have qf:=d.fz
 have a2:=d.lt
 have S:a≠w.heap.size:=by omega
 have HA:=aG (HB.alloc (.cells #[aB 0,.string ⟨#[]⟩,aB 0] 100))
 have l:=aG (HA.below ((Below.refl _ _).drew))
 clear d
 generalize y:cQ jL s.data.toList n=m at *
 replace y:=aG y
 generalize hk:fa s.data.toList n=k at *
 have a3:n+m<=s.size:=by have:=i.out;omega
 have i5:=uk n m (by omega)
 go_in
 go_upto_region 1 with fail
 go_cut []from 4 (fun q=>Hid (aM q a #[.string s,aB k]/\aC (aK a) w q/\aM q w.heap.size #[aB 0,.string ⟨#[]⟩,aB 0]))
 case first=>
  go_region_with (go_at_call 83;refine(Hf (s:=s) (n:=n) jL FA Hp (l.cell 0) (l.cell 1) (by omega) o).mono ?_;rintro e f ⟨rfl,hq⟩;subst f;rw[y.out])
  all_goals
   go_wp2_with fail
   go_meet
   have z:((k:Nat):Int)=(n:Int)+m:=by have:=i.out;omega
   refine⟨?_,?_,?_⟩
   ·rw[z];exact((HB.set 1 _ (by simp)).alloc _).below ((Below.refl _ _).drew)
   ·exact(((aC.refl (aK a) w).setCell (p:=Ad a 1) (.inl rfl) _).alloc _).drew
   ·exact(aM.newAt _ _ _ _ (by simp[World.setCell])).below ((Below.refl _ _).drew)
 case rest=>
  rename World=>w1
  obtain⟨T,j,M⟩:=bY hcut.1 hcut.2.1 hcut.2.2
  clear hcut i5 q0 q1 qf
  have q0:Ce w1 a 0 (.string s):=T.cell 0
  have q1:Ce w1 a 1 (aB k):=T.cell 1
  have K:w.heap.size≠a:=by omega
  by_cases L:k=s.size
  ·have a1:((k:Int)==(s.size:Int))=true:=by rw[beq_iff_eq];omega
   have Y:Hid (fG s.data.toList k=⟨36,[],k,0⟩):=by show _=_;unfold fG;rw[List.getElem?_eq_none (by rw[dt];omega)]
   have X:=M.cell 0
   have r1:=M.cell 1
   have r2:=M.cell 2
   have u:=M.fz
   replace L:=aG L
   go_wp2_with fail
   go_region
   go_wp2_with fail
   refine bodyPost_ret (v:=eZ ⟨36,[],k,0⟩) (by simp[results,Tryz.results56,go_sem,X,r1,r2,eZ,fP]) rfl ?_
   rw[Y.out]
   have h:=eT (t:=⟨36,[],k,0⟩) S j T (by simp) (aB 0) (.string ⟨#[]⟩) (aB k)
   exact h.drew
  ·have a1:((k:Int)==(s.size:Int))=false:=by rw[beq_eq_false_iff_ne];omega
   have a0:k< s.size:=by omega
   have hc:=vt s k a0
   obtain⟨HC,J⟩:=aN hc (j.drew.drew)
   have Q:=aG (T.below ((Below.refl _ _).drew.drew))
   have Z:=aG (M.below ((Below.refl _ _).drew.drew))
   clear L hc
   go_wp2_with fail
   go_region
   go_wp2_with fail
   go_region
   go_wp2_with fail
   refine(sT _ _).mono ?_
   rintro e f ⟨rfl,hq⟩
   subst f
   generalize g:s[k]=c at *
   replace g:=aG g
   cases G:ou c
   ·have N:=aG G
    clear G
    go_wp2_with fail
    refine(sU _ _).mono ?_
    rintro e f ⟨rfl,hq⟩
    subst f
    cases H:dR c
    ·have P:=aG H
     clear H
     go_wp2_with fail
     refine(zj Q o HC N P).mono ?_
     rintro e w2 V
     have W:=aG (V.thrown J)
     obtain⟨A,⟨F,rfl,E⟩|⟨F,⟨b,rfl,D⟩⟩⟩:=V
     ·have Y:=aG F
      obtain⟨R,O,B⟩:=bY E (J.trans A) (Z.only A K)
      have X:=B.cell 0
      have r1:=B.cell 1
      have r2:=B.cell 2
      have u:=B.fz
      clear A F E W
      generalize C:fG s.data.toList k=t at *
      replace C:=aG C
      unfold eZ
      go_wp2_with fail
      refine bodyPost_ret (v:=eZ t) (by simp[results,Tryz.results56,go_sem,X,r1,r2,eZ]) rfl ?_
      rw[C.out]
      exact eT S O R Y _ _ _
     ·clear A F D
      go_wp2_with fail
      exact⟨rfl,W⟩
    ·have P:=aG H
     clear H
     go_wp2_with fail
     refine(xl Q o HC P).mono ?_
     rintro e w2 V
     have W:=aG (V.thrown J)
     obtain⟨A,⟨F,rfl,E⟩|⟨F,⟨b,rfl,D⟩⟩⟩:=V
     ·have Y:=aG F
      obtain⟨R,O,B⟩:=bY E (J.trans A) (Z.only A K)
      have X:=B.cell 0
      have r1:=B.cell 1
      have r2:=B.cell 2
      have u:=B.fz
      clear A F E W
      generalize C:fG s.data.toList k=t at *
      replace C:=aG C
      unfold eZ
      go_wp2_with fail
      refine bodyPost_ret (v:=eZ t) (by simp[results,Tryz.results56,go_sem,X,r1,r2,eZ]) rfl ?_
      rw[C.out]
      exact eT S O R Y _ _ _
     ·clear A F D
      go_wp2_with fail
      exact⟨rfl,W⟩
   ·have N:=aG G
    clear G
    go_wp2_with fail
    refine(BZ Q o HC N).mono ?_
    rintro e w2 V
    have W:=aG (V.thrown J)
    obtain⟨A,⟨F,rfl,E⟩|⟨F,⟨b,rfl,D⟩⟩⟩:=V
    ·have Y:=aG F
     obtain⟨R,O,B⟩:=bY E (J.trans A) (Z.only A K)
     have X:=B.cell 0
     have r1:=B.cell 1
     have r2:=B.cell 2
     have u:=B.fz
     clear A F E W
     generalize C:fG s.data.toList k=t at *
     replace C:=aG C
     unfold eZ
     go_wp2_with fail
     refine bodyPost_ret (v:=eZ t) (by simp[results,Tryz.results56,go_sem,X,r1,r2,eZ]) rfl ?_
     rw[C.out]
     exact eT S O R Y _ _ _
    ·clear A F D
     go_wp2_with fail
     exact⟨rfl,W⟩
theorem zO(l:aJ)(i:Nat):(fG l i).k=36\/(fG l i).k=97\/(fG l i).k=107\/(fG l i).k=110\/(fG l i).k=115\/(fG l i).k=120:=by
 unfold fG
 split
 ·simp
 ·repeat' split
  all_goals simp
theorem V.go1_step{l:aJ}{ts:List bB}{v:V}(H:ga l ts)(C:v.i< ts.length)(B:v.ok=true)(G:ej (v.here ts)=false):
  (v.go1 ts).i< ts.length/\(v.go1 ts).here ts=yN l (v.here ts)/\(((yN l (v.here ts)).k≠120/\(v.go1 ts).ok=true)\/((yN l (v.here ts)).k=120/\(v.go1 ts).ok=false/\(v.go1 ts).e=(yN l (v.here ts)).e/\(v.go1 ts).a=(yN l (v.here ts)).at_)):=by
 have hg:ts[v.i]?=some (v.here ts):=by unfold V.here;rw[List.getElem?_eq_getElem C];rfl
 have F:=H.next _ _ hg G
 have J:=(List.getElem?_eq_some_iff.1 F).1
 have A:=V.on_next H C B G
 have E:(v.on ts).here ts=yN l (v.here ts):=by rw[A];unfold V.here;rw[F];rfl
 have D:(v.go1 ts).here ts=yN l (v.here ts):=by rw[<-E];unfold V.here;rw[V.go1_i]
 have K:v.e=0:=by simpa[V.ok]using B
 refine⟨V.go1_lt C,D,?_⟩
 by_cases h:(yN l (v.here ts)).k=120
 ·refine .inr ⟨h,?_⟩
  have L:=yQ l _ h
  unfold V.go1
  rw[E,if_pos h,A]
  unfold V.flt
  rw[if_pos (by exact K)]
  exact⟨by simp only[V.ok];exact beq_eq_false_iff_ne.2 L,rfl,rfl⟩
 ·refine .inl ⟨h,?_⟩
  unfold V.go1
  rw[E,if_neg h,A]
  exact B
structure RV(w:World)(br bw:Nat)(s:ByteArray)(ts:List bB)(v:V)(dep:Nat):Prop where
 rb:aM w br #[.pointer (some ⟨bw,0,none⟩),.int .i64 (fP (v.here ts).k),.string ⟨(v.here ts).text.toArray⟩,.int .i64 (v.here ts).at_,.int .i64 dep]
 wb:aM w bw #[.string s,.int .i64 ((v.here ts).at_+(v.here ts).text.length:Nat)]
 ne:br≠bw
 ok:v.ok=true
 lt:v.i< ts.length
 x:(v.here ts).k≠120
 tk:ga s.data.toList ts
 sz:s.size<=700
theorem RV.kept{S:Nat->Prop}{w':World}{s:ByteArray}{ts:List bB}{v:V}(h:RV w a b s ts v c)(k:aC S w w')(B:¬S a)(A:¬S b):RV w' a b s ts v c:=
 ⟨h.rb.kept k B,h.wb.kept k A,h.ne,h.ok,h.lt,h.x,h.tk,h.sz⟩
theorem RV.below{w':World}{s:ByteArray}{ts:List bB}{v:V}(h:RV w a b s ts v c)(k:Bw w w'):RV w' a b s ts v c:=
 h.kept (S:=fun _=>False) (aC.of_below k) (fun x=>x) (fun x=>x)
theorem RV.kinds{s:ByteArray}{ts:List bB}{v:V}(h:RV w a b s ts v c):(v.here ts).k=36\/(v.here ts).k=97\/(v.here ts).k=107\/(v.here ts).k=110\/(v.here ts).k=115:=by
 obtain⟨i,_,e⟩:=V.here_lex h.tk h.lt
 have:=zO s.data.toList i
 have A:=h.x
 rw[e]at A⊢
 omega
theorem RV.end_le{s:ByteArray}{ts:List bB}{v:V}(h:RV w a b s ts v c):(v.here ts).at_+(v.here ts).text.length<=s.size:=by
 obtain⟨i,A,e⟩:=V.here_lex h.tk h.lt
 rw[e,tp]
 cases B:ej (fG s.data.toList i)
 ·exact(mY s.data.toList i A B).2
 ·rw[nT _ _ B];simpa using A
def kq(w w':World)(br bw:Nat)(s:ByteArray)(ts:List bB)(v:V)(dep:Nat)(r:Ending)(R:Ending->World->Prop):Prop:=
 aC (gO br bw) w w'/\((v.ok=true/\RV w' br bw s ts v dep/\R r w')\/(v.ok=false/\dA w' r v.e v.a))
abbrev vK:Ending->World->Prop:=fun r _=>r=.returned (.tuple #[])
theorem rL{s:ByteArray}{ts:List bB}{v:V}(h:RV w a c s ts v d)(R:ej (v.here ts)=false):
  Calls Tryz.prog 37 #[Pt a 0] w fun r w'=>kq w w' a c s ts (v.go1 ts) d r vK:=by
 obtain⟨J,T⟩:=aN h (V.go1_step h.tk h.lt h.ok R)
 have g:=h.rb.cell 0
 have N:=h.end_le
 have K:Hid (yN s.data.toList (v.here ts)=fG s.data.toList (fa s.data.toList ((v.here ts).at_+(v.here ts).text.length))):=rfl
 have B:=h.ne
 clear h R
 go_in
 go_wp2_with fail
 refine(uZ J.wb J.sz N).mono ?_
 rintro e Y ⟨C,⟨E,rfl,F⟩|⟨E,⟨b,rfl,hblk⟩⟩⟩
 ·rw[<-K.out]at E F⊢
  obtain⟨M,L,D|D⟩:=T
  ·have W:=aG E
   obtain⟨P,G,A⟩:=bY F C (J.rb.only C B)
   have f:=A.cell 0
   have r1:=A.cell 1
   have r2:=A.cell 2
   have r3:=A.cell 3
   have Z:=A.fz
   obtain⟨X,Q,H⟩:=bY M L D.2
   clear M L D E F C
   generalize yN s.data.toList (v.here ts)=t at *
   unfold eZ
   go_wp2_with fail
   go_end0
   refine⟨?_,.inl ⟨H,⟨?_,?_,B,H,X,by rw[Q.out];exact W,J.tk,J.sz⟩,rfl⟩⟩
   ·exact((((aC.of_below (S:=gO a c) (Below.refl _ _)).trans (G.mono (fun _ e=>.inr e))).setCell (p:=Ad a 1) (.inl (.inl rfl)) _).setCell (p:=Ad a 2) (.inl (.inl rfl)) _).setCell (p:=Ad a 3) (.inl (.inl rfl)) _
   ·have h:=((A.set 1 (aB (fP t.k)) (by simp)).set 2 (.string ⟨t.text.toArray⟩) (by simp)).set 3 (aB t.at_) (by simp)
    rw[Q.out]
    exact h
   ·rw[Q.out]
    exact((P.setO _ 1 _ (Ne.symm B)).setO _ 2 _ (Ne.symm B)).setO _ 3 _ (Ne.symm B)
  ·exact absurd D.1 E
 ·rw[<-K.out]at E hblk
  obtain⟨M,L,D|D⟩:=T
  ·exact absurd E D.1
  ·have G:=aG C
   obtain⟨O,H⟩:=aN hblk D.2
   clear M L D E hblk C
   go_wp2_with fail
   refine⟨rfl,G.mono (fun _ e=>.inr e),.inr ⟨H.1,b,rfl,?_⟩⟩
   rw[H.out.2.1,H.out.2.2]
   exact O
section
section
variable {w:World} {br bw:Nat} {s:ByteArray} {ts:List bB} {v:V} {dep:Nat}
theorem V.must_yes{t:aJ}(h:v.at ts t=true):v.must ts t=v.go1 ts:=by unfold V.must;rw[if_pos h]
theorem V.flt_yes(h:v.ok=true)(e a:Nat)(A:e≠0):(v.flt e a).ok=false/\(v.flt e a).e=e/\(v.flt e a).a=a:=by
 have B:v.e=0:=by simpa[V.ok]using h
 unfold V.flt
 rw[if_pos B]
 exact⟨by simpa[V.ok]using A,rfl,rfl⟩
theorem V.must_not{t:aJ}(A:v.ok=true)(h:v.at ts t=false):v.must ts t=v.flt 5 (v.here ts).at_:=by
 unfold V.must
 rw[if_neg (by simp[h]),V.go1_no (V.flt_yes A 5 _ (by decide)).1]
theorem V.named_yes{num:Bool}(h:v.bad ts num=false):v.named ts num=v.go1 ts:=by unfold V.named;rw[if_neg (by simp[h])]
theorem V.named_not{num:Bool}(A:v.ok=true)(h:v.bad ts num=true):v.named ts num=v.flt 5 (v.here ts).at_:=by
 unfold V.named
 rw[if_pos h,V.go1_no (V.flt_yes A 5 _ (by decide)).1]
theorem RV.fixed(h:RV w br bw s ts v dep):((fP (v.here ts).k:Int)==3)=((v.here ts).k==115||(v.here ts).k==107):=by
 rcases h.kinds with e|e|e|e|e<;>rw[e]<;>rfl
theorem ug(h:RV w br bw s ts v dep)(t:ByteArray):
  Calls Tryz.prog 90 #[Pt br 0,.string t] w (Ru w (.bool (v.at ts t.data.toList))):=by
 have G:=h.rb.cell 1
 have E:Ce w br (1+0) (aB (fP (v.here ts).k)):=h.rb.cell 1
 have F:=h.rb.cell 2
 have D:Ce w br (1+1) (.string ⟨(v.here ts).text.toArray⟩):=h.rb.cell 2
 have B:=h.fixed
 cases A:((v.here ts).k==115||(v.here ts).k==107)
 ·have C:Hid (v.at ts t.data.toList=false):=by show _=_;unfold V.at;rw[A];rfl
  rw[A]at B
  clear h A
  go_in
  go_wp2_with fail
  go_ret
  exact⟨by rw[C.out];rfl,rfl⟩
 ·have C:Hid (v.at ts t.data.toList=((v.here ts).text==t.data.toList)):=by show _=_;unfold V.at;rw[A];rfl
  rw[A]at B
  clear h A
  go_in
  go_wp2_with fail
  go_ret
  exact⟨by rw[C.out,<-ByteArray.toList_eq];rfl,rfl⟩
theorem dx(h:RV w br bw s ts v dep)(t:ByteArray)(A:v.at ts t.data.toList=false):
  Calls Tryz.prog 57 #[Pt br 0,.string t] w (Ru w (.bool false)):=by
 obtain⟨D,B⟩:=aN h A
 clear h A
 go_in
 go_wp2_with fail
 refine(ug D t).mono ?_
 rintro e C ⟨rfl,E⟩
 subst C
 rw[B.out]
 go_wp2_with fail
 go_ret
 exact⟨rfl,rfl⟩
theorem cK(h:RV w br bw s ts v dep)(t:ByteArray)(A:v.at ts t.data.toList=true):
  Calls Tryz.prog 57 #[Pt br 0,.string t] w fun r w'=>kq w w' br bw s ts (v.go1 ts) dep r (fun r _=>r=.returned (.bool true)):=by
 obtain⟨H,D⟩:=aN h A
 clear h A
 go_in
 go_wp2_with fail
 refine(ug H t).mono ?_
 rintro e J ⟨rfl,K⟩
 subst J
 rw[D.out]
 go_wp2_with fail
 refine(rL H (V.at_open D)).mono ?_
 rintro e G ⟨E,⟨C,B,rfl⟩|⟨C,b,rfl,B⟩⟩
 ·have F:Hid (kq w G br bw s ts (v.go1 ts) dep (.returned (.bool true)) (fun r _=>r=.returned (.bool true))):=⟨E,.inl ⟨C,B,rfl⟩⟩
  clear E C B
  go_wp2_with fail
  go_ret
  exact F
 ·have F:Hid (kq w G br bw s ts (v.go1 ts) dep (ee b) (fun r _=>r=.returned (.bool true))):=⟨E,.inr ⟨C,b,rfl,B⟩⟩
  clear E C B
  go_wp2_with fail
  exact⟨rfl,F⟩
theorem oU(h:RV w br bw s ts v dep):
  Calls Tryz.prog 58 #[Pt br 0] w fun r w'=>dA w' r 5 (v.here ts).at_/\Bw w w':=by
 have E:=h.rb.cell 3
 have C:Ce w br (1+2) (aB (v.here ts).at_):=h.rb.cell 3
 clear h
 go_in
 go_wp2_with fail
 refine(cO 5 (v.here ts).at_ w).mono ?_
 rintro e A ⟨⟨b,rfl,B⟩,h2⟩
 have D:Hid (dA A (ee b) 5 (v.here ts).at_/\Bw w A):=⟨⟨b,rfl,B⟩,h2⟩
 clear B h2
 go_wp2_with fail
 exact⟨rfl,D⟩
theorem gV(h:RV w br bw s ts v dep)(t:ByteArray):
  Calls Tryz.prog 60 #[Pt br 0,.string t] w fun r w'=>kq w w' br bw s ts (v.must ts t.data.toList) dep r vK:=by
 have H:=aG h
 cases A:v.at ts t.data.toList
 ·have F:=aG (V.must_not h.ok A)
  obtain⟨K,D⟩:=aN (V.flt_yes h.ok 5 (v.here ts).at_ (by decide)) A
  clear h A
  go_in
  go_wp2_with fail
  refine(dx H t D).mono ?_
  rintro e L ⟨rfl,M⟩
  subst L
  go_wp2_with fail
  refine(oU H).mono ?_
  rintro e G ⟨⟨b,rfl,C⟩,B⟩
  replace C:=aG C
  replace B:=aG B
  go_wp2_with fail
  refine⟨rfl,aC.of_below B,.inr ?_⟩
  rw[F.out]
  exact⟨K.1,b,rfl,by rw[K.out.2.1,K.out.2.2];exact C⟩
 ·have F:=aG (V.must_yes A)
  have D:=aG A
  clear h A
  go_in
  go_wp2_with fail
  refine(cK H t D).mono ?_
  rintro e G ⟨E,⟨C,B,rfl⟩|⟨C,b,rfl,B⟩⟩
  ·have J:Hid (kq w G br bw s ts (v.go1 ts) dep (.returned (.tuple #[])) vK):=⟨E,.inl ⟨C,B,rfl⟩⟩
   clear E C B
   go_wp2_with fail
   first|go_end0|refine bodyPost_ret (results_none rfl _ _ _) rfl ?_
   rw[F.out]
   exact J
  ·have J:Hid (kq w G br bw s ts (v.go1 ts) dep (ee b) vK):=⟨E,.inr ⟨C,b,rfl,B⟩⟩
   clear E C B
   go_wp2_with fail
   rw[F.out]
   exact⟨rfl,J⟩
end
end
section
def gH(t:bB):Value:=.agg #[.string ⟨t.text.toArray⟩,.int .i64 t.at_,.int .i64 0]
section
variable {w:World} {br bw:Nat} {s:ByteArray} {ts:List bB} {v:V} {dep:Nat}
theorem RV.isName(h:RV w br bw s ts v dep):((fP (v.here ts).k:Int)!=1)=((v.here ts).k !=97):=by
 rcases h.kinds with e|e|e|e|e<;>rw[e]<;>rfl
theorem RV.isNum(h:RV w br bw s ts v dep):((fP (v.here ts).k:Int)!=2)=((v.here ts).k !=110):=by
 rcases h.kinds with e|e|e|e|e<;>rw[e]<;>rfl
theorem jl(h:RV w br bw s ts v dep):
  Calls Tryz.prog 59 #[Pt br 0] w fun r w'=>kq w w' br bw s ts (v.named ts false) dep r (fun r _=>r=.returned (gH (v.here ts))):=by
 have l:=aG h
 have j:=h.rb.cell 1
 have Q:Ce w br (1+0) (aB (fP (v.here ts).k)):=h.rb.cell 1
 have i:=h.rb.cell 2
 have P:Ce w br (1+1) (.string ⟨(v.here ts).text.toArray⟩):=h.rb.cell 2
 have g:=h.rb.cell 3
 have O:Ce w br (1+2) (aB (v.here ts).at_):=h.rb.cell 3
 have c:=h.rb.lt
 have a:=h.wb.lt
 have M:br≠w.heap.size:=by omega
 have W:w.heap.size≠br:=by omega
 have A:v.bad ts false=((v.here ts).k !=97):=by unfold V.bad;simp
 have J:=h.isName
 have o:=aG (h.below (ba _ (.cells #[.string ⟨#[]⟩,aB 0,aB 0] 119)))
 cases B:((v.here ts).k !=97)
 ·rw[B]at J A
  have L:=aG (V.named_yes (num:=false) A)
  have H:ej (v.here ts)=false:=by
   have:(v.here ts).k=97:=by simpa using B
   unfold ej;rw[this];rfl
  have R:=aG H
  clear h A B H
  go_in
  go_wp2_with fail
  go_region
  go_wp2_with fail
  refine(rL (l.below ((ba _ (.cells #[.string ⟨#[]⟩,aB 0,aB 0] 119)).alloc (by simp) (.cells #[.string ⟨(v.here ts).text.toArray⟩,aB (v.here ts).at_,aB 0] 119)).drew) R).mono ?_
  rintro e F ⟨B,⟨E,D,rfl⟩|⟨E,b,rfl,D⟩⟩
  ·have G:=B.size
   have Z:w.heap.size< F.heap.size:=by simp at G;omega
   have Y:w.heap.size+1< F.heap.size:=by simp at G;omega
   have f:¬gO br bw w.heap.size:=fun e=>by unfold gO at e;omega
   have d:¬gO br bw (w.heap.size+1):=fun e=>by unfold gO at e;omega
   obtain⟨K,S⟩:=aN (((aM.new w #[.string ⟨#[]⟩,aB 0,aB 0] 119).below ((ba _ (.cells #[.string ⟨(v.here ts).text.toArray⟩,aB (v.here ts).at_,aB 0] 119)).drew)).kept B f) (((aM.new' (w.alloc (.cells #[.string ⟨#[]⟩,aB 0,aB 0] 119)) #[.string ⟨(v.here ts).text.toArray⟩,aB (v.here ts).at_,aB 0] 119 (w.heap.size+1) (by simp)).below ((Below.refl _ _).drew)).kept B d)
   have X:=K.cell 0
   have r1:=K.cell 1
   have r2:=K.cell 2
   have u:=K.fz
   have z:=S.cell 0
   have y:=S.cell 1
   have x:=S.cell 2
   obtain⟨n,t,q⟩:=bY B E D
   clear B E D G j Q i P g O
   go_wp2_with fail
   have C:aC (gO br bw) w F:=((((aC.refl (gO br bw) w).alloc _).alloc _).drew).trans n
   refine bodyPost_ret (v:=gH (v.here ts)) (by simp[results,Tryz.results59,go_sem,X,r1,r2,gH]) rfl ?_
   rw[L.out]
   have N:=((aC.refl (fun k=>k=w.heap.size) F).setCell (p:=Ad w.heap.size 0) (.inl rfl) (.string ⟨(v.here ts).text.toArray⟩)).setCell (p:=Ad w.heap.size 1) (.inl rfl) (aB (v.here ts).at_) |>.setCell (p:=Ad w.heap.size 2) (.inl rfl) (aB 0)
   exact⟨((C.setCell (p:=Ad w.heap.size 0) (.inr (Nat.le_refl _)) _).setCell (p:=Ad w.heap.size 1) (.inr (Nat.le_refl _)) _).setCell (p:=Ad w.heap.size 2) (.inr (Nat.le_refl _)) _,.inl ⟨t,q.kept N (fun e=>M e) (fun e=>by have:bw=w.heap.size:=e;omega),rfl⟩⟩
  ·have C:aC (gO br bw) w F:=((((aC.refl (gO br bw) w).alloc _).alloc _).drew).trans B
   have m:Hid (kq w F br bw s ts (v.go1 ts) dep (ee b) (fun r _=>r=.returned (gH (v.here ts)))):=⟨C,.inr ⟨E,b,rfl,D⟩⟩
   clear B C E D
   go_wp2_with fail
   rw[L.out]
   exact⟨rfl,m⟩
 ·rw[B]at J A
  obtain⟨L,T⟩:=aN (V.named_not (num:=false) h.ok A) (V.flt_yes h.ok 5 (v.here ts).at_ (by decide))
  clear h A B
  go_in
  go_wp2_with fail
  refine(oU o).mono ?_
  rintro e F ⟨⟨b,rfl,E⟩,D⟩
  replace E:=aG E
  replace D:=aG D
  go_wp2_with fail
  refine⟨rfl,((aC.refl _ _).alloc _).below D,.inr ?_⟩
  rw[L.out]
  exact⟨T.1,b,rfl,by rw[T.out.2.1,T.out.2.2];exact E⟩
end
end
section
def BW(l:aJ):Nat:=(Lib.decFrom 0 l).getD 0
def nv(t:bB):aJ:=if t.k=110 then[]else t.text
def FG(t:bB):Nat:=if t.k=110 then 0 else t.at_
def tQ(t:bB):Nat:=if t.k=110 then BW t.text else 0
def gA(t:bB):Value:=.agg #[.string ⟨(nv t).toArray⟩,.int .i64 (FG t),.int .i64 0,.int .i64 (tQ t)]
theorem vD(l:aJ)(h:∀c,c∈l->dR c=true):∀A,∃n,Lib.decFrom A l=some n:=by
 induction l with
 |nil=>intro A;exact⟨A,rfl⟩
 |cons b l ih=>
  intro A
  have B:=h b (by simp)
  unfold dR at B
  simp at B
  have:Lib.digitVal b=some (b.toNat-48):=by unfold Lib.digitVal;rw[if_pos B]
  rw[Lib.decFrom,this]
  exact ih (fun c C=>h c (by simp[C])) _
theorem CU(l:aJ)(h:∀c,c∈l->dR c=true)(C:1<=l.length):Lib.atoi l=some ((BW l:Nat):Int):=by
 rcases l with _|⟨b,r⟩
 ·simp at C
 ·obtain⟨n,B⟩:=vD (b::r) h 0
  have A:=h b (by simp)
  unfold dR at A
  simp at A
  have E:(b==45)=false:=by rw[beq_eq_false_iff_ne];rintro rfl;revert A;decide
  have D:(b==43)=false:=by rw[beq_eq_false_iff_ne];rintro rfl;revert A;decide
  simp only[Lib.atoi,E,D]
  simp[Lib.decNat,B,BW]
theorem EH(l:aJ)(i:Nat)(h:(fG l i).k=110):(∀c,c∈(fG l i).text->dR c=true)/\1<=(fG l i).text.length/\(fG l i).text.length<=6:=by
 unfold fG at h⊢
 cases hg:l[i]? with
 |none=>rw[hg]at h;simp at h
 |some c=>
  rw[hg]at h
  simp only at h⊢
  by_cases C:dR c=true
  ·by_cases B:6< cQ dR l i
   ·simp[C,B]at h
   ·simp only[C,B,if_true,if_false]
    obtain⟨H,_⟩:=List.getElem?_eq_some_iff.1 hg
    have D:=jj dR l i (by omega)
    have hp:=lH dR l i c hg C
    rw[gj _ _ _ D]
    exact⟨sB l i,hp,by omega⟩
  ·exfalso
   simp only[C]at h
   by_cases A:eQ c=true
   ·by_cases B:6< cQ eQ l i
    ·simp[B,A]at h
    ·by_cases G:jO (sub l i (cQ eQ l i))=true
     ·simp[B,A,G]at h
     ·simp[B,A,G]at h
   ·by_cases E:ik c=true
    ·by_cases F:(sub l i 2==[61,61])=true
     ·simp[A,E,F]at h
     ·simp[A,E,F]at h
    ·simp[A,E]at h
section
variable {w:World} {br bw:Nat} {s:ByteArray} {ts:List bB} {v:V} {dep:Nat}
theorem kq.ret{W:World}{v:V}{r:Ending}{R:Ending->World->Prop}(B:aC (gO br bw) w u)(E:v.ok=true)(D:RV u br bw s ts v dep)(A:aC (aK b) u W)(F:w.heap.size<=b)(H:br< w.heap.size)(G:bw< w.heap.size)(C:R r W):kq w W br bw s ts v dep r R:=
 ⟨B.trans' A (fun i e=>.inr (by have:i=b:=e;omega)),.inl ⟨E,D.kept A (fun e=>by have:br=b:=e;omega) (fun e=>by have:bw=b:=e;omega),C⟩⟩
theorem om(h:RV w br bw s ts v dep):
  Calls Tryz.prog 191 #[Pt br 0] w fun r w'=>kq w w' br bw s ts (v.named ts true) dep r (fun r _=>r=.returned (gA (v.here ts))):=by
 have HV:=aG h
 have t:=h.rb.cell 1
 have T:Ce w br (1+0) (aB (fP (v.here ts).k)):=h.rb.cell 1
 have q:=h.rb.cell 2
 have S:Ce w br (1+1) (.string ⟨(v.here ts).text.toArray⟩):=h.rb.cell 2
 have Q:=h.rb.lt
 have P:=h.wb.lt
 have z:br≠w.heap.size:=by omega
 have p:w.heap.size≠br:=by omega
 have O:=h.isNum
 have u:=aG (h.below (ba _ (.cells #[.string ⟨#[]⟩,aB 0,aB 0,aB 0] 258)))
 cases A:((v.here ts).k !=110)
 ·rw[A]at O
  have B:(v.here ts).k=110:=by simpa using A
  have J:v.bad ts true=false:=by unfold V.bad;rw[B];rfl
  have W:=aG (V.named_yes (num:=true) J)
  have N:ej (v.here ts)=false:=by unfold ej;rw[B];rfl
  have g:=aG N
  have L:Hid (gA (v.here ts)=.agg #[.string ⟨#[]⟩,aB 0,aB 0,aB (BW (v.here ts).text)]):=by show _=_;simp[gA,nv,FG,tQ,B]
  have G:Hid ((∀c,c∈(v.here ts).text->dR c=true)/\1<=(v.here ts).text.length/\(v.here ts).text.length<=6):=by
   obtain⟨i,_,e⟩:=V.here_lex h.tk h.lt
   have R:=B
   rw[e]at R
   show _/\_
   rw[e]
   exact EH _ _ R
  clear h J A N B
  go_in
  go_wp2_with fail
  refine(Tryz.strconv_Atoi _ ((BW (v.here ts).text:Nat):Int) (by show(v.here ts).text.length<=18;have:=G.out;omega) (CU _ G.1 G.2.1) _).mono ?_
  rintro e Y ⟨rfl,tt,M⟩
  have C:Below (w.heap.size+1) (w.alloc (.cells #[.string ⟨#[]⟩,aB 0,aB 0,aB 0] 258)) Y:=by rw[M];exact Go.Joins.below_bytesWorld _ _ _ _ (by simp)
  obtain⟨m,f⟩:=aN (u.below (show Below _ _ _ by simpa using C)) ((aM.new w #[.string ⟨#[]⟩,aB 0,aB 0,aB 0] 258).below (show Below _ _ _ by simpa using C))
  have X:Hid (aC (gO br bw) w Y):=((aC.refl (gO br bw) w).alloc _).below (show Below _ _ _ by simpa using C)
  have y:w.heap.size+1<=Y.heap.size:=by have:=C.size;simpa using this
  clear M C t T q S
  go_wp2_with fail
  refine(rL m g).mono ?_
  rintro e K ⟨A,⟨E,D,rfl⟩|⟨E,b,rfl,D⟩⟩
  ·have H:=A.size
   have a:w.heap.size< K.heap.size:=by omega
   have d:¬gO br bw w.heap.size:=fun e=>by unfold gO at e;omega
   have F:=aG (f.kept A d)
   have Z:=F.cell 0
   have r1:=F.cell 1
   have r2:=F.cell 2
   have r3:=F.cell 3
   have x:=F.fz
   obtain⟨l,o,n⟩:=bY (X.trans A) E D
   clear A E D H
   go_wp2_with fail
   refine bodyPost_ret (v:=gA (v.here ts)) (by rw[L.out];simp[results,Tryz.results191,go_sem,Z,r1,r2,r3]) rfl ?_
   rw[W.out]
   exact kq.ret l o n (((((aC.refl (aK w.heap.size) K).set1 0 _).set1 1 _).set1 2 _).set1 3 _) (Nat.le_refl _) Q P rfl
  ·have j:Hid (kq w K br bw s ts (v.go1 ts) dep (ee b) (fun r _=>r=.returned (gA (v.here ts)))):=⟨X.trans A,.inr ⟨E,b,rfl,D⟩⟩
   clear A E D
   go_wp2_with fail
   rw[W.out]
   exact⟨rfl,j⟩
 ·rw[A]at O
  have B:(v.here ts).k≠110:=by simpa using A
  have W:Hid (v.named ts true=v.named ts false):=by
   show _=_;unfold V.named V.bad;have:((v.here ts).k==110)=false:=by simpa using B
   simp[this]
  have L:Hid (gA (v.here ts)=.agg #[.string ⟨(v.here ts).text.toArray⟩,aB (v.here ts).at_,aB 0,aB 0]):=by show _=_;simp[gA,nv,FG,tQ,B]
  clear h A B
  go_in
  go_wp2_with fail
  refine(jl u).mono ?_
  rintro e K ⟨A,⟨E,D,rfl⟩|⟨E,b,rfl,D⟩⟩
  ·have H:=A.size
   have a:w.heap.size< K.heap.size:=by simp at H;omega
   have d:¬gO br bw w.heap.size:=fun e=>by unfold gO at e;omega
   have F:=aG ((aM.new w #[.string ⟨#[]⟩,aB 0,aB 0,aB 0] 258).kept A d)
   have Z:=F.cell 0
   have r1:=F.cell 1
   have r2:=F.cell 2
   have r3:=F.cell 3
   have x:=F.fz
   obtain⟨l,o,n⟩:=bY A E D
   clear A E D H t T q S
   unfold gH
   go_wp2_with fail
   refine bodyPost_ret (v:=gA (v.here ts)) (by rw[L.out];simp[results,Tryz.results191,go_sem,Z,r1,r2,r3,gH]) rfl ?_
   rw[W.out]
   exact kq.ret (((aC.refl (gO br bw) w).alloc _).trans l) o n (((((aC.refl (aK w.heap.size) K).set1 0 _).set1 1 _).set1 2 _).set1 3 _) (Nat.le_refl _) Q P rfl
  ·have j:Hid (kq w K br bw s ts (v.named ts false) dep (ee b) (fun r _=>r=.returned (gA (v.here ts)))):=⟨((aC.refl (gO br bw) w).alloc _).trans A,.inr ⟨E,b,rfl,D⟩⟩
   clear A E D
   go_wp2_with fail
   rw[W.out]
   exact⟨rfl,j⟩
end
end
theorem V.listLoop_no{ts:List bB}{v:V}(h:v.ok=false)(num:Bool):(V.listLoop ts num v).2=v:=by
 unfold V.listLoop
 split
 ·rfl
 ·cases ts.length with
  |zero=>rfl
  |succ f=>simp[V.listF,V.named_no h,h]
theorem dw{w':World}{S:Nat->Prop}{B e size:Nat}{E:List Value}(h:w.ownsRow B e size v n E)(k:aC S w w')(H:∀i,S i->i< B):w'.ownsRow B e size v n E:=by
 refine⟨h.1,?_⟩
 rcases h.2 with G|⟨g,cap,D,F,hg,C,r⟩
 ·exact .inl G
 ·have A:g< w.heap.size:=by
   rcases Nat.lt_or_ge g w.heap.size with h|h
   ·exact h
   ·rw[Array.getElem?_eq_none h]at C;cases C
  exact .inr ⟨g,cap,D,F,hg,by rw[k.block g A (fun e=>by have:=H g e;omega)];exact C,r⟩
def pR(t:bB):List Value:=[.string ⟨t.text.toArray⟩,.int .i64 t.at_,.int .i64 0]
def gI(l:List bB):List Value:=l.flatMap pR
theorem ve(l:List bB)(t:bB):gI (l++[t])=gI l++pR t:=by simp[gI]
theorem zH(t:bB):(pR t).length=3:=by rfl
theorem zG(t:bB):∀u∈pR t,u.oneCell'=true:=by intro u A;simp[pR]at A;rcases A with h|h|h<;>subst h<;>rfl
theorem qU:(Tryz.prog.info? 119).map (fun i=>(i.zero,i.size,i.bytes))=some (some (.agg #[.string ⟨#[]⟩,aB 0,aB 0]),3,32):=by kernel_rfl
structure yj(w wr:World)(br bw:Nat)(s:ByteArray)(ts:List bB)(R:List bB×V)(acc:List bB)(v:V)(l:Value)(dep:Nat):Prop where
 own:wr.ownsRow w.heap.size 119 3 l (acc.length+1) (gI (acc++[v.here ts]))
 rv:RV wr br bw s ts (v.named ts false) dep
 kp:aC (gO br bw) w wr
 la:dJ ts false R acc v true
 lt:v.i< ts.length
theorem zy{s:ByteArray}{ts:List bB}{v:V}{f:Nat}(h:RV w c d s ts v f):
  Calls Tryz.prog 61 #[Pt c 0,.func (.func 59) #[Pt c 0] #[]] w fun r w'=>kq w w' c d s ts (V.list ts false v).2 f r (fun r w'=>∃l,r=.returned l/\w'.ownsRow w.heap.size 119 3 l (V.list ts false v).1.length (gI (V.list ts false v).1)):=by
 obtain⟨i0,hi,a6,a5,a4⟩:=info_parts qU
 obtain⟨HV,HT⟩:=aN h h.tk
 have ai:=h.rb.lt
 have ah:=h.wb.lt
 have h7:ts.length<=701:=by have:=h.tk.len;rw[dt]at this;have:=h.sz;omega
 have j:Hid (V.list ts false v=((V.listLoop ts false (v.must ts [40])).1,(V.listLoop ts false (v.must ts [40])).2.must ts [41])):=rfl
 clear h
 go_in
 go_wp2_with fail
 refine(gV HV ⟨#[40]⟩).mono ?_
 rintro e w1 ⟨X,⟨A,B,rfl⟩|⟨A,b,rfl,B⟩⟩
 case inr=>
  have E:Hid (kq w w1 c d s ts (V.list ts false v).2 f (ee b) (fun r w'=>∃l,r=.returned l/\w'.ownsRow w.heap.size 119 3 l (V.list ts false v).1.length (gI (V.list ts false v).1))):=by
   refine⟨X,.inr ?_⟩
   have t:(v.must ts [40]).ok=false:=A
   rw[j.out]
   simp only[V.listLoop_no t,V.must_no t]
   exact⟨t,b,rfl,B⟩
  clear X A B
  go_wp2_with fail
  exact⟨rfl,E⟩
 case inl=>
 have P:Hid (RV w1 c d s ts (v.must ts [40]) f):=B
 obtain⟨Q,HS⟩:=aN X (dJ.start ts false (v.must ts [40]))
 clear X A B HV
 generalize a8:v.must ts [40]=J at *
 clear a8
 cases O:J.at ts [41]
 ·have T:=aG O
  rw[O]at HS
  clear O
  generalize hR:V.listLoop ts false J=R at *
  clear hR
  go_wp2_with fail
  refine(dx P ⟨#[41]⟩ T).mono ?_
  rintro e wq ⟨rfl,hq⟩
  subst wq
  go_wp2_with fail
  refine(jl P).mono ?_
  rintro e W ⟨D,⟨A,B,rfl⟩|⟨A,b,rfl,B⟩⟩
  case inr=>
   have E:Hid (kq w W c d s ts (V.list ts false v).2 f (ee b) (fun r w'=>∃l,r=.returned l/\w'.ownsRow w.heap.size 119 3 l (V.list ts false v).1.length (gI (V.list ts false v).1))):=by
    refine⟨Q.trans D,.inr ?_⟩
    have G:=(dJ.stop P.lt HS (by rw[A,Bool.and_false])).1
    rw[j.out,G]
    simp only[V.must_no A]
    exact⟨A,b,rfl,B⟩
   clear D A B
   go_wp2_with fail
   exact⟨rfl,E⟩
  case inl=>
  obtain⟨ak,ad⟩:=aN B (Q.trans D)
  have z:w.heap.size<=W.heap.size:=ad.size
  have ac:Hid (yj w (W.alloc (.cells (pR (J.here ts)).toArray 119)) c d s ts R [] J (.slice (some (Ad W.heap.size 0)) 1 1) f):=
   ⟨jJ _ _ (by simp[gI,zH]) (by simp[gI]) z,B.below (ba _ _),(Q.trans D).alloc _,HS,P.lt⟩
  clear A B D
  unfold gH
  go_wp2_with fail
  go_loopg [5] ts.length (fun g l wr=>∃u n,ts.length<=g+n.i/\Hid (yj w wr c d s ts R u n l f))
  case atStart=>exact⟨[],J,by omega,ac⟩
  case round=>
   obtain⟨u,n,hg,H⟩:=hrel
   have af:=H.lt
   have aj:=H.la.len
   have x:=aG H.rv
   cases q:(n.named ts false).at ts [44]
   ·have HC:=aG q
    have G:=(dJ.stop H.lt H.la (by rw[q];rfl)).1
    have Z:=aG G
    clear q G
    go_wp2_with fail
    refine(dx x ⟨#[44]⟩ HC).mono ?_
    rintro e wq ⟨rfl,hq⟩
    subst wq
    go_wp2_with fail
    refine(gV x ⟨#[41]⟩).mono ?_
    rintro e w5 ⟨L,⟨A,B,rfl⟩|⟨A,b,rfl,B⟩⟩
    ·have E:Hid (aC (gO c d) w w5/\((n.named ts false).must ts [41]).ok=true/\RV w5 c d s ts ((n.named ts false).must ts [41]) f):=⟨H.kp.trans L,A,B⟩
     have aa:=aG (dw H.own L (fun i e=>by rcases e with e|e<;>omega))
     clear L A B
     go_wp2_with fail
     go_ret
     refine⟨E.1,.inl ⟨?_,?_,_,rfl,?_⟩⟩
     ·rw[j.out,Z.out];exact E.2.1
     ·rw[j.out,Z.out];exact E.2.2
     ·rw[j.out,Z.out]
      simp only[List.length_append,List.length_cons,List.length_nil]
      exact aa
    ·have E:Hid (kq w w5 c d s ts (V.list ts false v).2 f (ee b) (fun r w'=>∃l,r=.returned l/\w'.ownsRow w.heap.size 119 3 l (V.list ts false v).1.length (gI (V.list ts false v).1))):=by
      refine⟨H.kp.trans L,.inr ?_⟩
      rw[j.out,Z.out]
      exact⟨A,b,rfl,B⟩
     clear L A B
     go_wp2_with fail
     exact⟨rfl,E⟩
   ·have HC:=aG q
    have p:=dJ.more HT H.lt x.lt H.la (by rw[q,x.out.ok];rfl)
    rw[V.must_yes q]at p
    have m:=aG p
    clear q p
    go_wp2_with fail
    refine(cK x ⟨#[44]⟩ HC).mono ?_
    rintro e w3 ⟨N,⟨A,B,rfl⟩|⟨A,b,rfl,B⟩⟩
    case inr=>
     have E:Hid (kq w w3 c d s ts (V.list ts false v).2 f (ee b) (fun r w'=>∃l,r=.returned l/\w'.ownsRow w.heap.size 119 3 l (V.list ts false v).1.length (gI (V.list ts false v).1))):=by
      refine⟨H.kp.trans N,.inr ?_⟩
      have G:=(dJ.stop (V.go1_lt x.lt) m.1 (by rw[V.named_no A,A,Bool.and_false])).1
      rw[j.out,G]
      simp only[V.named_no A,V.must_no A]
      exact⟨A,b,rfl,B⟩
     clear N A B
     go_wp2_with fail
     exact⟨rfl,E⟩
    case inl=>
    obtain⟨Y,y,o⟩:=bY B (H.kp.trans N) (dw H.own N (fun i e=>by rcases e with e|e<;>omega))
    clear A B N x
    generalize a7:(n.named ts false).go1 ts=v2 at *
    clear a7
    go_wp2_with fail
    refine(jl Y).mono ?_
    rintro e w4 ⟨M,⟨A,B,rfl⟩|⟨A,b,rfl,B⟩⟩
    case inr=>
     have E:Hid (kq w w4 c d s ts (V.list ts false v).2 f (ee b) (fun r w'=>∃l,r=.returned l/\w'.ownsRow w.heap.size 119 3 l (V.list ts false v).1.length (gI (V.list ts false v).1))):=by
      refine⟨y.trans M,.inr ?_⟩
      have G:=(dJ.stop Y.lt m.1 (by rw[A,Bool.and_false])).1
      rw[j.out,G]
      simp only[V.must_no A]
      exact⟨A,b,rfl,B⟩
     clear M A B
     go_wp2_with fail
     exact⟨rfl,E⟩
    case inl=>
    obtain⟨a1,a3⟩:=aN B (y.trans M)
    have C:=dw o M (fun i e=>by rcases e with e|e<;>omega)
    have ag:w.heap.size<=w4.heap.size:=a3.size
    have a9:=aG Y.lt
    clear A B M Y y o
    have a0:=zG (v2.here ts)
    have ae:=a1.lt
    unfold gH
    go_wp2_with (at_builtin;refine wpList_append_own _ rfl _ _ 120 rfl w.heap.size 119 i0 (.agg #[.string ⟨#[]⟩,aB 0,aB 0]) 3 32 Tryz.underlying120 hi a6 a5 a4 rfl (by decide) _ _ _ rfl (C.alloc _) (Ad w4.heap.size 0) 1 1 (pR (v2.here ts)) rfl rfl (cF _ _ _ _ (by simp)) a0 (by unfold maxLen;omega) (by omega) (by simp;omega) ?_;intro l2 w6 K F _)
    have ab:Hid (yj w w6 c d s ts R (u++[n.here ts]) v2 l2 f):=by
     refine⟨?_,(a1.below (ba _ _)).kept (S:=fun k=>Value.ownBlock _=some k) ((aC.refl _ _).grown F (fun k hk=>.inl hk)) (fun e=>by have:=(C.lt _ e).1;omega) (fun e=>by have:=(C.lt _ e).1;omega),(a3.alloc _).grown F (fun k hk=>.inr (C.lt k hk).1),m.1,?_⟩
     ·rw[ve];simpa using K
     ·exact a9
    clear F K C
    go_wp2_with fail
    go_roundg (gk-1)
    case measure=>omega
    case rel=>exact⟨_,v2,by have:=m.2;omega,ab⟩
 ·have T:=aG O
  clear O HS
  have a2:Hid (V.list ts false v=([],J.go1 ts)):=by show _=_;rw[j.out];unfold V.listLoop;rw[T.out];simp[V.must_yes T.out]
  go_wp2_with fail
  refine(cK P ⟨#[41]⟩ T).mono ?_
  rintro e W ⟨D,⟨A,B,rfl⟩|⟨A,b,rfl,B⟩⟩
  ·have E:Hid (aC (gO c d) w W/\(J.go1 ts).ok=true/\RV W c d s ts (J.go1 ts) f):=⟨Q.trans D,A,B⟩
   clear D A B
   go_wp2_with fail
   go_ret
   rw[a2.out]
   exact⟨E.1,.inl ⟨E.2.1,E.2.2,_,rfl,World.ownsRow_nil _ _ _ _⟩⟩
  ·have E:Hid (aC (gO c d) w W/\(J.go1 ts).ok=false/\aM W b #[aB (J.go1 ts).e,aB (J.go1 ts).a]):=⟨Q.trans D,A,B⟩
   clear D A B
   go_wp2_with fail
   rw[a2.out]
   exact⟨rfl,E.1,.inr ⟨E.2.1,b,rfl,E.2.2⟩⟩
def lk(t:bB):List Value:=[.string ⟨(nv t).toArray⟩,.int .i64 (FG t),.int .i64 0,.int .i64 (tQ t)]
def eh(l:List bB):List Value:=l.flatMap lk
theorem vH(l:List bB)(t:bB):eh (l++[t])=eh l++lk t:=by simp[eh]
theorem Ar(t:bB):(lk t).length=4:=by rfl
theorem sc(t:bB):∀u∈lk t,u.oneCell'=true:=by intro u A;simp[lk]at A;rcases A with h|h|h|h<;>subst h<;>rfl
theorem mj:(Tryz.prog.info? 258).map (fun i=>(i.zero,i.size,i.bytes))=some (some (.agg #[.string ⟨#[]⟩,aB 0,aB 0,aB 0]),4,40):=by kernel_rfl
structure yk(w wr:World)(br bw:Nat)(s:ByteArray)(ts:List bB)(R:List bB×V)(acc:List bB)(v:V)(l:Value)(dep:Nat):Prop where
 own:wr.ownsRow w.heap.size 258 4 l (acc.length+1) (eh (acc++[v.here ts]))
 rv:RV wr br bw s ts (v.named ts true) dep
 kp:aC (gO br bw) w wr
 la:dJ ts true R acc v true
 lt:v.i< ts.length
theorem zz{s:ByteArray}{ts:List bB}{v:V}{f:Nat}(h:RV w c d s ts v f):
  Calls Tryz.prog 296 #[Pt c 0,.func (.func 191) #[Pt c 0] #[]] w fun r w'=>kq w w' c d s ts (V.list ts true v).2 f r (fun r w'=>∃l,r=.returned l/\w'.ownsRow w.heap.size 258 4 l (V.list ts true v).1.length (eh (V.list ts true v).1)):=by
 obtain⟨i0,hi,a6,a5,a4⟩:=info_parts mj
 obtain⟨HV,HT⟩:=aN h h.tk
 have ai:=h.rb.lt
 have ah:=h.wb.lt
 have h7:ts.length<=701:=by have:=h.tk.len;rw[dt]at this;have:=h.sz;omega
 have j:Hid (V.list ts true v=((V.listLoop ts true (v.must ts [40])).1,(V.listLoop ts true (v.must ts [40])).2.must ts [41])):=rfl
 clear h
 go_in
 go_wp2_with fail
 refine(gV HV ⟨#[40]⟩).mono ?_
 rintro e w1 ⟨X,⟨A,B,rfl⟩|⟨A,b,rfl,B⟩⟩
 case inr=>
  have E:Hid (kq w w1 c d s ts (V.list ts true v).2 f (ee b) (fun r w'=>∃l,r=.returned l/\w'.ownsRow w.heap.size 258 4 l (V.list ts true v).1.length (eh (V.list ts true v).1))):=by
   refine⟨X,.inr ?_⟩
   have t:(v.must ts [40]).ok=false:=A
   rw[j.out]
   simp only[V.listLoop_no t,V.must_no t]
   exact⟨t,b,rfl,B⟩
  clear X A B
  go_wp2_with fail
  exact⟨rfl,E⟩
 case inl=>
 have P:Hid (RV w1 c d s ts (v.must ts [40]) f):=B
 obtain⟨Q,HS⟩:=aN X (dJ.start ts true (v.must ts [40]))
 clear X A B HV
 generalize a8:v.must ts [40]=J at *
 clear a8
 cases O:J.at ts [41]
 ·have T:=aG O
  rw[O]at HS
  clear O
  generalize hR:V.listLoop ts true J=R at *
  clear hR
  go_wp2_with fail
  refine(dx P ⟨#[41]⟩ T).mono ?_
  rintro e wq ⟨rfl,hq⟩
  subst wq
  go_wp2_with fail
  refine(om P).mono ?_
  rintro e W ⟨D,⟨A,B,rfl⟩|⟨A,b,rfl,B⟩⟩
  case inr=>
   have E:Hid (kq w W c d s ts (V.list ts true v).2 f (ee b) (fun r w'=>∃l,r=.returned l/\w'.ownsRow w.heap.size 258 4 l (V.list ts true v).1.length (eh (V.list ts true v).1))):=by
    refine⟨Q.trans D,.inr ?_⟩
    have G:=(dJ.stop P.lt HS (by rw[A,Bool.and_false])).1
    rw[j.out,G]
    simp only[V.must_no A]
    exact⟨A,b,rfl,B⟩
   clear D A B
   go_wp2_with fail
   exact⟨rfl,E⟩
  case inl=>
  obtain⟨ak,ad⟩:=aN B (Q.trans D)
  have z:w.heap.size<=W.heap.size:=ad.size
  have ac:Hid (yk w (W.alloc (.cells (lk (J.here ts)).toArray 258)) c d s ts R [] J (.slice (some (Ad W.heap.size 0)) 1 1) f):=
   ⟨jJ _ _ (by simp[eh,Ar]) (by simp[eh]) z,B.below (ba _ _),(Q.trans D).alloc _,HS,P.lt⟩
  clear A B D
  unfold gA
  go_wp2_with fail
  go_loopg [5] ts.length (fun g l wr=>∃u n,ts.length<=g+n.i/\Hid (yk w wr c d s ts R u n l f))
  case atStart=>exact⟨[],J,by omega,ac⟩
  case round=>
   obtain⟨u,n,hg,H⟩:=hrel
   have af:=H.lt
   have aj:=H.la.len
   have x:=aG H.rv
   cases q:(n.named ts true).at ts [44]
   ·have HC:=aG q
    have G:=(dJ.stop H.lt H.la (by rw[q];rfl)).1
    have Z:=aG G
    clear q G
    go_wp2_with fail
    refine(dx x ⟨#[44]⟩ HC).mono ?_
    rintro e wq ⟨rfl,hq⟩
    subst wq
    go_wp2_with fail
    refine(gV x ⟨#[41]⟩).mono ?_
    rintro e w5 ⟨L,⟨A,B,rfl⟩|⟨A,b,rfl,B⟩⟩
    ·have E:Hid (aC (gO c d) w w5/\((n.named ts true).must ts [41]).ok=true/\RV w5 c d s ts ((n.named ts true).must ts [41]) f):=⟨H.kp.trans L,A,B⟩
     have aa:=aG (dw H.own L (fun i e=>by rcases e with e|e<;>omega))
     clear L A B
     go_wp2_with fail
     go_ret
     refine⟨E.1,.inl ⟨?_,?_,_,rfl,?_⟩⟩
     ·rw[j.out,Z.out];exact E.2.1
     ·rw[j.out,Z.out];exact E.2.2
     ·rw[j.out,Z.out]
      simp only[List.length_append,List.length_cons,List.length_nil]
      exact aa
    ·have E:Hid (kq w w5 c d s ts (V.list ts true v).2 f (ee b) (fun r w'=>∃l,r=.returned l/\w'.ownsRow w.heap.size 258 4 l (V.list ts true v).1.length (eh (V.list ts true v).1))):=by
      refine⟨H.kp.trans L,.inr ?_⟩
      rw[j.out,Z.out]
      exact⟨A,b,rfl,B⟩
     clear L A B
     go_wp2_with fail
     exact⟨rfl,E⟩
   ·have HC:=aG q
    have p:=dJ.more HT H.lt x.lt H.la (by rw[q,x.out.ok];rfl)
    rw[V.must_yes q]at p
    have m:=aG p
    clear q p
    go_wp2_with fail
    refine(cK x ⟨#[44]⟩ HC).mono ?_
    rintro e w3 ⟨N,⟨A,B,rfl⟩|⟨A,b,rfl,B⟩⟩
    case inr=>
     have E:Hid (kq w w3 c d s ts (V.list ts true v).2 f (ee b) (fun r w'=>∃l,r=.returned l/\w'.ownsRow w.heap.size 258 4 l (V.list ts true v).1.length (eh (V.list ts true v).1))):=by
      refine⟨H.kp.trans N,.inr ?_⟩
      have G:=(dJ.stop (V.go1_lt x.lt) m.1 (by rw[V.named_no A,A,Bool.and_false])).1
      rw[j.out,G]
      simp only[V.named_no A,V.must_no A]
      exact⟨A,b,rfl,B⟩
     clear N A B
     go_wp2_with fail
     exact⟨rfl,E⟩
    case inl=>
    obtain⟨Y,y,o⟩:=bY B (H.kp.trans N) (dw H.own N (fun i e=>by rcases e with e|e<;>omega))
    clear A B N x
    generalize a7:(n.named ts true).go1 ts=v2 at *
    clear a7
    go_wp2_with fail
    refine(om Y).mono ?_
    rintro e w4 ⟨M,⟨A,B,rfl⟩|⟨A,b,rfl,B⟩⟩
    case inr=>
     have E:Hid (kq w w4 c d s ts (V.list ts true v).2 f (ee b) (fun r w'=>∃l,r=.returned l/\w'.ownsRow w.heap.size 258 4 l (V.list ts true v).1.length (eh (V.list ts true v).1))):=by
      refine⟨y.trans M,.inr ?_⟩
      have G:=(dJ.stop Y.lt m.1 (by rw[A,Bool.and_false])).1
      rw[j.out,G]
      simp only[V.must_no A]
      exact⟨A,b,rfl,B⟩
     clear M A B
     go_wp2_with fail
     exact⟨rfl,E⟩
    case inl=>
    obtain⟨a1,a3⟩:=aN B (y.trans M)
    have C:=dw o M (fun i e=>by rcases e with e|e<;>omega)
    have ag:w.heap.size<=w4.heap.size:=a3.size
    have a9:=aG Y.lt
    clear A B M Y y o
    have a0:=sc (v2.here ts)
    have ae:=a1.lt
    unfold gA
    go_wp2_with (at_builtin;refine wpList_append_own _ rfl _ _ 216 rfl w.heap.size 258 i0 (.agg #[.string ⟨#[]⟩,aB 0,aB 0,aB 0]) 4 40 Tryz.underlying216 hi a6 a5 a4 rfl (by decide) _ _ _ rfl (C.alloc _) (Ad w4.heap.size 0) 1 1 (lk (v2.here ts)) rfl rfl (cF _ _ _ _ (by simp)) a0 (by unfold maxLen;omega) (by omega) (by simp;omega) ?_;intro l2 w6 K F _)
    have ab:Hid (yk w w6 c d s ts R (u++[n.here ts]) v2 l2 f):=by
     refine⟨?_,(a1.below (ba _ _)).kept (S:=fun k=>Value.ownBlock _=some k) ((aC.refl _ _).grown F (fun k hk=>.inl hk)) (fun e=>by have:=(C.lt _ e).1;omega) (fun e=>by have:=(C.lt _ e).1;omega),(a3.alloc _).grown F (fun k hk=>.inr (C.lt k hk).1),m.1,?_⟩
     ·rw[vH];simpa using K
     ·exact a9
    clear F K C
    go_wp2_with fail
    go_roundg (gk-1)
    case measure=>omega
    case rel=>exact⟨_,v2,by have:=m.2;omega,ab⟩
 ·have T:=aG O
  clear O HS
  have a2:Hid (V.list ts true v=([],J.go1 ts)):=by show _=_;rw[j.out];unfold V.listLoop;rw[T.out];simp[V.must_yes T.out]
  go_wp2_with fail
  refine(cK P ⟨#[41]⟩ T).mono ?_
  rintro e W ⟨D,⟨A,B,rfl⟩|⟨A,b,rfl,B⟩⟩
  ·have E:Hid (aC (gO c d) w W/\(J.go1 ts).ok=true/\RV W c d s ts (J.go1 ts) f):=⟨Q.trans D,A,B⟩
   clear D A B
   go_wp2_with fail
   go_ret
   rw[a2.out]
   exact⟨E.1,.inl ⟨E.2.1,E.2.2,_,rfl,World.ownsRow_nil _ _ _ _⟩⟩
  ·have E:Hid (aC (gO c d) w W/\(J.go1 ts).ok=false/\aM W b #[aB (J.go1 ts).e,aB (J.go1 ts).a]):=⟨Q.trans D,A,B⟩
   clear D A B
   go_wp2_with fail
   rw[a2.out]
   exact⟨rfl,E.1,.inr ⟨E.2.1,b,rfl,E.2.2⟩⟩
section
section
variable {w:World} {b:Nat} {p:Ph} {sr sb:Value}
theorem aM.pkind(H:aM w b (bK p sr sb))(m:Nat)(z:Int)(e:z=m):aM (w.setCell ⟨b,2,none⟩ (.int .i64 z)) b (bK {p with kind:=m} sr sb):=by subst e;exact H.set 2 _ (show 2< 14 by decide)
theorem aM.pop(H:aM w b (bK p sr sb))(m:Nat)(z:Int)(e:z=m):aM (w.setCell ⟨b,6,none⟩ (.int .i64 z)) b (bK {p with op:=m} sr sb):=by subst e;exact H.set 6 _ (show 6< 14 by decide)
theorem aM.pside(H:aM w b (bK p sr sb))(m:Nat):aM (w.setCell (Ad b 7) (aB m)) b (bK {p with side:=m} sr sb):=H.set 7 _ (show 7< 14 by decide)
theorem aM.pwa(H:aM w b (bK p sr sb))(m:Nat):aM (w.setCell (Ad b 8) (aB m)) b (bK {p with wa:=m} sr sb):=H.set 8 _ (show 8< 14 by decide)
theorem aM.pright(H:aM w b (bK p sr sb))(v:Value):aM (w.setCell (Ad b 12) v) b (bK p v sb):=H.set 12 _ (show 12< 14 by decide)
theorem aM.pblocks(H:aM w b (bK p sr sb))(v:Value):aM (w.setCell (Ad b 13) v) b (bK p sr v):=H.set 13 _ (show 13< 14 by decide)
theorem aM.pleft(H:aM w b (bK p sr sb))(t:aJ)(a n:Nat)(z:Int)(e:z=n):aM (((w.setCell ⟨b,3,none⟩ (.string ⟨t.toArray⟩)).setCell ⟨b,4,none⟩ (.int .i64 a)).setCell ⟨b,5,none⟩ (.int .i64 z)) b (bK {p with lt:=t,la:=a,ln:=n} sr sb):=by
 subst e;exact((H.set 3 _ (show 3< 14 by decide)).set 4 _ (show 4< 14 by decide)).set 5 _ (show 5< 14 by decide)
theorem aM.pnamed(H:aM w b (bK p sr sb))(t:aJ)(a n:Nat)(z:Int)(e:z=n):aM (((w.setCell ⟨b,9,none⟩ (.string ⟨t.toArray⟩)).setCell ⟨b,10,none⟩ (.int .i64 a)).setCell ⟨b,11,none⟩ (.int .i64 z)) b (bK {p with nt:=t,na:=a,nn:=n} sr sb):=by
 subst e;exact((H.set 9 _ (show 9< 14 by decide)).set 10 _ (show 10< 14 by decide)).set 11 _ (show 11< 14 by decide)
end
theorem bZ{B e size:Nat}{A:List Value}(h:w.ownsRow B e size v n A)(j:Nat)(u:Value)(C:b< B):(w.setCell ⟨b,j,none⟩ u).ownsRow B e size v n A:=
 dw (S:=aK b) h ((aC.refl _ w).set1 j u) (fun i e=>by have:i=b:=e;omega)
def tY(S:Nat->Prop)(w w':World)(br bw:Nat)(s:ByteArray)(ts:List bB)(v:V)(dep:Nat)(r:Ending)(R:Ending->World->Prop):Prop:=
 aC S w w'/\((v.ok=true/\RV w' br bw s ts v dep/\R r w')\/(v.ok=false/\dA w' r v.e v.a))
abbrev gK(br bw bs:Nat):Nat->Prop:=fun k=>gO br bw k\/k=bs
section
variable {w:World} {br bw bs:Nat} {s:ByteArray} {ts:List bB} {v:V} {dep:Nat} {p:Ph} {sr sb:Value}
theorem RV.setO(h:RV w br bw s ts v dep)(b j:Nat)(u:Value)(B:b≠br)(A:b≠bw):RV (w.setCell ⟨b,j,none⟩ u) br bw s ts v dep:=
 h.kept (S:=aK b) ((aC.refl _ w).set1 j u) (fun e=>B e.symm) (fun e=>A e.symm)
theorem aC.thr2{w':World}(k:aC (gO br bw) w w'):aC (gK br bw bs) w w':=k.mono (fun _ e=>.inl e)
theorem aC.thrS{a:World}(k:aC (gK br bw bs) a w)(j:Nat)(u:Value):aC (gK br bw bs) a (w.setCell (Ad bs j) u):=k.setCell (p:=Ad bs j) (.inl (.inr rfl)) u
def Jc(w':World)(B bs:Nat)(p:Ph)(l:List bB)(sb:Value):Prop:=∃sr,aM w' bs (bK p sr sb)/\w'.ownsRow B 258 4 sr l.length (eh l)
def V.sideV(ts:List bB)(v:V):V:=if(v.here ts).text=[108]\/(v.here ts).text=[114]then v.named ts false else(v.named ts false).flt 5 (v.here ts).at_
def fX(t:aJ):Nat:=if t=[114]then 1 else 0
theorem Gf(h:RV w br bw s ts v dep):
  Calls Tryz.prog 266 #[Pt br 0] w fun r w'=>kq w w' br bw s ts (V.sideV ts v) dep r (fun r _=>r=.returned (aB (fX (v.here ts).text))):=by
 have X:=aG h
 clear h
 go_in
 go_wp2_with fail
 refine(jl X).mono ?_
 rintro e S ⟨K,⟨E,D,rfl⟩|⟨E,b,rfl,D⟩⟩
 ·have P:=aG K
  obtain⟨R,T⟩:=aN E D
  clear K E D
  have B:Hid (V.sideV ts v=if(v.here ts).text=[108]\/(v.here ts).text=[114]then v.named ts false else(v.named ts false).flt 5 (v.here ts).at_):=rfl
  have F:Hid (fX (v.here ts).text=if(v.here ts).text=[114]then 1 else 0):=rfl
  generalize A:(v.here ts).text=G at *
  replace A:=aG A
  unfold gH
  rw[A.out]
  by_cases J:G=[108]
  ·subst J
   obtain⟨C,Q⟩:=aN (B.trans (if_pos (.inl rfl))) (F.trans (if_neg (by decide)))
   go_wp2_with fail
   go_ret
   rw[C.out,A.out,Q.out]
   exact⟨P.alloc _,.inl ⟨R,T.below (ba _ _),rfl⟩⟩
  ·by_cases H:G=[114]
   ·subst H
    obtain⟨C,Q⟩:=aN (B.trans (if_pos (.inr rfl))) (F.trans (if_pos rfl))
    go_wp2_with fail
    go_ret
    rw[C.out,A.out,Q.out]
    exact⟨P.alloc _,.inl ⟨R,T.below (ba _ _),rfl⟩⟩
   ·have Z:(G==[108])=false:=beq_eq_false_iff_ne.2 J
    have W:(G==[114])=false:=beq_eq_false_iff_ne.2 H
    have C:=aG (B.trans (if_neg (fun e=>e.elim J H)))
    clear J H
    go_wp2_with fail
    refine(cO 5 (v.here ts).at_ _).mono ?_
    rintro e Y ⟨⟨b,rfl,O⟩,N⟩
    replace O:=aG O
    replace N:=aG N
    go_wp2_with fail
    rw[C.out]
    have M:=V.flt_yes R 5 (v.here ts).at_ (by decide)
    exact⟨rfl,(P.alloc _).below N,.inr ⟨M.1,b,rfl,by rw[M.2.1,M.2.2];exact O⟩⟩
 ·have L:Hid (aC (gO br bw) w S/\(v.named ts false).ok=false/\aM S b #[aB (v.named ts false).e,aB (v.named ts false).a]):=⟨K,E,D⟩
  clear K E D
  go_wp2_with fail
  have C:V.sideV ts v=v.named ts false:=by unfold V.sideV;rw[V.flt_no L.out.2.1,ite_self]
  rw[C]
  exact⟨rfl,L.1,.inr ⟨L.2.1,b,rfl,L.2.2⟩⟩
theorem BP(h:RV w br bw s ts v dep)(t:bB)(B:aM w bs (bK p sr sb))(H:bs≠br)(G:bs≠bw):
  Calls Tryz.prog 265 #[Pt br 0,Pt bs 0,gH t] w fun r w'=>tY (gK br bw bs) w w' br bw s ts (V.list ts true v).2 dep r (fun r w'=>r=.returned (.tuple #[])/\Jc w' w.heap.size bs {p with kind:=11,nt:=t.text,na:=t.at_,nn:=0} (V.list ts true v).1 sb):=by
 obtain⟨f,g⟩:=aN h B
 have X:=B.lt
 have c:Ce w bs 2 (aB p.kind):=B.cell 2
 have Z:Ce w bs 9 (.string ⟨p.nt.toArray⟩):=B.cell 9
 have N:Ce w bs 10 (aB p.na):=B.cell 10
 have M:Ce w bs 11 (aB p.nn):=B.cell 11
 have Y:=B.fz
 have W:∀(R:Fn) (first cap:Array Value) (w:World),(Instr.makeFunc R first cap).run Tryz.prog w=.ok (.func R first cap) w:=fun _ _ _ _=>rfl
 clear h B
 unfold gH
 go_in
 go_wp2_with fail
 obtain⟨O,P⟩:=aN (((((f.setO bs 2 (aB 11) H G).setO bs 9 (.string ⟨t.text.toArray⟩) H G).setO bs 10 (aB t.at_) H G).setO bs 11 (aB 0) H G).below (ba _ (.cells #[.string ⟨t.text.toArray⟩,aB t.at_,aB 0] 119))) (((g.pkind 11 11 rfl).pnamed t.text t.at_ 0 0 rfl).alloc (.cells #[.string ⟨t.text.toArray⟩,aB t.at_,aB 0] 119))
 refine(zz O).mono ?_
 rintro e K ⟨L,T⟩
 have D:aC (gK br bw bs) w K:=((((((aC.refl (gK br bw bs) w).thrS 2 _).thrS 9 _).thrS 10 _).thrS 11 _).alloc _).trans L.thr2
 obtain⟨J,C⟩:=aN D (P.kept L (fun e=>by rcases e with e|e<;>contradiction))
 clear D L
 rcases T with⟨F,E,l,rfl,A⟩|⟨F,b,rfl,E⟩
 ·have j:=aG F
  have i:=aG E
  obtain⟨k,cl,rfl⟩:=aI A
  have Q:=aG (cU A (show w.heap.size<=_ by simp[World.setCell]))
  have d:Ce K bs 12 sr:=C.cell 12
  have Mh:=C.fz
  clear F E A c Z N M Y
  go_wp2_with fail
  go_end0
  refine⟨J.thrS 12 _,.inl ⟨j,i.setO bs 12 _ H G,rfl,_,C.pright _,?_⟩⟩
  exact bZ Q _ _ (by omega)
 ·have S:Hid ((V.list ts true v).2.ok=false/\aM K b #[aB (V.list ts true v).2.e,aB (V.list ts true v).2.a]):=⟨F,E⟩
  clear F E
  go_wp2_with fail
  exact⟨rfl,J,.inr ⟨S.1,b,rfl,S.2⟩⟩
theorem BM(h:RV w br bw s ts v dep)(K:aM w bs (bK p sr sb))(S:bs≠br)(R:bs≠bw)(J:ej (v.here ts)=false):
  Calls Tryz.prog 193 #[Pt br 0,Pt bs 0] w fun r w'=>tY (gK br bw bs) w w' br bw s ts (V.list ts true ((v.go1 ts).named ts false)).2 dep r (fun r w'=>r=.returned (.tuple #[])/\Jc w' w.heap.size bs {p with kind:=7,wa:=(v.here ts).at_,nt:=((v.go1 ts).here ts).text,na:=((v.go1 ts).here ts).at_,nn:=0} (V.list ts true ((v.go1 ts).named ts false)).1 sb):=by
 obtain⟨q,t,f⟩:=bY h K J
 have Q:=K.lt
 have o:=h.rb.cell 3
 have T:Ce w br (1+2) (aB (v.here ts).at_):=h.rb.cell 3
 have n:Ce w bs 8 (aB p.wa):=K.cell 8
 have l:=K.fz
 clear h K J
 go_in
 go_wp2_with fail
 refine(rL (q.setO bs 8 _ S R) f).mono ?_
 rintro e j ⟨E,H⟩
 have M:Hid (aC (gK br bw bs) w j):=((aC.refl (gK br bw bs) w).thrS 8 _).trans E.thr2
 have d:=aG ((t.pwa (v.here ts).at_).kept E (fun e=>by rcases e with e|e<;>contradiction))
 clear E o T n l
 rcases H with⟨B,A,rfl⟩|⟨B,b,rfl,A⟩
 case inr=>
  have D:Hid ((v.go1 ts).ok=false/\aM j b #[aB (v.go1 ts).e,aB (v.go1 ts).a]):=⟨B,A⟩
  clear B A
  go_wp2_with fail
  have e:(V.list ts true ((v.go1 ts).named ts false)).2=v.go1 ts:=by rw[V.named_no D.out.1,V.list_no D.out.1]
  rw[e]
  exact⟨rfl,M,.inr ⟨D.1,b,rfl,D.2⟩⟩
 case inl=>
 have Y:=aG A
 clear B A
 generalize C:v.go1 ts=F at *
 replace C:=aG C
 go_wp2_with fail
 refine(jl Y).mono ?_
 rintro e m ⟨E,H⟩
 obtain⟨G,c⟩:=aN (M.trans E.thr2) (d.kept E (fun e=>by rcases e with e|e<;>contradiction))
 clear E
 rcases H with⟨B,A,rfl⟩|⟨B,b,rfl,A⟩
 case inr=>
  have D:Hid ((F.named ts false).ok=false/\aM m b #[aB (F.named ts false).e,aB (F.named ts false).a]):=⟨B,A⟩
  clear B A
  go_wp2_with fail
  have e:(V.list ts true ((v.go1 ts).named ts false)).2=F.named ts false:=by rw[C.out,V.list_no D.out.1]
  rw[e]
  exact⟨rfl,G,.inr ⟨D.1,b,rfl,D.2⟩⟩
 case inl=>
 have X:=aG A
 have P:=G.size
 clear B A
 go_wp2_with fail
 refine(BP X (F.here ts) c S R).mono ?_
 rintro e i ⟨E,H⟩
 have L:=aG (G.trans E)
 clear E
 rcases H with⟨B,A,rfl,O,N,k⟩|⟨B,b,rfl,A⟩
 case inr=>
  have D:Hid ((V.list ts true (F.named ts false)).2.ok=false/\aM i b #[aB (V.list ts true (F.named ts false)).2.e,aB (V.list ts true (F.named ts false)).2.a]):=⟨B,A⟩
  clear B A
  go_wp2_with fail
  rw[C.out]
  exact⟨rfl,L,.inr ⟨D.1,b,rfl,D.2⟩⟩
 case inl=>
 obtain⟨u,W,Z,g⟩:=fK B A N (cU k P)
 have x:Ce i bs 2 (aB 11):=N.cell 2
 have l:=N.fz
 clear B A N k
 go_wp2_with fail
 go_end0
 rw[C.out]
 exact⟨L.thrS 2 _,.inl ⟨u,W.setO bs 2 _ S R,rfl,O,Z.pkind 7 7 rfl,bZ g _ _ Q⟩⟩
end
end
end Go.Proofs.YtajfbbldaiaolaaGreatDoor
