import Derived.OwnWalkIn
import Derived.Laws.EntriesVeiled
import Derived.Test.YtmdaflepdaiabaaGreatDoorQ14
set_option linter.unusedSimpArgs false
set_option linter.unusedVariables false
namespace Go.Proofs.YtmdaflepdaiabaaGreatDoor
section
set_option maxRecDepth 100000
set_option maxHeartbeats 4000000
open Go.RowKit Go.Shelf
attribute [local go_sem] Oper.semAt_some
theorem qZ:(Tryz.prog.info? 173).map (fun i=>(i.zero,i.size,i.bytes))=some (some (.int .u64 0),1,8):=by kernel_rfl
theorem yw:(List.range 64).all (fun n=>els (cj (aC n))==List.range n)=true:=by kernel_rfl
theorem ou{n:Nat}(hn:n< 64):els (cj (aC n))=List.range n:=by
 have h:=List.all_eq_true.1 yw n (List.mem_range.2 hn)
 exact beq_iff_eq.1 h
namespace Rp
def belowOf(x:Rp)(k:Nat):Nat:=(bK x.withinOf 70 (x.withinOf k) (x.withinOf k)).getD 0
def belowL(x:Rp):List Nat:=(List.range x.starts.length).map x.belowOf
end Rp
structure yS(x:Rp):Prop where
 lt:∀k,k< x.starts.length→x.withinOf k< bI
 re:∀k,k< x.starts.length→bK x.withinOf 70 (x.withinOf k) (x.withinOf k)=some (x.belowOf k)
 sub:∀k,k< x.starts.length→∀i,i< 64→(x.belowOf k).testBit i=true→i< x.starts.length
 runs:x.runs.length=x.starts.length+1
 len:x.starts.length< 60
def rm(base B:Nat)(bt e:TypeId)(n:Nat)(xs:List Value)(W:World):Prop:=∃v,Boxed W B bt v∧W.ownsRow base e 1 v n xs
theorem nU{β:Type}(base B:Nat)(bt e:TypeId)(n:β→Nat)(xs:β→List Value):_root_.Go.Own (fun s W=>rm base B bt e (n s) (xs s) W):=fun s X Y row hs hg hrow=>by
 obtain⟨v,h1,h2⟩:=hs
 refine⟨v,boxed_own (β:=Unit) B bt (fun _=>v) () X Y row h1 hg hrow,h2.kept hg ?_⟩
 rcases h2.2 with⟨rfl,_⟩|⟨g,cap,cur,rfl,hb,hgg,_⟩
 ·exact Or.inl rfl
 ·refine Or.inr fun e'=>?_
  obtain⟨o,ho,hc⟩:=hrow g (by rw[←e'];rfl)
  rw[hgg]at ho;cases ho;cases hc
noncomputable def wO(P:Program)(ats:Array TypeId)(ty:TypeId)(args:Array Value)(w:World):Value:=match(Builtin.append_ ats ty args).run P w with|.ok v _=>v|.halt _ _=>undef
noncomputable def wN(P:Program)(ats:Array TypeId)(ty:TypeId)(args:Array Value)(w:World):World:=match(Builtin.append_ ats ty args).run P w with|.ok _ w'=>w'|.halt _ _=>w
def xj(P:Program)(ats:Array TypeId)(ty:TypeId)(args:Array Value)(w:World):Prop:=∃v w',(Builtin.append_ ats ty args).run P w=.ok v w'
theorem lm{P:Program}{ats:Array TypeId}{ty:TypeId}{args:Array Value}{w:World}(h:xj P ats ty args w):(Builtin.append_ ats ty args).run P w=.ok (wO P ats ty args w) (wN P ats ty args w):=by
 obtain⟨v,w',e⟩:=h
 unfold wO wN
 rw[e]
theorem tE{P:Program}{ats:Array TypeId}{ty:TypeId}{args:Array Value}{w w':World}{v:Value}(e:(Builtin.append_ ats ty args).run P w=.ok v w'):xj P ats ty args w∧wO P ats ty args w=v∧wN P ats ty args w=w':=by
 unfold wO wN
 rw[e]
 exact⟨⟨v,w',e⟩,rfl,rfl⟩
def Ap(ats:Array TypeId)(ty:TypeId)(args:Array Value):Sem Next:=do pure (.value (←Builtin.append_ ats ty args))
theorem kZ{ats:Array TypeId}{ty:TypeId}{cs:Array Bool}{args:Array Value}:builtin .append ats ty cs args=Ap ats ty args:=rfl
theorem pP{P:Program}{ats:Array TypeId}{ty:TypeId}{args:Array Value}{w:World}(h:xj P ats ty args w):(Ap ats ty args).run P w=.ok (.value (wO P ats ty args w)) (wN P ats ty args w):=by
 unfold Ap
 simp[Sem.run_bind,lm h,Result.andThen,Sem.run_pure]
attribute [local go_sem ↓ high] kZ
attribute [local go_sem] pP
theorem fO{W:World}{base B:Nat}{bt e:TypeId}{size n:Nat}{v u:Value}{xs:List Value}(h:W.ownsRow base e size v n xs)(hb:Boxed W B bt u)(hne:e≠bt):v.ownBlock≠some B:=by
 rcases h.2 with⟨rfl,_⟩|⟨g,cap,cur,rfl,_,hgg,_⟩
 ·exact fun e=>by cases e
 ·intro e'
  cases e'
  have hb':W.heap[g]?=_:=hb
  rw[hgg]at hb'
  cases hb'
  exact hne rfl
theorem oN{W:World}{base D:Nat}{e:TypeId}{size n:Nat}{v:Value}{xs:List Value}{o:Obj}(h:W.ownsRow base e size v n xs)(hk:W.heap[D]?=some o)(ho:o.isCells=false)(o':Obj):(W.putObj D o').ownsRow base e size v n xs:=by
 refine h.kept (grownBy_putObj' W D o') ?_
 rcases h.2 with⟨rfl,_⟩|⟨g,cap,cur,rfl,_,hgg,_⟩
 ·exact Or.inl rfl
 ·refine Or.inr fun e'=>?_
  cases e'
  rw[hgg]at hk
  cases hk
  cases ho
theorem iv{W W':World}{base:Nat}{e:TypeId}{size n:Nat}{v:Value}{xs:List Value}(h:W.ownsRow base e size v n xs)(hg:W.grownBy W' v.ownBlock):KeepsOthers W W':=by
 refine⟨hg.size,fun k o hk ho=>(hg.block k (Array.getElem?_eq_some_iff.1 hk).1 ?_).trans hk⟩
 rcases h.2 with⟨rfl,_⟩|⟨g,cap,cur,rfl,_,hgg,_⟩
 ·exact fun e=>by cases e
 ·intro e'
  cases e'
  rw[hgg]at hk
  cases hk
  cases ho
theorem zt{w:World}{bR:Nat}{x:Rp}(h:aP w bR x)(ok:ei x)(sp:ci x)(ag:jH x)(bw:yS x)(hg:0< w.heap.size)(hT:Tz w):
  Calls Tryz.prog 93 #[ak bR] w fun r w'=>∃v,r=.returned v∧w'.ownsRow w.heap.size 173 1 v x.starts.length (aH x.belowL)∧Below w.heap.size w w':=by
 obtain⟨i0,hi,hz0,hz1,hz2⟩:=info_parts qZ
 have hlen:=bw.len
 refine(callsIn_wide (n:=3)).1 ?_
 refine callsIn_of_wp_marks Tryz.func93 rfl trivial ?_ rfl
 simp only[Tryz.ntmps93,List.size_toArray,List.length_cons,List.length_nil,Nat.reduceAdd,Nat.reduceSub,Array.replicate_succ,Array.replicate_zero,List.push_toArray,List.append_toArray,List.nil_append,List.cons_append]
 have HWI:Hid (∀W k,Below w.heap.size w W→W.cell? ⟨w.heap.size,0,none⟩=some (ak bR)→k< x.starts.length→Calls Tryz.prog 142 #[.int .i64 k,.pointer (some ⟨w.heap.size,0,none⟩)] W fun r w'=>r=.returned (.int .u64 (x.withinOf k))∧Below W.heap.size W w'):=fun W k kk c1 hk=>xF (h.keep kk) ok sp ag (Nat.lt_of_lt_of_le hg kk.size) (hT.below kk) (by omega) (by rw[bw.runs];omega) (by rw[bw.runs];omega) c1
 have HRE:Hid (∀W k,Below w.heap.size w W→Boxed W w.heap.size 163 (ak bR)→k< x.starts.length→Calls Tryz.prog 146 #[.int .u64 (x.withinOf k),.func (.func 142) #[] #[.pointer (some ⟨w.heap.size,0,none⟩)]] W fun r w'=>r=.returned (.int .u64 (x.belowOf k))∧Below W.heap.size W w'):=fun W k kk bx hk=>rJ (x.withinOf k) (x.belowOf k) (bw.lt k hk) x.withinOf 142 #[] _ W (Nat.lt_of_lt_of_le hg kk.size) (hT.below kk) ⟨70,bw.re k hk⟩ (fun y W' hy hb k'=>HWI.out W' y (kk.trans (k'.mono kk.size)) (am bx k').cell (bw.sub k hk y hy hb)) nL
 have HAS:Hid (∀W,Below w.heap.size w W→Calls Tryz.prog 134 #[ak bR] W fun r w'=>r=.returned (.int .u64 (cj (aC x.starts.length)))∧w'=W):=fun W kk=>ip (h.keep kk) (by omega)
 obtain⟨W0,hW0⟩:∃W,W=((w.alloc (.cells #[ak bR] 163)).alloc (.cells #[.func (.func 142) #[] #[.pointer (some ⟨w.heap.size,0,none⟩)]] 258)).alloc (.cells #[.slice none 0 0] 201):=⟨_,rfl⟩
 have HT:=aa hT
 have HW0:=aa hW0
 clear h ok sp ag hT hW0
 have a1:=Boxed.new (w.alloc (.cells #[ak bR] 163)) 258 .nilFunc
 rw[World.size_alloc]at a1
 have a2:=a1.cell
 have a3:=a1.frozen
 clear a1
 gi_wp2
 rw[←HW0.out]
 have hB0:Below w.heap.size w W0:=by rw[HW0.out];exact(((Below.refl _ w).alloc (Nat.le_refl _) _).alloc (by simp) _).alloc (by simp;omega) _
 have hzs:w.heap.size+2< W0.heap.size:=by rw[HW0.out];simp
 have bP:Boxed W0 w.heap.size 163 (ak bR):=by rw[HW0.out];exact((Boxed.new _ _ _).alloc _).alloc _
 have bF:Boxed W0 (w.heap.size+1) 258 (.func (.func 142) #[] #[.pointer (some ⟨w.heap.size,0,none⟩)]):=by
  rw[HW0.out]
  have:=Boxed.new (w.alloc (.cells #[ak bR] 163)) 258 (.func (.func 142) #[] #[.pointer (some ⟨w.heap.size,0,none⟩)])
  rw[World.size_alloc]at this
  exact this.alloc _
 have bL:Boxed W0 (w.heap.size+1+1) 201 (.slice none 0 0):=by
  rw[HW0.out]
  have:=Boxed.new ((w.alloc (.cells #[ak bR] 163)).alloc (.cells #[.func (.func 142) #[] #[.pointer (some ⟨w.heap.size,0,none⟩)]] 258)) 201 (.slice none 0 0)
  rw[World.size_alloc,World.size_alloc]at this
  exact this
 refine⟨trivial,?_⟩
 refine(callsIn_wide.2 (HAS.out W0 hB0)).mono ?_
 rintro e w' ⟨rfl,hq⟩
 subst w'
 gi_wp2_with (refine⟨trivial,?_⟩;gi_at_call 145;refine(mN _ _ _).mono ?_;rintro e w' ⟨rfl,rfl⟩)
 have bA:=Boxed.new W0 173 (.int .u64 (cj (aC x.starts.length)))
 have hB1:Below w.heap.size w (W0.alloc (.cells #[.int .u64 (cj (aC x.starts.length))] 173)):=hB0.alloc (by omega) _
 refine wpIn_rangeFunc_ownG rfl (by decide) (gf:=195) (lb:=#[.pointer (some ⟨W0.heap.size,0,none⟩)]) rfl trivial (enters_of Tryz.func195 (by kernel_rfl) rfl)
  (jA 2 (by decide) W0.heap.size w.heap.size (cj (aC x.starts.length)) (gP _) _ (by simp) (by simp;omega) hg bA.cell (HT.out.below hB1)) belowK_t (belowK_b (by simp;omega)) (Below.refl _ _) (fun _=>rfl)
  (fun pre W=>((rm w.heap.size (w.heap.size+1+1) 201 173 pre.length (aH (pre.map (fun y=>x.belowOf y.1))) W∧Boxed W (w.heap.size+1) 258 (.func (.func 142) #[] #[.pointer (some ⟨w.heap.size,0,none⟩)]))∧Boxed W w.heap.size 163 (ak bR))∧Below w.heap.size w W)
  (fun _ _ _=>False)
  (OwnFrom.and (OwnFrom.and (OwnFrom.and (Own.from (nU _ _ _ _ _ _) _) (Own.from (boxed_own _ _ _) _)) (Own.from (boxed_own _ _ _) _)) (ownFrom_below (Nat.le_refl _) (by simp;omega)))
  (fun _ _ _ _ _ hs _ _=>hs)
  ⟨⟨⟨⟨_,bL.alloc _,World.ownsRow_nil _ _ _ _⟩,bF.alloc _⟩,bP.alloc _⟩,hB1⟩
  (fun z=>{tmps:=#[ak bR,.pointer (some ⟨w.heap.size,0,none⟩),.slice none 0 0,.pointer (some ⟨w.heap.size+1,0,none⟩),.pointer (some ⟨w.heap.size+1+1,0,none⟩),.int .i64 z.1,.func (.func 142) #[] #[.pointer (some ⟨w.heap.size,0,none⟩)],ak bR,.int .u64 (cj (aC x.starts.length)),.func (.func 195) #[] #[.pointer (some ⟨W0.heap.size,0,none⟩)],.int .i64 z.1,undef,undef,undef,undef,undef,undef,undef,undef,undef],defers:=[]}) ?assign ?body ?done ?stop
 case assign=>
  intro l z W K hK
  gi_wp2
  exact hK
 case body=>
  rintro l pre z W ⟨⟨⟨⟨v,b1,ho⟩,b2⟩,b3⟩,hB⟩ hlt
  have hz:=ia (by omega) z.2.2
  have c1:=b1.cell
  have c2:=b2.cell
  have HBX:=aa (And.intro b1 (And.intro b2 b3))
  have HO:=aa ho
  have HB:=aa hB
  clear b1 b2 b3 ho hB
  have hmx:Tryz.prog.follows .mixedOrders=true:=by kernel_rfl
  have hpl:pre.length< 64:=hlt
  have HAP:Hid (∀W2 W3,Below W.drew.heap.size W.drew W2→Below W2.heap.size W2 W3→∃v4 w4,(Builtin.append_ #[201,201] 201 #[v,.slice (some ⟨W3.heap.size,0,none⟩) 1 1]).run Tryz.prog (W3.alloc (.cells #[.int .u64 (x.belowOf z.1)] 173))=.ok v4 w4∧Hid (w4.ownsRow w.heap.size 173 1 v4 (pre.length+1) (aH (pre.map (fun y=>x.belowOf y.1))++[.int .u64 (x.belowOf z.1)]))∧Hid ((W3.alloc (.cells #[.int .u64 (x.belowOf z.1)] 173)).grownBy w4 v.ownBlock)∧w4.cell? ⟨w.heap.size+1+1,0,none⟩=some v∧w4.frozen? ⟨w.heap.size+1+1,0,none⟩=false∧∃p c,v4=.slice p (pre.length+1) c):=fun W2 W3 q2 q3=>by
   have qq:Below W.heap.size W W3:=(⟨q2.os,q2.tape,q2.output,q2.size,q2.block⟩:Below W.heap.size W W2).trans (q3.mono q2.size)
   have ho3:=ay HO.out qq
   obtain⟨v4,w4,hrun,r1,r2,-⟩:=run_append_own (P:=Tryz.prog) (W3.alloc (.cells #[.int .u64 (x.belowOf z.1)] 173)) w.heap.size 201 201 173 i0 (.int .u64 0) 1 8 Tryz.underlying201 hi hz0 hz1 hz2 rfl (by decide) v _ _ (ho3.alloc _) ⟨W3.heap.size,0,none⟩ 1 1 [.int .u64 (x.belowOf z.1)] rfl (aF _ _ _ _ (by simp)) (by intro u hu;simp at hu;subst hu;rfl) (by unfold maxLen;omega) (by omega) (by have:=HB.out.size;have:=qq.size;simp;omega)
   have bx:=((am HBX.out.1 qq).alloc (.cells #[.int .u64 (x.belowOf z.1)] 173)).kept r2 (fun e=>fO ho3 (am HBX.out.1 qq) (by decide) e.symm)
   exact⟨v4,w4,hrun,r1,r2,bx.cell,bx.frozen,ai r1⟩
  have FIN:Hid (∀W2 W3 v4 w4,Below W.drew.heap.size W.drew W2→Below W2.heap.size W2 W3→w4.ownsRow w.heap.size 173 1 v4 (pre.length+1) (aH (pre.map (fun y=>x.belowOf y.1))++[.int .u64 (x.belowOf z.1)])→(W3.alloc (.cells #[.int .u64 (x.belowOf z.1)] 173)).grownBy w4 v.ownBlock→KeepsFrom (W0.alloc (.cells #[.int .u64 (cj (aC x.starts.length))] 173)).heap.size W (w4.setCell ⟨w.heap.size+1+1,0,none⟩ v4)∧Below w.heap.size W (w4.setCell ⟨w.heap.size+1+1,0,none⟩ v4)∧((rm w.heap.size (w.heap.size+1+1) 201 173 (pre++[z]).length (aH ((pre++[z]).map (fun y=>x.belowOf y.1))) (w4.setCell ⟨w.heap.size+1+1,0,none⟩ v4)∧Boxed (w4.setCell ⟨w.heap.size+1+1,0,none⟩ v4) (w.heap.size+1) 258 (.func (.func 142) #[] #[.pointer (some ⟨w.heap.size,0,none⟩)]))∧Boxed (w4.setCell ⟨w.heap.size+1+1,0,none⟩ v4) w.heap.size 163 (ak bR))∧Below w.heap.size w (w4.setCell ⟨w.heap.size+1+1,0,none⟩ v4)):=fun W2 W3 v4 w4 q2 q3 r1 r2=>by
   have qq:Below W.heap.size W W3:=(⟨q2.os,q2.tape,q2.output,q2.size,q2.block⟩:Below W.heap.size W W2).trans (q3.mono q2.size)
   have ho3:=ay HO.out qq
   have n1:=fO ho3 (am HBX.out.1 qq) (by decide)
   have n2:=fO ho3 (am HBX.out.2.1 qq) (by decide)
   have n3:=fO ho3 (am HBX.out.2.2 qq) (by decide)
   have x1:=((am HBX.out.1 qq).alloc (.cells #[.int .u64 (x.belowOf z.1)] 173)).kept r2 (fun e=>n1 e.symm)
   have x2:=((am HBX.out.2.1 qq).alloc (.cells #[.int .u64 (x.belowOf z.1)] 173)).kept r2 (fun e=>n2 e.symm)
   have x3:=((am HBX.out.2.2 qq).alloc (.cells #[.int .u64 (x.belowOf z.1)] 173)).kept r2 (fun e=>n3 e.symm)
   have hzW:=HB.out.size
   have qz:=qq.size
   have kb:Below w.heap.size W (w4.setCell ⟨w.heap.size+1+1,0,none⟩ v4):=(((qq.mono hzW).alloc (by omega) _).grown r2 (by simp;omega) (fun k e=>(ho3.lt k e).1)).setCell (p:=⟨w.heap.size+1+1,0,none⟩) (by show _≤w.heap.size+1+1;omega) _
   refine⟨?_,kb,⟨⟨⟨v4,x1.set _,?_⟩,x2.other (by omega) _⟩,x3.other (by omega) _⟩,HB.out.trans kb⟩
   ·exact(aB qq).trans ((((KeepsOthers.alloc _ _).trans (iv (ho3.alloc _) r2)).trans (KeepsOthers.setCell _ _ _)).from _)
   ·have e1:(pre++[z]).length=pre.length+1:=by simp
    have e2:aH ((pre++[z]).map (fun y=>x.belowOf y.1))=aH (pre.map (fun y=>x.belowOf y.1))++[.int .u64 (x.belowOf z.1)]:=by simp[aH]
    rw[e1,e2]
    refine r1.kept (row:=some (w.heap.size+1+1)) (grownBy_setCell' w4 _ _) (Or.inr (fO r1 x1 (by decide)))
  gi_wp2
  gi_region_with_o (first
   |(refine⟨trivial,?_⟩;gi_at_call 142;refine(CallsIn.inRound l (callsIn_wide.2 (HWI.out W.drew z.1 HB.out.drew HBX.out.2.2.cell hz))).mono ?_;rintro e W2 ⟨rfl,hb2⟩;have HB2:=aa hb2;have g1:=(am (W:=W.drew) HBX.out.1 hb2).cell;have g2:=(am (W:=W.drew) HBX.out.2.1 hb2).cell;have HG3:=aa (am (W:=W.drew) HBX.out.2.2 hb2);clear hb2)
   |(refine⟨trivial,?_⟩;gi_at_call 146;refine(CallsIn.inRound l (callsIn_wide.2 (HRE.out W2 z.1 (HB.out.drew.trans (HB2.out.mono HB.out.size)) HG3.out hz))).mono ?_;rintro e W3 ⟨rfl,hb3⟩;obtain⟨v4,w4,hrun,HR1,HR2,k1,k2,hsl⟩:=HAP.out W2 W3 HB2.out hb3;obtain⟨p4,c4,rfl⟩:=hsl;obtain⟨q1,q2,q3⟩:=tE hrun;clear hrun;have HG4:=aa (am (am (W:=W.drew) HBX.out.1 HB2.out) hb3);have g4:=HG4.out.cell;have g5:=(HG4.out.alloc (.cells #[.int .u64 (x.belowOf z.1)] 173)).cell;have HB3:=aa hb3;clear hb3))
  all_goals exact FIN.out W2 W3 _ _ HB2.out HB3.out HR1.out HR2.out
 case done=>
  rintro D ys W hD rfl ⟨⟨⟨⟨v,b1,ho⟩,b2⟩,b3⟩,hB⟩ hK
  have hc:=b1.cell
  gi_wp2
  refine⟨by simp,.inl ⟨_,_,rfl,run_takeDeferred hK,?_⟩⟩
  refine⟨_,results_tmp rfl _ _ _,⟨_,rfl,?_,?_⟩⟩
  ·have hs:(jZ (cj (aC x.starts.length))).map (fun y=>x.belowOf y.1)=x.belowL:=by
    unfold Rp.belowL
    rw[←ou (by omega:x.starts.length< 64),←cF,List.map_map]
    rfl
   have hn:(jZ (cj (aC x.starts.length))).length=x.starts.length:=by
    have:=congrArg List.length (ou (by omega:x.starts.length< 64))
    rw[←cF,List.length_map,List.length_range]at this
    exact this
   rw[hs,hn]at ho
   exact oN ho hK rfl _
  ·exact hB.trans (belowK_b (w:=w) (Nat.le_refl _) W D _ _ (by simp at hD;omega) hK rfl rfl)
 case stop=>
  rintro D c pre W _ _ h _
  exact h.elim
end
end Go.Proofs.YtmdaflepdaiabaaGreatDoor
