import Derived.RangeFuncNested
import Derived.Laws.EntriesVeiled
import Derived.Test.YtmdaflepdaiabaaGreatDoorQ17
import Derived.Test.YtmdaflepdaiabaaGreatDoorQ21
set_option linter.unusedSimpArgs false
set_option linter.unusedVariables false
namespace Go.Proofs.YtmdaflepdaiabaaGreatDoor
section
set_option maxRecDepth 100000
set_option maxHeartbeats 2000000
open Go.RowKit Go.Shelf
namespace Rp
def heldB(x:Rp)(l:List Nat)(s:Nat):Nat:=
 if(x.st s).p.kind=9 then fa (l.getD s 0) (aC (x.st s).p.nn)else if(x.st s).p.kind=10 then bj (l.getD s 0) (aC (x.st s).p.nn)else l.getD s 0
def aboutB(x:Rp)(cs:List Nat)(l:List Nat)(s:Nat):Nat:=match x.startAt s with
 |some k=>fa (fa (l.getD s 0) (aC k)) (x.below.getD k 0)
 |none=>bj (l.getD s 0) (x.joinedOf cs s)
end Rp
theorem nG:∀args w,(callFunc 106 args).run Tryz.prog w=.ok (.enter 106 args) w:=enters_of Tryz.func106 (by kernel_rfl) rfl
theorem nN:∀args w,(callFunc 113 args).run Tryz.prog w=.ok (.enter 113 args) w:=enters_of Tryz.func113 (by kernel_rfl) rfl
theorem Bl{w:World}{bA bR b2 b3 b4 s:Nat}{x:Rp}{l:List Nat}(h:aP w bR x)(hs:s< x.stmts.length)(h53:s< 53)(hb:an w bA (ab l))(hl:l.length=53)(c2:w.cell? ⟨b2,0,none⟩=some (ak bR))(hc:x.isCall s=false)(hn:(x.st s).p.nn< 64):
  Calls Tryz.prog 106 #[.pointer (some ⟨bA,0,none⟩),.int .i64 s,.pointer (some ⟨b2,0,none⟩),.pointer (some ⟨b3,0,none⟩),.pointer (some ⟨b4,0,none⟩)] w fun r w'=>r=.returned (.int .u64 (x.heldB l s:Nat))∧Below w.heap.size w w':=by
 have r1:=cG
 have r2:=cI
 obtain⟨g,c,bs,sr,sb,z3,z4,z5,z6,z7,hbs,-⟩:=h.stm hs
 have hsi:((s:Nat):Int)< 53:=by omega
 have c1:w.cell? ⟨bA,s,none⟩=some (.int .u64 (l.getD s 0:Nat)):=by rw[hb.cell];exact aY (by omega)
 have hbl:=hb.lt
 have h2l:b2< w.heap.size:=ah c2
 have HNA:Hid (∀W,Below w.heap.size w W→Calls Tryz.prog 107 #[ak bR,.int .i64 s] W fun r w'=>r=.returned (.int .u64 (aC (x.st s).p.nn:Nat))∧w'=W):=fun W kk=>wU (h.keep kk) hs hn
 have HCA:=aa (jf h hs)
 rw[hc]at HCA
 unfold Rp.heldB
 generalize l.getD s 0=lv at *
 clear h hb
 by_cases h9:(x.st s).p.kind=9
 ·have d2:w.cell? ⟨bs,2,none⟩=some (.int .i64 9):=by rw[hbs.cell 2];simp[aK,h9]
  simp only[if_pos h9]
  clear hbs h9
  go_enter Tryz.func106,Tryz.ntmps106
  go_wp2_with fail
  go_region_held3 (fun w'=>w'.cell? ⟨bA,s,none⟩=some (.int .u64 (lv:Nat))∧w'.cell? ⟨b2,0,none⟩=some (ak bR)) (first|exact⟨c1,c2⟩|go_keep) (first|(go_at_call 107;refine(HNA.out _ (Below.refl _ w).drew).mono ?_;rintro q wq ⟨rfl,hq⟩;subst wq))
  all_goals go_wp2_with fail
  all_goals go_ret
  all_goals exact⟨rfl,(Below.refl _ w).drew⟩
 ·simp only[if_neg h9]
  by_cases h10:(x.st s).p.kind=10
  ·have d2:w.cell? ⟨bs,2,none⟩=some (.int .i64 10):=by rw[hbs.cell 2];simp[aK,h10]
   simp only[if_pos h10]
   clear hbs h9 h10
   go_enter Tryz.func106,Tryz.ntmps106
   go_wp2_with fail
   go_region_held3 (fun w'=>w'.cell? ⟨bA,s,none⟩=some (.int .u64 (lv:Nat))∧w'.cell? ⟨b2,0,none⟩=some (ak bR)) (first|exact⟨c1,c2⟩|go_keep) (first|(go_at_call 107;refine(HNA.out _ (Below.refl _ w).drew).mono ?_;rintro q wq ⟨rfl,hq⟩;subst wq))
   all_goals go_wp2_with fail
   all_goals go_ret
   all_goals exact⟨rfl,(Below.refl _ w).drew⟩
  ·have d2:w.cell? ⟨bs,2,none⟩=some (.int .i64 (x.st s).p.kind):=hbs.cell 2
   have e9:(((x.st s).p.kind:Int)==9)=false:=by rw[beq_eq_false_iff_ne];omega
   have e10:(((x.st s).p.kind:Int)==10)=false:=by rw[beq_eq_false_iff_ne];omega
   simp only[if_neg h10]
   clear hbs h9 h10
   go_enter Tryz.func106,Tryz.ntmps106
   go_wp2_with fail
   refine HCA.out.mono ?_
   rintro q w1 ⟨rfl,hb1⟩
   have c1':w1.cell? ⟨bA,s,none⟩=some (.int .u64 (lv:Nat)):=(hb1.cell (p:=⟨bA,s,none⟩) hbl).trans c1
   have HB1:=aa hb1
   clear hb1
   go_wp2_with fail
   go_ret
   exact⟨rfl,HB1.out⟩
theorem As{w:World}{bA bR bH b2 b3 b4 s sh:Nat}{x:Rp}{cs l:List Nat}(h:aP w bR x)(hh:gN w bH bR sh cs)(hs:s< x.stmts.length)(h53:s< 53)(hb:an w bA (ab l))(hl:l.length=53)(c2:w.cell? ⟨b2,0,none⟩=some (ak bR))(c4:w.cell? ⟨b4,0,none⟩=some (ak bH))(hc:x.isCall s=false)(hm:x.starts.length< 64)(hbw:x.below.length=x.starts.length)(hf:(x.st s).fn< 5)(hj:(x.st s).p.kind=8→0< (x.st s).r.length∧((x.st s).r.getD 0 ⟨[],0,0,0⟩).num< 6)(hk:∀k,x.startAt s=some k→k< x.starts.length):
  Calls Tryz.prog 113 #[.pointer (some ⟨bA,0,none⟩),.int .i64 s,.pointer (some ⟨b2,0,none⟩),.pointer (some ⟨b3,0,none⟩),.pointer (some ⟨b4,0,none⟩)] w fun r w'=>r=.returned (.int .u64 (x.aboutB cs l s:Nat))∧Below w.heap.size w w':=by
 have r1:=cG
 have r2:=cI
 obtain⟨bv,sv,tv,rv,lv',h1,-,-,-,-,hlv⟩:=h.ex
 have hsi:((s:Nat):Int)< 53:=by omega
 have c1:w.cell? ⟨bA,s,none⟩=some (.int .u64 (l.getD s 0:Nat)):=by rw[hb.cell];exact aY (by omega)
 have hbl:=hb.lt
 have hRl:=h1.lt
 have h2l:b2< w.heap.size:=ah c2
 have h4l:b4< w.heap.size:=ah c4
 have HSA:=aa (pZ (s:=s) h hm)
 have HCA:=aa (jf h hs)
 rw[hc]at HCA
 have HJ:Hid (∀W,Below w.heap.size w W→Calls Tryz.prog 117 #[ak bR,ak bH,.int .i64 s] W fun r w'=>r=.returned (.int .u64 (x.joinedOf cs s))∧Below W.heap.size W w'):=fun W kk=>yG (h.keep kk) (hh.keep kk) hs hf hj
 unfold Rp.aboutB
 generalize l.getD s 0=lv at *
 cases hst:x.startAt s with
 |some k=>
  have hkl:=hk k hst
  have hki:((k:Nat):Int)< (x.starts.length:Int):=by omega
  obtain⟨gl,cl,rfl⟩:=aG hlv (by omega)
  have c8:w.cell? ⟨bR,8,none⟩=some (.slice (some ⟨gl,0,none⟩) x.starts.length cl):=by have:=h1.cell 8;rw[hbw]at this;exact this
  have ck:w.cell? ⟨gl,k,none⟩=some (.int .u64 (x.below.getD k 0:Nat)):=by
   rw[hlv.cellAt _ (by omega)]
   simp[aH,hbw,hkl]
  have ck':w.cell? ⟨gl,k*1,none⟩=some (.int .u64 (x.below.getD k 0:Nat)):=by rw[Nat.mul_one];exact ck
  have hgl:gl< w.heap.size:=ah ck
  have HON:=aa (gX k (by omega))
  unfold mz at HSA
  unfold Rp.startAt at HSA hst
  rw[hst]at HSA
  simp only
  generalize x.below.getD k 0=bk at *
  clear h h1 hlv hh hb hst
  go_enter Tryz.func113,Tryz.ntmps113
  go_wp2_with fail
  refine HSA.out.mono ?_
  rintro q wq ⟨rfl,hq⟩
  subst wq
  go_wp2_with fail
  go_region_held3 (fun w'=>w'.cell? ⟨bA,s,none⟩=some (.int .u64 (lv:Nat))∧w'.cell? ⟨b2,0,none⟩=some (ak bR)∧w'.cell? ⟨bR,8,none⟩=some (.slice (some ⟨gl,0,none⟩) x.starts.length cl)∧w'.cell? ⟨gl,k,none⟩=some (.int .u64 (bk:Nat))) (first|exact⟨c1,c2,c8,ck⟩|go_keep) (first|(go_at_call 115;refine(HON.out _).mono ?_;rintro q wq ⟨rfl,hq⟩;subst wq))
  all_goals go_wp2_with fail
  all_goals go_ret
  all_goals exact⟨rfl,(Below.refl _ w).drew⟩
 |none=>
  unfold mz at HSA
  unfold Rp.startAt at HSA hst
  rw[hst]at HSA
  simp only
  clear h h1 hlv hh hb hst
  go_enter Tryz.func113,Tryz.ntmps113
  go_wp2_with fail
  refine HSA.out.mono ?_
  rintro q wq ⟨rfl,hq⟩
  subst wq
  go_wp2_with fail
  refine HCA.out.mono ?_
  rintro q w1 ⟨rfl,hb1⟩
  have c1':w1.cell? ⟨bA,s,none⟩=some (.int .u64 (lv:Nat)):=(hb1.cell (p:=⟨bA,s,none⟩) hbl).trans c1
  have c2':w1.cell? ⟨b2,0,none⟩=some (ak bR):=(hb1.cell (p:=⟨b2,0,none⟩) h2l).trans c2
  have c4':w1.cell? ⟨b4,0,none⟩=some (ak bH):=(hb1.cell (p:=⟨b4,0,none⟩) h4l).trans c4
  have HJ1:=aa (HJ.out w1.drew hb1.drew)
  have l1:bA< w1.heap.size:=ah c1'
  have l2:b2< w1.heap.size:=ah c2'
  have l4:b4< w1.heap.size:=ah c4'
  have HB1:=aa hb1
  clear hb1
  go_wp2_with fail
  go_region_held3 (fun w'=>w'.cell? ⟨bA,s,none⟩=some (.int .u64 (lv:Nat))∧w'.cell? ⟨b2,0,none⟩=some (ak bR)∧w'.cell? ⟨b4,0,none⟩=some (ak bH)) (first|exact⟨e1,e2,e4⟩|exact⟨c1',c2',c4'⟩|go_keep) (first|(go_at_call 117;refine HJ1.out.mono ?_;rintro q w2 ⟨rfl,hb2⟩;have HB2:=aa hb2;have e1:w2.cell? ⟨bA,s,none⟩=some (.int .u64 (lv:Nat)):=(hb2.cell (p:=⟨bA,s,none⟩) l1).trans c1';have e2:w2.cell? ⟨b2,0,none⟩=some (ak bR):=(hb2.cell (p:=⟨b2,0,none⟩) l2).trans c2';have e4:w2.cell? ⟨b4,0,none⟩=some (ak bH):=(hb2.cell (p:=⟨b4,0,none⟩) l4).trans c4';clear hb2))
  all_goals go_wp2_with fail
  all_goals go_ret
  all_goals exact⟨rfl,HB1.out.trans ((⟨HB2.out.os,HB2.out.tape,HB2.out.output,HB2.out.size,HB2.out.block⟩:Below w1.heap.size w1 w2).mono HB1.out.size)⟩
end
section
set_option maxRecDepth 100000
set_option maxHeartbeats 4000000
open Go.RowKit Go.Shelf
attribute [local go_sem] Oper.semAt_some
section
variable {F:Fence} {n:Nat} {P:Program}
theorem rK{α:Type}{g:Operand}{ps:Array Tmp}{assign body:Code}{Q:Exit→Act→World→Prop}{a:Act}{w:World}
  {l₀:Nat} {r₀:Loop} (hro:F.round=some l₀) (hl₀:w.heap[l₀]?=some (.loop r₀)) (h1:1≤n) {gf:Nat} {lb:Array Value} (hg:a.eval g=.func (.func gf) #[] lb) (hFg:F.fn gf) (eg:∀args w,(callFunc gf args).run P w=.ok (.enter gf args) w)
  {encs:α→Array Value} {Kp:World→World→Prop} {S Sp:List α→Prop} {N:Nat} {w0:World} (hseq:SeqStopsK F (n-1) P gf lb encs Kp S Sp N w0)
  (hKt:∀{A B C:World},Kp A B→Kp B C→Kp A C) (hKb:∀(W:World) (l:Nat) (o o':Obj),w.heap.size≤l→W.heap[l]?=some o→o.isCells=false→o.isWalk=false→Kp W (W.putObj l o')) (hb0:Below w0.heap.size w0 w) (hps:∀x,(encs x).size=ps.size)
  (I:List α→World→Prop) (Ix:Code→List α→World→Prop) (hI:OwnFrom w.heap.size I) (hIx:∀c,OwnFrom w.heap.size (Ix c)) (h0:I [] w) (hKr:∀W,Kp W W) (a₁:α→Act)
  (hassign:∀(l:Nat) (x:α) (W:World) (K:Act→World→Prop),K (a₁ x) W→
   assign.wpIn (F.inRound l) (n-1-1) P (Exit.then K (fun _ _ _=>False)) {tmps:=(ps.zip (encs x)).foldl (fun t (p,v)=>t.setIfInBounds p v) a.tmps,defers:=[]} W)
  (hbody:∀(l:Nat) (pre:List α) (x:α) (W:World),w.heap.size≤l→(∃r,W.heap[l]?=some (.loop r))→I pre W→pre.length< N→body.wpIn (F.inRound l) (n-1-1) P (ownPostG w.heap.size Kp I Ix (pre++[x]) W) (a₁ x) W)
  (hdone:∀(xs:List α) (W:World),S xs→I xs W→Q .normal a W)
  (hstop:∀(c:Code) (pre:List α) (W:World),Sp pre→Ix c pre W→c.wpIn F n P Q a W):
  (Code.rangeFunc g ps assign body).wpIn F n P Q a w:=
 wpIn_rangeFunc_ownN hro hl₀ h1 hg hFg eg hseq (fun h k=>hKt h k) hKb hb0 hps I Ix hI hIx h0 (fun x a' _=>a'=a₁ x) (fun _ _ _ _ _ _ hs _ _=>hs)
  (fun l pre x W K hi hK=>hassign l x W K (hK _ _ (KeepsFrom.refl _ _) (hKr W) hi rfl)) (fun l pre x a' W h1 h2 hi e=>by subst e;exact hbody l pre x W h1 h2 hi) hdone hstop
end
theorem oc(x:Rp)(s:Nat):x.nextOf s< bI:=by
 unfold Rp.nextOf
 split
 ·decide
 split
 ·exact fT _ _
 ·exact Nat.mod_lt _ (by decide)
namespace Rp
def stepM(x:Rp)(B:List Nat→Nat→Nat)(l:List Nat)(s:Nat):List Nat:=(els (x.nextOf s)).foldl (fun l t=>jE l t (B l s)) l
def passM(x:Rp)(B:List Nat→Nat→Nat)(S:Nat)(l:List Nat):List Nat:=(els S).foldl (x.stepM B) l
end Rp
theorem mI(l:List Nat)(a b:Nat):(jE l a b).length=l.length:=by simp[jE]
theorem nR(x:Rp)(B:List Nat→Nat→Nat)(s:Nat)(l:List Nat):(x.stepM B l s).length=l.length:=by
 unfold Rp.stepM
 have:∀(ts l:List Nat),(ts.foldl (fun l t=>jE l t (B l s)) l).length=l.length:=by
  intro ts
  induction ts with
  |nil=>intro l;rfl
  |cons t ts ih=>intro l;rw[List.foldl_cons,ih,mI]
 exact this _ _
theorem wC{w:World}{bR bW b2 b3 S:Nat}{x:Rp}{B:List Nat→Nat→Nat}{bk:FuncId}{caps:Array Value}{l:List Nat}(h:aP w bR x)(ok:ei x)(hS:S< bI)(hSm:∀s,s< 64→S.testBit s=true→s< x.stmts.length∧x.isCall s=false)(hl:l.length=53)
  (cW:w.cell? ⟨bW,0,none⟩=some (ak bR)) (cM:w.cell? ⟨bW,2,none⟩=some (.func (.func 102) #[] #[])) (c2:w.cell? ⟨b2,0,none⟩=some (.int .u64 S)) (c3:w.cell? ⟨b3,0,none⟩=some (.func (.func bk) #[] caps))
  (hnx:∀s t,s< 64→S.testBit s=true→t< 64→(x.nextOf s).testBit t=true→t< 53)
  (hB:∀(W:World) (l:List Nat) (s:Nat),Below w.heap.size w W→an W w.heap.size (ab l)→l.length=53→s< 64→S.testBit s=true→Calls Tryz.prog bk (#[.pointer (some ⟨w.heap.size,0,none⟩),.int .i64 s]++caps) W fun r w'=>r=.returned (.int .u64 (B l s:Nat))∧Below W.heap.size W w')
  (hen:∀args w,(callFunc bk args).run Tryz.prog w=.ok (.enter bk args) w) (hT:Tz w) (hg:0< w.heap.size):
  Calls Tryz.prog 159 #[.agg (ab l),.pointer (some ⟨bW,0,none⟩),.pointer (some ⟨b2,0,none⟩),.pointer (some ⟨b3,0,none⟩)] w fun q w'=>q=.returned (.agg (ab (x.passM B S l)))∧Below w.heap.size w w':=by
 have lW:bW< w.heap.size:=ah cW
 have l2:b2< w.heap.size:=ah c2
 have l3:b3< w.heap.size:=ah c3
 have HLL:Hid (l.length=53):=hl
 obtain⟨D,hD⟩:∃W,W=((w.alloc (.cells (ab l) 171)).alloc (.cells gc 171)).alloc (.cells #[.func (.func 160) #[] #[.pointer (some ⟨bW,0,none⟩),.pointer (some ⟨w.heap.size,0,none⟩)]] 301):=⟨_,rfl⟩
 have kD:Below w.heap.size w D:=by rw[hD];exact(((Below.refl _ w).alloc (Nat.le_refl _) _).alloc (by simp) _).alloc (by simp;omega) _
 have hzD:w.heap.size+1+1< D.heap.size:=by rw[hD];simp
 have hbD:an D w.heap.size (ab l):=by rw[hD];exact((an.new w _ _).alloc _).alloc _
 have hrD:D.heap[w.heap.size+1]?=some (.cells gc 171 (0,0)):=by
  rw[hD]
  have:=heap_alloc_new (w.alloc (.cells (ab l) 171)) (.cells gc 171)
  rw[World.size_alloc]at this
  exact(Below.heap_alloc _ _ _ (by simp)).trans this
 have hfD:an D (w.heap.size+1+1) #[.func (.func 160) #[] #[.pointer (some ⟨bW,0,none⟩),.pointer (some ⟨w.heap.size,0,none⟩)]]:=by rw[hD];exact an.new' _ _ _ _ (by simp)
 have HH:=aa h
 have HSM:=aa hSm
 have HNX:=aa hnx
 have HBB:=aa hB
 have HOK:=aa ok
 have HT:=aa hT
 have HKD:=aa kD
 have HBD:=aa hbD
 have HRD:=aa hrD
 have HFD:=aa hfD
 have r2:D.cell? ⟨b2,0,none⟩=some (.int .u64 S):=(kD.cell (p:=⟨b2,0,none⟩) l2).trans c2
 have a1:=an.new' ((w.alloc (.cells (ab l) 171)).alloc (.cells gc 171)) #[.nilFunc] 301 (w.heap.size+1+1) (by simp)
 have a2:(((w.alloc (.cells (ab l) 171)).alloc (.cells gc 171)).alloc (.cells #[.nilFunc] 301)).cell? ⟨w.heap.size+1+1,0,none⟩=some .nilFunc:=a1.cell 0
 have a3:=a1.fz 0
 rw[hD]at r2
 have HD:=aa hD
 clear h ok hSm hnx hB hT kD hbD hrD hfD a1 hD
 refine(callsIn_wide (n:=5)).1 ?_
 refine callsIn_of_wp_marks Tryz.func159 rfl trivial ?_ rfl
 simp only[Tryz.ntmps159,List.size_toArray,List.length_cons,List.length_nil,Nat.reduceAdd,Nat.reduceSub,Array.replicate_succ,Array.replicate_zero,List.push_toArray,List.append_toArray,List.nil_append,List.cons_append]
 gi_wp2_with (refine⟨trivial,?_⟩;gi_at_call 96;rw[←HD.out];refine(eI _ _ _).mono ?_;rintro e w' ⟨rfl,hq⟩;subst w')
 obtain⟨W2,hW2⟩:∃W,W=D.alloc (.cells #[.int .u64 S] 199):=⟨_,rfl⟩
 have k2:Below D.heap.size D W2:=by rw[hW2];exact(Below.refl _ D).alloc (Nat.le_refl _) _
 have bA:Boxed W2 D.heap.size 199 (.int .u64 S):=by rw[hW2];exact Boxed.new _ _ _
 have hz2:D.heap.size< W2.heap.size:=bA.lt
 have kw2:Below w.heap.size w W2:=HKD.out.trans (k2.mono HKD.out.size)
 rw[←hW2]
 clear hW2 r2 a2 a3
 refine wpIn_rangeFunc_ownH rfl (by decide) (gf:=147) (lb:=#[.pointer (some ⟨D.heap.size,0,none⟩)]) rfl trivial (enters_of Tryz.func147 (by kernel_rfl) rfl)
  (dr 4 (by decide) D.heap.size w.heap.size S hS _ hz2 (by omega) hg bA.cell (HT.out.below kw2)) belowK_t (belowK_b (by omega)) (Below.refl _ _) (fun _=>rfl)
  (fun pre W=>an W w.heap.size (ab ((pre.map (·.1)).foldl (x.stepM B) l))∧ae (ao w.heap.size) D W)
  (fun _ _ _=>False)
  (OwnFrom.and (cU (by omega)) (cN (by omega)))
  (fun _ _ _ _ _ hs _ _=>hs)
  ⟨HBD.out.below k2,ae.of_below k2⟩
  (fun z a' W=>∃p,a'={tmps:=#[.agg (ab l),.pointer (some ⟨bW,0,none⟩),.pointer (some ⟨b2,0,none⟩),.pointer (some ⟨b3,0,none⟩),.pointer (some ⟨w.heap.size,0,none⟩),.pointer (some ⟨w.heap.size+1,0,none⟩),.pointer (some ⟨w.heap.size+1+1,0,none⟩),.pointer (some ⟨p,0,none⟩),undef,undef,undef,.func (.func 160) #[] #[.pointer (some ⟨bW,0,none⟩),.pointer (some ⟨w.heap.size,0,none⟩)],.int .u64 S,.func (.func 147) #[] #[.pointer (some ⟨D.heap.size,0,none⟩)],.int .i64 z.1,undef,undef,undef,undef,undef,undef,undef,undef,undef,undef,undef,undef,undef,undef,undef,undef,undef,undef,undef,undef,undef,undef,undef,undef,undef,undef,undef,undef,undef,undef,undef,undef,undef,undef],defers:=[]}∧Boxed W p 141 (.int .i64 z.1)∧w.heap.size< p)
  (fun z a' _ X Y row hs hg' hr=>by
   obtain⟨p,e,hp,hlt⟩:=hs
   exact⟨p,e,boxed_own (β:=Unit) p _ (fun _=>_) () X Y row hp hg' (fun r e=>(hr r e).2),hlt⟩) ?assign ?body ?done ?stop
 case assign=>
  rintro lr pre z W K ⟨hbW,hkW⟩ hK
  have kA:Below W.heap.size W (W.alloc (.cells #[.int .i64 z.1] 141)):=(Below.refl _ W).alloc (Nat.le_refl _) _
  have hWz:w.heap.size< W.heap.size:=hbW.lt
  have:=hK {tmps:=#[.agg (ab l),.pointer (some ⟨bW,0,none⟩),.pointer (some ⟨b2,0,none⟩),.pointer (some ⟨b3,0,none⟩),.pointer (some ⟨w.heap.size,0,none⟩),.pointer (some ⟨w.heap.size+1,0,none⟩),.pointer (some ⟨w.heap.size+1+1,0,none⟩),.pointer (some ⟨W.heap.size,0,none⟩),undef,undef,undef,.func (.func 160) #[] #[.pointer (some ⟨bW,0,none⟩),.pointer (some ⟨w.heap.size,0,none⟩)],.int .u64 S,.func (.func 147) #[] #[.pointer (some ⟨D.heap.size,0,none⟩)],.int .i64 z.1,undef,undef,undef,undef,undef,undef,undef,undef,undef,undef,undef,undef,undef,undef,undef,undef,undef,undef,undef,undef,undef,undef,undef,undef,undef,undef,undef,undef,undef,undef,undef,undef,undef,undef],defers:=[]} _ (aB kA) (kA.mono (by omega)) ⟨hbW.below kA,hkW.below kA⟩ ⟨W.heap.size,rfl,Boxed.new _ _ _,hWz⟩
  have HK:=aa this
  clear hK this hbW hkW
  gi_wp2
  exact HK.out
 case body=>
  rintro lr pre z a' W hlr ⟨rr,hrr⟩ ⟨hbW,hkW⟩ ⟨p,rfl,hp,hpw⟩ hpl
  have kW:Below w.heap.size w W:=aE HKD.out hkW (Nat.le_refl _)
  obtain⟨hzs,hzc⟩:=HSM.out z.1 z.2.1 z.2.2
  obtain⟨L,hL⟩:∃L,L=(pre.map (·.1)).foldl (x.stepM B) l:=⟨_,rfl⟩
  have hLl:L.length=53:=by
   rw[hL]
   have:∀(ts l:List Nat),(ts.foldl (x.stepM B) l).length=l.length:=by
    intro ts
    induction ts with
    |nil=>intro l;rfl
    |cons t ts ih=>intro l;rw[List.foldl_cons,ih,nR]
   rw[this];exact HLL.out
  rw[←hL]at hbW
  have q0:W.cell? ⟨bW,0,none⟩=some (ak bR):=(kW.cell (p:=⟨bW,0,none⟩) lW).trans cW
  have qp:W.cell? ⟨p,0,none⟩=some (.int .i64 z.1):=hp.cell
  have hcl:=jf (HH.out.keep kW) hzs
  rw[hzc]at hcl
  have HCA:=aa hcl
  have HNXT:Hid (∀W',Below W.heap.size W W'→Calls Tryz.prog 129 #[ak bR,.int .i64 z.1] W' fun r w'=>r=.returned (.int .u64 (x.nextOf z.1))∧Below W'.heap.size W' w'):=fun W' kk=>qc (HH.out.keep (kW.trans (kk.mono kW.size))) HOK.out hzs
  have HBW:=aa hbW
  have HKW:=aa hkW
  have HKw:=aa kW
  have HP:=aa hp
  have HL:=aa hL
  have hpl2:p< W.heap.size:=hp.lt
  have hWz:=kW.size
  clear hbW hkW kW hcl hp hL
  gi_wp2
  refine⟨trivial,?_⟩
  refine(CallsIn.inRound lr (callsIn_wide.2 HCA.out)).mono ?_
  rintro e W1 ⟨rfl,hb1⟩
  have q0':W1.cell? ⟨bW,0,none⟩=some (ak bR):=(hb1.cell (p:=⟨bW,0,none⟩) (by show bW< W.heap.size;omega)).trans q0
  have qp':W1.cell? ⟨p,0,none⟩=some (.int .i64 z.1):=(hb1.cell (p:=⟨p,0,none⟩) hpl2).trans qp
  have HNX1:=aa (HNXT.out W1 hb1)
  have HB1:=aa hb1
  clear hb1 q0 qp HCA HNXT
  gi_wp2
  refine⟨trivial,?_⟩
  refine(CallsIn.inRound lr (callsIn_wide.2 HNX1.out)).mono ?_
  rintro e W3 ⟨rfl,hb3⟩
  have HB3:Hid (Below W.heap.size W W3):=HB1.out.trans (hb3.mono HB1.out.size)
  clear hb3 HB1 HNX1 q0' qp'
  gi_wp2_with (refine⟨trivial,?_⟩;gi_at_call 96;refine(CallsIn.inRound lr (eI _ _ _)).mono ?_;rintro e w' ⟨rfl,hq⟩;subst w')
  obtain⟨W4,hW4⟩:∃W,W=W3.alloc (.cells #[.int .u64 (x.nextOf z.1)] 199):=⟨_,rfl⟩
  have k4:Below W.heap.size W W4:=by rw[hW4];exact HB3.out.alloc HB3.out.size _
  have bN:Boxed W4 W3.heap.size 199 (.int .u64 (x.nextOf z.1)):=by rw[hW4];exact Boxed.new _ _ _
  have hz4:W3.heap.size< W4.heap.size:=bN.lt
  have hz43:=k4.size
  have kw4:Below w.heap.size w W4:=HKw.out.trans (k4.mono hWz)
  have hnlt:x.nextOf z.1< bI:=oc x z.1
  rw[←hW4]
  have HL4:Hid (W4.heap[lr]?=some (.loop rr)):=(k4.block lr (Array.getElem?_eq_some_iff.1 hrr).1).trans hrr
  clear hW4
  refine' rK (l₀:=lr) rfl HL4.out (by decide) (gf:=147) (lb:=#[.pointer (some ⟨W3.heap.size,0,none⟩)]) rfl trivial (enters_of Tryz.func147 (by kernel_rfl) rfl)
   (SeqStopsK.inRound lr (dr 2 (by decide) W3.heap.size w.heap.size (x.nextOf z.1) hnlt W4 hz4 (by omega) hg bN.cell (HT.out.below kw4))) belowK_t (belowK_b (by omega)) (Below.refl _ _) (fun _=>rfl)
   (fun pre2 W'=>an W' w.heap.size (ab ((pre2.map (·.1)).foldl (fun l t=>jE l t (B l z.1)) L))∧ae (ao w.heap.size) W4 W')
   (fun _ _ _=>False)
   (OwnFrom.and (cU (by omega)) (cN (Nat.le_refl _)))
   (fun _ _ _ _ _ hs _ _=>hs)
   ⟨HBW.out.below k4,ae.refl _ _⟩ (fun _=>Below.refl _ _) _ ?assign2 ?body2 ?done2 ?stop2
  case assign2=>
   intro l2 z2 W' K hK
   gi_wp2
   exact hK
  case body2=>
   rintro l2 pre2 z2 W'- -⟨hbW',hkW'⟩ hpl'
   have hz53:=HNX.out z.1 z2.1 z.2.1 z.2.2 z2.2.1 z2.2.2
   have kk:ae (ao w.heap.size) W W':=(ae.of_below (S:=ao w.heap.size) k4).trans' hkW' (fun i e=>Or.inl e)
   have kwW':Below w.heap.size w W':=aE kw4 hkW' (Nat.le_refl _)
   have HSK:Hid (∀w',ae (ao w.heap.size) W' w'→w'.cell? ⟨w.heap.size+1+1,0,none⟩=some (.func (.func 160) #[] #[.pointer (some ⟨bW,0,none⟩),.pointer (some ⟨w.heap.size,0,none⟩)])∧w'.cell? ⟨b3,0,none⟩=some (.func (.func bk) #[] caps)∧w'.cell? ⟨p,0,none⟩=some (.int .i64 z.1)):=fun w' q=>by
    have kD':ae (ao w.heap.size) D w':=(HKW.out.trans' kk (fun i e=>Or.inl e)).trans' q (fun i e=>Or.inl e)
    have kW':ae (ao w.heap.size) W w':=kk.trans' q (fun i e=>Or.inl e)
    have kb:Below w.heap.size w w':=aE kwW' q (Nat.le_refl _)
    refine⟨(HFD.out.kept kD' (by show¬w.heap.size+1+1=w.heap.size;omega)).cell 0,(kb.cell (p:=⟨b3,0,none⟩) l3).trans c3,(kW'.cell (p:=⟨p,0,none⟩) hpl2 (by show¬p=w.heap.size;omega)).trans HP.out.cell⟩
   obtain⟨L2,hL2⟩:∃L2,L2=(pre2.map (·.1)).foldl (fun l t=>jE l t (B l z.1)) L:=⟨_,rfl⟩
   have hL2l:L2.length=53:=by
    rw[hL2]
    have:∀(ts l:List Nat),(ts.foldl (fun l t=>jE l t (B l z.1)) l).length=l.length:=by
     intro ts
     induction ts with
     |nil=>intro l;rfl
     |cons t ts ih=>intro l;rw[List.foldl_cons,ih,mI]
    rw[this];exact hLl
   rw[←hL2]at hbW'
   obtain⟨g0,g1,g2⟩:=HSK.out W'.drew ((ae.refl _ W').drew)
   have hbd:an W'.drew w.heap.size (ab L2):=hbW'.below ⟨rfl,rfl,rfl,Nat.le_refl _,fun _ _=>rfl⟩
   have HBH:=aa (HBB.out W'.drew L2 z.1 kwW'.drew hbd hL2l z.2.1 z.2.2)
   have HBR:Hid (∀w2,Below W'.drew.heap.size W'.drew w2→Calls Tryz.prog 160 #[.int .i64 z2.1,.int .u64 (B L2 z.1:Nat),.pointer (some ⟨bW,0,none⟩),.pointer (some ⟨w.heap.size,0,none⟩)] w2 fun r w'=>r=.returned (.tuple #[])∧an w' w.heap.size (ab (jE L2 z2.1 (B L2 z.1)))∧ae (ao w.heap.size) w2 w'):=fun w2 k2'=>An (hbd.below k2') hL2l hz53 (((kwW'.drew.trans (k2'.mono kwW'.size)).cell (p:=⟨bW,2,none⟩) lW).trans cM)
   have HLN:Hid (((pre2++[z2]).map (·.1)).foldl (fun l t=>jE l t (B l z.1)) L=jE L2 z2.1 (B L2 z.1)):=by
    show _=_
    rw[List.map_append,hL2]
    exact da _ _ _ _
   have HKW':=aa hkW'
   have hsz':w.heap.size≤W'.heap.size:=kwW'.size
   have hben:=nK
   clear hbd hbW' hkW' kk kwW' hL2
   gi_wp2
   refine eJ (S:=fun w'=>w'.cell? ⟨w.heap.size+1+1,0,none⟩=some (.func (.func 160) #[] #[.pointer (some ⟨bW,0,none⟩),.pointer (some ⟨w.heap.size,0,none⟩)])∧w'.cell? ⟨b3,0,none⟩=some (.func (.func bk) #[] caps)∧w'.cell? ⟨p,0,none⟩=some (.int .i64 z.1)) (by kernel_rfl) (by kernel_rfl) (fun⟨_,_,e⟩=>e) (⟨g0,g1,g2⟩) (fun hHeld=>?_)
   refine tk 0 (v:=?v0) rfl (by kernel_rfl) (fun _ _ _ h=>h) (by assumption) rfl ?hy0 ?_
   case hy0=>intro _ h;(try dsimp only at h);go_simp;try with_reducible rfl
   try simp only[Act.put,aS,aR,aQ]
   refine tk 1 (v:=?v1) rfl (by kernel_rfl) (fun _ _ _ h=>h) (by assumption) rfl ?hy1 ?_
   case hy1=>intro _ h;(try dsimp only at h);go_simp;try with_reducible rfl
   try simp only[Act.put,aS,aR,aQ]
   refine tk 2 (v:=?v2) rfl (by kernel_rfl) (fun _ _ _ h=>h) (by assumption) rfl ?hy2 ?_
   case hy2=>intro _ h;(try dsimp only at h);go_simp;try with_reducible rfl
   try simp only[Act.put,aS,aR,aQ]
   refine tk 3 (v:=?v3) rfl (by kernel_rfl) (fun _ _ _ h=>h) (by assumption) rfl ?hy3 ?_
   case hy3=>intro _ h;(try dsimp only at h);go_simp;try with_reducible rfl
   try simp only[Act.put,aS,aR,aQ]
   refine wpAnyH_ready (rs:=[4]) (by kernel_rfl) (by simp) ?_
   refine AllReadyH.cons rfl (fun K' hK=>?_) AllReadyH.nil
   go_simp
   refine HBH.out.mono ?_
   rintro q w5 ⟨rfl,hb5⟩
   have HB5:=aa hb5
   have kq5:ae (ao w.heap.size) W' w5:=ae.of_below ⟨hb5.os,hb5.tape,hb5.output,hb5.size,hb5.block⟩
   obtain⟨e0,e1,e2⟩:=HSK.out w5 kq5
   have HKQ5:=aa kq5
   clear hb5 kq5
   try go_wp2_with fail
   refine hK.out _ _ ⟨e0,e1,e2⟩ (fun hHeld2=>?_)
   clear hK K' hHeld
   have hHeld:=hHeld2
   clear hHeld2
   try simp only[Act.put,aS,aR,aQ]
   refine wpAnyH_ready (rs:=[5]) (by kernel_rfl) (by simp) ?_
   refine AllReadyH.cons rfl (fun K' hK=>?_) AllReadyH.nil
   go_simp
   refine(HBR.out w5 HB5.out).mono ?_
   rintro q w6 ⟨rfl,hq⟩
   have hq2:ae (ao w.heap.size) W' w6:=HKQ5.out.trans' hq.2 (fun i e=>Or.inl e)
   obtain⟨f0,f1,f2⟩:=HSK.out w6 hq2
   try go_wp2_with fail
   refine hK.out _ _ ⟨f0,f1,f2⟩ (fun hHeld2=>?_)
   clear hK K' hHeld
   have hHeld:=hHeld2
   clear hHeld2
   try simp only[Act.put,aS,aR,aQ]
   refine wpAnyH_done (by kernel_rfl) ?_ _
   clear hHeld
   exact⟨bY hq2 (by omega),cn hq2 (Nat.le_refl _) hsz',by rw[HLN.out];exact hq.1,HKW'.out.trans' hq2 (fun i e=>Or.inl e)⟩
  case done2=>
   rintro ys W' rfl ⟨hbW',hkW'⟩
   have kk:ae (ao w.heap.size) W W':=(ae.of_below (S:=ao w.heap.size) k4).trans' hkW' (fun i e=>Or.inl e)
   have HF:Hid (KeepsFrom W2.heap.size W W'∧Below w.heap.size W W'∧an W' w.heap.size (ab (((pre++[z]).map (·.1)).foldl (x.stepM B) l))∧ae (ao w.heap.size) D W'):=by
    refine⟨bY kk (by omega),cn kk (Nat.le_refl _) hWz,?_,HKW.out.trans' kk (fun i e=>Or.inl e)⟩
    have e:((pre++[z]).map (·.1)).foldl (x.stepM B) l=x.stepM B L z.1:=by
     rw[List.map_append,HL.out]
     exact da _ _ _ _
    rw[e]
    unfold Rp.stepM
    rw[←cF]
    exact hbW'
   clear hbW' hkW' kk
   gi_wp2
   exact HF.out
  case stop2=>
   rintro c pre2 W' _ h
   exact h.elim
 case done=>
  rintro Dn ys W hDn rfl ⟨hbW,hkW⟩ hK
  have hbF:an W w.heap.size (ab (x.passM B S l)):=by
   have:=hbW
   rw[cF]at this
   exact this
  have hlF:Hid ((x.passM B S l).length=53):=by
   show _=_
   unfold Rp.passM
   have:∀(ts l:List Nat),(ts.foldl (x.stepM B) l).length=l.length:=by
    intro ts
    induction ts with
    |nil=>intro l;rfl
    |cons t ts ih=>intro l;rw[List.foldl_cons,ih,nR]
   rw[this];exact HLL.out
  have hrW:W.heap[w.heap.size+1]?=some (.cells gc 171 (0,0)):=(hkW.block _ (by omega) (by show¬w.heap.size+1=w.heap.size;omega)).trans HRD.out
  have HKW:=aa hkW
  clear hbW hkW
  gi_wp2_with (first|(refine gh rfl bO _ rfl rfl hbF hlF ?_)|(refine gg rfl bO _ _ rfl rfl rfl hlF hrW kq ?_))
  show∀w':World,_
  intro w4 hw4 hk4
  have hK4:w4.heap[Dn]?=some (.deferred (some [])):=(hk4.block _ (Array.getElem?_eq_some_iff.1 hK).1 (by show¬Dn=w.heap.size+1;omega)).trans hK
  have hkw4:Below w.heap.size w w4:=by
   have:=aE HKD.out HKW.out (Nat.le_refl _)
   exact this.trans ⟨hk4.os,hk4.tape,hk4.output,hk4.size,fun i hi=>hk4.block i (by have:=this.size;omega) (by show¬i=w.heap.size+1;omega)⟩
  have HK4:=aa hkw4
  have hsz:(Tryz.prog.info? 171).map (·.size)=some (ab (x.passM B S l)).size:=by rw[ar,hlF.out];exact bO.hi
  clear hk4 hbF hrW hkw4
  gi_wp2
  refine⟨by simp,.inl ⟨_,_,rfl,run_takeDeferred hK4,?_⟩⟩
  refine⟨_,results_cell_row rfl _ _ (w.heap.size+1) 171 (ab (x.passM B S l)) (0,0) _ rfl ((Array.getElem?_setIfInBounds_ne (by omega)).trans hw4) Tryz.underlying171 rfl hsz,rfl,?_⟩
  exact HK4.out.trans (belowK_b (w:=w) (Nat.le_refl _) w4 Dn _ _ (by omega) hK4 rfl rfl)
 case stop=>
  rintro Dn c pre W _ _ h _
  exact h.elim
end
section
set_option maxRecDepth 100000
set_option maxHeartbeats 4000000
open Go.RowKit Go.Shelf
attribute [local go_sem] Oper.semAt_some
namespace Rp
def stepS(x:Rp)(B:List Nat→Nat→Nat)(l:List Nat)(s:Nat):List Nat:=(els (x.nextOf s)).foldl (fun l t=>jD l t (B l s)) l
def passS(x:Rp)(B:List Nat→Nat→Nat)(S:Nat)(l:List Nat):List Nat:=(els S).foldl (x.stepS B) l
end Rp
theorem mH(l:List Nat)(a b:Nat):(jD l a b).length=l.length:=by simp[jD]
theorem nQ(x:Rp)(B:List Nat→Nat→Nat)(s:Nat)(l:List Nat):(x.stepS B l s).length=l.length:=by
 unfold Rp.stepS
 have:∀(ts l:List Nat),(ts.foldl (fun l t=>jD l t (B l s)) l).length=l.length:=by
  intro ts
  induction ts with
  |nil=>intro l;rfl
  |cons t ts ih=>intro l;rw[List.foldl_cons,ih,mH]
 exact this _ _
theorem wB{w:World}{bR bW b2 b3 S:Nat}{x:Rp}{B:List Nat→Nat→Nat}{bk:FuncId}{caps:Array Value}{l:List Nat}(h:aP w bR x)(ok:ei x)(hS:S< bI)(hSm:∀s,s< 64→S.testBit s=true→s< x.stmts.length∧x.isCall s=false)(hl:l.length=53)
  (cW:w.cell? ⟨bW,0,none⟩=some (ak bR)) (cM:w.cell? ⟨bW,2,none⟩=some (.func (.func 110) #[] #[])) (c2:w.cell? ⟨b2,0,none⟩=some (.int .u64 S)) (c3:w.cell? ⟨b3,0,none⟩=some (.func (.func bk) #[] caps))
  (hnx:∀s t,s< 64→S.testBit s=true→t< 64→(x.nextOf s).testBit t=true→t< 53)
  (hB:∀(W:World) (l:List Nat) (s:Nat),Below w.heap.size w W→an W w.heap.size (ab l)→l.length=53→s< 64→S.testBit s=true→Calls Tryz.prog bk (#[.pointer (some ⟨w.heap.size,0,none⟩),.int .i64 s]++caps) W fun r w'=>r=.returned (.int .u64 (B l s:Nat))∧Below W.heap.size W w')
  (hen:∀args w,(callFunc bk args).run Tryz.prog w=.ok (.enter bk args) w) (hT:Tz w) (hg:0< w.heap.size):
  Calls Tryz.prog 165 #[.agg (ab l),.pointer (some ⟨bW,0,none⟩),.pointer (some ⟨b2,0,none⟩),.pointer (some ⟨b3,0,none⟩)] w fun q w'=>q=.returned (.agg (ab (x.passS B S l)))∧Below w.heap.size w w':=by
 have lW:bW< w.heap.size:=ah cW
 have l2:b2< w.heap.size:=ah c2
 have l3:b3< w.heap.size:=ah c3
 have HLL:Hid (l.length=53):=hl
 obtain⟨D,hD⟩:∃W,W=((w.alloc (.cells (ab l) 175)).alloc (.cells gc 175)).alloc (.cells #[.func (.func 166) #[] #[.pointer (some ⟨bW,0,none⟩),.pointer (some ⟨w.heap.size,0,none⟩)]] 306):=⟨_,rfl⟩
 have kD:Below w.heap.size w D:=by rw[hD];exact(((Below.refl _ w).alloc (Nat.le_refl _) _).alloc (by simp) _).alloc (by simp;omega) _
 have hzD:w.heap.size+1+1< D.heap.size:=by rw[hD];simp
 have hbD:an D w.heap.size (ab l):=by rw[hD];exact((an.new w _ _).alloc _).alloc _
 have hrD:D.heap[w.heap.size+1]?=some (.cells gc 175 (0,0)):=by
  rw[hD]
  have:=heap_alloc_new (w.alloc (.cells (ab l) 175)) (.cells gc 175)
  rw[World.size_alloc]at this
  exact(Below.heap_alloc _ _ _ (by simp)).trans this
 have hfD:an D (w.heap.size+1+1) #[.func (.func 166) #[] #[.pointer (some ⟨bW,0,none⟩),.pointer (some ⟨w.heap.size,0,none⟩)]]:=by rw[hD];exact an.new' _ _ _ _ (by simp)
 have HH:=aa h
 have HSM:=aa hSm
 have HNX:=aa hnx
 have HBB:=aa hB
 have HOK:=aa ok
 have HT:=aa hT
 have HKD:=aa kD
 have HBD:=aa hbD
 have HRD:=aa hrD
 have HFD:=aa hfD
 have r2:D.cell? ⟨b2,0,none⟩=some (.int .u64 S):=(kD.cell (p:=⟨b2,0,none⟩) l2).trans c2
 have a1:=an.new' ((w.alloc (.cells (ab l) 175)).alloc (.cells gc 175)) #[.nilFunc] 306 (w.heap.size+1+1) (by simp)
 have a2:(((w.alloc (.cells (ab l) 175)).alloc (.cells gc 175)).alloc (.cells #[.nilFunc] 306)).cell? ⟨w.heap.size+1+1,0,none⟩=some .nilFunc:=a1.cell 0
 have a3:=a1.fz 0
 rw[hD]at r2
 have HD:=aa hD
 clear h ok hSm hnx hB hT kD hbD hrD hfD a1 hD
 refine(callsIn_wide (n:=5)).1 ?_
 refine callsIn_of_wp_marks Tryz.func165 rfl trivial ?_ rfl
 simp only[Tryz.ntmps165,List.size_toArray,List.length_cons,List.length_nil,Nat.reduceAdd,Nat.reduceSub,Array.replicate_succ,Array.replicate_zero,List.push_toArray,List.append_toArray,List.nil_append,List.cons_append]
 gi_wp2_with (refine⟨trivial,?_⟩;gi_at_call 96;rw[←HD.out];refine(eI _ _ _).mono ?_;rintro e w' ⟨rfl,hq⟩;subst w')
 obtain⟨W2,hW2⟩:∃W,W=D.alloc (.cells #[.int .u64 S] 199):=⟨_,rfl⟩
 have k2:Below D.heap.size D W2:=by rw[hW2];exact(Below.refl _ D).alloc (Nat.le_refl _) _
 have bA:Boxed W2 D.heap.size 199 (.int .u64 S):=by rw[hW2];exact Boxed.new _ _ _
 have hz2:D.heap.size< W2.heap.size:=bA.lt
 have kw2:Below w.heap.size w W2:=HKD.out.trans (k2.mono HKD.out.size)
 rw[←hW2]
 clear hW2 r2 a2 a3
 refine wpIn_rangeFunc_ownH rfl (by decide) (gf:=147) (lb:=#[.pointer (some ⟨D.heap.size,0,none⟩)]) rfl trivial (enters_of Tryz.func147 (by kernel_rfl) rfl)
  (dr 4 (by decide) D.heap.size w.heap.size S hS _ hz2 (by omega) hg bA.cell (HT.out.below kw2)) belowK_t (belowK_b (by omega)) (Below.refl _ _) (fun _=>rfl)
  (fun pre W=>an W w.heap.size (ab ((pre.map (·.1)).foldl (x.stepS B) l))∧ae (ao w.heap.size) D W)
  (fun _ _ _=>False)
  (OwnFrom.and (cU (by omega)) (cN (by omega)))
  (fun _ _ _ _ _ hs _ _=>hs)
  ⟨HBD.out.below k2,ae.of_below k2⟩
  (fun z a' W=>∃p,a'={tmps:=#[.agg (ab l),.pointer (some ⟨bW,0,none⟩),.pointer (some ⟨b2,0,none⟩),.pointer (some ⟨b3,0,none⟩),.pointer (some ⟨w.heap.size,0,none⟩),.pointer (some ⟨w.heap.size+1,0,none⟩),.pointer (some ⟨w.heap.size+1+1,0,none⟩),.pointer (some ⟨p,0,none⟩),undef,undef,undef,.func (.func 166) #[] #[.pointer (some ⟨bW,0,none⟩),.pointer (some ⟨w.heap.size,0,none⟩)],.int .u64 S,.func (.func 147) #[] #[.pointer (some ⟨D.heap.size,0,none⟩)],.int .i64 z.1,undef,undef,undef,undef,undef,undef,undef,undef,undef,undef,undef,undef,undef,undef,undef,undef,undef,undef,undef,undef,undef,undef,undef,undef,undef,undef,undef,undef,undef,undef,undef,undef,undef,undef],defers:=[]}∧Boxed W p 141 (.int .i64 z.1)∧w.heap.size< p)
  (fun z a' _ X Y row hs hg' hr=>by
   obtain⟨p,e,hp,hlt⟩:=hs
   exact⟨p,e,boxed_own (β:=Unit) p _ (fun _=>_) () X Y row hp hg' (fun r e=>(hr r e).2),hlt⟩) ?assign ?body ?done ?stop
 case assign=>
  rintro lr pre z W K ⟨hbW,hkW⟩ hK
  have kA:Below W.heap.size W (W.alloc (.cells #[.int .i64 z.1] 141)):=(Below.refl _ W).alloc (Nat.le_refl _) _
  have hWz:w.heap.size< W.heap.size:=hbW.lt
  have:=hK {tmps:=#[.agg (ab l),.pointer (some ⟨bW,0,none⟩),.pointer (some ⟨b2,0,none⟩),.pointer (some ⟨b3,0,none⟩),.pointer (some ⟨w.heap.size,0,none⟩),.pointer (some ⟨w.heap.size+1,0,none⟩),.pointer (some ⟨w.heap.size+1+1,0,none⟩),.pointer (some ⟨W.heap.size,0,none⟩),undef,undef,undef,.func (.func 166) #[] #[.pointer (some ⟨bW,0,none⟩),.pointer (some ⟨w.heap.size,0,none⟩)],.int .u64 S,.func (.func 147) #[] #[.pointer (some ⟨D.heap.size,0,none⟩)],.int .i64 z.1,undef,undef,undef,undef,undef,undef,undef,undef,undef,undef,undef,undef,undef,undef,undef,undef,undef,undef,undef,undef,undef,undef,undef,undef,undef,undef,undef,undef,undef,undef,undef,undef,undef,undef],defers:=[]} _ (aB kA) (kA.mono (by omega)) ⟨hbW.below kA,hkW.below kA⟩ ⟨W.heap.size,rfl,Boxed.new _ _ _,hWz⟩
  have HK:=aa this
  clear hK this hbW hkW
  gi_wp2
  exact HK.out
 case body=>
  rintro lr pre z a' W hlr ⟨rr,hrr⟩ ⟨hbW,hkW⟩ ⟨p,rfl,hp,hpw⟩ hpl
  have kW:Below w.heap.size w W:=aE HKD.out hkW (Nat.le_refl _)
  obtain⟨hzs,hzc⟩:=HSM.out z.1 z.2.1 z.2.2
  obtain⟨L,hL⟩:∃L,L=(pre.map (·.1)).foldl (x.stepS B) l:=⟨_,rfl⟩
  have hLl:L.length=53:=by
   rw[hL]
   have:∀(ts l:List Nat),(ts.foldl (x.stepS B) l).length=l.length:=by
    intro ts
    induction ts with
    |nil=>intro l;rfl
    |cons t ts ih=>intro l;rw[List.foldl_cons,ih,nQ]
   rw[this];exact HLL.out
  rw[←hL]at hbW
  have q0:W.cell? ⟨bW,0,none⟩=some (ak bR):=(kW.cell (p:=⟨bW,0,none⟩) lW).trans cW
  have qp:W.cell? ⟨p,0,none⟩=some (.int .i64 z.1):=hp.cell
  have hcl:=jf (HH.out.keep kW) hzs
  rw[hzc]at hcl
  have HCA:=aa hcl
  have HNXT:Hid (∀W',Below W.heap.size W W'→Calls Tryz.prog 129 #[ak bR,.int .i64 z.1] W' fun r w'=>r=.returned (.int .u64 (x.nextOf z.1))∧Below W'.heap.size W' w'):=fun W' kk=>qc (HH.out.keep (kW.trans (kk.mono kW.size))) HOK.out hzs
  have HBW:=aa hbW
  have HKW:=aa hkW
  have HKw:=aa kW
  have HP:=aa hp
  have HL:=aa hL
  have hpl2:p< W.heap.size:=hp.lt
  have hWz:=kW.size
  clear hbW hkW kW hcl hp hL
  gi_wp2
  refine⟨trivial,?_⟩
  refine(CallsIn.inRound lr (callsIn_wide.2 HCA.out)).mono ?_
  rintro e W1 ⟨rfl,hb1⟩
  have q0':W1.cell? ⟨bW,0,none⟩=some (ak bR):=(hb1.cell (p:=⟨bW,0,none⟩) (by show bW< W.heap.size;omega)).trans q0
  have qp':W1.cell? ⟨p,0,none⟩=some (.int .i64 z.1):=(hb1.cell (p:=⟨p,0,none⟩) hpl2).trans qp
  have HNX1:=aa (HNXT.out W1 hb1)
  have HB1:=aa hb1
  clear hb1 q0 qp HCA HNXT
  gi_wp2
  refine⟨trivial,?_⟩
  refine(CallsIn.inRound lr (callsIn_wide.2 HNX1.out)).mono ?_
  rintro e W3 ⟨rfl,hb3⟩
  have HB3:Hid (Below W.heap.size W W3):=HB1.out.trans (hb3.mono HB1.out.size)
  clear hb3 HB1 HNX1 q0' qp'
  gi_wp2_with (refine⟨trivial,?_⟩;gi_at_call 96;refine(CallsIn.inRound lr (eI _ _ _)).mono ?_;rintro e w' ⟨rfl,hq⟩;subst w')
  obtain⟨W4,hW4⟩:∃W,W=W3.alloc (.cells #[.int .u64 (x.nextOf z.1)] 199):=⟨_,rfl⟩
  have k4:Below W.heap.size W W4:=by rw[hW4];exact HB3.out.alloc HB3.out.size _
  have bN:Boxed W4 W3.heap.size 199 (.int .u64 (x.nextOf z.1)):=by rw[hW4];exact Boxed.new _ _ _
  have hz4:W3.heap.size< W4.heap.size:=bN.lt
  have hz43:=k4.size
  have kw4:Below w.heap.size w W4:=HKw.out.trans (k4.mono hWz)
  have hnlt:x.nextOf z.1< bI:=oc x z.1
  rw[←hW4]
  have HL4:Hid (W4.heap[lr]?=some (.loop rr)):=(k4.block lr (Array.getElem?_eq_some_iff.1 hrr).1).trans hrr
  clear hW4
  refine' rK (l₀:=lr) rfl HL4.out (by decide) (gf:=147) (lb:=#[.pointer (some ⟨W3.heap.size,0,none⟩)]) rfl trivial (enters_of Tryz.func147 (by kernel_rfl) rfl)
   (SeqStopsK.inRound lr (dr 2 (by decide) W3.heap.size w.heap.size (x.nextOf z.1) hnlt W4 hz4 (by omega) hg bN.cell (HT.out.below kw4))) belowK_t (belowK_b (by omega)) (Below.refl _ _) (fun _=>rfl)
   (fun pre2 W'=>an W' w.heap.size (ab ((pre2.map (·.1)).foldl (fun l t=>jD l t (B l z.1)) L))∧ae (ao w.heap.size) W4 W')
   (fun _ _ _=>False)
   (OwnFrom.and (cU (by omega)) (cN (Nat.le_refl _)))
   (fun _ _ _ _ _ hs _ _=>hs)
   ⟨HBW.out.below k4,ae.refl _ _⟩ (fun _=>Below.refl _ _) _ ?assign2 ?body2 ?done2 ?stop2
  case assign2=>
   intro l2 z2 W' K hK
   gi_wp2
   exact hK
  case body2=>
   rintro l2 pre2 z2 W'- -⟨hbW',hkW'⟩ hpl'
   have hz53:=HNX.out z.1 z2.1 z.2.1 z.2.2 z2.2.1 z2.2.2
   have kk:ae (ao w.heap.size) W W':=(ae.of_below (S:=ao w.heap.size) k4).trans' hkW' (fun i e=>Or.inl e)
   have kwW':Below w.heap.size w W':=aE kw4 hkW' (Nat.le_refl _)
   have HSK:Hid (∀w',ae (ao w.heap.size) W' w'→w'.cell? ⟨w.heap.size+1+1,0,none⟩=some (.func (.func 166) #[] #[.pointer (some ⟨bW,0,none⟩),.pointer (some ⟨w.heap.size,0,none⟩)])∧w'.cell? ⟨b3,0,none⟩=some (.func (.func bk) #[] caps)∧w'.cell? ⟨p,0,none⟩=some (.int .i64 z.1)):=fun w' q=>by
    have kD':ae (ao w.heap.size) D w':=(HKW.out.trans' kk (fun i e=>Or.inl e)).trans' q (fun i e=>Or.inl e)
    have kW':ae (ao w.heap.size) W w':=kk.trans' q (fun i e=>Or.inl e)
    have kb:Below w.heap.size w w':=aE kwW' q (Nat.le_refl _)
    refine⟨(HFD.out.kept kD' (by show¬w.heap.size+1+1=w.heap.size;omega)).cell 0,(kb.cell (p:=⟨b3,0,none⟩) l3).trans c3,(kW'.cell (p:=⟨p,0,none⟩) hpl2 (by show¬p=w.heap.size;omega)).trans HP.out.cell⟩
   obtain⟨L2,hL2⟩:∃L2,L2=(pre2.map (·.1)).foldl (fun l t=>jD l t (B l z.1)) L:=⟨_,rfl⟩
   have hL2l:L2.length=53:=by
    rw[hL2]
    have:∀(ts l:List Nat),(ts.foldl (fun l t=>jD l t (B l z.1)) l).length=l.length:=by
     intro ts
     induction ts with
     |nil=>intro l;rfl
     |cons t ts ih=>intro l;rw[List.foldl_cons,ih,mH]
    rw[this];exact hLl
   rw[←hL2]at hbW'
   obtain⟨g0,g1,g2⟩:=HSK.out W'.drew ((ae.refl _ W').drew)
   have hbd:an W'.drew w.heap.size (ab L2):=hbW'.below ⟨rfl,rfl,rfl,Nat.le_refl _,fun _ _=>rfl⟩
   have HBH:=aa (HBB.out W'.drew L2 z.1 kwW'.drew hbd hL2l z.2.1 z.2.2)
   have HBR:Hid (∀w2,Below W'.drew.heap.size W'.drew w2→Calls Tryz.prog 166 #[.int .i64 z2.1,.int .u64 (B L2 z.1:Nat),.pointer (some ⟨bW,0,none⟩),.pointer (some ⟨w.heap.size,0,none⟩)] w2 fun r w'=>r=.returned (.tuple #[])∧an w' w.heap.size (ab (jD L2 z2.1 (B L2 z.1)))∧ae (ao w.heap.size) w2 w'):=fun w2 k2'=>Am (hbd.below k2') hL2l hz53 (((kwW'.drew.trans (k2'.mono kwW'.size)).cell (p:=⟨bW,2,none⟩) lW).trans cM)
   have HLN:Hid (((pre2++[z2]).map (·.1)).foldl (fun l t=>jD l t (B l z.1)) L=jD L2 z2.1 (B L2 z.1)):=by
    show _=_
    rw[List.map_append,hL2]
    exact da _ _ _ _
   have HKW':=aa hkW'
   have hsz':w.heap.size≤W'.heap.size:=kwW'.size
   have hben:=nJ
   clear hbd hbW' hkW' kk kwW' hL2
   gi_wp2
   refine eJ (S:=fun w'=>w'.cell? ⟨w.heap.size+1+1,0,none⟩=some (.func (.func 166) #[] #[.pointer (some ⟨bW,0,none⟩),.pointer (some ⟨w.heap.size,0,none⟩)])∧w'.cell? ⟨b3,0,none⟩=some (.func (.func bk) #[] caps)∧w'.cell? ⟨p,0,none⟩=some (.int .i64 z.1)) (by kernel_rfl) (by kernel_rfl) (fun⟨_,_,e⟩=>e) (⟨g0,g1,g2⟩) (fun hHeld=>?_)
   refine tk 0 (v:=?v0) rfl (by kernel_rfl) (fun _ _ _ h=>h) (by assumption) rfl ?hy0 ?_
   case hy0=>intro _ h;(try dsimp only at h);go_simp;try with_reducible rfl
   try simp only[Act.put,aS,aR,aQ]
   refine tk 1 (v:=?v1) rfl (by kernel_rfl) (fun _ _ _ h=>h) (by assumption) rfl ?hy1 ?_
   case hy1=>intro _ h;(try dsimp only at h);go_simp;try with_reducible rfl
   try simp only[Act.put,aS,aR,aQ]
   refine tk 2 (v:=?v2) rfl (by kernel_rfl) (fun _ _ _ h=>h) (by assumption) rfl ?hy2 ?_
   case hy2=>intro _ h;(try dsimp only at h);go_simp;try with_reducible rfl
   try simp only[Act.put,aS,aR,aQ]
   refine tk 3 (v:=?v3) rfl (by kernel_rfl) (fun _ _ _ h=>h) (by assumption) rfl ?hy3 ?_
   case hy3=>intro _ h;(try dsimp only at h);go_simp;try with_reducible rfl
   try simp only[Act.put,aS,aR,aQ]
   refine wpAnyH_ready (rs:=[4]) (by kernel_rfl) (by simp) ?_
   refine AllReadyH.cons rfl (fun K' hK=>?_) AllReadyH.nil
   go_simp
   refine HBH.out.mono ?_
   rintro q w5 ⟨rfl,hb5⟩
   have HB5:=aa hb5
   have kq5:ae (ao w.heap.size) W' w5:=ae.of_below ⟨hb5.os,hb5.tape,hb5.output,hb5.size,hb5.block⟩
   obtain⟨e0,e1,e2⟩:=HSK.out w5 kq5
   have HKQ5:=aa kq5
   clear hb5 kq5
   try go_wp2_with fail
   refine hK.out _ _ ⟨e0,e1,e2⟩ (fun hHeld2=>?_)
   clear hK K' hHeld
   have hHeld:=hHeld2
   clear hHeld2
   try simp only[Act.put,aS,aR,aQ]
   refine wpAnyH_ready (rs:=[5]) (by kernel_rfl) (by simp) ?_
   refine AllReadyH.cons rfl (fun K' hK=>?_) AllReadyH.nil
   go_simp
   refine(HBR.out w5 HB5.out).mono ?_
   rintro q w6 ⟨rfl,hq⟩
   have hq2:ae (ao w.heap.size) W' w6:=HKQ5.out.trans' hq.2 (fun i e=>Or.inl e)
   obtain⟨f0,f1,f2⟩:=HSK.out w6 hq2
   try go_wp2_with fail
   refine hK.out _ _ ⟨f0,f1,f2⟩ (fun hHeld2=>?_)
   clear hK K' hHeld
   have hHeld:=hHeld2
   clear hHeld2
   try simp only[Act.put,aS,aR,aQ]
   refine wpAnyH_done (by kernel_rfl) ?_ _
   clear hHeld
   exact⟨bY hq2 (by omega),cn hq2 (Nat.le_refl _) hsz',by rw[HLN.out];exact hq.1,HKW'.out.trans' hq2 (fun i e=>Or.inl e)⟩
  case done2=>
   rintro ys W' rfl ⟨hbW',hkW'⟩
   have kk:ae (ao w.heap.size) W W':=(ae.of_below (S:=ao w.heap.size) k4).trans' hkW' (fun i e=>Or.inl e)
   have HF:Hid (KeepsFrom W2.heap.size W W'∧Below w.heap.size W W'∧an W' w.heap.size (ab (((pre++[z]).map (·.1)).foldl (x.stepS B) l))∧ae (ao w.heap.size) D W'):=by
    refine⟨bY kk (by omega),cn kk (Nat.le_refl _) hWz,?_,HKW.out.trans' kk (fun i e=>Or.inl e)⟩
    have e:((pre++[z]).map (·.1)).foldl (x.stepS B) l=x.stepS B L z.1:=by
     rw[List.map_append,HL.out]
     exact da _ _ _ _
    rw[e]
    unfold Rp.stepS
    rw[←cF]
    exact hbW'
   clear hbW' hkW' kk
   gi_wp2
   exact HF.out
  case stop2=>
   rintro c pre2 W' _ h
   exact h.elim
 case done=>
  rintro Dn ys W hDn rfl ⟨hbW,hkW⟩ hK
  have hbF:an W w.heap.size (ab (x.passS B S l)):=by
   have:=hbW
   rw[cF]at this
   exact this
  have hlF:Hid ((x.passS B S l).length=53):=by
   show _=_
   unfold Rp.passS
   have:∀(ts l:List Nat),(ts.foldl (x.stepS B) l).length=l.length:=by
    intro ts
    induction ts with
    |nil=>intro l;rfl
    |cons t ts ih=>intro l;rw[List.foldl_cons,ih,nQ]
   rw[this];exact HLL.out
  have hrW:W.heap[w.heap.size+1]?=some (.cells gc 175 (0,0)):=(hkW.block _ (by omega) (by show¬w.heap.size+1=w.heap.size;omega)).trans HRD.out
  have HKW:=aa hkW
  clear hbW hkW
  gi_wp2_with (first|(refine gh rfl ce _ rfl rfl hbF hlF ?_)|(refine gg rfl ce _ _ rfl rfl rfl hlF hrW kq ?_))
  show∀w':World,_
  intro w4 hw4 hk4
  have hK4:w4.heap[Dn]?=some (.deferred (some [])):=(hk4.block _ (Array.getElem?_eq_some_iff.1 hK).1 (by show¬Dn=w.heap.size+1;omega)).trans hK
  have hkw4:Below w.heap.size w w4:=by
   have:=aE HKD.out HKW.out (Nat.le_refl _)
   exact this.trans ⟨hk4.os,hk4.tape,hk4.output,hk4.size,fun i hi=>hk4.block i (by have:=this.size;omega) (by show¬i=w.heap.size+1;omega)⟩
  have HK4:=aa hkw4
  have hsz:(Tryz.prog.info? 175).map (·.size)=some (ab (x.passS B S l)).size:=by rw[ar,hlF.out];exact ce.hi
  clear hk4 hbF hrW hkw4
  gi_wp2
  refine⟨by simp,.inl ⟨_,_,rfl,run_takeDeferred hK4,?_⟩⟩
  refine⟨_,results_cell_row rfl _ _ (w.heap.size+1) 175 (ab (x.passS B S l)) (0,0) _ rfl ((Array.getElem?_setIfInBounds_ne (by omega)).trans hw4) Tryz.underlying175 rfl hsz,rfl,?_⟩
  exact HK4.out.trans (belowK_b (w:=w) (Nat.le_refl _) w4 Dn _ _ (by omega) hK4 rfl rfl)
 case stop=>
  rintro Dn c pre W _ _ h _
  exact h.elim
end
section
set_option maxRecDepth 100000
set_option maxHeartbeats 4000000
open Go.RowKit Go.Shelf
attribute [local go_sem] Oper.semAt_some
theorem yA{l:List Nat}(h:Wd 53 l)(a b:Nat):Wd 53 (jE l a b):=⟨by rw[mI];exact h.len,fun v hv=>by
 unfold jE at hv
 rcases List.mem_or_eq_of_mem_set hv with hv|rfl
 ·exact h.lt v hv
 ·exact oE _ _⟩
theorem qh(x:Rp)(B:List Nat→Nat→Nat)(S:Nat){l:List Nat}(h:Wd 53 l):Wd 53 (x.passM B S l):=by
 have h1:∀(s:Nat) (ts l:List Nat),Wd 53 l→Wd 53 (ts.foldl (fun l t=>jE l t (B l s)) l):=by
  intro s ts
  induction ts with
  |nil=>intro l h;exact h
  |cons t ts ih=>intro l h;exact ih _ (yA h _ _)
 have h2:∀(ts l:List Nat),Wd 53 l→Wd 53 (ts.foldl (x.stepM B) l):=by
  intro ts
  induction ts with
  |nil=>intro l h;exact h
  |cons t ts ih=>intro l h;exact ih _ (h1 t _ _ h)
 exact h2 _ _ h
theorem nI:∀args w,(callFunc 159 args).run Tryz.prog w=.ok (.enter 159 args) w:=enters_of Tryz.func159 (by kernel_rfl) rfl
theorem yr{w:World}{bR S k0 nn:Nat}{x:Rp}{B:List Nat→Nat→Nat}{bk:FuncId}{caps:Array Value}{l R:List Nat}(h:aP w bR x)(ok:ei x)(hS:S< bI)(hSm:∀s,s< 64→S.testBit s=true→s< x.stmts.length∧x.isCall s=false)(hl:Wd 53 l)
  (hnx:∀s t,s< 64→S.testBit s=true→t< 64→(x.nextOf s).testBit t=true→t< 53)
  (hB:∀(W:World) (bA:Nat) (l:List Nat) (s:Nat),Below w.heap.size w W→an W bA (ab l)→l.length=53→s< 64→S.testBit s=true→Calls Tryz.prog bk (#[.pointer (some ⟨bA,0,none⟩),.int .i64 s]++caps) W fun r w'=>r=.returned (.int .u64 (B l s:Nat))∧Below W.heap.size W w')
  (hen:∀args w,(callFunc bk args).run Tryz.prog w=.ok (.enter bk args) w) (hT:Tz w) (hg:0< w.heap.size) (hR:aM (x.passM B S) k0 l=some R):
  Calls Tryz.prog 104 #[.agg #[ak bR,.int .u64 nn,.func (.func 102) #[] #[]],.agg (ab l),.int .u64 S,.func (.func bk) #[] caps] w fun q w'=>q=.returned (.agg (ab R))∧Below w.heap.size w w':=by
 obtain⟨D,hD⟩:∃W,W=((((w.alloc (.cells #[ak bR,.int .u64 nn,.func (.func 102) #[] #[]] 237)).alloc (.cells (ab l) 171)).alloc (.cells #[.int .u64 S] 199)).alloc (.cells #[.func (.func bk) #[] caps] 247)).alloc (.cells gc 171):=⟨_,rfl⟩
 have kD:Below w.heap.size w D:=by rw[hD];exact(((((Below.refl _ w).alloc (Nat.le_refl _) _).alloc (by simp) _).alloc (by simp;omega) _).alloc (by simp;omega) _).alloc (by simp;omega) _
 have b0:an D w.heap.size #[ak bR,.int .u64 nn,.func (.func 102) #[] #[]]:=by rw[hD];exact((((an.new w _ _).alloc _).alloc _).alloc _).alloc _
 have b1:an D (w.heap.size+1) (ab l):=by rw[hD];exact(((an.new' _ _ _ _ (by simp)).alloc _).alloc _).alloc _
 have b2:an D (w.heap.size+1+1) #[.int .u64 S]:=by rw[hD];exact((an.new' _ _ _ _ (by simp)).alloc _).alloc _
 have b3:an D (w.heap.size+1+1+1) #[.func (.func bk) #[] caps]:=by rw[hD];exact(an.new' _ _ _ _ (by simp)).alloc _
 have b4:D.heap[w.heap.size+1+1+1+1]?=some (.cells gc 171 (0,0)):=by
  rw[hD]
  have:=heap_alloc_new ((((w.alloc (.cells #[ak bR,.int .u64 nn,.func (.func 102) #[] #[]] 237)).alloc (.cells (ab l) 171)).alloc (.cells #[.int .u64 S] 199)).alloc (.cells #[.func (.func bk) #[] caps] 247)) (.cells gc 171)
  rw[World.size_alloc,World.size_alloc,World.size_alloc,World.size_alloc]at this
  exact this
 have HLL:Hid (l.length=53):=hl.len
 have HSE:Hid (Calls Tryz.prog 158 #[.agg (ab l),.func (.func 159) #[] #[.pointer (some ⟨w.heap.size,0,none⟩),.pointer (some ⟨w.heap.size+1+1,0,none⟩),.pointer (some ⟨w.heap.size+1+1+1,0,none⟩)]] D fun r w'=>r=.returned (.agg (ab R))∧Below D.heap.size D w'):=by
  refine vm l R k0 (x.passM B S) (fun _=>True) 159 #[] _ D hl trivial (fun y hy _=>⟨qh x B S hy,trivial⟩) hR (fun y W hy _ kk=>?_) nI
  have kw:=kD.trans (kk.mono kD.size)
  exact wC (h.keep kw) ok hS hSm hy.len ((b0.below kk).cell 0) ((b0.below kk).cell 2) ((b2.below kk).cell 0) ((b3.below kk).cell 0) hnx (fun W' l' s k' hb' hl' hs' ht'=>hB W' W.heap.size l' s (kw.trans (k'.mono kw.size)) hb' hl' hs' ht') hen (hT.below kw) (Nat.lt_of_lt_of_le hg kw.size)
 have hRl:Hid (R.length=53):=by
  have:∀(k:Nat) (y:List Nat),Wd 53 y→aM (x.passM B S) k y=some R→R.length=53:=by
   intro k
   induction k with
   |zero=>
    intro y hy he
    unfold aM at he
    split at he
    ·cases he;exact hy.len
    ·cases he
   |succ k ih=>
    intro y hy he
    unfold aM at he
    split at he
    ·cases he;exact hy.len
    ·exact ih _ (qh x B S hy) he
  exact this k0 l hl hR
 have HD:=aa hD
 have HKD:=aa kD
 have HB4:=aa b4
 have hb1:an D (w.heap.size+1) (ab l):=b1
 clear h ok hSm hl hnx hB hT hR hD kD b0 b1 b2 b3 b4
 go_enter Tryz.func104,Tryz.ntmps104
 go_wp2_with (first|(rw[←HD.out];refine aT rfl bO _ rfl rfl hb1 HLL ?_))
 refine HSE.out.mono ?_
 rintro q w2 ⟨rfl,hb2⟩
 have ht2:=(hb2.block _ (Array.getElem?_eq_some_iff.1 HB4.out).1).trans HB4.out
 have HB2:=aa hb2
 clear hb2 hb1
 go_wp2_with (first|(refine bM rfl bO _ _ rfl rfl rfl hRl ht2 kq ?_))
 show∀w':World,_
 intro w3 hw3 hk3
 have HF3:Hid (Below w.heap.size w w3):=by
  have k0:=HKD.out.trans (HB2.out.mono HKD.out.size)
  exact k0.trans ⟨hk3.os,hk3.tape,hk3.output,hk3.size,fun i hi=>hk3.block i (by have:=k0.size;omega) (by show¬i=w.heap.size+1+1+1+1;omega)⟩
 have hsz:(Tryz.prog.info? 171).map (·.size)=some (ab R).size:=by rw[ar,hRl.out];exact bO.hi
 clear hk3 ht2
 go_wp2_with fail
 refine bodyPost_ret (results_cell_row rfl _ _ (w.heap.size+1+1+1+1) 171 (ab R) (0,0) _ rfl hw3 Tryz.underlying171 rfl hsz) rfl ⟨rfl,HF3.out⟩
theorem yz{l:List Nat}(h:Wd 53 l)(a b:Nat):Wd 53 (jD l a b):=⟨by rw[mH];exact h.len,fun v hv=>by
 unfold jD at hv
 rcases List.mem_or_eq_of_mem_set hv with hv|rfl
 ·exact h.lt v hv
 ·exact fT _ _⟩
theorem qg(x:Rp)(B:List Nat→Nat→Nat)(S:Nat){l:List Nat}(h:Wd 53 l):Wd 53 (x.passS B S l):=by
 have h1:∀(s:Nat) (ts l:List Nat),Wd 53 l→Wd 53 (ts.foldl (fun l t=>jD l t (B l s)) l):=by
  intro s ts
  induction ts with
  |nil=>intro l h;exact h
  |cons t ts ih=>intro l h;exact ih _ (yz h _ _)
 have h2:∀(ts l:List Nat),Wd 53 l→Wd 53 (ts.foldl (x.stepS B) l):=by
  intro ts
  induction ts with
  |nil=>intro l h;exact h
  |cons t ts ih=>intro l h;exact ih _ (h1 t _ _ h)
 exact h2 _ _ h
theorem nH:∀args w,(callFunc 165 args).run Tryz.prog w=.ok (.enter 165 args) w:=enters_of Tryz.func165 (by kernel_rfl) rfl
theorem yq{w:World}{bR S k0 nn:Nat}{x:Rp}{B:List Nat→Nat→Nat}{bk:FuncId}{caps:Array Value}{l R:List Nat}(h:aP w bR x)(ok:ei x)(hS:S< bI)(hSm:∀s,s< 64→S.testBit s=true→s< x.stmts.length∧x.isCall s=false)(hl:Wd 53 l)
  (hnx:∀s t,s< 64→S.testBit s=true→t< 64→(x.nextOf s).testBit t=true→t< 53)
  (hB:∀(W:World) (bA:Nat) (l:List Nat) (s:Nat),Below w.heap.size w W→an W bA (ab l)→l.length=53→s< 64→S.testBit s=true→Calls Tryz.prog bk (#[.pointer (some ⟨bA,0,none⟩),.int .i64 s]++caps) W fun r w'=>r=.returned (.int .u64 (B l s:Nat))∧Below W.heap.size W w')
  (hen:∀args w,(callFunc bk args).run Tryz.prog w=.ok (.enter bk args) w) (hT:Tz w) (hg:0< w.heap.size) (hR:aM (x.passS B S) k0 l=some R):
  Calls Tryz.prog 112 #[.agg #[ak bR,.int .u64 nn,.func (.func 110) #[] #[]],.agg (ab l),.int .u64 S,.func (.func bk) #[] caps] w fun q w'=>q=.returned (.agg (ab R))∧Below w.heap.size w w':=by
 obtain⟨D,hD⟩:∃W,W=((((w.alloc (.cells #[ak bR,.int .u64 nn,.func (.func 110) #[] #[]] 250)).alloc (.cells (ab l) 175)).alloc (.cells #[.int .u64 S] 199)).alloc (.cells #[.func (.func bk) #[] caps] 261)).alloc (.cells gc 175):=⟨_,rfl⟩
 have kD:Below w.heap.size w D:=by rw[hD];exact(((((Below.refl _ w).alloc (Nat.le_refl _) _).alloc (by simp) _).alloc (by simp;omega) _).alloc (by simp;omega) _).alloc (by simp;omega) _
 have b0:an D w.heap.size #[ak bR,.int .u64 nn,.func (.func 110) #[] #[]]:=by rw[hD];exact((((an.new w _ _).alloc _).alloc _).alloc _).alloc _
 have b1:an D (w.heap.size+1) (ab l):=by rw[hD];exact(((an.new' _ _ _ _ (by simp)).alloc _).alloc _).alloc _
 have b2:an D (w.heap.size+1+1) #[.int .u64 S]:=by rw[hD];exact((an.new' _ _ _ _ (by simp)).alloc _).alloc _
 have b3:an D (w.heap.size+1+1+1) #[.func (.func bk) #[] caps]:=by rw[hD];exact(an.new' _ _ _ _ (by simp)).alloc _
 have b4:D.heap[w.heap.size+1+1+1+1]?=some (.cells gc 175 (0,0)):=by
  rw[hD]
  have:=heap_alloc_new ((((w.alloc (.cells #[ak bR,.int .u64 nn,.func (.func 110) #[] #[]] 250)).alloc (.cells (ab l) 175)).alloc (.cells #[.int .u64 S] 199)).alloc (.cells #[.func (.func bk) #[] caps] 261)) (.cells gc 175)
  rw[World.size_alloc,World.size_alloc,World.size_alloc,World.size_alloc]at this
  exact this
 have HLL:Hid (l.length=53):=hl.len
 have HSE:Hid (Calls Tryz.prog 164 #[.agg (ab l),.func (.func 165) #[] #[.pointer (some ⟨w.heap.size,0,none⟩),.pointer (some ⟨w.heap.size+1+1,0,none⟩),.pointer (some ⟨w.heap.size+1+1+1,0,none⟩)]] D fun r w'=>r=.returned (.agg (ab R))∧Below D.heap.size D w'):=by
  refine vl l R k0 (x.passS B S) (fun _=>True) 165 #[] _ D hl trivial (fun y hy _=>⟨qg x B S hy,trivial⟩) hR (fun y W hy _ kk=>?_) nH
  have kw:=kD.trans (kk.mono kD.size)
  exact wB (h.keep kw) ok hS hSm hy.len ((b0.below kk).cell 0) ((b0.below kk).cell 2) ((b2.below kk).cell 0) ((b3.below kk).cell 0) hnx (fun W' l' s k' hb' hl' hs' ht'=>hB W' W.heap.size l' s (kw.trans (k'.mono kw.size)) hb' hl' hs' ht') hen (hT.below kw) (Nat.lt_of_lt_of_le hg kw.size)
 have hRl:Hid (R.length=53):=by
  have:∀(k:Nat) (y:List Nat),Wd 53 y→aM (x.passS B S) k y=some R→R.length=53:=by
   intro k
   induction k with
   |zero=>
    intro y hy he
    unfold aM at he
    split at he
    ·cases he;exact hy.len
    ·cases he
   |succ k ih=>
    intro y hy he
    unfold aM at he
    split at he
    ·cases he;exact hy.len
    ·exact ih _ (qg x B S hy) he
  exact this k0 l hl hR
 have HD:=aa hD
 have HKD:=aa kD
 have HB4:=aa b4
 have hb1:an D (w.heap.size+1) (ab l):=b1
 clear h ok hSm hl hnx hB hT hR hD kD b0 b1 b2 b3 b4
 go_enter Tryz.func112,Tryz.ntmps112
 go_wp2_with (first|(rw[←HD.out];refine aT rfl ce _ rfl rfl hb1 HLL ?_))
 refine HSE.out.mono ?_
 rintro q w2 ⟨rfl,hb2⟩
 have ht2:=(hb2.block _ (Array.getElem?_eq_some_iff.1 HB4.out).1).trans HB4.out
 have HB2:=aa hb2
 clear hb2 hb1
 go_wp2_with (first|(refine bM rfl ce _ _ rfl rfl rfl hRl ht2 kq ?_))
 show∀w':World,_
 intro w3 hw3 hk3
 have HF3:Hid (Below w.heap.size w w3):=by
  have k0:=HKD.out.trans (HB2.out.mono HKD.out.size)
  exact k0.trans ⟨hk3.os,hk3.tape,hk3.output,hk3.size,fun i hi=>hk3.block i (by have:=k0.size;omega) (by show¬i=w.heap.size+1+1+1+1;omega)⟩
 have hsz:(Tryz.prog.info? 175).map (·.size)=some (ab R).size:=by rw[ar,hRl.out];exact ce.hi
 clear hk3 ht2
 go_wp2_with fail
 refine bodyPost_ret (results_cell_row rfl _ _ (w.heap.size+1+1+1+1) 175 (ab R) (0,0) _ rfl hw3 Tryz.underlying175 rfl hsz) rfl ⟨rfl,HF3.out⟩
end
end Go.Proofs.YtmdaflepdaiabaaGreatDoor
