import Derived.Test.YtmdaflepdaiabaaGreatDoorQ16
set_option linter.unusedSimpArgs false
set_option linter.unusedVariables false
namespace Go.Proofs.YtmdaflepdaiabaaGreatDoor
section
set_option maxRecDepth 100000
set_option maxHeartbeats 2000000
open Go.RowKit Go.Shelf
attribute [local go_sem] Oper.semAt_some
attribute [local go_sem ↓ high] kZ
attribute [local go_sem] pP
theorem sM:(Tryz.prog.info? 3).map (fun i=>(i.zero,i.size,i.bytes))=some (some (.int .i64 0),1,8):=by kernel_rfl
theorem wU{w:World}{bR s:Nat}{x:Rp}(h:aP w bR x)(hs:s< x.stmts.length)(hn:(x.st s).p.nn< 64):
  Calls Tryz.prog 107 #[ak bR,.int .i64 s] w fun r w'=>r=.returned (.int .u64 (aC (x.st s).p.nn))∧w'=w:=by
 obtain⟨g,c,b,sr,sb,c0,c1,c2,c3,c4,hb,hr⟩:=h.stm hs
 have d11:w.cell? ⟨b,11,none⟩=some (.int .i64 (x.st s).p.nn):=hb.cell 11
 have hl:=hb.lt
 have H1:=aa (mn (x.st s).p.nn hn w)
 clear h hb hr
 go_enter Tryz.func107,Tryz.ntmps107
 go_wp2_with fail
 refine H1.out.mono ?_
 rintro r wq ⟨rfl,hq⟩
 subst wq
 go_wp2_with fail
 go_ret
 exact⟨rfl,rfl⟩
theorem vz{w:World}(s:Nat)(hs:s< bI)(hg:0< w.heap.size)(hT:Tz w):
  Calls Tryz.prog 72 #[.int .u64 s] w fun r w'=>∃v,r=.returned v∧w'.ownsRow w.heap.size 3 1 v (els s).length (bV (els s))∧Below w.heap.size w w':=by
 obtain⟨i0,hi,hz0,hz1,hz2⟩:=info_parts sM
 refine(callsIn_wide (n:=3)).1 ?_
 refine callsIn_of_wp_marks Tryz.func72 rfl trivial ?_ rfl
 simp only[Tryz.ntmps72,List.size_toArray,List.length_cons,List.length_nil,Nat.reduceAdd,Nat.reduceSub,Array.replicate_succ,Array.replicate_zero,List.push_toArray,List.append_toArray,List.nil_append,List.cons_append]
 have HT:=aa hT
 clear hT
 gi_wp2_with (refine⟨trivial,?_⟩;gi_at_call 122;refine(wP _ _ _).mono ?_;rintro e w' ⟨rfl,rfl⟩)
 have bL:=Boxed.new w 34 (.slice none 0 0)
 have bA:=Boxed.new (w.alloc (.cells #[.slice none 0 0] 34)) 169 (.int .u64 s)
 rw[World.size_alloc]at bA
 have hB1:Below w.heap.size w ((w.alloc (.cells #[.slice none 0 0] 34)).alloc (.cells #[.int .u64 s] 169)):=((Below.refl _ w).alloc (Nat.le_refl _) _).alloc (by simp) _
 refine wpIn_rangeFunc_ownG rfl (by decide) (gf:=177) (lb:=#[.pointer (some ⟨w.heap.size+1,0,none⟩)]) rfl trivial (enters_of Tryz.func177 (by kernel_rfl) rfl)
  (rF 2 (by decide) (w.heap.size+1) w.heap.size s hs _ (by simp) (by simp;omega) hg bA.cell (HT.out.below hB1)) belowK_t (belowK_b (by simp;omega)) (Below.refl _ _) (fun _=>rfl)
  (fun pre W=>rm w.heap.size w.heap.size 34 3 pre.length (bV (pre.map (·.1))) W∧Below w.heap.size w W)
  (fun _ _ _=>False)
  (OwnFrom.and (Own.from (nU _ _ _ _ _ _) _) (ownFrom_below (Nat.le_refl _) (by simp;omega)))
  (fun _ _ _ _ _ hs _ _=>hs)
  ⟨⟨_,bL.alloc _,World.ownsRow_nil _ _ _ _⟩,hB1⟩
  (fun z=>{tmps:=#[.int .u64 s,undef,.slice none 0 0,.pointer (some ⟨w.heap.size,0,none⟩),.int .i64 z.1,.int .u64 s,.func (.func 177) #[] #[.pointer (some ⟨w.heap.size+1,0,none⟩)],.int .i64 z.1,undef,undef,undef,undef,undef],defers:=[]}) ?assign ?body ?done ?stop
 case assign=>
  intro l z W K hK
  gi_wp2
  exact hK
 case body=>
  rintro l pre z W ⟨⟨v,b1,ho⟩,hB⟩ hlt
  have hpl:pre.length< 64:=hlt
  have hzW:=hB.size
  have c1:=b1.cell
  have n1:=fO ho b1 (by decide)
  obtain⟨v4,w4,hrun,r1,r2,-⟩:=run_append_own (P:=Tryz.prog) (W.alloc (.cells #[.int .i64 z.1] 3)) w.heap.size 34 34 3 i0 (.int .i64 0) 1 8 Tryz.underlying34 hi hz0 hz1 hz2 rfl (by decide) v _ _ (ho.alloc _) ⟨W.heap.size,0,none⟩ 1 1 [.int .i64 z.1] rfl (aF _ _ _ _ (by simp)) (by intro u hu;simp at hu;subst hu;rfl) (by unfold maxLen;omega) (by omega) (by simp;omega)
  have x1:=(b1.alloc (.cells #[.int .i64 z.1] 3)).kept r2 (fun e=>n1 e.symm)
  have k1:=x1.cell
  have k2:=x1.frozen
  obtain⟨p4,c4,rfl⟩:=ai r1
  obtain⟨q1,q2,q3⟩:=tE hrun
  have FIN:Hid (KeepsFrom ((w.alloc (.cells #[.slice none 0 0] 34)).alloc (.cells #[.int .u64 s] 169)).heap.size W (w4.setCell ⟨w.heap.size,0,none⟩ (.slice p4 (pre.length+1) c4))∧Below w.heap.size W (w4.setCell ⟨w.heap.size,0,none⟩ (.slice p4 (pre.length+1) c4))∧rm w.heap.size w.heap.size 34 3 (pre++[z]).length (bV ((pre++[z]).map (·.1))) (w4.setCell ⟨w.heap.size,0,none⟩ (.slice p4 (pre.length+1) c4))∧Below w.heap.size w (w4.setCell ⟨w.heap.size,0,none⟩ (.slice p4 (pre.length+1) c4))):=by
   have kb:Below w.heap.size W (w4.setCell ⟨w.heap.size,0,none⟩ (.slice p4 (pre.length+1) c4)):=(((Below.refl w.heap.size W).alloc hzW _).grown r2 (by simp;omega) (fun k e=>(ho.lt k e).1)).setCell (p:=⟨w.heap.size,0,none⟩) (Nat.le_refl _) _
   refine⟨?_,kb,⟨_,x1.set _,?_⟩,hB.trans kb⟩
   ·exact(((KeepsOthers.alloc _ _).trans (iv (ho.alloc _) r2)).trans (KeepsOthers.setCell _ _ _)).from _
   ·have e1:(pre++[z]).length=pre.length+1:=by simp
    have e2:bV ((pre++[z]).map (·.1))=bV (pre.map (·.1))++[.int .i64 z.1]:=by simp[bV]
    rw[e1,e2]
    exact r1.kept (row:=some w.heap.size) (grownBy_setCell' w4 _ _) (Or.inr (fO r1 x1 (by decide)))
  clear hrun r1 r2 x1 b1 ho hB n1
  gi_wp2
  exact FIN.out
 case done=>
  rintro D ys W hD rfl ⟨⟨v,b1,ho⟩,hB⟩ hK
  have hc:=b1.cell
  gi_wp2
  refine⟨by simp,.inl ⟨_,_,rfl,run_takeDeferred hK,?_⟩⟩
  refine⟨_,results_tmp rfl _ _ _,⟨_,rfl,?_,?_⟩⟩
  ·have hn:(jZ s).length=(els s).length:=by rw[←cF,List.length_map]
   rw[cF,hn]at ho
   exact oN ho hK rfl _
  ·exact hB.trans (belowK_b (w:=w) (Nat.le_refl _) W D _ _ (by simp at hD;omega) hK rfl rfl)
 case stop=>
  rintro D c pre W _ _ h _
  exact h.elim
end
end Go.Proofs.YtmdaflepdaiabaaGreatDoor
