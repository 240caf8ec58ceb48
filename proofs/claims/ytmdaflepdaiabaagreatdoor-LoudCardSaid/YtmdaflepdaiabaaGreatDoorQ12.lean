import Derived.Test.YtmdaflepdaiabaaGreatDoorQ11
set_option linter.unusedSimpArgs false
set_option linter.unusedVariables false
namespace Go.Proofs.YtmdaflepdaiabaaGreatDoor
section
set_option maxRecDepth 100000
set_option maxHeartbeats 4000000
open Go.RowKit Go.Shelf
attribute [local go_sem] Oper.semAt_some
theorem aB{B:Nat}{W W':World}(h:Below W.heap.size W W'):KeepsFrom B W W':=⟨h.size,fun k _ _ hk _=>(h.block k (Array.getElem?_eq_some_iff.1 hk).1).trans hk⟩
theorem am{W W':World}{B:Nat}{t:TypeId}{v:Value}(h:Boxed W B t v)(k:Below W.heap.size W W'):Boxed W' B t v:=by
 have hl:B< W.heap.size:=(Array.getElem?_eq_some_iff.1 h).1
 exact(k.block B hl).trans h
def dC(s:Nat)(p:Nat→Bool)(l:List (El s)):Nat:=l.foldl (fun a x=>if p x.1 then fa a (aC x.1)else a) 0
theorem im(s:Nat)(p:Nat→Bool)(l:List (El s))(x:El s):dC s p (l++[x])=if p x.1 then fa (dC s p l) (aC x.1)else dC s p l:=by
 unfold dC;rw[List.foldl_append];rfl
def fK(s:Nat)(p:Nat→Bool):Nat:=(els s).foldl (fun a x=>if p x then fa a (aC x)else a) 0
theorem gQ(s:Nat)(p:Nat→Bool):dC s p (jZ s)=fK s p:=by
 unfold dC fK
 rw[←cF,List.foldl_map]
theorem vj(s:Nat)(p:Nat→Bool)(l:List (El s)):dC s p l< bI:=by
 have:∀(l:List (El s)) (a:Nat),a< bI→l.foldl (fun a x=>if p x.1 then fa a (aC x.1)else a) a< bI:=by
  intro l
  induction l with
  |nil=>intro a h;exact h
  |cons x l ih=>intro a h;rw[List.foldl_cons];apply ih;split;exact fT _ _;exact h
 exact this l 0 (by decide)
theorem eI(n:Nat)(s:Nat)(w:World):
  CallsIn Fence.wide n Tryz.prog 96 #[.int .u64 s] w fun e w'=>e=.returned (.func (.func 147) #[] #[.pointer (some ⟨w.heap.size,0,none⟩)])∧w'=w.alloc (.cells #[.int .u64 s] 199):=by
 refine callsIn_of_wp Tryz.func96 rfl trivial ?_ rfl
 simp only[Tryz.ntmps96,List.size_toArray,List.length_cons,List.length_nil,Nat.reduceAdd,Nat.reduceSub,Array.replicate_succ,Array.replicate_zero,List.push_toArray,List.append_toArray,List.nil_append,List.cons_append]
 gi_wp2
 go_ret
 exact⟨rfl,rfl⟩
theorem dr(n:Nat)(hn:1≤n)(Bn n₀ s:Nat)(hs:s< bI)(w:World)(hBn:Bn< w.heap.size)(hn₀:n₀≤w.heap.size)(hn0:0< n₀)(hc:w.cell? ⟨Bn,0,none⟩=some (.int .u64 s))(hT:Tz w):
  SeqStopsK Fence.wide n Tryz.prog 147 #[.pointer (some ⟨Bn,0,none⟩)] (fun x:El s=>#[Value.int .i64 x.1]) (Below n₀) (fun ys=>ys=jZ s) (fun pre=>pre.map (·.1)<+:els s) 64 w:=fun l J Jx W hW _ _ hY h0=>
 wQ n hn l Bn n₀ s hs hn0 J Jx hY W ((hW.cell (p:=⟨Bn,0,none⟩) hBn).trans hc) (hT.below hW) h0
theorem mN(n:Nat)(s:Nat)(w:World):
  CallsIn Fence.wide n Tryz.prog 145 #[.int .u64 s] w fun e w'=>e=.returned (.func (.func 195) #[] #[.pointer (some ⟨w.heap.size,0,none⟩)])∧w'=w.alloc (.cells #[.int .u64 s] 173):=by
 refine callsIn_of_wp Tryz.func145 rfl trivial ?_ rfl
 simp only[Tryz.ntmps145,List.size_toArray,List.length_cons,List.length_nil,Nat.reduceAdd,Nat.reduceSub,Array.replicate_succ,Array.replicate_zero,List.push_toArray,List.append_toArray,List.nil_append,List.cons_append]
 gi_wp2
 go_ret
 exact⟨rfl,rfl⟩
theorem jA(n:Nat)(hn:1≤n)(Bn n₀ s:Nat)(hs:s< bI)(w:World)(hBn:Bn< w.heap.size)(hn₀:n₀≤w.heap.size)(hn0:0< n₀)(hc:w.cell? ⟨Bn,0,none⟩=some (.int .u64 s))(hT:Tz w):
  SeqStopsK Fence.wide n Tryz.prog 195 #[.pointer (some ⟨Bn,0,none⟩)] (fun x:El s=>#[Value.int .i64 x.1]) (Below n₀) (fun ys=>ys=jZ s) (fun pre=>pre.map (·.1)<+:els s) 64 w:=fun l J Jx W hW _ _ hY h0=>
 uT n hn l Bn n₀ s hs hn0 J Jx hY W ((hW.cell (p:=⟨Bn,0,none⟩) hBn).trans hc) (hT.below hW) h0
theorem mM(n:Nat)(s:Nat)(w:World):
  CallsIn Fence.wide n Tryz.prog 152 #[.int .u64 s] w fun e w'=>e=.returned (.func (.func 197) #[] #[.pointer (some ⟨w.heap.size,0,none⟩)])∧w'=w.alloc (.cells #[.int .u64 s] 144):=by
 refine callsIn_of_wp Tryz.func152 rfl trivial ?_ rfl
 simp only[Tryz.ntmps152,List.size_toArray,List.length_cons,List.length_nil,Nat.reduceAdd,Nat.reduceSub,Array.replicate_succ,Array.replicate_zero,List.push_toArray,List.append_toArray,List.nil_append,List.cons_append]
 gi_wp2
 go_ret
 exact⟨rfl,rfl⟩
theorem jz(n:Nat)(hn:1≤n)(Bn n₀ s:Nat)(hs:s< bI)(w:World)(hBn:Bn< w.heap.size)(hn₀:n₀≤w.heap.size)(hn0:0< n₀)(hc:w.cell? ⟨Bn,0,none⟩=some (.int .u64 s))(hT:Tz w):
  SeqStopsK Fence.wide n Tryz.prog 197 #[.pointer (some ⟨Bn,0,none⟩)] (fun x:El s=>#[Value.int .i64 x.1]) (Below n₀) (fun ys=>ys=jZ s) (fun pre=>pre.map (·.1)<+:els s) 64 w:=fun l J Jx W hW _ _ hY h0=>
 uS n hn l Bn n₀ s hs hn0 J Jx hY W ((hW.cell (p:=⟨Bn,0,none⟩) hBn).trans hc) (hT.below hW) h0
theorem pn(n:Nat)(s:Nat)(w:World):
  CallsIn Fence.wide n Tryz.prog 120 #[.int .u64 s] w fun e w'=>e=.returned (.func (.func 171) #[] #[.pointer (some ⟨w.heap.size,0,none⟩)])∧w'=w.alloc (.cells #[.int .u64 s] 266):=by
 refine callsIn_of_wp Tryz.func120 rfl trivial ?_ rfl
 simp only[Tryz.ntmps120,List.size_toArray,List.length_cons,List.length_nil,Nat.reduceAdd,Nat.reduceSub,Array.replicate_succ,Array.replicate_zero,List.push_toArray,List.append_toArray,List.nil_append,List.cons_append]
 gi_wp2
 go_ret
 exact⟨rfl,rfl⟩
theorem ku(n:Nat)(hn:1≤n)(Bn n₀ s:Nat)(hs:s< bI)(w:World)(hBn:Bn< w.heap.size)(hn₀:n₀≤w.heap.size)(hn0:0< n₀)(hc:w.cell? ⟨Bn,0,none⟩=some (.int .u64 s))(hT:Tz w):
  SeqStopsK Fence.wide n Tryz.prog 171 #[.pointer (some ⟨Bn,0,none⟩)] (fun x:El s=>#[Value.int .i64 x.1]) (Below n₀) (fun ys=>ys=jZ s) (fun pre=>pre.map (·.1)<+:els s) 64 w:=fun l J Jx W hW _ _ hY h0=>
 wR n hn l Bn n₀ s hs hn0 J Jx hY W ((hW.cell (p:=⟨Bn,0,none⟩) hBn).trans hc) (hT.below hW) h0
theorem wP(n:Nat)(s:Nat)(w:World):
  CallsIn Fence.wide n Tryz.prog 122 #[.int .u64 s] w fun e w'=>e=.returned (.func (.func 177) #[] #[.pointer (some ⟨w.heap.size,0,none⟩)])∧w'=w.alloc (.cells #[.int .u64 s] 169):=by
 refine callsIn_of_wp Tryz.func122 rfl trivial ?_ rfl
 simp only[Tryz.ntmps122,List.size_toArray,List.length_cons,List.length_nil,Nat.reduceAdd,Nat.reduceSub,Array.replicate_succ,Array.replicate_zero,List.push_toArray,List.append_toArray,List.nil_append,List.cons_append]
 gi_wp2
 go_ret
 exact⟨rfl,rfl⟩
theorem rF(n:Nat)(hn:1≤n)(Bn n₀ s:Nat)(hs:s< bI)(w:World)(hBn:Bn< w.heap.size)(hn₀:n₀≤w.heap.size)(hn0:0< n₀)(hc:w.cell? ⟨Bn,0,none⟩=some (.int .u64 s))(hT:Tz w):
  SeqStopsK Fence.wide n Tryz.prog 177 #[.pointer (some ⟨Bn,0,none⟩)] (fun x:El s=>#[Value.int .i64 x.1]) (Below n₀) (fun ys=>ys=jZ s) (fun pre=>pre.map (·.1)<+:els s) 64 w:=fun l J Jx W hW _ _ hY h0=>
 uU n hn l Bn n₀ s hs hn0 J Jx hY W ((hW.cell (p:=⟨Bn,0,none⟩) hBn).trans hc) (hT.below hW) h0
theorem lj(n:Nat)(s:Nat)(w:World):
  CallsIn Fence.wide n Tryz.prog 209 #[.int .u64 s] w fun e w'=>e=.returned (.func (.func 217) #[] #[.pointer (some ⟨w.heap.size,0,none⟩)])∧w'=w.alloc (.cells #[.int .u64 s] 252):=by
 refine callsIn_of_wp Tryz.func209 rfl trivial ?_ rfl
 simp only[Tryz.ntmps209,List.size_toArray,List.length_cons,List.length_nil,Nat.reduceAdd,Nat.reduceSub,Array.replicate_succ,Array.replicate_zero,List.push_toArray,List.append_toArray,List.nil_append,List.cons_append]
 gi_wp2
 go_ret
 exact⟨rfl,rfl⟩
theorem ju(n:Nat)(hn:1≤n)(Bn n₀ s:Nat)(hs:s< bI)(w:World)(hBn:Bn< w.heap.size)(hn₀:n₀≤w.heap.size)(hn0:0< n₀)(hc:w.cell? ⟨Bn,0,none⟩=some (.int .u64 s))(hT:Tz w):
  SeqStopsK Fence.wide n Tryz.prog 217 #[.pointer (some ⟨Bn,0,none⟩)] (fun x:El s=>#[Value.int .i64 x.1]) (Below n₀) (fun ys=>ys=jZ s) (fun pre=>pre.map (·.1)<+:els s) 64 w:=fun l J Jx W hW _ _ hY h0=>
 po n hn l Bn n₀ s hs hn0 J Jx hY W ((hW.cell (p:=⟨Bn,0,none⟩) hBn).trans hc) (hT.below hW) h0
theorem lT(s:Nat)(hs:s< bI)(p:Nat→Bool)(k:FuncId)(bs caps:Array Value)(w:World)(hg:0< w.heap.size)(hT:Tz w)
  (hk:∀(x:El s) (W:World),Below w.heap.size w W→Calls Tryz.prog k (bs++#[.int .i64 x.1]++caps) W fun r W'=>r=.returned (.bool (p x.1))∧Below W.heap.size W W')
  (he:∀args w,(callFunc k args).run Tryz.prog w=.ok (.enter k args) w):
  Calls Tryz.prog 131 #[.int .u64 s,.func (.func k) bs caps] w fun r w'=>r=.returned (.int .u64 (fK s p))∧Below w.heap.size w w':=by
 refine(callsIn_wide (n:=3)).1 ?_
 refine callsIn_of_wp_marks Tryz.func131 rfl trivial ?_ rfl
 simp only[Tryz.ntmps131,List.size_toArray,List.length_cons,List.length_nil,Nat.reduceAdd,Nat.reduceSub,Array.replicate_succ,Array.replicate_zero,List.push_toArray,List.append_toArray,List.nil_append,List.cons_append]
 have HK:=aa hk
 have HT:=aa hT
 clear hk hT
 gi_wp2_with (refine⟨trivial,?_⟩;gi_at_call 96;refine(eI _ _ _).mono ?_;rintro e w' ⟨rfl,rfl⟩)
 have bF:=Boxed.new w 277 (.func (.func k) bs caps)
 have bS:=Boxed.new (w.alloc (.cells #[.func (.func k) bs caps] 277)) 199 (.int .u64 0)
 have bA:=Boxed.new ((w.alloc (.cells #[.func (.func k) bs caps] 277)).alloc (.cells #[.int .u64 0] 199)) 199 (.int .u64 s)
 rw[World.size_alloc]at bS
 rw[World.size_alloc,World.size_alloc]at bA
 have hB0:Below w.heap.size w (((w.alloc (.cells #[.func (.func k) bs caps] 277)).alloc (.cells #[.int .u64 0] 199)).alloc (.cells #[.int .u64 s] 199)):=(((Below.refl _ w).alloc (Nat.le_refl _) _).alloc (by simp) _).alloc (by simp;omega) _
 refine wpIn_rangeFunc_ownG rfl (by decide) (gf:=147) (lb:=#[.pointer (some ⟨w.heap.size+1+1,0,none⟩)]) rfl trivial (enters_of Tryz.func147 (by kernel_rfl) rfl)
  (dr 2 (by decide) (w.heap.size+1+1) w.heap.size s hs _ (by simp) (by simp;omega) hg bA.cell (HT.out.below hB0)) belowK_t (belowK_b (by simp;omega)) (Below.refl _ _) (fun _=>rfl)
  (fun pre W=>(Boxed W (w.heap.size+1) 199 (.int .u64 (dC s p pre))∧Boxed W w.heap.size 277 (.func (.func k) bs caps))∧Below w.heap.size w W)
  (fun _ _ _=>False)
  (OwnFrom.and (OwnFrom.and (Own.from (boxed_own _ _ _) _) (Own.from (boxed_own _ _ _) _)) (ownFrom_below (Nat.le_refl _) (by simp;omega)))
  (fun _ _ _ _ _ hs _ _=>hs)
  ⟨⟨bS.alloc _,(bF.alloc _).alloc _⟩,hB0⟩
  (fun x=>{tmps:=#[.int .u64 s,.func (.func k) bs caps,undef,.pointer (some ⟨w.heap.size,0,none⟩),.int .u64 0,.pointer (some ⟨w.heap.size+1,0,none⟩),.int .i64 x.1,.int .u64 s,.func (.func 147) #[] #[.pointer (some ⟨w.heap.size+1+1,0,none⟩)],.int .i64 x.1,undef,undef,undef,undef,undef,undef,undef,undef],defers:=[]}) ?assign ?body ?done ?stop
 case assign=>
  intro l x W K hK
  gi_wp2
  exact hK
 case body=>
  rintro l pre x W ⟨⟨b1,b2⟩,hB⟩ hlt
  have hc2:=b2.cell
  have r1:=cG
  have HC:=aa (HK.out x W hB)
  gi_wp2
  refine⟨trivial,?_⟩
  refine(CallsIn.inRound l (callsIn_wide.2 HC.out)).mono ?_
  rintro e W2 ⟨rfl,hb2⟩
  have b3:=am b1 hb2
  have b4:=am b2 hb2
  have hc3:=b3.cell
  have hf3:=b3.frozen
  have HB2:=aa hb2
  have HB:=aa hB
  have HN:=aa (im s p pre x)
  have h3:=hB.size
  have h4:=b4.lt
  have HBX:=aa (And.intro b3 b4)
  clear b1 b2 hc2 hb2 hB b3 b4 HC
  cases hp:p x.1
  ·have HN2:Hid (dC s p (pre++[x])=dC s p pre):=by show _=_;rw[HN.out,hp];rfl
   gi_wp2
   exact⟨aB HB2.out,HB2.out.mono h3,⟨by rw[HN2.out];exact HBX.out.1,HBX.out.2⟩,HB.out.trans (HB2.out.mono h3)⟩
  ·have HN2:Hid (dC s p (pre++[x])=fa (dC s p pre) (aC x.1)):=by show _=_;rw[HN.out,hp];rfl
   have hmx:Tryz.prog.follows .mixedOrders=true:=by kernel_rfl
   gi_wp2
   gi_region_with_o (refine⟨trivial,?_⟩;gi_at_call 89;refine(CallsIn.inRound l (callsIn_wide.2 (gy x.1 x.2.1 _))).mono ?_;rintro e w' ⟨rfl,hq⟩;subst w')
   all_goals gi_wp2
   all_goals
    refine⟨(aB HB2.out).trans (((KeepsOthers.setCell _ _ _).trans (KeepsOthers.drew _)).from _),?_,⟨by rw[HN2.out];exact HBX.out.1.set _,HBX.out.2.other (by omega) _⟩,?_⟩
    ·exact((HB2.out.mono h3).setCell (p:=⟨w.heap.size+1,0,none⟩) (by show _≤w.heap.size+1;omega) _).drew
    ·exact((HB.out.trans (HB2.out.mono h3)).setCell (p:=⟨w.heap.size+1,0,none⟩) (by show _≤w.heap.size+1;omega) _).drew
 case done=>
  rintro D ys W hD rfl ⟨⟨b1,b2⟩,hB⟩ hK
  have hc:=b1.cell
  gi_wp2
  refine⟨by simp,.inl ⟨_,_,rfl,run_takeDeferred hK,?_⟩⟩
  exact⟨_,results_tmp rfl _ _ _,by rw[gQ];rfl,hB.trans (belowK_b (w:=w) (Nat.le_refl _) W D _ _ (by simp at hD;omega) hK rfl rfl)⟩
 case stop=>
  rintro D c pre W _ _ h _
  exact h.elim
theorem nP(s:Nat)(hs:s< bI)(p:Nat→Bool)(k:FuncId)(bs caps:Array Value)(w:World)(hg:0< w.heap.size)(hT:Tz w)
  (hk:∀(x:El s) (W:World),Below w.heap.size w W→Calls Tryz.prog k (bs++#[.int .i64 x.1]++caps) W fun r W'=>r=.returned (.bool (p x.1))∧Below W.heap.size W W')
  (he:∀args w,(callFunc k args).run Tryz.prog w=.ok (.enter k args) w):
  Calls Tryz.prog 135 #[.int .u64 s,.func (.func k) bs caps] w fun r w'=>r=.returned (.int .u64 (fK s p))∧Below w.heap.size w w':=by
 refine(callsIn_wide (n:=3)).1 ?_
 refine callsIn_of_wp_marks Tryz.func135 rfl trivial ?_ rfl
 simp only[Tryz.ntmps135,List.size_toArray,List.length_cons,List.length_nil,Nat.reduceAdd,Nat.reduceSub,Array.replicate_succ,Array.replicate_zero,List.push_toArray,List.append_toArray,List.nil_append,List.cons_append]
 have HK:=aa hk
 have HT:=aa hT
 clear hk hT
 gi_wp2_with (refine⟨trivial,?_⟩;gi_at_call 145;refine(mN _ _ _).mono ?_;rintro e w' ⟨rfl,rfl⟩)
 have bF:=Boxed.new w 282 (.func (.func k) bs caps)
 have bS:=Boxed.new (w.alloc (.cells #[.func (.func k) bs caps] 282)) 173 (.int .u64 0)
 have bA:=Boxed.new ((w.alloc (.cells #[.func (.func k) bs caps] 282)).alloc (.cells #[.int .u64 0] 173)) 173 (.int .u64 s)
 rw[World.size_alloc]at bS
 rw[World.size_alloc,World.size_alloc]at bA
 have hB0:Below w.heap.size w (((w.alloc (.cells #[.func (.func k) bs caps] 282)).alloc (.cells #[.int .u64 0] 173)).alloc (.cells #[.int .u64 s] 173)):=(((Below.refl _ w).alloc (Nat.le_refl _) _).alloc (by simp) _).alloc (by simp;omega) _
 refine wpIn_rangeFunc_ownG rfl (by decide) (gf:=195) (lb:=#[.pointer (some ⟨w.heap.size+1+1,0,none⟩)]) rfl trivial (enters_of Tryz.func195 (by kernel_rfl) rfl)
  (jA 2 (by decide) (w.heap.size+1+1) w.heap.size s hs _ (by simp) (by simp;omega) hg bA.cell (HT.out.below hB0)) belowK_t (belowK_b (by simp;omega)) (Below.refl _ _) (fun _=>rfl)
  (fun pre W=>(Boxed W (w.heap.size+1) 173 (.int .u64 (dC s p pre))∧Boxed W w.heap.size 282 (.func (.func k) bs caps))∧Below w.heap.size w W)
  (fun _ _ _=>False)
  (OwnFrom.and (OwnFrom.and (Own.from (boxed_own _ _ _) _) (Own.from (boxed_own _ _ _) _)) (ownFrom_below (Nat.le_refl _) (by simp;omega)))
  (fun _ _ _ _ _ hs _ _=>hs)
  ⟨⟨bS.alloc _,(bF.alloc _).alloc _⟩,hB0⟩
  (fun x=>{tmps:=#[.int .u64 s,.func (.func k) bs caps,undef,.pointer (some ⟨w.heap.size,0,none⟩),.int .u64 0,.pointer (some ⟨w.heap.size+1,0,none⟩),.int .i64 x.1,.int .u64 s,.func (.func 195) #[] #[.pointer (some ⟨w.heap.size+1+1,0,none⟩)],.int .i64 x.1,undef,undef,undef,undef,undef,undef,undef,undef],defers:=[]}) ?assign ?body ?done ?stop
 case assign=>
  intro l x W K hK
  gi_wp2
  exact hK
 case body=>
  rintro l pre x W ⟨⟨b1,b2⟩,hB⟩ hlt
  have hc2:=b2.cell
  have r1:=cG
  have HC:=aa (HK.out x W hB)
  gi_wp2
  refine⟨trivial,?_⟩
  refine(CallsIn.inRound l (callsIn_wide.2 HC.out)).mono ?_
  rintro e W2 ⟨rfl,hb2⟩
  have b3:=am b1 hb2
  have b4:=am b2 hb2
  have hc3:=b3.cell
  have hf3:=b3.frozen
  have HB2:=aa hb2
  have HB:=aa hB
  have HN:=aa (im s p pre x)
  have h3:=hB.size
  have h4:=b4.lt
  have HBX:=aa (And.intro b3 b4)
  clear b1 b2 hc2 hb2 hB b3 b4 HC
  cases hp:p x.1
  ·have HN2:Hid (dC s p (pre++[x])=dC s p pre):=by show _=_;rw[HN.out,hp];rfl
   gi_wp2
   exact⟨aB HB2.out,HB2.out.mono h3,⟨by rw[HN2.out];exact HBX.out.1,HBX.out.2⟩,HB.out.trans (HB2.out.mono h3)⟩
  ·have HN2:Hid (dC s p (pre++[x])=fa (dC s p pre) (aC x.1)):=by show _=_;rw[HN.out,hp];rfl
   have hmx:Tryz.prog.follows .mixedOrders=true:=by kernel_rfl
   gi_wp2
   gi_region_with_o (refine⟨trivial,?_⟩;gi_at_call 115;refine(CallsIn.inRound l (callsIn_wide.2 (gX x.1 x.2.1 _))).mono ?_;rintro e w' ⟨rfl,hq⟩;subst w')
   all_goals gi_wp2
   all_goals
    refine⟨(aB HB2.out).trans (((KeepsOthers.setCell _ _ _).trans (KeepsOthers.drew _)).from _),?_,⟨by rw[HN2.out];exact HBX.out.1.set _,HBX.out.2.other (by omega) _⟩,?_⟩
    ·exact((HB2.out.mono h3).setCell (p:=⟨w.heap.size+1,0,none⟩) (by show _≤w.heap.size+1;omega) _).drew
    ·exact((HB.out.trans (HB2.out.mono h3)).setCell (p:=⟨w.heap.size+1,0,none⟩) (by show _≤w.heap.size+1;omega) _).drew
 case done=>
  rintro D ys W hD rfl ⟨⟨b1,b2⟩,hB⟩ hK
  have hc:=b1.cell
  gi_wp2
  refine⟨by simp,.inl ⟨_,_,rfl,run_takeDeferred hK,?_⟩⟩
  exact⟨_,results_tmp rfl _ _ _,by rw[gQ];rfl,hB.trans (belowK_b (w:=w) (Nat.le_refl _) W D _ _ (by simp at hD;omega) hK rfl rfl)⟩
 case stop=>
  rintro D c pre W _ _ h _
  exact h.elim
theorem vi(s:Nat)(hs:s< bI)(p:Nat→Bool)(k:FuncId)(bs caps:Array Value)(w:World)(hg:0< w.heap.size)(hT:Tz w)
  (hk:∀(x:El s) (W:World),Below w.heap.size w W→Calls Tryz.prog k (bs++#[.int .i64 x.1]++caps) W fun r W'=>r=.returned (.bool (p x.1))∧Below W.heap.size W W')
  (he:∀args w,(callFunc k args).run Tryz.prog w=.ok (.enter k args) w):
  Calls Tryz.prog 201 #[.int .u64 s,.func (.func k) bs caps] w fun r w'=>r=.returned (.int .u64 (fK s p))∧Below w.heap.size w w':=by
 refine(callsIn_wide (n:=3)).1 ?_
 refine callsIn_of_wp_marks Tryz.func201 rfl trivial ?_ rfl
 simp only[Tryz.ntmps201,List.size_toArray,List.length_cons,List.length_nil,Nat.reduceAdd,Nat.reduceSub,Array.replicate_succ,Array.replicate_zero,List.push_toArray,List.append_toArray,List.nil_append,List.cons_append]
 have HK:=aa hk
 have HT:=aa hT
 clear hk hT
 gi_wp2_with (refine⟨trivial,?_⟩;gi_at_call 120;refine(pn _ _ _).mono ?_;rintro e w' ⟨rfl,rfl⟩)
 have bF:=Boxed.new w 312 (.func (.func k) bs caps)
 have bS:=Boxed.new (w.alloc (.cells #[.func (.func k) bs caps] 312)) 266 (.int .u64 0)
 have bA:=Boxed.new ((w.alloc (.cells #[.func (.func k) bs caps] 312)).alloc (.cells #[.int .u64 0] 266)) 266 (.int .u64 s)
 rw[World.size_alloc]at bS
 rw[World.size_alloc,World.size_alloc]at bA
 have hB0:Below w.heap.size w (((w.alloc (.cells #[.func (.func k) bs caps] 312)).alloc (.cells #[.int .u64 0] 266)).alloc (.cells #[.int .u64 s] 266)):=(((Below.refl _ w).alloc (Nat.le_refl _) _).alloc (by simp) _).alloc (by simp;omega) _
 refine wpIn_rangeFunc_ownG rfl (by decide) (gf:=171) (lb:=#[.pointer (some ⟨w.heap.size+1+1,0,none⟩)]) rfl trivial (enters_of Tryz.func171 (by kernel_rfl) rfl)
  (ku 2 (by decide) (w.heap.size+1+1) w.heap.size s hs _ (by simp) (by simp;omega) hg bA.cell (HT.out.below hB0)) belowK_t (belowK_b (by simp;omega)) (Below.refl _ _) (fun _=>rfl)
  (fun pre W=>(Boxed W (w.heap.size+1) 266 (.int .u64 (dC s p pre))∧Boxed W w.heap.size 312 (.func (.func k) bs caps))∧Below w.heap.size w W)
  (fun _ _ _=>False)
  (OwnFrom.and (OwnFrom.and (Own.from (boxed_own _ _ _) _) (Own.from (boxed_own _ _ _) _)) (ownFrom_below (Nat.le_refl _) (by simp;omega)))
  (fun _ _ _ _ _ hs _ _=>hs)
  ⟨⟨bS.alloc _,(bF.alloc _).alloc _⟩,hB0⟩
  (fun x=>{tmps:=#[.int .u64 s,.func (.func k) bs caps,undef,.pointer (some ⟨w.heap.size,0,none⟩),.int .u64 0,.pointer (some ⟨w.heap.size+1,0,none⟩),.int .i64 x.1,.int .u64 s,.func (.func 171) #[] #[.pointer (some ⟨w.heap.size+1+1,0,none⟩)],.int .i64 x.1,undef,undef,undef,undef,undef,undef,undef,undef],defers:=[]}) ?assign ?body ?done ?stop
 case assign=>
  intro l x W K hK
  gi_wp2
  exact hK
 case body=>
  rintro l pre x W ⟨⟨b1,b2⟩,hB⟩ hlt
  have hc2:=b2.cell
  have r1:=cG
  have HC:=aa (HK.out x W hB)
  gi_wp2
  refine⟨trivial,?_⟩
  refine(CallsIn.inRound l (callsIn_wide.2 HC.out)).mono ?_
  rintro e W2 ⟨rfl,hb2⟩
  have b3:=am b1 hb2
  have b4:=am b2 hb2
  have hc3:=b3.cell
  have hf3:=b3.frozen
  have HB2:=aa hb2
  have HB:=aa hB
  have HN:=aa (im s p pre x)
  have h3:=hB.size
  have h4:=b4.lt
  have HBX:=aa (And.intro b3 b4)
  clear b1 b2 hc2 hb2 hB b3 b4 HC
  cases hp:p x.1
  ·have HN2:Hid (dC s p (pre++[x])=dC s p pre):=by show _=_;rw[HN.out,hp];rfl
   gi_wp2
   exact⟨aB HB2.out,HB2.out.mono h3,⟨by rw[HN2.out];exact HBX.out.1,HBX.out.2⟩,HB.out.trans (HB2.out.mono h3)⟩
  ·have HN2:Hid (dC s p (pre++[x])=fa (dC s p pre) (aC x.1)):=by show _=_;rw[HN.out,hp];rfl
   have hmx:Tryz.prog.follows .mixedOrders=true:=by kernel_rfl
   gi_wp2
   gi_region_with_o (refine⟨trivial,?_⟩;gi_at_call 173;refine(CallsIn.inRound l (callsIn_wide.2 (lJ x.1 x.2.1 _))).mono ?_;rintro e w' ⟨rfl,hq⟩;subst w')
   all_goals gi_wp2
   all_goals
    refine⟨(aB HB2.out).trans (((KeepsOthers.setCell _ _ _).trans (KeepsOthers.drew _)).from _),?_,⟨by rw[HN2.out];exact HBX.out.1.set _,HBX.out.2.other (by omega) _⟩,?_⟩
    ·exact((HB2.out.mono h3).setCell (p:=⟨w.heap.size+1,0,none⟩) (by show _≤w.heap.size+1;omega) _).drew
    ·exact((HB.out.trans (HB2.out.mono h3)).setCell (p:=⟨w.heap.size+1,0,none⟩) (by show _≤w.heap.size+1;omega) _).drew
 case done=>
  rintro D ys W hD rfl ⟨⟨b1,b2⟩,hB⟩ hK
  have hc:=b1.cell
  gi_wp2
  refine⟨by simp,.inl ⟨_,_,rfl,run_takeDeferred hK,?_⟩⟩
  exact⟨_,results_tmp rfl _ _ _,by rw[gQ];rfl,hB.trans (belowK_b (w:=w) (Nat.le_refl _) W D _ _ (by simp at hD;omega) hK rfl rfl)⟩
 case stop=>
  rintro D c pre W _ _ h _
  exact h.elim
theorem oG(s:Nat)(hs:s< bI)(p:Nat→Bool)(k:FuncId)(bs caps:Array Value)(w:World)(hg:0< w.heap.size)(hT:Tz w)
  (hk:∀(x:El s) (W:World),Below w.heap.size w W→Calls Tryz.prog k (bs++#[.int .i64 x.1]++caps) W fun r W'=>r=.returned (.bool (p x.1))∧Below W.heap.size W W')
  (he:∀args w,(callFunc k args).run Tryz.prog w=.ok (.enter k args) w):
  Calls Tryz.prog 188 #[.int .u64 s,.func (.func k) bs caps] w fun r w'=>r=.returned (.int .u64 (fK s p))∧Below w.heap.size w w':=by
 refine(callsIn_wide (n:=3)).1 ?_
 refine callsIn_of_wp_marks Tryz.func188 rfl trivial ?_ rfl
 simp only[Tryz.ntmps188,List.size_toArray,List.length_cons,List.length_nil,Nat.reduceAdd,Nat.reduceSub,Array.replicate_succ,Array.replicate_zero,List.push_toArray,List.append_toArray,List.nil_append,List.cons_append]
 have HK:=aa hk
 have HT:=aa hT
 clear hk hT
 gi_wp2_with (refine⟨trivial,?_⟩;gi_at_call 209;refine(lj _ _ _).mono ?_;rintro e w' ⟨rfl,rfl⟩)
 have bF:=Boxed.new w 280 (.func (.func k) bs caps)
 have bS:=Boxed.new (w.alloc (.cells #[.func (.func k) bs caps] 280)) 252 (.int .u64 0)
 have bA:=Boxed.new ((w.alloc (.cells #[.func (.func k) bs caps] 280)).alloc (.cells #[.int .u64 0] 252)) 252 (.int .u64 s)
 rw[World.size_alloc]at bS
 rw[World.size_alloc,World.size_alloc]at bA
 have hB0:Below w.heap.size w (((w.alloc (.cells #[.func (.func k) bs caps] 280)).alloc (.cells #[.int .u64 0] 252)).alloc (.cells #[.int .u64 s] 252)):=(((Below.refl _ w).alloc (Nat.le_refl _) _).alloc (by simp) _).alloc (by simp;omega) _
 refine wpIn_rangeFunc_ownG rfl (by decide) (gf:=217) (lb:=#[.pointer (some ⟨w.heap.size+1+1,0,none⟩)]) rfl trivial (enters_of Tryz.func217 (by kernel_rfl) rfl)
  (ju 2 (by decide) (w.heap.size+1+1) w.heap.size s hs _ (by simp) (by simp;omega) hg bA.cell (HT.out.below hB0)) belowK_t (belowK_b (by simp;omega)) (Below.refl _ _) (fun _=>rfl)
  (fun pre W=>(Boxed W (w.heap.size+1) 252 (.int .u64 (dC s p pre))∧Boxed W w.heap.size 280 (.func (.func k) bs caps))∧Below w.heap.size w W)
  (fun _ _ _=>False)
  (OwnFrom.and (OwnFrom.and (Own.from (boxed_own _ _ _) _) (Own.from (boxed_own _ _ _) _)) (ownFrom_below (Nat.le_refl _) (by simp;omega)))
  (fun _ _ _ _ _ hs _ _=>hs)
  ⟨⟨bS.alloc _,(bF.alloc _).alloc _⟩,hB0⟩
  (fun x=>{tmps:=#[.int .u64 s,.func (.func k) bs caps,undef,.pointer (some ⟨w.heap.size,0,none⟩),.int .u64 0,.pointer (some ⟨w.heap.size+1,0,none⟩),.int .i64 x.1,.int .u64 s,.func (.func 217) #[] #[.pointer (some ⟨w.heap.size+1+1,0,none⟩)],.int .i64 x.1,undef,undef,undef,undef,undef,undef,undef,undef],defers:=[]}) ?assign ?body ?done ?stop
 case assign=>
  intro l x W K hK
  gi_wp2
  exact hK
 case body=>
  rintro l pre x W ⟨⟨b1,b2⟩,hB⟩ hlt
  have hc2:=b2.cell
  have r1:=cG
  have HC:=aa (HK.out x W hB)
  gi_wp2
  refine⟨trivial,?_⟩
  refine(CallsIn.inRound l (callsIn_wide.2 HC.out)).mono ?_
  rintro e W2 ⟨rfl,hb2⟩
  have b3:=am b1 hb2
  have b4:=am b2 hb2
  have hc3:=b3.cell
  have hf3:=b3.frozen
  have HB2:=aa hb2
  have HB:=aa hB
  have HN:=aa (im s p pre x)
  have h3:=hB.size
  have h4:=b4.lt
  have HBX:=aa (And.intro b3 b4)
  clear b1 b2 hc2 hb2 hB b3 b4 HC
  cases hp:p x.1
  ·have HN2:Hid (dC s p (pre++[x])=dC s p pre):=by show _=_;rw[HN.out,hp];rfl
   gi_wp2
   exact⟨aB HB2.out,HB2.out.mono h3,⟨by rw[HN2.out];exact HBX.out.1,HBX.out.2⟩,HB.out.trans (HB2.out.mono h3)⟩
  ·have HN2:Hid (dC s p (pre++[x])=fa (dC s p pre) (aC x.1)):=by show _=_;rw[HN.out,hp];rfl
   have hmx:Tryz.prog.follows .mixedOrders=true:=by kernel_rfl
   gi_wp2
   gi_region_with_o (refine⟨trivial,?_⟩;gi_at_call 192;refine(CallsIn.inRound l (callsIn_wide.2 (dZ x.1 x.2.1 _))).mono ?_;rintro e w' ⟨rfl,hq⟩;subst w')
   all_goals gi_wp2
   all_goals
    refine⟨(aB HB2.out).trans (((KeepsOthers.setCell _ _ _).trans (KeepsOthers.drew _)).from _),?_,⟨by rw[HN2.out];exact HBX.out.1.set _,HBX.out.2.other (by omega) _⟩,?_⟩
    ·exact((HB2.out.mono h3).setCell (p:=⟨w.heap.size+1,0,none⟩) (by show _≤w.heap.size+1;omega) _).drew
    ·exact((HB.out.trans (HB2.out.mono h3)).setCell (p:=⟨w.heap.size+1,0,none⟩) (by show _≤w.heap.size+1;omega) _).drew
 case done=>
  rintro D ys W hD rfl ⟨⟨b1,b2⟩,hB⟩ hK
  have hc:=b1.cell
  gi_wp2
  refine⟨by simp,.inl ⟨_,_,rfl,run_takeDeferred hK,?_⟩⟩
  exact⟨_,results_tmp rfl _ _ _,by rw[gQ];rfl,hB.trans (belowK_b (w:=w) (Nat.le_refl _) W D _ _ (by simp at hD;omega) hK rfl rfl)⟩
 case stop=>
  rintro D c pre W _ _ h _
  exact h.elim
end
section
open Go.RowKit Go.Shelf
def Mk(w:World)(B:Nat):List Deferred→Prop
 |[]=>True
 |d::ds=>(∃D,d={target:=.collected D,args:=#[]}∧B≤D∧w.heap[D]?=some (.deferred (some []))∧∀d'∈ds,d'.target≠.collected D)∧Mk w B ds
theorem Mk.mem{w:World}{B:Nat}:∀{ds:List Deferred},Mk w B ds→∀d∈ds,∃D,d={target:=.collected D,args:=#[]}∧B≤D∧w.heap[D]?=some (.deferred (some []))
 |[],_,d,hd=>by cases hd
 |x::ds,h,d,hd=>by
  rcases List.mem_cons.1 hd with rfl|hd
  ·obtain⟨D,e,h1,h2,_⟩:=h.1
   exact⟨D,e,h1,h2⟩
  ·exact Mk.mem h.2 d hd
theorem Mk.move{w w':World}{B:Nat}:∀{ds:List Deferred},Mk w B ds→(∀D,({target:=.collected D,args:=#[]}:Deferred)∈ds→w'.heap[D]?=w.heap[D]?)→Mk w' B ds
 |[],_,_=>trivial
 |d::ds,h,k=>by
  obtain⟨⟨D,e,h1,h2,h3⟩,h4⟩:=h
  subst e
  exact⟨⟨D,rfl,h1,by rw[k D (by simp)];exact h2,h3⟩,Mk.move h4 (fun D' hD'=>k D' (List.mem_cons_of_mem _ hD'))⟩
theorem Mk.lt{w:World}{B:Nat}{ds:List Deferred}(h:Mk w B ds){D:Nat}(hD:({target:=.collected D,args:=#[]}:Deferred)∈ds):B≤D∧D< w.heap.size∧w.heap[D]?=some (.deferred (some [])):=by
 obtain⟨D',e,h1,h2⟩:=h.mem _ hD
 cases e
 exact⟨h1,(Array.getElem?_eq_some_iff.1 h2).1,h2⟩
theorem Mk.cons{w w':World}{B D:Nat}{ds:List Deferred}(h:Mk w B ds)(k:∀(i:Nat) (o:Obj),w.heap[i]?=some o→o.isCells=false→w'.heap[i]?=some o)(hB:B≤D)(hs:w.heap.size≤D)(hD:w'.heap[D]?=some (.deferred (some []))):Mk w' B ({target:=.collected D,args:=#[]}::ds):=by
 refine⟨⟨D,rfl,hB,hD,fun d' hd' e=>?_⟩,h.move (fun D' hD'=>?_)⟩
 ·obtain⟨D',e',h1,h2⟩:=h.mem d' hd'
  subst e'
  simp only[Target.collected.injEq]at e
  subst e
  have:=(Array.getElem?_eq_some_iff.1 h2).1
  omega
 ·have:=(h.lt hD').2.2
  rw[this]
  exact k D' _ this rfl
theorem uO{B:Nat}{w:World}{D:Nat}(o:Obj)(h:B≤D):Below B w (w.putObj D o):=by
 refine⟨rfl,rfl,rfl,by simp[World.putObj],fun k hk=>?_⟩
 simp[World.putObj,Array.getElem?_setIfInBounds]
 intro e
 omega
theorem dK{F:Fence}{n:Nat}{P:Program}{fn:Func}{tmps:Array Value}{R:Ending→World→Prop}{B:Nat}:∀(ds:List Deferred) (w:World),Mk w B ds→
  (∀w',Below B w w'→LeavesInM F n P fn tmps R [] .returning w')→LeavesInM F n P fn tmps R ds .returning w
 |[],w,_,h=>h w (Below.refl _ _)
 |d::ds,w,hm,h=>by
  obtain⟨⟨D,e,h1,h2,h3⟩,h4⟩:=hm
  subst e
  refine⟨by simp,.inl ⟨_,_,rfl,run_takeDeferred h2,?_⟩⟩
  refine dK ds _ (h4.move (fun D' hD'=>?_)) (fun w' k=>h w' ((uO _ h1).trans k))
  have:D≠D':=fun e=>h3 _ hD' (by rw[e])
  simp[World.putObj,Array.getElem?_setIfInBounds,this]
def gp(nx:Nat→Nat)(l:List Nat):Nat:=l.foldl (fun a x=>fa a (nx x)) 0
def bK(nx:Nat→Nat):Nat→Nat→Nat→Option Nat
 |0,r,f=>if f=0 then some r else none
 |k+1,r,f=>if f=0 then some r else bK nx k (fa r (bj (gp nx (els f)) r)) (bj (gp nx (els f)) r)
theorem gn{nx:Nat→Nat}{k r R:Nat}(h:bK nx k r 0=some R):r=R:=by
 cases k<;>simpa[bK]using h
theorem go{nx:Nat→Nat}{k r f R:Nat}(hf:f≠0)(h:bK nx k r f=some R):∃k',bK nx k' (fa r (bj (gp nx (els f)) r)) (bj (gp nx (els f)) r)=some R:=by
 cases k with
 |zero=>simp[bK,hf]at h
 |succ k=>exact⟨k,by simpa[bK,hf]using h⟩
theorem fW{nx:Nat→Nat}:∀{k r f R:Nat},bK nx k r f=some R→∀i,i< 64→r.testBit i=true→R.testBit i=true
 |0,r,f,R,h,i,_,hi=>by
  by_cases e:f=0
  ·simp[bK,e]at h;subst h;exact hi
  ·simp[bK,e]at h
 |k+1,r,f,R,h,i,h6,hi=>by
  by_cases e:f=0
  ·simp[bK,e]at h;subst h;exact hi
  ·rw[bK,if_neg e]at h
   exact fW h i h6 (by rw[eN];simp[h6,hi])
theorem zd{r f:Nat}(hr:r< bI)(hf:f< bI)(h0:f≠0)(h:∀i,f.testBit i=true→r.testBit i=false):r< fa r f:=by
 have e:fa r f=r|||f:=Nat.mod_eq_of_lt (Nat.or_lt_two_pow (n:=64) hr hf)
 have hb:=eY h0 hf
 have hle:r≤r|||f:=Nat.left_le_or
 rw[e]
 rcases Nat.lt_or_ge r (r|||f)with a|a
 ·exact a
 ·have e2:r|||f=r:=by omega
  have h1:=h _ hb.2.1
  have h2:(r|||f).testBit (Lib.ctz 64 f)=true:=by rw[Nat.testBit_or,hb.2.1];simp
  rw[e2,h1]at h2
  cases h2
theorem rB(b r i:Nat)(h:(bj b r).testBit i=true):r.testBit i=false:=by
 rw[eB]at h
 simp at h
 exact h.2
end
section
open Go.RowKit Go.Shelf
attribute [local go_sem] Oper.semAt_some
def xT(f:Nat)(nx:Nat→Nat)(l:List (El f)):Nat:=l.foldl (fun a x=>fa a (nx x.1)) 0
theorem jT(f:Nat)(nx:Nat→Nat)(l:List (El f))(x:El f):xT f nx (l++[x])=fa (xT f nx l) (nx x.1):=by
 unfold xT;rw[List.foldl_append];rfl
theorem lI(f:Nat)(nx:Nat→Nat):xT f nx (jZ f)=gp nx (els f):=by
 unfold xT gp
 rw[←cF,List.foldl_map]
theorem ir{B:Nat}{W X:World}(h:KeepsFrom B W.drew X):KeepsFrom B W X:=⟨h.size,h.same⟩
def mf(a b:Value):Nat:=2*(bI-(intOf a).toNat)+(if(intOf b).toNat=0 then 0 else 1)
theorem jM{r f:Nat}(hr0:r< bI)(h0:f≠0)(o:Nat):mf (.int .u64 (fa r (bj o r):Nat)) (.int .u64 (bj o r:Nat))< mf (.int .u64 (r:Nat)) (.int .u64 (f:Nat)):=by
 unfold mf
 simp only[intOf,Int.toNat_natCast]
 by_cases e:bj o r=0
 ·have:fa r 0=r:=by unfold fa;rw[Nat.or_zero];exact Nat.mod_eq_of_lt hr0
  simp[e,h0,this]
 ·have:=zd hr0 (dN o r) e (fun i hi=>rB _ _ _ hi)
  have h3:=fT r (bj o r)
  simp[e,h0]
  omega
structure ro(w wr:World)(FT:TypeId)(fv:Value)(nx:Nat→Nat)(R r f:Nat)(ds:List Deferred):Prop where
 hr:r< bI
 hf:f< bI
 sub:∀i,f.testBit i=true→r.testBit i=true
 ex:∃k,bK nx k r f=some R
 bx:Boxed wr w.heap.size FT fv
 bl:Below w.heap.size w wr
 mks:Mk wr (w.heap.size+1) ds
end
section
set_option maxRecDepth 100000
set_option maxHeartbeats 4000000
open Go.RowKit Go.Shelf
attribute [local go_sem] Oper.semAt_some
theorem mY(b R:Nat)(hb:b< bI)(nx:Nat→Nat)(k:FuncId)(bs caps:Array Value)(w:World)(hg:0< w.heap.size)(hT:Tz w)(hR:∃j,bK nx j b b=some R)
  (hk:∀(x:Nat) (W:World),x< 64→R.testBit x=true→Below w.heap.size w W→Calls Tryz.prog k (bs++#[.int .i64 x]++caps) W fun r W'=>r=.returned (.int .u64 (nx x))∧Below W.heap.size W W')
  (he:∀args w,(callFunc k args).run Tryz.prog w=.ok (.enter k args) w):
  Calls Tryz.prog 193 #[.int .u64 b,.func (.func k) bs caps] w fun r w'=>r=.returned (.int .u64 R)∧Below w.heap.size w w':=by
 refine(callsIn_wide (n:=3)).1 ?_
 refine callsIn_of_wp_marks Tryz.func193 rfl trivial ?_ rfl
 simp only[Tryz.ntmps193,List.size_toArray,List.length_cons,List.length_nil,Nat.reduceAdd,Nat.reduceSub,Array.replicate_succ,Array.replicate_zero,List.push_toArray,List.append_toArray,List.nil_append,List.cons_append]
 have HK:=aa hk
 have HT:=aa hT
 have r1:=cI
 have r2:=cG
 have HI:Hid (ro w (w.alloc (.cells #[.func (.func k) bs caps] 283)) 283 (.func (.func k) bs caps) nx R b b []):=⟨hb,hb,fun _ h=>h,hR,Boxed.new _ _ _,(Below.refl _ _).alloc (Nat.le_refl _) _,trivial⟩
 clear hk hT hR
 gi_wp2
 refine wpIn_loop (fun a wr=>∃(u7 u8 u11 u12 u13 u14 u15 u16 u17 u18 u19 u20 u21 u22 u23 u24 u25 u26 u27:Value) (ds:List Deferred) (r f:Nat),a={tmps:=#[.int .u64 b,.func (.func k) bs caps,undef,.pointer (some ⟨w.heap.size,0,none⟩),.int .u64 0,.int .u64 r,.int .u64 f,u7,u8,.int .u64 b,.int .u64 b,u11,u12,u13,u14,u15,u16,u17,u18,u19,u20,u21,u22,u23,u24,u25,u26,u27],defers:=ds}∧Hid (ro w wr 283 (.func (.func k) bs caps) nx R r f ds)) (fun a _=>mf (a.tmps.getD 5 undef) (a.tmps.getD 6 undef)) ?start ?round
 case start=>exact⟨_,_,_,_,_,_,_,_,_,_,_,_,_,_,_,_,_,_,_,_,_,_,rfl,HI⟩
 case round=>
  rintro a wr ⟨u7,u8,u11,u12,u13,u14,u15,u16,u17,u18,u19,u20,u21,u22,u23,u24,u25,u26,u27,ds,r,f,rfl,HJ⟩
  by_cases h0:f=0
  ·have hne:((f:Int)!=0)=false:=by rw[h0];rfl
   have HX:Hid (r=R):=by
    obtain⟨j,hj⟩:=HJ.out.ex
    rw[h0]at hj
    exact gn hj
   clear h0
   gi_wp2
   refine dK ds _ HJ.out.mks (fun w' kb=>?_)
   exact⟨_,results_tmp rfl _ _ _,by rw[←HX.out];rfl,HJ.out.bl.trans (kb.mono (by omega))⟩
  ·have hne:((f:Int)!=0)=true:=by rw[bne_iff_ne];omega
   have hbx:=HJ.out.bx
   have hB:=HJ.out.bl
   have hz:=hB.size
   have hbl:=hbx.lt
   gi_wp2_with (refine⟨trivial,?_⟩;gi_at_call 209;refine(lj _ _ _).mono ?_;rintro e w' ⟨rfl,rfl⟩)
   have bS:=Boxed.new wr 252 (.int .u64 0)
   have bA:=Boxed.new (wr.alloc (.cells #[.int .u64 0] 252)) 252 (.int .u64 f)
   rw[World.size_alloc]at bA
   have hB0:Below wr.heap.size wr ((wr.alloc (.cells #[.int .u64 0] 252)).alloc (.cells #[.int .u64 f] 252)):=((Below.refl _ wr).alloc (Nat.le_refl _) _).alloc (by simp) _
   refine wpIn_rangeFunc_ownG rfl (by decide) (gf:=217) (lb:=#[.pointer (some ⟨wr.heap.size+1,0,none⟩)]) rfl trivial (enters_of Tryz.func217 (by kernel_rfl) rfl)
    (ju 2 (by decide) (wr.heap.size+1) wr.heap.size f HJ.out.hf _ (by simp) (by simp;omega) (by omega) bA.cell (Tz.below (Tz.low HT.out hg hB) hB0)) belowK_t (belowK_b (by simp;omega)) (Below.refl _ _) (fun _=>rfl)
    (fun pre W=>(Boxed W wr.heap.size 252 (.int .u64 (xT f nx pre))∧Boxed W w.heap.size 283 (.func (.func k) bs caps))∧Below wr.heap.size wr W)
    (fun _ _ _=>False)
    (OwnFrom.and (OwnFrom.and (Own.from (boxed_own _ _ _) _) (Own.from (boxed_own _ _ _) _)) (ownFrom_below (Nat.le_refl _) (by simp;omega)))
    (fun _ _ _ _ _ hs _ _=>hs)
    ⟨⟨bS.alloc _,(hbx.alloc _).alloc _⟩,hB0⟩
    (fun x=>{tmps:=#[.int .u64 b,.func (.func k) bs caps,undef,.pointer (some ⟨w.heap.size,0,none⟩),.int .u64 0,.int .u64 r,.int .u64 f,.pointer (some ⟨wr.heap.size,0,none⟩),.int .i64 x.1,.int .u64 b,.int .u64 b,.int .u64 f,.bool true,.int .u64 f,.func (.func 217) #[] #[.pointer (some ⟨wr.heap.size+1,0,none⟩)],.int .i64 x.1,u16,u17,u18,u19,u20,u21,u22,u23,u24,u25,u26,u27],defers:=[]}) ?assign ?body ?done ?stop
   case assign=>
    intro l x W K hK
    gi_wp2
    exact hK
   case body=>
    rintro l pre x W ⟨⟨b1,b2⟩,hBW⟩ hlt
    have hc1:=b1.cell
    have hc2:=b2.cell
    have hmx:Tryz.prog.follows .mixedOrders=true:=by kernel_rfl
    have hxR:R.testBit x.1=true:=by
     obtain⟨j,hj⟩:=HJ.out.ex
     exact fW hj x.1 x.2.1 (HJ.out.sub _ x.2.2)
    have hwW:=hBW.size
    have hb1:=b1.lt
    have hb2l:=b2.lt
    have HC:=aa (HK.out x.1 W.drew x.2.1 hxR (hB.trans (hBW.mono hz)).drew)
    have HBX:=aa (And.intro b1 b2)
    have HBW:=aa hBW
    have HN:=aa (jT f nx pre x)
    clear b1 b2 hBW
    gi_wp2
    gi_region_with_o (refine⟨trivial,?_⟩;refine(CallsIn.inRound l (callsIn_wide.2 HC.out)).mono ?_;rintro e W2 ⟨rfl,hb2⟩;have b3:=am (W:=W.drew) HBX.out.1 hb2;have hc3:=b3.cell;have hf3:=b3.frozen;have HB3:=aa (And.intro b3 (am (W:=W.drew) HBX.out.2 hb2));have HB2:=aa hb2;clear hb2 b3)
    all_goals gi_wp2
    all_goals
     refine⟨ir<|(aB (W:=W.drew) HB2.out).trans ((KeepsOthers.setCell _ _ _).from _),?_,⟨by rw[HN.out];exact HB3.out.1.set _,HB3.out.2.other (by omega) _⟩,?_⟩
     ·exact Below.setCell (p:=⟨wr.heap.size,0,none⟩) (⟨HB2.out.os,HB2.out.tape,HB2.out.output,HB2.out.size,fun i hi=>HB2.out.block i (by show i< W.heap.size;omega)⟩:Below wr.heap.size W _) (by show _≤wr.heap.size;omega) _
     ·exact Below.setCell (p:=⟨wr.heap.size,0,none⟩) (HBW.out.trans (⟨HB2.out.os,HB2.out.tape,HB2.out.output,HB2.out.size,fun i hi=>HB2.out.block i (by show i< W.heap.size;omega)⟩:Below wr.heap.size W _)) (by show _≤wr.heap.size;omega) _
   case done=>
    rintro D ys W hD rfl ⟨⟨b1,b2⟩,hBW⟩ hKD
    have hc1:=b1.cell
    have HX:=aa (And.intro b2 hBW)
    have HE:=aa (lI f nx)
    clear b1 b2 hBW
    rw[HE.out]at hc1
    gi_wp2
    have hr2:=fT r (bj (gp nx (els f)) r)
    have hf2:=dN (gp nx (els f)) r
    refine⟨⟨_,_,_,_,_,_,_,_,_,_,_,_,_,_,_,_,_,_,_,_,_,_,rfl,⟨hr2,hf2,fun i hi=>?_,?_,HX.out.1,hB.trans (HX.out.2.mono hz),?_⟩⟩,?_⟩
    ·rw[eN,hi];simp[il hf2 hi]
    ·obtain⟨j,hj⟩:=HJ.out.ex
     exact go h0 hj
    ·exact HJ.out.mks.cons (fun i o hi _=>(HX.out.2.block i (Array.getElem?_eq_some_iff.1 hi).1).trans hi) (by simp at hD;omega) (by simp at hD;omega) hKD
    ·exact jM HJ.out.hr h0 _
   case stop=>
    rintro D c pre W _ _ h _
    exact h.elim
end
section
set_option maxRecDepth 100000
set_option maxHeartbeats 4000000
open Go.RowKit Go.Shelf
attribute [local go_sem] Oper.semAt_some
theorem nV(b R:Nat)(hb:b< bI)(nx:Nat→Nat)(k:FuncId)(bs caps:Array Value)(w:World)(hg:0< w.heap.size)(hT:Tz w)(hR:∃j,bK nx j b b=some R)
  (hk:∀(x:Nat) (W:World),x< 64→R.testBit x=true→Below w.heap.size w W→Calls Tryz.prog k (bs++#[.int .i64 x]++caps) W fun r W'=>r=.returned (.int .u64 (nx x))∧Below W.heap.size W W')
  (he:∀args w,(callFunc k args).run Tryz.prog w=.ok (.enter k args) w):
  Calls Tryz.prog 88 #[.int .u64 b,.func (.func k) bs caps] w fun r w'=>r=.returned (.int .u64 R)∧Below w.heap.size w w':=by
 refine(callsIn_wide (n:=3)).1 ?_
 refine callsIn_of_wp_marks Tryz.func88 rfl trivial ?_ rfl
 simp only[Tryz.ntmps88,List.size_toArray,List.length_cons,List.length_nil,Nat.reduceAdd,Nat.reduceSub,Array.replicate_succ,Array.replicate_zero,List.push_toArray,List.append_toArray,List.nil_append,List.cons_append]
 have HK:=aa hk
 have HT:=aa hT
 have r1:=cI
 have r2:=cG
 have HI:Hid (ro w (w.alloc (.cells #[.func (.func k) bs caps] 206)) 206 (.func (.func k) bs caps) nx R b b []):=⟨hb,hb,fun _ h=>h,hR,Boxed.new _ _ _,(Below.refl _ _).alloc (Nat.le_refl _) _,trivial⟩
 clear hk hT hR
 gi_wp2
 refine wpIn_loop (fun a wr=>∃(u7 u8 u11 u12 u13 u14 u15 u16 u17 u18 u19 u20 u21 u22 u23 u24 u25 u26 u27:Value) (ds:List Deferred) (r f:Nat),a={tmps:=#[.int .u64 b,.func (.func k) bs caps,undef,.pointer (some ⟨w.heap.size,0,none⟩),.int .u64 0,.int .u64 r,.int .u64 f,u7,u8,.int .u64 b,.int .u64 b,u11,u12,u13,u14,u15,u16,u17,u18,u19,u20,u21,u22,u23,u24,u25,u26,u27],defers:=ds}∧Hid (ro w wr 206 (.func (.func k) bs caps) nx R r f ds)) (fun a _=>mf (a.tmps.getD 5 undef) (a.tmps.getD 6 undef)) ?start ?round
 case start=>exact⟨_,_,_,_,_,_,_,_,_,_,_,_,_,_,_,_,_,_,_,_,_,_,rfl,HI⟩
 case round=>
  rintro a wr ⟨u7,u8,u11,u12,u13,u14,u15,u16,u17,u18,u19,u20,u21,u22,u23,u24,u25,u26,u27,ds,r,f,rfl,HJ⟩
  by_cases h0:f=0
  ·have hne:((f:Int)!=0)=false:=by rw[h0];rfl
   have HX:Hid (r=R):=by
    obtain⟨j,hj⟩:=HJ.out.ex
    rw[h0]at hj
    exact gn hj
   clear h0
   gi_wp2
   refine dK ds _ HJ.out.mks (fun w' kb=>?_)
   exact⟨_,results_tmp rfl _ _ _,by rw[←HX.out];rfl,HJ.out.bl.trans (kb.mono (by omega))⟩
  ·have hne:((f:Int)!=0)=true:=by rw[bne_iff_ne];omega
   have hbx:=HJ.out.bx
   have hB:=HJ.out.bl
   have hz:=hB.size
   have hbl:=hbx.lt
   gi_wp2_with (refine⟨trivial,?_⟩;gi_at_call 96;refine(eI _ _ _).mono ?_;rintro e w' ⟨rfl,rfl⟩)
   have bS:=Boxed.new wr 199 (.int .u64 0)
   have bA:=Boxed.new (wr.alloc (.cells #[.int .u64 0] 199)) 199 (.int .u64 f)
   rw[World.size_alloc]at bA
   have hB0:Below wr.heap.size wr ((wr.alloc (.cells #[.int .u64 0] 199)).alloc (.cells #[.int .u64 f] 199)):=((Below.refl _ wr).alloc (Nat.le_refl _) _).alloc (by simp) _
   refine wpIn_rangeFunc_ownG rfl (by decide) (gf:=147) (lb:=#[.pointer (some ⟨wr.heap.size+1,0,none⟩)]) rfl trivial (enters_of Tryz.func147 (by kernel_rfl) rfl)
    (dr 2 (by decide) (wr.heap.size+1) wr.heap.size f HJ.out.hf _ (by simp) (by simp;omega) (by omega) bA.cell (Tz.below (Tz.low HT.out hg hB) hB0)) belowK_t (belowK_b (by simp;omega)) (Below.refl _ _) (fun _=>rfl)
    (fun pre W=>(Boxed W wr.heap.size 199 (.int .u64 (xT f nx pre))∧Boxed W w.heap.size 206 (.func (.func k) bs caps))∧Below wr.heap.size wr W)
    (fun _ _ _=>False)
    (OwnFrom.and (OwnFrom.and (Own.from (boxed_own _ _ _) _) (Own.from (boxed_own _ _ _) _)) (ownFrom_below (Nat.le_refl _) (by simp;omega)))
    (fun _ _ _ _ _ hs _ _=>hs)
    ⟨⟨bS.alloc _,(hbx.alloc _).alloc _⟩,hB0⟩
    (fun x=>{tmps:=#[.int .u64 b,.func (.func k) bs caps,undef,.pointer (some ⟨w.heap.size,0,none⟩),.int .u64 0,.int .u64 r,.int .u64 f,.pointer (some ⟨wr.heap.size,0,none⟩),.int .i64 x.1,.int .u64 b,.int .u64 b,.int .u64 f,.bool true,.int .u64 f,.func (.func 147) #[] #[.pointer (some ⟨wr.heap.size+1,0,none⟩)],.int .i64 x.1,u16,u17,u18,u19,u20,u21,u22,u23,u24,u25,u26,u27],defers:=[]}) ?assign ?body ?done ?stop
   case assign=>
    intro l x W K hK
    gi_wp2
    exact hK
   case body=>
    rintro l pre x W ⟨⟨b1,b2⟩,hBW⟩ hlt
    have hc1:=b1.cell
    have hc2:=b2.cell
    have hmx:Tryz.prog.follows .mixedOrders=true:=by kernel_rfl
    have hxR:R.testBit x.1=true:=by
     obtain⟨j,hj⟩:=HJ.out.ex
     exact fW hj x.1 x.2.1 (HJ.out.sub _ x.2.2)
    have hwW:=hBW.size
    have hb1:=b1.lt
    have hb2l:=b2.lt
    have HC:=aa (HK.out x.1 W.drew x.2.1 hxR (hB.trans (hBW.mono hz)).drew)
    have HBX:=aa (And.intro b1 b2)
    have HBW:=aa hBW
    have HN:=aa (jT f nx pre x)
    clear b1 b2 hBW
    gi_wp2
    gi_region_with_o (refine⟨trivial,?_⟩;refine(CallsIn.inRound l (callsIn_wide.2 HC.out)).mono ?_;rintro e W2 ⟨rfl,hb2⟩;have b3:=am (W:=W.drew) HBX.out.1 hb2;have hc3:=b3.cell;have hf3:=b3.frozen;have HB3:=aa (And.intro b3 (am (W:=W.drew) HBX.out.2 hb2));have HB2:=aa hb2;clear hb2 b3)
    all_goals gi_wp2
    all_goals
     refine⟨ir<|(aB (W:=W.drew) HB2.out).trans ((KeepsOthers.setCell _ _ _).from _),?_,⟨by rw[HN.out];exact HB3.out.1.set _,HB3.out.2.other (by omega) _⟩,?_⟩
     ·exact Below.setCell (p:=⟨wr.heap.size,0,none⟩) (⟨HB2.out.os,HB2.out.tape,HB2.out.output,HB2.out.size,fun i hi=>HB2.out.block i (by show i< W.heap.size;omega)⟩:Below wr.heap.size W _) (by show _≤wr.heap.size;omega) _
     ·exact Below.setCell (p:=⟨wr.heap.size,0,none⟩) (HBW.out.trans (⟨HB2.out.os,HB2.out.tape,HB2.out.output,HB2.out.size,fun i hi=>HB2.out.block i (by show i< W.heap.size;omega)⟩:Below wr.heap.size W _)) (by show _≤wr.heap.size;omega) _
   case done=>
    rintro D ys W hD rfl ⟨⟨b1,b2⟩,hBW⟩ hKD
    have hc1:=b1.cell
    have HX:=aa (And.intro b2 hBW)
    have HE:=aa (lI f nx)
    clear b1 b2 hBW
    rw[HE.out]at hc1
    gi_wp2
    have hr2:=fT r (bj (gp nx (els f)) r)
    have hf2:=dN (gp nx (els f)) r
    refine⟨⟨_,_,_,_,_,_,_,_,_,_,_,_,_,_,_,_,_,_,_,_,_,_,rfl,⟨hr2,hf2,fun i hi=>?_,?_,HX.out.1,hB.trans (HX.out.2.mono hz),?_⟩⟩,?_⟩
    ·rw[eN,hi];simp[il hf2 hi]
    ·obtain⟨j,hj⟩:=HJ.out.ex
     exact go h0 hj
    ·exact HJ.out.mks.cons (fun i o hi _=>(HX.out.2.block i (Array.getElem?_eq_some_iff.1 hi).1).trans hi) (by simp at hD;omega) (by simp at hD;omega) hKD
    ·exact jM HJ.out.hr h0 _
   case stop=>
    rintro D c pre W _ _ h _
    exact h.elim
end
end Go.Proofs.YtmdaflepdaiabaaGreatDoor
