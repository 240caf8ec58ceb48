import Derived.BigQuiet
import Derived.Deep.RegionHeld3
import Derived.Deep.QuietTactic
import Derived.Deep.LoopGhost
import Derived.Test.YtmdaflepdaiabaaGreatDoorQ12
set_option linter.unusedSimpArgs false
set_option linter.unusedVariables false
namespace Go.Proofs.YtmdaflepdaiabaaGreatDoor
section
set_option maxRecDepth 100000
set_option maxHeartbeats 4000000
open Go.RowKit Go.Shelf
attribute [local go_sem] Oper.semAt_some
theorem rJ(b R:Nat)(hb:b< bI)(nx:Nat→Nat)(k:FuncId)(bs caps:Array Value)(w:World)(hg:0< w.heap.size)(hT:Tz w)(hR:∃j,bK nx j b b=some R)
  (hk:∀(x:Nat) (W:World),x< 64→R.testBit x=true→Below w.heap.size w W→Calls Tryz.prog k (bs++#[.int .i64 x]++caps) W fun r W'=>r=.returned (.int .u64 (nx x))∧Below W.heap.size W W')
  (he:∀args w,(callFunc k args).run Tryz.prog w=.ok (.enter k args) w):
  Calls Tryz.prog 146 #[.int .u64 b,.func (.func k) bs caps] w fun r w'=>r=.returned (.int .u64 R)∧Below w.heap.size w w':=by
 refine(callsIn_wide (n:=3)).1 ?_
 refine callsIn_of_wp_marks Tryz.func146 rfl trivial ?_ rfl
 simp only[Tryz.ntmps146,List.size_toArray,List.length_cons,List.length_nil,Nat.reduceAdd,Nat.reduceSub,Array.replicate_succ,Array.replicate_zero,List.push_toArray,List.append_toArray,List.nil_append,List.cons_append]
 have HK:=aa hk
 have HT:=aa hT
 have r1:=cI
 have r2:=cG
 have HI:Hid (ro w (w.alloc (.cells #[.func (.func k) bs caps] 258)) 258 (.func (.func k) bs caps) nx R b b []):=⟨hb,hb,fun _ h=>h,hR,Boxed.new _ _ _,(Below.refl _ _).alloc (Nat.le_refl _) _,trivial⟩
 clear hk hT hR
 gi_wp2
 refine wpIn_loop (fun a wr=>∃(u7 u8 u11 u12 u13 u14 u15 u16 u17 u18 u19 u20 u21 u22 u23 u24 u25 u26 u27:Value) (ds:List Deferred) (r f:Nat),a={tmps:=#[.int .u64 b,.func (.func k) bs caps,undef,.pointer (some ⟨w.heap.size,0,none⟩),.int .u64 0,.int .u64 r,.int .u64 f,u7,u8,.int .u64 b,.int .u64 b,u11,u12,u13,u14,u15,u16,u17,u18,u19,u20,u21,u22,u23,u24,u25,u26,u27],defers:=ds}∧Hid (ro w wr 258 (.func (.func k) bs caps) nx R r f ds)) (fun a _=>mf (a.tmps.getD 5 undef) (a.tmps.getD 6 undef)) ?start ?round
 case start=>exact⟨_,_,_,_,_,_,_,_,_,_,_,_,_,_,_,_,_,_,_,_,_,_,rfl,HI⟩
 case round=>
  rintro a wr ⟨u7,u8,u11,u12,u13,u14,u15,u16,u17,u18,u19,u20,u21,u22,u23,u24,u25,u26,u27,ds,r,f,rfl,HJ⟩
  by_cases h0:f=0
  ·have hne:((f:Int)!=0)=false:=by rw[h0];rfl
   have HX:Hid (r=R):=by
    obtain⟨j,hj⟩:=HJ.out.ex
    rw[h0]at hj
    exact gn hj
   clear h0
   gi_wp2
   refine dK ds _ HJ.out.mks (fun w' kb=>?_)
   exact⟨_,results_tmp rfl _ _ _,by rw[←HX.out];rfl,HJ.out.bl.trans (kb.mono (by omega))⟩
  ·have hne:((f:Int)!=0)=true:=by rw[bne_iff_ne];omega
   have hbx:=HJ.out.bx
   have hB:=HJ.out.bl
   have hz:=hB.size
   have hbl:=hbx.lt
   gi_wp2_with (refine⟨trivial,?_⟩;gi_at_call 145;refine(mN _ _ _).mono ?_;rintro e w' ⟨rfl,rfl⟩)
   have bS:=Boxed.new wr 173 (.int .u64 0)
   have bA:=Boxed.new (wr.alloc (.cells #[.int .u64 0] 173)) 173 (.int .u64 f)
   rw[World.size_alloc]at bA
   have hB0:Below wr.heap.size wr ((wr.alloc (.cells #[.int .u64 0] 173)).alloc (.cells #[.int .u64 f] 173)):=((Below.refl _ wr).alloc (Nat.le_refl _) _).alloc (by simp) _
   refine wpIn_rangeFunc_ownG rfl (by decide) (gf:=195) (lb:=#[.pointer (some ⟨wr.heap.size+1,0,none⟩)]) rfl trivial (enters_of Tryz.func195 (by kernel_rfl) rfl)
    (jA 2 (by decide) (wr.heap.size+1) wr.heap.size f HJ.out.hf _ (by simp) (by simp;omega) (by omega) bA.cell (Tz.below (Tz.low HT.out hg hB) hB0)) belowK_t (belowK_b (by simp;omega)) (Below.refl _ _) (fun _=>rfl)
    (fun pre W=>(Boxed W wr.heap.size 173 (.int .u64 (xT f nx pre))∧Boxed W w.heap.size 258 (.func (.func k) bs caps))∧Below wr.heap.size wr W)
    (fun _ _ _=>False)
    (OwnFrom.and (OwnFrom.and (Own.from (boxed_own _ _ _) _) (Own.from (boxed_own _ _ _) _)) (ownFrom_below (Nat.le_refl _) (by simp;omega)))
    (fun _ _ _ _ _ hs _ _=>hs)
    ⟨⟨bS.alloc _,(hbx.alloc _).alloc _⟩,hB0⟩
    (fun x=>{tmps:=#[.int .u64 b,.func (.func k) bs caps,undef,.pointer (some ⟨w.heap.size,0,none⟩),.int .u64 0,.int .u64 r,.int .u64 f,.pointer (some ⟨wr.heap.size,0,none⟩),.int .i64 x.1,.int .u64 b,.int .u64 b,.int .u64 f,.bool true,.int .u64 f,.func (.func 195) #[] #[.pointer (some ⟨wr.heap.size+1,0,none⟩)],.int .i64 x.1,u16,u17,u18,u19,u20,u21,u22,u23,u24,u25,u26,u27],defers:=[]}) ?assign ?body ?done ?stop
   case assign=>
    intro l x W K hK
    gi_wp2
    exact hK
   case body=>
    rintro l pre x W ⟨⟨b1,b2⟩,hBW⟩ hlt
    have hc1:=b1.cell
    have hc2:=b2.cell
    have hmx:Tryz.prog.follows .mixedOrders=true:=by kernel_rfl
    have hxR:R.testBit x.1=true:=by
     obtain⟨j,hj⟩:=HJ.out.ex
     exact fW hj x.1 x.2.1 (HJ.out.sub _ x.2.2)
    have hwW:=hBW.size
    have hb1:=b1.lt
    have hb2l:=b2.lt
    have HC:=aa (HK.out x.1 W.drew x.2.1 hxR (hB.trans (hBW.mono hz)).drew)
    have HBX:=aa (And.intro b1 b2)
    have HBW:=aa hBW
    have HN:=aa (jT f nx pre x)
    clear b1 b2 hBW
    gi_wp2
    gi_region_with_o (refine⟨trivial,?_⟩;refine(CallsIn.inRound l (callsIn_wide.2 HC.out)).mono ?_;rintro e W2 ⟨rfl,hb2⟩;have b3:=am (W:=W.drew) HBX.out.1 hb2;have hc3:=b3.cell;have hf3:=b3.frozen;have HB3:=aa (And.intro b3 (am (W:=W.drew) HBX.out.2 hb2));have HB2:=aa hb2;clear hb2 b3)
    all_goals gi_wp2
    all_goals
     refine⟨ir<|(aB (W:=W.drew) HB2.out).trans ((KeepsOthers.setCell _ _ _).from _),?_,⟨by rw[HN.out];exact HB3.out.1.set _,HB3.out.2.other (by omega) _⟩,?_⟩
     ·exact Below.setCell (p:=⟨wr.heap.size,0,none⟩) (⟨HB2.out.os,HB2.out.tape,HB2.out.output,HB2.out.size,fun i hi=>HB2.out.block i (by show i< W.heap.size;omega)⟩:Below wr.heap.size W _) (by show _≤wr.heap.size;omega) _
     ·exact Below.setCell (p:=⟨wr.heap.size,0,none⟩) (HBW.out.trans (⟨HB2.out.os,HB2.out.tape,HB2.out.output,HB2.out.size,fun i hi=>HB2.out.block i (by show i< W.heap.size;omega)⟩:Below wr.heap.size W _)) (by show _≤wr.heap.size;omega) _
   case done=>
    rintro D ys W hD rfl ⟨⟨b1,b2⟩,hBW⟩ hKD
    have hc1:=b1.cell
    have HX:=aa (And.intro b2 hBW)
    have HE:=aa (lI f nx)
    clear b1 b2 hBW
    rw[HE.out]at hc1
    gi_wp2
    have hr2:=fT r (bj (gp nx (els f)) r)
    have hf2:=dN (gp nx (els f)) r
    refine⟨⟨_,_,_,_,_,_,_,_,_,_,_,_,_,_,_,_,_,_,_,_,_,_,rfl,⟨hr2,hf2,fun i hi=>?_,?_,HX.out.1,hB.trans (HX.out.2.mono hz),?_⟩⟩,?_⟩
    ·rw[eN,hi];simp[il hf2 hi]
    ·obtain⟨j,hj⟩:=HJ.out.ex
     exact go h0 hj
    ·exact HJ.out.mks.cons (fun i o hi _=>(HX.out.2.block i (Array.getElem?_eq_some_iff.1 hi).1).trans hi) (by simp at hD;omega) (by simp at hD;omega) hKD
    ·exact jM HJ.out.hr h0 _
   case stop=>
    rintro D c pre W _ _ h _
    exact h.elim
end
section
set_option maxRecDepth 100000
set_option maxHeartbeats 4000000
open Go.RowKit Go.Shelf
attribute [local go_sem] Oper.semAt_some
theorem rI(b R:Nat)(hb:b< bI)(nx:Nat→Nat)(k:FuncId)(bs caps:Array Value)(w:World)(hg:0< w.heap.size)(hT:Tz w)(hR:∃j,bK nx j b b=some R)
  (hk:∀(x:Nat) (W:World),x< 64→R.testBit x=true→Below w.heap.size w W→Calls Tryz.prog k (bs++#[.int .i64 x]++caps) W fun r W'=>r=.returned (.int .u64 (nx x))∧Below W.heap.size W W')
  (he:∀args w,(callFunc k args).run Tryz.prog w=.ok (.enter k args) w):
  Calls Tryz.prog 155 #[.int .u64 b,.func (.func k) bs caps] w fun r w'=>r=.returned (.int .u64 R)∧Below w.heap.size w w':=by
 refine(callsIn_wide (n:=3)).1 ?_
 refine callsIn_of_wp_marks Tryz.func155 rfl trivial ?_ rfl
 simp only[Tryz.ntmps155,List.size_toArray,List.length_cons,List.length_nil,Nat.reduceAdd,Nat.reduceSub,Array.replicate_succ,Array.replicate_zero,List.push_toArray,List.append_toArray,List.nil_append,List.cons_append]
 have HK:=aa hk
 have HT:=aa hT
 have r1:=cI
 have r2:=cG
 have HI:Hid (ro w (w.alloc (.cells #[.func (.func k) bs caps] 297)) 297 (.func (.func k) bs caps) nx R b b []):=⟨hb,hb,fun _ h=>h,hR,Boxed.new _ _ _,(Below.refl _ _).alloc (Nat.le_refl _) _,trivial⟩
 clear hk hT hR
 gi_wp2
 refine wpIn_loop (fun a wr=>∃(u7 u8 u11 u12 u13 u14 u15 u16 u17 u18 u19 u20 u21 u22 u23 u24 u25 u26 u27:Value) (ds:List Deferred) (r f:Nat),a={tmps:=#[.int .u64 b,.func (.func k) bs caps,undef,.pointer (some ⟨w.heap.size,0,none⟩),.int .u64 0,.int .u64 r,.int .u64 f,u7,u8,.int .u64 b,.int .u64 b,u11,u12,u13,u14,u15,u16,u17,u18,u19,u20,u21,u22,u23,u24,u25,u26,u27],defers:=ds}∧Hid (ro w wr 297 (.func (.func k) bs caps) nx R r f ds)) (fun a _=>mf (a.tmps.getD 5 undef) (a.tmps.getD 6 undef)) ?start ?round
 case start=>exact⟨_,_,_,_,_,_,_,_,_,_,_,_,_,_,_,_,_,_,_,_,_,_,rfl,HI⟩
 case round=>
  rintro a wr ⟨u7,u8,u11,u12,u13,u14,u15,u16,u17,u18,u19,u20,u21,u22,u23,u24,u25,u26,u27,ds,r,f,rfl,HJ⟩
  by_cases h0:f=0
  ·have hne:((f:Int)!=0)=false:=by rw[h0];rfl
   have HX:Hid (r=R):=by
    obtain⟨j,hj⟩:=HJ.out.ex
    rw[h0]at hj
    exact gn hj
   clear h0
   gi_wp2
   refine dK ds _ HJ.out.mks (fun w' kb=>?_)
   exact⟨_,results_tmp rfl _ _ _,by rw[←HX.out];rfl,HJ.out.bl.trans (kb.mono (by omega))⟩
  ·have hne:((f:Int)!=0)=true:=by rw[bne_iff_ne];omega
   have hbx:=HJ.out.bx
   have hB:=HJ.out.bl
   have hz:=hB.size
   have hbl:=hbx.lt
   gi_wp2_with (refine⟨trivial,?_⟩;gi_at_call 152;refine(mM _ _ _).mono ?_;rintro e w' ⟨rfl,rfl⟩)
   have bS:=Boxed.new wr 144 (.int .u64 0)
   have bA:=Boxed.new (wr.alloc (.cells #[.int .u64 0] 144)) 144 (.int .u64 f)
   rw[World.size_alloc]at bA
   have hB0:Below wr.heap.size wr ((wr.alloc (.cells #[.int .u64 0] 144)).alloc (.cells #[.int .u64 f] 144)):=((Below.refl _ wr).alloc (Nat.le_refl _) _).alloc (by simp) _
   refine wpIn_rangeFunc_ownG rfl (by decide) (gf:=197) (lb:=#[.pointer (some ⟨wr.heap.size+1,0,none⟩)]) rfl trivial (enters_of Tryz.func197 (by kernel_rfl) rfl)
    (jz 2 (by decide) (wr.heap.size+1) wr.heap.size f HJ.out.hf _ (by simp) (by simp;omega) (by omega) bA.cell (Tz.below (Tz.low HT.out hg hB) hB0)) belowK_t (belowK_b (by simp;omega)) (Below.refl _ _) (fun _=>rfl)
    (fun pre W=>(Boxed W wr.heap.size 144 (.int .u64 (xT f nx pre))∧Boxed W w.heap.size 297 (.func (.func k) bs caps))∧Below wr.heap.size wr W)
    (fun _ _ _=>False)
    (OwnFrom.and (OwnFrom.and (Own.from (boxed_own _ _ _) _) (Own.from (boxed_own _ _ _) _)) (ownFrom_below (Nat.le_refl _) (by simp;omega)))
    (fun _ _ _ _ _ hs _ _=>hs)
    ⟨⟨bS.alloc _,(hbx.alloc _).alloc _⟩,hB0⟩
    (fun x=>{tmps:=#[.int .u64 b,.func (.func k) bs caps,undef,.pointer (some ⟨w.heap.size,0,none⟩),.int .u64 0,.int .u64 r,.int .u64 f,.pointer (some ⟨wr.heap.size,0,none⟩),.int .i64 x.1,.int .u64 b,.int .u64 b,.int .u64 f,.bool true,.int .u64 f,.func (.func 197) #[] #[.pointer (some ⟨wr.heap.size+1,0,none⟩)],.int .i64 x.1,u16,u17,u18,u19,u20,u21,u22,u23,u24,u25,u26,u27],defers:=[]}) ?assign ?body ?done ?stop
   case assign=>
    intro l x W K hK
    gi_wp2
    exact hK
   case body=>
    rintro l pre x W ⟨⟨b1,b2⟩,hBW⟩ hlt
    have hc1:=b1.cell
    have hc2:=b2.cell
    have hmx:Tryz.prog.follows .mixedOrders=true:=by kernel_rfl
    have hxR:R.testBit x.1=true:=by
     obtain⟨j,hj⟩:=HJ.out.ex
     exact fW hj x.1 x.2.1 (HJ.out.sub _ x.2.2)
    have hwW:=hBW.size
    have hb1:=b1.lt
    have hb2l:=b2.lt
    have HC:=aa (HK.out x.1 W.drew x.2.1 hxR (hB.trans (hBW.mono hz)).drew)
    have HBX:=aa (And.intro b1 b2)
    have HBW:=aa hBW
    have HN:=aa (jT f nx pre x)
    clear b1 b2 hBW
    gi_wp2
    gi_region_with_o (refine⟨trivial,?_⟩;refine(CallsIn.inRound l (callsIn_wide.2 HC.out)).mono ?_;rintro e W2 ⟨rfl,hb2⟩;have b3:=am (W:=W.drew) HBX.out.1 hb2;have hc3:=b3.cell;have hf3:=b3.frozen;have HB3:=aa (And.intro b3 (am (W:=W.drew) HBX.out.2 hb2));have HB2:=aa hb2;clear hb2 b3)
    all_goals gi_wp2
    all_goals
     refine⟨ir<|(aB (W:=W.drew) HB2.out).trans ((KeepsOthers.setCell _ _ _).from _),?_,⟨by rw[HN.out];exact HB3.out.1.set _,HB3.out.2.other (by omega) _⟩,?_⟩
     ·exact Below.setCell (p:=⟨wr.heap.size,0,none⟩) (⟨HB2.out.os,HB2.out.tape,HB2.out.output,HB2.out.size,fun i hi=>HB2.out.block i (by show i< W.heap.size;omega)⟩:Below wr.heap.size W _) (by show _≤wr.heap.size;omega) _
     ·exact Below.setCell (p:=⟨wr.heap.size,0,none⟩) (HBW.out.trans (⟨HB2.out.os,HB2.out.tape,HB2.out.output,HB2.out.size,fun i hi=>HB2.out.block i (by show i< W.heap.size;omega)⟩:Below wr.heap.size W _)) (by show _≤wr.heap.size;omega) _
   case done=>
    rintro D ys W hD rfl ⟨⟨b1,b2⟩,hBW⟩ hKD
    have hc1:=b1.cell
    have HX:=aa (And.intro b2 hBW)
    have HE:=aa (lI f nx)
    clear b1 b2 hBW
    rw[HE.out]at hc1
    gi_wp2
    have hr2:=fT r (bj (gp nx (els f)) r)
    have hf2:=dN (gp nx (els f)) r
    refine⟨⟨_,_,_,_,_,_,_,_,_,_,_,_,_,_,_,_,_,_,_,_,_,_,rfl,⟨hr2,hf2,fun i hi=>?_,?_,HX.out.1,hB.trans (HX.out.2.mono hz),?_⟩⟩,?_⟩
    ·rw[eN,hi];simp[il hf2 hi]
    ·obtain⟨j,hj⟩:=HJ.out.ex
     exact go h0 hj
    ·exact HJ.out.mks.cons (fun i o hi _=>(HX.out.2.block i (Array.getElem?_eq_some_iff.1 hi).1).trans hi) (by simp at hD;omega) (by simp at hD;omega) hKD
    ·exact jM HJ.out.hr h0 _
   case stop=>
    rintro D c pre W _ _ h _
    exact h.elim
end
section
set_option maxRecDepth 100000
set_option maxHeartbeats 1000000
open Go.RowKit
theorem az{n:Nat}{w w':World}(h:Below n w w')(k:Nat):Below n w (w'.drewN k):=⟨h.os,h.tape,h.output,h.size,h.block⟩
def bV(l:List Nat):List Value:=l.map (fun(a:Nat)=>Value.int .i64 (a:Int))
def aH(l:List Nat):List Value:=l.map (fun(a:Nat)=>Value.int .u64 (a:Int))
def uz(y:Nat×Fs):List Value:=[ak y.1,.int .i64 y.2.fn,.int .i64 y.2.nx,.int .i64 y.2.ins]
def iW(l:List (Nat×Fs)):List Value:=l.flatMap uz
theorem qK(l:List (Nat×Fs)):(iW l).length=l.length*4:=by
 induction l with
 |nil=>rfl
 |cons a l ih=>simp only[iW,List.flatMap_cons,List.length_append]at ih⊢;rw[ih];simp[uz];omega
theorem tC(l:List (Nat×Fs))(k:Nat)(y:Nat×Fs)(h:l[k]?=some y)(j:Nat)(hj:j< 4):(iW l)[k*4+j]?=(uz y)[j]?:=by
 induction l generalizing k with
 |nil=>simp at h
 |cons a l ih=>
  cases k with
  |zero=>
   simp at h;subst h
   simp only[iW,List.flatMap_cons,Nat.zero_mul,Nat.zero_add]
   rw[List.getElem?_append_left (by simp[uz];omega)]
  |succ k=>
   have:=ih k (by simpa using h)
   rw[←this]
   simp only[iW,List.flatMap_cons]
   rw[List.getElem?_append_right (by simp[uz];omega)]
   congr 1
   simp[uz];omega
structure sW(w:World)(sv:Value)(l:List Fs):Prop where
 ex:∃bs:List Nat,bs.length=l.length∧w.ownsRow 0 197 4 sv l.length (iW (bs.zip l))∧∀(k b:Nat) (s:Fs),bs[k]?=some b→l[k]?=some s→∃sr sb,an w b (aK s.p sr sb)∧w.ownsRow 0 193 4 sr s.r.length (et s.r)
theorem sW.below{w w':World}{sv:Value}{l:List Fs}(h:sW w sv l)(k:Below w.heap.size w w'):sW w' sv l:=by
 obtain⟨bs,h1,h2,h3⟩:=h.ex
 refine⟨bs,h1,ay h2 k,fun j b s hb hs=>?_⟩
 obtain⟨sr,sb,h4,h5⟩:=h3 j b s hb hs
 exact⟨sr,sb,h4.below k,ay h5 k⟩
structure aP(w:World)(bR:Nat)(x:Rp):Prop where
 ex:∃bv sv tv rv lv:Value,an w bR #[.int .i64 x.main,.int .i64 x.mutexes,bv,sv,tv,.int .u64 x.spots,.int .u64 x.twice,rv,lv,.int .i64 x.ends]∧w.ownsRow 0 141 1 bv x.begins.length (bV x.begins)∧sW w sv x.stmts∧w.ownsRow 0 141 1 tv x.starts.length (bV x.starts)∧w.ownsRow 0 252 1 rv x.runs.length (aH x.runs)∧w.ownsRow 0 173 1 lv x.below.length (aH x.below)
theorem aP.keep{w w':World}{bR:Nat}{x:Rp}(h:aP w bR x)(k:Below w.heap.size w w'):aP w' bR x:=by
 obtain⟨bv,sv,tv,rv,lv,h1,h2,h3,h4,h5,h6⟩:=h.ex
 exact⟨bv,sv,tv,rv,lv,h1.below k,ay h2 k,h3.below k,ay h4 k,ay h5 k,ay h6 k⟩
theorem aP.stm{w:World}{bR:Nat}{x:Rp}(h:aP w bR x){s:Nat}(hs:s< x.stmts.length):∃g c b sr sb,w.cell? ⟨bR,3,none⟩=some (.slice (some ⟨g,0,none⟩) x.stmts.length c)∧w.cell? ⟨g,s*4,none⟩=some (ak b)∧w.cell? ⟨g,s*4+1,none⟩=some (.int .i64 (x.st s).fn)∧w.cell? ⟨g,s*4+2,none⟩=some (.int .i64 (x.st s).nx)∧w.cell? ⟨g,s*4+3,none⟩=some (.int .i64 (x.st s).ins)∧an w b (aK (x.st s).p sr sb)∧w.ownsRow 0 193 4 sr (x.st s).r.length (et (x.st s).r):=by
 obtain⟨bv,sv,tv,rv,lv,h1,h2,h3,h4,h5,h6⟩:=h.ex
 obtain⟨bs,g1,g2,g3⟩:=h3.ex
 obtain⟨g,c,e⟩:=aG g2 (by omega)
 subst e
 have hl:x.stmts[s]?=some (x.st s):=by unfold Rp.st;rw[List.getD_eq_getElem?_getD,List.getElem?_eq_getElem hs];rfl
 obtain⟨b,hb⟩:∃b,bs[s]?=some b:=⟨_,List.getElem?_eq_getElem (by omega)⟩
 obtain⟨sr,sb,g4,g5⟩:=g3 s b _ hb hl
 have hz:(bs.zip x.stmts)[s]?=some (b,x.st s):=by rw[List.getElem?_zip_eq_some];exact⟨hb,hl⟩
 have hc:∀j,j< 4→w.cell? ⟨g,s*4+j,none⟩=(uz (b,x.st s))[j]?:=fun j hj=>by
  have:=g2.cellAt (g:=g) (s*4+j) (by omega)
  rw[this,tC _ s _ hz j hj]
 refine⟨g,c,b,sr,sb,h1.cell 3,hc 0 (by decide),hc 1 (by decide),hc 2 (by decide),hc 3 (by decide),g4,g5⟩
theorem gT{w:World}{bR:Nat}{x:Rp}(h:aP w bR x){s:Nat}(hs:s< x.stmts.length):
  Calls Tryz.prog 139 #[ak bR,.int .i64 s] w fun r w'=>r=.returned (.int .i64 (x.st s).fn)∧w'=w:=by
 obtain⟨g,c,b,sr,sb,c0,c1,c2,c3,c4,hb,hr⟩:=h.stm hs
 clear h hb hr
 go_enter Tryz.func139,Tryz.ntmps139
 go_wp2_with fail
 go_ret
 exact⟨rfl,rfl⟩
theorem vy{w:World}{bR:Nat}{x:Rp}(h:aP w bR x)(f:Nat)(p:Int)(hp:p=-1∨(0≤p∧p≤1000))(hf:f≤1000)(he:x.ends≤1000):
  Calls Tryz.prog 87 #[ak bR,.int .i64 f,.int .i64 p] w fun r w'=>r=.returned (.int .i64 (x.spot f p:Nat))∧w'=w:=by
 obtain⟨bv,sv,tv,rv,lv,h1,-⟩:=h.ex
 have c9:w.cell? ⟨bR,9,none⟩=some (.int .i64 x.ends):=h1.cell 9
 clear h h1
 unfold Rp.spot
 rcases hp with rfl|⟨h0,h2⟩
 ·simp only[if_true]
  go_enter Tryz.func87,Tryz.ntmps87
  go_wp2_with fail
  go_ret
  exact⟨by simp,rfl⟩
 ·have hne:¬p=-1:=by omega
  have hneb:(p==-1)=false:=by rw[beq_eq_false_iff_ne];omega
  have hpt:((p.toNat:Nat):Int)=p:=by omega
  simp only[if_neg hne]
  rw[hpt]
  clear hpt hne
  go_enter Tryz.func87,Tryz.ntmps87
  go_wp2_with fail
  go_ret
  exact⟨rfl,rfl⟩
theorem vA{w:World}{bR:Nat}{x:Rp}(h:aP w bR x){s:Nat}(hs:s< x.stmts.length)(k:Nat):
  Calls Tryz.prog 161 #[ak bR,.int .i64 s,.int .i64 k] w fun r w'=>r=.returned (.tuple #[.int .i64 (x.st s).p.nn,.bool ((x.st s).p.kind==k)])∧Below w.heap.size w w':=by
 obtain⟨g,c,b,sr,sb,c0,c1,c2,c3,c4,hb,hr⟩:=h.stm hs
 have d2:w.cell? ⟨b,2,none⟩=some (.int .i64 (x.st s).p.kind):=hb.cell 2
 have d11:w.cell? ⟨b,11,none⟩=some (.int .i64 (x.st s).p.nn):=hb.cell 11
 have hl:=hb.lt
 have e:(((x.st s).p.kind:Int)==(k:Int))=((x.st s).p.kind==k):=by rw[Bool.eq_iff_iff,beq_iff_eq,beq_iff_eq];omega
 clear h hb hr
 go_enter Tryz.func161,Tryz.ntmps161
 go_wp2_with fail
 go_quiet (fail)
 go_wp2_with fail
 go_ret2
 exact⟨rfl,az ((Below.refl _ _).alloc (Nat.le_refl _) _) _⟩
theorem jf{w:World}{bR:Nat}{x:Rp}(h:aP w bR x){s:Nat}(hs:s< x.stmts.length):
  Calls Tryz.prog 108 #[ak bR,.int .i64 s] w fun r w'=>r=.returned (.tuple #[.int .i64 (x.st s).p.nn,.bool (x.isCall s)])∧Below w.heap.size w w':=by
 have H:=aa (vA h hs 11)
 clear h
 go_enter Tryz.func108,Tryz.ntmps108
 go_wp2_with fail
 refine H.out.mono ?_
 rintro r w1 ⟨rfl,hb⟩
 replace hb:=aa hb
 go_wp2_with fail
 go_ret2
 exact⟨rfl,hb.out⟩
theorem mg{w:World}{bR:Nat}{x:Rp}(h:aP w bR x){s:Nat}(hs:s< x.stmts.length):
  Calls Tryz.prog 141 #[ak bR,.int .i64 s] w fun r w'=>r=.returned (.tuple #[.int .i64 (x.st s).p.nn,.bool (x.isStart s)])∧Below w.heap.size w w':=by
 have H:=aa (vA h hs 7)
 clear h
 go_enter Tryz.func141,Tryz.ntmps141
 go_wp2_with fail
 refine H.out.mono ?_
 rintro r w1 ⟨rfl,hb⟩
 replace hb:=aa hb
 go_wp2_with fail
 go_ret2
 exact⟨rfl,hb.out⟩
theorem tl{w:World}{bR:Nat}{x:Rp}(h:aP w bR x){s:Nat}(hs:s< x.stmts.length):
  Calls Tryz.prog 130 #[ak bR,.int .i64 s] w fun r w'=>r=.returned (.tuple #[.int .i64 (x.st s).p.nn,.bool (x.isCall s||x.isStart s)])∧Below w.heap.size w w':=by
 have H:=aa (jf h hs)
 have H2:=fun w1 (k:Below w.heap.size w w1)=>aa (mg (h.keep k) hs)
 replace H2:=aa H2
 clear h
 go_enter Tryz.func130,Tryz.ntmps130
 go_wp2_with fail
 refine H.out.mono ?_
 rintro r w1 ⟨rfl,hb⟩
 replace hb:=aa hb
 cases hc:x.isCall s
 ·go_wp2_with fail
  refine(H2.out w1 hb.out).out.mono ?_
  rintro r w2 ⟨rfl,hb2⟩
  replace hb2:=aa hb2
  go_wp2_with fail
  go_ret2
  exact⟨by simp[hc],hb.out.trans (hb2.out.mono hb.out.size)⟩
 ·go_wp2_with fail
  go_ret2
  exact⟨by simp[hc],hb.out⟩
end
section
set_option maxRecDepth 100000
set_option maxHeartbeats 2000000
open Go.RowKit
structure ei(x:Rp):Prop where
 ends:x.ends≤48
 len:x.stmts.length≤53
 st:∀s,s< x.stmts.length→(x.st s).fn< 5∧((x.st s).nx=-1∨(0≤(x.st s).nx∧(x.st s).nx≤48))∧((x.st s).ins=-1∨(0≤(x.st s).ins∧(x.st s).ins≤48))
theorem ei.spot_lt{x:Rp}(h:ei x){f:Nat}{p:Int}(hf:f< 5)(hp:p=-1∨(0≤p∧p≤48)):x.spot f p< 64:=by
 have:=h.ends
 unfold Rp.spot
 split<;>omega
theorem qc{w:World}{bR:Nat}{x:Rp}(h:aP w bR x)(ok:ei x){s:Nat}(hs:s< x.stmts.length):
  Calls Tryz.prog 129 #[ak bR,.int .i64 s] w fun r w'=>r=.returned (.int .u64 (x.nextOf s))∧Below w.heap.size w w':=by
 obtain⟨g,c,b,sr,sb,c0,c1,c2,c3,c4,hb,hr⟩:=h.stm hs
 have d2:w.cell? ⟨b,2,none⟩=some (.int .i64 (x.st s).p.kind):=hb.cell 2
 have hl:=hb.lt
 obtain⟨o1,o2,o3⟩:=ok.st s hs
 have oe:=ok.ends
 have l1:=ok.spot_lt o1 o2
 have l2:=ok.spot_lt o1 o3
 obtain⟨W0,hW0⟩:∃W,W=w.alloc (.cells #[ak b,.int .i64 (x.st s).fn,.int .i64 (x.st s).nx,.int .i64 (x.st s).ins] 197):=⟨_,rfl⟩
 have hb0:Below w.heap.size w W0:=by rw[hW0];exact(Below.refl _ _).alloc (Nat.le_refl _) _
 have HF:∀W,Below w.heap.size w W→Hid (Calls Tryz.prog 139 #[ak bR,.int .i64 s] W fun r w'=>r=.returned (.int .i64 (x.st s).fn)∧w'=W):=fun W k=>gT (h.keep k) hs
 have HS:∀W,Below w.heap.size w W→Hid (Calls Tryz.prog 87 #[ak bR,.int .i64 (x.st s).fn,.int .i64 (x.st s).nx] W fun r w'=>r=.returned (.int .i64 (x.spot (x.st s).fn (x.st s).nx:Nat))∧w'=W):=fun W k=>vy (h.keep k) _ _ (by omega) (by omega) (by omega)
 have HS2:∀W,Below w.heap.size w W→Hid (Calls Tryz.prog 87 #[ak bR,.int .i64 (x.st s).fn,.int .i64 (x.st s).ins] W fun r w'=>r=.returned (.int .i64 (x.spot (x.st s).fn (x.st s).ins:Nat))∧w'=W):=fun W k=>vy (h.keep k) _ _ (by omega) (by omega) (by omega)
 replace HF:=aa HF
 replace HS:=aa HS
 replace HS2:=aa HS2
 have HB0:=aa hb0
 have hx0:an W0 w.heap.size #[ak b,.int .i64 (x.st s).fn,.int .i64 (x.st s).nx,.int .i64 (x.st s).ins]:=by rw[hW0];exact an.new _ _ _
 have x0:W0.cell? ⟨w.heap.size,0,none⟩=some (ak b):=hx0.cell 0
 have x2:W0.cell? ⟨w.heap.size,2,none⟩=some (.int .i64 (x.st s).nx):=hx0.cell 2
 have x3:W0.cell? ⟨w.heap.size,3,none⟩=some (.int .i64 (x.st s).ins):=hx0.cell 3
 have y2:W0.cell? ⟨b,2,none⟩=some (.int .i64 (x.st s).p.kind):=by rw[hb0.cell (p:=⟨b,2,none⟩) hl];exact d2
 have e12:(((x.st s).p.kind:Int)==12)=decide ((x.st s).p.kind=12):=by rw[Bool.eq_iff_iff,beq_iff_eq,decide_eq_true_iff];omega
 have e13:(((x.st s).p.kind:Int)==13)=decide ((x.st s).p.kind=13):=by rw[Bool.eq_iff_iff,beq_iff_eq,decide_eq_true_iff];omega
 have e14:(((x.st s).p.kind:Int)==14)=decide ((x.st s).p.kind=14):=by rw[Bool.eq_iff_iff,beq_iff_eq,decide_eq_true_iff];omega
 have HW0:=aa hW0
 have r1:=cG
 clear h hb hr hb0 ok hx0 hW0
 go_enter Tryz.func129,Tryz.ntmps129
 go_wp2_with fail
 rw[←HW0.out]
 clear HW0 c0 c1 c2 c3 c4 d2
 go_quiet ((first|(go_at_call 139;exact Calls.quiet_of_same (HF.out _ (az HB0.out _)).out)|(go_at_call 87;exact Calls.quiet_of_same (HS.out _ (az HB0.out _)).out)|(go_at_call 89;exact Calls.quiet_of_same (gy _ l1 _))))
 obtain⟨W1,hW1⟩:∃W,W0.drewN nq=W:=⟨_,rfl⟩
 have HB1:Hid (Below w.heap.size w W1):=by rw[←hW1];exact az HB0.out _
 have z0:W1.cell? ⟨w.heap.size,0,none⟩=some (ak b):=by rw[←hW1];exact x0
 have z3:W1.cell? ⟨w.heap.size,3,none⟩=some (.int .i64 (x.st s).ins):=by rw[←hW1];exact x3
 have z2:W1.cell? ⟨b,2,none⟩=some (.int .i64 (x.st s).p.kind):=by rw[←hW1];exact y2
 rw[hW1]
 clear hW1 x0 x2 x3 y2 HB0
 by_cases h12:(x.st s).p.kind=12
 ·have hk:decide ((x.st s).p.kind=12)=true:=by simp[h12]
  rw[hk]at e12
  have HE:Hid (x.nextOf s=0):=by show _=_;unfold Rp.nextOf;rw[if_pos h12]
  go_wp2_with fail
  go_ret
  exact⟨by rw[HE.out];rfl,HB1.out⟩
 ·have hk:decide ((x.st s).p.kind=12)=false:=by simp[h12]
  rw[hk]at e12
  by_cases h13:(x.st s).p.kind=13∨(x.st s).p.kind=14
  ·have HE:Hid (x.nextOf s=fa (aC (x.spot (x.st s).fn (x.st s).nx)) (aC (x.spot (x.st s).fn (x.st s).ins))):=by show _=_;unfold Rp.nextOf;rw[if_neg h12,if_pos h13]
   rcases h13 with h13|h13
   ·have hk3:decide ((x.st s).p.kind=13)=true:=by simp[h13]
    rw[hk3]at e13
    go_wp2_with fail
    go_quiet ((first|(go_at_call 139;exact Calls.quiet_of_same (HF.out _ (az HB1.out _)).out)|(go_at_call 87;exact Calls.quiet_of_same (HS2.out _ (az HB1.out _)).out)|(go_at_call 89;exact Calls.quiet_of_same (gy _ l2 _))))
    go_wp2_with fail
    go_ret
    exact⟨by rw[HE.out];rfl,az HB1.out _⟩
   ·have hk3:decide ((x.st s).p.kind=13)=false:=by simp[h13]
    have hk4:decide ((x.st s).p.kind=14)=true:=by simp[h13]
    rw[hk3]at e13
    rw[hk4]at e14
    go_wp2_with fail
    go_quiet ((first|(go_at_call 139;exact Calls.quiet_of_same (HF.out _ (az HB1.out _)).out)|(go_at_call 87;exact Calls.quiet_of_same (HS2.out _ (az HB1.out _)).out)|(go_at_call 89;exact Calls.quiet_of_same (gy _ l2 _))))
    go_wp2_with fail
    go_ret
    exact⟨by rw[HE.out];rfl,az HB1.out _⟩
  ·have HE:Hid (x.nextOf s=aC (x.spot (x.st s).fn (x.st s).nx)):=by show _=_;unfold Rp.nextOf;rw[if_neg h12,if_neg h13]
   have hk3:decide ((x.st s).p.kind=13)=false:=by simp;intro e;exact h13 (Or.inl e)
   have hk4:decide ((x.st s).p.kind=14)=false:=by simp;intro e;exact h13 (Or.inr e)
   rw[hk3]at e13
   rw[hk4]at e14
   go_wp2_with fail
   go_ret
   exact⟨by rw[HE.out];rfl,HB1.out⟩
end
section
set_option maxRecDepth 100000
set_option maxHeartbeats 1000000
open Go.RowKit Go.Shelf
theorem aP.begins{w:World}{bR:Nat}{x:Rp}(h:aP w bR x){f:Nat}(hf:f< x.begins.length):∃g c,w.cell? ⟨bR,2,none⟩=some (.slice (some ⟨g,0,none⟩) x.begins.length c)∧w.cell? ⟨g,f,none⟩=some (.int .i64 (x.begins.getD f 0)):=by
 obtain⟨bv,sv,tv,rv,lv,h1,h2,-⟩:=h.ex
 obtain⟨g,c,e⟩:=aG h2 (by omega)
 subst e
 refine⟨g,c,h1.cell 2,?_⟩
 rw[h2.cellAt _ (by omega)]
 simp[bV,hf]
theorem AV{w:World}{bR:Nat}{x:Rp}(h:aP w bR x)(ok:ei x){s:Nat}(hs:s< x.stmts.length)(hn:(x.isCall s||x.isStart s)=true→(x.st s).p.nn< x.begins.length∧x.begins.getD (x.st s).p.nn 0< 64):
  Calls Tryz.prog 90 #[ak bR,.int .i64 s] w fun r w'=>r=.returned (.int .u64 (x.comeOf s))∧Below w.heap.size w w':=by
 have r1:=cG
 have H1:=aa (qc h ok hs)
 have H2:Hid (∀W,Below w.heap.size w W→Calls Tryz.prog 130 #[ak bR,.int .i64 s] W fun r w'=>r=.returned (.tuple #[.int .i64 (x.st s).p.nn,.bool (x.isCall s||x.isStart s)])∧Below W.heap.size W w'):=fun W k=>tl (h.keep k) hs
 cases hc:(x.isCall s||x.isStart s)
 ·have HE:Hid (x.comeOf s=x.nextOf s):=by show _=_;unfold Rp.comeOf;rw[hc];rfl
  rw[hc]at H2
  clear h ok hn hc
  go_enter Tryz.func90,Tryz.ntmps90
  go_wp2_with fail
  refine H1.out.mono ?_
  rintro r w1 ⟨rfl,hb⟩
  replace hb:=aa hb
  go_wp2_with fail
  refine(H2.out w1 hb.out).mono ?_
  rintro r w2 ⟨rfl,hb2⟩
  replace hb2:=aa hb2
  go_wp2_with fail
  go_ret
  exact⟨by rw[HE.out];rfl,hb.out.trans (hb2.out.mono hb.out.size)⟩
 ·have HE:Hid (x.comeOf s=fa (x.nextOf s) (aC (x.begins.getD (x.st s).p.nn 0))):=by show _=_;unfold Rp.comeOf;rw[hc];rfl
  obtain⟨n1,n2⟩:=hn hc
  obtain⟨v,hv⟩:∃v,x.begins.getD (x.st s).p.nn 0=v:=⟨_,rfl⟩
  rw[hv]at HE n2
  have HBG:Hid (∀W,Below w.heap.size w W→∃g c,W.cell? ⟨bR,2,none⟩=some (.slice (some ⟨g,0,none⟩) x.begins.length c)∧W.cell? ⟨g,(x.st s).p.nn,none⟩=some (.int .i64 v)):=fun W k=>by rw[←hv];exact(h.keep k).begins n1
  rw[hc]at H2
  clear h ok hn hc hv
  go_enter Tryz.func90,Tryz.ntmps90
  go_wp2_with fail
  refine H1.out.mono ?_
  rintro r w1 ⟨rfl,hb⟩
  replace hb:=aa hb
  go_wp2_with fail
  refine(H2.out w1 hb.out).mono ?_
  rintro r w2 ⟨rfl,hb2⟩
  have HB2:Hid (Below w.heap.size w w2):=hb.out.trans (hb2.mono hb.out.size)
  obtain⟨g,c,c0,c1⟩:=HBG.out w2 HB2.out
  have c1':w2.cell? ⟨g,(x.st s).p.nn*1,none⟩=some (.int .i64 v):=by rw[Nat.mul_one];exact c1
  have H3:=aa (gy _ n2 w2)
  clear hb2
  go_wp2_with fail
  refine H3.out.mono ?_
  rintro r wq ⟨rfl,hq⟩
  subst wq
  go_wp2_with fail
  go_ret
  exact⟨by rw[HE.out];rfl,HB2.out⟩
theorem ip{w:World}{bR:Nat}{x:Rp}(h:aP w bR x)(hn:x.starts.length< 64):
  Calls Tryz.prog 134 #[ak bR] w fun r w'=>r=.returned (.int .u64 (cj (aC x.starts.length)))∧w'=w:=by
 obtain⟨bv,sv,tv,rv,lv,h1,h2,h3,h4,-⟩:=h.ex
 obtain⟨p,c,rfl⟩:=ai h4
 have c4:w.cell? ⟨bR,4,none⟩=some (.slice p x.starts.length c):=h1.cell 4
 have H1:=aa (sC x.starts.length hn w)
 clear h h1 h2 h3 h4
 go_enter Tryz.func134,Tryz.ntmps134
 go_wp2_with fail
 refine H1.out.mono ?_
 rintro r wq ⟨rfl,hq⟩
 subst wq
 go_wp2_with fail
 go_ret
 exact⟨rfl,rfl⟩
theorem mO:∀args w,(callFunc 129 args).run Tryz.prog w=.ok (.enter 129 args) w:=enters_of Tryz.func129 (by kernel_rfl) rfl
theorem mQ:∀args w,(callFunc 90 args).run Tryz.prog w=.ok (.enter 90 args) w:=enters_of Tryz.func90 (by kernel_rfl) rfl
theorem qd{w:World}{bR:Nat}{x:Rp}(h:aP w bR x)(ok:ei x)(hg:0< w.heap.size)(hT:Tz w){s R:Nat}(hs:s< x.stmts.length)(hR:∃j,bK x.nextOf j (x.nextOf s) (x.nextOf s)=some R)(hb:x.nextOf s< bI)(hin:∀i,i< 64→R.testBit i=true→i< x.stmts.length):
  Calls Tryz.prog 132 #[ak bR,.int .i64 s] w fun r w'=>r=.returned (.bool (dB R s))∧Below w.heap.size w w':=by
 have H1:=aa (qc h ok hs)
 have H2:Hid (∀W,Below w.heap.size w W→Calls Tryz.prog 88 #[.int .u64 (x.nextOf s),.func (.func 129) #[ak bR] #[]] W fun r w'=>r=.returned (.int .u64 R)∧Below W.heap.size W w'):=fun W k=>
  nV _ R hb x.nextOf 129 #[ak bR] #[] W (Nat.lt_of_lt_of_le hg k.size) (hT.below k) hR (fun y W' h6 hy k'=>qc ((h.keep k).keep k') ok (hin y h6 hy)) mO
 have hl:s< 64:=by have:=ok.len;omega
 clear h ok hT hin hR
 go_enter Tryz.func132,Tryz.ntmps132
 go_wp2_with fail
 refine H1.out.mono ?_
 rintro r w1 ⟨rfl,hb1⟩
 replace hb1:=aa hb1
 go_wp2_with fail
 refine(H2.out w1 hb1.out).mono ?_
 rintro r w2 ⟨rfl,hb2⟩
 replace hb2:=aa hb2
 have H3:=aa (jh R s hl w2)
 go_wp2_with fail
 refine H3.out.mono ?_
 rintro r wq ⟨rfl,hq⟩
 subst wq
 go_wp2_with fail
 go_ret
 exact⟨rfl,hb1.out.trans (hb2.out.mono hb1.out.size)⟩
end
section
set_option maxRecDepth 100000
set_option maxHeartbeats 1000000
open Go.RowKit Go.Shelf
namespace Rp
def inOf(x:Rp)(fs:Nat):Nat:=fK x.spots (fun s=>dB fs (x.st s).fn)
end Rp
structure ci(x:Rp):Prop where
 lt:x.spots< bI
 mem:∀i,i< 64→x.spots.testBit i=true→i< x.stmts.length
theorem jK(s:Nat)(p:Nat→Bool):fK s p< bI:=by rw[←gQ];exact vj _ _ _
theorem kr{s:Nat}{p:Nat→Bool}{i:Nat}(hi:i< 64)(h:(fK s p).testBit i=true):s.testBit i=true∧p i=true:=by
 have:∀(l:List Nat) (a:Nat),(∀y∈l,y< 64)→(l.foldl (fun a x=>if p x then fa a (aC x)else a) a).testBit i=true→a.testBit i=true∨(i∈l∧p i=true):=by
  intro l
  induction l with
  |nil=>intro a _ h;exact Or.inl h
  |cons y l ih=>
   intro a hl h
   rw[List.foldl_cons]at h
   rcases ih _ (fun z hz=>hl z (List.mem_cons_of_mem _ hz)) h with e|⟨e1,e2⟩
   ·split at e
    ·rename_i hp
     rw[eN,fM (hl y (by simp))]at e
     simp[hi]at e
     rcases e with e|e
     ·exact Or.inl e
     ·subst e;exact Or.inr ⟨by simp,hp⟩
    ·exact Or.inl e
   ·exact Or.inr ⟨List.mem_cons_of_mem _ e1,e2⟩
 rcases this (els s) 0 (fun y hy=>(iw hy).1) h with e|⟨e1,e2⟩
 ·simp at e
 ·exact⟨(iw e1).2,e2⟩
theorem nD:∀args w,(callFunc 163 args).run Tryz.prog w=.ok (.enter 163 args) w:=enters_of Tryz.func163 (by kernel_rfl) rfl
theorem BL{w:World}{bR b1 b2 fs:Nat}{x:Rp}(h:aP w bR x)(ok:ei x){s:Nat}(hs:s< x.stmts.length)(c1:w.cell? ⟨b1,0,none⟩=some (.int .u64 fs))(c2:w.cell? ⟨b2,0,none⟩=some (ak bR)):
  Calls Tryz.prog 163 #[.int .i64 s,.pointer (some ⟨b1,0,none⟩),.pointer (some ⟨b2,0,none⟩)] w fun r w'=>r=.returned (.bool (dB fs (x.st s).fn))∧Below w.heap.size w w':=by
 have HF:∀k,Hid (Calls Tryz.prog 139 #[ak bR,.int .i64 s] (w.drewN k) fun r w'=>r=.returned (.int .i64 (x.st s).fn)∧w'=w.drewN k):=fun k=>gT (h.keep (az (Below.refl _ _) k)) hs
 have hl:(x.st s).fn< 64:=by have:=(ok.st s hs).1;omega
 clear h ok
 go_enter Tryz.func163,Tryz.ntmps163
 go_wp2_with fail
 go_quiet ((first|(go_at_call 139;exact Calls.quiet_of_same (HF _).out)|(go_at_call 138;exact Calls.quiet_of_same (gA _ _ hl _))))
 go_wp2_with fail
 go_ret
 exact⟨rfl,az (Below.refl _ _) _⟩
theorem AT{w:World}{bR:Nat}{x:Rp}(h:aP w bR x)(ok:ei x)(sp:ci x)(hg:0< w.heap.size)(hT:Tz w)(fs:Nat):
  Calls Tryz.prog 111 #[ak bR,.int .u64 fs] w fun r w'=>r=.returned (.int .u64 (x.inOf fs))∧Below w.heap.size w w':=by
 obtain⟨bv,sv,tv,rv,lv,h1,-⟩:=h.ex
 have c5:w.cell? ⟨bR,5,none⟩=some (.int .u64 x.spots):=h1.cell 5
 have hl:=h1.lt
 obtain⟨W0,hW0⟩:∃W,W=(w.alloc (.cells #[ak bR] 163)).alloc (.cells #[.int .u64 fs] 252):=⟨_,rfl⟩
 have hb0:Below w.heap.size w W0:=by rw[hW0];exact((Below.refl _ _).alloc (Nat.le_refl _) _).alloc (by simp) _
 have bP:Boxed W0 w.heap.size 163 (ak bR):=by rw[hW0];exact(Boxed.new _ _ _).alloc _
 have bF:Boxed W0 (w.heap.size+1) 252 (.int .u64 fs):=by rw[hW0];have:=Boxed.new (w.alloc (.cells #[ak bR] 163)) 252 (.int .u64 fs);rw[World.size_alloc]at this;exact this
 have H1:Hid (Calls Tryz.prog 131 #[.int .u64 x.spots,.func (.func 163) #[] #[.pointer (some ⟨w.heap.size+1,0,none⟩),.pointer (some ⟨w.heap.size,0,none⟩)]] W0 fun r w'=>r=.returned (.int .u64 (x.inOf fs))∧Below W0.heap.size W0 w'):=
  lT x.spots sp.lt (fun s=>dB fs (x.st s).fn) 163 #[] _ W0 (Nat.lt_of_lt_of_le hg hb0.size) (hT.below hb0) (fun y W k=>BL ((h.keep hb0).keep k) ok (sp.mem y.1 y.2.1 y.2.2) (am bF k).cell (am bP k).cell) nD
 have HB0:=aa hb0
 have HW0:=aa hW0
 clear h h1 ok sp hT bP bF hb0 hW0
 go_enter Tryz.func111,Tryz.ntmps111
 go_wp2_with fail
 rw[←HW0.out]
 refine H1.out.mono ?_
 rintro r w1 ⟨rfl,hb⟩
 replace hb:=aa hb
 go_wp2_with fail
 go_ret
 exact⟨rfl,HB0.out.trans (hb.out.mono HB0.out.size)⟩
end
section
set_option maxRecDepth 100000
set_option maxHeartbeats 1000000
open Go.RowKit Go.Shelf
def Cn(x:Int):Int:=IntKind.u64.wrap (bits .and .u64 (x/2) 6148914691236517205+bits .and .u64 x 6148914691236517205)
def Cm(x:Int):Int:=IntKind.u64.wrap (bits .and .u64 (x/4) 3689348814741910323+bits .and .u64 x 3689348814741910323)
def Cl(x:Int):Int:=bits .and .u64 (IntKind.u64.wrap (x/16+x)) 1085102592571150095
def Ck(x:Int):Int:=IntKind.u64.wrap (x+x/256)
def Cj(x:Int):Int:=IntKind.u64.wrap (x+x/65536)
def Ci(x:Int):Int:=IntKind.u64.wrap (x+x/4294967296)
def fL(x:Nat):Int:=bits .and .i64 (wrap64 (Ci (Cj (Ck (Cl (Cm (Cn (x:Int)))))))) 127
theorem qk(x:Nat)(w:World):
  Calls Tryz.prog 199 #[.int .u64 x] w fun r w'=>r=.returned (.int .i64 (fL x))∧w'=w:=by
 go_enter Tryz.func199,Tryz.ntmps199
 go_wp2_with fail
 go_ret
 exact⟨rfl,rfl⟩
theorem ya(x:Nat)(w:World):
  Calls Tryz.prog 211 #[.int .u64 x] w fun r w'=>r=.returned (.int .i64 (fL x))∧w'=w:=by
 have H:=aa (qk x w)
 go_enter Tryz.func211,Tryz.ntmps211
 go_wp2_with fail
 refine H.out.mono ?_
 rintro r wq ⟨rfl,hq⟩
 subst wq
 go_wp2_with fail
 go_ret
 exact⟨rfl,rfl⟩
theorem vZ(x:Nat)(w:World):
  Calls Tryz.prog 168 #[.int .u64 x] w fun r w'=>r=.returned (.int .i64 (fL x))∧w'=w:=by
 have H:=aa (qk x w)
 go_enter Tryz.func168,Tryz.ntmps168
 go_wp2_with fail
 refine H.out.mono ?_
 rintro r wq ⟨rfl,hq⟩
 subst wq
 go_wp2_with fail
 go_ret
 exact⟨rfl,rfl⟩
def fN(f:Nat→Nat):Nat→Nat→Option Nat
 |0,v=>if f v=v then some v else none
 |k+1,v=>if f v=v then some v else fN f k (f v)
theorem lY(v R k0:Nat)(f:Nat→Nat)(k:FuncId)(bs caps:Array Value)(w:World)(hR:fN f k0 v=some R)
  (hk:∀(y:Nat) (W:World),Below w.heap.size w W→Calls Tryz.prog k (bs++#[.int .u64 y]++caps) W fun r W'=>r=.returned (.int .u64 (f y))∧Below W.heap.size W W')
  (he:∀args w,(callFunc k args).run Tryz.prog w=.ok (.enter k args) w):
  Calls Tryz.prog 185 #[.int .u64 v,.func (.func k) bs caps] w fun r w'=>r=.returned (.int .u64 R)∧Below w.heap.size w w':=by
 have HK:=aa hk
 have HR:=aa hR
 have H1:=aa (hk v w (Below.refl _ _))
 clear hk hR
 go_enter Tryz.func185,Tryz.ntmps185
 go_wp2_with fail
 refine H1.out.mono ?_
 rintro r w1 ⟨rfl,hb1⟩
 replace hb1:=aa hb1
 go_wp2_with fail
 go_loopg [0,5] k0 (fun g a b wr=>∃y:Nat,a=.int .u64 y∧b=.int .u64 (f y)∧Hid (fN f g y=some R)∧Hid (Below w.heap.size w wr))
 case atStart=>exact⟨v,rfl,rfl,HR,hb1⟩
 case round=>
  obtain⟨y,rfl,rfl,HS,HB⟩:=hrel
  by_cases e:f y=y
  ·have hne:(((f y:Nat):Int)!=((y:Nat):Int))=false:=by rw[e];simp
   have HX:Hid (y=R):=by
    have:=HS.out
    show y=R
    cases gk<;>simpa[fN,e]using this
   clear e
   go_wp2_with fail
   go_ret
   exact⟨by rw[←HX.out];rfl,HB.out⟩
  ·have hne:(((f y:Nat):Int)!=((y:Nat):Int))=true:=by rw[bne_iff_ne];omega
   obtain⟨g',rfl,HS2⟩:∃g',gk=g'+1∧Hid (fN f g' (f y)=some R):=by
    have:=HS.out
    cases gk with
    |zero=>simp[fN,e]at this
    |succ g'=>exact⟨g',rfl,by show fN f g' (f y)=some R;simpa[fN,e]using this⟩
   have HC:=aa (HK.out (f y) wr HB.out)
   clear e
   go_wp2_with fail
   refine HC.out.mono ?_
   rintro r w2 ⟨rfl,hb2⟩
   replace hb2:=aa hb2
   go_wp2_with fail
   go_roundg g'
   case rel=>exact⟨f y,rfl,rfl,HS2,HB.out.trans (hb2.out.mono HB.out.size)⟩
   all_goals omega
end
section
set_option maxRecDepth 100000
set_option maxHeartbeats 2000000
open Go.RowKit Go.Shelf
namespace Rp
def isEnter(x:Rp)(f s:Nat):Bool:=(x.isCall s||x.isStart s)&&(x.st s).p.nn==f
def enterings(x:Rp)(f:Nat):Nat:=fK x.spots (x.isEnter f)
def entriesOf(x:Rp)(f often:Nat):Int:=if f=x.main then wrap64 (wrap64 (fL (x.enterings f)+fL (dg (x.enterings f) often))+1)else wrap64 (fL (x.enterings f)+fL (dg (x.enterings f) often))
end Rp
theorem lf(a b:Nat):(((a:Nat):Int)==((b:Nat):Int))=(a==b):=by rw[Bool.eq_iff_iff,beq_iff_eq,beq_iff_eq];omega
theorem jF:∀args w,(callFunc 210 args).run Tryz.prog w=.ok (.enter 210 args) w:=enters_of Tryz.func210 (by kernel_rfl) rfl
theorem tR{w:World}{bR b1 b2 f:Nat}{x:Rp}(h:aP w bR x){s:Nat}(hs:s< x.stmts.length)(c1:w.cell? ⟨b1,0,none⟩=some (ak bR))(c2:w.cell? ⟨b2,0,none⟩=some (.int .i64 f)):
  Calls Tryz.prog 210 #[.int .i64 s,.pointer (some ⟨b1,0,none⟩),.pointer (some ⟨b2,0,none⟩)] w fun r w'=>r=.returned (.bool (x.isEnter f s))∧Below w.heap.size w w':=by
 have H1:=aa (tl h hs)
 have hl2:=ah c2
 have r1:=lf
 clear h
 cases hc:(x.isCall s||x.isStart s)
 ·have HE:Hid (x.isEnter f s=false):=by show _=_;unfold Rp.isEnter;rw[hc];rfl
  rw[hc]at H1
  go_enter Tryz.func210,Tryz.ntmps210
  go_wp2_with fail
  refine H1.out.mono ?_
  rintro r w1 ⟨rfl,hb⟩
  replace hb:=aa hb
  go_wp2_with fail
  go_ret
  exact⟨by rw[HE.out];rfl,hb.out⟩
 ·have HE:Hid (x.isEnter f s=((x.st s).p.nn==f)):=by show _=_;unfold Rp.isEnter;rw[hc];rfl
  rw[hc]at H1
  go_enter Tryz.func210,Tryz.ntmps210
  go_wp2_with fail
  refine H1.out.mono ?_
  rintro r w1 ⟨rfl,hb⟩
  have d2:w1.cell? ⟨b2,0,none⟩=some (.int .i64 f):=by rw[hb.cell (p:=⟨b2,0,none⟩) hl2];exact c2
  replace hb:=aa hb
  go_wp2_with fail
  go_ret
  exact⟨by rw[HE.out];rfl,hb.out⟩
theorem vB{w:World}{bR:Nat}{x:Rp}(h:aP w bR x)(sp:ci x)(hg:0< w.heap.size)(hT:Tz w)(f often:Nat):
  Calls Tryz.prog 190 #[ak bR,.int .i64 f,.int .u64 often] w fun r w'=>r=.returned (.int .i64 (x.entriesOf f often))∧Below w.heap.size w w':=by
 obtain⟨bv,sv,tv,rv,lv,h1,-⟩:=h.ex
 have c5:w.cell? ⟨bR,5,none⟩=some (.int .u64 x.spots):=h1.cell 5
 have c0:w.cell? ⟨bR,0,none⟩=some (.int .i64 x.main):=h1.cell 0
 have hl:=h1.lt
 obtain⟨W0,hW0⟩:∃W,W=(w.alloc (.cells #[ak bR] 163)).alloc (.cells #[.int .i64 f] 194):=⟨_,rfl⟩
 have hb0:Below w.heap.size w W0:=by rw[hW0];exact((Below.refl _ _).alloc (Nat.le_refl _) _).alloc (by simp) _
 have bP:Boxed W0 w.heap.size 163 (ak bR):=by rw[hW0];exact(Boxed.new _ _ _).alloc _
 have bF:Boxed W0 (w.heap.size+1) 194 (.int .i64 f):=by rw[hW0];have:=Boxed.new (w.alloc (.cells #[ak bR] 163)) 194 (.int .i64 f);rw[World.size_alloc]at this;exact this
 have H1:Hid (Calls Tryz.prog 131 #[.int .u64 x.spots,.func (.func 210) #[] #[.pointer (some ⟨w.heap.size,0,none⟩),.pointer (some ⟨w.heap.size+1,0,none⟩)]] W0 fun r w'=>r=.returned (.int .u64 (x.enterings f))∧Below W0.heap.size W0 w'):=
  lT x.spots sp.lt (x.isEnter f) 210 #[] _ W0 (Nat.lt_of_lt_of_le hg hb0.size) (hT.below hb0) (fun y W k=>tR ((h.keep hb0).keep k) (sp.mem y.1 y.2.1 y.2.2) (am bP k).cell (am bF k).cell) jF
 have r1:=dt
 have r2:=lf
 have HBX:Hid (∀W,Below W0.heap.size W0 W→W.cell? ⟨w.heap.size,0,none⟩=some (ak bR)∧W.cell? ⟨w.heap.size+1,0,none⟩=some (.int .i64 f)∧W.cell? ⟨bR,0,none⟩=some (.int .i64 x.main)):=fun W k=>⟨(am bP k).cell,(am bF k).cell,by rw[(hb0.trans (k.mono hb0.size)).cell (p:=⟨bR,0,none⟩) hl];exact c0⟩
 have HB0:=aa hb0
 have HW0:=aa hW0
 clear h h1 sp hT bP bF hb0 hW0 c0
 go_enter Tryz.func190,Tryz.ntmps190
 go_wp2_with fail
 rw[←HW0.out]
 refine H1.out.mono ?_
 rintro r w1 ⟨rfl,hb⟩
 obtain⟨d0,d1,d2⟩:=HBX.out w1 hb
 replace hb:=aa hb
 go_wp2_with (first|(go_at_call 211;refine(ya _ _).mono ?_;rintro r wq ⟨rfl,hq⟩;subst wq))
 go_quiet (fail)
 by_cases hf:f=x.main
 ·have hfb:(f==x.main)=true:=by simp[hf]
  have HE:Hid (x.entriesOf f often=wrap64 (wrap64 (fL (x.enterings f)+fL (dg (x.enterings f) often))+1)):=by show _=_;unfold Rp.entriesOf;rw[if_pos hf]
  clear hf
  go_wp2_with fail
  go_ret
  exact⟨by rw[HE.out];rfl,az (HB0.out.trans (hb.out.mono HB0.out.size)) _⟩
 ·have hfb:(f==x.main)=false:=by simp[hf]
  have HE:Hid (x.entriesOf f often=wrap64 (fL (x.enterings f)+fL (dg (x.enterings f) often))):=by show _=_;unfold Rp.entriesOf;rw[if_neg hf]
  clear hf
  go_wp2_with fail
  go_ret
  exact⟨by rw[HE.out];rfl,az (HB0.out.trans (hb.out.mono HB0.out.size)) _⟩
end
section
set_option maxRecDepth 100000
set_option maxHeartbeats 2000000
open Go.RowKit Go.Shelf
theorem wK{W w1:World}(hb:Below W.heap.size W w1):(∀b o,b< W.heap.size→w1.cell? ⟨b,o,none⟩=W.cell? ⟨b,o,none⟩)∧(∀b o,b< W.heap.size→w1.frozen? ⟨b,o,none⟩=W.frozen? ⟨b,o,none⟩):=
 ⟨fun b o h=>hb.cell (p:=⟨b,o,none⟩) h,fun b o h=>hb.frozen (p:=⟨b,o,none⟩) h⟩
namespace Rp
def twiceRule(x:Rp)(again twice:Nat):Nat:=fK (cj (aC x.begins.length)) (fun f=>decide (1< x.entriesOf f (fa again (x.inOf twice))))
end Rp
theorem lC:∀args w,(callFunc 189 args).run Tryz.prog w=.ok (.enter 189 args) w:=enters_of Tryz.func189 (by kernel_rfl) rfl
theorem mP:∀args w,(callFunc 186 args).run Tryz.prog w=.ok (.enter 186 args) w:=enters_of Tryz.func186 (by kernel_rfl) rfl
theorem zq{w:World}{bR b1 b2 often:Nat}{x:Rp}(h:aP w bR x)(sp:ci x)(hg:0< w.heap.size)(hT:Tz w)(f:Nat)(c1:w.cell? ⟨b1,0,none⟩=some (ak bR))(c2:w.cell? ⟨b2,0,none⟩=some (.int .u64 often)):
  Calls Tryz.prog 189 #[.int .i64 f,.pointer (some ⟨b1,0,none⟩),.pointer (some ⟨b2,0,none⟩)] w fun r w'=>r=.returned (.bool (decide (1< x.entriesOf f often)))∧Below w.heap.size w w':=by
 have H1:=aa (vB h sp hg hT f often)
 clear h sp hT
 go_enter Tryz.func189,Tryz.ntmps189
 go_wp2_with fail
 refine H1.out.mono ?_
 rintro r w1 ⟨rfl,hb⟩
 replace hb:=aa hb
 go_wp2_with fail
 go_ret
 exact⟨rfl,hb.out⟩
theorem AU{w:World}{bR b1 b2 again:Nat}{x:Rp}(h:aP w bR x)(ok:ei x)(sp:ci x)(hg:0< w.heap.size)(hT:Tz w)(hn:x.begins.length< 64)(y:Nat)(c1:w.cell? ⟨b1,0,none⟩=some (.int .u64 again))(c2:w.cell? ⟨b2,0,none⟩=some (ak bR)):
  Calls Tryz.prog 186 #[.int .u64 y,.pointer (some ⟨b1,0,none⟩),.pointer (some ⟨b2,0,none⟩)] w fun r w'=>r=.returned (.int .u64 (x.twiceRule again y))∧Below w.heap.size w w':=by
 have r1:=cG
 have l1:=ah c1
 have l2:=ah c2
 have HI:Hid (∀W,Below w.heap.size w W→Calls Tryz.prog 111 #[ak bR,.int .u64 y] W fun r w'=>r=.returned (.int .u64 (x.inOf y))∧Below W.heap.size W w'∧w'.cell? ⟨b1,0,none⟩=some (.int .u64 again)∧w'.cell? ⟨b2,0,none⟩=some (ak bR)):=fun W k=>(AT (h.keep k) ok sp (Nat.lt_of_lt_of_le hg k.size) (hT.below k) y).mono (fun r w' hh=>by
  have kk:=k.trans (hh.2.mono k.size)
  exact⟨hh.1,hh.2,by rw[kk.cell (p:=⟨b1,0,none⟩) l1];exact c1,by rw[kk.cell (p:=⟨b2,0,none⟩) l2];exact c2⟩)
 obtain⟨bv,sv,tv,rv,lv,h1,h2,-⟩:=h.ex
 obtain⟨pb,cb,rfl⟩:=ai h2
 have hlR:=h1.lt
 have e2:w.cell? ⟨bR,2,none⟩=some (.slice pb x.begins.length cb):=h1.cell 2
 have HS:Hid (∀W B,Below w.heap.size w W→W.cell? ⟨B,0,none⟩=some (.int .u64 (fa again (x.inOf y)))→W.cell? ⟨b2,0,none⟩=some (ak bR)∧W.cell? ⟨bR,2,none⟩=some (.slice pb x.begins.length cb)∧Calls Tryz.prog 188 #[.int .u64 (cj (aC x.begins.length)),.func (.func 189) #[] #[.pointer (some ⟨b2,0,none⟩),.pointer (some ⟨B,0,none⟩)]] W fun r w'=>r=.returned (.int .u64 (x.twiceRule again y))∧Below w.heap.size w w'):=fun W B k cB=>by
  have d2:W.cell? ⟨b2,0,none⟩=some (ak bR):=by rw[k.cell (p:=⟨b2,0,none⟩) l2];exact c2
  refine⟨d2,by rw[k.cell (p:=⟨bR,2,none⟩) hlR];exact e2,?_⟩
  refine(oG (cj (aC x.begins.length)) (gP _) (fun f=>decide (1< x.entriesOf f (fa again (x.inOf y)))) 189 #[] _ W (Nat.lt_of_lt_of_le hg k.size) (hT.below k) (fun z W' k'=>?_) lC).mono (fun r w' hh=>⟨hh.1,k.trans (hh.2.mono k.size)⟩)
  exact zq ((h.keep k).keep k') sp (Nat.lt_of_lt_of_le (Nat.lt_of_lt_of_le hg k.size) k'.size) ((hT.below k).below k') z.1 (by rw[k'.cell (p:=⟨b2,0,none⟩) (ah d2)];exact d2) (by rw[k'.cell (p:=⟨B,0,none⟩) (ah cB)];exact cB)
 clear h h1 h2 ok sp hT e2
 go_enter Tryz.func186,Tryz.ntmps186
 go_wp2_with fail
 go_region_held3 (fun w'=>w'.cell? ⟨b1,0,none⟩=some (.int .u64 again)∧w'.cell? ⟨b2,0,none⟩=some (ak bR)) (first|exact⟨e1,e2⟩|go_keep|exact⟨by rw[World.cell?_setCell_other _ _ _ _ (by simp<;>omega)];first|exact e1|go_keep,by rw[World.cell?_setCell_other _ _ _ _ (by simp<;>omega)];first|exact e2|go_keep⟩) (first|(go_at_call 111;refine(HI.out _ (by first|exact(Below.refl _ _).drew|exact((Below.refl _ _).drew).alloc (Nat.le_refl _) _|exact((Below.refl _ _).alloc (Nat.le_refl _) _).drew)).mono ?_;rintro q w1 ⟨rfl,hb1,e1,e2⟩;have HB1:=aa hb1;have hz1:=hb1.size;obtain⟨hcc,hff⟩:=wK hb1;simp at hz1;clear hb1))
 ·obtain⟨W1,hW1⟩:∃W,W=w1.alloc (.cells #[.int .u64 (fa again (x.inOf y))] 199):=⟨_,rfl⟩
  obtain⟨d2,d3,HC⟩:=HS.out W1 w1.heap.size (by rw[hW1];exact(⟨HB1.out.os,HB1.out.tape,HB1.out.output,HB1.out.size,HB1.out.block⟩:Below w.heap.size w w1).alloc HB1.out.size _) (by rw[hW1];exact(Boxed.new _ _ _).cell)
  rw[←hW1]
  clear hW1
  replace HC:=aa HC
  go_wp2_with (go_at_call 187;refine(jw _ hn _).mono ?_;rintro q wq ⟨rfl,hq⟩;subst wq)
  refine HC.out.mono ?_
  rintro q w3 ⟨rfl,hb3⟩
  replace hb3:=aa hb3
  go_wp2_with fail
  go_ret
  exact⟨rfl,hb3.out⟩
 ·obtain⟨W1,hW1⟩:∃W,W=w1.setCell ⟨w.heap.size,0,none⟩ (.int .u64 (fa again (x.inOf y))):=⟨_,rfl⟩
  have hlt:w.heap.size< w1.heap.size:=by omega
  obtain⟨d2,d3,HC⟩:=HS.out W1 w.heap.size (by rw[hW1];exact Below.setCell (p:=⟨w.heap.size,0,none⟩) (⟨HB1.out.os,HB1.out.tape,HB1.out.output,by have:=HB1.out.size;simp at this;omega,fun k hk=>(HB1.out.block k (by simp;omega)).trans (Below.heap_alloc _ _ _ hk)⟩:Below w.heap.size w w1) (Nat.le_refl _) _) (by rw[hW1];exact World.cell?_setCell_same _ _ _ (by rw[hcc _ _ (by simp)];exact(Boxed.new _ _ _).cell))
  rw[←hW1]
  clear hW1
  replace HC:=aa HC
  go_wp2_with (go_at_call 187;refine(jw _ hn _).mono ?_;rintro q wq ⟨rfl,hq⟩;subst wq)
  refine HC.out.mono ?_
  rintro q w3 ⟨rfl,hb3⟩
  replace hb3:=aa hb3
  go_wp2_with fail
  go_ret
  exact⟨rfl,hb3.out⟩
end
section
set_option maxRecDepth 100000
set_option maxHeartbeats 1000000
open Go.RowKit Go.Shelf
namespace Rp
def enteredO(x:Rp)(again:Nat):Option Nat:=fN (x.twiceRule again) 70 0
end Rp
theorem vC{w:World}{bR again R:Nat}{x:Rp}(h:aP w bR x)(ok:ei x)(sp:ci x)(hg:0< w.heap.size)(hT:Tz w)(hn:x.begins.length< 64)(hR:x.enteredO again=some R):
  Calls Tryz.prog 133 #[ak bR,.int .u64 again] w fun r w'=>r=.returned (.int .u64 R)∧Below w.heap.size w w':=by
 obtain⟨W0,hW0⟩:∃W,W=(w.alloc (.cells #[ak bR] 163)).alloc (.cells #[.int .u64 again] 199):=⟨_,rfl⟩
 have hb0:Below w.heap.size w W0:=by rw[hW0];exact((Below.refl _ _).alloc (Nat.le_refl _) _).alloc (by simp) _
 have bP:Boxed W0 w.heap.size 163 (ak bR):=by rw[hW0];exact(Boxed.new _ _ _).alloc _
 have bA:Boxed W0 (w.heap.size+1) 199 (.int .u64 again):=by rw[hW0];have:=Boxed.new (w.alloc (.cells #[ak bR] 163)) 199 (.int .u64 again);rw[World.size_alloc]at this;exact this
 have H1:=aa (lY 0 R 70 (x.twiceRule again) 186 #[] #[.pointer (some ⟨w.heap.size+1,0,none⟩),.pointer (some ⟨w.heap.size,0,none⟩)] W0 hR (fun y W k=>AU ((h.keep hb0).keep k) ok sp (Nat.lt_of_lt_of_le (Nat.lt_of_lt_of_le hg hb0.size) k.size) ((hT.below hb0).below k) hn y (am bA k).cell (am bP k).cell) mP)
 have HB0:=aa hb0
 have HW0:=aa hW0
 clear h ok sp hT bP bA hb0 hW0 hR
 go_enter Tryz.func133,Tryz.ntmps133
 go_wp2_with fail
 rw[←HW0.out]
 refine H1.out.mono ?_
 rintro r w1 ⟨rfl,hb⟩
 replace hb:=aa hb
 go_wp2_with fail
 go_ret
 exact⟨rfl,HB0.out.trans (hb.out.mono HB0.out.size)⟩
theorem aP.start{w:World}{bR:Nat}{x:Rp}(h:aP w bR x){k:Nat}(hk:k< x.starts.length):∃g c,w.cell? ⟨bR,4,none⟩=some (.slice (some ⟨g,0,none⟩) x.starts.length c)∧w.cell? ⟨g,k,none⟩=some (.int .i64 (x.starts.getD k 0)):=by
 obtain⟨bv,sv,tv,rv,lv,h1,h2,h3,h4,-⟩:=h.ex
 obtain⟨g,c,e⟩:=aG h4 (by omega)
 subst e
 refine⟨g,c,h1.cell 4,?_⟩
 rw[h4.cellAt _ (by omega)]
 simp[bV,hk]
theorem ny:∀args w,(callFunc 136 args).run Tryz.prog w=.ok (.enter 136 args) w:=enters_of Tryz.func136 (by kernel_rfl) rfl
theorem lD:∀args w,(callFunc 132 args).run Tryz.prog w=.ok (.enter 132 args) w:=enters_of Tryz.func132 (by kernel_rfl) rfl
theorem BK{w:World}{bR b1 b2 b3 again ent k v:Nat}{x:Rp}(h:aP w bR x)(ok:ei x)(hk:k< x.starts.length)(hv:x.starts.getD k 0=v)(hs:v< x.stmts.length)(c1:w.cell? ⟨b1,0,none⟩=some (ak bR))(c2:w.cell? ⟨b2,0,none⟩=some (.int .u64 again))(c3:w.cell? ⟨b3,0,none⟩=some (.int .u64 ent)):
  Calls Tryz.prog 136 #[.int .i64 k,.pointer (some ⟨b1,0,none⟩),.pointer (some ⟨b2,0,none⟩),.pointer (some ⟨b3,0,none⟩)] w fun r w'=>r=.returned (.bool (dB again v||dB ent (x.st v).fn))∧Below w.heap.size w w':=by
 obtain⟨g,c,d0,d1⟩:=h.start hk
 rw[hv]at d1
 have d1':w.cell? ⟨g,k*1,none⟩=some (.int .i64 v):=by rw[Nat.mul_one];exact d1
 have HF:∀j,Hid (Calls Tryz.prog 139 #[ak bR,.int .i64 v] (w.drewN j) fun r w'=>r=.returned (.int .i64 (x.st v).fn)∧w'=w.drewN j):=fun j=>gT (h.keep (az (Below.refl _ _) j)) hs
 have hl:(x.st v).fn< 64:=by have:=(ok.st v hs).1;omega
 have hl2:v< 64:=by have:=ok.len;omega
 clear h ok hv
 cases ha:dB again v
 ·have HH:∀w,Hid (Calls Tryz.prog 137 #[.int .u64 again,.int .i64 v] w fun r w'=>r=.returned (.bool false)∧w'=w):=fun w=>by rw[←ha];exact jh again v hl2 w
  clear ha
  go_enter Tryz.func136,Tryz.ntmps136
  go_wp2_with fail
  go_quiet ((first|(go_at_call 139;exact Calls.quiet_of_same (HF _).out)|(go_at_call 137;exact Calls.quiet_of_same (HH _).out)|(go_at_call 138;exact Calls.quiet_of_same (gA _ _ hl _))))
  go_wp2_with fail
  go_ret
  exact⟨by simp,az (Below.refl _ _) _⟩
 ·have HH:∀w,Hid (Calls Tryz.prog 137 #[.int .u64 again,.int .i64 v] w fun r w'=>r=.returned (.bool true)∧w'=w):=fun w=>by rw[←ha];exact jh again v hl2 w
  clear ha
  go_enter Tryz.func136,Tryz.ntmps136
  go_wp2_with fail
  go_quiet ((first|(go_at_call 139;exact Calls.quiet_of_same (HF _).out)|(go_at_call 137;exact Calls.quiet_of_same (HH _).out)|(go_at_call 138;exact Calls.quiet_of_same (gA _ _ hl _))))
  go_wp2_with fail
  go_ret
  exact⟨by simp,az (Below.refl _ _) _⟩
end
end Go.Proofs.YtmdaflepdaiabaaGreatDoor
