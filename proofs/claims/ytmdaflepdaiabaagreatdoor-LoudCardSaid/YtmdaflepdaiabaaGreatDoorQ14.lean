import Derived.Test.YtmdaflepdaiabaaGreatDoorQ13
set_option linter.unusedSimpArgs false
set_option linter.unusedVariables false
namespace Go.Proofs.YtmdaflepdaiabaaGreatDoor
section
set_option maxRecDepth 100000
set_option maxHeartbeats 2000000
open Go.RowKit Go.Shelf
theorem ia{n k:Nat}(hn:n< 64)(h:(cj (aC n)).testBit k=true):k< n:=by
 have e:cj (aC n)=2^n-1:=by
  rw[oD hn]
  unfold cj
  have h1:1≤2^n:=Nat.one_le_two_pow
  have h2:2^n≤2^63:=Nat.pow_le_pow_right (by decide) (by omega)
  have e2:2^n+(bI-1)=(2^n-1)+bI:=by unfold bI;omega
  rw[e2,Nat.add_mod_right,Nat.mod_eq_of_lt]
  unfold bI
  omega
 rw[e,Nat.testBit_two_pow_sub_one]at h
 simpa using h
namespace Rp
def againOf(x:Rp)(s:Nat):Bool:=match bK x.nextOf 70 (x.nextOf s) (x.nextOf s)with|some R=>dB R s|none=>false
def againS(x:Rp):Nat:=fK x.spots x.againOf
def twiceOf(x:Rp)(ent:Nat):Nat:=fK (cj (aC x.starts.length)) (fun k=>dB x.againS (x.starts.getD k 0)||dB ent (x.st (x.starts.getD k 0)).fn)
end Rp
structure jH(x:Rp):Prop where
 ag:∀s,s< 64→x.spots.testBit s=true→x.nextOf s< bI∧∃R,bK x.nextOf 70 (x.nextOf s) (x.nextOf s)=some R∧∀i,i< 64→R.testBit i=true→i< x.stmts.length
 st:∀k,k< x.starts.length→x.starts.getD k 0< x.stmts.length
theorem pY{w:World}{bR ent:Nat}{x:Rp}(h:aP w bR x)(ok:ei x)(sp:ci x)(ag:jH x)(hg:0< w.heap.size)(hT:Tz w)(hn:x.begins.length< 64)(hm:x.starts.length< 64)(hR:x.enteredO x.againS=some ent):
  Calls Tryz.prog 91 #[ak bR] w fun r w'=>r=.returned (.int .u64 (x.twiceOf ent))∧Below w.heap.size w w':=by
 obtain⟨bv,sv,tv,rv,lv,h1,-⟩:=h.ex
 have c5:w.cell? ⟨bR,5,none⟩=some (.int .u64 x.spots):=h1.cell 5
 have hl:=h1.lt
 obtain⟨W0,hW0⟩:∃W,W=w.alloc (.cells #[ak bR] 163):=⟨_,rfl⟩
 have hb0:Below w.heap.size w W0:=by rw[hW0];exact(Below.refl _ _).alloc (Nat.le_refl _) _
 have hz0:w.heap.size< W0.heap.size:=by rw[hW0];simp
 have bP:Boxed W0 w.heap.size 163 (ak bR):=by rw[hW0];exact Boxed.new _ _ _
 have e0:=bP.cell
 have e5:W0.cell? ⟨bR,5,none⟩=some (.int .u64 x.spots):=by rw[hb0.cell (p:=⟨bR,5,none⟩) hl];exact c5
 have H1:Hid (∀W,Below W0.heap.size W0 W→Calls Tryz.prog 131 #[.int .u64 x.spots,.func (.func 132) #[ak bR] #[]] W fun r w'=>r=.returned (.int .u64 x.againS)∧Below W.heap.size W w'∧w'.cell? ⟨w.heap.size,0,none⟩=some (ak bR)∧w'.cell? ⟨bR,5,none⟩=some (.int .u64 x.spots)):=fun W k=>by
  have k0:=hb0.trans (k.mono hb0.size)
  refine(lT x.spots sp.lt x.againOf 132 #[ak bR] #[] W (Nat.lt_of_lt_of_le hg k0.size) (hT.below k0) (fun y W' k'=>?_) lD).mono (fun r w' hh=>⟨hh.1,hh.2,(am (am bP k) hh.2).cell,by rw[hh.2.cell (p:=⟨bR,5,none⟩) (Nat.lt_of_lt_of_le hl k0.size),k0.cell (p:=⟨bR,5,none⟩) hl];exact c5⟩)
  obtain⟨a1,R,a2,a3⟩:=ag.ag y.1 y.2.1 y.2.2
  have ea:x.againOf y.1=dB R y.1:=by unfold Rp.againOf;rw[a2]
  rw[ea]
  exact qd ((h.keep k0).keep k') ok (Nat.lt_of_lt_of_le (Nat.lt_of_lt_of_le hg k0.size) k'.size) ((hT.below k0).below k') (sp.mem y.1 y.2.1 y.2.2) ⟨70,a2⟩ a1 a3
 have HT:Hid (∀W B1,Below w.heap.size w W→W.cell? ⟨w.heap.size,0,none⟩=some (ak bR)→W.cell? ⟨B1,0,none⟩=some (.int .u64 x.againS)→Calls Tryz.prog 133 #[ak bR,.int .u64 x.againS] W fun r w'=>r=.returned (.int .u64 ent)∧Below W.heap.size W w'∧w'.cell? ⟨w.heap.size,0,none⟩=some (ak bR)∧w'.cell? ⟨B1,0,none⟩=some (.int .u64 x.againS)):=fun W B1 k g1 g2=>(vC (h.keep k) ok sp (Nat.lt_of_lt_of_le hg k.size) (hT.below k) hn hR).mono (fun r w' hh=>⟨hh.1,hh.2,by rw[hh.2.cell (p:=⟨w.heap.size,0,none⟩) (ah g1)];exact g1,by rw[hh.2.cell (p:=⟨B1,0,none⟩) (ah g2)];exact g2⟩)
 have HZ:Hid (∀W B1 B2,Below w.heap.size w W→W.cell? ⟨w.heap.size,0,none⟩=some (ak bR)→W.cell? ⟨B1,0,none⟩=some (.int .u64 x.againS)→W.cell? ⟨B2,0,none⟩=some (.int .u64 ent)→Calls Tryz.prog 134 #[ak bR] W (fun r w'=>r=.returned (.int .u64 (cj (aC x.starts.length)))∧w'=W)∧Calls Tryz.prog 135 #[.int .u64 (cj (aC x.starts.length)),.func (.func 136) #[] #[.pointer (some ⟨w.heap.size,0,none⟩),.pointer (some ⟨B1,0,none⟩),.pointer (some ⟨B2,0,none⟩)]] W fun r w'=>r=.returned (.int .u64 (x.twiceOf ent))∧Below w.heap.size w w'):=fun W B1 B2 k g1 g2 g3=>by
  refine⟨ip (h.keep k) hm,(nP _ (gP _) (fun j=>dB x.againS (x.starts.getD j 0)||dB ent (x.st (x.starts.getD j 0)).fn) 136 #[] _ W (Nat.lt_of_lt_of_le hg k.size) (hT.below k) (fun y W' k'=>?_) ny).mono (fun r w' hh=>⟨hh.1,k.trans (hh.2.mono k.size)⟩)⟩
  have hy:=ia hm y.2.2
  exact BK ((h.keep k).keep k') ok hy rfl (ag.st _ hy) (by rw[k'.cell (p:=⟨w.heap.size,0,none⟩) (ah g1)];exact g1) (by rw[k'.cell (p:=⟨B1,0,none⟩) (ah g2)];exact g2) (by rw[k'.cell (p:=⟨B2,0,none⟩) (ah g3)];exact g3)
 have HB0:=aa hb0
 have HW0:=aa hW0
 clear h h1 ok sp ag hT bP hb0 hW0 hR c5
 go_enter Tryz.func91,Tryz.ntmps91
 go_wp2_with fail
 rw[←HW0.out]
 clear HW0
 go_region_held3 (fun w'=>w'.cell? ⟨w.heap.size,0,none⟩=some (ak bR)∧w'.cell? ⟨bR,5,none⟩=some (.int .u64 x.spots)) (first|exact⟨e1,e2⟩|go_keep|exact⟨by rw[World.cell?_setCell_other _ _ _ _ (by simp<;>omega)];first|exact e1|go_keep,by rw[World.cell?_setCell_other _ _ _ _ (by simp<;>omega)];first|exact e2|go_keep⟩) (first|(go_at_call 131;refine(H1.out _ (by first|exact(Below.refl _ _).drew|exact((Below.refl _ _).drew).alloc (Nat.le_refl _) _|exact((Below.refl _ _).alloc (Nat.le_refl _) _).drew)).mono ?_;rintro q w1 ⟨rfl,hb1,e1,e2⟩;have HB1:=aa hb1;have hz1:=hb1.size;obtain⟨hcc,hff⟩:=wK hb1;simp at hz1;clear hb1))
 ·obtain⟨W1,hW1⟩:∃W,W=w1.alloc (.cells #[.int .u64 x.againS] 199):=⟨_,rfl⟩
  obtain⟨B1,hB1⟩:∃B,B=w1.heap.size:=⟨_,rfl⟩
  have k1:Below w.heap.size w W1:=by rw[hW1];exact(HB0.out.trans (⟨HB1.out.os,HB1.out.tape,HB1.out.output,HB1.out.size,fun i hi=>HB1.out.block i (by show i< W0.heap.size;omega)⟩:Below w.heap.size W0 w1)).alloc (by have:=HB1.out.size;simp at this;omega) _
  have g1:W1.cell? ⟨w.heap.size,0,none⟩=some (ak bR):=by rw[hW1,((Below.refl w1.heap.size w1).alloc (Nat.le_refl _) _).cell (p:=⟨w.heap.size,0,none⟩) (ah e1)];exact e1
  have g2:W1.cell? ⟨B1,0,none⟩=some (.int .u64 x.againS):=by rw[hW1,hB1];exact(Boxed.new _ _ _).cell
  rw[←hB1]
  clear hB1
  have HC:=aa (HT.out W1 B1 k1 g1 g2)
  have K1:=aa k1
  rw[←hW1]
  clear hW1 k1
  go_wp2_with fail
  refine HC.out.mono ?_
  rintro q w2 ⟨rfl,hb2,f1,f2⟩
  have k2:Below w.heap.size w (w2.alloc (.cells #[.int .u64 ent] 252)):=(K1.out.trans (hb2.mono K1.out.size)).alloc (Nat.le_trans K1.out.size hb2.size) _
  have a1:(w2.alloc (.cells #[.int .u64 ent] 252)).cell? ⟨w.heap.size,0,none⟩=some (ak bR):=by rw[((Below.refl w2.heap.size w2).alloc (Nat.le_refl _) _).cell (p:=⟨w.heap.size,0,none⟩) (ah f1)];exact f1
  have a2:(w2.alloc (.cells #[.int .u64 ent] 252)).cell? ⟨B1,0,none⟩=some (.int .u64 x.againS):=by rw[((Below.refl w2.heap.size w2).alloc (Nat.le_refl _) _).cell (p:=⟨B1,0,none⟩) (ah f2)];exact f2
  have HA:=aa (HZ.out _ B1 w2.heap.size k2 a1 a2 (Boxed.new w2 _ _).cell)
  clear hb2 k2 a2
  go_wp2_with fail
  refine HA.out.1.mono ?_
  rintro q wq ⟨rfl,hq⟩
  subst wq
  go_wp2_with fail
  refine HA.out.2.mono ?_
  rintro q w3 ⟨rfl,hb3⟩
  replace hb3:=aa hb3
  go_wp2_with fail
  go_ret
  exact⟨rfl,hb3.out⟩
 ·obtain⟨W1,hW1⟩:∃W,W=w1.setCell ⟨W0.heap.size,0,none⟩ (.int .u64 x.againS):=⟨_,rfl⟩
  obtain⟨B1,hB1⟩:∃B,B=W0.heap.size:=⟨_,rfl⟩
  have k1:Below w.heap.size w W1:=by rw[hW1];exact Below.setCell (p:=⟨W0.heap.size,0,none⟩) (HB0.out.trans (⟨HB1.out.os,HB1.out.tape,HB1.out.output,by have:=HB1.out.size;simp at this;omega,fun i hi=>(HB1.out.block i (by simp;omega)).trans (Below.heap_alloc _ _ _ (by omega))⟩:Below w.heap.size W0 w1)) (by show w.heap.size≤W0.heap.size;omega) _
  have g1:W1.cell? ⟨w.heap.size,0,none⟩=some (ak bR):=by rw[hW1,World.cell?_setCell_other _ _ _ _ (by simp<;>omega)];exact e1
  have g2:W1.cell? ⟨B1,0,none⟩=some (.int .u64 x.againS):=by rw[hW1,hB1];exact World.cell?_setCell_same _ _ _ (by rw[hcc _ _ (by simp)];exact(Boxed.new _ _ _).cell)
  rw[←hB1]at hW1⊢
  clear hB1
  have HC:=aa (HT.out W1 B1 k1 g1 g2)
  have K1:=aa k1
  rw[←hW1]
  clear hW1 k1
  go_wp2_with fail
  refine HC.out.mono ?_
  rintro q w2 ⟨rfl,hb2,f1,f2⟩
  have k2:Below w.heap.size w (w2.alloc (.cells #[.int .u64 ent] 252)):=(K1.out.trans (hb2.mono K1.out.size)).alloc (Nat.le_trans K1.out.size hb2.size) _
  have a1:(w2.alloc (.cells #[.int .u64 ent] 252)).cell? ⟨w.heap.size,0,none⟩=some (ak bR):=by rw[((Below.refl w2.heap.size w2).alloc (Nat.le_refl _) _).cell (p:=⟨w.heap.size,0,none⟩) (ah f1)];exact f1
  have a2:(w2.alloc (.cells #[.int .u64 ent] 252)).cell? ⟨B1,0,none⟩=some (.int .u64 x.againS):=by rw[((Below.refl w2.heap.size w2).alloc (Nat.le_refl _) _).cell (p:=⟨B1,0,none⟩) (ah f2)];exact f2
  have HA:=aa (HZ.out _ B1 w2.heap.size k2 a1 a2 (Boxed.new w2 _ _).cell)
  clear hb2 k2 a2
  go_wp2_with fail
  refine HA.out.1.mono ?_
  rintro q wq ⟨rfl,hq⟩
  subst wq
  go_wp2_with fail
  refine HA.out.2.mono ?_
  rintro q w3 ⟨rfl,hb3⟩
  replace hb3:=aa hb3
  go_wp2_with fail
  go_ret
  exact⟨rfl,hb3.out⟩
 ·obtain⟨W1,hW1⟩:∃W,W=w1.setCell ⟨W0.heap.size,0,none⟩ (.int .u64 x.againS):=⟨_,rfl⟩
  obtain⟨B1,hB1⟩:∃B,B=W0.heap.size:=⟨_,rfl⟩
  have k1:Below w.heap.size w W1:=by rw[hW1];exact Below.setCell (p:=⟨W0.heap.size,0,none⟩) (HB0.out.trans (⟨HB1.out.os,HB1.out.tape,HB1.out.output,by have:=HB1.out.size;simp at this;omega,fun i hi=>(HB1.out.block i (by simp;omega)).trans (Below.heap_alloc _ _ _ (by omega))⟩:Below w.heap.size W0 w1)) (by show w.heap.size≤W0.heap.size;omega) _
  have g1:W1.cell? ⟨w.heap.size,0,none⟩=some (ak bR):=by rw[hW1,World.cell?_setCell_other _ _ _ _ (by simp<;>omega)];exact e1
  have g2:W1.cell? ⟨B1,0,none⟩=some (.int .u64 x.againS):=by rw[hW1,hB1];exact World.cell?_setCell_same _ _ _ (by rw[hcc _ _ (by simp)];exact(Boxed.new _ _ _).cell)
  rw[←hB1]at hW1⊢
  clear hB1
  have HC:=aa (HT.out W1 B1 k1 g1 g2)
  have K1:=aa k1
  rw[←hW1]
  clear hW1 k1
  go_wp2_with fail
  refine HC.out.mono ?_
  rintro q w2 ⟨rfl,hb2,f1,f2⟩
  have k2:Below w.heap.size w (w2.alloc (.cells #[.int .u64 ent] 252)):=(K1.out.trans (hb2.mono K1.out.size)).alloc (Nat.le_trans K1.out.size hb2.size) _
  have a1:(w2.alloc (.cells #[.int .u64 ent] 252)).cell? ⟨w.heap.size,0,none⟩=some (ak bR):=by rw[((Below.refl w2.heap.size w2).alloc (Nat.le_refl _) _).cell (p:=⟨w.heap.size,0,none⟩) (ah f1)];exact f1
  have a2:(w2.alloc (.cells #[.int .u64 ent] 252)).cell? ⟨B1,0,none⟩=some (.int .u64 x.againS):=by rw[((Below.refl w2.heap.size w2).alloc (Nat.le_refl _) _).cell (p:=⟨B1,0,none⟩) (ah f2)];exact f2
  have HA:=aa (HZ.out _ B1 w2.heap.size k2 a1 a2 (Boxed.new w2 _ _).cell)
  clear hb2 k2 a2
  go_wp2_with fail
  refine HA.out.1.mono ?_
  rintro q wq ⟨rfl,hq⟩
  subst wq
  go_wp2_with fail
  refine HA.out.2.mono ?_
  rintro q w3 ⟨rfl,hb3⟩
  replace hb3:=aa hb3
  go_wp2_with fail
  go_ret
  exact⟨rfl,hb3.out⟩
end
section
set_option maxRecDepth 100000
set_option maxHeartbeats 4000000
open Go.RowKit Go.Shelf
attribute [local go_sem] Oper.semAt_some
namespace Rp
def wholeNext(x:Rp)(f:Nat):Nat:=(els (x.inOf (aC f))).foldl (fun a s=>if x.isCall s then fa a (aC (x.st s).p.nn)else a) 0
end Rp
def uZ(x:Rp)(f:Nat)(l:List (El (x.inOf (aC f)))):Nat:=l.foldl (fun a s=>if x.isCall s.1 then fa a (aC (x.st s.1).p.nn)else a) 0
theorem uY(x:Rp)(f:Nat)(l:List (El (x.inOf (aC f))))(s:El (x.inOf (aC f))):uZ x f (l++[s])=if x.isCall s.1 then fa (uZ x f l) (aC (x.st s.1).p.nn)else uZ x f l:=by
 unfold uZ;rw[List.foldl_append];rfl
theorem xp(x:Rp)(f:Nat):uZ x f (jZ _)=x.wholeNext f:=by
 unfold uZ Rp.wholeNext
 conv=>rhs;rw[←cF,List.foldl_map]
theorem qD{x:Rp}(sp:ci x){fs i:Nat}(hi:i< 64)(h:(x.inOf fs).testBit i=true):i< x.stmts.length:=sp.mem i hi (kr hi h).1
theorem tc{F:Fence}{n:Nat}{P:Program}{c:Code}{K:Act→World→Prop}{Q:Exit→Act→World→Prop}{a:Act}{w:World}(h:c.wpIn F n P (Exit.then K (fun _ _ _=>False)) a w):c.wpIn F n P (Exit.then K Q) a w:=
 Code.wpIn_mono (by
  intro e a w h
  cases e<;>first|exact h|exact h.elim) h
theorem nv:∀args w,(callFunc 194 args).run Tryz.prog w=.ok (.enter 194 args) w:=enters_of Tryz.func194 (by kernel_rfl) rfl
theorem xD{w:World}{bR b1 f:Nat}{x:Rp}(h:aP w bR x)(ok:ei x)(sp:ci x)(hg:0< w.heap.size)(hT:Tz w)(hf:f< 64)(hnn:∀s,s< x.stmts.length→x.isCall s=true→(x.st s).p.nn< 64)(c1:w.cell? ⟨b1,0,none⟩=some (ak bR)):
  Calls Tryz.prog 194 #[.int .i64 f,.pointer (some ⟨b1,0,none⟩)] w fun r w'=>r=.returned (.int .u64 (x.wholeNext f))∧Below w.heap.size w w':=by
 refine(callsIn_wide (n:=3)).1 ?_
 refine callsIn_of_wp_marks Tryz.func194 rfl trivial ?_ rfl
 simp only[Tryz.ntmps194,List.size_toArray,List.length_cons,List.length_nil,Nat.reduceAdd,Nat.reduceSub,Array.replicate_succ,Array.replicate_zero,List.push_toArray,List.append_toArray,List.nil_append,List.cons_append]
 have l1:b1< w.heap.size:=ah c1
 obtain⟨W0,hW0⟩:∃W,W=w.alloc (.cells #[.int .u64 0] 252):=⟨_,rfl⟩
 have hb0:Below w.heap.size w W0:=by rw[hW0];exact(Below.refl _ _).alloc (Nat.le_refl _) _
 have bC:Boxed W0 w.heap.size 252 (.int .u64 0):=by rw[hW0];exact Boxed.new _ _ _
 have e1:W0.cell? ⟨b1,0,none⟩=some (ak bR):=by rw[hb0.cell (p:=⟨b1,0,none⟩) l1];exact c1
 have HIn:Hid (Calls Tryz.prog 111 #[ak bR,.int .u64 (aC f)] W0.drew fun r w'=>r=.returned (.int .u64 (x.inOf (aC f)))∧Below W0.heap.size W0 w'):=by
  have k:Below w.heap.size w W0.drew:=hb0.drew
  exact(AT (h.keep k) ok sp (Nat.lt_of_lt_of_le hg k.size) (hT.below k) (aC f)).mono (fun r w' hh=>⟨hh.1,⟨hh.2.os,hh.2.tape,hh.2.output,hh.2.size,hh.2.block⟩⟩)
 have hmx:Tryz.prog.follows .mixedOrders=true:=by kernel_rfl
 have HW0:=aa hW0
 have HB0:=aa hb0
 have HH:=aa h
 clear hW0 hb0 h
 gi_wp2
 rw[←HW0.out]
 refine tc ?_
 gi_region_with_o (first|(refine⟨trivial,?_⟩;gi_at_call 192;refine(callsIn_wide.2 (dZ f hf _)).mono ?_;rintro e w' ⟨rfl,hq⟩;subst w')|(refine⟨trivial,?_⟩;gi_at_call 111;refine(callsIn_wide.2 HIn.out).mono ?_;rintro e W1 ⟨rfl,hb1⟩;have HB1:=aa hb1;clear hb1)|(refine⟨trivial,?_⟩;gi_at_call 96;refine(eI _ _ _).mono ?_;rintro e w' ⟨rfl,hq⟩;subst w'))
 all_goals
  have HBa:Hid (Below w.heap.size w W1):=HB0.out.trans (HB1.out.mono HB0.out.size)
  have bC1:=am bC HB1.out
  have HS2:=aa HBa.out.size
  obtain⟨W2,hW2⟩:∃W,W=W1.alloc (.cells #[.int .u64 (x.inOf (aC f))] 199):=⟨_,rfl⟩
  have bA:Boxed W2 W1.heap.size 199 (.int .u64 (x.inOf (aC f))):=by rw[hW2];exact Boxed.new _ _ _
  have bC2:Boxed W2 w.heap.size 252 (.int .u64 0):=by rw[hW2];exact bC1.alloc _
  have hB2:Below w.heap.size w W2:=by rw[hW2];exact HBa.out.alloc HBa.out.size _
  have hz2:W2.heap.size=W1.heap.size+1:=by rw[hW2];exact World.size_alloc ..
  have hz1:w.heap.size< W1.heap.size:=bC1.lt
  rw[←hW2]
  clear hW2
  have HB2:=aa hB2
  have HH2:=aa (HH.out.keep (w':=W2))
  clear hB2
  gi_wp2
  refine wpIn_rangeFunc_ownG rfl (by decide) (gf:=147) (lb:=#[.pointer (some ⟨W1.heap.size,0,none⟩)]) rfl trivial (enters_of Tryz.func147 (by kernel_rfl) rfl)
   (dr 2 (by decide) W1.heap.size w.heap.size (x.inOf (aC f)) (jK _ _) _ (by omega) (by omega) hg bA.cell (hT.below HB2.out)) belowK_t (belowK_b (by omega)) (Below.refl _ _) (fun _=>rfl)
   (fun pre W=>Boxed W w.heap.size 252 (.int .u64 (uZ x f pre))∧Below w.heap.size w W)
   (fun _ _ _=>False)
   (OwnFrom.and (Own.from (boxed_own _ _ _) _) (ownFrom_below (Nat.le_refl _) (by omega)))
   (fun _ _ _ _ _ hs _ _=>hs)
   ⟨bC2,HB2.out⟩
   (fun z=>{tmps:=#[.int .i64 f,.pointer (some ⟨b1,0,none⟩),undef,.int .u64 0,.pointer (some ⟨w.heap.size,0,none⟩),.int .i64 z.1,undef,undef,ak bR,.int .i64 f,.int .u64 (aC f),.int .u64 (x.inOf (aC f)),.func (.func 147) #[] #[.pointer (some ⟨W1.heap.size,0,none⟩)],.int .i64 z.1,undef,undef,undef,undef,undef,undef,undef,undef,undef,undef,undef,undef],defers:=[]}) ?assign ?body ?done ?stop
  case assign=>
   intro l z W K hK
   gi_wp2
   exact hK
  case body=>
   rintro l pre z W ⟨b1',hB⟩ hlt
   have hz:=qD sp z.2.1 z.2.2
   have c1':W.cell? ⟨b1,0,none⟩=some (ak bR):=by rw[hB.cell (p:=⟨b1,0,none⟩) l1];exact c1
   have HC:=aa (jf (HH.out.keep hB) hz)
   have r1:=cG
   gi_wp2
   refine⟨trivial,?_⟩
   refine(CallsIn.inRound l (callsIn_wide.2 HC.out)).mono ?_
   rintro e W3 ⟨rfl,hb3⟩
   have b3:=am b1' hb3
   have hc3:=b3.cell
   have hf3:=b3.frozen
   have HB3:=aa hb3
   have HB:=aa hB
   have HN:=aa (uY x f pre z)
   have h3:=hB.size
   have HBX:=aa b3
   clear b1' hb3 hB b3 HC
   cases hp:x.isCall z.1
   ·have HN2:Hid (uZ x f (pre++[z])=uZ x f pre):=by show _=_;rw[HN.out,hp];rfl
    gi_wp2
    exact⟨aB HB3.out,HB3.out.mono h3,by rw[HN2.out];exact HBX.out,HB.out.trans (HB3.out.mono h3)⟩
   ·have HN2:Hid (uZ x f (pre++[z])=fa (uZ x f pre) (aC (x.st z.1).p.nn)):=by show _=_;rw[HN.out,hp];rfl
    have hnz:=hnn z.1 hz hp
    gi_wp2
    gi_region_with_o (refine⟨trivial,?_⟩;gi_at_call 192;refine(CallsIn.inRound l (callsIn_wide.2 (dZ (x.st z.1).p.nn hnz _))).mono ?_;rintro e w' ⟨rfl,hq⟩;subst w')
    all_goals gi_wp2
    all_goals
     refine⟨(aB HB3.out).trans (((KeepsOthers.setCell _ _ _).trans (KeepsOthers.drew _)).from _),?_,by rw[HN2.out];exact HBX.out.set _,?_⟩
     ·exact((HB3.out.mono h3).setCell (p:=⟨w.heap.size,0,none⟩) (by show _≤w.heap.size;omega) _).drew
     ·exact((HB.out.trans (HB3.out.mono h3)).setCell (p:=⟨w.heap.size,0,none⟩) (by show _≤w.heap.size;omega) _).drew
  case done=>
   rintro D ys W hD rfl ⟨b1',hB⟩ hK
   have hc:=b1'.cell
   gi_wp2
   refine⟨by simp,.inl ⟨_,_,rfl,run_takeDeferred hK,?_⟩⟩
   exact⟨_,results_tmp rfl _ _ _,by rw[xp];rfl,hB.trans (belowK_b (w:=w) (Nat.le_refl _) W D _ _ (by omega) hK rfl rfl)⟩
  case stop=>
   rintro D c pre W _ _ h _
   exact h.elim
end
section
set_option maxRecDepth 100000
set_option maxHeartbeats 1000000
open Go.RowKit Go.Shelf
namespace Rp
def wholeO(x:Rp)(f:Nat):Option Nat:=bK x.wholeNext 70 (aC f) (aC f)
def runByOf(x:Rp)(f:Nat):Nat:=fK (cj (aC x.runs.length)) (fun r=>dB (x.runs.getD r 0) f)
end Rp
theorem vx{w:World}{bR f R:Nat}{x:Rp}(h:aP w bR x)(ok:ei x)(sp:ci x)(hg:0< w.heap.size)(hT:Tz w)(hf:f< 64)(hnn:∀s,s< x.stmts.length→x.isCall s=true→(x.st s).p.nn< 64)(hR:x.wholeO f=some R):
  Calls Tryz.prog 140 #[ak bR,.int .i64 f] w fun r w'=>r=.returned (.int .u64 R)∧Below w.heap.size w w':=by
 obtain⟨W0,hW0⟩:∃W,W=w.alloc (.cells #[ak bR] 163):=⟨_,rfl⟩
 have hb0:Below w.heap.size w W0:=by rw[hW0];exact(Below.refl _ _).alloc (Nat.le_refl _) _
 have bP:Boxed W0 w.heap.size 163 (ak bR):=by rw[hW0];exact Boxed.new _ _ _
 have H0:=aa (dZ f hf W0)
 have H1:=aa (mY (aC f) R (xt f) x.wholeNext 194 #[] #[.pointer (some ⟨w.heap.size,0,none⟩)] W0 (Nat.lt_of_lt_of_le hg hb0.size) (hT.below hb0) ⟨70,hR⟩ (fun y W hy _ k=>xD ((h.keep hb0).keep k) ok sp (Nat.lt_of_lt_of_le (Nat.lt_of_lt_of_le hg hb0.size) k.size) ((hT.below hb0).below k) hy hnn (am bP k).cell) nv)
 have HB0:=aa hb0
 have HW0:=aa hW0
 clear h ok sp hT bP hb0 hW0 hR hnn
 go_enter Tryz.func140,Tryz.ntmps140
 go_wp2_with fail
 rw[←HW0.out]
 refine H0.out.mono ?_
 rintro r wq ⟨rfl,hq⟩
 subst wq
 go_wp2_with fail
 refine H1.out.mono ?_
 rintro r w1 ⟨rfl,hb⟩
 replace hb:=aa hb
 go_wp2_with fail
 go_ret
 exact⟨rfl,HB0.out.trans (hb.out.mono HB0.out.size)⟩
theorem aP.run{w:World}{bR:Nat}{x:Rp}(h:aP w bR x){k:Nat}(hk:k< x.runs.length):∃g c,w.cell? ⟨bR,7,none⟩=some (.slice (some ⟨g,0,none⟩) x.runs.length c)∧w.cell? ⟨g,k,none⟩=some (.int .u64 (x.runs.getD k 0)):=by
 obtain⟨bv,sv,tv,rv,lv,h1,h2,h3,h4,h5,-⟩:=h.ex
 obtain⟨g,c,e⟩:=aG h5 (by omega)
 subst e
 refine⟨g,c,h1.cell 7,?_⟩
 rw[h5.cellAt _ (by omega)]
 simp[aH,hk]
theorem nA:∀args w,(callFunc 202 args).run Tryz.prog w=.ok (.enter 202 args) w:=enters_of Tryz.func202 (by kernel_rfl) rfl
theorem xE{w:World}{bR b1 b2 f k:Nat}{x:Rp}(h:aP w bR x)(hk:k< x.runs.length)(hf:f< 64)(c1:w.cell? ⟨b1,0,none⟩=some (ak bR))(c2:w.cell? ⟨b2,0,none⟩=some (.int .i64 f)):
  Calls Tryz.prog 202 #[.int .i64 k,.pointer (some ⟨b1,0,none⟩),.pointer (some ⟨b2,0,none⟩)] w fun r w'=>r=.returned (.bool (dB (x.runs.getD k 0) f))∧Below w.heap.size w w':=by
 obtain⟨g,c,d0,d1⟩:=h.run hk
 obtain⟨v,hv⟩:∃v,v=x.runs.getD k 0:=⟨_,rfl⟩
 rw[←hv]at d1⊢
 have d1':w.cell? ⟨g,k*1,none⟩=some (.int .u64 v):=by rw[Nat.mul_one];exact d1
 clear h hv
 go_enter Tryz.func202,Tryz.ntmps202
 go_wp2_with fail
 go_quiet ((go_at_call 138;exact Calls.quiet_of_same (gA _ _ hf _)))
 go_wp2_with fail
 go_ret
 exact⟨rfl,az (Below.refl _ _) _⟩
theorem zp{w:World}{bR f:Nat}{x:Rp}(h:aP w bR x)(hg:0< w.heap.size)(hT:Tz w)(hf:f< 64)(hn:x.runs.length< 64):
  Calls Tryz.prog 170 #[ak bR,.int .i64 f] w fun r w'=>r=.returned (.int .u64 (x.runByOf f))∧Below w.heap.size w w':=by
 obtain⟨W0,hW0⟩:∃W,W=(w.alloc (.cells #[ak bR] 163)).alloc (.cells #[.int .i64 f] 194):=⟨_,rfl⟩
 have hb0:Below w.heap.size w W0:=by rw[hW0];exact((Below.refl _ _).alloc (Nat.le_refl _) _).alloc (by simp) _
 have bP:Boxed W0 w.heap.size 163 (ak bR):=by rw[hW0];exact(Boxed.new _ _ _).alloc _
 have bF:Boxed W0 (w.heap.size+1) 194 (.int .i64 f):=by rw[hW0];have:=Boxed.new (w.alloc (.cells #[ak bR] 163)) 194 (.int .i64 f);rw[World.size_alloc]at this;exact this
 have h0:=h.keep hb0
 obtain⟨bv,sv,tv,rv,lv,h1,h2,h3,h4,h5,-⟩:=h.ex
 obtain⟨p,c,rfl⟩:=ai h5
 have c7:w.cell? ⟨bR,7,none⟩=some (.slice p x.runs.length c):=h1.cell 7
 have hl:=h1.lt
 have H0:=aa (uP x.runs.length hn W0)
 have H1:=aa (vi (cj (aC x.runs.length)) (gP _) (fun r=>dB (x.runs.getD r 0) f) 202 #[] #[.pointer (some ⟨w.heap.size,0,none⟩),.pointer (some ⟨w.heap.size+1,0,none⟩)] W0 (Nat.lt_of_lt_of_le hg hb0.size) (hT.below hb0) (fun y W k=>xE (h0.keep k) (ia hn y.2.2) hf (am bP k).cell (am bF k).cell) nA)
 have HB0:=aa hb0
 have HW0:=aa hW0
 clear h h0 h1 h2 h3 h4 h5 hT bP bF hb0 hW0
 go_enter Tryz.func170,Tryz.ntmps170
 go_wp2_with fail
 rw[←HW0.out]
 refine H0.out.mono ?_
 rintro r wq ⟨rfl,hq⟩
 subst wq
 go_wp2_with fail
 refine H1.out.mono ?_
 rintro r w1 ⟨rfl,hb⟩
 replace hb:=aa hb
 go_wp2_with fail
 go_ret
 exact⟨rfl,HB0.out.trans (hb.out.mono HB0.out.size)⟩
end
section
set_option maxRecDepth 100000
set_option maxHeartbeats 2000000
open Go.RowKit Go.Shelf
theorem rd:(Tryz.prog.info? 252).map (fun i=>(i.zero,i.size,i.bytes))=some (some (.int .u64 0),1,8):=by kernel_rfl
namespace Rp
def wholeD(x:Rp)(f:Nat):Nat:=(x.wholeO f).getD 0
def runOf(x:Rp)(s:Nat):Nat:=if x.isStart s&&dB x.spots s then x.wholeD (x.st s).p.nn else 0
def runsL(x:Rp):List Nat:=x.wholeD x.main::x.starts.map x.runOf
end Rp
structure qU(x:Rp):Prop where
 wh:∀f,f< x.begins.length→x.wholeO f=some (x.wholeD f)
 nn:∀s,s< x.stmts.length→(x.isCall s||x.isStart s)=true→(x.st s).p.nn< x.begins.length
 main:x.main< x.begins.length
 len:x.begins.length< 64
structure BC(w wr:World)(v:Value)(x:Rp)(k:Nat):Prop where
 own:wr.ownsRow w.heap.size 252 1 v (k+1) (aH (x.runsL.take (k+1)))
 kp:Below w.heap.size w wr
 le:k≤x.starts.length
theorem AR{w:World}{bR:Nat}{x:Rp}(h:aP w bR x)(ok:ei x)(sp:ci x)(ag:jH x)(wh:qU x)(hg:0< w.heap.size)(hT:Tz w)(hm:x.starts.length< 64):
  Calls Tryz.prog 92 #[ak bR] w fun r w'=>∃v,r=.returned v∧w'.ownsRow w.heap.size 252 1 v (x.starts.length+1) (aH x.runsL)∧Below w.heap.size w w':=by
 obtain⟨i0,hi,hz0,hz1,hz2⟩:=info_parts rd
 obtain⟨bv,sv,tv,rv,lv,h1,h2,h3,h4,-⟩:=h.ex
 obtain⟨p,c,rfl⟩:=ai h4
 have c0:w.cell? ⟨bR,0,none⟩=some (.int .i64 x.main):=h1.cell 0
 have c4:w.cell? ⟨bR,4,none⟩=some (.slice p x.starts.length c):=h1.cell 4
 have c5:w.cell? ⟨bR,5,none⟩=some (.int .u64 x.spots):=h1.cell 5
 have hl:=h1.lt
 have H4:=aa h4
 have hnn:∀s,s< x.stmts.length→x.isCall s=true→(x.st s).p.nn< 64:=fun s hs hc=>by have:=wh.nn s hs (by rw[hc];rfl);have:=wh.len;omega
 have HW:Hid (∀W f,Below w.heap.size w W→f< x.begins.length→Calls Tryz.prog 140 #[ak bR,.int .i64 f] W fun r w'=>r=.returned (.int .u64 (x.wholeD f))∧Below W.heap.size W w'):=fun W f k hf=>vx (h.keep k) ok sp (Nat.lt_of_lt_of_le hg k.size) (hT.below k) (by have:=wh.len;omega) hnn (wh.wh f hf)
 have HS:Hid (∀W s,Below w.heap.size w W→s< x.stmts.length→Calls Tryz.prog 141 #[ak bR,.int .i64 s] W fun r w'=>r=.returned (.tuple #[.int .i64 (x.st s).p.nn,.bool (x.isStart s)])∧Below W.heap.size W w'):=fun W s k hs=>mg (h.keep k) hs
 have HWH:=aa wh
 have HAG:=aa ag
 have HOK:=aa ok
 have HM:=aa (HW.out w x.main (Below.refl _ _) wh.main)
 clear h h1 h2 h3 h4 ok sp ag wh hT hnn
 go_enter Tryz.func92,Tryz.ntmps92
 go_wp2_with fail
 refine HM.out.mono ?_
 rintro r w1 ⟨rfl,hb1⟩
 have d4:w1.cell? ⟨bR,4,none⟩=some (.slice p x.starts.length c):=by rw[hb1.cell (p:=⟨bR,4,none⟩) hl];exact c4
 have hl1:bR< w1.heap.size:=Nat.lt_of_lt_of_le hl hb1.size
 have HB1:=aa hb1
 clear hb1 c0 c4
 go_wp2_with fail
 clear d4 hl1
 go_loopw [3,21] (fun v i wr=>∃k:Nat,i=.int .i64 k∧Hid (BC w wr v x k)) (fun _ i _=>x.starts.length-(intOf i).toNat)
 case atStart=>exact⟨0,rfl,jR _ _ (by simp[aH,Rp.runsL]) (by simp[aH,Rp.runsL]) HB1.out.size,HB1.out.alloc HB1.out.size _,Nat.zero_le _⟩
 case round=>
  obtain⟨k,rfl,HR⟩:=hrel
  have hkl:=HR.out.le
  by_cases hk:k=x.starts.length
  ·have hkn:¬((k:Int)< (x.starts.length:Int)):=by omega
   have HF:Hid (wr.ownsRow w.heap.size 252 1 u3 (x.starts.length+1) (aH x.runsL)):=by
    have:=HR.out.own
    rw[hk,List.take_of_length_le (by simp[Rp.runsL])]at this
    exact this
   clear hk hkl
   go_wp2_with fail
   go_ret
   exact⟨_,rfl,HF.out,HR.out.kp⟩
  ·have hkd:k< x.starts.length:=by omega
   have hkn:((k:Int)< (x.starts.length:Int)):=by omega
   clear hk
   obtain⟨gv,rfl⟩:∃gv,p=some ⟨gv,0,none⟩:=by
    obtain⟨g,c,e⟩:=aG H4.out (by omega)
    cases e;exact⟨g,rfl⟩
   obtain⟨s,hs⟩:∃s,s=x.starts.getD k 0:=⟨_,rfl⟩
   have hcell:wr.cell? ⟨gv,k,none⟩=some (.int .i64 s):=by
    rw[HR.out.kp.cell (p:=⟨gv,k,none⟩) (H4.out.lt gv rfl).2,H4.out.cellAt _ (by omega),hs]
    simp[bV,hkd]
   have hcell':wr.cell? ⟨gv,k*1,none⟩=some (.int .i64 s):=by rw[Nat.mul_one];exact hcell
   have hsl:s< x.stmts.length:=by rw[hs];exact HAG.out.st k hkd
   have hs64:s< 64:=by have:=HOK.out.len;omega
   have HTK:Hid (aH (x.runsL.take (k+1+1))=aH (x.runsL.take (k+1))++[.int .u64 (x.runOf s:Nat)]):=by
    show _=_
    have e:x.runsL[k+1]?=some (x.runOf s):=by
     rw[hs];unfold Rp.runsL;rw[List.getElem?_cons_succ,List.getElem?_map,List.getElem?_eq_getElem hkd];simp[hkd]
    rw[List.take_add_one,e];simp[aH]
   have HST:=aa (HS.out wr s HR.out.kp hsl)
   clear hs
   go_wp2_with fail
   refine HST.out.mono ?_
   rintro r w2 ⟨rfl,hb2⟩
   have d5:w2.cell? ⟨bR,5,none⟩=some (.int .u64 x.spots):=by rw[hb2.cell (p:=⟨bR,5,none⟩) (Nat.lt_of_lt_of_le hl HR.out.kp.size),HR.out.kp.cell (p:=⟨bR,5,none⟩) hl];exact c5
   have HB2:=aa hb2
   clear hb2 HST hcell hcell'
   cases hst:x.isStart s
   ·have HBW:Hid (Below wr.heap.size wr w2):=HB2
    have HN0:Hid (0=x.runOf s):=by show _=_;unfold Rp.runOf;rw[hst];rfl
    have hown:=ay HR.out.own HBW.out
    have hzr:=Nat.le_trans HR.out.kp.size HBW.out.size
    go_wp2_with (at_builtin;refine aq rfl _ _ 200 rfl w.heap.size 252 i0 (.int .u64 0) 1 8 Tryz.underlying200 hi hz0 hz1 hz2 rfl (by decide) _ _ _ rfl (hown.alloc _) ⟨w2.heap.size,0,none⟩ 1 1 [.int .u64 (0:Nat)] rfl rfl (aF _ _ _ _ (by simp)) (by intro u hu;simp at hu;subst hu;rfl) (by decide) (by unfold maxLen;omega) (by omega) (by simp;omega) ?_;intro l4 w4 hown4 hgrow4 _)
    have HN:Hid (BC w w4 l4 x (k+1)):=by
     refine⟨by rw[HTK.out,←HN0.out];exact hown4,?_,by omega⟩
     exact ae.to_below ((ae.of_below (S:=fun _=>False) (HR.out.kp.trans (HBW.out.mono HR.out.kp.size))).trans' (((ae.refl (fun i=>u3.ownBlock=some i) w2).alloc _).grown hgrow4 (fun k hk=>Or.inl hk)) (fun i e=>Or.inr (hown.lt i e).1))
    clear hown4 hgrow4 hown
    go_wp2_with fail
    go_roundw
    case rel=>exact⟨k+1,by go_num,HN⟩
    case measure=>simp[intOf];omega
   ·have HH:Hid (Calls Tryz.prog 137 #[.int .u64 x.spots,.int .i64 s] w2 fun r w'=>r=.returned (.bool (dB x.spots s))∧w'=w2):=jh x.spots s hs64 w2
    cases hh:dB x.spots s
    ·rw[hh]at HH
     have HBW:Hid (Below wr.heap.size wr w2):=HB2
     go_wp2_with fail
     refine HH.out.mono ?_
     rintro r wq ⟨rfl,hq⟩
     subst wq
     have HN0:Hid (0=x.runOf s):=by show _=_;unfold Rp.runOf;rw[hst,hh];rfl
     have hown:=ay HR.out.own HBW.out
     have hzr:=Nat.le_trans HR.out.kp.size HBW.out.size
     go_wp2_with (at_builtin;refine aq rfl _ _ 200 rfl w.heap.size 252 i0 (.int .u64 0) 1 8 Tryz.underlying200 hi hz0 hz1 hz2 rfl (by decide) _ _ _ rfl (hown.alloc _) ⟨w2.heap.size,0,none⟩ 1 1 [.int .u64 (0:Nat)] rfl rfl (aF _ _ _ _ (by simp)) (by intro u hu;simp at hu;subst hu;rfl) (by decide) (by unfold maxLen;omega) (by omega) (by simp;omega) ?_;intro l4 w4 hown4 hgrow4 _)
     have HN:Hid (BC w w4 l4 x (k+1)):=by
      refine⟨by rw[HTK.out,←HN0.out];exact hown4,?_,by omega⟩
      exact ae.to_below ((ae.of_below (S:=fun _=>False) (HR.out.kp.trans (HBW.out.mono HR.out.kp.size))).trans' (((ae.refl (fun i=>u3.ownBlock=some i) w2).alloc _).grown hgrow4 (fun k hk=>Or.inl hk)) (fun i e=>Or.inr (hown.lt i e).1))
     clear hown4 hgrow4 hown
     go_wp2_with fail
     go_roundw
     case rel=>exact⟨k+1,by go_num,HN⟩
     case measure=>simp[intOf];omega
    ·rw[hh]at HH
     have HWN:=aa (HW.out w2 (x.st s).p.nn (HR.out.kp.trans (HB2.out.mono HR.out.kp.size)) (HWH.out.nn s hsl (by rw[hst,Bool.or_true])))
     go_wp2_with fail
     refine HH.out.mono ?_
     rintro r wq ⟨rfl,hq⟩
     subst wq
     go_wp2_with fail
     refine HWN.out.mono ?_
     rintro r w3 ⟨rfl,hb3⟩
     have HBW:Hid (Below wr.heap.size wr w3):=HB2.out.trans (hb3.mono HB2.out.size)
     clear hb3
     have HN0:Hid (x.wholeD (x.st s).p.nn=x.runOf s):=by show _=_;unfold Rp.runOf;rw[hst,hh];rfl
     have hown:=ay HR.out.own HBW.out
     have hzr:=Nat.le_trans HR.out.kp.size HBW.out.size
     go_wp2_with (at_builtin;refine aq rfl _ _ 200 rfl w.heap.size 252 i0 (.int .u64 0) 1 8 Tryz.underlying200 hi hz0 hz1 hz2 rfl (by decide) _ _ _ rfl (hown.alloc _) ⟨w3.heap.size,0,none⟩ 1 1 [.int .u64 (x.wholeD (x.st s).p.nn:Nat)] rfl rfl (aF _ _ _ _ (by simp)) (by intro u hu;simp at hu;subst hu;rfl) (by decide) (by unfold maxLen;omega) (by omega) (by simp;omega) ?_;intro l4 w4 hown4 hgrow4 _)
     have HN:Hid (BC w w4 l4 x (k+1)):=by
      refine⟨by rw[HTK.out,←HN0.out];exact hown4,?_,by omega⟩
      exact ae.to_below ((ae.of_below (S:=fun _=>False) (HR.out.kp.trans (HBW.out.mono HR.out.kp.size))).trans' (((ae.refl (fun i=>u3.ownBlock=some i) w3).alloc _).grown hgrow4 (fun k hk=>Or.inl hk)) (fun i e=>Or.inr (hown.lt i e).1))
     clear hown4 hgrow4 hown
     go_wp2_with fail
     go_roundw
     case rel=>exact⟨k+1,by go_num,HN⟩
     case measure=>simp[intOf];omega
end
section
set_option maxRecDepth 100000
set_option maxHeartbeats 2000000
open Go.RowKit Go.Shelf
namespace Rp
def withinOf(x:Rp)(k:Nat):Nat:=fK (cj (aC x.starts.length)) (fun j=>dB (x.inOf (x.runs.getD (k+1) 0)) (x.starts.getD j 0))
end Rp
theorem AS(k:Nat)(hk:k≤1000)(w:World):
  Calls Tryz.prog 143 #[.int .i64 k] w fun r w'=>r=.returned (.int .i64 ((k+1:Nat):Int))∧w'=w:=by
 go_enter Tryz.func143,Tryz.ntmps143
 go_wp2_with fail
 go_ret
 exact⟨by go_num,rfl⟩
theorem mR:∀args w,(callFunc 144 args).run Tryz.prog w=.ok (.enter 144 args) w:=enters_of Tryz.func144 (by kernel_rfl) rfl
theorem nL:∀args w,(callFunc 142 args).run Tryz.prog w=.ok (.enter 142 args) w:=enters_of Tryz.func142 (by kernel_rfl) rfl
theorem vD{w:World}{bR b1 b2 sp k:Nat}{x:Rp}(h:aP w bR x)(hk:k< x.starts.length)(hv:x.starts.getD k 0< 64)(c1:w.cell? ⟨b1,0,none⟩=some (.int .u64 sp))(c2:w.cell? ⟨b2,0,none⟩=some (ak bR)):
  Calls Tryz.prog 144 #[.int .i64 k,.pointer (some ⟨b1,0,none⟩),.pointer (some ⟨b2,0,none⟩)] w fun r w'=>r=.returned (.bool (dB sp (x.starts.getD k 0)))∧Below w.heap.size w w':=by
 obtain⟨g,c,d0,d1⟩:=h.start hk
 obtain⟨v,hv'⟩:∃v,v=x.starts.getD k 0:=⟨_,rfl⟩
 rw[←hv']at d1 hv⊢
 have d1':w.cell? ⟨g,k*1,none⟩=some (.int .i64 v):=by rw[Nat.mul_one];exact d1
 clear h hv'
 go_enter Tryz.func144,Tryz.ntmps144
 go_wp2_with fail
 go_quiet ((go_at_call 137;exact Calls.quiet_of_same (jh _ _ hv _)))
 go_wp2_with fail
 go_ret
 exact⟨rfl,az (Below.refl _ _) _⟩
theorem xF{w:World}{bR b1 k:Nat}{x:Rp}(h:aP w bR x)(ok:ei x)(sp:ci x)(ag:jH x)(hg:0< w.heap.size)(hT:Tz w)(hm:x.starts.length< 64)(hk:k+1< x.runs.length)(hr:x.runs.length< 64)(c1:w.cell? ⟨b1,0,none⟩=some (ak bR)):
  Calls Tryz.prog 142 #[.int .i64 k,.pointer (some ⟨b1,0,none⟩)] w fun r w'=>r=.returned (.int .u64 (x.withinOf k))∧Below w.heap.size w w':=by
 have l1:=ah c1
 obtain⟨g,c,d7,d8⟩:=h.run hk
 obtain⟨fs,hfs⟩:∃fs,fs=x.runs.getD (k+1) 0:=⟨_,rfl⟩
 rw[←hfs]at d8
 have d8':w.cell? ⟨g,(k+1)*1,none⟩=some (.int .u64 fs):=by rw[Nat.mul_one];exact d8
 have l7:=ah d7
 have l8:=ah d8
 have HI:Hid (∀W,Below w.heap.size w W→Calls Tryz.prog 111 #[ak bR,.int .u64 fs] W fun r w'=>r=.returned (.int .u64 (x.inOf fs))∧Below W.heap.size W w'∧w'.cell? ⟨b1,0,none⟩=some (ak bR)∧w'.cell? ⟨bR,7,none⟩=some (.slice (some ⟨g,0,none⟩) x.runs.length c)∧w'.cell? ⟨g,k+1,none⟩=some (.int .u64 fs)):=fun W kw=>(AT (h.keep kw) ok sp (Nat.lt_of_lt_of_le hg kw.size) (hT.below kw) fs).mono (fun r w' hh=>by
  have kk:=kw.trans (hh.2.mono kw.size)
  exact⟨hh.1,hh.2,by rw[kk.cell (p:=⟨b1,0,none⟩) l1];exact c1,by rw[kk.cell (p:=⟨bR,7,none⟩) l7];exact d7,by rw[kk.cell (p:=⟨g,k+1,none⟩) l8];exact d8⟩)
 have HRt:Hid (∀W,Calls Tryz.prog 143 #[.int .i64 k] W fun r w'=>r=.returned (.int .i64 ((k+1:Nat):Int))∧w'=W):=fun W=>AS k (by omega) W
 have HS:Hid (∀W B,Below w.heap.size w W→W.cell? ⟨B,0,none⟩=some (.int .u64 (x.inOf fs))→W.cell? ⟨b1,0,none⟩=some (ak bR)∧Calls Tryz.prog 134 #[ak bR] W (fun r w'=>r=.returned (.int .u64 (cj (aC x.starts.length)))∧w'=W)∧Calls Tryz.prog 135 #[.int .u64 (cj (aC x.starts.length)),.func (.func 144) #[] #[.pointer (some ⟨B,0,none⟩),.pointer (some ⟨b1,0,none⟩)]] W fun r w'=>r=.returned (.int .u64 (x.withinOf k))∧Below w.heap.size w w'):=fun W B kk cB=>by
  have d1:W.cell? ⟨b1,0,none⟩=some (ak bR):=by rw[kk.cell (p:=⟨b1,0,none⟩) l1];exact c1
  have er:x.withinOf k=fK (cj (aC x.starts.length)) (fun j=>dB (x.inOf fs) (x.starts.getD j 0)):=by unfold Rp.withinOf;rw[←hfs]
  rw[er]
  refine⟨d1,ip (h.keep kk) hm,(nP _ (gP _) (fun j=>dB (x.inOf fs) (x.starts.getD j 0)) 144 #[] _ W (Nat.lt_of_lt_of_le hg kk.size) (hT.below kk) (fun y W' k'=>?_) mR).mono ?_⟩
  ·have hy:=ia hm y.2.2
   exact vD ((h.keep kk).keep k') hy (by have:=ag.st _ hy;have:=ok.len;omega) (by rw[k'.cell (p:=⟨B,0,none⟩) (ah cB)];exact cB) (by rw[k'.cell (p:=⟨b1,0,none⟩) (ah d1)];exact d1)
  ·exact fun r w' hh=>⟨hh.1,kk.trans (hh.2.mono kk.size)⟩
 have hkr:((k+1:Nat):Int)< (x.runs.length:Int):=by omega
 have y1:(0:Int)≤(k:Int)+1:=by omega
 have y2:(k:Int)+1< (x.runs.length:Int):=by omega
 clear h ok sp ag hT hfs
 go_enter Tryz.func142,Tryz.ntmps142
 go_wp2_with fail
 go_region_held3 (fun w'=>w'.cell? ⟨b1,0,none⟩=some (ak bR)∧w'.cell? ⟨bR,7,none⟩=some (.slice (some ⟨g,0,none⟩) x.runs.length c)∧w'.cell? ⟨g,k+1,none⟩=some (.int .u64 fs)) (first|exact⟨e1,e2,e3⟩|exact⟨c1,d7,d8⟩|go_keep|exact⟨by rw[World.cell?_setCell_other _ _ _ _ (by simp<;>omega)];first|exact e1|go_keep,by rw[World.cell?_setCell_other _ _ _ _ (by simp<;>omega)];first|exact e2|go_keep,by rw[World.cell?_setCell_other _ _ _ _ (by simp<;>omega)];first|exact e3|go_keep⟩) (first|(go_at_call 143;refine(HRt.out _).mono ?_;rintro q wq ⟨rfl,hq⟩;subst wq)|(go_at_call 111;refine(HI.out _ (by first|exact(Below.refl _ _).drew|exact((Below.refl _ _).drew).alloc (Nat.le_refl _) _|exact((Below.refl _ _).alloc (Nat.le_refl _) _).drew)).mono ?_;rintro q w1 ⟨rfl,hb1,e1,e2,e3⟩;have HB1:=aa hb1;have hz1:=hb1.size;obtain⟨hcc,hff⟩:=wK hb1;simp at hz1;clear hb1))
 ·obtain⟨W1,hW1⟩:∃W,W=w1.alloc (.cells #[.int .u64 (x.inOf fs)] 199):=⟨_,rfl⟩
  obtain⟨d1,HC⟩:=HS.out W1 w1.heap.size (by rw[hW1];exact(⟨HB1.out.os,HB1.out.tape,HB1.out.output,HB1.out.size,HB1.out.block⟩:Below w.heap.size w w1).alloc HB1.out.size _) (by rw[hW1];exact(Boxed.new _ _ _).cell)
  rw[←hW1]
  clear hW1
  replace HC:=aa HC
  go_wp2_with fail
  refine HC.out.1.mono ?_
  rintro q wq ⟨rfl,hq⟩
  subst wq
  go_wp2_with fail
  refine HC.out.2.mono ?_
  rintro q w3 ⟨rfl,hb3⟩
  replace hb3:=aa hb3
  go_wp2_with fail
  go_ret
  exact⟨rfl,hb3.out⟩
 all_goals
  obtain⟨W1,hW1⟩:∃W,W=w1.setCell ⟨w.heap.size,0,none⟩ (.int .u64 (x.inOf fs)):=⟨_,rfl⟩
  have hlt:w.heap.size< w1.heap.size:=by omega
  obtain⟨d1,HC⟩:=HS.out W1 w.heap.size (by rw[hW1];exact Below.setCell (p:=⟨w.heap.size,0,none⟩) (⟨HB1.out.os,HB1.out.tape,HB1.out.output,by have:=HB1.out.size;simp at this;omega,fun k hk=>(HB1.out.block k (by simp;omega)).trans (Below.heap_alloc _ _ _ hk)⟩:Below w.heap.size w w1) (Nat.le_refl _) _) (by rw[hW1];exact World.cell?_setCell_same _ _ _ (by rw[hcc _ _ (by simp)];exact(Boxed.new _ _ _).cell))
  rw[←hW1]
  clear hW1
  replace HC:=aa HC
  go_wp2_with fail
  refine HC.out.1.mono ?_
  rintro q wq ⟨rfl,hq⟩
  subst wq
  go_wp2_with fail
  refine HC.out.2.mono ?_
  rintro q w3 ⟨rfl,hb3⟩
  replace hb3:=aa hb3
  go_wp2_with fail
  go_ret
  exact⟨rfl,hb3.out⟩
end
section
set_option maxRecDepth 100000
set_option maxHeartbeats 1000000
open Go.RowKit Go.Shelf
def lA:List Nat→Nat→Option Nat
 |[],_=>none
 |a::l,v=>if a=v then some 0 else(lA l v).map (·+1)
theorem uo:∀(l:List Nat) (v k:Nat),l[k]?=some v→(∀j,j< k→l[j]?≠some v)→lA l v=some k:=by
 intro l
 induction l with
 |nil=>intro v k h;simp at h
 |cons a l ih=>
  intro v k h hn
  unfold lA
  cases k with
  |zero=>simp at h;rw[if_pos h]
  |succ k=>
   have h0:=hn 0 (by omega)
   simp at h0
   rw[if_neg h0,ih v k (by simpa using h) (fun j hj=>by have:=hn (j+1) (by omega);simpa using this)]
   rfl
theorem uq:∀(l:List Nat) (v:Nat),(∀j,j< l.length→l[j]?≠some v)→lA l v=none:=by
 intro l
 induction l with
 |nil=>intro v _;rfl
 |cons a l ih=>
  intro v hn
  unfold lA
  have h0:=hn 0 (by simp)
  simp at h0
  rw[if_neg h0,ih v (fun j hj=>by have:=hn (j+1) (by simp;omega);simpa using this)]
  rfl
def mz(l:List Nat)(v:Nat):Int:=match lA l v with|some k=>(k:Int)|none=>-1
namespace Rp
def startAt(x:Rp)(s:Nat):Option Nat:=lA x.starts s
end Rp
theorem yc{w:World}{l:List Nat}{p:Option Addr}{c v B:Nat}(h:w.ownsRow B 141 1 (.slice p l.length c) l.length (bV l))(hl:l.length≤1000000):
  Calls Tryz.prog 167 #[.slice p l.length c,.int .i64 v] w fun r w'=>r=.returned (.int .i64 (mz l v))∧w'=w:=by
 have H:=aa h
 clear h
 go_enter Tryz.func167,Tryz.ntmps167
 go_wp2_with fail
 go_loop [8] (fun i=>∃k:Nat,k≤l.length∧i=.int .i64 k∧Hid (∀j,j< k→l[j]?≠some v)) (fun i=>l.length-(intOf i).toNat)
 case atStart=>exact⟨0,by omega,rfl,fun j hj=>by omega⟩
 case round=>
  obtain⟨k,hk,rfl,hall⟩:=hrel
  by_cases hlt:k< l.length
  ·obtain⟨a,ha⟩:∃a,l[k]?=some a:=⟨_,List.getElem?_eq_getElem hlt⟩
   obtain⟨g,rfl⟩:∃g,p=some ⟨g,0,none⟩:=by
    obtain⟨g,c',e⟩:=aG H.out (by omega)
    cases e;exact⟨g,rfl⟩
   have hc:w.cell? ⟨g,k,none⟩=some (.int .i64 a):=by
    rw[H.out.cellAt _ (by omega)];simp[bV,ha]
   have hc':w.cell? ⟨g,k*1,none⟩=some (.int .i64 a):=by rw[Nat.mul_one];exact hc
   have HA:=aa ha
   clear ha
   by_cases he:a=v
   ·subst he
    have HV:Hid (mz l a=(k:Int)):=by show _=_;unfold mz;rw[uo l a k HA.out hall.out]
    go_wp2_with fail
    go_ret
    exact⟨by rw[HV.out];rfl,rfl⟩
   ·have hen:((v:Int)==(a:Int))=false:=by rw[beq_eq_false_iff_ne];omega
    have HNE:=aa he
    clear he
    go_wp2_with fail
    go_round
    case rel=>
     refine⟨k+1,by omega,by go_num,?_⟩
     intro j hj
     by_cases e:j=k
     ·subst e;rw[HA.out];exact fun e=>HNE.out (by cases e;rfl)
     ·exact hall.out j (by omega)
    case measure=>simp[intOf];omega
  ·have hkl:k=l.length:=by omega
   have HV:Hid (mz l v=-1):=by show _=_;unfold mz;rw[uq l v (fun j hj=>hall.out j (by omega))]
   have hkn:¬((k:Int)< (l.length:Int)):=by omega
   clear hkl hlt
   go_wp2_with fail
   go_ret
   exact⟨by rw[HV.out];rfl,rfl⟩
theorem pZ{w:World}{bR s:Nat}{x:Rp}(h:aP w bR x)(hm:x.starts.length< 64):
  Calls Tryz.prog 114 #[ak bR,.int .i64 s] w fun r w'=>r=.returned (.tuple #[.int .i64 (mz x.starts s),.bool (x.startAt s).isSome])∧w'=w:=by
 obtain⟨bv,sv,tv,rv,lv,h1,h2,h3,h4,-⟩:=h.ex
 obtain⟨p,c,rfl⟩:=ai h4
 have c4:w.cell? ⟨bR,4,none⟩=some (.slice p x.starts.length c):=h1.cell 4
 have H1:=aa (yc (v:=s) h4 (by omega))
 have hv:decide (0≤mz x.starts s)=(x.startAt s).isSome:=by
  unfold mz Rp.startAt
  cases lA x.starts s<;>simp
 have HV:=aa hv
 clear h h1 h2 h3 h4 hv
 go_enter Tryz.func114,Tryz.ntmps114
 go_wp2_with fail
 refine H1.out.mono ?_
 rintro r wq ⟨rfl,hq⟩
 subst wq
 go_wp2_with fail
 go_ret2
 exact⟨by rw[←HV.out];rfl,rfl⟩
end
section
set_option maxRecDepth 100000
set_option maxHeartbeats 2000000
open Go.RowKit Go.Shelf
theorem BW{w:World}{b o t h t' h':Nat}(c0:w.cell? ⟨b,o,none⟩=some (.int .u64 t))(c1:w.cell? ⟨b,o+1,none⟩=some (.int .u64 h))(f0:w.frozen? ⟨b,o,none⟩=false)(f1:w.frozen? ⟨b,o+1,none⟩=false):
  Calls Tryz.prog 151 #[.pointer (some ⟨b,o,none⟩),.agg #[.int .u64 t',.int .u64 h']] w fun r w'=>r=.returned (.tuple #[])∧w'=(((w.setCell ⟨b,o,none⟩ (.int .u64 (fa t t'))).setCell ⟨b,o+1,none⟩ (.int .u64 (fa h h'))).alloc (.cells #[.int .u64 t',.int .u64 h'] 212)).drew.drew:=by
 have r1:=cG
 have hl:=ah c0
 go_enter Tryz.func151,Tryz.ntmps151
 go_wp2_with fail
 go_region
 go_wp2_with fail
 go_region
 go_wp2_with fail
 go_end0
 exact⟨rfl,rfl⟩
def ab(l:List Nat):Array Value:=(aH l).toArray
def addAt(l:List Nat)(i:Nat)(h:Nat×Nat):List Nat:=(l.set (2*i) (fa (l.getD (2*i) 0) h.1)).set (2*i+1) (fa (l.getD (2*i+1) 0) h.2)
def ax(l:List Nat)(i:Nat):Nat×Nat:=(l.getD (2*i) 0,l.getD (2*i+1) 0)
theorem ic(l:List Nat)(i:Nat)(h:Nat×Nat):(addAt l i h).length=l.length:=by simp[addAt]
theorem aY{l:List Nat}{j:Nat}(hj:j< l.length):(ab l)[j]?=some (.int .u64 (l.getD j 0:Nat)):=by
 simp[ab,aH,hj]
theorem dy(l:List Nat)(j v:Nat):(ab l).setIfInBounds j (.int .u64 (v:Nat))=ab (l.set j v):=by
 simp[ab,aH,List.map_set]
theorem Br{w:World}{b i:Nat}{l:List Nat}{h:Nat×Nat}(hb:an w b (ab l))(hi:2*i+1< l.length):
  Calls Tryz.prog 151 #[.pointer (some ⟨b,2*i,none⟩),.agg #[.int .u64 h.1,.int .u64 h.2]] w fun r w'=>r=.returned (.tuple #[])∧an w' b (ab (addAt l i h))∧ae (ao b) w w':=by
 refine(BW (t:=l.getD (2*i) 0) (h:=l.getD (2*i+1) 0) (by rw[hb.cell];exact aY (by omega)) (by rw[hb.cell];exact aY hi) (hb.fz _) (hb.fz _)).mono ?_
 rintro r w' ⟨rfl,rfl⟩
 refine⟨rfl,?_,?_⟩
 ·have e1:=hb.set (2*i) (.int .u64 (fa (l.getD (2*i) 0) h.1:Nat)) (by simp[ab,aH];omega)
  rw[dy]at e1
  have e2:=e1.set (2*i+1) (.int .u64 (fa (l.getD (2*i+1) 0) h.2:Nat)) (by simp[ab,aH];omega)
  rw[dy]at e2
  exact(e2.alloc _).below ⟨rfl,rfl,rfl,Nat.le_refl _,fun _ _=>rfl⟩
 ·have k:=(((ae.refl (ao b) w).set1 (2*i) (.int .u64 (fa (l.getD (2*i) 0) h.1:Nat))).set1 (2*i+1) (.int .u64 (fa (l.getD (2*i+1) 0) h.2:Nat))).alloc (.cells #[.int .u64 h.1,.int .u64 h.2] 212)
  exact⟨k.os,k.tape,k.output,k.size,k.block⟩
end
section
set_option maxRecDepth 100000
set_option maxHeartbeats 2000000
open Go.RowKit Go.Shelf
theorem eF:(Tryz.prog.info? 212).map (·.size)=some 2:=by kernel_rfl
theorem gZ(w:World)(o o':Obj):((w.alloc o).alloc o').heap[w.heap.size+1]?=some o':=by
 have:=World.alloc_heap_new (w.alloc o) o'
 rwa [World.size_alloc]at this
theorem Bq{w:World}{b f n:Nat}{l:List Nat}{t:ByteArray}{a v:Int}(hb:an w b (ab l))(hl:l.length=104)(hf:f< 5)(hn:n< 6):
  Calls Tryz.prog 150 #[ak b,.int .i64 f,.agg #[.string t,.int .i64 a,.int .i64 n,.int .i64 v]] w fun r w'=>r=.returned (bif t.toList.isEmpty then .agg #[.int .u64 0,.int .u64 0]else .agg #[.int .u64 (ax l (f*6+n)).1,.int .u64 (ax l (f*6+n)).2])∧Below w.heap.size w w':=by
 have c0:w.cell? ⟨b,f*12+n*2,none⟩=some (.int .u64 (ax l (f*6+n)).1):=by rw[hb.cell,aY (by omega)];unfold ax;rw[show 2*(f*6+n)=f*12+n*2 by omega]
 have c1:w.cell? ⟨b,f*12+n*2+1,none⟩=some (.int .u64 (ax l (f*6+n)).2):=by rw[hb.cell,aY (by omega)];unfold ax;rw[show 2*(f*6+n)+1=f*12+n*2+1 by omega]
 have hlt:=hb.lt
 generalize ax l (f*6+n)=h at *
 clear hb
 cases ht:t.toList.isEmpty
 ·go_enter Tryz.func150,Tryz.ntmps150
  go_wp2_with fail
  go_region
  go_wp2_with fail
  refine bodyPost_ret (results_cell_row rfl _ _ (w.heap.size+1) 212 #[.int .u64 h.1,.int .u64 h.2] (0,0) _ rfl (gZ w _ _) Tryz.underlying212 rfl eF) rfl ⟨rfl,?_⟩
  exact(((Below.refl _ w).alloc (Nat.le_refl _) _).alloc (by simp) _).drew
 ·go_enter Tryz.func150,Tryz.ntmps150
  go_wp2_with fail
  refine bodyPost_ret (results_cell_row rfl _ _ (w.heap.size+1) 212 #[.int .u64 0,.int .u64 0] (0,0) _ rfl (gZ w _ _) Tryz.underlying212 rfl eF) rfl ⟨rfl,?_⟩
  exact((Below.refl _ w).alloc (Nat.le_refl _) _).alloc (by simp) _
end
section
set_option maxRecDepth 100000
set_option maxHeartbeats 2000000
open Go.RowKit Go.Shelf
def ed(l:List Nat)(f:Nat)(p:Ph)(h:Nat×Nat):List Nat:=if p.lt.isEmpty then l else addAt l (f*6+p.ln) h
theorem oo{w:World}{b i o:Nat}{l:List Nat}{h:Nat×Nat}(hb:an w b (ab l))(hi:2*i+1< l.length)(ho:o=2*i):
  Calls Tryz.prog 151 #[.pointer (some ⟨b,o,none⟩),.agg #[.int .u64 h.1,.int .u64 h.2]] w fun r w'=>r=.returned (.tuple #[])∧an w' b (ab (addAt l i h))∧ae (ao b) w w':=by subst ho;exact Br hb hi
theorem qG{w:World}{b bs f:Nat}{nx ins:Int}{l:List Nat}{p:Ph}{sr sb:Value}{h:Nat×Nat}(hb:an w b (ab l))(hs:an w bs (aK p sr sb))(hl:l.length=104)(hne:bs≠b)(hf:f< 5)(hn:p.ln< 6):
  Calls Tryz.prog 149 #[ak b,.agg #[ak bs,.int .i64 f,.int .i64 nx,.int .i64 ins],.agg #[.int .u64 h.1,.int .u64 h.2]] w fun r w'=>r=.returned (.tuple #[])∧an w' b (ab (ed l f p h))∧ae (ao b) w w':=by
 have d3:w.cell? ⟨bs,3,none⟩=some (.string ⟨p.lt.toArray⟩):=hs.cell 3
 have d5:w.cell? ⟨bs,5,none⟩=some (.int .i64 p.ln):=hs.cell 5
 have hbs:=hs.lt
 obtain⟨W0,hW0⟩:∃W,W=(w.alloc (.cells #[ak bs,.int .i64 f,.int .i64 nx,.int .i64 ins] 197)).alloc (.cells #[.int .u64 h.1,.int .u64 h.2] 212):=⟨_,rfl⟩
 have k0:Below w.heap.size w W0:=by rw[hW0];exact((Below.refl _ w).alloc (Nat.le_refl _) _).alloc (by simp) _
 have HK0:=aa k0
 have HZ0:Hid (w.heap.size+1< W0.heap.size):=by show _< _;rw[hW0];simp
 have HB:=aa hb
 have hE:(⟨p.lt.toArray⟩:ByteArray).toList.isEmpty=p.lt.isEmpty:=by simp
 unfold ed
 cases ht:p.lt.isEmpty
 ·have HA:Hid (Calls Tryz.prog 151 #[.pointer (some ⟨b,f*12+p.ln*2,none⟩),.agg #[.int .u64 h.1,.int .u64 h.2]] W0.drew fun r w'=>r=.returned (.tuple #[])∧an w' b (ab (addAt l (f*6+p.ln) h))∧ae (ao b) W0.drew w'):=oo (hb.below k0.drew) (by omega) (by omega)
  rw[ht]at hE
  have HW0:=aa hW0
  have HC0:Hid (W0.cell? ⟨w.heap.size,0,none⟩=some (ak bs)∧W0.cell? ⟨w.heap.size,1,none⟩=some (.int .i64 f)∧W0.cell? ⟨w.heap.size+1,0,none⟩=some (.int .u64 h.1)∧W0.cell? ⟨w.heap.size+1,1,none⟩=some (.int .u64 h.2)):=by
   rw[hW0]
   have a1:=(an.new w #[ak bs,.int .i64 f,.int .i64 nx,.int .i64 ins] 197).alloc (.cells #[.int .u64 h.1,.int .u64 h.2] 212)
   have a2:=an.new (w.alloc (.cells #[ak bs,.int .i64 f,.int .i64 nx,.int .i64 ins] 197)) #[.int .u64 h.1,.int .u64 h.2] 212
   rw[World.size_alloc]at a2
   exact⟨a1.cell 0,a1.cell 1,a2.cell 0,a2.cell 1⟩
  have y1:(0:Int)≤f:=by omega
  have y2:(f:Int)< 5:=by omega
  have y3:(0:Int)≤p.ln:=by omega
  have y4:(p.ln:Int)< 6:=by omega
  clear hb hs k0 hW0
  go_enter Tryz.func149,Tryz.ntmps149
  go_wp2_with fail
  have g0:W0.cell? ⟨w.heap.size,0,none⟩=some (ak bs):=HC0.out.1
  have g1:W0.cell? ⟨w.heap.size,1,none⟩=some (.int .i64 f):=HC0.out.2.1
  have g2:W0.cell? ⟨w.heap.size+1,0,none⟩=some (.int .u64 h.1):=HC0.out.2.2.1
  have g3:W0.cell? ⟨w.heap.size+1,1,none⟩=some (.int .u64 h.2):=HC0.out.2.2.2
  have g5:W0.cell? ⟨bs,5,none⟩=some (.int .i64 p.ln):=by rw[HK0.out.cell (p:=⟨bs,5,none⟩) hbs];exact d5
  have HSK:Hid (∀w',ae (ao b) W0.drew w'→w'.cell? ⟨w.heap.size,0,none⟩=some (ak bs)∧w'.cell? ⟨w.heap.size,1,none⟩=some (.int .i64 f)∧w'.cell? ⟨w.heap.size+1,0,none⟩=some (.int .u64 h.1)∧w'.cell? ⟨w.heap.size+1,1,none⟩=some (.int .u64 h.2)∧w'.cell? ⟨bs,5,none⟩=some (.int .i64 p.ln)):=fun w' k=>by
   have hbl:=HB.out.lt
   have hz:=HZ0.out
   exact⟨by rw[k.cell (p:=⟨w.heap.size,0,none⟩) (by show w.heap.size< W0.heap.size;omega) (by show¬w.heap.size=b;omega)];exact g0,by rw[k.cell (p:=⟨w.heap.size,1,none⟩) (by show w.heap.size< W0.heap.size;omega) (by show¬w.heap.size=b;omega)];exact g1,by rw[k.cell (p:=⟨w.heap.size+1,0,none⟩) (by show w.heap.size+1< W0.heap.size;omega) (by show¬w.heap.size+1=b;omega)];exact g2,by rw[k.cell (p:=⟨w.heap.size+1,1,none⟩) (by show w.heap.size+1< W0.heap.size;omega) (by show¬w.heap.size+1=b;omega)];exact g3,by rw[k.cell (p:=⟨bs,5,none⟩) (by show bs< W0.heap.size;omega) hne];exact g5⟩
  rw[←HW0.out]
  go_region_held3 (fun w'=>w'.cell? ⟨w.heap.size,0,none⟩=some (ak bs)∧w'.cell? ⟨w.heap.size,1,none⟩=some (.int .i64 f)∧w'.cell? ⟨w.heap.size+1,0,none⟩=some (.int .u64 h.1)∧w'.cell? ⟨w.heap.size+1,1,none⟩=some (.int .u64 h.2)∧w'.cell? ⟨bs,5,none⟩=some (.int .i64 p.ln)) (first|exact⟨e0,e1,e2,e3,e5⟩|exact⟨g0,g1,g2,g3,g5⟩|go_keep) (first|(go_at_call 151;refine HA.out.mono ?_;rintro q w1 ⟨rfl,hq⟩;have HQ:=aa hq;obtain⟨e0,e1,e2,e3,e5⟩:=HSK.out _ hq.2;clear hq))
  all_goals go_wp2_with fail
  all_goals go_end0
  all_goals exact⟨rfl,HQ.out.1,(ae.of_below (S:=ao b) HK0.out.drew).trans' HQ.out.2 (fun i e=>Or.inl e)⟩
 ·rw[ht]at hE
  have HW0:=aa hW0
  clear hb hs k0 hW0
  go_enter Tryz.func149,Tryz.ntmps149
  go_wp2_with fail
  rw[←HW0.out]
  go_end0
  exact⟨rfl,HB.out.below HK0.out,ae.of_below HK0.out⟩
end
section
set_option maxRecDepth 100000
set_option maxHeartbeats 2000000
open Go.RowKit Go.Shelf
def bZ(l:List Nat)(f:Nat)(a:Pa):Nat×Nat:=if a.text.isEmpty then(0,0)else ax l (f*6+a.num)
def gB(g f:Nat):List Pa→Nat→List Nat→List Nat
 |[],_,l=>l
 |a::r,i,l=>gB g f r (i+1) (addAt l (g*6+i) (bZ l f a))
theorem mA{w:World}{b f:Nat}{l:List Nat}{a:Pa}(hb:an w b (ab l))(hl:l.length=104)(hf:f< 5)(hn:a.num< 6):
  Calls Tryz.prog 150 #[ak b,.int .i64 f,.agg #[.string ⟨a.text.toArray⟩,.int .i64 a.at_,.int .i64 a.num,.int .i64 a.n]] w fun r w'=>r=.returned (.agg #[.int .u64 (bZ l f a).1,.int .u64 (bZ l f a).2])∧Below w.heap.size w w':=by
 refine(Bq hb hl hf hn).mono ?_
 rintro r w' ⟨rfl,hw⟩
 refine⟨?_,hw⟩
 unfold bZ
 have e:(⟨a.text.toArray⟩:ByteArray).toList.isEmpty=a.text.isEmpty:=by simp
 rw[e]
 cases a.text.isEmpty<;>rfl
structure Cf(w wr:World)(b g f k:Nat)(l:List Nat)(r:List Pa)(R:List Nat):Prop where
 kp:ae (ao b) w wr
 ex:∃l',l'.length=104∧an wr b (ab l')∧gB g f (r.drop k) k l'=R
 le:k≤r.length
theorem jP{r:List Pa}{k:Nat}{a:Pa}(h:r[k]?=some a)(j:Nat)(hj:j< 4):(et r)[k*4+j]?=(vH a)[j]?:=by
 have hk:=(List.getElem?_eq_some_iff.1 h)
 obtain⟨hk1,hk2⟩:=hk
 have e:r=r.take k++a::r.drop (k+1):=by rw[←hk2,List.getElem_cons_drop,List.take_append_drop]
 have:=tm (r.take k) (r.drop (k+1)) a j hj
 rw[←e,List.length_take,Nat.min_eq_left (by omega)]at this
 exact this
theorem Bm{w:World}{b bs f:Nat}{nx ins:Int}{l:List Nat}{p:Ph}{r:List Pa}{sr sb:Value}(hb:an w b (ab l))(hs:an w bs (aK p sr sb))(hr:w.ownsRow 0 193 4 sr r.length (et r))(hrb:∀i,sr.ownBlock=some i→i≠b)(hl:l.length=104)(hne:bs≠b)(hf:f< 5)(hg:p.nn< 5)(hrl:r.length≤6)(hn:∀a,a∈r→a.num< 6):
  Calls Tryz.prog 154 #[ak b,.agg #[ak bs,.int .i64 f,.int .i64 nx,.int .i64 ins]] w fun q w'=>q=.returned (.tuple #[])∧an w' b (ab (gB p.nn f r 0 l))∧ae (ao b) w w':=by
 obtain⟨pr,cr,rfl⟩:=ai hr
 have d11:w.cell? ⟨bs,11,none⟩=some (.int .i64 p.nn):=hs.cell 11
 have d12:w.cell? ⟨bs,12,none⟩=some (.slice pr r.length cr):=hs.cell 12
 have hbs:=hs.lt
 have hbl:=hb.lt
 obtain⟨W0,hW0⟩:∃W,W=w.alloc (.cells #[ak bs,.int .i64 f,.int .i64 nx,.int .i64 ins] 197):=⟨_,rfl⟩
 have k0:Below w.heap.size w W0:=by rw[hW0];exact(Below.refl _ w).alloc (Nat.le_refl _) _
 have hz0:w.heap.size< W0.heap.size:=by rw[hW0];simp
 have HB:=aa (hb.below k0)
 have HK0:=aa k0
 have HR:=aa hr
 have HRB:=aa hrb
 have HN:=aa hn
 have HW0:=aa hW0
 have HBX:Hid (an W0 w.heap.size #[ak bs,.int .i64 f,.int .i64 nx,.int .i64 ins]):=by show an _ _ _;rw[hW0];exact an.new w _ _
 clear hb hs hr hrb hn k0 hW0
 go_enter Tryz.func154,Tryz.ntmps154
 go_wp2_with fail
 rw[←HW0.out]
 go_loopw [12] (fun i wr=>∃k:Nat,i=.int .i64 k∧Hid (Cf W0 wr b p.nn f k l r (gB p.nn f r 0 l))) (fun i _=>r.length-(intOf i).toNat)
 case atStart=>exact⟨0,rfl,ae.refl _ _,⟨l,hl,HB.out,rfl⟩,Nat.zero_le _⟩
 case round=>
  obtain⟨k,rfl,HI⟩:=hrel
  have hkl:=HI.out.le
  by_cases hk:k=r.length
  ·have hkn:¬((k:Int)< (r.length:Int)):=by omega
   have HF:Hid (an wr b (ab (gB p.nn f r 0 l))):=by
    obtain⟨l',_,h2,h3⟩:=HI.out.ex
    rw[hk,List.drop_length]at h3
    show an _ _ _
    rw[←h3]
    exact h2
   clear hk hkl
   go_wp2_with fail
   go_end0
   exact⟨rfl,HF.out,(ae.of_below (S:=ao b) HK0.out).trans' HI.out.kp (fun i e=>Or.inl e)⟩
  ·have hkd:k< r.length:=by omega
   have hkn:((k:Int)< (r.length:Int)):=by omega
   clear hk
   obtain⟨a,ha⟩:∃a,r[k]?=some a:=⟨_,List.getElem?_eq_getElem hkd⟩
   have hna:=HN.out a (List.mem_of_getElem? ha)
   obtain⟨gr,rfl⟩:∃gr,pr=some ⟨gr,0,none⟩:=by
    obtain⟨g,c',e⟩:=aG HR.out (by omega)
    cases e;exact⟨g,rfl⟩
   have hgb:=HRB.out gr rfl
   have hgl:=(HR.out.lt gr rfl).2
   have kk:=(ae.of_below (S:=ao b) HK0.out).trans' HI.out.kp (fun i e=>Or.inl e)
   have hzr:=HI.out.kp.size
   have hc:∀j,j< 4→wr.cell? ⟨gr,k*4+j,none⟩=(vH a)[j]?:=fun j hj=>by
    rw[kk.cell (p:=⟨gr,k*4+j,none⟩) hgl hgb,HR.out.cellAt _ (by omega),jP ha j hj]
   have q0:wr.cell? ⟨gr,k*4,none⟩=some (.string ⟨a.text.toArray⟩):=hc 0 (by decide)
   have q1:wr.cell? ⟨gr,k*4+1,none⟩=some (.int .i64 a.at_):=hc 1 (by decide)
   have q2:wr.cell? ⟨gr,k*4+2,none⟩=some (.int .i64 a.num):=hc 2 (by decide)
   have q3:wr.cell? ⟨gr,k*4+3,none⟩=some (.int .i64 a.n):=hc 3 (by decide)
   obtain⟨l',hl',hbl',hR'⟩:=HI.out.ex
   obtain⟨W1,hW1⟩:∃W,W=wr.alloc (.cells #[.string ⟨a.text.toArray⟩,.int .i64 a.at_,.int .i64 a.num,.int .i64 a.n] 193):=⟨_,rfl⟩
   have k1:Below wr.heap.size wr W1:=by rw[hW1];exact(Below.refl _ wr).alloc (Nat.le_refl _) _
   have hz1:wr.heap.size< W1.heap.size:=by rw[hW1];simp
   have bx1:=(HBX.out.kept HI.out.kp (by show¬w.heap.size=b;omega)).below k1
   have bx2:an W1 wr.heap.size #[.string ⟨a.text.toArray⟩,.int .i64 a.at_,.int .i64 a.num,.int .i64 a.n]:=by rw[hW1];exact an.new wr _ _
   have d11':W1.cell? ⟨bs,11,none⟩=some (.int .i64 p.nn):=by rw[k1.cell (p:=⟨bs,11,none⟩) (Nat.lt_of_lt_of_le hbs kk.size),kk.cell (p:=⟨bs,11,none⟩) hbs hne];exact d11
   have HSK:Hid (∀w',ae (ao b) W1.drew w'→w'.cell? ⟨w.heap.size,0,none⟩=some (ak bs)∧w'.cell? ⟨w.heap.size,1,none⟩=some (.int .i64 f)∧w'.cell? ⟨bs,11,none⟩=some (.int .i64 p.nn)∧w'.cell? ⟨wr.heap.size,0,none⟩=some (.string ⟨a.text.toArray⟩)∧w'.cell? ⟨wr.heap.size,1,none⟩=some (.int .i64 a.at_)∧w'.cell? ⟨wr.heap.size,2,none⟩=some (.int .i64 a.num)∧w'.cell? ⟨wr.heap.size,3,none⟩=some (.int .i64 a.n)):=fun w' k=>by
    have y1:an w' w.heap.size _:=(⟨bx1.cell,bx1.fz,bx1.lt⟩:an W1.drew w.heap.size _).kept k (by show¬w.heap.size=b;omega)
    have y2:an w' wr.heap.size _:=(⟨bx2.cell,bx2.fz,bx2.lt⟩:an W1.drew wr.heap.size _).kept k (by show¬wr.heap.size=b;omega)
    exact⟨y1.cell 0,y1.cell 1,by rw[k.cell (p:=⟨bs,11,none⟩) (by show bs< W1.heap.size;omega) hne];exact d11',y2.cell 0,y2.cell 1,y2.cell 2,y2.cell 3⟩
   obtain⟨g0,g1,g2,g3,g4,g5,g6⟩:=HSK.out W1.drew (ae.refl _ _)
   have HAT:=aa (mA (w:=W1.drew) (f:=f) (a:=a) ((hbl'.below k1).below ⟨rfl,rfl,rfl,Nat.le_refl _,fun _ _=>rfl⟩) hl' hf hna)
   have HAD:Hid (∀w2,Below W1.drew.heap.size W1.drew w2→Calls Tryz.prog 151 #[.pointer (some ⟨b,p.nn*12+k*2,none⟩),.agg #[.int .u64 (bZ l' f a).1,.int .u64 (bZ l' f a).2]] w2 fun r w'=>r=.returned (.tuple #[])∧an w' b (ab (addAt l' (p.nn*6+k) (bZ l' f a)))∧ae (ao b) w2 w'):=fun w2 k2=>oo (((hbl'.below k1).below ⟨rfl,rfl,rfl,Nat.le_refl _,fun _ _=>rfl⟩:an W1.drew b _).below k2) (by omega) (by omega)
   have HRR:Hid (gB p.nn f (r.drop (k+1)) (k+1) (addAt l' (p.nn*6+k) (bZ l' f a))=gB p.nn f r 0 l):=by
    show _=_
    rw[←hR',List.drop_eq_getElem_cons hkd]
    have:r[k]=a:=by have:=List.getElem?_eq_getElem hkd;rw[ha]at this;exact(Option.some.inj this).symm
    rw[this]
    rfl
   have HK1:=aa k1
   have HL':=aa hl'
   have HW1:=aa hW1
   have hk6:(k:Int)< 6:=by omega
   have y1:(0:Int)≤k:=by omega
   have y2:(0:Int)≤p.nn:=by omega
   have y3:(p.nn:Int)< 5:=by omega
   clear hc hW1 k1 bx1 bx2 hbl' hl' hR' kk ha
   go_wp2_with fail
   rw[←HW1.out]
   go_region_held3 (fun w'=>w'.cell? ⟨w.heap.size,0,none⟩=some (ak bs)∧w'.cell? ⟨w.heap.size,1,none⟩=some (.int .i64 f)∧w'.cell? ⟨bs,11,none⟩=some (.int .i64 p.nn)∧w'.cell? ⟨wr.heap.size,0,none⟩=some (.string ⟨a.text.toArray⟩)∧w'.cell? ⟨wr.heap.size,1,none⟩=some (.int .i64 a.at_)∧w'.cell? ⟨wr.heap.size,2,none⟩=some (.int .i64 a.num)∧w'.cell? ⟨wr.heap.size,3,none⟩=some (.int .i64 a.n)) (first|exact⟨e0,e1,e2,e3,e4,e5,e6⟩|exact⟨g0,g1,g2,g3,g4,g5,g6⟩|go_keep) (first|(go_at_call 150;refine HAT.out.mono ?_;rintro q w2 ⟨rfl,hb2⟩;have HB2:=aa hb2;obtain⟨e0,e1,e2,e3,e4,e5,e6⟩:=HSK.out _ (ae.of_below hb2);clear hb2)|(go_at_call 151;refine(HAD.out w2 HB2.out).mono ?_;rintro q w3 ⟨rfl,hq⟩;have HQ:=aa hq;obtain⟨e0,e1,e2,e3,e4,e5,e6⟩:=HSK.out _ ((ae.of_below (S:=ao b) HB2.out).trans' hq.2 (fun i e=>Or.inl e));clear hq))
   all_goals
    have HNX:Hid (Cf W0 w3 b p.nn f (k+1) l r (gB p.nn f r 0 l)):=⟨HI.out.kp.trans' ((ae.of_below (S:=ao b) (HK1.out.drew)).trans' ((ae.of_below (S:=ao b) HB2.out).trans' HQ.out.2 (fun i e=>Or.inl e)) (fun i e=>Or.inl e)) (fun i e=>Or.inl e),⟨_,by rw[ic];exact HL'.out,HQ.out.1,HRR.out⟩,by omega⟩
    clear e0 e1 e2 e3 e4 e5 e6
    go_wp2_with fail
    go_roundw
    case rel=>exact⟨k+1,by go_num,HNX⟩
    case measure=>simp[intOf];omega
end
end Go.Proofs.YtmdaflepdaiabaaGreatDoor
