import Derived.Test.YtmdaflepdaiabaaGreatDoorQ18
import Derived.Test.YtmdaflepdaiabaaGreatDoorQ24
set_option linter.unusedSimpArgs false
set_option linter.unusedVariables false
namespace Go.Proofs.YtmdaflepdaiabaaGreatDoor
section
set_option maxRecDepth 100000
set_option maxHeartbeats 4000000
open Go.RowKit Go.Shelf
attribute [local go_sem] Oper.semAt_some
theorem Cp{w:World}{bT bR ra a rb b:Nat}{x:Rp}{held about:List Nat}(h:aP w bR x)(ht:fQ w bT bR held about)(ok:ei x)(ag:jH x)(hg:0< w.heap.size)(hT:Tz w)(hra:ra≤x.starts.length)(hrb:rb≤x.starts.length)(ha:a< 53)(hb:b< 53)(hm:x.starts.length< 60)(hn:x.runs.length< 64)(hst:x.stmts.length≤53):
  Calls Tryz.prog 121 #[ak bT,.int .i64 ra,.int .i64 a,.int .i64 rb,.int .i64 b] w fun r w'=>r=.returned (.bool (x.atATimeOf about ra a rb b))∧Below w.heap.size w w':=by
 cases ra with
 |zero=>
  cases rb with
  |zero=>exact vL
  |succ j=>exact xR ht (by omega) ha
 |succ k=>
  cases rb with
  |zero=>exact vM ht (by omega) hb
  |succ j=>
   by_cases e:k=j
   ·subst e;exact xQ h ht (by omega)
   ·exact zI h ht ok ag hg hT (by omega) (by omega) e hm hn hst
def gJ(f:Nat→Nat→Bool)(A B:List Nat):Option (Nat×Nat):=A.findSome? (fun ra=>(B.find? (f ra)).map (fun rb=>(ra,rb)))
theorem pT{f:Nat→Nat→Bool}{A B:List Nat}(h:∀r∈A,B.find? (f r)=none):gJ f A B=none:=by
 unfold gJ
 rw[List.findSome?_eq_none_iff]
 intro r hr
 rw[h r hr]
 rfl
theorem pS{f:Nat→Nat→Bool}{A B pre:List Nat}{ra rb:Nat}(hp:pre++[ra]<+:A)(h:∀r∈pre,B.find? (f r)=none)(hf:B.find? (f ra)=some rb):gJ f A B=some (ra,rb):=by
 obtain⟨t,rfl⟩:=hp
 unfold gJ
 rw[List.append_assoc,List.findSome?_append]
 have h1:pre.findSome? (fun ra=>(B.find? (f ra)).map (fun rb=>(ra,rb)))=none:=by
  rw[List.findSome?_eq_none_iff]
  intro r hr
  rw[h r hr]
  rfl
 rw[h1]
 simp[hf]
theorem ot{p:Nat→Bool}{B:List Nat}(h:∀r∈B,p r=false):B.find? p=none:=by
 rw[List.find?_eq_none]
 intro r hr
 rw[h r hr]
 decide
theorem uD{p:Nat→Bool}{B pre:List Nat}{rb:Nat}(hp:pre++[rb]<+:B)(h:∀r∈pre,p r=false)(hf:p rb=true):B.find? p=some rb:=by
 obtain⟨t,rfl⟩:=hp
 rw[List.append_assoc,List.find?_append,ot h]
 simp[hf]
theorem jv{P:Program}{fn:Func}{p1 p2 p3:Tmp}{t1 t2 t3:TypeId}(h:fn.results=#[.cell p1 t1,.cell p2 t2,.cell p3 t3])(tmps:Array Value)(w:World){a1 a2 a3:Addr}{v1 v2 v3:Value}(h1:tmps.getD p1 undef=.pointer (some a1))(h2:tmps.getD p2 undef=.pointer (some a2))(h3:tmps.getD p3 undef=.pointer (some a3))
  (g1:(loadVar t1 a1).run P w=.ok v1 w) (g2:(loadVar t2 a2).run P w=.ok v2 w) (g3:(loadVar t3 a3).run P w=.ok v3 w):(results fn tmps).run P w=.ok (.tuple #[v1,v2,v3]) w:=by
 have h1':tmps[p1]?.getD undef=.pointer (some a1):=by simpa using h1
 have h2':tmps[p2]?.getD undef=.pointer (some a2):=by simpa using h2
 have h3':tmps[p3]?.getD undef=.pointer (some a3):=by simpa using h3
 simp[results,h,h1',h2',h3',asAddr,g1,g2,g3]
theorem fg{P:Program}{t:TypeId}{w:World}{b:Nat}{v:Value}{d:TypeDesc}(hu:P.underlying t=some d)(hd:d.isRow=false)(hc:w.cell? ⟨b,0,none⟩=some v):(loadVar t ⟨b,0,none⟩).run P w=.ok v w:=by
 have hagg:(isAgg t).run P w=.ok false w:=by
  unfold isAgg
  rw[Sem.run_bind,run_underlying hu w]
  cases d<;>simp_all
 simp[loadVar,Sem.run_bind,hagg,hc]
structure sR(w W:World)(bT a b ra rb:Nat)(f:Bool):Prop where
 kp:Below w.heap.size w W
 b3:Boxed W w.heap.size 136 (ak bT)
 b4:Boxed W (w.heap.size+1) 141 (.int .i64 a)
 b5:Boxed W (w.heap.size+1+1) 141 (.int .i64 b)
 b6:Boxed W (w.heap.size+1+1+1) 181 (.int .i64 ra)
 b7:Boxed W (w.heap.size+1+1+1+1) 181 (.int .i64 rb)
 b8:Boxed W (w.heap.size+1+1+1+1+1) 4 (.bool f)
theorem sR.keep{w W W':World}{bT a b ra rb:Nat}{f:Bool}(h:sR w W bT a b ra rb f)(k:Below W.heap.size W W'):sR w W' bT a b ra rb f:=⟨h.kp.trans (k.mono h.kp.size),am h.b3 k,am h.b4 k,am h.b5 k,am h.b6 k,am h.b7 k,am h.b8 k⟩
theorem sR.grown{w X Y:World}{bT a b ra rb B:Nat}{f:Bool}{row:Option Nat}(h:sR w X bT a b ra rb f)(hg:X.grownBy Y row)(hB:w.heap.size+6≤B)(hr:∀r,row=some r→B≤r∧∃o:Obj,X.heap[r]?=some o∧o.isCells=false):sR w Y bT a b ra rb f:=by
 have hb:∀{i:Nat} {t:TypeId} {v:Value},Boxed X i t v→i< w.heap.size+6→Boxed Y i t v:=fun h' hi=>(hg.block _ h'.lt (fun e=>by have:=(hr _ e.symm).1;omega)).trans h'
 exact⟨h.kp.grown hg (Nat.le_trans (Nat.le_refl _) h.kp.size) (fun k e=>by have:=(hr k e).1;omega),hb h.b3 (by omega),hb h.b4 (by omega),hb h.b5 (by omega),hb h.b6 (by omega),hb h.b7 (by omega),hb h.b8 (by omega)⟩
theorem sR.set{w W:World}{bT a b:Nat}(h:sR w W bT a b 0 0 false)(ra rb:Nat)(fl:Bool):sR w (((W.setCell ⟨w.heap.size+1+1+1,0,none⟩ (.int .i64 ra)).setCell ⟨w.heap.size+1+1+1+1,0,none⟩ (.int .i64 rb)).setCell ⟨w.heap.size+1+1+1+1+1,0,none⟩ (.bool fl)) bT a b ra rb fl:=by
 refine⟨((h.kp.setCell (p:=⟨w.heap.size+1+1+1,0,none⟩) (by show w.heap.size≤w.heap.size+1+1+1;omega) _).setCell (p:=⟨w.heap.size+1+1+1+1,0,none⟩) (by show w.heap.size≤w.heap.size+1+1+1+1;omega) _).setCell (p:=⟨w.heap.size+1+1+1+1+1,0,none⟩) (by show w.heap.size≤w.heap.size+1+1+1+1+1;omega) _,?_,?_,?_,?_,?_,?_⟩
 ·exact((h.b3.other (by omega) _).other (by omega) _).other (by omega) _
 ·exact((h.b4.other (by omega) _).other (by omega) _).other (by omega) _
 ·exact((h.b5.other (by omega) _).other (by omega) _).other (by omega) _
 ·exact((h.b6.set _).other (by omega) _).other (by omega) _
 ·exact((h.b7.other (by omega) _).set _).other (by omega) _
 ·exact((h.b8.other (by omega) _).other (by omega) _).set _
theorem zA{w:World}{bT bR a b:Nat}{x:Rp}{held about:List Nat}(h:aP w bR x)(ht:fQ w bT bR held about)(ok:ei x)(ag:jH x)(hg:0< w.heap.size)(hT:Tz w)(ha:a< x.stmts.length)(hb:b< x.stmts.length)(hm:x.starts.length< 60)(hn:x.runs.length=x.starts.length+1)(hst:x.stmts.length≤53):
  Calls Tryz.prog 71 #[ak bT,.int .i64 a,.int .i64 b] w fun r w'=>r=.returned (match gJ (fun ra rb=>x.atATimeOf about ra a rb b) (els (x.runByOf (x.st a).fn)) (els (x.runByOf (x.st b).fn))with|some z=>.tuple #[.int .i64 z.1,.int .i64 z.2,.bool true]|none=>.tuple #[.int .i64 0,.int .i64 0,.bool false])∧Below w.heap.size w w':=by
 obtain⟨D,hD⟩:∃W,W=(((((w.alloc (.cells #[ak bT] 136)).alloc (.cells #[.int .i64 a] 141)).alloc (.cells #[.int .i64 b] 141)).alloc (.cells #[.int .i64 0] 181)).alloc (.cells #[.int .i64 0] 181)).alloc (.cells #[.bool false] 4):=⟨_,rfl⟩
 have HSD:Hid (sR w D bT a b 0 0 false):=by
  rw[hD]
  have e:∀(W:World) (t:TypeId) (v:Value) (B:Nat),W.heap.size=B→Boxed (W.alloc (.cells #[v] t)) B t v:=fun W t v B hB=>hB▸Boxed.new W t v
  refine⟨((((((Below.refl _ w).alloc (Nat.le_refl _) _).alloc (by simp) _).alloc (by simp;omega) _).alloc (by simp;omega) _).alloc (by simp;omega) _).alloc (by simp;omega) _,(((((Boxed.new w _ _).alloc _).alloc _).alloc _).alloc _).alloc _,((((e _ _ _ _ (by simp)).alloc _).alloc _).alloc _).alloc _,(((e _ _ _ _ (by simp)).alloc _).alloc _).alloc _,((e _ _ _ _ (by simp)).alloc _).alloc _,(e _ _ _ _ (by simp)).alloc _,e _ _ _ _ (by simp)⟩
 have hzD:D.heap.size=w.heap.size+6:=by rw[hD];simp
 have q3:D.cell? ⟨w.heap.size,0,none⟩=some (ak bT):=HSD.out.b3.cell
 have q4:D.cell? ⟨w.heap.size+1,0,none⟩=some (.int .i64 a):=HSD.out.b4.cell
 rw[hD]at q3 q4
 have HRA:Hid (∀s W,s< x.stmts.length→Below w.heap.size w W→Calls Tryz.prog 119 #[ak bT,.int .i64 s] W fun r w'=>r=.returned (.int .u64 (x.runByOf (x.st s).fn))∧Below W.heap.size W w'):=fun s W hs kk=>vJ (h.keep kk) ok (Nat.lt_of_lt_of_le hg kk.size) (hT.below kk) hs (by omega) (ht.keep kk).prog
 have HAT:Hid (∀ra rb W,ra≤x.starts.length→rb≤x.starts.length→Below w.heap.size w W→Calls Tryz.prog 121 #[ak bT,.int .i64 ra,.int .i64 a,.int .i64 rb,.int .i64 b] W fun r w'=>r=.returned (.bool (x.atATimeOf about ra a rb b))∧Below W.heap.size W w'):=fun ra rb W h1 h2 kk=>Cp (h.keep kk) (ht.keep kk) ok ag (Nat.lt_of_lt_of_le hg kk.size) (hT.below kk) h1 h2 (by omega) (by omega) hm (by omega) hst
 have HRB:Hid (∀s r,r< 64→(x.runByOf (x.st s).fn).testBit r=true→r≤x.starts.length):=fun s r hr hbit=>by
  have:=ia (by omega) (kr hr hbit).1
  omega
 have HALT:∀s,x.runByOf (x.st s).fn< bI:=fun s=>jK _ _
 obtain⟨A,hA⟩:∃A,A=x.runByOf (x.st a).fn:=⟨_,rfl⟩
 obtain⟨B,hB⟩:∃B,B=x.runByOf (x.st b).fn:=⟨_,rfl⟩
 have hAlt:A< bI:=by rw[hA];exact HALT a
 have hBlt:B< bI:=by rw[hB];exact HALT b
 have HRAa:=aa (HRA.out a D ha HSD.out.kp)
 have HRBb:Hid (∀W,Below w.heap.size w W→Calls Tryz.prog 119 #[ak bT,.int .i64 b] W fun r w'=>r=.returned (.int .u64 B)∧Below W.heap.size W w'):=fun W kk=>by rw[hB];exact HRA.out b W hb kk
 have HA1:Hid (∀r,r< 64→A.testBit r=true→r≤x.starts.length):=fun r h1 h2=>HRB.out a r h1 (by rw[←hA];exact h2)
 have HB1:Hid (∀r,r< 64→B.testBit r=true→r≤x.starts.length):=fun r h1 h2=>HRB.out b r h1 (by rw[←hB];exact h2)
 rw[←hA]at HRAa⊢
 rw[←hB]
 obtain⟨f,hf⟩:∃f:Nat→Nat→Bool,f=fun ra rb=>x.atATimeOf about ra a rb b:=⟨_,rfl⟩
 have HAF:Hid (∀ra rb W,ra≤x.starts.length→rb≤x.starts.length→Below w.heap.size w W→Calls Tryz.prog 121 #[ak bT,.int .i64 ra,.int .i64 a,.int .i64 rb,.int .i64 b] W fun r w'=>r=.returned (.bool (f ra rb))∧Below W.heap.size W w'):=by rw[hf];exact HAT
 rw[←hf]
 obtain⟨res,hres⟩:∃v:Value,v=(match gJ f (els A) (els B)with|some z=>.tuple #[.int .i64 z.1,.int .i64 z.2,.bool true]|none=>.tuple #[.int .i64 0,.int .i64 0,.bool false]):=⟨_,rfl⟩
 rw[←hres]
 have HRES:=aa hres
 have HT:=aa hT
 have HD:=aa hD
 clear h ht ok ag hT hD hA hB hf hres HALT HRA HAT HRB
 refine(callsIn_wide (n:=5)).1 ?_
 refine callsIn_of_wp_marks Tryz.func71 rfl trivial ?_ rfl
 simp only[Tryz.ntmps71,List.size_toArray,List.length_cons,List.length_nil,Nat.reduceAdd,Nat.reduceSub,Array.replicate_succ,Array.replicate_zero,List.push_toArray,List.append_toArray,List.nil_append,List.cons_append]
 gi_wp2
 rw[←HD.out]
 refine⟨trivial,?_⟩
 refine(callsIn_wide.2 HRAa.out).mono ?_
 rintro e W1 ⟨rfl,hb1⟩
 have HS1:=aa (HSD.out.keep hb1)
 have hz1:D.heap.size≤W1.heap.size:=hb1.size
 clear hb1 q3 q4
 gi_wp2_with (refine⟨trivial,?_⟩;gi_at_call 120;refine(pn _ _ _).mono ?_;rintro e w' ⟨rfl,hq⟩;subst w')
 obtain⟨W2,hW2⟩:∃W,W=W1.alloc (.cells #[.int .u64 A] 266):=⟨_,rfl⟩
 have k2:Below W1.heap.size W1 W2:=by rw[hW2];exact(Below.refl _ W1).alloc (Nat.le_refl _) _
 have bA:Boxed W2 W1.heap.size 266 (.int .u64 A):=by rw[hW2];exact Boxed.new _ _ _
 have hz2:W1.heap.size< W2.heap.size:=bA.lt
 have HS2:=aa (HS1.out.keep k2)
 rw[←hW2]
 clear hW2
 refine wpIn_rangeFunc_ownH rfl (by decide) (gf:=171) (lb:=#[.pointer (some ⟨W1.heap.size,0,none⟩)]) rfl trivial (enters_of Tryz.func171 (by kernel_rfl) rfl)
  (ku 4 (by decide) W1.heap.size w.heap.size A hAlt _ hz2 (by omega) hg bA.cell (HT.out.below HS2.out.kp)) belowK_t (belowK_b (by omega)) (Below.refl _ _) (fun _=>rfl)
  (fun(pre:List (El A)) W=>sR w W bT a b 0 0 false∧∀r∈pre.map (·.1),(els B).find? (f r)=none)
  (fun c (pre:List (El A)) W=>c=.ret∧∃ra rb pre',sR w W bT a b ra rb true∧pre.map (·.1)=pre'++[ra]∧(∀r∈pre',(els B).find? (f r)=none)∧(els B).find? (f ra)=some rb)
  (fun _ X Y row hs hg' hr=>by exact⟨hs.1.grown hg' (by omega) hr,hs.2⟩)
  (fun c _ X Y row hs hg' hr=>by
   obtain⟨e,ra,rb,pre',h1,h2⟩:=hs
   exact⟨e,ra,rb,pre',h1.grown hg' (by omega) hr,h2⟩)
  ⟨HS2.out,fun r hr=>by cases hr⟩
  (fun z a' W=>∃p,a'={tmps:=#[ak bT,.int .i64 a,.int .i64 b,.pointer (some ⟨w.heap.size,0,none⟩),.pointer (some ⟨w.heap.size+1,0,none⟩),.pointer (some ⟨w.heap.size+1+1,0,none⟩),.pointer (some ⟨w.heap.size+1+1+1,0,none⟩),.pointer (some ⟨w.heap.size+1+1+1+1,0,none⟩),.pointer (some ⟨w.heap.size+1+1+1+1+1,0,none⟩),.pointer (some ⟨p,0,none⟩),undef,ak bT,.int .i64 a,.int .u64 A,.func (.func 171) #[] #[.pointer (some ⟨W1.heap.size,0,none⟩)],.int .i64 z.1,undef,undef,undef,undef,undef,undef,undef,undef,undef,undef,undef,undef,undef],defers:=[]}∧Boxed W p 181 (.int .i64 z.1)∧w.heap.size+6≤p)
  (fun z a' _ X Y row hs hg' hr=>by
   obtain⟨p,e,hp,hlt⟩:=hs
   exact⟨p,e,boxed_own (β:=Unit) p _ (fun _=>_) () X Y row hp hg' (fun r e=>(hr r e).2),hlt⟩) ?assign ?body ?done ?stop
 case assign=>
  rintro lr pre z W K hI hK
  have kA:Below W.heap.size W (W.alloc (.cells #[.int .i64 z.1] 181)):=(Below.refl _ W).alloc (Nat.le_refl _) _
  have hWz:w.heap.size+6≤W.heap.size:=by have:=hI.1.b8.lt;omega
  have:=hK {tmps:=#[ak bT,.int .i64 a,.int .i64 b,.pointer (some ⟨w.heap.size,0,none⟩),.pointer (some ⟨w.heap.size+1,0,none⟩),.pointer (some ⟨w.heap.size+1+1,0,none⟩),.pointer (some ⟨w.heap.size+1+1+1,0,none⟩),.pointer (some ⟨w.heap.size+1+1+1+1,0,none⟩),.pointer (some ⟨w.heap.size+1+1+1+1+1,0,none⟩),.pointer (some ⟨W.heap.size,0,none⟩),undef,ak bT,.int .i64 a,.int .u64 A,.func (.func 171) #[] #[.pointer (some ⟨W1.heap.size,0,none⟩)],.int .i64 z.1,undef,undef,undef,undef,undef,undef,undef,undef,undef,undef,undef,undef,undef],defers:=[]} _ (aB kA) (kA.mono (by omega)) ⟨hI.1.keep kA,hI.2⟩ ⟨W.heap.size,rfl,Boxed.new _ _ _,hWz⟩
  have HK:=aa this
  clear hK this hI
  gi_wp2
  exact HK.out
 case body=>
  rintro lr pre z a' W hlr ⟨rr,hrr⟩ ⟨hS,hpre⟩ ⟨p,rfl,hp,hpw⟩ hpl
  have q3:W.cell? ⟨w.heap.size,0,none⟩=some (ak bT):=hS.b3.cell
  have q5:W.cell? ⟨w.heap.size+1+1,0,none⟩=some (.int .i64 b):=hS.b5.cell
  have HR:=aa (HRBb.out W hS.kp)
  have HS:=aa hS
  have HP:=aa hp
  have HPRE:=aa hpre
  have hzr:=HA1.out z.1 z.2.1 z.2.2
  have hWl:w.heap.size+6≤W.heap.size:=by have:=hS.b8.lt;omega
  clear hS hp hpre
  gi_wp2
  refine⟨trivial,?_⟩
  refine(CallsIn.inRound lr (callsIn_wide.2 HR.out)).mono ?_
  rintro e W3 ⟨rfl,hb3⟩
  have HB3:=aa hb3
  clear hb3 q3 q5 HR
  gi_wp2_with (refine⟨trivial,?_⟩;gi_at_call 120;refine(CallsIn.inRound lr (pn _ _ _)).mono ?_;rintro e w' ⟨rfl,hq⟩;subst w')
  obtain⟨W4,hW4⟩:∃W',W'=W3.alloc (.cells #[.int .u64 B] 266):=⟨_,rfl⟩
  have k4:Below W.heap.size W W4:=by rw[hW4];exact HB3.out.alloc HB3.out.size _
  have bN:Boxed W4 W3.heap.size 266 (.int .u64 B):=by rw[hW4];exact Boxed.new _ _ _
  have hz4:W3.heap.size< W4.heap.size:=bN.lt
  have hz43:=k4.size
  have HS4:=aa (HS.out.keep k4)
  have hw0:=HS4.out.kp.size
  rw[←hW4]
  have HL4:Hid (W4.heap[lr]?=some (.loop rr)):=(k4.block lr (Array.getElem?_eq_some_iff.1 hrr).1).trans hrr
  clear hW4
  refine' rK (l₀:=lr) rfl HL4.out (by decide) (gf:=171) (lb:=#[.pointer (some ⟨W3.heap.size,0,none⟩)]) rfl trivial (enters_of Tryz.func171 (by kernel_rfl) rfl)
   (SeqStopsK.inRound lr (ku 2 (by decide) W3.heap.size w.heap.size B hBlt W4 hz4 (by omega) hg bN.cell (HT.out.below HS4.out.kp))) belowK_t (belowK_b (by omega)) (Below.refl _ _) (fun _=>rfl)
   (fun(pre2:List (El B)) W'=>Below W.heap.size W W'∧∀r∈pre2.map (·.1),f z.1 r=false)
   (fun c (pre2:List (El B)) W'=>c=.ret∧∃rb pre2',(KeepsFrom W2.heap.size W W'∧sR w W' bT a b z.1 rb true)∧pre2.map (·.1)=pre2'++[rb]∧(∀r∈pre2',f z.1 r=false)∧f z.1 rb=true)
   (fun _ X Y row hs hg' hr=>by exact⟨ownFrom_below (β:=Unit) (Nat.le_refl _) hz43 () X Y row hs.1 hg' hr,hs.2⟩)
   (fun c _ X Y row hs hg' hr=>by
    obtain⟨e,rb,pre2',h1,h2⟩:=hs
    exact⟨e,rb,pre2',⟨ownFrom_keepsFrom (β:=Unit) hz43 () X Y row h1.1 hg' hr,h1.2.grown hg' (by omega) hr⟩,h2⟩)
   ⟨k4,fun r hr=>by cases hr⟩ (fun _=>Below.refl _ _) _ ?assign2 ?body2 ?done2 ?stop2
  case assign2=>
   intro l2 z2 W' K hK
   gi_wp2
   exact hK
  case body2=>
   rintro l2 pre2 z2 W'- -⟨hkW,hp2⟩ hpl'
   have HSW:=aa (HS.out.keep hkW)
   have q3:W'.cell? ⟨w.heap.size,0,none⟩=some (ak bT):=HSW.out.b3.cell
   have q4:W'.cell? ⟨w.heap.size+1,0,none⟩=some (.int .i64 a):=HSW.out.b4.cell
   have q5:W'.cell? ⟨w.heap.size+1+1,0,none⟩=some (.int .i64 b):=HSW.out.b5.cell
   have qp:W'.cell? ⟨p,0,none⟩=some (.int .i64 z.1):=(am HP.out hkW).cell
   have hz2r:=HB1.out z2.1 z2.2.1 z2.2.2
   have HAC:=aa (HAF.out z.1 z2.1 W' hzr hz2r HSW.out.kp)
   have HKW:=aa hkW
   have HP2:=aa hp2
   have hw1:w.heap.size≤W'.heap.size:=HSW.out.kp.size
   clear hkW hp2
   gi_wp2
   refine⟨trivial,?_⟩
   refine(CallsIn.inRound l2 (callsIn_wide.2 HAC.out)).mono ?_
   rintro e W5 ⟨rfl,hb5⟩
   have HS5:=aa (HSW.out.keep hb5)
   have HB5:=aa hb5
   have HK5:Hid (Below W.heap.size W W5):=HKW.out.trans (hb5.mono HKW.out.size)
   have qp5:W5.cell? ⟨p,0,none⟩=some (.int .i64 z.1):=(am HP.out HK5.out).cell
   have y6:=HS5.out.b6.cell
   have y7:=HS5.out.b7.cell
   have y8:=HS5.out.b8.cell
   have f6:=HS5.out.b6.frozen
   have f7:=HS5.out.b7.frozen
   have f8:=HS5.out.b8.frozen
   have hl8:w.heap.size+1+1+1+1+1< W5.heap.size:=HS5.out.b8.lt
   clear hb5 q3 q4 q5 qp
   cases hfz:f z.1 z2.1
   ·gi_wp2
    refine⟨aB HB5.out,HB5.out.mono hw1,HK5.out,fun r hr=>?_⟩
    rw[List.map_append]at hr
    rcases List.mem_append.1 hr with hr|hr
    ·exact HP2.out r hr
    ·simp at hr;subst hr;exact hfz
   ·have HSF:=aa (HS5.out.set z.1 z2.1 true)
    have hpp:p≠w.heap.size+1+1+1:=by omega
    have HKF:Hid (KeepsFrom W2.heap.size W (((W5.setCell ⟨w.heap.size+1+1+1,0,none⟩ (.int .i64 z.1)).setCell ⟨w.heap.size+1+1+1+1,0,none⟩ (.int .i64 z2.1)).setCell ⟨w.heap.size+1+1+1+1+1,0,none⟩ (.bool true))∧KeepsFrom W4.heap.size W' (((W5.setCell ⟨w.heap.size+1+1+1,0,none⟩ (.int .i64 z.1)).setCell ⟨w.heap.size+1+1+1+1,0,none⟩ (.int .i64 z2.1)).setCell ⟨w.heap.size+1+1+1+1+1,0,none⟩ (.bool true))):=by
     have ks:KeepsOthers W5 (((W5.setCell ⟨w.heap.size+1+1+1,0,none⟩ (.int .i64 z.1)).setCell ⟨w.heap.size+1+1+1+1,0,none⟩ (.int .i64 z2.1)).setCell ⟨w.heap.size+1+1+1+1+1,0,none⟩ (.bool true)):=((KeepsOthers.setCell _ _ _).trans (KeepsOthers.setCell _ _ _)).trans (KeepsOthers.setCell _ _ _)
     exact⟨(aB HK5.out).trans (ks.from _),(aB HB5.out).trans (ks.from _)⟩
    gi_wp2
    refine⟨HKF.out.2,rfl,z2.1,pre2.map (·.1),⟨HKF.out.1,HSF.out⟩,by simp,HP2.out,hfz⟩
  case done2=>
   rintro ys W' rfl ⟨hkW,hp2⟩
   have HF:Hid (KeepsFrom W2.heap.size W W'∧Below w.heap.size W W'∧sR w W' bT a b 0 0 false∧∀r∈(pre++[z]).map (·.1),(els B).find? (f r)=none):=by
    refine⟨aB hkW,hkW.mono (by omega),HS.out.keep hkW,fun r hr=>?_⟩
    rw[List.map_append]at hr
    rcases List.mem_append.1 hr with hr|hr
    ·exact HPRE.out r hr
    ·simp at hr
     subst hr
     rw[cF]at hp2
     exact ot hp2
   clear hkW hp2
   gi_wp2
   exact HF.out
  case stop2=>
   rintro c pre2 W' hsp ⟨rfl,rb,pre2',⟨hk',hs'⟩,h1,h2,h3⟩
   rw[h1]at hsp
   refine wpIn_ret ?_
   exact⟨hk',rfl,z.1,rb,pre.map (·.1),hs',by simp,HPRE.out,uD hsp h2 h3⟩
 case done=>
  rintro Dn ys W hDn rfl ⟨hS,hpre⟩ hK
  have hnone:gJ f (els A) (els B)=none:=by
   rw[cF]at hpre
   exact pT hpre
  have hR0:res=.tuple #[.int .i64 0,.int .i64 0,.bool false]:=by rw[HRES.out,hnone]
  have y6:=hS.b6.cell
  have y7:=hS.b7.cell
  have y8:=hS.b8.cell
  have f6:=hS.b6.frozen
  have f7:=hS.b7.frozen
  have f8:=hS.b8.frozen
  have hl8:w.heap.size+1+1+1+1+1< W.heap.size:=hS.b8.lt
  have HS:=aa hS
  clear hS hpre
  have HSF:=aa (HS.out.set 0 0 false)
  gi_wp2
  have hK':(((W.setCell ⟨w.heap.size+1+1+1,0,none⟩ (.int .i64 0)).setCell ⟨w.heap.size+1+1+1+1,0,none⟩ (.int .i64 0)).setCell ⟨w.heap.size+1+1+1+1+1,0,none⟩ (.bool false)).heap[Dn]?=some (.deferred (some [])):=(((KeepsOthers.setCell W ⟨w.heap.size+1+1+1,0,none⟩ (.int .i64 0)).trans (KeepsOthers.setCell _ ⟨w.heap.size+1+1+1+1,0,none⟩ (.int .i64 0))).trans (KeepsOthers.setCell _ ⟨w.heap.size+1+1+1+1+1,0,none⟩ (.bool false))).same Dn _ hK rfl
  refine⟨by simp,.inl ⟨_,_,rfl,run_takeDeferred hK',?_⟩⟩
  have hS':=HSF.out.grown (grownBy_putObj' _ Dn (.deferred none)) (B:=W2.heap.size) (by omega) (fun r e=>by cases e;exact⟨hDn,_,hK',rfl⟩)
  refine⟨_,jv rfl _ _ rfl rfl rfl (fg Tryz.underlying181 rfl hS'.b6.cell) (fg Tryz.underlying181 rfl hS'.b7.cell) (fg Tryz.underlying4 rfl hS'.b8.cell),by rw[hR0];rfl,hS'.kp⟩
 case stop=>
  rintro Dn c pre W hDn hsp ⟨rfl,ra,rb,pre',hS,h1,h2,h3⟩ hK
  rw[h1]at hsp
  have hR1:res=.tuple #[.int .i64 ra,.int .i64 rb,.bool true]:=by rw[HRES.out,pS hsp h2 h3]
  refine wpIn_ret ?_
  refine⟨by simp,.inl ⟨_,_,rfl,run_takeDeferred hK,?_⟩⟩
  have hS':sR w (W.putObj Dn (.deferred none)) bT a b ra rb true:=hS.grown (grownBy_putObj' W Dn _) (B:=W2.heap.size) (by omega) (fun r e=>by cases e;exact⟨hDn,_,hK,rfl⟩)
  refine⟨_,jv rfl _ _ rfl rfl rfl (fg Tryz.underlying181 rfl hS'.b6.cell) (fg Tryz.underlying181 rfl hS'.b7.cell) (fg Tryz.underlying4 rfl hS'.b8.cell),by rw[hR1],hS'.kp⟩
end
section
set_option maxRecDepth 100000
set_option maxHeartbeats 2000000
open Go.RowKit Go.Shelf
structure jp where
 a:Nat:=0
 b:Nat:=0
 new:Int:=0
 field:Nat:=0
 ra:Nat:=0
 rb:Nat:=0
 la:List Nat:=[]
 lb:List Nat:=[]
namespace Rp
def rootsOf(x:Rp)(about:List Nat)(a b:Nat):Option (Nat×Nat):=gJ (fun ra rb=>x.atATimeOf about ra a rb b) (els (x.runByOf (x.st a).fn)) (els (x.runByOf (x.st b).fn))
def repOf(x:Rp)(held about:List Nat)(a b:Ac):Option jp:=
 if((!a.wr&&!b.wr)||dg (held.getD a.spot 0) (held.getD b.spot 0)!=0)=true then none
 else if(jy a b).2=false then none
 else match x.rootsOf about a.spot b.spot with
  |none=>none
  |some z=>some {a:=a.spot,b:=b.spot,new:=(jy a b).1,field:=a.num,ra:=z.1,rb:=z.2,la:=els (held.getD a.spot 0),lb:=els (held.getD b.spot 0)}
end Rp
def fE(r:jp)(la lb:Value):Array Value:=#[.int .i64 r.a,.int .i64 r.b,.int .i64 r.new,.int .i64 r.field,.int .i64 r.ra,.int .i64 r.rb,la,lb]
def gE(base:Nat)(o:Option jp)(r:Ending)(w':World):Prop:=match o with
 |none=>r=.returned (.tuple #[.agg #[.int .i64 0,.int .i64 0,.int .i64 0,.int .i64 0,.int .i64 0,.int .i64 0,.slice none 0 0,.slice none 0 0],.bool false])
 |some z=>∃la lb,r=.returned (.tuple #[.agg (fE z la lb),.bool true])∧w'.ownsRow base 3 1 la z.la.length (bV z.la)∧w'.ownsRow base 3 1 lb z.lb.length (bV z.lb)
theorem dP{P:Program}{fn:Func}{p u:Tmp}{ty:TypeId}(h:fn.results=#[.cell p ty,.tmp u])(tmps:Array Value)(w:World)(g:Nat)(t:TypeId)(cs:Array Value)(fr:Nat×Nat)(d:TypeDesc)
  (hp:tmps.getD p undef=.pointer (some ⟨g,0,none⟩)) (hg:w.heap[g]?=some (.cells cs t fr))
  (hu:P.underlying ty=some d) (hd:(match d with|.struct _|.array _ _=>true|_=>false)=true) (hi:(P.info? ty).map (·.size)=some cs.size):
  (results fn tmps).run P w=.ok (.tuple #[.agg cs,tmps.getD u undef]) w:=by
 rw[results_cell_tmp h,hp]
 simp[asAddr,run_loadVar_row w g t ty cs fr d hg hu hd hi]
theorem ew:(Tryz.prog.info? 36).map (·.size)=some 8:=by kernel_rfl
theorem jB(W:World)(b:Nat):W.drew.heap[b]?=W.heap[b]?:=rfl
theorem fP(base:Nat)(W:World)(v:Value)(hv:v=.bool false):gE base none (.returned (.tuple #[.agg #[.int .i64 0,.int .i64 0,.int .i64 0,.int .i64 0,.int .i64 0,.int .i64 0,.slice none 0 0,.slice none 0 0],v])) W:=by subst hv;rfl
theorem ov{W:World}{b t:Nat}{A:Array Value}(h:W.heap[b]?=some (.cells A t (0,0)))(hA:A.size=8)(v0 v1 v2 v3 v4 v5 v6 v7:Value):((((((((W.setCell ⟨b,0,none⟩ v0).setCell ⟨b,1,none⟩ v1).setCell ⟨b,2,none⟩ v2).setCell ⟨b,3,none⟩ v3).setCell ⟨b,4,none⟩ v4).setCell ⟨b,5,none⟩ v5).setCell ⟨b,6,none⟩ v6).setCell ⟨b,7,none⟩ v7).heap[b]?=some (.cells #[v0,v1,v2,v3,v4,v5,v6,v7] t (0,0))∧ae (ao b) W ((((((((W.setCell ⟨b,0,none⟩ v0).setCell ⟨b,1,none⟩ v1).setCell ⟨b,2,none⟩ v2).setCell ⟨b,3,none⟩ v3).setCell ⟨b,4,none⟩ v4).setCell ⟨b,5,none⟩ v5).setCell ⟨b,6,none⟩ v6).setCell ⟨b,7,none⟩ v7):=by
 have:=dz [v0,v1,v2,v3,v4,v5,v6,v7] 0 A W h
 rw[jd _ _ hA]at this
 exact this
structure mU(w D:World)(bT:Nat)(a b:Ac)(HA HB:Nat):Prop where
 hD:D=((w.alloc (.cells #[.int .i64 a.spot,.bool a.wr,.int .i64 a.kind,.int .i64 a.num,.int .u64 a.things] 146)).alloc (.cells #[.int .i64 b.spot,.bool b.wr,.int .i64 b.kind,.int .i64 b.num,.int .u64 b.things] 146)).alloc (.cells #[.int .i64 0,.int .i64 0,.int .i64 0,.int .i64 0,.int .i64 0,.int .i64 0,.slice none 0 0,.slice none 0 0] 36)
 kD:Below w.heap.size w D
 b1:an D w.heap.size #[.int .i64 a.spot,.bool a.wr,.int .i64 a.kind,.int .i64 a.num,.int .u64 a.things]
 b2:an D (w.heap.size+1) #[.int .i64 b.spot,.bool b.wr,.int .i64 b.kind,.int .i64 b.num,.int .u64 b.things]
 b3:D.heap[w.heap.size+1+1]?=some (.cells #[.int .i64 0,.int .i64 0,.int .i64 0,.int .i64 0,.int .i64 0,.int .i64 0,.slice none 0 0,.slice none 0 0] 36 (0,0))
 hA:D.cell? ⟨bT,2+a.spot,none⟩=some (.int .u64 (HA:Nat))
 hB:D.cell? ⟨bT,2+b.spot,none⟩=some (.int .u64 (HB:Nat))
 hai:((a.spot:Nat):Int)< 53
 hbi:((b.spot:Nat):Int)< 53
theorem AN{w:World}{bT bR:Nat}{held about:List Nat}{a b:Ac}(ht:fQ w bT bR held about)(ha:a.spot< 53)(hb:b.spot< 53):∃D,mU w D bT a b (held.getD a.spot 0) (held.getD b.spot 0):=by
 obtain⟨D,hD⟩:∃W,W=((w.alloc (.cells #[.int .i64 a.spot,.bool a.wr,.int .i64 a.kind,.int .i64 a.num,.int .u64 a.things] 146)).alloc (.cells #[.int .i64 b.spot,.bool b.wr,.int .i64 b.kind,.int .i64 b.num,.int .u64 b.things] 146)).alloc (.cells #[.int .i64 0,.int .i64 0,.int .i64 0,.int .i64 0,.int .i64 0,.int .i64 0,.slice none 0 0,.slice none 0 0] 36):=⟨_,rfl⟩
 have kD:Below w.heap.size w D:=by rw[hD];exact(((Below.refl _ w).alloc (Nat.le_refl _) _).alloc (by simp) _).alloc (by simp;omega) _
 refine⟨D,hD,kD,?_,?_,?_,(ht.keep kD).heldC (by omega),(ht.keep kD).heldC (by omega),by omega,by omega⟩
 ·rw[hD];exact((an.new w _ _).alloc _).alloc _
 ·rw[hD];exact(an.new' _ _ _ _ (by simp)).alloc _
 ·rw[hD]
  have:=heap_alloc_new ((w.alloc (.cells #[.int .i64 a.spot,.bool a.wr,.int .i64 a.kind,.int .i64 a.num,.int .u64 a.things] 146)).alloc (.cells #[.int .i64 b.spot,.bool b.wr,.int .i64 b.kind,.int .i64 b.num,.int .u64 b.things] 146)) (.cells #[.int .i64 0,.int .i64 0,.int .i64 0,.int .i64 0,.int .i64 0,.int .i64 0,.slice none 0 0,.slice none 0 0] 36)
  rw[World.size_alloc,World.size_alloc]at this
  exact this
theorem AQ{w D:World}{bT:Nat}{a b:Ac}{HA HB:Nat}(h:mU w D bT a b HA HB)(ea:a.wr=false)(eb:b.wr=false):
  Calls Tryz.prog 49 #[ak bT,.agg #[.int .i64 a.spot,.bool a.wr,.int .i64 a.kind,.int .i64 a.num,.int .u64 a.things],.agg #[.int .i64 b.spot,.bool b.wr,.int .i64 b.kind,.int .i64 b.num,.int .u64 b.things]] w fun r w'=>gE w.heap.size none r w'∧Below w.heap.size w w':=by
 have r1:=dt
 have HD:=aa h.hD
 have HKD:=aa h.kD
 have HB3:=aa h.b3
 have hai:=h.hai
 have hbi:=h.hbi
 have hA:=h.hA
 have hB:=h.hB
 have hTl:bT< D.heap.size:=ah hA
 have hz:=af h.b3
 have hzl:=hz.lt
 have g0:D.cell? ⟨w.heap.size,0,none⟩=some (.int .i64 a.spot):=h.b1.cell 0
 have g1:D.cell? ⟨w.heap.size+1,0,none⟩=some (.int .i64 b.spot):=h.b2.cell 0
 have w1:D.cell? ⟨w.heap.size,1,none⟩=some (.bool a.wr):=h.b1.cell 1
 have w2:D.cell? ⟨w.heap.size+1,1,none⟩=some (.bool b.wr):=h.b2.cell 1
 have p0:D.cell? ⟨w.heap.size+1+1,0,none⟩=some (.int .i64 0):=hz.cell 0
 have fz0:D.frozen? ⟨w.heap.size+1+1,0,none⟩=false:=hz.fz 0
 have p1:D.cell? ⟨w.heap.size+1+1,1,none⟩=some (.int .i64 0):=hz.cell 1
 have fz1:D.frozen? ⟨w.heap.size+1+1,1,none⟩=false:=hz.fz 1
 have p2:D.cell? ⟨w.heap.size+1+1,2,none⟩=some (.int .i64 0):=hz.cell 2
 have fz2:D.frozen? ⟨w.heap.size+1+1,2,none⟩=false:=hz.fz 2
 have p3:D.cell? ⟨w.heap.size+1+1,3,none⟩=some (.int .i64 0):=hz.cell 3
 have fz3:D.frozen? ⟨w.heap.size+1+1,3,none⟩=false:=hz.fz 3
 have p4:D.cell? ⟨w.heap.size+1+1,4,none⟩=some (.int .i64 0):=hz.cell 4
 have fz4:D.frozen? ⟨w.heap.size+1+1,4,none⟩=false:=hz.fz 4
 have p5:D.cell? ⟨w.heap.size+1+1,5,none⟩=some (.int .i64 0):=hz.cell 5
 have fz5:D.frozen? ⟨w.heap.size+1+1,5,none⟩=false:=hz.fz 5
 have p6:D.cell? ⟨w.heap.size+1+1,6,none⟩=some (.slice none 0 0):=hz.cell 6
 have fz6:D.frozen? ⟨w.heap.size+1+1,6,none⟩=false:=hz.fz 6
 have p7:D.cell? ⟨w.heap.size+1+1,7,none⟩=some (.slice none 0 0):=hz.cell 7
 have fz7:D.frozen? ⟨w.heap.size+1+1,7,none⟩=false:=hz.fz 7
 rw[ea]at w1
 rw[eb]at w2
 clear ea eb h hz
 go_enter Tryz.func49,Tryz.ntmps49
 go_wp2_with fail
 rw[←HD.out]
 go_region_held3 (fun w'=>w'.cell? ⟨w.heap.size,0,none⟩=some (.int .i64 a.spot)∧w'.cell? ⟨w.heap.size+1,0,none⟩=some (.int .i64 b.spot)∧w'.cell? ⟨bT,2+a.spot,none⟩=some (.int .u64 (HA:Nat))∧w'.cell? ⟨bT,2+b.spot,none⟩=some (.int .u64 (HB:Nat))) (first|exact⟨g0,g1,hA,hB⟩|go_keep) (fail)
 all_goals
  go_wp2_with fail
  obtain⟨W8,hW8⟩:∃W',W'=((((((((D.setCell ⟨w.heap.size+1+1,0,none⟩ (.int .i64 0)).setCell ⟨w.heap.size+1+1,1,none⟩ (.int .i64 0)).setCell ⟨w.heap.size+1+1,2,none⟩ (.int .i64 0)).setCell ⟨w.heap.size+1+1,3,none⟩ (.int .i64 0)).setCell ⟨w.heap.size+1+1,4,none⟩ (.int .i64 0)).setCell ⟨w.heap.size+1+1,5,none⟩ (.int .i64 0)).setCell ⟨w.heap.size+1+1,6,none⟩ (.slice none 0 0)).setCell ⟨w.heap.size+1+1,7,none⟩ (.slice none 0 0)).drew:=⟨_,rfl⟩
  have h8:=ov HB3.out rfl (.int .i64 0) (.int .i64 0) (.int .i64 0) (.int .i64 0) (.int .i64 0) (.int .i64 0) (.slice none 0 0) (.slice none 0 0)
  have hh:W8.heap[w.heap.size+1+1]?=some (.cells #[.int .i64 0,.int .i64 0,.int .i64 0,.int .i64 0,.int .i64 0,.int .i64 0,.slice none 0 0,.slice none 0 0] 36 (0,0)):=by subst hW8;rw[jB];exact h8.1
  have kk:Below w.heap.size w W8:=by subst hW8;exact(aE HKD.out h8.2 (by omega)).drew
  rw[←hW8]
  clear hW8 h8
  refine bodyPost_ret (dP rfl _ _ (w.heap.size+1+1) 36 _ (0,0) _ rfl hh Tryz.underlying36 rfl ew) rfl ⟨fP w.heap.size W8 _ rfl,kk⟩
theorem AP{w D:World}{bT:Nat}{a b:Ac}{HA HB:Nat}(h:mU w D bT a b HA HB)(ea:a.wr=false)(eb:b.wr=true)(hnb:(((dg HA HB:Nat):Int)!=0)=true):
  Calls Tryz.prog 49 #[ak bT,.agg #[.int .i64 a.spot,.bool a.wr,.int .i64 a.kind,.int .i64 a.num,.int .u64 a.things],.agg #[.int .i64 b.spot,.bool b.wr,.int .i64 b.kind,.int .i64 b.num,.int .u64 b.things]] w fun r w'=>gE w.heap.size none r w'∧Below w.heap.size w w':=by
 have r1:=dt
 have HD:=aa h.hD
 have HKD:=aa h.kD
 have HB3:=aa h.b3
 have hai:=h.hai
 have hbi:=h.hbi
 have hA:=h.hA
 have hB:=h.hB
 have hTl:bT< D.heap.size:=ah hA
 have hz:=af h.b3
 have hzl:=hz.lt
 have g0:D.cell? ⟨w.heap.size,0,none⟩=some (.int .i64 a.spot):=h.b1.cell 0
 have g1:D.cell? ⟨w.heap.size+1,0,none⟩=some (.int .i64 b.spot):=h.b2.cell 0
 have w1:D.cell? ⟨w.heap.size,1,none⟩=some (.bool a.wr):=h.b1.cell 1
 have w2:D.cell? ⟨w.heap.size+1,1,none⟩=some (.bool b.wr):=h.b2.cell 1
 have p0:D.cell? ⟨w.heap.size+1+1,0,none⟩=some (.int .i64 0):=hz.cell 0
 have fz0:D.frozen? ⟨w.heap.size+1+1,0,none⟩=false:=hz.fz 0
 have p1:D.cell? ⟨w.heap.size+1+1,1,none⟩=some (.int .i64 0):=hz.cell 1
 have fz1:D.frozen? ⟨w.heap.size+1+1,1,none⟩=false:=hz.fz 1
 have p2:D.cell? ⟨w.heap.size+1+1,2,none⟩=some (.int .i64 0):=hz.cell 2
 have fz2:D.frozen? ⟨w.heap.size+1+1,2,none⟩=false:=hz.fz 2
 have p3:D.cell? ⟨w.heap.size+1+1,3,none⟩=some (.int .i64 0):=hz.cell 3
 have fz3:D.frozen? ⟨w.heap.size+1+1,3,none⟩=false:=hz.fz 3
 have p4:D.cell? ⟨w.heap.size+1+1,4,none⟩=some (.int .i64 0):=hz.cell 4
 have fz4:D.frozen? ⟨w.heap.size+1+1,4,none⟩=false:=hz.fz 4
 have p5:D.cell? ⟨w.heap.size+1+1,5,none⟩=some (.int .i64 0):=hz.cell 5
 have fz5:D.frozen? ⟨w.heap.size+1+1,5,none⟩=false:=hz.fz 5
 have p6:D.cell? ⟨w.heap.size+1+1,6,none⟩=some (.slice none 0 0):=hz.cell 6
 have fz6:D.frozen? ⟨w.heap.size+1+1,6,none⟩=false:=hz.fz 6
 have p7:D.cell? ⟨w.heap.size+1+1,7,none⟩=some (.slice none 0 0):=hz.cell 7
 have fz7:D.frozen? ⟨w.heap.size+1+1,7,none⟩=false:=hz.fz 7
 rw[ea]at w1
 rw[eb]at w2
 clear ea eb h hz
 go_enter Tryz.func49,Tryz.ntmps49
 go_wp2_with fail
 rw[←HD.out]
 go_region_held3 (fun w'=>w'.cell? ⟨w.heap.size,0,none⟩=some (.int .i64 a.spot)∧w'.cell? ⟨w.heap.size+1,0,none⟩=some (.int .i64 b.spot)∧w'.cell? ⟨bT,2+a.spot,none⟩=some (.int .u64 (HA:Nat))∧w'.cell? ⟨bT,2+b.spot,none⟩=some (.int .u64 (HB:Nat))) (first|exact⟨g0,g1,hA,hB⟩|go_keep) (fail)
 all_goals
  go_wp2_with fail
  obtain⟨W8,hW8⟩:∃W',W'=((((((((D.setCell ⟨w.heap.size+1+1,0,none⟩ (.int .i64 0)).setCell ⟨w.heap.size+1+1,1,none⟩ (.int .i64 0)).setCell ⟨w.heap.size+1+1,2,none⟩ (.int .i64 0)).setCell ⟨w.heap.size+1+1,3,none⟩ (.int .i64 0)).setCell ⟨w.heap.size+1+1,4,none⟩ (.int .i64 0)).setCell ⟨w.heap.size+1+1,5,none⟩ (.int .i64 0)).setCell ⟨w.heap.size+1+1,6,none⟩ (.slice none 0 0)).setCell ⟨w.heap.size+1+1,7,none⟩ (.slice none 0 0)).drew:=⟨_,rfl⟩
  have h8:=ov HB3.out rfl (.int .i64 0) (.int .i64 0) (.int .i64 0) (.int .i64 0) (.int .i64 0) (.int .i64 0) (.slice none 0 0) (.slice none 0 0)
  have hh:W8.heap[w.heap.size+1+1]?=some (.cells #[.int .i64 0,.int .i64 0,.int .i64 0,.int .i64 0,.int .i64 0,.int .i64 0,.slice none 0 0,.slice none 0 0] 36 (0,0)):=by subst hW8;rw[jB];exact h8.1
  have kk:Below w.heap.size w W8:=by subst hW8;exact(aE HKD.out h8.2 (by omega)).drew
  rw[←hW8]
  clear hW8 h8
  refine bodyPost_ret (dP rfl _ _ (w.heap.size+1+1) 36 _ (0,0) _ rfl hh Tryz.underlying36 rfl ew) rfl ⟨fP w.heap.size W8 _ rfl,kk⟩
theorem AO{w D:World}{bT:Nat}{a b:Ac}{HA HB:Nat}(h:mU w D bT a b HA HB)(ea:a.wr=true)(hnb:(((dg HA HB:Nat):Int)!=0)=true):
  Calls Tryz.prog 49 #[ak bT,.agg #[.int .i64 a.spot,.bool a.wr,.int .i64 a.kind,.int .i64 a.num,.int .u64 a.things],.agg #[.int .i64 b.spot,.bool b.wr,.int .i64 b.kind,.int .i64 b.num,.int .u64 b.things]] w fun r w'=>gE w.heap.size none r w'∧Below w.heap.size w w':=by
 have r1:=dt
 have HD:=aa h.hD
 have HKD:=aa h.kD
 have HB3:=aa h.b3
 have hai:=h.hai
 have hbi:=h.hbi
 have hA:=h.hA
 have hB:=h.hB
 have hTl:bT< D.heap.size:=ah hA
 have hz:=af h.b3
 have hzl:=hz.lt
 have g0:D.cell? ⟨w.heap.size,0,none⟩=some (.int .i64 a.spot):=h.b1.cell 0
 have g1:D.cell? ⟨w.heap.size+1,0,none⟩=some (.int .i64 b.spot):=h.b2.cell 0
 have w1:D.cell? ⟨w.heap.size,1,none⟩=some (.bool a.wr):=h.b1.cell 1
 have w2:D.cell? ⟨w.heap.size+1,1,none⟩=some (.bool b.wr):=h.b2.cell 1
 have p0:D.cell? ⟨w.heap.size+1+1,0,none⟩=some (.int .i64 0):=hz.cell 0
 have fz0:D.frozen? ⟨w.heap.size+1+1,0,none⟩=false:=hz.fz 0
 have p1:D.cell? ⟨w.heap.size+1+1,1,none⟩=some (.int .i64 0):=hz.cell 1
 have fz1:D.frozen? ⟨w.heap.size+1+1,1,none⟩=false:=hz.fz 1
 have p2:D.cell? ⟨w.heap.size+1+1,2,none⟩=some (.int .i64 0):=hz.cell 2
 have fz2:D.frozen? ⟨w.heap.size+1+1,2,none⟩=false:=hz.fz 2
 have p3:D.cell? ⟨w.heap.size+1+1,3,none⟩=some (.int .i64 0):=hz.cell 3
 have fz3:D.frozen? ⟨w.heap.size+1+1,3,none⟩=false:=hz.fz 3
 have p4:D.cell? ⟨w.heap.size+1+1,4,none⟩=some (.int .i64 0):=hz.cell 4
 have fz4:D.frozen? ⟨w.heap.size+1+1,4,none⟩=false:=hz.fz 4
 have p5:D.cell? ⟨w.heap.size+1+1,5,none⟩=some (.int .i64 0):=hz.cell 5
 have fz5:D.frozen? ⟨w.heap.size+1+1,5,none⟩=false:=hz.fz 5
 have p6:D.cell? ⟨w.heap.size+1+1,6,none⟩=some (.slice none 0 0):=hz.cell 6
 have fz6:D.frozen? ⟨w.heap.size+1+1,6,none⟩=false:=hz.fz 6
 have p7:D.cell? ⟨w.heap.size+1+1,7,none⟩=some (.slice none 0 0):=hz.cell 7
 have fz7:D.frozen? ⟨w.heap.size+1+1,7,none⟩=false:=hz.fz 7
 rw[ea]at w1
 clear ea h hz
 go_enter Tryz.func49,Tryz.ntmps49
 go_wp2_with fail
 rw[←HD.out]
 go_region_held3 (fun w'=>w'.cell? ⟨w.heap.size,0,none⟩=some (.int .i64 a.spot)∧w'.cell? ⟨w.heap.size+1,0,none⟩=some (.int .i64 b.spot)∧w'.cell? ⟨bT,2+a.spot,none⟩=some (.int .u64 (HA:Nat))∧w'.cell? ⟨bT,2+b.spot,none⟩=some (.int .u64 (HB:Nat))) (first|exact⟨g0,g1,hA,hB⟩|go_keep) (fail)
 all_goals
  go_wp2_with fail
  obtain⟨W8,hW8⟩:∃W',W'=((((((((D.setCell ⟨w.heap.size+1+1,0,none⟩ (.int .i64 0)).setCell ⟨w.heap.size+1+1,1,none⟩ (.int .i64 0)).setCell ⟨w.heap.size+1+1,2,none⟩ (.int .i64 0)).setCell ⟨w.heap.size+1+1,3,none⟩ (.int .i64 0)).setCell ⟨w.heap.size+1+1,4,none⟩ (.int .i64 0)).setCell ⟨w.heap.size+1+1,5,none⟩ (.int .i64 0)).setCell ⟨w.heap.size+1+1,6,none⟩ (.slice none 0 0)).setCell ⟨w.heap.size+1+1,7,none⟩ (.slice none 0 0)).drew:=⟨_,rfl⟩
  have h8:=ov HB3.out rfl (.int .i64 0) (.int .i64 0) (.int .i64 0) (.int .i64 0) (.int .i64 0) (.int .i64 0) (.slice none 0 0) (.slice none 0 0)
  have hh:W8.heap[w.heap.size+1+1]?=some (.cells #[.int .i64 0,.int .i64 0,.int .i64 0,.int .i64 0,.int .i64 0,.int .i64 0,.slice none 0 0,.slice none 0 0] 36 (0,0)):=by subst hW8;rw[jB];exact h8.1
  have kk:Below w.heap.size w W8:=by subst hW8;exact(aE HKD.out h8.2 (by omega)).drew
  rw[←hW8]
  clear hW8 h8
  refine bodyPost_ret (dP rfl _ _ (w.heap.size+1+1) 36 _ (0,0) _ rfl hh Tryz.underlying36 rfl ew) rfl ⟨fP w.heap.size W8 _ rfl,kk⟩
end
section
set_option maxRecDepth 100000
set_option maxHeartbeats 4000000
open Go.RowKit Go.Shelf
theorem si:∀(l:List Value) (A:Array Value) (o k:Nat),(l.zipIdx k).foldl (fun cs (x:Value×Nat)=>cs.setIfInBounds (o+x.2) x.1) A=gm A (o+k) l:=by
 intro l
 induction l with
 |nil=>intro A o k;rfl
 |cons a l ih=>intro A o k;rw[List.zipIdx_cons,List.foldl_cons,ih];rfl
theorem kI(A B:Array Value)(o n:Nat)(h:B.size=n):Array.foldl (fun cs (x:Value×Nat)=>cs.setIfInBounds (o+x.2) x.1) A B.zipIdx 0 n=gm A o B.toList:=by
 subst h
 have e:B.size=B.zipIdx.size:=by simp
 rw[e,←Array.foldl_toList,Array.toList_zipIdx,si]
 rfl
theorem nT(P Q R:Array Value)(vs:List Value)(h:Q.size=vs.length):gm (P++Q++R) P.size vs=P++vs.toArray++R:=by
 refine Array.ext_getElem? fun j=>?_
 by_cases hj:j< (P++Q++R).size
 ·rw[kx _ _ _ _ hj]
  simp only[Array.getElem?_append,Array.size_append,List.size_toArray]
  by_cases h1:j< P.size
  ·rw[if_neg (by omega),if_pos (by omega),if_pos h1,if_pos (by omega),if_pos h1]
  ·by_cases h2:j< P.size+vs.length
   ·rw[if_pos (by omega),if_pos (by omega),if_neg h1];simp
   ·rw[if_neg (by omega),if_neg (by omega),if_neg (by omega),h]
 ·rw[Array.getElem?_eq_none (by rw[io];omega),Array.getElem?_eq_none (by simp at hj⊢;omega)]
theorem qW(a b:Value):(Tryz.zeroCells178.setIfInBounds 0 a).setIfInBounds 1 b=#[a,b]++ab (List.replicate 53 0)++ab (List.replicate 53 0):=by kernel_rfl
theorem vo(a b:Value){l m:List Nat}(hl:l.length=53)(hm:m.length=53):gm (gm (#[a,b]++ab (List.replicate 53 0)++ab (List.replicate 53 0)) 2 (ab l).toList) 55 (ab m).toList=#[a,b]++ab l++ab m:=by
 have e1:gm (#[a,b]++ab (List.replicate 53 0)++ab (List.replicate 53 0)) 2 (ab l).toList=#[a,b]++ab l++ab (List.replicate 53 0):=by
  have:=nT #[a,b] (ab (List.replicate 53 0)) (ab (List.replicate 53 0)) (ab l).toList (by simp[ar,hl])
  rw[Array.toArray_toList]at this
  exact this
 rw[e1]
 have:=nT (#[a,b]++ab l) (ab (List.replicate 53 0)) #[] (ab m).toList (by simp[ar,hm])
 rw[Array.append_empty,Array.append_empty,Array.toArray_toList]at this
 have e2:(#[a,b]++ab l).size=55:=by simp[ar,hl]
 rw[e2]at this
 exact this
structure sT(y:Fl)(x:Rp)(cs held about:List Nat)(sh:Nat):Prop where
 of:∃S ent t rs bl,xf y S ent t rs bl∧x=y.r6 S t rs bl
 ok:ei x
 sp:ci x
 wh:qU x
 ag:jH x
 dok:∀s,s< 64→x.spots.testBit s=true→sY x (x.madeF x.stmts.length) s
 n60:x.stmts.length≤53
 n0:0< x.stmts.length
 so:∀s,s< x.stmts.length→gM (x.st s)
 sm:x.starts.length< 60
 set:∃k0,aM (x.roundG (x.madeF x.stmts.length)) k0 (List.replicate 104 0)=some cs
 okc:iI cs
 shr:bK (yZ cs) 70 (x.firstH cs).1 (x.firstH cs).1=some sh
 fh:(x.firstH cs).1< bI
 sh6:sh< 64
 mu:x.mutexes< 64
 nn:∀s,s< x.stmts.length→(x.st s).p.nn< 64
 s53:∀s,s< 64→x.spots.testBit s=true→s< 53∧x.isCall s=false
 b53:∀f,f< x.begins.length→x.begins.getD f 0< 53
 nst:∀s,s< x.stmts.length→x.isStart s=true→(x.st s).p.nn< x.begins.length
 nx:∀s t,s< 64→x.spots.testBit s=true→t< 64→(x.nextOf s).testBit t=true→t< 53
 hset:∃k0,aM (x.passM x.heldB x.spots) k0 (x.hf3 (cj (aC x.mutexes)))=some held
 hw:Wd 53 held
 rn:x.runs.length=x.starts.length+1
 bw:x.below.length=x.starts.length
 fn:∀s,s< x.stmts.length→(x.st s).fn< 5
 jn:∀s,s< x.stmts.length→(x.st s).p.kind=8→0< (x.st s).r.length∧((x.st s).r.getD 0 ⟨[],0,0,0⟩).num< 6
 sk:∀s k,x.startAt s=some k→k< x.starts.length
 aset:∃k0,aM (x.passS (x.aboutB cs) x.mainS) k0 (List.replicate 53 0)=some about
 aw:Wd 53 about
 rr:∀s,s< x.stmts.length→(x.st s).p.kind=2∨(x.st s).p.kind=4→0< (x.st s).r.length
theorem Bb{w:World}{bF sh:Nat}{y:Fl}{x:Rp}{cs held about:List Nat}(h:lE w bF y)(ok:sT y x cs held about sh)(hT:Tz w)(hg:0< w.heap.size):
  Calls Tryz.prog 47 #[ak bF] w fun r w'=>∃bT bR,r=.returned (ak bT)∧fQ w' bT bR held about∧aP w' bR x∧(∃v,w'.cell? ⟨bT,1,none⟩=some v∧w'.ownsRow w.heap.size 146 5 v (x.accs cs sh).length (iA (x.accs cs sh)))∧Below w.heap.size w w':=by
 obtain⟨S,ent,t,rs,bl,hof,hxe⟩:=ok.of
 have H1:=Ch h hof hg hT
 rw[←hxe]at H1
 have HOF:=aa H1
 have HT:=aa hT
 have HOK:=aa ok
 clear h hof hT H1 ok hxe
 go_enter Tryz.func47,Tryz.ntmps47
 go_wp2_with fail
 refine HOF.out.mono ?_
 rintro q w1 ⟨bR,rfl,hx1,hb1⟩
 obtain⟨k0,hset⟩:=HOK.out.set
 have HHO:=aa (Cq hx1 HOK.out.sp HOK.out.dok (by have:=HOK.out.n60;omega) HOK.out.n0 (fun k hk=>by have:=HOK.out.ag.st k hk;have:=HOK.out.n60;exact⟨HOK.out.ag.st k hk,by omega⟩) HOK.out.so (by have:=HOK.out.sm;omega) (HT.out.below hb1) (Nat.lt_of_lt_of_le hg hb1.size) hset HOK.out.okc HOK.out.shr HOK.out.fh HOK.out.sh6)
 have HX1:=aa hx1
 have HB1:=aa hb1
 clear hx1 hb1 HOF
 go_wp2_with fail
 refine HHO.out.mono ?_
 rintro q w2 ⟨bH,rfl,hh2,hb2⟩
 have kw2:Below w.heap.size w w2:=HB1.out.trans (hb2.mono HB1.out.size)
 have hx2:=HX1.out.keep hb2
 have HAC:=aa (tS hx2 hh2 HOK.out.sp HOK.out.so HOK.out.rr (HT.out.below kw2) (Nat.lt_of_lt_of_le hg kw2.size))
 have HX2:=aa hx2
 have HH2:=aa hh2
 have HK2:=aa kw2
 clear hb2 kw2 hx2 hh2 HHO HX1 HB1
 go_wp2_with fail
 refine HAC.out.mono ?_
 rintro q w3 ⟨v3,rfl,ho3,hb3⟩
 obtain⟨p3,c3,rfl⟩:=ai ho3
 have kw3:Below w.heap.size w w3:=HK2.out.trans (hb3.mono HK2.out.size)
 have hx3:=HX2.out.keep hb3
 obtain⟨k1,hse1⟩:=HOK.out.hset
 have HHE:=aa (Bu hx3 HOK.out.ok HOK.out.sp HOK.out.wh HOK.out.mu HOK.out.nn HOK.out.s53 HOK.out.b53 HOK.out.nst HOK.out.nx (HT.out.below kw3) (Nat.lt_of_lt_of_le hg kw3.size) hse1 HOK.out.hw)
 have HX3:=aa hx3
 have HH3:=aa (HH2.out.keep hb3)
 have HO3:=aa (cQ ho3 w.heap.size HK2.out.size)
 have HK3:=aa kw3
 clear hb3 kw3 hx3 ho3 HAC HX2 HH2 HK2
 go_wp2_with fail
 refine HHE.out.mono ?_
 rintro q w4 ⟨rfl,hb4⟩
 have kw4:Below w.heap.size w w4:=HK3.out.trans (hb4.mono HK3.out.size)
 have hx4:=HX3.out.keep hb4
 have hh4:=HH3.out.keep hb4
 obtain⟨k2,hse2⟩:=HOK.out.aset
 have HAB:=aa (At hx4 hh4 HOK.out.ok HOK.out.sp HOK.out.s53 (by rw[HOK.out.rn];omega) (by have:=HOK.out.sm;omega) HOK.out.bw HOK.out.fn HOK.out.jn HOK.out.sk HOK.out.nx (HT.out.below kw4) (Nat.lt_of_lt_of_le hg kw4.size) hse2 HOK.out.aw)
 have HX4:=aa hx4
 have HO4:=aa (ay HO3.out hb4)
 have HK4:=aa kw4
 clear hb4 kw4 hx4 hh4 HHE HX3 HH3 HK3 HO3
 go_wp2_with fail
 refine HAB.out.mono ?_
 rintro q w5 ⟨rfl,hb5⟩
 have HX5:=aa (HX4.out.keep hb5)
 have HO5:=aa (ay HO4.out hb5)
 have HK5:Hid (Below w.heap.size w w5):=HK4.out.trans (hb5.mono HK4.out.size)
 have z1:(ab held).size=53:=by rw[ar,HOK.out.hw.len]
 have z2:(ab about).size=53:=by rw[ar,HOK.out.aw.len]
 clear hb5 HAB HX4 HK4 HO4
 go_wp2_with fail
 ·exfalso
  have hh:=h
  rw[kI _ _ _ _ z1,io,qW]at hh
  simp[ar]at hh
 ·have HRT:Hid (an (w5.alloc (.cells (#[ak bR,.slice p3 (x.accs cs sh).length c3]++ab held++ab about) 178)) w5.heap.size (#[ak bR,.slice p3 (x.accs cs sh).length c3]++ab held++ab about)):=an.new w5 _ _
  rw[kI _ _ _ _ z2,kI _ _ _ _ z1,qW,vo _ _ HOK.out.hw.len HOK.out.aw.len]
  have k6:Below w5.heap.size w5 (w5.alloc (.cells (#[ak bR,.slice p3 (x.accs cs sh).length c3]++ab held++ab about) 178)):=(Below.refl _ w5).alloc (Nat.le_refl _) _
  go_ret
  refine⟨w5.heap.size,bR,rfl,⟨⟨_,HRT.out⟩,HOK.out.hw.len,HOK.out.aw.len⟩,HX5.out.keep k6,⟨_,?_,ay HO5.out k6⟩,HK5.out.trans (k6.mono HK5.out.size)⟩
  rw[HRT.out.cell,Array.getElem?_append_left (by simp[ar];omega),Array.getElem?_append_left (by simp)]
  rfl
end
end Go.Proofs.YtmdaflepdaiabaaGreatDoor
