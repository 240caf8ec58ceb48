import Derived.Test.YtmdaflepdaiabaaGreatDoorQ10
import Derived.Test.YtmdaflepdaiabaaGreatDoorQ26
set_option linter.unusedSimpArgs false
set_option linter.unusedVariables false
namespace Go.Proofs.YtmdaflepdaiabaaGreatDoor
section
set_option maxRecDepth 100000
set_option maxHeartbeats 2000000
open Go.RowKit Go.Shelf
attribute [local go_sem] Oper.semAt_some
theorem lE.keep{w w':World}{bF:Nat}{y:Fl}(h:lE w bF y)(k:Below w.heap.size w w'):lE w' bF y:=by
 obtain⟨gv,sv,h1,h2,h3⟩:=h.ex
 exact⟨gv,sv,h1.below k,ay h2 k,h3.below k⟩
theorem dE{A B:World}(k:Below A.heap.size A B):A.grownBy B none:=⟨k.os,k.tape,k.output,k.size,fun i hi _=>k.block i hi⟩
theorem gW{β:Type}{b:Nat}{J:β→World→Prop}(hJ:OwnFrom b J){s:β}{A B:World}(h:J s A)(k:Below A.heap.size A B):J s B:=hJ s A B none h (dE k) (fun r e=>by cases e)
theorem KC.of_grown{A B:World}{row:Option Nat}(hg:A.grownBy B row)(hr:∀r,row=some r→∃o:Obj,A.heap[r]?=some o∧o.isCells=false):KC A B:=by
 have ne:∀(k:Nat) (cur:Array Value) (t:TypeId) (fr:Nat×Nat),A.heap[k]?=some (Obj.cells cur t fr)→B.heap[k]?=some (Obj.cells cur t fr):=fun k cur t fr e=>by
  refine(hg.block k (Array.getElem?_eq_some_iff.1 e).1 (fun h=>?_)).trans e
  obtain⟨o,ho,hc⟩:=hr k h.symm
  rw[e]at ho;cases ho;cases hc
 exact⟨hg.size,fun c t f e=>ne _ c t f e,fun k c t f e _=>ne k c t f e⟩
abbrev dd:=jp×Value×Value
def oO(x:dd):Array Value:=#[.agg (fE x.1 x.2.1 x.2.2)]
def eo(x:dd)(W:World):Prop:=W.ownsRow 0 3 1 x.2.1 x.1.la.length (bV x.1.la)∧W.ownsRow 0 3 1 x.2.2 x.1.lb.length (bV x.1.lb)
namespace Rp
def repsOf(x:Rp)(held about:List Nat)(ps:List (Ac×Ac)):List jp:=ps.filterMap (fun p=>x.repOf held about p.1 p.2)
end Rp
structure ry(x:Rp)(acs:List Ac):Prop where
 ne:acs.length≠0
 few:acs.length< 1000
 pairs:(dh acs).length≤4000
 spot:∀a∈acs,a.spot< x.stmts.length
structure zc(base l yb rb bT bR:Nat)(x:Rp)(held about:List Nat)(J:List dd→World→Prop)(pre:List (Ac×Ac))(V:World):Prop where
 xs:∃xs:List dd,xs.map (·.1)=x.repsOf held about pre∧J xs V
 rp:aP V bR x
 rt:fQ V bT bR held about
 tz:Tz V
 yb:V.heap[yb]?=some (.cells #[.func (.yield l) #[] #[]] 69 (0,0))
 rb:V.heap[rb]?=some (.cells #[ak bT] 136 (0,0))
 sz:base≤V.heap.size
theorem mo{t:TypeId}{cur:Array Value}(h1:t≠24)(h2:t≠4)(h3:t≠36):¬BH t cur:=fun h=>by
 rcases h with⟨_,h|h⟩|⟨h,_⟩<;>contradiction
theorem zc.kc{base l yb rb bT bR:Nat}{x:Rp}{held about:List Nat}{J:List dd→World→Prop}{pre pre':List (Ac×Ac)}{V V':World}(h:zc base l yb rb bT bR x held about J pre V)(k:KC V V')(hx:∃xs:List dd,xs.map (·.1)=x.repsOf held about pre'∧J xs V'):zc base l yb rb bT bR x held about J pre' V':=
 ⟨hx,k.rp h.rp,k.rt h.rt,k.tz h.tz,k.cs _ _ _ _ h.yb (mo (by decide) (by decide) (by decide)),k.cs _ _ _ _ h.rb (mo (by decide) (by decide) (by decide)),Nat.le_trans h.sz k.size⟩
theorem zc.low{base l yb rb bT bR:Nat}{x:Rp}{held about:List Nat}{J:List dd→World→Prop}{pre:List (Ac×Ac)}{V V':World}(h:zc base l yb rb bT bR x held about J pre V)(hJ:OwnFrom base J)(k:Below V.heap.size V V'):zc base l yb rb bT bR x held about J pre V':=by
 obtain⟨xs,h1,h2⟩:=h.xs
 exact h.kc (KC.of_below k) ⟨xs,h1,gW hJ h2 k⟩
theorem pR{m n lr l:Nat}{P:Program}{f:FuncId}{tmps:Array Value}{assign body:Code}{w:World}{R:Ending→World→Prop}(h:RoundIn Fence.wide m P l f tmps assign body w R):RoundIn (Fence.wide.inRound lr) n P l f tmps assign body w R:=⟨h.1,fun c cs _=>h.2 c cs (room_wide _)⟩
theorem BY(n:Nat)(hn:3≤n)(l Bf bF sh:Nat){y:Fl}{x:Rp}{cs held about:List Nat}(W:World)(hfl:lE W bF y)(ok:sT y x cs held about sh)(al:ry x (x.accs cs sh))(hT:Tz W)(hg:0< W.heap.size)(hBf:W.cell? ⟨Bf,0,none⟩=some (ak bF))(J:List dd→World→Prop)(hJ:OwnFrom W.heap.size J)
  (hY:∀pre z W1,J pre W1→eo z W1→pre.length< 4000→YieldAt Fence.wide (n-1) Tryz.prog l (oO z) W1 fun e W'=>e=.returned (.bool true)∧J (pre++[z]) W'∧KC W1 W'∧KeepsFrom W.heap.size W1 W') (h0:J [] W):
  CallsIn Fence.wide n Tryz.prog 46 #[.func (.yield l) #[] #[],.pointer (some ⟨Bf,0,none⟩)] W fun e W'=>(∃v,e=.returned v)∧∃xs:List dd,xs.map (·.1)=x.repsOf held about (dh (x.accs cs sh))∧J xs W':=by
 have lBf:=ah hBf
 have k1:Below W.heap.size W (W.alloc (.cells #[.func (.yield l) #[] #[]] 69)):=(Below.refl _ W).alloc (Nat.le_refl _) _
 generalize hacs:x.accs cs sh=acs at al
 have HN:=aa ((callsIn_wide (n:=n-1)).2 (Bb (hfl.keep k1) ok (hT.below k1) (Nat.lt_of_lt_of_le hg k1.size)))
 rw[hacs]at HN
 have HOK:=aa ok
 have HT:=aa hT
 have HJ:=aa hJ
 have HY:=aa hY
 have H0:=aa h0
 clear hfl ok hT k1 hJ hY h0
 refine callsIn_of_wp_marks Tryz.func46 rfl trivial ?_ rfl
 simp only[Tryz.ntmps46,List.size_toArray,List.length_cons,List.length_nil,Nat.reduceAdd,Nat.reduceSub,Array.replicate_succ,Array.replicate_zero,List.push_toArray,List.append_toArray,List.nil_append,List.cons_append]
 gi_wp2
 refine⟨trivial,fun _=>by omega,?_⟩
 refine HN.out.mono ?_
 rintro q w1 ⟨bT,bR,rfl,ht,hx,⟨v,hv1,hv2⟩,hb1⟩
 have HTR:=aa ht
 have HXR:=aa hx
 have HV1:=aa hv1
 have HV2:=aa hv2
 have HB1:=aa hb1
 clear ht hx hv1 hv2 hb1 HN
 obtain⟨g,c,rfl⟩:=aG HV2.out al.ne
 gi_wp2
 refine⟨trivial,fun _=>by omega,?_⟩
 refine(zC _ _ _).mono ?_
 rintro q wp ⟨rfl,hwp⟩
 have hk2:Below w1.heap.size w1 (w1.alloc (.cells #[ak bT] 136)):=(Below.refl _ _).alloc (Nat.le_refl _) _
 have hk3:Below w1.heap.size w1 wp:=by rw[hwp];exact hk2.alloc (by simp) _
 have hrb:wp.heap[w1.heap.size]?=some (.cells #[ak bT] 136 (0,0)):=by rw[hwp];exact(Below.heap_alloc _ _ _ (by simp)).trans (heap_alloc_new _ _)
 have hnb:wp.heap[w1.heap.size+1]?=some (.cells #[ak bT] 136 (0,0)):=by
  rw[hwp]
  have:=heap_alloc_new (w1.alloc (.cells #[ak bT] 136)) (.cells #[ak bT] 136)
  rw[World.size_alloc]at this
  exact this
 have hyb:wp.heap[W.heap.size]?=some (.cells #[.func (.yield l) #[] #[]] 69 (0,0)):=by
  have h1:=heap_alloc_new W (.cells #[.func (.yield l) #[] #[]] 69)
  have h2:=(HB1.out.block W.heap.size (by simp)).trans h1
  exact(hk3.block _ (Array.getElem?_eq_some_iff.1 h2).1).trans h2
 have HP:=aa (zx (Bn:=w1.heap.size+1) hnb (HTR.out.keep hk3) ((hk3.cell (p:=⟨bT,1,none⟩) (ah HV1.out)).trans HV1.out) (ay HV2.out hk3))
 have HI0:Hid (zc W.heap.size l W.heap.size w1.heap.size bT bR x held about J [] wp):=by
  have kW:Below W.heap.size W wp:=((Below.refl _ W).alloc (Nat.le_refl _) _).trans ((HB1.out.mono (by simp)).trans (hk3.mono (Nat.le_trans (by simp) HB1.out.size)))
  exact⟨⟨[],rfl,gW HJ.out H0.out kW⟩,HXR.out.keep hk3,HTR.out.keep hk3,HT.out.below kW,hyb,hrb,kW.size⟩
 have hcc:acs.length≤c:=by
  rcases HV2.out.2 with⟨e,_⟩|⟨g',cap,cur,e,_,_,h1,_⟩
  ·cases e
  ·cases e;exact h1
 have hz1:W.heap.size≤wp.heap.size:=HI0.out.sz
 have HOK':=HOK
 clear HTR HXR HV1 HV2 HB1 hk2 hk3 hrb hnb hyb H0
 gi_wp2
 rw[show(w1.alloc (Obj.cells #[Value.pointer (some {block:=bT,off:=0})] 136)).alloc (Obj.cells #[ak bT] 136)=wp from hwp.symm]
 clear hwp
 refine wpIn_rangeFunc_ownH (α:=BE acs) rfl (by omega) (gf:=69) (lb:=#[.pointer (some ⟨w1.heap.size+1,0,none⟩)]) rfl trivial (enters_of Tryz.func69 (by kernel_rfl) rfl)
  (rN (n-1) (by omega) (w1.heap.size+1) bT g c acs al.pairs al.ne hcc al.few wp HP.out) KC.trans (fun W' l' o o' _ h1 h2 _=>KC.putObj W' l' o o' h1 h2) (Below.refl _ _) (fun _=>rfl)
  (fun pre V=>zc W.heap.size l W.heap.size w1.heap.size bT bR x held about J (pre.map (·.1)) V)
  (fun _ _ _=>False)
  (fun pre A B row hs hgr hr=>by
   obtain⟨xs,e1,e2⟩:=hs.xs
   exact hs.kc (KC.of_grown hgr (fun r e=>(hr r e).2)) ⟨xs,e1,HJ.out xs A B row e2 hgr (fun r e=>⟨Nat.le_trans hz1 (hr r e).1,(hr r e).2⟩)⟩)
  (fun _ _ _ _ _ hs _ _=>hs)
  HI0.out
  (fun z a' V=>∃p q,a'={tmps:=#[.func (.yield l) #[] #[],.pointer (some ⟨Bf,0,none⟩),.pointer (some ⟨W.heap.size,0,none⟩),.pointer (some ⟨w1.heap.size,0,none⟩),.pointer (some ⟨p,0,none⟩),.pointer (some ⟨q,0,none⟩),undef,undef,ak bF,ak bT,.pointer (some ⟨bT,0,none⟩),.func (.func 69) #[] #[.pointer (some ⟨w1.heap.size+1,0,none⟩)],.agg #[.int .i64 z.1.1.spot,.bool z.1.1.wr,.int .i64 z.1.1.kind,.int .i64 z.1.1.num,.int .u64 z.1.1.things],.agg #[.int .i64 z.1.2.spot,.bool z.1.2.wr,.int .i64 z.1.2.kind,.int .i64 z.1.2.num,.int .u64 z.1.2.things],undef,undef,undef,undef,undef,undef,undef,undef,undef,undef,undef,undef,undef,undef],defers:=[]}∧V.heap[p]?=some (.cells #[.int .i64 z.1.1.spot,.bool z.1.1.wr,.int .i64 z.1.1.kind,.int .i64 z.1.1.num,.int .u64 z.1.1.things] 146 (0,0))∧V.heap[q]?=some (.cells #[.int .i64 z.1.2.spot,.bool z.1.2.wr,.int .i64 z.1.2.kind,.int .i64 z.1.2.num,.int .u64 z.1.2.things] 146 (0,0)))
  (fun z a' _ A B row hs hgr hr=>by
   obtain⟨p,q,e,h1,h2⟩:=hs
   have k:=KC.of_grown hgr (fun r e=>(hr r e).2)
   exact⟨p,q,e,k.cs _ _ _ _ h1 (mo (by decide) (by decide) (by decide)),k.cs _ _ _ _ h2 (mo (by decide) (by decide) (by decide))⟩) ?assign ?body ?done ?stop
 case assign=>
  rintro lr pre z V K hI hK
  have kA:Below V.heap.size V (V.alloc (.cells #[.int .i64 z.1.1.spot,.bool z.1.1.wr,.int .i64 z.1.1.kind,.int .i64 z.1.1.num,.int .u64 z.1.1.things] 146)):=(Below.refl _ V).alloc (Nat.le_refl _) _
  have kB:Below V.heap.size V ((V.alloc (.cells #[.int .i64 z.1.1.spot,.bool z.1.1.wr,.int .i64 z.1.1.kind,.int .i64 z.1.1.num,.int .u64 z.1.1.things] 146)).alloc (.cells #[.int .i64 z.1.2.spot,.bool z.1.2.wr,.int .i64 z.1.2.kind,.int .i64 z.1.2.num,.int .u64 z.1.2.things] 146)):=kA.alloc (by simp) _
  have h1:((V.alloc (.cells #[.int .i64 z.1.1.spot,.bool z.1.1.wr,.int .i64 z.1.1.kind,.int .i64 z.1.1.num,.int .u64 z.1.1.things] 146)).alloc (.cells #[.int .i64 z.1.2.spot,.bool z.1.2.wr,.int .i64 z.1.2.kind,.int .i64 z.1.2.num,.int .u64 z.1.2.things] 146)).heap[V.heap.size]?=some (.cells #[.int .i64 z.1.1.spot,.bool z.1.1.wr,.int .i64 z.1.1.kind,.int .i64 z.1.1.num,.int .u64 z.1.1.things] 146 (0,0)):=(Below.heap_alloc _ _ _ (by simp)).trans (heap_alloc_new _ _)
  have h2:=heap_alloc_new (V.alloc (.cells #[.int .i64 z.1.1.spot,.bool z.1.1.wr,.int .i64 z.1.1.kind,.int .i64 z.1.1.num,.int .u64 z.1.1.things] 146)) (.cells #[.int .i64 z.1.2.spot,.bool z.1.2.wr,.int .i64 z.1.2.kind,.int .i64 z.1.2.num,.int .u64 z.1.2.things] 146)
  rw[World.size_alloc]at h2
  have HK:=aa (hK {tmps:=#[.func (.yield l) #[] #[],.pointer (some ⟨Bf,0,none⟩),.pointer (some ⟨W.heap.size,0,none⟩),.pointer (some ⟨w1.heap.size,0,none⟩),.pointer (some ⟨V.heap.size,0,none⟩),.pointer (some ⟨V.heap.size+1,0,none⟩),undef,undef,ak bF,ak bT,.pointer (some ⟨bT,0,none⟩),.func (.func 69) #[] #[.pointer (some ⟨w1.heap.size+1,0,none⟩)],.agg #[.int .i64 z.1.1.spot,.bool z.1.1.wr,.int .i64 z.1.1.kind,.int .i64 z.1.1.num,.int .u64 z.1.1.things],.agg #[.int .i64 z.1.2.spot,.bool z.1.2.wr,.int .i64 z.1.2.kind,.int .i64 z.1.2.num,.int .u64 z.1.2.things],undef,undef,undef,undef,undef,undef,undef,undef,undef,undef,undef,undef,undef,undef],defers:=[]} _ (KeepsFrom.of_grownBy (dE kB) (fun j e=>by cases e)) (KC.of_below kB) (hI.low HJ.out kB) ⟨_,_,rfl,h1,h2⟩)
  clear hI hK kA kB h1 h2
  gi_wp2
  exact HK.out
 case done=>
  intro D xs V hD hS hI hd
  gi_wp2
  refine⟨by simp,.inl ⟨_,_,rfl,run_takeDeferred hd,?_⟩⟩
  refine⟨_,results_none rfl _ _ _,⟨_,rfl⟩,?_⟩
  obtain⟨zs,e1,e2⟩:=hI.xs
  refine⟨zs,e1.trans (by rw[hS]),HJ.out.putObj _ e2 (by omega) hd rfl⟩
 case stop=>
  intro D c' pre V _ _ hF
  exact hF.elim
 case body=>
  rintro lr pre z a' V hlr ⟨rr,hrr⟩ hI ⟨p,q,rfl,hp,hq⟩ hlen
  have hzV:=hI.sz
  have HR:=aa (xN (a:=z.1.1) (b:=z.1.2) hI.rp hI.rt HOK.out.ok HOK.out.ag (Nat.lt_of_lt_of_le hg hzV) hI.tz (al.spot _ z.2.1) (al.spot _ z.2.2) HOK.out.sm HOK.out.rn HOK.out.n60 HOK.out.hw)
  have b1:=af hp
  have b2:=af hq
  have a0:V.cell? ⟨p,0,none⟩=some (.int .i64 z.1.1.spot):=b1.cell 0
  have a1:V.cell? ⟨p,1,none⟩=some (.bool z.1.1.wr):=b1.cell 1
  have a2:V.cell? ⟨p,2,none⟩=some (.int .i64 z.1.1.kind):=b1.cell 2
  have a3:V.cell? ⟨p,3,none⟩=some (.int .i64 z.1.1.num):=b1.cell 3
  have a4:V.cell? ⟨p,4,none⟩=some (.int .u64 z.1.1.things):=b1.cell 4
  have c0:V.cell? ⟨q,0,none⟩=some (.int .i64 z.1.2.spot):=b2.cell 0
  have c1:V.cell? ⟨q,1,none⟩=some (.bool z.1.2.wr):=b2.cell 1
  have c2:V.cell? ⟨q,2,none⟩=some (.int .i64 z.1.2.kind):=b2.cell 2
  have c3:V.cell? ⟨q,3,none⟩=some (.int .i64 z.1.2.num):=b2.cell 3
  have c4:V.cell? ⟨q,4,none⟩=some (.int .u64 z.1.2.things):=b2.cell 4
  have d0:V.cell? ⟨w1.heap.size,0,none⟩=some (ak bT):=(af hI.rb).cell 0
  have HI:=aa hI
  clear hI hp hq b1 b2
  gi_wp2
  refine⟨trivial,fun _=>by omega,?_⟩
  refine(CallsIn.inRound lr (callsIn_wide.2 HR.out)).mono ?_
  rintro e V1 ⟨hpost,hb1⟩
  have d1:V1.cell? ⟨W.heap.size,0,none⟩=some (.func (.yield l) #[] #[]):=(af ((hb1.block _ (Array.getElem?_eq_some_iff.1 HI.out.yb).1).trans HI.out.yb)).cell 0
  have hzz:=hb1.size
  have HB1:=aa hb1
  clear hb1 HR a0 a1 a2 a3 a4 c0 c1 c2 c3 c4 d0
  generalize ho:x.repOf held about z.1.1 z.1.2=o at hpost
  cases o with
  |none=>
   have he:e=_:=hpost
   subst he
   clear hpost d1
   gi_wp2
   refine⟨(fun f h=>nomatch h),?_⟩
   gi_wp2
   have k9:=HB1.out.alloc HB1.out.size (.cells #[.int .i64 0,.int .i64 0,.int .i64 0,.int .i64 0,.int .i64 0,.int .i64 0,.slice none 0 0,.slice none 0 0] 36)
   refine⟨KeepsFrom.of_grownBy (dE k9) (fun j e=>by cases e),KC.of_below k9,?_⟩
   obtain⟨xs,e1,e2⟩:=HI.out.xs
   refine HI.out.kc (KC.of_below k9) ⟨xs,?_,gW HJ.out e2 k9⟩
   rw[e1]
   simp[Rp.repsOf,ho]
  |some r=>
   obtain⟨la,lb,rfl,hla,hlb⟩:=hpost
   obtain⟨pa,ca,rfl⟩:=ai hla
   obtain⟨pb,cb,rfl⟩:=ai hlb
   have HLA:=aa hla
   have HLB:=aa hlb
   obtain⟨xs,e1,e2⟩:=HI.out.xs
   have k9:=HB1.out.alloc HB1.out.size (.cells (fE r (.slice pa r.la.length ca) (.slice pb r.lb.length cb)) 36)
   have k8:Below V1.heap.size V1 (V1.alloc (.cells (fE r (.slice pa r.la.length ca) (.slice pb r.lb.length cb)) 36)):=(Below.refl _ _).alloc (Nat.le_refl _) _
   have hxl:xs.length< 4000:=by
    have h1:(xs.map (·.1)).length≤(pre.map (·.1)).length:=by rw[e1];exact List.length_filterMap_le _ _
    simp at h1
    omega
   obtain⟨fn,tmps,assign,body,hy,hR⟩:=HY.out xs (r,.slice pa r.la.length ca,.slice pb r.lb.length cb) (V1.alloc (.cells (fE r (.slice pa r.la.length ca) (.slice pb r.lb.length cb)) 36)) (gW HJ.out e2 k9) ⟨cQ (ay hla k8) 0 (Nat.zero_le _),cQ (ay hlb k8) 0 (Nat.zero_le _)⟩ hxl
   have HR:=aa hR
   have d2:(V1.alloc (.cells (fE r (.slice pa r.la.length ca) (.slice pb r.lb.length cb)) 36)).cell? ⟨W.heap.size,0,none⟩=some (.func (.yield l) #[] #[]):=(k8.cell (p:=⟨W.heap.size,0,none⟩) (ah d1)).trans d1
   have HK9:=aa k9
   clear hR hla hlb k9 k8 d1
   simp only[fE,oO]at hy d2 HR HK9⊢
   gi_wp2
   refine⟨fun _=>by omega,(pR HR.out).mono ?_⟩
   rintro e V2 ⟨rfl,hj2,hkc2,hkf2⟩
   have HJ2:=aa hj2
   have HKC2:=aa ((KC.of_below HK9.out).trans hkc2)
   have HKF2:Hid (KeepsFrom wp.heap.size V V2):=(KeepsFrom.of_grownBy (dE HK9.out) (fun j e=>by cases e)).trans ⟨hkf2.size,fun k o hk=>hkf2.same k o (Nat.le_trans hz1 hk)⟩
   clear hj2 hkc2 hkf2 hy d2 HR
   gi_wp2
   refine⟨HKF2.out,HKC2.out,HI.out.kc HKC2.out ⟨_,?_,HJ2.out⟩⟩
   rw[List.map_append,e1]
   simp[Rp.repsOf,ho]
theorem Aq(n:Nat)(hn:3≤n)(Bf bF sh:Nat){y:Fl}{x:Rp}{cs held about:List Nat}(w:World)(hfl:lE w bF y)(ok:sT y x cs held about sh)(al:ry x (x.accs cs sh))(hT:Tz w)(hg:0< w.heap.size)(hBf:w.cell? ⟨Bf,0,none⟩=some (ak bF)):
  Bw Fence.wide n Tryz.prog 46 #[.pointer (some ⟨Bf,0,none⟩)] oO KC eo (fun xs=>xs.map (·.1)=x.repsOf held about (dh (x.accs cs sh))) 4000 w:=fun l J W hW hJ hY h0=>
 BY n hn l Bf bF sh W (hfl.keep hW) ok al (hT.below hW) (Nat.lt_of_lt_of_le hg hW.size) ((hW.cell (p:=⟨Bf,0,none⟩) (ah hBf)).trans hBf) J hJ hY h0
end
section
set_option maxRecDepth 100000
set_option maxHeartbeats 2000000
open Go.RowKit Go.Shelf
attribute [local go_sem] Oper.semAt_some
theorem KC.of_chg{A B:World}{row:Option Nat}(hg:A.grownBy B row)(hr:∀r,row=some r→r≠0∧∃cur t fr,A.heap[r]?=some (Obj.cells cur t fr)∧BH t cur):KC A B:=by
 refine⟨hg.size,fun c t f e=>?_,fun k c t f e n=>?_⟩
 ·exact(hg.block _ (Array.getElem?_eq_some_iff.1 e).1 (fun h=>(hr _ h.symm).1 rfl)).trans e
 ·refine(hg.block k (Array.getElem?_eq_some_iff.1 e).1 (fun h=>?_)).trans e
  obtain⟨_,c',t',f',e',hc⟩:=hr k h.symm
  rw[e]at e'
  cases e'
  exact n hc
theorem fF{B:Nat}{X Y:World}{row:Option Nat}(hg:X.grownBy Y row)(hr:∀r,row=some r→∃cur t fr,X.heap[r]?=some (Obj.cells cur t fr)):KeepsFrom B X Y:=by
 refine⟨hg.size,fun k o _ ho hn=>(hg.block k (Array.getElem?_eq_some_iff.1 ho).1 (fun h=>?_)).trans ho⟩
 obtain⟨c,t,f,e⟩:=hr k h.symm
 rw[ho]at e
 cases e
 cases hn
theorem xS{w:World}{base n:Nat}{v:Value}{xs:List Value}(h:w.ownsRow base 36 8 v n xs){r:Nat}(e:v.ownBlock=some r):base≤r∧∃cur t fr,w.heap[r]?=some (Obj.cells cur t fr)∧BH t cur:=by
 rcases h.2 with⟨rfl,_⟩|⟨g,cap,cur,rfl,hB,hg,_,_,hs,_⟩
 ·cases e
 ·cases e
  exact⟨hB,cur,_,_,hg,.inr ⟨rfl,by rw[hs];omega⟩⟩
def fV(l:List dd):List Value:=l.flatMap (fun x=>(fE x.1 x.2.1 x.2.2).toList)
theorem me(l:List dd)(x:dd):fV (l++[x])=fV l++(fE x.1 x.2.1 x.2.2).toList:=by simp[fV]
theorem eo.kc{x:dd}{A B:World}(h:eo x A)(k:KC A B):eo x B:=⟨k.own h.1 (by decide) (by decide) (by decide),k.own h.2 (by decide) (by decide) (by decide)⟩
structure pF(w:World)(bn bl bL bm:Nat)(pre:List dd)(W:World):Prop where
 no:W.heap[bn]?=some (.cells #[.bool false] 4 (0,0))
 most:W.heap[bm]?=some (.cells #[.int .i64 5000] 3 (0,0))
 late:W.heap[bl]?=some (.cells #[.int .i64 0] 3 (0,0))
 ls:∃lv,W.heap[bL]?=some (.cells #[lv] 24 (0,0))∧W.ownsRow w.heap.size 36 8 lv pre.length (fV pre)
 g:∀x∈pre,eo x W
 kp:Below w.heap.size w W
 hn:w.heap.size≤bn
 hL:w.heap.size≤bL
theorem pF.own{w:World}{bn bl bL bm B:Nat}(hB:w.heap.size≤B):OwnFrom B (pF w bn bl bL bm):=fun pre A C row h hg hr=>by
 have k:=KC.of_grown hg (fun r e=>(hr r e).2)
 have ne:∀(k:Nat) (cur:Array Value) (t:TypeId) (fr:Nat×Nat),A.heap[k]?=some (Obj.cells cur t fr)→C.heap[k]?=some (Obj.cells cur t fr):=fun k cur t fr e=>by
  refine(hg.block k (Array.getElem?_eq_some_iff.1 e).1 (fun h=>?_)).trans e
  obtain⟨o,ho,hc⟩:=(hr k h.symm).2
  rw[e]at ho;cases ho;cases hc
 obtain⟨lv,h1,h2⟩:=h.ls
 refine⟨ne _ _ _ _ h.no,ne _ _ _ _ h.most,ne _ _ _ _ h.late,⟨lv,ne _ _ _ _ h1,?_⟩,fun x hx=>(h.g x hx).kc k,h.kp.grown hg h.kp.size (fun r e=>by have:=(hr r e).1;omega),h.hn,h.hL⟩
 obtain⟨hl,hh⟩:=h2
 refine⟨hl,?_⟩
 rcases hh with hh|⟨g,cap,cur,e1,hB,hg,r⟩
 ·exact .inl hh
 ·exact .inr ⟨g,cap,cur,e1,hB,ne _ _ _ _ hg,r⟩
theorem ba:(Tryz.prog.info? 36).map (fun i=>(i.zero,i.size,i.bytes))=some (some (.agg #[.int .i64 0,.int .i64 0,.int .i64 0,.int .i64 0,.int .i64 0,.int .i64 0,.slice none 0 0,.slice none 0 0]),8,96):=by kernel_rfl
theorem ee{w:World}{a b:Nat}{x y:Array Value}{s t:TypeId}{f g:Nat×Nat}(h:w.heap[a]?=some (Obj.cells x s f))(k:w.heap[b]?=some (Obj.cells y t g))(hne:s≠t):a≠b:=fun e=>by
 subst e
 rw[h]at k
 cases k
 exact hne rfl
structure BZ(w W w4:World)(bn bl bL bm:Nat)(lv:Value):Prop where
 no:w4.heap[bn]?=some (.cells #[.bool false] 4 (0,0))
 most:w4.heap[bm]?=some (.cells #[.int .i64 5000] 3 (0,0))
 late:w4.heap[bl]?=some (.cells #[.int .i64 0] 3 (0,0))
 ls:w4.heap[bL]?=some (.cells #[lv] 24 (0,0))
 kc:KC W w4
 kf:∀B,KeepsFrom B W w4
 kp:Below w.heap.size w w4
theorem pF.step{w W W2 w4:World}{bn bl bL bm:Nat}{pre:List dd}{lv:Value}(h:pF w bn bl bL bm pre W)(hl:W.heap[bL]?=some (.cells #[lv] 24 (0,0)))(ho:W.ownsRow w.heap.size 36 8 lv pre.length (fV pre))(k:Below W.heap.size W W2)(hg:W2.grownBy w4 lv.ownBlock)(ht:0< w.heap.size):BZ w W w4 bn bl bL bm lv:=by
 have ho2:=ay ho k
 have rw2:∀r,lv.ownBlock=some r→w.heap.size≤r∧∃cur fr,W2.heap[r]?=some (Obj.cells cur 36 fr):=fun r e=>by
  rcases ho2.2 with⟨rfl,_⟩|⟨g,cap,cur,rfl,hB,hg,_⟩
  ·cases e
  ·cases e;exact⟨hB,_,_,hg⟩
 have st:∀(k2:Nat) (cur:Array Value) (t:TypeId) (fr:Nat×Nat),W.heap[k2]?=some (Obj.cells cur t fr)→t≠36→w4.heap[k2]?=some (Obj.cells cur t fr):=fun k2 cur t fr e hne=>by
  have e2:=(k.block k2 (Array.getElem?_eq_some_iff.1 e).1).trans e
  refine(hg.block k2 (Array.getElem?_eq_some_iff.1 e2).1 (fun h=>?_)).trans e2
  obtain⟨_,c',f',e'⟩:=rw2 k2 h.symm
  rw[e2]at e'
  cases e'
  exact hne rfl
 have g1:=dE k
 refine⟨st _ _ _ _ h.no (by decide),st _ _ _ _ h.most (by decide),st _ _ _ _ h.late (by decide),st _ _ _ _ hl (by decide),(KC.of_below k).trans (KC.of_chg hg (fun r e=>?_)),fun B=>(KeepsFrom.of_grownBy g1 (fun j e=>by cases e)).trans (fF hg (fun r e=>?_)),?_⟩
 ·obtain⟨h1,h2⟩:=xS ho2 e
  exact⟨by omega,h2⟩
 ·obtain⟨_,c,f,e⟩:=rw2 r e
  exact⟨c,_,f,e⟩
 ·have kw:=h.kp.trans (k.mono h.kp.size)
  exact kw.grown hg kw.size (fun r e=>(rw2 r e).1)
theorem iP{A B:World}{base e size n b:Nat}{v:Value}{xs:List Value}{cur:Array Value}{t:TypeId}{fr:Nat×Nat}(h:A.ownsRow base e size v n xs)(hg:A.grownBy B (some b))(hb:A.heap[b]?=some (Obj.cells cur t fr))(hne:t≠e):B.ownsRow base e size v n xs:=by
 obtain⟨hl,hh⟩:=h
 refine⟨hl,?_⟩
 rcases hh with hh|⟨g,cap,cur,e1,hB,hgg,r⟩
 ·exact .inl hh
 ·refine .inr ⟨g,cap,cur,e1,hB,(hg.block g (Array.getElem?_eq_some_iff.1 hgg).1 (fun e=>?_)).trans hgg,r⟩
  cases e
  rw[hgg]at hb
  cases hb
  exact hne rfl
theorem qE{A:World}{b:Nat}{v:Value}{t:TypeId}(u:Value)(h:A.heap[b]?=some (.cells #[v] t (0,0))):(A.setCell ⟨b,0,none⟩ u).heap[b]?=some (.cells #[u] t (0,0)):=by
 rw[heap_setCell h]
 rfl
theorem fj{A:World}{b k:Nat}{o:Obj}(u:Value)(h:A.heap[k]?=some o)(hne:k≠b):(A.setCell ⟨b,0,none⟩ u).heap[k]?=some o:=((grownBy_setCell' A b u).block k (Array.getElem?_eq_some_iff.1 h).1 (fun e=>hne (by cases e;rfl))).trans h
theorem BZ.fin{w W w4:World}{bn bl bL bm:Nat}{pre:List dd}{z:dd}{lv v:Value}(s:BZ w W w4 bn bl bL bm lv)(h:pF w bn bl bL bm pre W)(hz:eo z W)(ho:w4.ownsRow w.heap.size 36 8 v (pre.length+1) (fV pre++(fE z.1 z.2.1 z.2.2).toList))(ht:0< w.heap.size)(B:Nat):
  pF w bn bl bL bm (pre++[z]) ((w4.setCell ⟨bL,0,none⟩ v).setCell ⟨bn,0,none⟩ (.bool false))∧KC W ((w4.setCell ⟨bL,0,none⟩ v).setCell ⟨bn,0,none⟩ (.bool false))∧KeepsFrom B W ((w4.setCell ⟨bL,0,none⟩ v).setCell ⟨bn,0,none⟩ (.bool false)):=by
 have n1:bL≠bn:=ee s.ls s.no (by decide)
 have n2:bm≠bL:=ee s.most s.ls (by decide)
 have n3:bm≠bn:=ee s.most s.no (by decide)
 have n4:bl≠bL:=ee s.late s.ls (by decide)
 have n5:bl≠bn:=ee s.late s.no (by decide)
 have hL:=h.hL
 have hn:=h.hn
 have g1:=grownBy_setCell' w4 bL v
 have g2:=grownBy_setCell' (w4.setCell ⟨bL,0,none⟩ v) bn (.bool false)
 have a1:=qE v s.ls
 have a2:=fj v s.no (Ne.symm n1)
 have k1:KC w4 (w4.setCell ⟨bL,0,none⟩ v):=KC.of_chg g1 (fun r e=>by cases e;exact⟨by omega,_,_,_,s.ls,.inl ⟨rfl,.inl rfl⟩⟩)
 have k2:KC (w4.setCell ⟨bL,0,none⟩ v) ((w4.setCell ⟨bL,0,none⟩ v).setCell ⟨bn,0,none⟩ (.bool false)):=KC.of_chg g2 (fun r e=>by cases e;exact⟨by omega,_,_,_,a2,.inl ⟨rfl,.inr rfl⟩⟩)
 have kk:=s.kc.trans (k1.trans k2)
 refine⟨⟨qE _ a2,fj _ (fj _ s.most n2) n3,fj _ (fj _ s.late n4) n5,⟨v,fj _ a1 n1,?_⟩,fun x hx=>?_,?_,hn,hL⟩,kk,(s.kf B).trans ((fF g1 (fun r e=>by cases e;exact⟨_,_,_,s.ls⟩)).trans (fF g2 (fun r e=>by cases e;exact⟨_,_,_,a2⟩)))⟩
 ·rw[me,List.length_append]
  exact iP (iP ho g1 s.ls (by decide)) g2 a2 (by decide)
 ·rcases List.mem_append.1 hx with hx|hx
  ·exact(h.g x hx).kc kk
  ·simp at hx
   subst hx
   exact hz.kc kk
 ·have q1:=s.kp.grown g1 s.kp.size (fun r e=>by cases e;exact hL)
  exact q1.grown g2 q1.size (fun r e=>by cases e;exact hn)
theorem zv{w W:World}{bn bl bL bm:Nat}{pre:List dd}{z:dd}(h:pF w bn bl bL bm pre W)(hz:eo z W)(hlen:pre.length< 4000)(ht:0< w.heap.size)(B:Nat):
  Calls Tryz.prog 23 #[.agg (fE z.1 z.2.1 z.2.2),.pointer (some ⟨bn,0,none⟩),.pointer (some ⟨bl,0,none⟩),.pointer (some ⟨bL,0,none⟩),.pointer (some ⟨bm,0,none⟩)] W fun e W'=>e=.returned (.bool true)∧pF w bn bl bL bm (pre++[z]) W'∧KC W W'∧KeepsFrom B W W':=by
 obtain⟨⟨ra,rb,rn,rf,rra,rrb,rla,rlb⟩,la,lb⟩:=z
 obtain⟨pa,ca,ea⟩:=ai hz.1
 obtain⟨pb,cb,eb⟩:=ai hz.2
 dsimp only at ea eb
 subst ea eb
 obtain⟨i0,hi,hz0,hz1,hz2⟩:=info_parts ba
 obtain⟨lv,h1,h2⟩:=h.ls
 obtain⟨p,c,rfl⟩:=ai h2
 simp only[fE]
 have c1:W.cell? ⟨bn,0,none⟩=some (.bool false):=(af h.no).cell 0
 have c3:W.cell? ⟨bL,0,none⟩=some (.slice p pre.length c):=(af h1).cell 0
 have c4:W.cell? ⟨bm,0,none⟩=some (.int .i64 5000):=(af h.most).cell 0
 have l1:=ah c1
 have l3:=ah c3
 have l4:=ah c4
 have f1:W.frozen? ⟨bn,0,none⟩=false:=(af h.no).fz 0
 have f3:W.frozen? ⟨bL,0,none⟩=false:=(af h1).fz 0
 go_enter Tryz.func23,Tryz.ntmps23
 have H:=aa h
 have HZ:=aa hz
 have H1:=aa h1
 have H2:=aa h2
 have n1:bL≠bn:=ee h1 h.no (by decide)
 have n2:bL≠bm:=ee h1 h.most (by decide)
 have n3:bn≠bm:=ee h.no h.most (by decide)
 have n4:bL≠bl:=ee h1 h.late (by decide)
 have n5:bn≠bl:=ee h.no h.late (by decide)
 have hbs:=h.kp.size
 clear h hz h1 h2
 go_wp2_with (at_builtin;refine aq rfl _ _ 24 rfl w.heap.size 36 i0 (.agg #[.int .i64 0,.int .i64 0,.int .i64 0,.int .i64 0,.int .i64 0,.int .i64 0,.slice none 0 0,.slice none 0 0]) 8 96 Tryz.underlying24 hi hz0 hz1 hz2 rfl (by decide) _ _ _ rfl ((H2.out.alloc _).alloc _) ⟨W.heap.size+1,0,none⟩ 1 1 [.int .i64 ra,.int .i64 rb,.int .i64 rn,.int .i64 rf,.int .i64 rra,.int .i64 rrb,.slice pa rla.length ca,.slice pb rlb.length cb] rfl rfl (aF _ _ _ _ (by simp)) (by intro u hu;simp at hu;rcases hu with rfl|rfl|rfl|rfl|rfl|rfl|rfl|rfl<;>rfl) (by decide) (by unfold maxLen;omega) (by omega) (by simp;omega) ?_;intro v4 w4 hown4 hgrow4 _;obtain⟨p4,k4,rfl⟩:=ai hown4;have hst:=H.out.step H1.out H2.out (((Below.refl _ W).alloc (Nat.le_refl _) _).alloc (by simp) _) hgrow4 ht;have e1:w4.cell? ⟨bn,0,none⟩=some (.bool false):=(af hst.no).cell 0;have e3:w4.cell? ⟨bL,0,none⟩=some (.slice p pre.length c):=(af hst.ls).cell 0;have e4:w4.cell? ⟨bm,0,none⟩=some (.int .i64 5000):=(af hst.most).cell 0;have g1:w4.frozen? ⟨bn,0,none⟩=false:=(af hst.no).fz 0;have g3:w4.frozen? ⟨bL,0,none⟩=false:=(af hst.ls).fz 0;have HST:=aa hst;have HO4:=aa hown4;have m1:=ah e1;have m3:=ah e3;have m4:=ah e4;clear c1 c3 c4 l1 l3 l4 f1 f3 hst hown4 hgrow4)
 have hd:decide ((5000:Int)≤(pre.length:Int)+1)=false:=by simp;omega
 simp only[hd,Bool.not_false]
 go_ret
 exact⟨rfl,HST.out.fin H.out HZ.out HO4.out ht B⟩
end
section
set_option maxRecDepth 100000
set_option maxHeartbeats 2000000
open Go.RowKit Go.Shelf
attribute [local go_sem] Oper.semAt_some
theorem mw{A C:World}{row:Option Nat}(hg:A.grownBy C row)(hr:∀r,row=some r→∃o:Obj,A.heap[r]?=some o∧o.isCells=false){k:Nat}{cur:Array Value}{t:TypeId}{fr:Nat×Nat}(e:A.heap[k]?=some (Obj.cells cur t fr)):C.heap[k]?=some (Obj.cells cur t fr):=by
 refine(hg.block k (Array.getElem?_eq_some_iff.1 e).1 (fun h=>?_)).trans e
 obtain⟨o,ho,hc⟩:=hr k h.symm
 rw[e]at ho;cases ho;cases hc
theorem pF.below{w W W':World}{bn bl bL bm:Nat}{pre:List dd}(h:pF w bn bl bL bm pre W)(k:Below W.heap.size W W'):pF w bn bl bL bm pre W':=gW (pF.own (Nat.le_refl _)) h k
theorem sI(f:Go.Fn)(a b:Array Value)(w:World):(binOp BinOp.eql 69 (.func f a b) .nilFunc).run Tryz.prog w=.ok (.bool false) w:=by kernel_rfl
theorem zF{w:World}{bG bP:Nat}(h:w.cell? ⟨bG,0,none⟩=some (ak bP)):Calls Tryz.prog 33 #[ak bG] w fun r w'=>r=.returned (.bool false)∧w'=w:=by
 go_enter Tryz.func33,Tryz.ntmps33
 go_wp2_with fail
 go_ret
 exact⟨rfl,rfl⟩
theorem vt(Bp bG bP sh:Nat){y:Fl}{x:Rp}{cs held about:List Nat}{w W:World}{bn bl bL bm:Nat}(hP:pF w bn bl bL bm [] W)(hF:∀V,Below W.heap.size W V→Calls Tryz.prog 35 #[ak bP] V fun r V'=>∃bF,r=.returned (ak bF)∧lE V' bF y∧Below V.heap.size V V')(ok:sT y x cs held about sh)(al:ry x (x.accs cs sh))(hT:Tz W)(hg:0< w.heap.size)(hBp:W.cell? ⟨Bp,0,none⟩=some (ak bG))(hG:W.cell? ⟨bG,0,none⟩=some (ak bP)):
  Calls Tryz.prog 32 #[.func (.func 23) #[] #[.pointer (some ⟨bn,0,none⟩),.pointer (some ⟨bl,0,none⟩),.pointer (some ⟨bL,0,none⟩),.pointer (some ⟨bm,0,none⟩)],.pointer (some ⟨Bp,0,none⟩)] W fun e W'=>(∃v,e=.returned v)∧∃xs:List dd,xs.map (·.1)=x.repsOf held about (dh (x.accs cs sh))∧pF w bn bl bL bm xs W':=by
 obtain⟨D,hD⟩:∃D,D=W.alloc (.cells #[.func (.func 23) #[] #[.pointer (some ⟨bn,0,none⟩),.pointer (some ⟨bl,0,none⟩),.pointer (some ⟨bL,0,none⟩),.pointer (some ⟨bm,0,none⟩)]] 69):=⟨_,rfl⟩
 have kD:Below W.heap.size W D:=by rw[hD];exact(Below.refl _ W).alloc (Nat.le_refl _) _
 have yD:D.heap[W.heap.size]?=some (.cells #[.func (.func 23) #[] #[.pointer (some ⟨bn,0,none⟩),.pointer (some ⟨bl,0,none⟩),.pointer (some ⟨bL,0,none⟩),.pointer (some ⟨bm,0,none⟩)]] 69 (0,0)):=by rw[hD];exact heap_alloc_new _ _
 have y0:D.cell? ⟨W.heap.size,0,none⟩=some (.func (.func 23) #[] #[.pointer (some ⟨bn,0,none⟩),.pointer (some ⟨bl,0,none⟩),.pointer (some ⟨bL,0,none⟩),.pointer (some ⟨bm,0,none⟩)]):=(af yD).cell 0
 have d1:D.cell? ⟨Bp,0,none⟩=some (ak bG):=(kD.cell (p:=⟨Bp,0,none⟩) (ah hBp)).trans hBp
 have d2:D.cell? ⟨bG,0,none⟩=some (ak bP):=(kD.cell (p:=⟨bG,0,none⟩) (ah hG)).trans hG
 have HE:=aa (zF d2)
 have HF:=aa (hF D kD)
 have HP:=aa (hP.below kD)
 have HT:=aa (hT.below kD)
 have hgD:0< D.heap.size:=Nat.lt_of_lt_of_le hg hP.kp.size |> fun h=>Nat.lt_of_lt_of_le h kD.size
 have hwD:w.heap.size≤D.heap.size:=Nat.le_trans hP.kp.size kD.size
 have HYD:=aa yD
 have HOK:=aa ok
 have HAL:=aa al
 have HD:=aa hD
 have lBp:=ah hBp
 have lG:=ah hG
 clear hP hF hT ok al kD yD hD
 refine(callsIn_wide (n:=5)).1 ?_
 refine callsIn_of_wp_marks Tryz.func32 rfl trivial ?_ rfl
 simp only[Tryz.ntmps32,List.size_toArray,List.length_cons,List.length_nil,Nat.reduceAdd,Nat.reduceSub,Array.replicate_succ,Array.replicate_zero,List.push_toArray,List.append_toArray,List.nil_append,List.cons_append]
 gi_wp2
 rw[←HD.out]
 refine⟨trivial,?_⟩
 refine(callsIn_wide.2 HE.out).mono ?_
 rintro e w' ⟨rfl,rfl⟩
 clear HE hBp hG lBp lG HD
 have nf:=sI (.func 23) #[] #[.pointer (some ⟨bn,0,none⟩),.pointer (some ⟨bl,0,none⟩),.pointer (some ⟨bL,0,none⟩),.pointer (some ⟨bm,0,none⟩)] w'
 gi_wp2
 refine⟨trivial,?_⟩
 refine(callsIn_wide.2 HF.out).mono ?_
 rintro e V ⟨bF,rfl,hfl,hkV⟩
 have HFL:=aa hfl
 have HKV:=aa hkV
 clear hfl hkV HF
 gi_wp2
 refine⟨trivial,?_⟩
 refine(BP _ _ _).mono ?_
 rintro e X ⟨rfl,hX⟩
 have kX:Below V.heap.size V X:=by rw[hX];exact(Below.refl _ V).alloc (Nat.le_refl _) _
 have bX:X.cell? ⟨V.heap.size,0,none⟩=some (ak bF):=by rw[hX];exact(af (heap_alloc_new _ _)).cell 0
 have kDX:Below w'.heap.size w' X:=HKV.out.trans (kX.mono HKV.out.size)
 have HPX:=aa (HP.out.below kDX)
 have HYX:Hid (X.heap[W.heap.size]?=some (.cells #[.func (.func 23) #[] #[.pointer (some ⟨bn,0,none⟩),.pointer (some ⟨bl,0,none⟩),.pointer (some ⟨bL,0,none⟩),.pointer (some ⟨bm,0,none⟩)]] 69 (0,0))):=(kDX.block _ (Array.getElem?_eq_some_iff.1 HYD.out).1).trans HYD.out
 have HSEQ:=aa (Aq 4 (by decide) V.heap.size bF sh X (HFL.out.keep kX) HOK.out HAL.out (HT.out.below kDX) (Nat.lt_of_lt_of_le hgD kDX.size) bX)
 have hzX:=kDX.size
 have hwX:w.heap.size≤X.heap.size:=Nat.le_trans hwD hzX
 have HX:=aa hX
 clear hX kX bX kDX HP HYD HT HFL HKV d1 d2 y0 nf
 gi_wp2
 clear HX
 refine zn (α:=dd) rfl (by decide) (gf:=46) (lb:=#[.pointer (some ⟨V.heap.size,0,none⟩)]) rfl trivial (enters_of Tryz.func46 (by kernel_rfl) rfl) HSEQ.out KC.trans KC.putObj (Below.refl _ _) (fun _=>rfl)
  (fun pre Y=>pF w bn bl bL bm pre Y∧Y.heap[W.heap.size]?=some (.cells #[.func (.func 23) #[] #[.pointer (some ⟨bn,0,none⟩),.pointer (some ⟨bl,0,none⟩),.pointer (some ⟨bL,0,none⟩),.pointer (some ⟨bm,0,none⟩)]] 69 (0,0)))
  (fun pre A C row hs hgr hr=>⟨pF.own hwX pre A C row hs.1 hgr hr,mw hgr (fun r e=>(hr r e).2) hs.2⟩)
  ⟨HPX.out,HYX.out⟩
  (fun z a' Y=>∃p,a'={tmps:=#[.func (.func 23) #[] #[.pointer (some ⟨bn,0,none⟩),.pointer (some ⟨bl,0,none⟩),.pointer (some ⟨bL,0,none⟩),.pointer (some ⟨bm,0,none⟩)],.pointer (some ⟨Bp,0,none⟩),.pointer (some ⟨W.heap.size,0,none⟩),.pointer (some ⟨p,0,none⟩),ak bG,.bool false,.bool false,.func (.func 23) #[] #[.pointer (some ⟨bn,0,none⟩),.pointer (some ⟨bl,0,none⟩),.pointer (some ⟨bL,0,none⟩),.pointer (some ⟨bm,0,none⟩)],.bool false,.bool false,ak bG,.pointer (some ⟨bG,0,none⟩),.pointer (some ⟨bG,0,none⟩),ak bP,ak bF,.func (.func 46) #[] #[.pointer (some ⟨V.heap.size,0,none⟩)],.agg (fE z.1 z.2.1 z.2.2),undef,undef,undef,undef],defers:=[]}∧Y.heap[p]?=some (.cells (fE z.1 z.2.1 z.2.2) 36 (0,0))∧eo z Y)
  (fun z a' _ A C row hs hgr hr=>by
   obtain⟨p,e,h1,h2⟩:=hs
   exact⟨p,e,mw hgr (fun r e=>(hr r e).2) h1,h2.kc (KC.of_grown hgr (fun r e=>(hr r e).2))⟩) ?assign ?body ?done
 case assign=>
  rintro lr pre z Y K ⟨hI,hIy⟩ hG hK
  have kA:Below Y.heap.size Y (Y.alloc (.cells (fE z.1 z.2.1 z.2.2) 36)):=(Below.refl _ Y).alloc (Nat.le_refl _) _
  have HK:=aa (hK {tmps:=#[.func (.func 23) #[] #[.pointer (some ⟨bn,0,none⟩),.pointer (some ⟨bl,0,none⟩),.pointer (some ⟨bL,0,none⟩),.pointer (some ⟨bm,0,none⟩)],.pointer (some ⟨Bp,0,none⟩),.pointer (some ⟨W.heap.size,0,none⟩),.pointer (some ⟨Y.heap.size,0,none⟩),ak bG,.bool false,.bool false,.func (.func 23) #[] #[.pointer (some ⟨bn,0,none⟩),.pointer (some ⟨bl,0,none⟩),.pointer (some ⟨bL,0,none⟩),.pointer (some ⟨bm,0,none⟩)],.bool false,.bool false,ak bG,.pointer (some ⟨bG,0,none⟩),.pointer (some ⟨bG,0,none⟩),ak bP,ak bF,.func (.func 46) #[] #[.pointer (some ⟨V.heap.size,0,none⟩)],.agg (fE z.1 z.2.1 z.2.2),undef,undef,undef,undef],defers:=[]} _ (KeepsFrom.of_grownBy (dE kA) (fun j e=>by cases e)) (KC.of_below kA) ⟨hI.below kA,(kA.block _ (Array.getElem?_eq_some_iff.1 hIy).1).trans hIy⟩ ⟨_,rfl,heap_alloc_new _ _,hG.kc (KC.of_below kA)⟩)
  clear hI hIy hK kA
  obtain⟨⟨ra,rb,rn,rf,rra,rrb,rla,rlb⟩,la,lb⟩:=z
  obtain⟨pa,ca,ea⟩:=ai hG.1
  obtain⟨pb,cb,eb⟩:=ai hG.2
  dsimp only at ea eb
  subst ea eb
  clear hG
  simp only[fE,oO]at HK⊢
  gi_wp2
  exact HK.out
 case done=>
  rintro Dn xs Y hDn hS ⟨hI,_⟩ hd
  gi_wp2
  refine⟨by simp,.inl ⟨_,_,rfl,run_takeDeferred hd,?_⟩⟩
  refine⟨_,results_none rfl _ _ _,⟨_,rfl⟩,xs,hS,(pF.own hwX).putObj _ hI hDn hd rfl⟩
 case body=>
  rintro lr pre z a' Y hlr ⟨hI,hIy⟩ ⟨p,rfl,hp,hG⟩ hlen
  have HC:=aa (zv hI hG hlen hg X.heap.size)
  have y0:Y.cell? ⟨W.heap.size,0,none⟩=some (.func (.func 23) #[] #[.pointer (some ⟨bn,0,none⟩),.pointer (some ⟨bl,0,none⟩),.pointer (some ⟨bL,0,none⟩),.pointer (some ⟨bm,0,none⟩)]):=(af hIy).cell 0
  have HIY:=aa hIy
  obtain⟨⟨ra,rb,rn,rf,rra,rrb,rla,rlb⟩,la,lb⟩:=z
  have b1:=af hp
  simp only[fE]at b1 HC
  have a0:Y.cell? ⟨p,0,none⟩=some (.int .i64 ra):=b1.cell 0
  have a1:Y.cell? ⟨p,1,none⟩=some (.int .i64 rb):=b1.cell 1
  have a2:Y.cell? ⟨p,2,none⟩=some (.int .i64 rn):=b1.cell 2
  have a3:Y.cell? ⟨p,3,none⟩=some (.int .i64 rf):=b1.cell 3
  have a4:Y.cell? ⟨p,4,none⟩=some (.int .i64 rra):=b1.cell 4
  have a5:Y.cell? ⟨p,5,none⟩=some (.int .i64 rrb):=b1.cell 5
  have a6:Y.cell? ⟨p,6,none⟩=some la:=b1.cell 6
  have a7:Y.cell? ⟨p,7,none⟩=some lb:=b1.cell 7
  clear hI hIy hG hp b1
  gi_wp2
  refine⟨trivial,?_⟩
  refine(CallsIn.inRound lr (callsIn_wide.2 HC.out)).mono ?_
  rintro e Y2 ⟨rfl,hP2,hk2,hf2⟩
  have HP2:=aa hP2
  have HK2:=aa hk2
  have HF2:=aa hf2
  clear hP2 hk2 hf2 HC y0 a0 a1 a2 a3 a4 a5 a6 a7
  gi_wp2
  exact⟨HF2.out,HK2.out,HP2.out,HK2.out.cs _ _ _ _ HIY.out (mo (by decide) (by decide) (by decide))⟩
end
section
set_option maxRecDepth 100000
set_option maxHeartbeats 2000000
open Go.RowKit Go.Shelf
attribute [local go_sem] Oper.semAt_some
theorem tV(bG:Nat)(w:World):
  Calls Tryz.prog 22 #[ak bG] w fun e w'=>e=.returned (.func (.func 32) #[] #[.pointer (some ⟨w.heap.size,0,none⟩)])∧w'=w.alloc (.cells #[ak bG] 39):=by
 go_enter Tryz.func22,Tryz.ntmps22
 go_wp2_with fail
 go_ret
 exact⟨rfl,rfl⟩
structure dS(w W:World)(lv:Value)(xs:List dd):Prop where
 own:W.ownsRow w.heap.size 36 8 lv xs.length (fV xs)
 g:∀x∈xs,eo x W
 kp:Below w.heap.size w W
theorem oQ(bQ bG bP sh:Nat){y:Fl}{x:Rp}{cs held about:List Nat}{w:World}(hF:∀V,Below w.heap.size w V→Calls Tryz.prog 35 #[ak bP] V fun r V'=>∃bF,r=.returned (ak bF)∧lE V' bF y∧Below V.heap.size V V')(ok:sT y x cs held about sh)(al:ry x (x.accs cs sh))(hT:Tz w)(hg:0< w.heap.size)(hQ:w.cell? ⟨bQ,0,none⟩=some (ak bG))(hG:w.cell? ⟨bG,0,none⟩=some (ak bP)):
  Calls Tryz.prog 14 #[ak bQ,.int .i64 (-1)] w fun e W'=>∃lv,e=.returned (.tuple #[lv,.int .i64 0])∧∃xs:List dd,xs.map (·.1)=x.repsOf held about (dh (x.accs cs sh))∧dS w W' lv xs:=by
 have lQ:=ah hQ
 have lG:=ah hG
 obtain⟨D,hD⟩:∃D,D=(((w.alloc (.cells #[.int .i64 5000] 3)).alloc (.cells #[.slice none 0 0] 24)).alloc (.cells #[.int .i64 0] 3)).alloc (.cells #[.bool false] 4):=⟨_,rfl⟩
 have kD:Below w.heap.size w D:=by rw[hD];exact((((Below.refl _ w).alloc (Nat.le_refl _) _).alloc (by simp) _).alloc (by simp;omega) _).alloc (by simp;omega) _
 have s0:D.heap[w.heap.size]?=some (.cells #[.int .i64 5000] 3 (0,0)):=by
  rw[hD]
  exact(Below.heap_alloc _ _ _ (by simp;omega)).trans ((Below.heap_alloc _ _ _ (by simp;omega)).trans ((Below.heap_alloc _ _ _ (by simp)).trans (heap_alloc_new _ _)))
 have s1:D.heap[w.heap.size+1]?=some (.cells #[.slice none 0 0] 24 (0,0)):=by
  rw[hD]
  refine(Below.heap_alloc _ _ _ (by simp)).trans ((Below.heap_alloc _ _ _ (by simp)).trans ?_)
  have:=heap_alloc_new (w.alloc (.cells #[.int .i64 5000] 3)) (.cells #[.slice none 0 0] 24)
  rw[World.size_alloc]at this
  exact this
 have s2:D.heap[w.heap.size+1+1]?=some (.cells #[.int .i64 0] 3 (0,0)):=by
  rw[hD]
  refine(Below.heap_alloc _ _ _ (by simp)).trans ?_
  have:=heap_alloc_new ((w.alloc (.cells #[.int .i64 5000] 3)).alloc (.cells #[.slice none 0 0] 24)) (.cells #[.int .i64 0] 3)
  rw[World.size_alloc,World.size_alloc]at this
  exact this
 have s3:D.heap[w.heap.size+1+1+1]?=some (.cells #[.bool false] 4 (0,0)):=by
  rw[hD]
  have:=heap_alloc_new (((w.alloc (.cells #[.int .i64 5000] 3)).alloc (.cells #[.slice none 0 0] 24)).alloc (.cells #[.int .i64 0] 3)) (.cells #[.bool false] 4)
  rw[World.size_alloc,World.size_alloc,World.size_alloc]at this
  exact this
 have hPl:pF w (w.heap.size+1+1+1) (w.heap.size+1+1) (w.heap.size+1) w.heap.size [] D:=⟨s3,s0,s2,⟨_,s1,rfl,.inl ⟨rfl,rfl⟩⟩,fun x hx=>by simp at hx,kD,by omega,by omega⟩
 have dQ:((((w.alloc (.cells #[.int .i64 5000] 3)).alloc (.cells #[.slice none 0 0] 24)).alloc (.cells #[.int .i64 0] 3)).alloc (.cells #[.bool false] 4)).cell? ⟨bQ,0,none⟩=some (ak bG):=by rw[←hD];exact(kD.cell (p:=⟨bQ,0,none⟩) lQ).trans hQ
 have kE:Below D.heap.size D (D.alloc (.cells #[ak bG] 39)):=(Below.refl _ D).alloc (Nat.le_refl _) _
 have bE:(D.alloc (.cells #[ak bG] 39)).cell? ⟨D.heap.size,0,none⟩=some (ak bG):=(af (heap_alloc_new _ _)).cell 0
 have kwE:Below w.heap.size w (D.alloc (.cells #[ak bG] 39)):=kD.trans (kE.mono kD.size)
 have HR1:=aa (vt D.heap.size bG bP sh (hPl.below kE) (fun V hV=>hF V (kwE.trans (hV.mono kwE.size))) ok al (hT.below kwE) hg bE ((kwE.cell (p:=⟨bG,0,none⟩) lG).trans hG))
 have HD:=aa hD
 clear hF ok al hT hG hQ kD s0 s1 s2 s3 hPl kE bE kwE hD
 go_enter Tryz.func14,Tryz.ntmps14
 go_wp2_with fail
 rw[←HD.out]
 refine(tV _ _).mono ?_
 rintro e E ⟨rfl,rfl⟩
 go_wp2_with fail
 refine HR1.out.mono ?_
 rintro e X ⟨⟨v,rfl⟩,xs,hxs,hP⟩
 obtain⟨lv,hl,ho⟩:=hP.ls
 have c1:X.cell? ⟨w.heap.size+1,0,none⟩=some lv:=(af hl).cell 0
 have c2:X.cell? ⟨w.heap.size+1+1,0,none⟩=some (.int .i64 0):=(af hP.late).cell 0
 have HX:=aa (show∃xs:List dd,xs.map (·.1)=x.repsOf held about (dh (x.accs cs sh))∧dS w X lv xs from⟨xs,hxs,ho,hP.g,hP.kp⟩)
 clear hl ho hP hxs HR1 HD dQ
 go_wp2_with fail
 go_quiet (fail)
 go_wp2_with fail
 go_ret2
 obtain⟨ys,h1,h2⟩:=HX.out
 exact⟨lv,rfl,ys,h1,h2.own,h2.g,az h2.kp _⟩
theorem qB(bQ bG bP sh:Nat){y:Fl}{x:Rp}{cs held about:List Nat}{w:World}(hF:∀V,Below w.heap.size w V→Calls Tryz.prog 35 #[ak bP] V fun r V'=>∃bF,r=.returned (ak bF)∧lE V' bF y∧Below V.heap.size V V')(ok:sT y x cs held about sh)(al:ry x (x.accs cs sh))(hT:Tz w)(hg:0< w.heap.size)(hQ:w.cell? ⟨bQ,0,none⟩=some (ak bG))(hG:w.cell? ⟨bG,0,none⟩=some (ak bP)):
  Calls Tryz.prog 8 #[ak bQ] w fun e W'=>∃lv,e=.returned lv∧∃xs:List dd,xs.map (·.1)=x.repsOf held about (dh (x.accs cs sh))∧dS w W' lv xs:=by
 have H:=aa (oQ bQ bG bP sh hF ok al hT hg hQ hG)
 clear hF ok al hT hg hQ hG
 go_enter Tryz.func8,Tryz.ntmps8
 go_wp2_with fail
 refine H.out.mono ?_
 rintro e X ⟨lv,rfl,hX⟩
 have HX:=aa hX
 clear hX H
 go_wp2_with fail
 go_ret
 exact⟨lv,rfl,HX.out⟩
end
section
open Go.RowKit Go.Shelf
def dx.p:dx→Ph
 |.mk p _ _=>p
def dx.r:dx→List Pa
 |.mk _ r _=>r
abbrev yI:=List (Option Fs)
mutual
def yt(fn:Nat):dx→Int→yI→yI
 |.mk p r [],nx,T=>T.set p.place (some ⟨p,r,fn,nx,0⟩)
 |.mk p r (b::bs),nx,T=>
  if p.kind=13 then
   match iF fn b nx T with
   |(T1,i)=>match Cs fn bs nx T1 with
    |(T2,n2)=>T2.set p.place (some ⟨p,r,fn,n2,i⟩)
  else if p.kind=14 then
   match iF fn b p.place T with
   |(T1,i)=>T1.set p.place (some ⟨p,r,fn,nx,i⟩)
  else T.set p.place (some ⟨p,r,fn,nx,0⟩)
def Cs(fn:Nat):List (List dx)→Int→yI→yI×Int
 |[],nx,T=>(T,nx)
 |c::_,nx,T=>iF fn c nx T
def iF(fn:Nat):List dx→Int→yI→yI×Int
 |[],nx,T=>(T,nx)
 |s::l,nx,T=>match iF fn l nx T with
  |(T1,n1)=>(yt fn s n1 T1,s.p.place)
end
mutual
def xU(n:Nat):dx→Bool
 |.mk p _ bls=>decide (p.place< n)&&(decide (p.kind≠13∧p.kind≠14)||decide (bls.length≠0))&&decide (bls.length≤1)&&BA n bls
def BA(n:Nat):List (List dx)→Bool
 |[]=>true
 |l::ls=>zK n l&&BA n ls
def zK(n:Nat):List dx→Bool
 |[]=>true
 |s::l=>xU n s&&zK n l
end
theorem xV{n:Nat}{l:List dx}{k:Nat}{s:dx}(h:zK n l=true)(e:l[k]?=some s):xU n s=true:=by
 induction l generalizing k with
 |nil=>simp at e
 |cons a l ih=>
  simp only[zK,Bool.and_eq_true]at h
  cases k with
  |zero=>simp at e;rw[←e];exact h.1
  |succ k=>exact ih h.2 (by simpa using e)
def jJ:Option (Nat×Fs)→List Value
 |none=>[.pointer none,.int .i64 0,.int .i64 0,.int .i64 0]
 |some y=>uz y
def fU(l:List (Option (Nat×Fs))):List Value:=l.flatMap jJ
def er(l:List (Option (Nat×Fs))):yI:=l.map (Option.map Prod.snd)
theorem fu(o:Option (Nat×Fs)):(jJ o).length=4:=by cases o<;>rfl
theorem pL(l:List (Option (Nat×Fs))):(fU l).length=l.length*4:=by
 induction l with
 |nil=>rfl
 |cons a l ih=>simp only[fU,List.flatMap_cons,List.length_append,List.length_cons,fu]at ih⊢;rw[ih];omega
theorem tg(l:List (Option (Nat×Fs)))(k j:Nat)(hj:j< 4):(fU l)[k*4+j]?=(l[k]?).bind (fun o=>(jJ o)[j]?):=by
 induction l generalizing k with
 |nil=>simp[fU]
 |cons a l ih=>
  have e:fU (a::l)=jJ a++fU l:=rfl
  rw[e]
  cases k with
  |zero=>rw[List.getElem?_append_left (by rw[fu];omega)];simp
  |succ k=>rw[List.getElem?_append_right (by rw[fu];omega),fu,show(k+1)*4+j-4=k*4+j by omega,ih];simp
theorem vh(l:List (Option (Nat×Fs)))(k:Nat)(y:Nat×Fs)(h:k< l.length):
  ((((fU l).set (k*4) (ak y.1)).set (k*4+1) (.int .i64 y.2.fn)).set (k*4+2) (.int .i64 y.2.nx)).set (k*4+3) (.int .i64 y.2.ins)=fU (l.set k (some y)):=by
 induction l generalizing k with
 |nil=>simp at h
 |cons a l ih=>
  cases k with
  |zero=>
   have e:fU (a::l)=jJ a++fU l:=rfl
   have ha:=fu a
   rw[e]
   obtain⟨a0,a1,a2,a3,hA⟩:∃a0 a1 a2 a3,jJ a=[a0,a1,a2,a3]:=by cases a with|none=>exact⟨_,_,_,_,rfl⟩|some y=>exact⟨_,_,_,_,rfl⟩
   rw[hA]
   rfl
  |succ k=>
   have e:∀b,fU (b::l)=jJ b++fU l:=fun _=>rfl
   have:=ih k (by simpa using h)
   rw[List.set_cons_succ,e a]
   show _=jJ a++fU (l.set k (some y))
   rw[←this,show(k+1)*4=4+k*4 by omega]
   have hl:∀(m:List Value) (i:Nat) (v:Value),(jJ a++m).set (4+i) v=jJ a++m.set i v:=fun m i v=>by
    rw[List.set_append_right _ _ (by rw[fu];omega),fu];congr 2;omega
   rw[hl,show 4+k*4+1=4+(k*4+1)by omega,hl,show 4+k*4+2=4+(k*4+2)by omega,hl,show 4+k*4+3=4+(k*4+3)by omega,hl]
theorem sw(l:List (Option (Nat×Fs)))(k:Nat)(y:Nat×Fs):er (l.set k (some y))=(er l).set k (some y.2):=by simp[er,List.map_set]
structure oA(w:World)(bF g n:Nat)(tb:List (Option (Nat×Fs)))(W:World):Prop where
 sl:W.cell? ⟨bF,3,none⟩=some (.slice (some ⟨g,0,none⟩) n n)
 row:W.heap[g]?=some (.cells (fU tb).toArray 197 (0,0))
 len:tb.length=n
 kp:Below w.heap.size w W
 hg:w.heap.size≤g
 hF:w.heap.size≤bF
 ne:g≠bF
 at':∀(k b:Nat) (s:Fs),tb[k]?=some (some (b,s))→∃sr sb,an w b (aK s.p sr sb)∧w.ownsRow 0 193 4 sr s.r.length (et s.r)
theorem oA.below{w W W':World}{bF g n:Nat}{tb:List (Option (Nat×Fs))}(h:oA w bF g n tb W)(k:Below W.heap.size W W'):oA w bF g n tb W':=
 ⟨(k.cell (p:=⟨bF,3,none⟩) (ah h.sl)).trans h.sl,(k.block _ (Array.getElem?_eq_some_iff.1 h.row).1).trans h.row,h.len,h.kp.trans (k.mono h.kp.size),h.hg,h.hF,h.ne,h.at'⟩
theorem oA.put{w W:World}{bF g n k b:Nat}{tb:List (Option (Nat×Fs))}{s:Fs}(h:oA w bF g n tb W)(hk:k< n)(hs:∃sr sb,an w b (aK s.p sr sb)∧w.ownsRow 0 193 4 sr s.r.length (et s.r)):
  oA w bF g n (tb.set k (some (b,s))) ((((W.setCell ⟨g,k*4,none⟩ (ak b)).setCell ⟨g,k*4+1,none⟩ (.int .i64 s.fn)).setCell ⟨g,k*4+2,none⟩ (.int .i64 s.nx)).setCell ⟨g,k*4+3,none⟩ (.int .i64 s.ins))∧ae (ao g) W ((((W.setCell ⟨g,k*4,none⟩ (ak b)).setCell ⟨g,k*4+1,none⟩ (.int .i64 s.fn)).setCell ⟨g,k*4+2,none⟩ (.int .i64 s.nx)).setCell ⟨g,k*4+3,none⟩ (.int .i64 s.ins)):=by
 have kk:ae (ao g) W ((((W.setCell ⟨g,k*4,none⟩ (ak b)).setCell ⟨g,k*4+1,none⟩ (.int .i64 s.fn)).setCell ⟨g,k*4+2,none⟩ (.int .i64 s.nx)).setCell ⟨g,k*4+3,none⟩ (.int .i64 s.ins)):=
  ((((ae.refl _ W).set1 _ _).set1 _ _).set1 _ _).set1 _ _
 refine⟨⟨?_,?_,by simp[h.len],aE h.kp kk h.hg,h.hg,h.hF,h.ne,fun j b' s' e=>?_⟩,kk⟩
 ·rw[kk.cell (p:=⟨bF,3,none⟩) (ah h.sl) (fun e=>h.ne e.symm)]
  exact h.sl
 ·have e1:=heap_setCell h.row (k*4) (ak b)
  have e2:=heap_setCell e1 (k*4+1) (.int .i64 s.fn)
  have e3:=heap_setCell e2 (k*4+2) (.int .i64 s.nx)
  have e4:=heap_setCell e3 (k*4+3) (.int .i64 s.ins)
  have e5:((((fU tb).toArray.setIfInBounds (k*4) (ak b)).setIfInBounds (k*4+1) (.int .i64 s.fn)).setIfInBounds (k*4+2) (.int .i64 s.nx)).setIfInBounds (k*4+3) (.int .i64 s.ins)=(fU (tb.set k (some (b,s)))).toArray:=by
   rw[←vh tb k (b,s) (by rw[h.len];exact hk)]
   simp only[List.setIfInBounds_toArray]
  rw[e5]at e4
  exact e4
 ·by_cases hjk:j=k
  ·subst hjk
   rw[List.getElem?_set_self (by rw[h.len];exact hk)]at e
   cases e
   exact hs
  ·rw[List.getElem?_set_ne (Ne.symm hjk)]at e
   exact h.at' j b' s' e
theorem bB.get{w:World}{P:Nat→Prop}{bs:List Nat}{l:List dx}(h:bB w P bs l){k:Nat}{s:dx}(e:l[k]?=some s):∃b,bs[k]?=some b∧∃Q,fI w Q b s:=by
 induction bs generalizing l P k with
 |nil=>cases h;simp at e
 |cons b bs ih=>
  cases h with
  |cons h1 h2 _ _=>
   cases k with
   |zero=>simp at e;exact⟨b,rfl,_,e▸h1⟩
   |succ k=>exact ih h2 (by simpa using e)
theorem cD.get{w:World}{P:Nat→Prop}{vs:List Value}{ls:List (List dx)}(h:cD w P vs ls){k:Nat}{l:List dx}(e:ls[k]?=some l):∃v bb,vs[k]?=some v∧w.ownsRow 0 133 1 v bb.length (dW bb)∧∃Q,bB w Q bb l:=by
 induction vs generalizing ls P k with
 |nil=>cases h;simp at e
 |cons v vs ih=>
  cases h with
  |cons h1 h2 h3 _ _=>
   cases k with
   |zero=>simp at e;exact⟨v,_,rfl,h1.1,_,e▸h2⟩
   |succ k=>exact ih h3 (by simpa using e)
end
section
set_option maxRecDepth 100000
set_option maxHeartbeats 2000000
open Go.RowKit Go.Shelf
def xd(s:dx):Prop:=∀(w W:World) (P:Nat→Prop) (b fn:Nat) (nx:Int) (bF g n:Nat) (tb:List (Option (Nat×Fs))),fI w P b s→xU n s=true→oA w bF g n tb W→
 Calls Tryz.prog 73 #[ak bF,.int .i64 fn,ak b,.int .i64 nx] W fun r W'=>r=.returned (.tuple #[])∧∃tb',er tb'=yt fn s nx (er tb)∧oA w bF g n tb' W'∧ae (ao g) W W'
def xi(l:List dx):Prop:=∀(w W:World) (P:Nat→Prop) (bs:List Nat) (v:Value) (fn:Nat) (nx:Int) (bF g n:Nat) (tb:List (Option (Nat×Fs))),bB w P bs l→w.ownsRow 0 133 1 v bs.length (dW bs)→zK n l=true→oA w bF g n tb W→
 Calls Tryz.prog 50 #[ak bF,.int .i64 fn,v,.int .i64 nx] W fun r W'=>r=.returned (.int .i64 (iF fn l nx (er tb)).2)∧∃tb',er tb'=(iF fn l nx (er tb)).1∧oA w bF g n tb' W'∧ae (ao g) W W'
theorem qM(fn:Nat)(l:List dx)(nx:Int)(T:yI){k:Nat}{s:dx}(h:l[k]?=some s):iF fn (l.drop k) nx T=(yt fn s (iF fn (l.drop (k+1)) nx T).2 (iF fn (l.drop (k+1)) nx T).1,(s.p.place:Int)):=by
 have hk:k< l.length:=(List.getElem?_eq_some_iff.1 h).1
 have:l.drop k=s::l.drop (k+1):=by
  rw[List.drop_eq_getElem_cons hk]
  congr 1
  rw[List.getElem?_eq_getElem hk]at h
  exact Option.some.inj h
 rw[this,iF]
theorem wJ{l:List dx}(hl:∀s∈l,xd s):xi l:=by
 intro w W P bs v fn nx bF g n tb hR hv hok hT
 have hbl:bs.length=l.length:=hR.len
 rw[hbl]at hv
 obtain⟨pv,cv,rfl⟩:=ai hv
 have HBL:=aa hbl
 clear hbl
 have hml:l.length≤maxLen:=by
  rcases hv.2 with⟨_,h⟩|⟨_,cap,_,_,_,_,h1,h2,_⟩<;>omega
 unfold maxLen at hml
 have HL:=aa hl
 have HR:=aa hR
 have HV:=aa hv
 have HOK:=aa hok
 have HT:=aa hT
 clear hl hR hv hok hT
 go_enter Tryz.func50,Tryz.ntmps50
 go_wp2_with fail
 go_loopw [3,9] (fun z i wr=>∃k:Nat,i=.int .i64 ((k:Int)-1)∧k≤l.length∧z=.int .i64 (iF fn (l.drop k) nx (er tb)).2∧Hid (∃tb',er tb'=(iF fn (l.drop k) nx (er tb)).1∧oA w bF g n tb' wr∧ae (ao g) W wr)) (fun _ i _=>(intOf i+1).toNat)
 case atStart=>exact⟨l.length,by go_num,Nat.le_refl _,by rw[List.drop_length];rfl,⟨tb,by rw[List.drop_length];rfl,HT.out,ae.refl _ _⟩⟩
 case round=>
  obtain⟨k,rfl,hk,rfl,HX⟩:=hrel
  by_cases hk0:k=0
  ·subst hk0
   have hge:¬((0:Int)≤((0:Nat):Int)-1):=by omega
   go_wp2_with fail
   go_ret
   simp only[List.drop_zero]at HX⊢
   exact⟨rfl,HX.out⟩
  ·obtain⟨m,rfl⟩:∃m,k=m+1:=⟨k-1,by omega⟩
   have hge:(0:Int)≤((m+1:Nat):Int)-1:=by omega
   obtain⟨s,hs⟩:∃s,l[m]?=some s:=⟨_,List.getElem?_eq_getElem (by omega)⟩
   obtain⟨b,hb,Q,hQ⟩:=HR.out.get hs
   obtain⟨tb1,e1,hT1,hK1⟩:=HX.out
   obtain⟨gb,cb,e⟩:=aG HV.out (by omega)
   cases e
   have ap:wr.cell? ⟨gb,m,none⟩=some (ak b):=cZ (ay HV.out hT1.kp) (by simp[dW,hb])
   have hST:=aa (HL.out s (List.mem_of_getElem? hs) w wr Q b fn (iF fn (l.drop (m+1)) nx (er tb)).2 bF g n tb1 hQ (xV HOK.out hs) hT1)
   obtain⟨sr,sb,hBp⟩:∃sr sb,an w b (aK s.p sr sb):=by cases hQ with|mk _ h _ _ _ _=>exact⟨_,_,h⟩
   have HBP:=aa hBp
   have HK1:=aa hK1
   have hm0:(0:Int)≤m:=by omega
   have hmc:((m:Int)< l.length):=by omega
   clear hT1 hK1 hBp hQ HX
   go_wp2_with fail
   refine hST.out.mono ?_
   rintro r W2 ⟨rfl,tb2,e2,hT2,hK2⟩
   have ap2:W2.cell? ⟨gb,m,none⟩=some (ak b):=cZ (ay HV.out hT2.kp) (by simp[dW,hb])
   have pl:W2.cell? ⟨b,1,none⟩=some (.int .i64 s.p.place):=(HBP.out.below hT2.kp).cell 1
   have HX2:Hid (∃tb',er tb'=(iF fn (l.drop m) nx (er tb)).1∧oA w bF g n tb' W2∧ae (ao g) W W2):=⟨tb2,by rw[e2,e1,qM fn l nx _ hs],hT2,HK1.out.trans' hK2 (fun i e=>.inl e)⟩
   have hnx:(iF fn (l.drop m) nx (er tb)).2=(s.p.place:Int):=by rw[qM fn l nx _ hs]
   clear hT2 hK2 hST ap
   go_wp2_with fail
   go_roundw
   case rel=>exact⟨m,by go_num,by omega,by rw[hnx],HX2⟩
   case measure=>simp[intOf]
end
section
set_option maxRecDepth 100000
set_option maxHeartbeats 2000000
open Go.RowKit Go.Shelf
structure ej(w W D:World)(b fn g bF n:Nat)(nx ins:Int)(p:Ph)(r:List Pa)(tb:List (Option (Nat×Fs)))(bx:Nat):Prop where
 fw:oA w bF g n tb D
 kp:ae (ao g) W D
 box:an D bx #[ak b,.int .i64 fn,.int .i64 nx,.int .i64 ins]
 bs:∃sr sb,an w b (aK p sr sb)∧w.ownsRow 0 193 4 sr r.length (et r)
 pl:p.place< n
 ne:bx≠g
theorem ej.cells{w W D:World}{b fn g bF n:Nat}{nx ins:Int}{p:Ph}{r:List Pa}{tb:List (Option (Nat×Fs))}{bx:Nat}(h:ej w W D b fn g bF n nx ins p r tb bx):
  ∃c0 c1 c2 c3,D.cell? ⟨g,p.place*4,none⟩=some c0∧D.cell? ⟨g,p.place*4+1,none⟩=some c1∧D.cell? ⟨g,p.place*4+2,none⟩=some c2∧D.cell? ⟨g,p.place*4+3,none⟩=some c3∧D.frozen? ⟨g,p.place*4,none⟩=false∧D.frozen? ⟨g,p.place*4+1,none⟩=false∧D.frozen? ⟨g,p.place*4+2,none⟩=false∧D.frozen? ⟨g,p.place*4+3,none⟩=false:=by
 have hb:=af h.fw.row
 have hpl:=h.pl
 have hlen:=h.fw.len
 obtain⟨o,ho⟩:∃o,tb[p.place]?=some o:=⟨_,List.getElem?_eq_getElem (by omega)⟩
 have hE:=fu o
 have hc:∀j,j< 4→∃c,D.cell? ⟨g,p.place*4+j,none⟩=some c:=fun j hj=>by
  refine⟨(jJ o)[j]'(by omega),?_⟩
  rw[hb.cell]
  have:=tg tb p.place j hj
  rw[ho]at this
  simp only[List.getElem?_toArray]
  rw[this]
  simp[List.getElem?_eq_getElem (show j< (jJ o).length by omega)]
 obtain⟨c0,h0⟩:=hc 0 (by omega)
 obtain⟨c1,h1⟩:=hc 1 (by omega)
 obtain⟨c2,h2⟩:=hc 2 (by omega)
 obtain⟨c3,h3⟩:=hc 3 (by omega)
 exact⟨c0,c1,c2,c3,h0,h1,h2,h3,hb.fz _,hb.fz _,hb.fz _,hb.fz _⟩
theorem ej.drew{w W D:World}{b fn g bF n:Nat}{nx ins:Int}{p:Ph}{r:List Pa}{tb:List (Option (Nat×Fs))}{bx:Nat}(h:ej w W D b fn g bF n nx ins p r tb bx)(k:Nat):ej w W (D.drewN k) b fn g bF n nx ins p r tb bx:=
 ⟨⟨h.fw.sl,h.fw.row,h.fw.len,az h.fw.kp k,h.fw.hg,h.fw.hF,h.fw.ne,h.fw.at'⟩,⟨h.kp.os,h.kp.tape,h.kp.output,h.kp.size,h.kp.block⟩,⟨h.box.cell,h.box.fz,h.box.lt⟩,h.bs,h.pl,h.ne⟩
theorem ej.step{w W D W2:World}{b fn g bF n:Nat}{nx ins:Int}{p:Ph}{r:List Pa}{tb tb2:List (Option (Nat×Fs))}{bx:Nat}(h:ej w W D b fn g bF n nx ins p r tb bx)(hT:oA w bF g n tb2 W2)(hk:ae (ao g) D W2):ej w W W2 b fn g bF n nx ins p r tb2 bx:=
 ⟨hT,h.kp.trans' hk (fun i e=>.inl e),h.box.only hk h.ne,h.bs,h.pl,h.ne⟩
theorem ej.fw'{w W D:World}{b fn g bF n:Nat}{nx ins:Int}{p:Ph}{r:List Pa}{tb:List (Option (Nat×Fs))}{bx:Nat}(h:ej w W D b fn g bF n nx ins p r tb bx)(hb:W.heap.size≤bx)(hbF:bF< W.heap.size)(hw:w.heap.size≤W.heap.size)(j:Nat)(u:Value):oA w bF g n tb (D.setCell ⟨bx,j,none⟩ u)∧ae (ao g) W (D.setCell ⟨bx,j,none⟩ u):=by
 have kk:ae (ao bx) D (D.setCell ⟨bx,j,none⟩ u):=(ae.refl _ D).set1 _ _
 refine⟨⟨?_,?_,h.fw.len,aE h.fw.kp kk (by omega),h.fw.hg,h.fw.hF,h.fw.ne,h.fw.at'⟩,h.kp.trans' kk (fun i e=>.inr ?_)⟩
 ·rw[kk.cell (p:=⟨bF,3,none⟩) (ah h.fw.sl) (fun e=>by have e:bF=bx:=e;omega)]
  exact h.fw.sl
 ·exact(kk.block g (Array.getElem?_eq_some_iff.1 h.fw.row).1 (fun e=>h.ne (show g=bx from e).symm)).trans h.fw.row
 ·have e:i=bx:=e
  omega
theorem ej.ins{w W D:World}{b fn g bF n:Nat}{nx ins:Int}{p:Ph}{r:List Pa}{tb:List (Option (Nat×Fs))}{bx:Nat}(h:ej w W D b fn g bF n nx ins p r tb bx)(hb:W.heap.size≤bx)(hbF:bF< W.heap.size)(hw:w.heap.size≤W.heap.size)(i:Int):ej w W (D.setCell ⟨bx,3,none⟩ (.int .i64 i)) b fn g bF n nx i p r tb bx:=
 ⟨(h.fw' hb hbF hw 3 _).1,(h.fw' hb hbF hw 3 _).2,h.box.set 3 _ (by simp),h.bs,h.pl,h.ne⟩
theorem ej.nx{w W D:World}{b fn g bF n:Nat}{nx ins:Int}{p:Ph}{r:List Pa}{tb:List (Option (Nat×Fs))}{bx:Nat}(h:ej w W D b fn g bF n nx ins p r tb bx)(hb:W.heap.size≤bx)(hbF:bF< W.heap.size)(hw:w.heap.size≤W.heap.size)(i:Int):ej w W (D.setCell ⟨bx,2,none⟩ (.int .i64 i)) b fn g bF n i ins p r tb bx:=
 ⟨(h.fw' hb hbF hw 2 _).1,(h.fw' hb hbF hw 2 _).2,h.box.set 2 _ (by simp),h.bs,h.pl,h.ne⟩
theorem tN{p:Ph}{r:List Pa}{bls:List (List dx)}(h13:p.kind≠13)(h14:p.kind≠14):xd (.mk p r bls):=by
 intro w W P b fn nx bF g n tb hR hok hT
 have hfl:yt fn (.mk p r bls) nx (er tb)=(er tb).set p.place (some ⟨p,r,fn,nx,0⟩):=by
  cases bls with
  |nil=>rfl
  |cons c cs=>rw[yt,if_neg h13,if_neg h14]
 rw[hfl]
 cases hR with
 |@mk _ Q _ _ sr sb _ _ vs hPb hB h1 h2 h3 h4=>
 have hBW:=hB.below hT.kp
 have c1:W.cell? ⟨b,1,none⟩=some (.int .i64 p.place):=hBW.cell 1
 have c2:W.cell? ⟨b,2,none⟩=some (.int .i64 p.kind):=hBW.cell 2
 have hlb:=hBW.lt
 have e13:((p.kind:Int)==13)=false:=by rw[beq_eq_false_iff_ne];omega
 have e14:((p.kind:Int)==14)=false:=by rw[beq_eq_false_iff_ne];omega
 have c3:=hT.sl
 have l3:=ah c3
 have hpl:p.place< n:=by
  simp only[xU,Bool.and_eq_true,decide_eq_true_eq]at hok
  exact hok.1.1.1
 have kA:Below W.heap.size W (W.alloc (.cells #[ak b,.int .i64 fn,.int .i64 nx,.int .i64 0] 197)):=(Below.refl _ W).alloc (Nat.le_refl _) _
 have HPO:Hid (ej w W (W.alloc (.cells #[ak b,.int .i64 fn,.int .i64 nx,.int .i64 0] 197)) b fn g bF n nx 0 p r tb W.heap.size):=
  ⟨hT.below kA,ae.of_below kA,an.new _ _ _,⟨sr,sb,hB,h1.1⟩,hpl,fun e=>by have:=(Array.getElem?_eq_some_iff.1 hT.row).1;omega⟩
 clear hB h1 h2 h3 h4 hBW hT hok kA hfl hPb
 go_enter Tryz.func73,Tryz.ntmps73
 go_wp2_with fail
 obtain⟨D,hD⟩:∃D,D=W.alloc (.cells #[ak b,.int .i64 fn,.int .i64 nx,.int .i64 0] 197):=⟨_,rfl⟩
 rw[←hD]at HPO⊢
 clear hD c1 c2 c3 hlb l3 e13 e14
 obtain⟨sr',sb',hB',_⟩:=HPO.out.bs
 obtain⟨v0,v1,v2,v3,g0,g1,g2,g3,f0,f1,f2,f3⟩:=HPO.out.cells
 have d3:D.cell? ⟨bF,3,none⟩=some (.slice (some ⟨g,0,none⟩) n n):=HPO.out.fw.sl
 have d1:D.cell? ⟨b,1,none⟩=some (.int .i64 p.place):=(hB'.below HPO.out.fw.kp).cell 1
 have x0:D.cell? ⟨W.heap.size,0,none⟩=some (ak b):=HPO.out.box.cell 0
 have x1:D.cell? ⟨W.heap.size,1,none⟩=some (.int .i64 fn):=HPO.out.box.cell 1
 have x2:D.cell? ⟨W.heap.size,2,none⟩=some (.int .i64 nx):=HPO.out.box.cell 2
 have x3:D.cell? ⟨W.heap.size,3,none⟩=some (.int .i64 0):=HPO.out.box.cell 3
 have hp0:(0:Int)≤p.place:=by omega
 have hpn:(p.place:Int)< n:=by have:=HPO.out.pl;omega
 have lg:=ah g0
 have hn1:bF≠g:=Ne.symm HPO.out.fw.ne
 have hn2:b≠g:=by have:=hB'.lt;have:=HPO.out.fw.hg;omega
 have hn3:W.heap.size≠g:=HPO.out.ne
 clear hB'
 go_region
 go_end0
 obtain⟨q1,q2⟩:=HPO.out.fw.put (k:=p.place) (b:=b) (s:=⟨p,r,fn,nx,0⟩) HPO.out.pl HPO.out.bs
 exact⟨rfl,_,sw _ _ _,⟨q1.sl,q1.row,q1.len,q1.kp.drew,q1.hg,q1.hF,q1.ne,q1.at'⟩,(HPO.out.kp.trans' q2 (fun i e=>.inl e)).drew'⟩
end
end Go.Proofs.YtmdaflepdaiabaaGreatDoor
