import Derived.Test.YtmdaflepdaiabaaGreatDoorQ23
set_option linter.unusedSimpArgs false
set_option linter.unusedVariables false
namespace Go.Proofs.YtmdaflepdaiabaaGreatDoor
section
set_option maxRecDepth 100000
set_option maxHeartbeats 4000000
open Go.RowKit Go.Shelf
attribute [local go_sem] Oper.semAt_some
theorem rh:(Tryz.prog.info? 146).map (fun i=>(i.zero,i.size,i.bytes))=some (some (.agg #[.int .i64 0,.bool false,.int .i64 0,.int .i64 0,.int .u64 0]),5,40):=by kernel_rfl
def yF(a:Ac):List Value:=[.int .i64 a.spot,.bool a.wr,.int .i64 a.kind,.int .i64 a.num,.int .u64 a.things]
def iA(l:List Ac):List Value:=l.flatMap yF
theorem uV(l:List Ac)(a:Ac):iA (l++[a])=iA l++yF a:=by simp[iA]
namespace Rp
def acOf(x:Rp)(cs:List Nat)(sh s:Nat):Option Ac:=
 if(x.st s).p.kind=2 then some {spot:=s,num:=(x.st s).a0.num}
 else if(x.st s).p.kind=3 then some {spot:=s,wr:=true,num:=(x.st s).p.ln}
 else if(x.st s).p.kind=4 then some {spot:=s,kind:=1,num:=(x.st s).p.side,things:=dg (ax cs ((x.st s).fn*6+(x.st s).a0.num)).1 sh}
 else if(x.st s).p.kind=5 then some {spot:=s,wr:=true,kind:=1,num:=(x.st s).p.side,things:=dg (ax cs ((x.st s).fn*6+(x.st s).p.ln)).1 sh}
 else none
def accs(x:Rp)(cs:List Nat)(sh:Nat):List Ac:=(els x.spots).filterMap (x.acOf cs sh)
end Rp
def yK(base B:Nat)(bt e:TypeId)(size n:Nat)(xs:List Value)(W:World):Prop:=∃v,Boxed W B bt v∧W.ownsRow base e size v n xs
theorem vp{β:Type}(base B:Nat)(bt e:TypeId)(size:Nat)(n:β→Nat)(xs:β→List Value):_root_.Go.Own (fun s W=>yK base B bt e size (n s) (xs s) W):=fun s X Y row hs hg hrow=>by
 obtain⟨v,h1,h2⟩:=hs
 refine⟨v,boxed_own (β:=Unit) B bt (fun _=>v) () X Y row h1 hg hrow,h2.kept hg ?_⟩
 rcases h2.2 with⟨rfl,_⟩|⟨g,cap,cur,rfl,hb,hgg,_⟩
 ·exact Or.inl rfl
 ·refine Or.inr fun e'=>?_
  obtain⟨o,ho,hc⟩:=hrow g (by rw[←e'];rfl)
  rw[hgg]at ho;cases ho;cases hc
theorem nM:∀args w,(callFunc 99 args).run Tryz.prog w=.ok (.enter 99 args) w:=enters_of Tryz.func99 (by kernel_rfl) rfl
def By(Q:Exit→Act→World→Prop):Exit→Act→World→Prop
 |.normal,a,w=>Q .normal a w
 |_,_,_=>False
theorem ij{P:Program}{ops:Array Oper}{Q:Exit→Act→World→Prop}{l n id:Nat}{S:World→Prop}{a:Act}{w:World}(hm:P.follows .mixedOrders=true)(hnd:ops.all gz=true)(hS:S w.drew)
  (h:S w.drew→wpAnyH P .any ops (By Q) S ops.size (Array.replicate ops.size false) a w.drew):(Code.region id ops true).wpIn (Fence.wide.inRound l) n P Q a w:=
 Code.wpIn_mono (by
  intro e a w h
  cases e<;>first|exact h|exact(h:False).elim) (eJ hm hnd (fun⟨_,_,e⟩=>e) hS h)
theorem tS{w:World}{bR bH sh:Nat}{x:Rp}{cs:List Nat}(h:aP w bR x)(hh:gN w bH bR sh cs)(sp:ci x)(hso:∀s,s< x.stmts.length→gM (x.st s))(hr:∀s,s< x.stmts.length→(x.st s).p.kind=2∨(x.st s).p.kind=4→0< (x.st s).r.length)(hT:Tz w)(hg:0< w.heap.size):
  Calls Tryz.prog 66 #[ak bR,ak bH] w fun r w'=>∃v,r=.returned v∧w'.ownsRow w.heap.size 146 5 v (x.accs cs sh).length (iA (x.accs cs sh))∧Below w.heap.size w w':=by
 obtain⟨i0,hi,hz0,hz1,hz2⟩:=info_parts rh
 obtain⟨bv,sv,tv,rv,lv,h1,-⟩:=h.ex
 have c5:w.cell? ⟨bR,5,none⟩=some (.int .u64 x.spots):=h1.cell 5
 have hRl:=h1.lt
 obtain⟨D,hD⟩:∃W,W=((w.alloc (.cells #[ak bR] 163)).alloc (.cells #[ak bH] 165)).alloc (.cells #[.slice none 0 0] 167):=⟨_,rfl⟩
 have kD:Below w.heap.size w D:=by rw[hD];exact(((Below.refl _ w).alloc (Nat.le_refl _) _).alloc (by simp) _).alloc (by simp;omega) _
 have hzD:w.heap.size+1+1< D.heap.size:=by rw[hD];simp
 have b1:Boxed D w.heap.size 163 (ak bR):=by rw[hD];exact((Boxed.new w _ _).alloc _).alloc _
 have b2:Boxed D (w.heap.size+1) 165 (ak bH):=by
  rw[hD]
  have:=Boxed.new (w.alloc (.cells #[ak bR] 163)) 165 (ak bH)
  rw[World.size_alloc]at this
  exact this.alloc _
 have b3:Boxed D (w.heap.size+1+1) 167 (.slice none 0 0):=by
  rw[hD]
  have:=Boxed.new ((w.alloc (.cells #[ak bR] 163)).alloc (.cells #[ak bH] 165)) 167 (.slice none 0 0)
  rw[World.size_alloc,World.size_alloc]at this
  exact this
 have r1:D.cell? ⟨w.heap.size,0,none⟩=some (ak bR):=b1.cell
 have r5:D.cell? ⟨bR,5,none⟩=some (.int .u64 x.spots):=(kD.cell (p:=⟨bR,5,none⟩) hRl).trans c5
 rw[hD]at r1 r5
 have HKD:=aa kD
 have HB1:=aa b1
 have HB2:=aa b2
 have HB3:=aa b3
 have HH:=aa h
 have HHH:=aa hh
 have HSP:=aa sp
 have HSO:=aa hso
 have HRR:=aa hr
 have HT:=aa hT
 have HD:=aa hD
 clear h h1 hh hso hr hT kD b1 b2 b3 hD
 refine(callsIn_wide (n:=3)).1 ?_
 refine callsIn_of_wp_marks Tryz.func66 rfl trivial ?_ rfl
 simp only[Tryz.ntmps66,List.size_toArray,List.length_cons,List.length_nil,Nat.reduceAdd,Nat.reduceSub,Array.replicate_succ,Array.replicate_zero,List.push_toArray,List.append_toArray,List.nil_append,List.cons_append]
 gi_wp2_with (refine⟨trivial,?_⟩;gi_at_call 96;rw[←HD.out];refine(eI _ _ _).mono ?_;rintro e w' ⟨rfl,hq⟩;subst w')
 obtain⟨W2,hW2⟩:∃W,W=D.alloc (.cells #[.int .u64 x.spots] 199):=⟨_,rfl⟩
 have k2:Below D.heap.size D W2:=by rw[hW2];exact(Below.refl _ D).alloc (Nat.le_refl _) _
 have bA:Boxed W2 D.heap.size 199 (.int .u64 x.spots):=by rw[hW2];exact Boxed.new _ _ _
 have hz2':D.heap.size< W2.heap.size:=bA.lt
 have kw2:Below w.heap.size w W2:=HKD.out.trans (k2.mono HKD.out.size)
 rw[←hW2]
 clear hW2 r1 r5
 refine wpIn_rangeFunc_ownH rfl (by decide) (gf:=147) (lb:=#[.pointer (some ⟨D.heap.size,0,none⟩)]) rfl trivial (enters_of Tryz.func147 (by kernel_rfl) rfl)
  (dr 2 (by decide) D.heap.size w.heap.size x.spots sp.lt _ hz2' (by omega) hg bA.cell (HT.out.below kw2)) belowK_t (belowK_b (by omega)) (Below.refl _ _) (fun _=>rfl)
  (fun pre W=>((yK w.heap.size (w.heap.size+1+1) 167 146 5 ((pre.map (·.1)).filterMap (x.acOf cs sh)).length (iA ((pre.map (·.1)).filterMap (x.acOf cs sh))) W∧Boxed W w.heap.size 163 (ak bR))∧Boxed W (w.heap.size+1) 165 (ak bH))∧Below w.heap.size w W)
  (fun _ _ _=>False)
  (OwnFrom.and (OwnFrom.and (OwnFrom.and (Own.from (vp _ _ _ _ _ _ _) _) (Own.from (boxed_own _ _ _) _)) (Own.from (boxed_own _ _ _) _)) (ownFrom_below (Nat.le_refl _) (by omega)))
  (fun _ _ _ _ _ hs _ _=>hs)
  ⟨⟨⟨⟨_,am HB3.out k2,World.ownsRow_nil _ _ _ _⟩,am HB1.out k2⟩,am HB2.out k2⟩,kw2⟩
  (fun z a' W=>∃p,a'={tmps:=#[ak bR,ak bH,.pointer (some ⟨w.heap.size,0,none⟩),.pointer (some ⟨w.heap.size+1,0,none⟩),.slice none 0 0,.pointer (some ⟨w.heap.size+1+1,0,none⟩),.pointer (some ⟨p,0,none⟩),undef,undef,ak bR,.pointer (some ⟨bR,0,none⟩),.pointer (some ⟨bR,5,none⟩),.int .u64 x.spots,.func (.func 147) #[] #[.pointer (some ⟨D.heap.size,0,none⟩)],.int .i64 z.1,undef,undef,undef,undef,undef,undef,undef,undef,undef,undef,undef,undef,undef,undef,undef,undef,undef,undef,undef,undef,undef,undef,undef,undef,undef,undef,undef,undef,undef,undef,undef,undef,undef,undef,undef,undef,undef,undef,undef,undef,undef,undef,undef,undef,undef,undef,undef,undef,undef,undef,undef,undef,undef,undef,undef,undef,undef,undef,undef,undef,undef,undef,undef,undef,undef,undef,undef,undef,undef,undef,undef,undef,undef,undef,undef,undef,undef,undef,undef,undef,undef,undef,undef,undef],defers:=[]}∧Boxed W p 141 (.int .i64 z.1)∧w.heap.size< p)
  (fun z a' _ X Y row hs hg' hr=>by
   obtain⟨p,e,hp,hlt⟩:=hs
   exact⟨p,e,boxed_own (β:=Unit) p _ (fun _=>_) () X Y row hp hg' (fun r e=>(hr r e).2),hlt⟩) ?assign ?body ?done ?stop
 case assign=>
  rintro lr pre z W K hI hK
  have kA:Below W.heap.size W (W.alloc (.cells #[.int .i64 z.1] 141)):=(Below.refl _ W).alloc (Nat.le_refl _) _
  have hWz:w.heap.size< W.heap.size:=hI.1.1.2.lt
  obtain⟨v,hv1,hv2⟩:=hI.1.1.1
  have:=hK {tmps:=#[ak bR,ak bH,.pointer (some ⟨w.heap.size,0,none⟩),.pointer (some ⟨w.heap.size+1,0,none⟩),.slice none 0 0,.pointer (some ⟨w.heap.size+1+1,0,none⟩),.pointer (some ⟨W.heap.size,0,none⟩),undef,undef,ak bR,.pointer (some ⟨bR,0,none⟩),.pointer (some ⟨bR,5,none⟩),.int .u64 x.spots,.func (.func 147) #[] #[.pointer (some ⟨D.heap.size,0,none⟩)],.int .i64 z.1,undef,undef,undef,undef,undef,undef,undef,undef,undef,undef,undef,undef,undef,undef,undef,undef,undef,undef,undef,undef,undef,undef,undef,undef,undef,undef,undef,undef,undef,undef,undef,undef,undef,undef,undef,undef,undef,undef,undef,undef,undef,undef,undef,undef,undef,undef,undef,undef,undef,undef,undef,undef,undef,undef,undef,undef,undef,undef,undef,undef,undef,undef,undef,undef,undef,undef,undef,undef,undef,undef,undef,undef,undef,undef,undef,undef,undef,undef,undef,undef,undef,undef,undef,undef],defers:=[]} _ (aB kA) (kA.mono (by omega)) ⟨⟨⟨⟨v,am hv1 kA,ay hv2 kA⟩,am hI.1.1.2 kA⟩,am hI.1.2 kA⟩,hI.2.trans (kA.mono (by omega))⟩ ⟨W.heap.size,rfl,Boxed.new _ _ _,hWz⟩
  have HK:=aa this
  clear hK this hI hv1 hv2
  gi_wp2
  exact HK.out
 case body=>
  rintro lr pre z a' W hlr-⟨⟨⟨⟨v,hv1,hv2⟩,hp1⟩,hp2⟩,kW⟩ ⟨p,rfl,hp,hpw⟩ hpl
  obtain⟨pv,cv,rfl⟩:=ai hv2
  have hzs:=HSP.out.mem z.1 z.2.1 z.2.2
  obtain⟨g,c,bs,sr,sb,z3,z4,z5,z6,z7,hbs,hrow,hbo,hro,-⟩:=HH.out.stmO kW hzs
  have so:=HSO.out z.1 hzs
  have hrr:=HRR.out z.1 hzs
  have hkl:w.heap.size< W.heap.size:=hp1.lt
  have q1:W.cell? ⟨w.heap.size,0,none⟩=some (ak bR):=hp1.cell
  have qp:W.cell? ⟨p,0,none⟩=some (.int .i64 z.1):=hp.cell
  have HSK4:Hid (∀w',Below W.heap.size W w'→w'.cell? ⟨w.heap.size,0,none⟩=some (ak bR)∧w'.cell? ⟨bR,3,none⟩=some (.slice (some ⟨g,0,none⟩) x.stmts.length c)∧w'.cell? ⟨p,0,none⟩=some (.int .i64 z.1)∧w'.cell? ⟨g,z.1*4,none⟩=some (ak bs)∧w'.cell? ⟨g,z.1*4+1,none⟩=some (.int .i64 (x.st z.1).fn)∧w'.cell? ⟨g,z.1*4+2,none⟩=some (.int .i64 (x.st z.1).nx)∧w'.cell? ⟨g,z.1*4+3,none⟩=some (.int .i64 (x.st z.1).ins)):=fun w' kk=>⟨(kk.cell (p:=⟨w.heap.size,0,none⟩) hkl).trans q1,(kk.cell (p:=⟨bR,3,none⟩) (ah z3)).trans z3,(kk.cell (p:=⟨p,0,none⟩) hp.lt).trans qp,(kk.cell (p:=⟨g,z.1*4,none⟩) (ah z4)).trans z4,(kk.cell (p:=⟨g,z.1*4+1,none⟩) (ah z5)).trans z5,(kk.cell (p:=⟨g,z.1*4+2,none⟩) (ah z6)).trans z6,(kk.cell (p:=⟨g,z.1*4+3,none⟩) (ah z7)).trans z7⟩
  obtain⟨g1,g2,g3,g4,g5,g6,g7⟩:=HSK4.out W.drew ((Below.refl _ W).drew)
  have hsi:((z.1:Nat):Int)< (x.stmts.length:Int):=by omega
  gi_wp2
  refine rz (S:=fun w'=>w'.cell? ⟨w.heap.size,0,none⟩=some (ak bR)∧w'.cell? ⟨bR,3,none⟩=some (.slice (some ⟨g,0,none⟩) x.stmts.length c)∧w'.cell? ⟨p,0,none⟩=some (.int .i64 z.1)∧w'.cell? ⟨g,z.1*4,none⟩=some (ak bs)∧w'.cell? ⟨g,z.1*4+1,none⟩=some (.int .i64 (x.st z.1).fn)∧w'.cell? ⟨g,z.1*4+2,none⟩=some (.int .i64 (x.st z.1).nx)∧w'.cell? ⟨g,z.1*4+3,none⟩=some (.int .i64 (x.st z.1).ins)) (by kernel_rfl) (by kernel_rfl) ⟨g1,g2,g3,g4,g5,g6,g7⟩ (fun hHeld=>?_)
  refine tk 0 (v:=?q5x1) rfl (by kernel_rfl) (fun _ _ _ h=>h) (by assumption) rfl ?q5x1y ?_
  case q5x1y=>intro _ h;(try dsimp only at h);go_simp;try with_reducible rfl
  try simp only[Act.put,aS,aR,aQ]
  refine tk 1 (v:=?q5x2) rfl (by kernel_rfl) (fun _ _ _ h=>h) (by assumption) rfl ?q5x2y ?_
  case q5x2y=>intro _ h;(try dsimp only at h);go_simp;try with_reducible rfl
  try simp only[Act.put,aS,aR,aQ]
  refine tk 2 (v:=?q5x3) rfl (by kernel_rfl) (fun _ _ _ h=>h) (by assumption) rfl ?q5x3y ?_
  case q5x3y=>intro _ h;(try dsimp only at h);go_simp;try with_reducible rfl
  try simp only[Act.put,aS,aR,aQ]
  refine tk 3 (v:=?q5x4) rfl (by kernel_rfl) (fun _ _ _ h=>h) (by assumption) rfl ?q5x4y ?_
  case q5x4y=>intro _ h;(try dsimp only at h);go_simp;try with_reducible rfl
  try simp only[Act.put,aS,aR,aQ]
  refine tk 4 (v:=?q5x5) rfl (by kernel_rfl) (fun _ _ _ h=>h) (by assumption) rfl ?q5x5y ?_
  case q5x5y=>intro _ h;(try dsimp only at h);go_simp;try with_reducible rfl
  try simp only[Act.put,aS,aR,aQ]
  refine tk 5 (v:=?q5x6) rfl (by kernel_rfl) (fun _ _ _ h=>h) (by assumption) rfl ?q5x6y ?_
  case q5x6y=>intro _ h;(try dsimp only at h);go_simp;try with_reducible rfl
  try simp only[Act.put,aS,aR,aQ]
  refine tk 6 (v:=?q5x7) rfl (by kernel_rfl) (fun _ _ _ h=>h) (by assumption) rfl ?q5x7y ?_
  case q5x7y=>intro _ h;(try dsimp only at h);go_simp;try with_reducible rfl
  try simp only[Act.put,aS,aR,aQ]
  refine wpAnyH_ready (rs:=[7]) (by kernel_rfl) (by simp) ?_
  refine AllReadyH.cons rfl (fun K' hK=>?_) AllReadyH.nil
  go_simp
  refine hK.out _ _ (HSK4.out _ (by first|exact((Below.refl _ W).drew).alloc (Nat.le_refl _) _|exact((Below.refl _ W).alloc (Nat.le_refl _) _).drew)) (fun hHeld2=>?_)
  clear hK K'
  try simp only[Act.put,aS,aR,aQ]
  refine wpAnyH_ready (rs:=[8]) (by kernel_rfl) (by simp) ?_
  refine AllReadyH.cons rfl (fun K' hK=>?_) AllReadyH.nil
  go_simp
  refine hK.out _ _ (HSK4.out _ (by first|exact((Below.refl _ W).drew).alloc (Nat.le_refl _) _|exact((Below.refl _ W).alloc (Nat.le_refl _) _).drew)) (fun hHeld2=>?_)
  clear hK K'
  try simp only[Act.put,aS,aR,aQ]
  refine wpAnyH_done (by kernel_rfl) ?_ _
  clear hHeld hHeld2 g1 g2 g3 g4 g5 g6 g7
  obtain⟨W7,hW7⟩:∃W',W'=(W.alloc (.cells #[ak bs,.int .i64 (x.st z.1).fn,.int .i64 (x.st z.1).nx,.int .i64 (x.st z.1).ins] 197)).drew:=⟨_,rfl⟩
  have k7:Below W.heap.size W W7:=by rw[hW7];exact((Below.refl _ W).alloc (Nat.le_refl _) _).drew
  have t7:W7.heap[W.heap.size]?=some (.cells #[ak bs,.int .i64 (x.st z.1).fn,.int .i64 (x.st z.1).nx,.int .i64 (x.st z.1).ins] 197 (0,0)):=by rw[hW7];exact heap_alloc_new W _
  have kw7:Below w.heap.size w W7:=kW.trans (k7.mono kW.size)
  have hbs7:=hbs.below k7
  have HSK:Hid (∀w',dw (fun t=>t=146∨t=167) w.heap.size W7 w'→w'.cell? ⟨p,0,none⟩=some (.int .i64 z.1)∧w'.cell? ⟨W.heap.size,0,none⟩=some (ak bs)∧an w' bs (aK (x.st z.1).p sr sb)∧∀gr j v,gr< w.heap.size→W7.cell? ⟨gr,j,none⟩=some v→w'.cell? ⟨gr,j,none⟩=some v):=fun w' q=>by
   refine⟨?_,(af (q.typ _ _ _ _ (by decide) t7)).cell 0,hbs7.below2 q.bel hbo,fun gr j v hg' hv=>(q.bel.cell (p:=⟨gr,j,none⟩) hg').trans hv⟩
   exact(af (q.typ _ _ _ _ (by decide) (am hp k7))).cell 0
  have hb57:=am hv1 k7
  have ho7:=ay hv2 k7
  have hBl:w.heap.size+1+1< W7.heap.size:=hb57.lt
  have l0:W7.cell? ⟨w.heap.size+1+1,0,none⟩=some (.slice pv ((pre.map (·.1)).filterMap (x.acOf cs sh)).length cv):=hb57.cell
  have FIN:Hid (∀(X:World) (v4:Value) (w4:World) (a:Ac),Below W7.heap.size W7 X→w4.ownsRow w.heap.size 146 5 v4 (((pre.map (·.1)).filterMap (x.acOf cs sh)).length+1) (iA ((pre.map (·.1)).filterMap (x.acOf cs sh))++yF a)→(X.alloc (.cells (Ar a) 146)).grownBy w4 (Value.slice pv ((pre.map (·.1)).filterMap (x.acOf cs sh)).length cv).ownBlock→x.acOf cs sh z.1=some a→w4.cell? ⟨w.heap.size+1+1,0,none⟩=some (.slice pv ((pre.map (·.1)).filterMap (x.acOf cs sh)).length cv)∧w4.frozen? ⟨w.heap.size+1+1,0,none⟩=false∧w.heap.size+1+1< w4.heap.size∧dw (fun t=>t=146∨t=167) w.heap.size W7 w4∧dw (fun t=>t=146∨t=167) w.heap.size W7 (w4.setCell ⟨w.heap.size+1+1,0,none⟩ v4)∧Hid (KeepsFrom W2.heap.size W (w4.setCell ⟨w.heap.size+1+1,0,none⟩ v4)∧Below w.heap.size W (w4.setCell ⟨w.heap.size+1+1,0,none⟩ v4)∧((yK w.heap.size (w.heap.size+1+1) 167 146 5 (((pre++[z]).map (·.1)).filterMap (x.acOf cs sh)).length (iA (((pre++[z]).map (·.1)).filterMap (x.acOf cs sh))) (w4.setCell ⟨w.heap.size+1+1,0,none⟩ v4)∧Boxed (w4.setCell ⟨w.heap.size+1+1,0,none⟩ v4) w.heap.size 163 (ak bR))∧Boxed (w4.setCell ⟨w.heap.size+1+1,0,none⟩ v4) (w.heap.size+1) 165 (ak bH))∧Below w.heap.size w (w4.setCell ⟨w.heap.size+1+1,0,none⟩ v4))):=fun X v4 w4 a kX r1 r2 ha=>by
   have hoX:=ay ho7 kX
   have hbX:=am hb57 kX
   have hz7:w.heap.size≤W7.heap.size:=kw7.size
   have hzX:w.heap.size≤X.heap.size:=Nat.le_trans hz7 kX.size
   have kT:dw (fun t=>t=146∨t=167) w.heap.size W7 w4:=((dw.of_below kX hz7).alloc hzX _).trans (dw.grown (hoX.alloc _) r2 (Or.inl rfl) (by simp;omega))
   have n5:=fO hoX hbX (by decide)
   have x5:Boxed w4 (w.heap.size+1+1) 167 (.slice pv ((pre.map (·.1)).filterMap (x.acOf cs sh)).length cv):=(hbX.alloc (.cells (Ar a) 146)).kept r2 (fun e=>n5 e.symm)
   have kS:dw (fun t=>t=146∨t=167) w.heap.size W7 (w4.setCell ⟨w.heap.size+1+1,0,none⟩ v4):=kT.trans (dw.set (j:=0) (u:=v4) x5 (Or.inr rfl) (by omega))
   have kW7:dw (fun t=>t=146∨t=167) w.heap.size W W7:=dw.of_below k7 kW.size
   refine⟨x5.cell,x5.frozen,x5.lt,kT,kS,⟨⟨Nat.le_trans k7.size kS.bel.size,fun i o _ hi ho=>?_⟩,(k7.mono kW.size).trans kS.bel,⟨⟨⟨v4,x5.set _,?_⟩,?_⟩,?_⟩,kw7.trans kS.bel⟩⟩
   ·have h1:=(k7.block i (Array.getElem?_eq_some_iff.1 hi).1).trans hi
    have h2:=(kX.block i (Array.getElem?_eq_some_iff.1 h1).1).trans h1
    have h3:=(((KeepsOthers.alloc X (.cells (Ar a) 146)).trans (iv (hoX.alloc _) r2)).trans (KeepsOthers.setCell w4 ⟨w.heap.size+1+1,0,none⟩ v4)).same i o h2 ho
    exact h3
   ·have e1:((pre++[z]).map (·.1)).filterMap (x.acOf cs sh)=((pre.map (·.1)).filterMap (x.acOf cs sh))++[a]:=by rw[List.map_append,List.filterMap_append];simp[ha]
    rw[e1,uV,List.length_append]
    exact r1.kept (row:=some (w.heap.size+1+1)) (grownBy_setCell' w4 _ _) (Or.inr (fO r1 x5 (by decide)))
   ·exact(kS.typ _ _ _ _ (by decide) ((kW7.typ _ _ _ _ (by decide) hp1)))
   ·exact(kS.typ _ _ _ _ (by decide) ((kW7.typ _ _ _ _ (by decide) hp2)))
  have NONE:Hid (x.acOf cs sh z.1=none→KeepsFrom W2.heap.size W W7∧Below w.heap.size W W7∧((yK w.heap.size (w.heap.size+1+1) 167 146 5 (((pre++[z]).map (·.1)).filterMap (x.acOf cs sh)).length (iA (((pre++[z]).map (·.1)).filterMap (x.acOf cs sh))) W7∧Boxed W7 w.heap.size 163 (ak bR))∧Boxed W7 (w.heap.size+1) 165 (ak bH))∧Below w.heap.size w W7):=fun ha=>by
   have e1:((pre++[z]).map (·.1)).filterMap (x.acOf cs sh)=((pre.map (·.1)).filterMap (x.acOf cs sh)):=by rw[List.map_append,List.filterMap_append];simp[ha]
   rw[e1]
   exact⟨aB k7,k7.mono kW.size,⟨⟨⟨_,hb57,ho7⟩,am hp1 k7⟩,am hp2 k7⟩,kw7⟩
  have HT0:dw (fun t=>t=146∨t=167) w.heap.size W7 W7.drew:=(dw.refl _ _ _).drew
  have hen:=nM
  have hnl:((pre.map (·.1)).filterMap (x.acOf cs sh)).length≤64:=by
   have h1:=List.length_filterMap_le (x.acOf cs sh) (pre.map (·.1))
   rw[List.length_map]at h1
   omega
  have HO7:=aa ho7
  have hfn:=so.fn
  have hln:=so.ln
  have HSO7:=aa so
  have hz7w:=kw7.size
  have HACS:Hid (∀(nm:Nat) (t:ByteArray) (at_:Int),nm< 6→Calls Tryz.prog 99 #[.agg #[.string t,.int .i64 at_,.int .i64 nm],.pointer (some ⟨w.heap.size+1,0,none⟩),.pointer (some ⟨p,0,none⟩)] W7.drew fun r w'=>r=.returned (.int .u64 (dg (ax cs ((x.st z.1).fn*6+nm)).1 sh:Nat))∧Below W7.drew.heap.size W7.drew w'):=fun nm t at_ hnm=>wT (HH.out.keep kw7.drew) (HHH.out.keep kw7.drew) hzs hfn hnm (am hp2 k7.drew).cell (am hp k7.drew).cell
  have HW7:=aa hW7
  have HRW7:=aa (ay hrow k7)
  clear hv1 hv2 hp1 hp2 k7 t7 kw7 hbs7 hb57 ho7 so hW7
  have yp:W7.cell? ⟨W.heap.size,0,none⟩=some (ak bs):=(HSK.out W7 (dw.refl _ _ _)).2.1
  rw[←HW7.out]
  by_cases K2:(x.st z.1).p.kind=2
  ·have y2:W7.cell? ⟨bs,2,none⟩=some (.int .i64 2):=by rw[(HSK.out W7 (dw.refl _ _ _)).2.2.1.cell 2];simp[aK,K2]
   obtain⟨gr,cr,rfl,hgl,hat⟩:=mL HRW7.out (hrr (Or.inl K2))
   have hgo:=hro gr rfl
   have HSS:Hid (∀w',dw (fun t=>t=146∨t=167) w.heap.size W7 w'→w'.cell? ⟨p,0,none⟩=some (.int .i64 z.1)∧w'.cell? ⟨W.heap.size,0,none⟩=some (ak bs)∧w'.cell? ⟨bs,12,none⟩=some (.slice (some ⟨gr,0,none⟩) (x.st z.1).r.length cr)∧w'.cell? ⟨gr,2,none⟩=some (.int .i64 (x.st z.1).a0.num)):=fun w' q=>by
    obtain⟨h1,h2,h3,h4⟩:=HSK.out w' q
    exact⟨h1,h2,h3.cell 12,h4 gr 2 _ hgo (hat W7 (fun _=>rfl)).2.2.1⟩
   obtain⟨ac,hac⟩:∃a:Ac,a={spot:=z.1,num:=(x.st z.1).a0.num}:=⟨_,rfl⟩
   have HAO:Hid (x.acOf cs sh z.1=some ac):=by show _=_;rw[hac];unfold Rp.acOf;rw[if_pos K2]
   have HTa:dw (fun t=>t=146∨t=167) w.heap.size W7 (W7.alloc (.cells #[.int .i64 z.1,.bool false,.int .i64 0,.int .i64 (x.st z.1).a0.num,.int .u64 0] 146)).drew:=((dw.refl _ _ _).alloc hz7w _).drew
   have HAL:Hid (yF ac=[.int .i64 z.1,.bool false,.int .i64 0,.int .i64 (x.st z.1).a0.num,.int .u64 0]):=by show _=_;rw[hac];rfl
   have HAC:Hid (Ar ac=#[.int .i64 z.1,.bool false,.int .i64 0,.int .i64 (x.st z.1).a0.num,.int .u64 0]):=by show _=_;rw[hac];rfl
   clear hac
   have l0d:W7.drew.cell? ⟨w.heap.size+1+1,0,none⟩=some (.slice pv ((pre.map (·.1)).filterMap (x.acOf cs sh)).length cv):=l0
   gi_wp2
   refine ij (S:=fun w'=>w'.cell? ⟨p,0,none⟩=some (.int .i64 z.1)∧w'.cell? ⟨W.heap.size,0,none⟩=some (ak bs)∧w'.cell? ⟨bs,12,none⟩=some (.slice (some ⟨gr,0,none⟩) (x.st z.1).r.length cr)∧w'.cell? ⟨gr,2,none⟩=some (.int .i64 (x.st z.1).a0.num)) (by kernel_rfl) (by kernel_rfl) (HSS.out _ HT0) (fun hHeld=>?_)
   refine tk 1 (v:=?q1x1) rfl (by kernel_rfl) (fun _ _ _ h=>h) (by assumption) rfl ?q1x1y ?_
   case q1x1y=>intro _ h;(try dsimp only at h);go_simp;try with_reducible rfl
   try simp only[Act.put,aS,aR,aQ]
   refine tk 2 (v:=?q1x2) rfl (by kernel_rfl) (fun _ _ _ h=>h) (by assumption) rfl ?q1x2y ?_
   case q1x2y=>intro _ h;(try dsimp only at h);go_simp;try with_reducible rfl
   try simp only[Act.put,aS,aR,aQ]
   refine tk 3 (v:=?q1x3) rfl (by kernel_rfl) (fun _ _ _ h=>h) (by assumption) rfl ?q1x3y ?_
   case q1x3y=>intro _ h;(try dsimp only at h);go_simp;try with_reducible rfl
   try simp only[Act.put,aS,aR,aQ]
   refine tk 4 (v:=?q1x4) rfl (by kernel_rfl) (fun _ _ _ h=>h) (by assumption) rfl ?q1x4y ?_
   case q1x4y=>intro _ h;(try dsimp only at h);go_simp;try with_reducible rfl
   try simp only[Act.put,aS,aR,aQ]
   refine tk 5 (v:=?q1x5) rfl (by kernel_rfl) (fun _ _ _ h=>h) (by assumption) rfl ?q1x5y ?_
   case q1x5y=>intro _ h;(try dsimp only at h);go_simp;try with_reducible rfl
   try simp only[Act.put,aS,aR,aQ]
   refine tk 6 (v:=?q1x6) rfl (by kernel_rfl) (fun _ _ _ h=>h) (by assumption) rfl ?q1x6y ?_
   case q1x6y=>intro _ h;(try dsimp only at h);go_simp;try with_reducible rfl
   try simp only[Act.put,aS,aR,aQ]
   refine tk 7 (v:=?q1x7) rfl (by kernel_rfl) (fun _ _ _ h=>h) (by assumption) rfl ?q1x7y ?_
   case q1x7y=>intro _ h;(try dsimp only at h);go_simp;try with_reducible rfl
   try simp only[Act.put,aS,aR,aQ]
   refine tk 8 (v:=?q1x8) rfl (by kernel_rfl) (fun _ _ _ h=>h) (by assumption) rfl ?q1x8y ?_
   case q1x8y=>intro _ h;(try dsimp only at h);go_simp;try with_reducible rfl
   try simp only[Act.put,aS,aR,aQ]
   refine tk 9 (v:=?q1x9) rfl (by kernel_rfl) (fun _ _ _ h=>h) (by assumption) rfl ?q1x9y ?_
   case q1x9y=>intro _ h;(try dsimp only at h);go_simp;try with_reducible rfl
   try simp only[Act.put,aS,aR,aQ]
   refine tk 10 (v:=?q1x10) rfl (by kernel_rfl) (fun _ _ _ h=>h) (by assumption) rfl ?q1x10y ?_
   case q1x10y=>intro _ h;(try dsimp only at h);go_simp;try with_reducible rfl
   try simp only[Act.put,aS,aR,aQ]
   refine tk 11 (v:=?q1x11) rfl (by kernel_rfl) (fun _ _ _ h=>h) (by assumption) rfl ?q1x11y ?_
   case q1x11y=>intro _ h;(try dsimp only at h);go_simp;try with_reducible rfl
   try simp only[Act.put,aS,aR,aQ]
   refine wpAnyH_ready (rs:=[0,12]) (by kernel_rfl) (by simp) ?_
   refine AllReadyH.cons rfl (fun K' hK=>?_) (AllReadyH.cons rfl (fun K' hK=>?_) AllReadyH.nil)
   ·go_simp
    refine hK.out _ _ (HSS.out _ (by assumption)) (fun hHeld2=>?_)
    clear hK K'
    try simp only[Act.put,aS,aR,aQ]
    refine wpAnyH_ready (rs:=[12]) (by kernel_rfl) (by simp) ?_
    refine AllReadyH.cons rfl (fun K' hK=>?_) AllReadyH.nil
    go_simp
    refine hK.out _ _ (HSS.out _ (by assumption)) (fun hHeld2=>?_)
    clear hK K'
    try simp only[Act.put,aS,aR,aQ]
    refine wpAnyH_ready (rs:=[13]) (by kernel_rfl) (by simp) ?_
    refine AllReadyH.cons rfl (fun K' hK=>?_) AllReadyH.nil
    refine aA rfl (.tmp 30) (.tmp 42) 167 rfl w.heap.size 146 i0 (.agg #[.int .i64 0,.bool false,.int .i64 0,.int .i64 0,.int .u64 0]) 5 40 Tryz.underlying167 hi hz0 hz1 hz2 rfl (by decide) _ _ _ rfl (HO7.out.alloc _) ⟨W7.heap.size,0,none⟩ 1 1 [.int .i64 z.1,.bool false,.int .i64 0,.int .i64 (x.st z.1).a0.num,.int .u64 0] rfl rfl (aF _ _ _ _ rfl) (by intro u hu;simp at hu;rcases hu with rfl|rfl|rfl|rfl|rfl<;>rfl) (by decide) (by unfold maxLen;omega) (by omega) (by simp;omega) ?_
    intro v4 w4 hown4 hgrow4 hwh4
    obtain⟨p4,k4,rfl⟩:=ai hown4
    rw[←HAL.out]at hown4
    obtain⟨e5,f5,lt5,HT4,HT4s,HP⟩:=FIN.out W7.drew _ w4 ac ((Below.refl _ W7).drew) hown4 (by rw[HAC.out];exact⟨hgrow4.os,hgrow4.tape,hgrow4.output,hgrow4.size,hgrow4.block⟩) HAO.out
    clear hown4 hgrow4 hwh4
    refine hK.out _ _ (HSS.out _ (by assumption)) (fun hHeld2=>?_)
    clear hK K'
    try simp only[Act.put,aS,aR,aQ]
    refine wpAnyH_ready (rs:=[14]) (by kernel_rfl) (by simp) ?_
    refine AllReadyH.cons rfl (fun K' hK=>?_) AllReadyH.nil
    go_simp
    refine hK.out _ _ (HSS.out _ (by assumption)) (fun hHeld2=>?_)
    clear hK K'
    try simp only[Act.put,aS,aR,aQ]
    refine wpAnyH_done (by kernel_rfl) ?_ _
    exact HP.out
   ·go_simp
    refine hK.out _ _ (HSS.out _ (by assumption)) (fun hHeld2=>?_)
    clear hK K'
    try simp only[Act.put,aS,aR,aQ]
    refine wpAnyH_ready (rs:=[0]) (by kernel_rfl) (by simp) ?_
    refine AllReadyH.cons rfl (fun K' hK=>?_) AllReadyH.nil
    go_simp
    refine hK.out _ _ (HSS.out _ (by assumption)) (fun hHeld2=>?_)
    clear hK K'
    try simp only[Act.put,aS,aR,aQ]
    refine wpAnyH_ready (rs:=[13]) (by kernel_rfl) (by simp) ?_
    refine AllReadyH.cons rfl (fun K' hK=>?_) AllReadyH.nil
    refine aA rfl (.tmp 30) (.tmp 42) 167 rfl w.heap.size 146 i0 (.agg #[.int .i64 0,.bool false,.int .i64 0,.int .i64 0,.int .u64 0]) 5 40 Tryz.underlying167 hi hz0 hz1 hz2 rfl (by decide) _ _ _ rfl (HO7.out.alloc _) ⟨W7.heap.size,0,none⟩ 1 1 [.int .i64 z.1,.bool false,.int .i64 0,.int .i64 (x.st z.1).a0.num,.int .u64 0] rfl rfl (aF _ _ _ _ rfl) (by intro u hu;simp at hu;rcases hu with rfl|rfl|rfl|rfl|rfl<;>rfl) (by decide) (by unfold maxLen;omega) (by omega) (by simp;omega) ?_
    intro v4 w4 hown4 hgrow4 hwh4
    obtain⟨p4,k4,rfl⟩:=ai hown4
    rw[←HAL.out]at hown4
    obtain⟨e5,f5,lt5,HT4,HT4s,HP⟩:=FIN.out W7.drew _ w4 ac ((Below.refl _ W7).drew) hown4 (by rw[HAC.out];exact⟨hgrow4.os,hgrow4.tape,hgrow4.output,hgrow4.size,hgrow4.block⟩) HAO.out
    clear hown4 hgrow4 hwh4
    refine hK.out _ _ (HSS.out _ (by assumption)) (fun hHeld2=>?_)
    clear hK K'
    try simp only[Act.put,aS,aR,aQ]
    refine wpAnyH_ready (rs:=[14]) (by kernel_rfl) (by simp) ?_
    refine AllReadyH.cons rfl (fun K' hK=>?_) AllReadyH.nil
    go_simp
    refine hK.out _ _ (HSS.out _ (by assumption)) (fun hHeld2=>?_)
    clear hK K'
    try simp only[Act.put,aS,aR,aQ]
    refine wpAnyH_done (by kernel_rfl) ?_ _
    exact HP.out
  ·by_cases K3:(x.st z.1).p.kind=3
   ·have y2:W7.cell? ⟨bs,2,none⟩=some (.int .i64 3):=by rw[(HSK.out W7 (dw.refl _ _ _)).2.2.1.cell 2];simp[aK,K3]
    have HSS:Hid (∀w',dw (fun t=>t=146∨t=167) w.heap.size W7 w'→w'.cell? ⟨p,0,none⟩=some (.int .i64 z.1)∧w'.cell? ⟨W.heap.size,0,none⟩=some (ak bs)∧w'.cell? ⟨bs,5,none⟩=some (.int .i64 (x.st z.1).p.ln)):=fun w' q=>by
     obtain⟨h1,h2,h3,h4⟩:=HSK.out w' q
     exact⟨h1,h2,h3.cell 5⟩
    obtain⟨ac,hac⟩:∃a:Ac,a={spot:=z.1,wr:=true,num:=(x.st z.1).p.ln}:=⟨_,rfl⟩
    have HAO:Hid (x.acOf cs sh z.1=some ac):=by show _=_;rw[hac];unfold Rp.acOf;rw[if_neg K2,if_pos K3]
    have HTa:dw (fun t=>t=146∨t=167) w.heap.size W7 (W7.alloc (.cells #[.int .i64 z.1,.bool true,.int .i64 0,.int .i64 (x.st z.1).p.ln,.int .u64 0] 146)).drew:=((dw.refl _ _ _).alloc hz7w _).drew
    have HAL:Hid (yF ac=[.int .i64 z.1,.bool true,.int .i64 0,.int .i64 (x.st z.1).p.ln,.int .u64 0]):=by show _=_;rw[hac];rfl
    have HAC:Hid (Ar ac=#[.int .i64 z.1,.bool true,.int .i64 0,.int .i64 (x.st z.1).p.ln,.int .u64 0]):=by show _=_;rw[hac];rfl
    clear hac
    have l0d:W7.drew.cell? ⟨w.heap.size+1+1,0,none⟩=some (.slice pv ((pre.map (·.1)).filterMap (x.acOf cs sh)).length cv):=l0
    gi_wp2
    refine ij (S:=fun w'=>w'.cell? ⟨p,0,none⟩=some (.int .i64 z.1)∧w'.cell? ⟨W.heap.size,0,none⟩=some (ak bs)∧w'.cell? ⟨bs,5,none⟩=some (.int .i64 (x.st z.1).p.ln)) (by kernel_rfl) (by kernel_rfl) (HSS.out _ HT0) (fun hHeld=>?_)
    refine tk 1 (v:=?q2x1) rfl (by kernel_rfl) (fun _ _ _ h=>h) (by assumption) rfl ?q2x1y ?_
    case q2x1y=>intro _ h;(try dsimp only at h);go_simp;try with_reducible rfl
    try simp only[Act.put,aS,aR,aQ]
    refine tk 2 (v:=?q2x2) rfl (by kernel_rfl) (fun _ _ _ h=>h) (by assumption) rfl ?q2x2y ?_
    case q2x2y=>intro _ h;(try dsimp only at h);go_simp;try with_reducible rfl
    try simp only[Act.put,aS,aR,aQ]
    refine tk 3 (v:=?q2x3) rfl (by kernel_rfl) (fun _ _ _ h=>h) (by assumption) rfl ?q2x3y ?_
    case q2x3y=>intro _ h;(try dsimp only at h);go_simp;try with_reducible rfl
    try simp only[Act.put,aS,aR,aQ]
    refine tk 4 (v:=?q2x4) rfl (by kernel_rfl) (fun _ _ _ h=>h) (by assumption) rfl ?q2x4y ?_
    case q2x4y=>intro _ h;(try dsimp only at h);go_simp;try with_reducible rfl
    try simp only[Act.put,aS,aR,aQ]
    refine tk 5 (v:=?q2x5) rfl (by kernel_rfl) (fun _ _ _ h=>h) (by assumption) rfl ?q2x5y ?_
    case q2x5y=>intro _ h;(try dsimp only at h);go_simp;try with_reducible rfl
    try simp only[Act.put,aS,aR,aQ]
    refine tk 6 (v:=?q2x6) rfl (by kernel_rfl) (fun _ _ _ h=>h) (by assumption) rfl ?q2x6y ?_
    case q2x6y=>intro _ h;(try dsimp only at h);go_simp;try with_reducible rfl
    try simp only[Act.put,aS,aR,aQ]
    refine tk 7 (v:=?q2x7) rfl (by kernel_rfl) (fun _ _ _ h=>h) (by assumption) rfl ?q2x7y ?_
    case q2x7y=>intro _ h;(try dsimp only at h);go_simp;try with_reducible rfl
    try simp only[Act.put,aS,aR,aQ]
    refine tk 8 (v:=?q2x8) rfl (by kernel_rfl) (fun _ _ _ h=>h) (by assumption) rfl ?q2x8y ?_
    case q2x8y=>intro _ h;(try dsimp only at h);go_simp;try with_reducible rfl
    try simp only[Act.put,aS,aR,aQ]
    refine wpAnyH_ready (rs:=[0,9]) (by kernel_rfl) (by simp) ?_
    refine AllReadyH.cons rfl (fun K' hK=>?_) (AllReadyH.cons rfl (fun K' hK=>?_) AllReadyH.nil)
    ·go_simp
     refine hK.out _ _ (HSS.out _ (by assumption)) (fun hHeld2=>?_)
     clear hK K'
     try simp only[Act.put,aS,aR,aQ]
     refine wpAnyH_ready (rs:=[9]) (by kernel_rfl) (by simp) ?_
     refine AllReadyH.cons rfl (fun K' hK=>?_) AllReadyH.nil
     go_simp
     refine hK.out _ _ (HSS.out _ (by assumption)) (fun hHeld2=>?_)
     clear hK K'
     try simp only[Act.put,aS,aR,aQ]
     refine wpAnyH_ready (rs:=[10]) (by kernel_rfl) (by simp) ?_
     refine AllReadyH.cons rfl (fun K' hK=>?_) AllReadyH.nil
     refine aA rfl (.tmp 46) (.tmp 55) 167 rfl w.heap.size 146 i0 (.agg #[.int .i64 0,.bool false,.int .i64 0,.int .i64 0,.int .u64 0]) 5 40 Tryz.underlying167 hi hz0 hz1 hz2 rfl (by decide) _ _ _ rfl (HO7.out.alloc _) ⟨W7.heap.size,0,none⟩ 1 1 [.int .i64 z.1,.bool true,.int .i64 0,.int .i64 (x.st z.1).p.ln,.int .u64 0] rfl rfl (aF _ _ _ _ rfl) (by intro u hu;simp at hu;rcases hu with rfl|rfl|rfl|rfl|rfl<;>rfl) (by decide) (by unfold maxLen;omega) (by omega) (by simp;omega) ?_
     intro v4 w4 hown4 hgrow4 hwh4
     obtain⟨p4,k4,rfl⟩:=ai hown4
     rw[←HAL.out]at hown4
     obtain⟨e5,f5,lt5,HT4,HT4s,HP⟩:=FIN.out W7.drew _ w4 ac ((Below.refl _ W7).drew) hown4 (by rw[HAC.out];exact⟨hgrow4.os,hgrow4.tape,hgrow4.output,hgrow4.size,hgrow4.block⟩) HAO.out
     clear hown4 hgrow4 hwh4
     refine hK.out _ _ (HSS.out _ (by assumption)) (fun hHeld2=>?_)
     clear hK K'
     try simp only[Act.put,aS,aR,aQ]
     refine wpAnyH_ready (rs:=[11]) (by kernel_rfl) (by simp) ?_
     refine AllReadyH.cons rfl (fun K' hK=>?_) AllReadyH.nil
     go_simp
     refine hK.out _ _ (HSS.out _ (by assumption)) (fun hHeld2=>?_)
     clear hK K'
     try simp only[Act.put,aS,aR,aQ]
     refine wpAnyH_done (by kernel_rfl) ?_ _
     exact HP.out
    ·go_simp
     refine hK.out _ _ (HSS.out _ (by assumption)) (fun hHeld2=>?_)
     clear hK K'
     try simp only[Act.put,aS,aR,aQ]
     refine wpAnyH_ready (rs:=[0]) (by kernel_rfl) (by simp) ?_
     refine AllReadyH.cons rfl (fun K' hK=>?_) AllReadyH.nil
     go_simp
     refine hK.out _ _ (HSS.out _ (by assumption)) (fun hHeld2=>?_)
     clear hK K'
     try simp only[Act.put,aS,aR,aQ]
     refine wpAnyH_ready (rs:=[10]) (by kernel_rfl) (by simp) ?_
     refine AllReadyH.cons rfl (fun K' hK=>?_) AllReadyH.nil
     refine aA rfl (.tmp 46) (.tmp 55) 167 rfl w.heap.size 146 i0 (.agg #[.int .i64 0,.bool false,.int .i64 0,.int .i64 0,.int .u64 0]) 5 40 Tryz.underlying167 hi hz0 hz1 hz2 rfl (by decide) _ _ _ rfl (HO7.out.alloc _) ⟨W7.heap.size,0,none⟩ 1 1 [.int .i64 z.1,.bool true,.int .i64 0,.int .i64 (x.st z.1).p.ln,.int .u64 0] rfl rfl (aF _ _ _ _ rfl) (by intro u hu;simp at hu;rcases hu with rfl|rfl|rfl|rfl|rfl<;>rfl) (by decide) (by unfold maxLen;omega) (by omega) (by simp;omega) ?_
     intro v4 w4 hown4 hgrow4 hwh4
     obtain⟨p4,k4,rfl⟩:=ai hown4
     rw[←HAL.out]at hown4
     obtain⟨e5,f5,lt5,HT4,HT4s,HP⟩:=FIN.out W7.drew _ w4 ac ((Below.refl _ W7).drew) hown4 (by rw[HAC.out];exact⟨hgrow4.os,hgrow4.tape,hgrow4.output,hgrow4.size,hgrow4.block⟩) HAO.out
     clear hown4 hgrow4 hwh4
     refine hK.out _ _ (HSS.out _ (by assumption)) (fun hHeld2=>?_)
     clear hK K'
     try simp only[Act.put,aS,aR,aQ]
     refine wpAnyH_ready (rs:=[11]) (by kernel_rfl) (by simp) ?_
     refine AllReadyH.cons rfl (fun K' hK=>?_) AllReadyH.nil
     go_simp
     refine hK.out _ _ (HSS.out _ (by assumption)) (fun hHeld2=>?_)
     clear hK K'
     try simp only[Act.put,aS,aR,aQ]
     refine wpAnyH_done (by kernel_rfl) ?_ _
     exact HP.out
   ·by_cases K4:(x.st z.1).p.kind=4
    ·have y2:W7.cell? ⟨bs,2,none⟩=some (.int .i64 4):=by rw[(HSK.out W7 (dw.refl _ _ _)).2.2.1.cell 2];simp[aK,K4]
     obtain⟨gr,cr,rfl,hgl,hat⟩:=mL HRW7.out (hrr (Or.inr K4))
     have hgo:=hro gr rfl
     have hnm:(x.st z.1).a0.num< 6:=HSO7.out.num _ (by unfold Fs.a0;rw[List.getD_eq_getElem?_getD,List.getElem?_eq_getElem (hrr (Or.inr K4))];exact List.getElem_mem _)
     have HSS:Hid (∀w',dw (fun t=>t=146∨t=167) w.heap.size W7 w'→w'.cell? ⟨p,0,none⟩=some (.int .i64 z.1)∧w'.cell? ⟨W.heap.size,0,none⟩=some (ak bs)∧w'.cell? ⟨bs,7,none⟩=some (.int .i64 (x.st z.1).p.side)∧w'.cell? ⟨bs,12,none⟩=some (.slice (some ⟨gr,0,none⟩) (x.st z.1).r.length cr)∧w'.cell? ⟨gr,0,none⟩=some (.string ⟨(x.st z.1).a0.text.toArray⟩)∧w'.cell? ⟨gr,1,none⟩=some (.int .i64 (x.st z.1).a0.at_)∧w'.cell? ⟨gr,2,none⟩=some (.int .i64 (x.st z.1).a0.num)):=fun w' q=>by
      obtain⟨h1,h2,h3,h4⟩:=HSK.out w' q
      exact⟨h1,h2,h3.cell 7,h3.cell 12,h4 gr 0 _ hgo (hat W7 (fun _=>rfl)).1,h4 gr 1 _ hgo (hat W7 (fun _=>rfl)).2.1,h4 gr 2 _ hgo (hat W7 (fun _=>rfl)).2.2.1⟩
     obtain⟨ac,hac⟩:∃a:Ac,a={spot:=z.1,kind:=1,num:=(x.st z.1).p.side,things:=dg (ax cs ((x.st z.1).fn*6+(x.st z.1).a0.num)).1 sh}:=⟨_,rfl⟩
     have HAO:Hid (x.acOf cs sh z.1=some ac):=by show _=_;rw[hac];unfold Rp.acOf;rw[if_neg K2,if_neg K3,if_pos K4]
     have HTa:dw (fun t=>t=146∨t=167) w.heap.size W7 (W7.alloc (.cells #[.int .i64 z.1,.bool false,.int .i64 1,.int .i64 (x.st z.1).p.side,.int .u64 (dg (ax cs ((x.st z.1).fn*6+(x.st z.1).a0.num)).1 sh:Nat)] 146)).drew:=((dw.refl _ _ _).alloc hz7w _).drew
     have HAL:Hid (yF ac=[.int .i64 z.1,.bool false,.int .i64 1,.int .i64 (x.st z.1).p.side,.int .u64 (dg (ax cs ((x.st z.1).fn*6+(x.st z.1).a0.num)).1 sh:Nat)]):=by show _=_;rw[hac];rfl
     have HAC:Hid (Ar ac=#[.int .i64 z.1,.bool false,.int .i64 1,.int .i64 (x.st z.1).p.side,.int .u64 (dg (ax cs ((x.st z.1).fn*6+(x.st z.1).a0.num)).1 sh:Nat)]):=by show _=_;rw[hac];rfl
     clear hac
     have l0d:W7.drew.cell? ⟨w.heap.size+1+1,0,none⟩=some (.slice pv ((pre.map (·.1)).filterMap (x.acOf cs sh)).length cv):=l0
     have HCC:=aa (HACS.out (x.st z.1).a0.num ⟨(x.st z.1).a0.text.toArray⟩ (x.st z.1).a0.at_ hnm)
     gi_wp2
     refine ij (S:=fun w'=>w'.cell? ⟨p,0,none⟩=some (.int .i64 z.1)∧w'.cell? ⟨W.heap.size,0,none⟩=some (ak bs)∧w'.cell? ⟨bs,7,none⟩=some (.int .i64 (x.st z.1).p.side)∧w'.cell? ⟨bs,12,none⟩=some (.slice (some ⟨gr,0,none⟩) (x.st z.1).r.length cr)∧w'.cell? ⟨gr,0,none⟩=some (.string ⟨(x.st z.1).a0.text.toArray⟩)∧w'.cell? ⟨gr,1,none⟩=some (.int .i64 (x.st z.1).a0.at_)∧w'.cell? ⟨gr,2,none⟩=some (.int .i64 (x.st z.1).a0.num)) (by kernel_rfl) (by kernel_rfl) (HSS.out _ HT0) (fun hHeld=>?_)
     refine tk 1 (v:=?q3x1) rfl (by kernel_rfl) (fun _ _ _ h=>h) (by assumption) rfl ?q3x1y ?_
     case q3x1y=>intro _ h;(try dsimp only at h);go_simp;try with_reducible rfl
     try simp only[Act.put,aS,aR,aQ]
     refine tk 2 (v:=?q3x2) rfl (by kernel_rfl) (fun _ _ _ h=>h) (by assumption) rfl ?q3x2y ?_
     case q3x2y=>intro _ h;(try dsimp only at h);go_simp;try with_reducible rfl
     try simp only[Act.put,aS,aR,aQ]
     refine tk 3 (v:=?q3x3) rfl (by kernel_rfl) (fun _ _ _ h=>h) (by assumption) rfl ?q3x3y ?_
     case q3x3y=>intro _ h;(try dsimp only at h);go_simp;try with_reducible rfl
     try simp only[Act.put,aS,aR,aQ]
     refine tk 4 (v:=?q3x4) rfl (by kernel_rfl) (fun _ _ _ h=>h) (by assumption) rfl ?q3x4y ?_
     case q3x4y=>intro _ h;(try dsimp only at h);go_simp;try with_reducible rfl
     try simp only[Act.put,aS,aR,aQ]
     refine tk 5 (v:=?q3x5) rfl (by kernel_rfl) (fun _ _ _ h=>h) (by assumption) rfl ?q3x5y ?_
     case q3x5y=>intro _ h;(try dsimp only at h);go_simp;try with_reducible rfl
     try simp only[Act.put,aS,aR,aQ]
     refine tk 6 (v:=?q3x6) rfl (by kernel_rfl) (fun _ _ _ h=>h) (by assumption) rfl ?q3x6y ?_
     case q3x6y=>intro _ h;(try dsimp only at h);go_simp;try with_reducible rfl
     try simp only[Act.put,aS,aR,aQ]
     refine tk 7 (v:=?q3x7) rfl (by kernel_rfl) (fun _ _ _ h=>h) (by assumption) rfl ?q3x7y ?_
     case q3x7y=>intro _ h;(try dsimp only at h);go_simp;try with_reducible rfl
     try simp only[Act.put,aS,aR,aQ]
     refine tk 8 (v:=?q3x8) rfl (by kernel_rfl) (fun _ _ _ h=>h) (by assumption) rfl ?q3x8y ?_
     case q3x8y=>intro _ h;(try dsimp only at h);go_simp;try with_reducible rfl
     try simp only[Act.put,aS,aR,aQ]
     refine tk 9 (v:=?q3x9) rfl (by kernel_rfl) (fun _ _ _ h=>h) (by assumption) rfl ?q3x9y ?_
     case q3x9y=>intro _ h;(try dsimp only at h);go_simp;try with_reducible rfl
     try simp only[Act.put,aS,aR,aQ]
     refine tk 10 (v:=?q3x10) rfl (by kernel_rfl) (fun _ _ _ h=>h) (by assumption) rfl ?q3x10y ?_
     case q3x10y=>intro _ h;(try dsimp only at h);go_simp;try with_reducible rfl
     try simp only[Act.put,aS,aR,aQ]
     refine tk 11 (v:=?q3x11) rfl (by kernel_rfl) (fun _ _ _ h=>h) (by assumption) rfl ?q3x11y ?_
     case q3x11y=>intro _ h;(try dsimp only at h);go_simp;try with_reducible rfl
     try simp only[Act.put,aS,aR,aQ]
     refine tk 12 (v:=?q3x12) rfl (by kernel_rfl) (fun _ _ _ h=>h) (by assumption) rfl ?q3x12y ?_
     case q3x12y=>intro _ h;(try dsimp only at h);go_simp;try with_reducible rfl
     try simp only[Act.put,aS,aR,aQ]
     refine tk 13 (v:=?q3x13) rfl (by kernel_rfl) (fun _ _ _ h=>h) (by assumption) rfl ?q3x13y ?_
     case q3x13y=>intro _ h;(try dsimp only at h);go_simp;try with_reducible rfl
     try simp only[Act.put,aS,aR,aQ]
     refine tk 14 (v:=?q3x14) rfl (by kernel_rfl) (fun _ _ _ h=>h) (by assumption) rfl ?q3x14y ?_
     case q3x14y=>intro _ h;(try dsimp only at h);go_simp;try with_reducible rfl
     try simp only[Act.put,aS,aR,aQ]
     refine tk 15 (v:=?q3x15) rfl (by kernel_rfl) (fun _ _ _ h=>h) (by assumption) rfl ?q3x15y ?_
     case q3x15y=>intro _ h;(try dsimp only at h);go_simp;try with_reducible rfl
     try simp only[Act.put,aS,aR,aQ]
     refine wpAnyH_ready (rs:=[0,16]) (by kernel_rfl) (by simp) ?_
     refine AllReadyH.cons rfl (fun K' hK=>?_) (AllReadyH.cons rfl (fun K' hK=>?_) AllReadyH.nil)
     ·go_simp
      refine hK.out _ _ (HSS.out _ (by assumption)) (fun hHeld2=>?_)
      clear hK K'
      try simp only[Act.put,aS,aR,aQ]
      refine wpAnyH_ready (rs:=[16]) (by kernel_rfl) (by simp) ?_
      refine AllReadyH.cons rfl (fun K' hK=>?_) AllReadyH.nil
      go_simp
      refine HCC.out.mono ?_
      rintro q w5 ⟨rfl,hb5⟩
      have hb5':Below W7.heap.size W7 w5:=⟨hb5.os,hb5.tape,hb5.output,hb5.size,hb5.block⟩
      have HB5:=aa hb5'
      have HT5:dw (fun t=>t=146∨t=167) w.heap.size W7 w5:=dw.of_below hb5' hz7w
      have l5:w5.cell? ⟨w.heap.size+1+1,0,none⟩=some (.slice pv ((pre.map (·.1)).filterMap (x.acOf cs sh)).length cv):=(hb5'.cell (p:=⟨w.heap.size+1+1,0,none⟩) hBl).trans l0
      have hB5l:w.heap.size+1+1< w5.heap.size:=Nat.lt_of_lt_of_le hBl hb5'.size
      have HT5a:dw (fun t=>t=146∨t=167) w.heap.size W7 (w5.alloc (.cells #[.int .i64 z.1,.bool false,.int .i64 1,.int .i64 (x.st z.1).p.side,.int .u64 (dg (ax cs ((x.st z.1).fn*6+(x.st z.1).a0.num)).1 sh:Nat)] 146)):=HT5.alloc (Nat.le_trans hz7w hb5'.size) _
      clear hb5 hb5'
      try go_wp2_with fail
      refine hK.out _ _ (HSS.out _ (by assumption)) (fun hHeld2=>?_)
      clear hK K'
      try simp only[Act.put,aS,aR,aQ]
      refine tk 17 (v:=?q3x16) rfl (by kernel_rfl) (fun _ _ _ h=>h) (by assumption) rfl ?q3x16y ?_
      case q3x16y=>intro _ h;(try dsimp only at h);go_simp;try with_reducible rfl
      try simp only[Act.put,aS,aR,aQ]
      refine wpAnyH_ready (rs:=[18]) (by kernel_rfl) (by simp) ?_
      refine AllReadyH.cons rfl (fun K' hK=>?_) AllReadyH.nil
      go_simp
      refine hK.out _ _ (HSS.out _ (by assumption)) (fun hHeld2=>?_)
      clear hK K'
      try simp only[Act.put,aS,aR,aQ]
      refine wpAnyH_ready (rs:=[19]) (by kernel_rfl) (by simp) ?_
      refine AllReadyH.cons rfl (fun K' hK=>?_) AllReadyH.nil
      refine aA rfl (.tmp 59) (.tmp 77) 167 rfl w.heap.size 146 i0 (.agg #[.int .i64 0,.bool false,.int .i64 0,.int .i64 0,.int .u64 0]) 5 40 Tryz.underlying167 hi hz0 hz1 hz2 rfl (by decide) _ _ _ rfl ((ay HO7.out HB5.out).alloc _) ⟨w5.heap.size,0,none⟩ 1 1 [.int .i64 z.1,.bool false,.int .i64 1,.int .i64 (x.st z.1).p.side,.int .u64 (dg (ax cs ((x.st z.1).fn*6+(x.st z.1).a0.num)).1 sh:Nat)] rfl rfl (aF _ _ _ _ rfl) (by intro u hu;simp at hu;rcases hu with rfl|rfl|rfl|rfl|rfl<;>rfl) (by decide) (by unfold maxLen;omega) (by omega) (by have:=HB5.out.size;simp;omega) ?_
      intro v4 w4 hown4 hgrow4 hwh4
      obtain⟨p4,k4,rfl⟩:=ai hown4
      rw[←HAL.out]at hown4
      obtain⟨e5,f5,lt5,HT4,HT4s,HP⟩:=FIN.out w5 _ w4 ac HB5.out hown4 (by rw[HAC.out];exact⟨hgrow4.os,hgrow4.tape,hgrow4.output,hgrow4.size,hgrow4.block⟩) HAO.out
      clear hown4 hgrow4 hwh4
      refine hK.out _ _ (HSS.out _ (by assumption)) (fun hHeld2=>?_)
      clear hK K'
      try simp only[Act.put,aS,aR,aQ]
      refine wpAnyH_ready (rs:=[20]) (by kernel_rfl) (by simp) ?_
      refine AllReadyH.cons rfl (fun K' hK=>?_) AllReadyH.nil
      go_simp
      refine hK.out _ _ (HSS.out _ (by assumption)) (fun hHeld2=>?_)
      clear hK K'
      try simp only[Act.put,aS,aR,aQ]
      refine wpAnyH_done (by kernel_rfl) ?_ _
      exact HP.out
     ·go_simp
      refine HCC.out.mono ?_
      rintro q w5 ⟨rfl,hb5⟩
      have hb5':Below W7.heap.size W7 w5:=⟨hb5.os,hb5.tape,hb5.output,hb5.size,hb5.block⟩
      have HB5:=aa hb5'
      have HT5:dw (fun t=>t=146∨t=167) w.heap.size W7 w5:=dw.of_below hb5' hz7w
      have l5:w5.cell? ⟨w.heap.size+1+1,0,none⟩=some (.slice pv ((pre.map (·.1)).filterMap (x.acOf cs sh)).length cv):=(hb5'.cell (p:=⟨w.heap.size+1+1,0,none⟩) hBl).trans l0
      have hB5l:w.heap.size+1+1< w5.heap.size:=Nat.lt_of_lt_of_le hBl hb5'.size
      have HT5a:dw (fun t=>t=146∨t=167) w.heap.size W7 (w5.alloc (.cells #[.int .i64 z.1,.bool false,.int .i64 1,.int .i64 (x.st z.1).p.side,.int .u64 (dg (ax cs ((x.st z.1).fn*6+(x.st z.1).a0.num)).1 sh:Nat)] 146)):=HT5.alloc (Nat.le_trans hz7w hb5'.size) _
      clear hb5 hb5'
      try go_wp2_with fail
      refine hK.out _ _ (HSS.out _ (by assumption)) (fun hHeld2=>?_)
      clear hK K'
      try simp only[Act.put,aS,aR,aQ]
      refine tk 17 (v:=?q3x17) rfl (by kernel_rfl) (fun _ _ _ h=>h) (by assumption) rfl ?q3x17y ?_
      case q3x17y=>intro _ h;(try dsimp only at h);go_simp;try with_reducible rfl
      try simp only[Act.put,aS,aR,aQ]
      refine wpAnyH_ready (rs:=[0,18]) (by kernel_rfl) (by simp) ?_
      refine AllReadyH.cons rfl (fun K' hK=>?_) (AllReadyH.cons rfl (fun K' hK=>?_) AllReadyH.nil)
      ·go_simp
       refine hK.out _ _ (HSS.out _ (by assumption)) (fun hHeld2=>?_)
       clear hK K'
       try simp only[Act.put,aS,aR,aQ]
       refine wpAnyH_ready (rs:=[18]) (by kernel_rfl) (by simp) ?_
       refine AllReadyH.cons rfl (fun K' hK=>?_) AllReadyH.nil
       go_simp
       refine hK.out _ _ (HSS.out _ (by assumption)) (fun hHeld2=>?_)
       clear hK K'
       try simp only[Act.put,aS,aR,aQ]
       refine wpAnyH_ready (rs:=[19]) (by kernel_rfl) (by simp) ?_
       refine AllReadyH.cons rfl (fun K' hK=>?_) AllReadyH.nil
       refine aA rfl (.tmp 59) (.tmp 77) 167 rfl w.heap.size 146 i0 (.agg #[.int .i64 0,.bool false,.int .i64 0,.int .i64 0,.int .u64 0]) 5 40 Tryz.underlying167 hi hz0 hz1 hz2 rfl (by decide) _ _ _ rfl ((ay HO7.out HB5.out).alloc _) ⟨w5.heap.size,0,none⟩ 1 1 [.int .i64 z.1,.bool false,.int .i64 1,.int .i64 (x.st z.1).p.side,.int .u64 (dg (ax cs ((x.st z.1).fn*6+(x.st z.1).a0.num)).1 sh:Nat)] rfl rfl (aF _ _ _ _ rfl) (by intro u hu;simp at hu;rcases hu with rfl|rfl|rfl|rfl|rfl<;>rfl) (by decide) (by unfold maxLen;omega) (by omega) (by have:=HB5.out.size;simp;omega) ?_
       intro v4 w4 hown4 hgrow4 hwh4
       obtain⟨p4,k4,rfl⟩:=ai hown4
       rw[←HAL.out]at hown4
       obtain⟨e5,f5,lt5,HT4,HT4s,HP⟩:=FIN.out w5 _ w4 ac HB5.out hown4 (by rw[HAC.out];exact⟨hgrow4.os,hgrow4.tape,hgrow4.output,hgrow4.size,hgrow4.block⟩) HAO.out
       clear hown4 hgrow4 hwh4
       refine hK.out _ _ (HSS.out _ (by assumption)) (fun hHeld2=>?_)
       clear hK K'
       try simp only[Act.put,aS,aR,aQ]
       refine wpAnyH_ready (rs:=[20]) (by kernel_rfl) (by simp) ?_
       refine AllReadyH.cons rfl (fun K' hK=>?_) AllReadyH.nil
       go_simp
       refine hK.out _ _ (HSS.out _ (by assumption)) (fun hHeld2=>?_)
       clear hK K'
       try simp only[Act.put,aS,aR,aQ]
       refine wpAnyH_done (by kernel_rfl) ?_ _
       exact HP.out
      ·go_simp
       refine hK.out _ _ (HSS.out _ (by assumption)) (fun hHeld2=>?_)
       clear hK K'
       try simp only[Act.put,aS,aR,aQ]
       refine wpAnyH_ready (rs:=[0]) (by kernel_rfl) (by simp) ?_
       refine AllReadyH.cons rfl (fun K' hK=>?_) AllReadyH.nil
       go_simp
       refine hK.out _ _ (HSS.out _ (by assumption)) (fun hHeld2=>?_)
       clear hK K'
       try simp only[Act.put,aS,aR,aQ]
       refine wpAnyH_ready (rs:=[19]) (by kernel_rfl) (by simp) ?_
       refine AllReadyH.cons rfl (fun K' hK=>?_) AllReadyH.nil
       refine aA rfl (.tmp 59) (.tmp 77) 167 rfl w.heap.size 146 i0 (.agg #[.int .i64 0,.bool false,.int .i64 0,.int .i64 0,.int .u64 0]) 5 40 Tryz.underlying167 hi hz0 hz1 hz2 rfl (by decide) _ _ _ rfl ((ay HO7.out HB5.out).alloc _) ⟨w5.heap.size,0,none⟩ 1 1 [.int .i64 z.1,.bool false,.int .i64 1,.int .i64 (x.st z.1).p.side,.int .u64 (dg (ax cs ((x.st z.1).fn*6+(x.st z.1).a0.num)).1 sh:Nat)] rfl rfl (aF _ _ _ _ rfl) (by intro u hu;simp at hu;rcases hu with rfl|rfl|rfl|rfl|rfl<;>rfl) (by decide) (by unfold maxLen;omega) (by omega) (by have:=HB5.out.size;simp;omega) ?_
       intro v4 w4 hown4 hgrow4 hwh4
       obtain⟨p4,k4,rfl⟩:=ai hown4
       rw[←HAL.out]at hown4
       obtain⟨e5,f5,lt5,HT4,HT4s,HP⟩:=FIN.out w5 _ w4 ac HB5.out hown4 (by rw[HAC.out];exact⟨hgrow4.os,hgrow4.tape,hgrow4.output,hgrow4.size,hgrow4.block⟩) HAO.out
       clear hown4 hgrow4 hwh4
       refine hK.out _ _ (HSS.out _ (by assumption)) (fun hHeld2=>?_)
       clear hK K'
       try simp only[Act.put,aS,aR,aQ]
       refine wpAnyH_ready (rs:=[20]) (by kernel_rfl) (by simp) ?_
       refine AllReadyH.cons rfl (fun K' hK=>?_) AllReadyH.nil
       go_simp
       refine hK.out _ _ (HSS.out _ (by assumption)) (fun hHeld2=>?_)
       clear hK K'
       try simp only[Act.put,aS,aR,aQ]
       refine wpAnyH_done (by kernel_rfl) ?_ _
       exact HP.out
    ·by_cases K5:(x.st z.1).p.kind=5
     ·have y2:W7.cell? ⟨bs,2,none⟩=some (.int .i64 5):=by rw[(HSK.out W7 (dw.refl _ _ _)).2.2.1.cell 2];simp[aK,K5]
      have hnm:(x.st z.1).p.ln< 6:=hln
      have HSS:Hid (∀w',dw (fun t=>t=146∨t=167) w.heap.size W7 w'→w'.cell? ⟨p,0,none⟩=some (.int .i64 z.1)∧w'.cell? ⟨W.heap.size,0,none⟩=some (ak bs)∧w'.cell? ⟨bs,7,none⟩=some (.int .i64 (x.st z.1).p.side)∧w'.cell? ⟨bs,3,none⟩=some (.string ⟨(x.st z.1).p.lt.toArray⟩)∧w'.cell? ⟨bs,4,none⟩=some (.int .i64 (x.st z.1).p.la)∧w'.cell? ⟨bs,5,none⟩=some (.int .i64 (x.st z.1).p.ln)):=fun w' q=>by
       obtain⟨h1,h2,h3,h4⟩:=HSK.out w' q
       exact⟨h1,h2,h3.cell 7,h3.cell 3,h3.cell 4,h3.cell 5⟩
      obtain⟨ac,hac⟩:∃a:Ac,a={spot:=z.1,wr:=true,kind:=1,num:=(x.st z.1).p.side,things:=dg (ax cs ((x.st z.1).fn*6+(x.st z.1).p.ln)).1 sh}:=⟨_,rfl⟩
      have HAO:Hid (x.acOf cs sh z.1=some ac):=by show _=_;rw[hac];unfold Rp.acOf;rw[if_neg K2,if_neg K3,if_neg K4,if_pos K5]
      have HTa:dw (fun t=>t=146∨t=167) w.heap.size W7 (W7.alloc (.cells #[.int .i64 z.1,.bool true,.int .i64 1,.int .i64 (x.st z.1).p.side,.int .u64 (dg (ax cs ((x.st z.1).fn*6+(x.st z.1).p.ln)).1 sh:Nat)] 146)).drew:=((dw.refl _ _ _).alloc hz7w _).drew
      have HAL:Hid (yF ac=[.int .i64 z.1,.bool true,.int .i64 1,.int .i64 (x.st z.1).p.side,.int .u64 (dg (ax cs ((x.st z.1).fn*6+(x.st z.1).p.ln)).1 sh:Nat)]):=by show _=_;rw[hac];rfl
      have HAC:Hid (Ar ac=#[.int .i64 z.1,.bool true,.int .i64 1,.int .i64 (x.st z.1).p.side,.int .u64 (dg (ax cs ((x.st z.1).fn*6+(x.st z.1).p.ln)).1 sh:Nat)]):=by show _=_;rw[hac];rfl
      clear hac
      have l0d:W7.drew.cell? ⟨w.heap.size+1+1,0,none⟩=some (.slice pv ((pre.map (·.1)).filterMap (x.acOf cs sh)).length cv):=l0
      have HCC:=aa (HACS.out (x.st z.1).p.ln ⟨(x.st z.1).p.lt.toArray⟩ (x.st z.1).p.la hnm)
      gi_wp2
      refine ij (S:=fun w'=>w'.cell? ⟨p,0,none⟩=some (.int .i64 z.1)∧w'.cell? ⟨W.heap.size,0,none⟩=some (ak bs)∧w'.cell? ⟨bs,7,none⟩=some (.int .i64 (x.st z.1).p.side)∧w'.cell? ⟨bs,3,none⟩=some (.string ⟨(x.st z.1).p.lt.toArray⟩)∧w'.cell? ⟨bs,4,none⟩=some (.int .i64 (x.st z.1).p.la)∧w'.cell? ⟨bs,5,none⟩=some (.int .i64 (x.st z.1).p.ln)) (by kernel_rfl) (by kernel_rfl) (HSS.out _ HT0) (fun hHeld=>?_)
      refine tk 1 (v:=?q4x1) rfl (by kernel_rfl) (fun _ _ _ h=>h) (by assumption) rfl ?q4x1y ?_
      case q4x1y=>intro _ h;(try dsimp only at h);go_simp;try with_reducible rfl
      try simp only[Act.put,aS,aR,aQ]
      refine tk 2 (v:=?q4x2) rfl (by kernel_rfl) (fun _ _ _ h=>h) (by assumption) rfl ?q4x2y ?_
      case q4x2y=>intro _ h;(try dsimp only at h);go_simp;try with_reducible rfl
      try simp only[Act.put,aS,aR,aQ]
      refine tk 3 (v:=?q4x3) rfl (by kernel_rfl) (fun _ _ _ h=>h) (by assumption) rfl ?q4x3y ?_
      case q4x3y=>intro _ h;(try dsimp only at h);go_simp;try with_reducible rfl
      try simp only[Act.put,aS,aR,aQ]
      refine tk 4 (v:=?q4x4) rfl (by kernel_rfl) (fun _ _ _ h=>h) (by assumption) rfl ?q4x4y ?_
      case q4x4y=>intro _ h;(try dsimp only at h);go_simp;try with_reducible rfl
      try simp only[Act.put,aS,aR,aQ]
      refine tk 5 (v:=?q4x5) rfl (by kernel_rfl) (fun _ _ _ h=>h) (by assumption) rfl ?q4x5y ?_
      case q4x5y=>intro _ h;(try dsimp only at h);go_simp;try with_reducible rfl
      try simp only[Act.put,aS,aR,aQ]
      refine tk 6 (v:=?q4x6) rfl (by kernel_rfl) (fun _ _ _ h=>h) (by assumption) rfl ?q4x6y ?_
      case q4x6y=>intro _ h;(try dsimp only at h);go_simp;try with_reducible rfl
      try simp only[Act.put,aS,aR,aQ]
      refine tk 7 (v:=?q4x7) rfl (by kernel_rfl) (fun _ _ _ h=>h) (by assumption) rfl ?q4x7y ?_
      case q4x7y=>intro _ h;(try dsimp only at h);go_simp;try with_reducible rfl
      try simp only[Act.put,aS,aR,aQ]
      refine tk 8 (v:=?q4x8) rfl (by kernel_rfl) (fun _ _ _ h=>h) (by assumption) rfl ?q4x8y ?_
      case q4x8y=>intro _ h;(try dsimp only at h);go_simp;try with_reducible rfl
      try simp only[Act.put,aS,aR,aQ]
      refine tk 9 (v:=?q4x9) rfl (by kernel_rfl) (fun _ _ _ h=>h) (by assumption) rfl ?q4x9y ?_
      case q4x9y=>intro _ h;(try dsimp only at h);go_simp;try with_reducible rfl
      try simp only[Act.put,aS,aR,aQ]
      refine tk 10 (v:=?q4x10) rfl (by kernel_rfl) (fun _ _ _ h=>h) (by assumption) rfl ?q4x10y ?_
      case q4x10y=>intro _ h;(try dsimp only at h);go_simp;try with_reducible rfl
      try simp only[Act.put,aS,aR,aQ]
      refine tk 11 (v:=?q4x11) rfl (by kernel_rfl) (fun _ _ _ h=>h) (by assumption) rfl ?q4x11y ?_
      case q4x11y=>intro _ h;(try dsimp only at h);go_simp;try with_reducible rfl
      try simp only[Act.put,aS,aR,aQ]
      refine tk 12 (v:=?q4x12) rfl (by kernel_rfl) (fun _ _ _ h=>h) (by assumption) rfl ?q4x12y ?_
      case q4x12y=>intro _ h;(try dsimp only at h);go_simp;try with_reducible rfl
      try simp only[Act.put,aS,aR,aQ]
      refine wpAnyH_ready (rs:=[0,13]) (by kernel_rfl) (by simp) ?_
      refine AllReadyH.cons rfl (fun K' hK=>?_) (AllReadyH.cons rfl (fun K' hK=>?_) AllReadyH.nil)
      ·go_simp
       refine hK.out _ _ (HSS.out _ (by assumption)) (fun hHeld2=>?_)
       clear hK K'
       try simp only[Act.put,aS,aR,aQ]
       refine wpAnyH_ready (rs:=[13]) (by kernel_rfl) (by simp) ?_
       refine AllReadyH.cons rfl (fun K' hK=>?_) AllReadyH.nil
       go_simp
       refine HCC.out.mono ?_
       rintro q w5 ⟨rfl,hb5⟩
       have hb5':Below W7.heap.size W7 w5:=⟨hb5.os,hb5.tape,hb5.output,hb5.size,hb5.block⟩
       have HB5:=aa hb5'
       have HT5:dw (fun t=>t=146∨t=167) w.heap.size W7 w5:=dw.of_below hb5' hz7w
       have l5:w5.cell? ⟨w.heap.size+1+1,0,none⟩=some (.slice pv ((pre.map (·.1)).filterMap (x.acOf cs sh)).length cv):=(hb5'.cell (p:=⟨w.heap.size+1+1,0,none⟩) hBl).trans l0
       have hB5l:w.heap.size+1+1< w5.heap.size:=Nat.lt_of_lt_of_le hBl hb5'.size
       have HT5a:dw (fun t=>t=146∨t=167) w.heap.size W7 (w5.alloc (.cells #[.int .i64 z.1,.bool true,.int .i64 1,.int .i64 (x.st z.1).p.side,.int .u64 (dg (ax cs ((x.st z.1).fn*6+(x.st z.1).p.ln)).1 sh:Nat)] 146)):=HT5.alloc (Nat.le_trans hz7w hb5'.size) _
       clear hb5 hb5'
       try go_wp2_with fail
       refine hK.out _ _ (HSS.out _ (by assumption)) (fun hHeld2=>?_)
       clear hK K'
       try simp only[Act.put,aS,aR,aQ]
       refine tk 14 (v:=?q4x13) rfl (by kernel_rfl) (fun _ _ _ h=>h) (by assumption) rfl ?q4x13y ?_
       case q4x13y=>intro _ h;(try dsimp only at h);go_simp;try with_reducible rfl
       try simp only[Act.put,aS,aR,aQ]
       refine wpAnyH_ready (rs:=[15]) (by kernel_rfl) (by simp) ?_
       refine AllReadyH.cons rfl (fun K' hK=>?_) AllReadyH.nil
       go_simp
       refine hK.out _ _ (HSS.out _ (by assumption)) (fun hHeld2=>?_)
       clear hK K'
       try simp only[Act.put,aS,aR,aQ]
       refine wpAnyH_ready (rs:=[16]) (by kernel_rfl) (by simp) ?_
       refine AllReadyH.cons rfl (fun K' hK=>?_) AllReadyH.nil
       refine aA rfl (.tmp 81) (.tmp 96) 167 rfl w.heap.size 146 i0 (.agg #[.int .i64 0,.bool false,.int .i64 0,.int .i64 0,.int .u64 0]) 5 40 Tryz.underlying167 hi hz0 hz1 hz2 rfl (by decide) _ _ _ rfl ((ay HO7.out HB5.out).alloc _) ⟨w5.heap.size,0,none⟩ 1 1 [.int .i64 z.1,.bool true,.int .i64 1,.int .i64 (x.st z.1).p.side,.int .u64 (dg (ax cs ((x.st z.1).fn*6+(x.st z.1).p.ln)).1 sh:Nat)] rfl rfl (aF _ _ _ _ rfl) (by intro u hu;simp at hu;rcases hu with rfl|rfl|rfl|rfl|rfl<;>rfl) (by decide) (by unfold maxLen;omega) (by omega) (by have:=HB5.out.size;simp;omega) ?_
       intro v4 w4 hown4 hgrow4 hwh4
       obtain⟨p4,k4,rfl⟩:=ai hown4
       rw[←HAL.out]at hown4
       obtain⟨e5,f5,lt5,HT4,HT4s,HP⟩:=FIN.out w5 _ w4 ac HB5.out hown4 (by rw[HAC.out];exact⟨hgrow4.os,hgrow4.tape,hgrow4.output,hgrow4.size,hgrow4.block⟩) HAO.out
       clear hown4 hgrow4 hwh4
       refine hK.out _ _ (HSS.out _ (by assumption)) (fun hHeld2=>?_)
       clear hK K'
       try simp only[Act.put,aS,aR,aQ]
       refine wpAnyH_ready (rs:=[17]) (by kernel_rfl) (by simp) ?_
       refine AllReadyH.cons rfl (fun K' hK=>?_) AllReadyH.nil
       go_simp
       refine hK.out _ _ (HSS.out _ (by assumption)) (fun hHeld2=>?_)
       clear hK K'
       try simp only[Act.put,aS,aR,aQ]
       refine wpAnyH_done (by kernel_rfl) ?_ _
       exact HP.out
      ·go_simp
       refine HCC.out.mono ?_
       rintro q w5 ⟨rfl,hb5⟩
       have hb5':Below W7.heap.size W7 w5:=⟨hb5.os,hb5.tape,hb5.output,hb5.size,hb5.block⟩
       have HB5:=aa hb5'
       have HT5:dw (fun t=>t=146∨t=167) w.heap.size W7 w5:=dw.of_below hb5' hz7w
       have l5:w5.cell? ⟨w.heap.size+1+1,0,none⟩=some (.slice pv ((pre.map (·.1)).filterMap (x.acOf cs sh)).length cv):=(hb5'.cell (p:=⟨w.heap.size+1+1,0,none⟩) hBl).trans l0
       have hB5l:w.heap.size+1+1< w5.heap.size:=Nat.lt_of_lt_of_le hBl hb5'.size
       have HT5a:dw (fun t=>t=146∨t=167) w.heap.size W7 (w5.alloc (.cells #[.int .i64 z.1,.bool true,.int .i64 1,.int .i64 (x.st z.1).p.side,.int .u64 (dg (ax cs ((x.st z.1).fn*6+(x.st z.1).p.ln)).1 sh:Nat)] 146)):=HT5.alloc (Nat.le_trans hz7w hb5'.size) _
       clear hb5 hb5'
       try go_wp2_with fail
       refine hK.out _ _ (HSS.out _ (by assumption)) (fun hHeld2=>?_)
       clear hK K'
       try simp only[Act.put,aS,aR,aQ]
       refine tk 14 (v:=?q4x14) rfl (by kernel_rfl) (fun _ _ _ h=>h) (by assumption) rfl ?q4x14y ?_
       case q4x14y=>intro _ h;(try dsimp only at h);go_simp;try with_reducible rfl
       try simp only[Act.put,aS,aR,aQ]
       refine wpAnyH_ready (rs:=[0,15]) (by kernel_rfl) (by simp) ?_
       refine AllReadyH.cons rfl (fun K' hK=>?_) (AllReadyH.cons rfl (fun K' hK=>?_) AllReadyH.nil)
       ·go_simp
        refine hK.out _ _ (HSS.out _ (by assumption)) (fun hHeld2=>?_)
        clear hK K'
        try simp only[Act.put,aS,aR,aQ]
        refine wpAnyH_ready (rs:=[15]) (by kernel_rfl) (by simp) ?_
        refine AllReadyH.cons rfl (fun K' hK=>?_) AllReadyH.nil
        go_simp
        refine hK.out _ _ (HSS.out _ (by assumption)) (fun hHeld2=>?_)
        clear hK K'
        try simp only[Act.put,aS,aR,aQ]
        refine wpAnyH_ready (rs:=[16]) (by kernel_rfl) (by simp) ?_
        refine AllReadyH.cons rfl (fun K' hK=>?_) AllReadyH.nil
        refine aA rfl (.tmp 81) (.tmp 96) 167 rfl w.heap.size 146 i0 (.agg #[.int .i64 0,.bool false,.int .i64 0,.int .i64 0,.int .u64 0]) 5 40 Tryz.underlying167 hi hz0 hz1 hz2 rfl (by decide) _ _ _ rfl ((ay HO7.out HB5.out).alloc _) ⟨w5.heap.size,0,none⟩ 1 1 [.int .i64 z.1,.bool true,.int .i64 1,.int .i64 (x.st z.1).p.side,.int .u64 (dg (ax cs ((x.st z.1).fn*6+(x.st z.1).p.ln)).1 sh:Nat)] rfl rfl (aF _ _ _ _ rfl) (by intro u hu;simp at hu;rcases hu with rfl|rfl|rfl|rfl|rfl<;>rfl) (by decide) (by unfold maxLen;omega) (by omega) (by have:=HB5.out.size;simp;omega) ?_
        intro v4 w4 hown4 hgrow4 hwh4
        obtain⟨p4,k4,rfl⟩:=ai hown4
        rw[←HAL.out]at hown4
        obtain⟨e5,f5,lt5,HT4,HT4s,HP⟩:=FIN.out w5 _ w4 ac HB5.out hown4 (by rw[HAC.out];exact⟨hgrow4.os,hgrow4.tape,hgrow4.output,hgrow4.size,hgrow4.block⟩) HAO.out
        clear hown4 hgrow4 hwh4
        refine hK.out _ _ (HSS.out _ (by assumption)) (fun hHeld2=>?_)
        clear hK K'
        try simp only[Act.put,aS,aR,aQ]
        refine wpAnyH_ready (rs:=[17]) (by kernel_rfl) (by simp) ?_
        refine AllReadyH.cons rfl (fun K' hK=>?_) AllReadyH.nil
        go_simp
        refine hK.out _ _ (HSS.out _ (by assumption)) (fun hHeld2=>?_)
        clear hK K'
        try simp only[Act.put,aS,aR,aQ]
        refine wpAnyH_done (by kernel_rfl) ?_ _
        exact HP.out
       ·go_simp
        refine hK.out _ _ (HSS.out _ (by assumption)) (fun hHeld2=>?_)
        clear hK K'
        try simp only[Act.put,aS,aR,aQ]
        refine wpAnyH_ready (rs:=[0]) (by kernel_rfl) (by simp) ?_
        refine AllReadyH.cons rfl (fun K' hK=>?_) AllReadyH.nil
        go_simp
        refine hK.out _ _ (HSS.out _ (by assumption)) (fun hHeld2=>?_)
        clear hK K'
        try simp only[Act.put,aS,aR,aQ]
        refine wpAnyH_ready (rs:=[16]) (by kernel_rfl) (by simp) ?_
        refine AllReadyH.cons rfl (fun K' hK=>?_) AllReadyH.nil
        refine aA rfl (.tmp 81) (.tmp 96) 167 rfl w.heap.size 146 i0 (.agg #[.int .i64 0,.bool false,.int .i64 0,.int .i64 0,.int .u64 0]) 5 40 Tryz.underlying167 hi hz0 hz1 hz2 rfl (by decide) _ _ _ rfl ((ay HO7.out HB5.out).alloc _) ⟨w5.heap.size,0,none⟩ 1 1 [.int .i64 z.1,.bool true,.int .i64 1,.int .i64 (x.st z.1).p.side,.int .u64 (dg (ax cs ((x.st z.1).fn*6+(x.st z.1).p.ln)).1 sh:Nat)] rfl rfl (aF _ _ _ _ rfl) (by intro u hu;simp at hu;rcases hu with rfl|rfl|rfl|rfl|rfl<;>rfl) (by decide) (by unfold maxLen;omega) (by omega) (by have:=HB5.out.size;simp;omega) ?_
        intro v4 w4 hown4 hgrow4 hwh4
        obtain⟨p4,k4,rfl⟩:=ai hown4
        rw[←HAL.out]at hown4
        obtain⟨e5,f5,lt5,HT4,HT4s,HP⟩:=FIN.out w5 _ w4 ac HB5.out hown4 (by rw[HAC.out];exact⟨hgrow4.os,hgrow4.tape,hgrow4.output,hgrow4.size,hgrow4.block⟩) HAO.out
        clear hown4 hgrow4 hwh4
        refine hK.out _ _ (HSS.out _ (by assumption)) (fun hHeld2=>?_)
        clear hK K'
        try simp only[Act.put,aS,aR,aQ]
        refine wpAnyH_ready (rs:=[17]) (by kernel_rfl) (by simp) ?_
        refine AllReadyH.cons rfl (fun K' hK=>?_) AllReadyH.nil
        go_simp
        refine hK.out _ _ (HSS.out _ (by assumption)) (fun hHeld2=>?_)
        clear hK K'
        try simp only[Act.put,aS,aR,aQ]
        refine wpAnyH_done (by kernel_rfl) ?_ _
        exact HP.out
     ·have y2:W7.cell? ⟨bs,2,none⟩=some (.int .i64 (x.st z.1).p.kind):=(HSK.out W7 (dw.refl _ _ _)).2.2.1.cell 2
      have n2:(((x.st z.1).p.kind:Int)==2)=false:=by rw[beq_eq_false_iff_ne];omega
      have n3:(((x.st z.1).p.kind:Int)==3)=false:=by rw[beq_eq_false_iff_ne];omega
      have n4:(((x.st z.1).p.kind:Int)==4)=false:=by rw[beq_eq_false_iff_ne];omega
      have n5:(((x.st z.1).p.kind:Int)==5)=false:=by rw[beq_eq_false_iff_ne];omega
      have HN:=aa (NONE.out (by unfold Rp.acOf;rw[if_neg K2,if_neg K3,if_neg K4,if_neg K5]))
      clear K2 K3 K4 K5 FIN NONE
      gi_wp2
      exact HN.out
 case done=>
  rintro Dn ys W hDn rfl ⟨⟨⟨⟨v,hv1,hv2⟩,hp1⟩,hp2⟩,kW⟩ hK
  have hc:=hv1.cell
  have HV2:Hid (W.ownsRow w.heap.size 146 5 v (x.accs cs sh).length (iA (x.accs cs sh))):=by
   have:=hv2
   rw[cF]at this
   exact this
  clear hv2
  gi_wp2
  refine⟨by simp,.inl ⟨_,_,rfl,run_takeDeferred hK,?_⟩⟩
  refine⟨_,results_tmp rfl _ _ _,⟨_,rfl,oN HV2.out hK rfl _,?_⟩⟩
  exact kW.trans (belowK_b (w:=w) (Nat.le_refl _) W Dn _ _ (by omega) hK rfl rfl)
 case stop=>
  rintro Dn c pre W _ _ h _
  exact h.elim
end
end Go.Proofs.YtmdaflepdaiabaaGreatDoor
