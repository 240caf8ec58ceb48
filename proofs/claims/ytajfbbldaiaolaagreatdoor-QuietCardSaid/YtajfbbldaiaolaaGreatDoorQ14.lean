import Derived.OwnWalkIn
import Derived.Laws.EntriesVeiled
import Derived.Test.YtajfbbldaiaolaaGreatDoorQ13
set_option linter.unusedSimpArgs false
set_option linter.unusedVariables false
set_option maxRecDepth 100000
set_option maxHeartbeats 4000000
namespace Go.Proofs.YtajfbbldaiaolaaGreatDoor
open Go.RowKit Go.Shelf
variable {W w:World}{a n:Nat}{v:Value}
section
attribute [local go_sem] Oper.semAt_some
theorem vQ:(Tryz.prog.info? 231).map (fun i=>(i.zero,i.size,i.bytes))=some (some (aH 0),1,8):=by kernel_rfl
theorem Fr:(List.range 64).all (fun n=>et (dB (aW n))==List.range n)=true:=by kernel_rfl
theorem rX(A:n< 64):et (dB (aW n))=List.range n:=by
 have h:=List.all_eq_true.1 Fr n (List.mem_range.2 A)
 exact beq_iff_eq.1 h
namespace Rp
def belowOf(x:Rp)(k:Nat):Nat:=(dD x.withinOf 70 (x.withinOf k) (x.withinOf k)).getD 0
def belowL(x:Rp):List Nat:=(List.range x.starts.length).map x.belowOf
end Rp
structure FX(x:Rp):Prop where
 lt:∀k,k< x.starts.length->x.withinOf k< ec
 re:∀k,k< x.starts.length->dD x.withinOf 70 (x.withinOf k) (x.withinOf k)=some (x.belowOf k)
 sub:∀k,k< x.starts.length->∀i,i< 64->(x.belowOf k).testBit i=true->i< x.starts.length
 runs:x.runs.length=x.starts.length+1
 len:x.starts.length< 60
def wg(base B:Nat)(bt e:TypeId)(n:Nat)(xs:List Value)(W:World):Prop:=∃v,Boxed W B bt v/\W.ownsRow base e 1 v n xs
theorem rG{β:Type}(C B:Nat)(bt e:TypeId)(n:β->Nat)(G:β->List Value):_root_.Go.Own (fun s W=>wg C B bt e (n s) (G s) W):=fun s X Y row H hg A=>by
 obtain⟨v,K,F⟩:=H
 refine⟨v,boxed_own (β:=Unit) B bt (fun _=>v) () X Y row K hg A,F.kept hg ?_⟩
 rcases F.2 with⟨rfl,_⟩|⟨g,cap,L,rfl,M,D,_⟩
 ·exact .inl rfl
 ·refine .inr fun e'=>?_
  obtain⟨o,E,J⟩:=A g (by rw[<-e'];rfl)
  rw[D]at E;cases E;cases J
noncomputable def CX(P:Program)(ats:Array TypeId)(ty:TypeId)(args:Array Value)(w:World):Value:=match(Builtin.append_ ats ty args).run P w with|.ok v _=>v|.halt _ _=>undef
noncomputable def CW(P:Program)(ats:Array TypeId)(ty:TypeId)(args:Array Value)(w:World):World:=match(Builtin.append_ ats ty args).run P w with|.ok _ w'=>w'|.halt _ _=>w
def Ds(P:Program)(ats:Array TypeId)(ty:TypeId)(args:Array Value)(w:World):Prop:=∃v w',(Builtin.append_ ats ty args).run P w=.ok v w'
theorem oJ{P:Program}{A:Array TypeId}{ty:TypeId}{args:Array Value}(h:Ds P A ty args w):(Builtin.append_ A ty args).run P w=.ok (CX P A ty args w) (CW P A ty args w):=by
 obtain⟨v,w',e⟩:=h
 unfold CX CW
 rw[e]
theorem yX{P:Program}{A:Array TypeId}{ty:TypeId}{args:Array Value}{w':World}(e:(Builtin.append_ A ty args).run P w=.ok v w'):Ds P A ty args w/\CX P A ty args w=v/\CW P A ty args w=w':=by
 unfold CX CW
 rw[e]
 exact⟨⟨v,w',e⟩,rfl,rfl⟩
def IL(ats:Array TypeId)(ty:TypeId)(args:Array Value):Sem Next:=do pure (.value (<-Builtin.append_ ats ty args))
theorem oA{A:Array TypeId}{ty:TypeId}{B:Array Bool}{args:Array Value}:builtin .append A ty B args=IL A ty args:=rfl
theorem uE{P:Program}{A:Array TypeId}{ty:TypeId}{args:Array Value}(h:Ds P A ty args w):(IL A ty args).run P w=.ok (.value (CX P A ty args w)) (CW P A ty args w):=by
 unfold IL
 simp[Sem.run_bind,oJ h,Result.andThen,Sem.run_pure]
attribute [local go_sem ↓ high] oA
attribute [local go_sem] uE
theorem iw{B:Nat}{bt e:TypeId}{size:Nat}{u:Value}{E:List Value}(h:W.ownsRow a e size v n E)(F:Boxed W B bt u)(C:e≠bt):v.ownBlock≠some B:=by
 rcases h.2 with⟨rfl,_⟩|⟨g,cap,G,rfl,_,D,_⟩
 ·exact fun e=>by cases e
 ·intro e'
  cases e'
  have A:W.heap[g]?=_:=F
  rw[D]at A
  cases A
  exact C rfl
theorem sI{D:Nat}{e:TypeId}{size:Nat}{B:List Value}{o:Obj}(h:W.ownsRow a e size v n B)(C:W.heap[D]?=some o)(E:o.isCells=false)(o':Obj):(W.putObj D o').ownsRow a e size v n B:=by
 refine h.kept (grownBy_putObj' W D o') ?_
 rcases h.2 with⟨rfl,_⟩|⟨g,cap,F,rfl,_,A,_⟩
 ·exact .inl rfl
 ·refine .inr fun e'=>?_
  cases e'
  rw[A]at C
  cases C
  cases E
theorem jM{W':World}{e:TypeId}{size:Nat}{C:List Value}(h:W.ownsRow a e size v n C)(hg:W.grownBy W' v.ownBlock):KeepsOthers W W':=by
 refine⟨hg.size,fun k o A D=>(hg.block k (gl A) ?_).trans A⟩
 rcases h.2 with⟨rfl,_⟩|⟨g,cap,E,rfl,_,B,_⟩
 ·exact fun e=>by cases e
 ·intro e'
  cases e'
  rw[B]at A
  cases A
  cases D
theorem GX{x:Rp}(h:cA w a x)(ok:ft x)(sp:cP x)(ag:mE x)(V:FX x)(hg:0< w.heap.size)(q:Tz w):
  Ca 141 #[aF a] w fun r w'=>∃v,r=.returned v/\w'.ownsRow w.heap.size 231 1 v x.starts.length (aX x.belowL)/\Bw w w':=by
 obtain⟨i0,hi,a6,a5,a4⟩:=info_parts vQ
 have ah:=V.len
 refine(callsIn_wide (n:=3)).1 ?_
 refine callsIn_of_wp_marks Tryz.func141 rfl trivial ?_ rfl
 simp only[Tryz.ntmps141,List.size_toArray,List.length_cons,List.length_nil,Nat.reduceAdd,Nat.reduceSub,Array.replicate_succ,Array.replicate_zero,List.push_toArray,List.append_toArray,List.nil_append,List.cons_append]
 have i:Hid (∀W k,Bw w W->Ce W w.heap.size 0 (aF a)->k< x.starts.length->Ca 207 #[aB k,Pt w.heap.size 0] W (Rt W (aH (x.withinOf k)))):=fun W k R c1 o=>Ef (h.keep R) ok sp ag (Nat.lt_of_lt_of_le hg R.size) (q.below R) (by omega) (by rw[V.runs];omega) (by rw[V.runs];omega) c1
 have a8:Hid (∀W k,Bw w W->Boxed W w.heap.size 221 (aF a)->k< x.starts.length->Ca 211 #[aH (x.withinOf k),.func (.func 207) #[] #[Pt w.heap.size 0]] W (Rt W (aH (x.belowOf k)))):=fun W k R s o=>xc (x.withinOf k) (x.belowOf k) (V.lt k o) x.withinOf 207 #[] _ W (Nat.lt_of_lt_of_le hg R.size) (q.below R) ⟨70,V.re k o⟩ (fun y W' hy hb k'=>i W' y (R.trans (k'.mono R.size)) (aL s k').cell (V.sub k o y hy hb)) ro
 have ad:Hid (∀W,Bw w W->Ca 199 #[aF a] W (Ru W (aH (dB (aW x.starts.length))))):=fun W R=>jG (h.keep R) (by omega)
 obtain⟨O,Z⟩:=bM (((w.alloc (.cells #[aF a] 221)).alloc (.cells #[.func (.func 207) #[] #[Pt w.heap.size 0]] 343)).alloc (.cells #[.slice none 0 0] 286))
 obtain⟨HT,N⟩:=aN q Z
 clear h ok sp ag q Z
 have t:=Boxed.new (w.alloc (.cells #[aF a] 221)) 343 .nilFunc
 rw[World.size_alloc]at t
 have a2:=t.cell
 have a3:=t.frozen
 clear t
 gi_wp2
 rw[<-N.out]
 have f:Bw w O:=by rw[N.out];exact((ba w _).alloc (by simp) _).alloc (by simp;omega) _
 have ai:w.heap.size+2< O.heap.size:=by rw[N.out];simp
 have bP:Boxed O w.heap.size 221 (aF a):=by rw[N.out];exact((Boxed.new _ _ _).alloc _).alloc _
 have bF:Boxed O (w.heap.size+1) 343 (.func (.func 207) #[] #[Pt w.heap.size 0]):=by
  rw[N.out]
  have:=Boxed.new (w.alloc (.cells #[aF a] 221)) 343 (.func (.func 207) #[] #[Pt w.heap.size 0])
  rw[World.size_alloc]at this
  exact this.alloc _
 have bL:Boxed O (w.heap.size+1+1) 286 (.slice none 0 0):=by
  rw[N.out]
  have:=Boxed.new ((w.alloc (.cells #[aF a] 221)).alloc (.cells #[.func (.func 207) #[] #[Pt w.heap.size 0]] 343)) 286 (.slice none 0 0)
  rw[World.size_alloc,World.size_alloc]at this
  exact this
 refine⟨trivial,?_⟩
 refine(callsIn_wide.2 (ad O f)).mono ?_
 rintro e w' ⟨rfl,hq⟩
 subst w'
 gi_wp2_with (refine⟨trivial,?_⟩;gi_at_call 210;refine(qw _ _ _).mono ?_;rintro e w' ⟨rfl,rfl⟩)
 have bA:=Boxed.new O 231 (aH (dB (aW x.starts.length)))
 have d:Bw w (O.alloc (.cells #[aH (dB (aW x.starts.length))] 231)):=f.alloc (by omega) _
 refine wpIn_rangeFunc_ownG rfl (by decide) (gf:=278) (lb:=#[Pt O.heap.size 0]) rfl trivial (enters_of Tryz.func278 (by kernel_rfl) rfl)
  (wP 2 (by decide) O.heap.size w.heap.size (dB (aW x.starts.length)) (jf _) _ (by simp) (by simp;omega) hg bA.cell (HT.below d)) belowK_t (belowK_b (by simp;omega)) (Below.refl _ _) (fun _=>rfl)
  (fun A W=>((wg w.heap.size (w.heap.size+1+1) 286 231 A.length (aX (A.map (fun y=>x.belowOf y.1))) W/\Boxed W (w.heap.size+1) 343 (.func (.func 207) #[] #[Pt w.heap.size 0]))/\Boxed W w.heap.size 221 (aF a))/\Bw w W)
  (fun _ _ _=>False)
  (OwnFrom.and (OwnFrom.and (OwnFrom.and (Own.from (rG _ _ _ _ _ _) _) (Own.from (boxed_own _ _ _) _)) (Own.from (boxed_own _ _ _) _)) (ownFrom_below (Nat.le_refl _) (by simp;omega)))
  (fun _ _ _ _ _ hs _ _=>hs)
  ⟨⟨⟨⟨_,bL.alloc _,World.ownsRow_nil _ _ _ _⟩,bF.alloc _⟩,bP.alloc _⟩,d⟩
  (fun z=>{tmps:=#[aF a,Pt w.heap.size 0,.slice none 0 0,Pt (w.heap.size+1) 0,Pt (w.heap.size+1+1) 0,aB z.1,.func (.func 207) #[] #[Pt w.heap.size 0],aF a,aH (dB (aW x.starts.length)),.func (.func 278) #[] #[Pt O.heap.size 0],aB z.1,undef,undef,undef,undef,undef,undef,undef,undef,undef],defers:=[]}) ?assign ?body ?done ?stop
 case assign=>
  intro l z W K b
  gi_wp2
  exact b
 case body=>
  rintro l A z W ⟨⟨⟨⟨v,g,Y⟩,b2⟩,b3⟩,hB⟩ hlt
  have hz:=jv (by omega) z.2.2
  have c1:=g.cell
  have c2:=b2.cell
  obtain⟨B,HO,X⟩:=bY (And.intro g (And.intro b2 b3)) Y hB
  clear g b2 b3 Y hB
  have ak:Tryz.prog.follows .mixedOrders=true:=by kernel_rfl
  have aj:A.length< 64:=hlt
  have ae:Hid (∀M G,Bw W.drew M->Bw M G->∃E C,(Builtin.append_ #[286,286] 286 #[v,.slice (some (Ad G.heap.size 0)) 1 1]).run Tryz.prog (G.alloc (.cells #[aH (x.belowOf z.1)] 231))=.ok E C/\Hid (C.ownsRow w.heap.size 231 1 E (A.length+1) (aX (A.map (fun y=>x.belowOf y.1))++[aH (x.belowOf z.1)]))/\Hid ((G.alloc (.cells #[aH (x.belowOf z.1)] 231)).grownBy C v.ownBlock)/\Ce C (w.heap.size+1+1) 0 v/\C.frozen? (Ad (w.heap.size+1+1) 0)=false/\∃p c,E=.slice p (A.length+1) c):=fun M G J m=>by
   have H:Bw W G:=(⟨J.os,J.tape,J.output,J.size,J.block⟩:Bw W M).trans (m.mono J.size)
   have F:=aP HO H
   obtain⟨E,C,L,r1,r2,-⟩:=run_append_own (P:=Tryz.prog) (G.alloc (.cells #[aH (x.belowOf z.1)] 231)) w.heap.size 286 286 231 i0 (aH 0) 1 8 Tryz.underlying286 hi a6 a5 a4 rfl (by decide) v _ _ (F.alloc _) (Ad G.heap.size 0) 1 1 [aH (x.belowOf z.1)] rfl (cF _ _ _ _ (by simp)) (by intro u hu;simp at hu;subst hu;rfl) (by unfold maxLen;omega) (by omega) (by have:=X.size;have:=H.size;simp;omega)
   have s:=((aL B.1 H).alloc (.cells #[aH (x.belowOf z.1)] 231)).kept r2 (fun e=>iw F (aL B.1 H) (by decide) e.symm)
   exact⟨E,C,L,r1,r2,s.cell,s.frozen,aI r1⟩
  have af:Hid (∀M G E C,Bw W.drew M->Bw M G->C.ownsRow w.heap.size 231 1 E (A.length+1) (aX (A.map (fun y=>x.belowOf y.1))++[aH (x.belowOf z.1)])->(G.alloc (.cells #[aH (x.belowOf z.1)] 231)).grownBy C v.ownBlock->KeepsFrom (O.alloc (.cells #[aH (dB (aW x.starts.length))] 231)).heap.size W (C.setCell (Ad (w.heap.size+1+1) 0) E)/\Below w.heap.size W (C.setCell (Ad (w.heap.size+1+1) 0) E)/\((wg w.heap.size (w.heap.size+1+1) 286 231 (A++[z]).length (aX ((A++[z]).map (fun y=>x.belowOf y.1))) (C.setCell (Ad (w.heap.size+1+1) 0) E)/\Boxed (C.setCell (Ad (w.heap.size+1+1) 0) E) (w.heap.size+1) 343 (.func (.func 207) #[] #[Pt w.heap.size 0]))/\Boxed (C.setCell (Ad (w.heap.size+1+1) 0) E) w.heap.size 221 (aF a))/\Bw w (C.setCell (Ad (w.heap.size+1+1) 0) E)):=fun M G E C J m r1 r2=>by
   have H:Bw W G:=(⟨J.os,J.tape,J.output,J.size,J.block⟩:Bw W M).trans (m.mono J.size)
   have F:=aP HO H
   have n1:=iw F (aL B.1 H) (by decide)
   have n2:=iw F (aL B.2.1 H) (by decide)
   have n3:=iw F (aL B.2.2 H) (by decide)
   have x1:=((aL B.1 H).alloc (.cells #[aH (x.belowOf z.1)] 231)).kept r2 (fun e=>n1 e.symm)
   have x2:=((aL B.2.1 H).alloc (.cells #[aH (x.belowOf z.1)] 231)).kept r2 (fun e=>n2 e.symm)
   have x3:=((aL B.2.2 H).alloc (.cells #[aH (x.belowOf z.1)] 231)).kept r2 (fun e=>n3 e.symm)
   have a0:=X.size
   have qz:=H.size
   have kb:Below w.heap.size W (C.setCell (Ad (w.heap.size+1+1) 0) E):=(((H.mono a0).alloc (by omega) _).grown r2 (by simp;omega) (fun k e=>(F.lt k e).1)).setCell (p:=Ad (w.heap.size+1+1) 0) (by show _<=w.heap.size+1+1;omega) _
   refine⟨?_,kb,⟨⟨⟨E,x1.set _,?_⟩,x2.other (by omega) _⟩,x3.other (by omega) _⟩,X.trans kb⟩
   ·exact(bO H).trans ((((KeepsOthers.alloc _ _).trans (jM (F.alloc _) r2)).trans (KeepsOthers.setCell _ _ _)).from _)
   ·have e1:(A++[z]).length=A.length+1:=by simp
    have e2:aX ((A++[z]).map (fun y=>x.belowOf y.1))=aX (A.map (fun y=>x.belowOf y.1))++[aH (x.belowOf z.1)]:=by simp[aX]
    rw[e1,e2]
    refine r1.kept (row:=some (w.heap.size+1+1)) (grownBy_setCell' C _ _) (.inr (iw r1 x1 (by decide)))
  gi_wp2
  gi_region_with_o (first
   |(refine⟨trivial,?_⟩;gi_at_call 207;refine(CallsIn.inRound l (callsIn_wide.2 (i W.drew z.1 X.drew B.2.2.cell hz))).mono ?_;rintro e M ⟨rfl,Q⟩;have T:=aG Q;have g1:=(aL (W:=W.drew) B.1 Q).cell;have g2:=(aL (W:=W.drew) B.2.1 Q).cell;have ab:=aG (aL (W:=W.drew) B.2.2 Q);clear Q)
   |(refine⟨trivial,?_⟩;gi_at_call 211;refine(CallsIn.inRound l (callsIn_wide.2 (a8 M z.1 (X.drew.trans (T.mono X.size)) ab hz))).mono ?_;rintro e G ⟨rfl,S⟩;obtain⟨E,C,L,aa,a9,k1,k2,a7⟩:=ae M G T S;obtain⟨p4,c4,rfl⟩:=a7;obtain⟨q1,J,m⟩:=yX L;clear L;have j:=aG (aL (aL (W:=W.drew) B.1 T) S);have g4:=j.cell;have g5:=(j.alloc (.cells #[aH (x.belowOf z.1)] 231)).cell;have ac:=aG S;clear S))
  all_goals exact af M G _ _ T ac aa a9
 case done=>
  rintro D ys W hD rfl ⟨⟨⟨⟨v,g,Y⟩,b2⟩,b3⟩,hB⟩ b
  have hc:=g.cell
  gi_wp2
  refine⟨by simp,.inl ⟨_,_,rfl,run_takeDeferred b,?_⟩⟩
  refine⟨_,results_tmp rfl _ _ _,⟨_,rfl,?_,?_⟩⟩
  ·have hs:(yT (dB (aW x.starts.length))).map (fun y=>x.belowOf y.1)=x.belowL:=by
    unfold Rp.belowL
    rw[<-rX (by omega:x.starts.length< 64),<-dO,List.map_map]
    rfl
   have hn:(yT (dB (aW x.starts.length))).length=x.starts.length:=by
    have:=congrArg List.length (rX (by omega:x.starts.length< 64))
    rw[<-dO,List.length_map,List.length_range]at this
    exact this
   rw[hs,hn]at Y
   exact sI Y b rfl _
  ·exact hB.trans (belowK_b (w:=w) (Nat.le_refl _) W D _ _ (by simp at hD;omega) b rfl rfl)
 case stop=>
  rintro D c A W _ _ h _
  exact h.elim
end
end Go.Proofs.YtajfbbldaiaolaaGreatDoor
