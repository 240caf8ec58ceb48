import Derived.Test.YtajfbbldaiaolaaGreatDoorQ15
import Derived.Test.YtajfbbldaiaolaaGreatDoorQ24
set_option linter.unusedSimpArgs false
set_option linter.unusedVariables false
set_option maxRecDepth 100000
set_option maxHeartbeats 8000000
namespace Go.Proofs.YtajfbbldaiaolaaGreatDoor
open Go.RowKit Go.Shelf
variable {B l:List Nat}{D W w:World}{a b c d e f g u:Nat}{x:Rp}
section
attribute [local go_sem] Oper.semAt_some
theorem vX:(Tryz.prog.info? 180).map (fun i=>(i.zero,i.size,i.bytes))=some (some (.agg #[aB 0,.bool false,aB 0,aB 0,aH 0]),5,40):=by kernel_rfl
def FE(a:Ac):List Value:=[.int .i64 a.spot,.bool a.wr,.int .i64 a.kind,.int .i64 a.num,.int .u64 a.things]
def jP(l:List Ac):List Value:=l.flatMap FE
theorem Au(l:List Ac)(a:Ac):jP (l++[a])=jP l++FE a:=by simp[jP]
namespace Rp
def acOf(x:Rp)(cs:List Nat)(sh s:Nat):Option Ac:=
 if(x.st s).p.kind=2 then some {spot:=s,num:=(x.st s).a0.num}
 else if(x.st s).p.kind=3 then some {spot:=s,wr:=true,num:=(x.st s).p.ln}
 else if(x.st s).p.kind=4 then some {spot:=s,kind:=1,num:=(x.st s).p.side,things:=dT (aQ cs ((x.st s).fn*6+(x.st s).a0.num)).1 sh}
 else if(x.st s).p.kind=5 then some {spot:=s,wr:=true,kind:=1,num:=(x.st s).p.side,things:=dT (aQ cs ((x.st s).fn*6+(x.st s).p.ln)).1 sh}
 else none
def accs(x:Rp)(cs:List Nat)(sh:Nat):List Ac:=(et x.spots).filterMap (x.acOf cs sh)
end Rp
def FK(base B:Nat)(bt e:TypeId)(size n:Nat)(xs:List Value)(W:World):Prop:=∃v,Boxed W B bt v/\W.ownsRow base e size v n xs
theorem Bp{β:Type}(C B:Nat)(bt e:TypeId)(size:Nat)(n:β->Nat)(G:β->List Value):_root_.Go.Own (fun s W=>FK C B bt e size (n s) (G s) W):=fun s X Y row H hg A=>by
 obtain⟨v,K,F⟩:=H
 refine⟨v,boxed_own (β:=Unit) B bt (fun _=>v) () X Y row K hg A,F.kept hg ?_⟩
 rcases F.2 with⟨rfl,_⟩|⟨g,cap,L,rfl,M,D,_⟩
 ·exact .inl rfl
 ·refine .inr fun e'=>?_
  obtain⟨o,E,J⟩:=A g (by rw[<-e'];rfl)
  rw[D]at E;cases E;cases J
theorem rq:Et 147:=enters_of Tryz.func147 (by kernel_rfl) rfl
def KO(Q:Exit->Act->World->Prop):Exit->Act->World->Prop
 |.normal,a,w=>Q .normal a w
 |_,_,_=>False
theorem jz{P:Program}{A:Array Oper}{Q:Exit->Act->World->Prop}{l n:Nat}{S:World->Prop}{a:Act}(C:P.follows .mixedOrders=true)(B:A.all iQ=true)(D:S w.drew)
  (h:S w.drew->wpAnyH P .any A (KO Q) S A.size (Array.replicate A.size false) a w.drew):(Code.region b A true).wpIn (Fence.wide.inRound l) n P Q a w:=
 Code.wpIn_mono (by
  intro e a w h
  cases e<;>first|exact h|exact(h:False).elim) (fy C B (fun⟨_,_,e⟩=>e) D h)
theorem zr(h:cA w b x)(hh:jd w d b f l)(sp:cP x)(be:∀s,s< x.stmts.length->lz (x.st s))(hr:∀s,s< x.stmts.length->(x.st s).p.kind=2\/(x.st s).p.kind=4->0< (x.st s).r.length)(hT:Tz w)(hg:0< w.heap.size):
  Ca 98 #[aF b,aF d] w fun r w'=>∃v,r=.returned v/\w'.ownsRow w.heap.size 180 5 v (x.accs l f).length (jP (x.accs l f))/\Bw w w':=by
 obtain⟨i0,hi,am,al,ak⟩:=info_parts vX
 obtain⟨bv,sv,tv,rv,lv,h1,-⟩:=h.ex
 have c5:Ce w b 5 (aH x.spots):=h1.cell 5
 have bw:=h1.lt
 obtain⟨D,hD⟩:=bM (((w.alloc (.cells #[aF b] 221)).alloc (.cells #[aF d] 223)).alloc (.cells #[.slice none 0 0] 225))
 have kD:Bw w D:=by rw[hD];exact(((Below.refl _ w).alloc (Nat.le_refl _) _).alloc (by simp) _).alloc (by simp;omega) _
 have c8:w.heap.size+1+1< D.heap.size:=by rw[hD];simp
 have b1:Boxed D w.heap.size 221 (aF b):=by rw[hD];exact((Boxed.new w _ _).alloc _).alloc _
 have b2:Boxed D (w.heap.size+1) 223 (aF d):=by
  rw[hD]
  have:=Boxed.new (w.alloc (.cells #[aF b] 221)) 223 (aF d)
  rw[World.size_alloc]at this
  exact this.alloc _
 have b3:Boxed D (w.heap.size+1+1) 225 (.slice none 0 0):=by
  rw[hD]
  have:=Boxed.new ((w.alloc (.cells #[aF b] 221)).alloc (.cells #[aF d] 223)) 225 (.slice none 0 0)
  rw[World.size_alloc,World.size_alloc]at this
  exact this
 have r1:Ce D w.heap.size 0 (aF b):=b1.cell
 have r5:Ce D b 5 (aH x.spots):=(kD.cell (p:=Ad b 5) bw).trans c5
 rw[hD]at r1 r5
 obtain⟨bk,c7,c6,c4,HH,c3,c0,c1,c2⟩:=xA kD b1 b2 b3 h hh sp be hr
 obtain⟨HT,HD⟩:=aN hT hD
 clear h h1 hh be hr hT kD b1 b2 b3 hD
 refine(callsIn_wide (n:=3)).1 ?_
 refine callsIn_of_wp_marks Tryz.func98 rfl trivial ?_ rfl
 simp only[Tryz.ntmps98,List.size_toArray,List.length_cons,List.length_nil,Nat.reduceAdd,Nat.reduceSub,Array.replicate_succ,Array.replicate_zero,List.push_toArray,List.append_toArray,List.nil_append,List.cons_append]
 gi_wp2_with (refine⟨trivial,?_⟩;gi_at_call 144;rw[<-HD.out];refine(gJ _ _ _).mono ?_;rintro e w' ⟨rfl,hq⟩;subst w')
 obtain⟨W2,ap⟩:=bM (D.alloc (.cells #[aH x.spots] 284))
 have k2:Bw D W2:=by rw[ap];exact(Below.refl _ D).alloc (Nat.le_refl _) _
 have bA:Boxed W2 D.heap.size 284 (aH x.spots):=by rw[ap];exact Boxed.new _ _ _
 have bd:D.heap.size< W2.heap.size:=bA.lt
 have b8:Bw w W2:=bk.trans (k2.mono bk.size)
 rw[<-ap]
 clear ap r1 r5
 refine wpIn_rangeFunc_ownH rfl (by decide) (gf:=212) (lb:=#[Pt D.heap.size 0]) rfl trivial (enters_of Tryz.func212 (by kernel_rfl) rfl)
  (fI 2 (by decide) D.heap.size w.heap.size x.spots sp.lt _ bd (by omega) hg bA.cell (HT.below b8)) belowK_t (belowK_b (by omega)) (Below.refl _ _) (fun _=>rfl)
  (fun J W=>((FK w.heap.size (w.heap.size+1+1) 225 180 5 ((J.map (·.1)).filterMap (x.acOf l f)).length (jP ((J.map (·.1)).filterMap (x.acOf l f))) W/\Boxed W w.heap.size 221 (aF b))/\Boxed W (w.heap.size+1) 223 (aF d))/\Bw w W)
  (fun _ _ _=>False)
  (OwnFrom.and (OwnFrom.and (OwnFrom.and (Own.from (Bp _ _ _ _ _ _ _) _) (Own.from (boxed_own _ _ _) _)) (Own.from (boxed_own _ _ _) _)) (ownFrom_below (Nat.le_refl _) (by omega)))
  (fun _ _ _ _ _ hs _ _=>hs)
  ⟨⟨⟨⟨_,aL c4 k2,World.ownsRow_nil _ _ _ _⟩,aL c7 k2⟩,aL c6 k2⟩,b8⟩
  (fun z a' W=>∃p,a'={tmps:=#[aF b,aF d,Pt w.heap.size 0,Pt (w.heap.size+1) 0,.slice none 0 0,Pt (w.heap.size+1+1) 0,Pt p 0,undef,undef,aF b,Pt b 0,Pt b 5,aH x.spots,.func (.func 212) #[] #[Pt D.heap.size 0],aB z.1,undef,undef,undef,undef,undef,undef,undef,undef,undef,undef,undef,undef,undef,undef,undef,undef,undef,undef,undef,undef,undef,undef,undef,undef,undef,undef,undef,undef,undef,undef,undef,undef,undef,undef,undef,undef,undef,undef,undef,undef,undef,undef,undef,undef,undef,undef,undef,undef,undef,undef,undef,undef,undef,undef,undef,undef,undef,undef,undef,undef,undef,undef,undef,undef,undef,undef,undef,undef,undef,undef,undef,undef,undef,undef,undef,undef,undef,undef,undef,undef,undef,undef,undef,undef],defers:=[]}/\Boxed W p 175 (aB z.1)/\w.heap.size< p)
  (fun z a' _ X Y row hs b5 hr=>by
   obtain⟨p,e,hp,bm⟩:=hs
   exact⟨p,e,boxed_own (β:=Unit) p _ (fun _=>_) () X Y row hp b5 (fun r e=>(hr r e).2),bm⟩) ?assign ?body ?done ?stop
 case assign=>
  rintro lr J z W K hI C
  have kA:Bw W (W.alloc (.cells #[aB z.1] 175)):=(Below.refl _ W).alloc (Nat.le_refl _) _
  have bu:w.heap.size< W.heap.size:=hI.1.1.2.lt
  obtain⟨v,a4,k⟩:=hI.1.1.1
  have:=C {tmps:=#[aF b,aF d,Pt w.heap.size 0,Pt (w.heap.size+1) 0,.slice none 0 0,Pt (w.heap.size+1+1) 0,Pt W.heap.size 0,undef,undef,aF b,Pt b 0,Pt b 5,aH x.spots,.func (.func 212) #[] #[Pt D.heap.size 0],aB z.1,undef,undef,undef,undef,undef,undef,undef,undef,undef,undef,undef,undef,undef,undef,undef,undef,undef,undef,undef,undef,undef,undef,undef,undef,undef,undef,undef,undef,undef,undef,undef,undef,undef,undef,undef,undef,undef,undef,undef,undef,undef,undef,undef,undef,undef,undef,undef,undef,undef,undef,undef,undef,undef,undef,undef,undef,undef,undef,undef,undef,undef,undef,undef,undef,undef,undef,undef,undef,undef,undef,undef,undef,undef,undef,undef,undef,undef,undef,undef,undef,undef,undef,undef,undef],defers:=[]} _ (bO kA) (kA.mono (by omega)) ⟨⟨⟨⟨v,aL a4 kA,aP k kA⟩,aL hI.1.1.2 kA⟩,aL hI.1.2 kA⟩,hI.2.trans (kA.mono (by omega))⟩ ⟨W.heap.size,rfl,Boxed.new _ _ _,bu⟩
  have HK:=aG this
  clear C this hI a4 k
  gi_wp2
  exact HK
 case body=>
  rintro lr J z a' W cb-⟨⟨⟨⟨v,a4,k⟩,hp1⟩,hp2⟩,kW⟩ ⟨p,rfl,hp,hpw⟩ hpl
  obtain⟨pv,cv,rfl⟩:=aI k
  have aj:=c0.mem z.1 z.2.1 z.2.2
  obtain⟨g,c,O,sr,sb,z3,z4,z5,z6,z7,br,bf,bt,bg,-⟩:=HH.stmO kW aj
  have so:=c1 z.1 aj
  have b0:=c2 z.1 aj
  have bo:w.heap.size< W.heap.size:=hp1.lt
  have q1:Ce W w.heap.size 0 (aF b):=hp1.cell
  have qp:Ce W p 0 (aB z.1):=hp.cell
  have ag:Hid (∀w',Bw W w'->Ce w' w.heap.size 0 (aF b)/\Ce w' b 3 (.slice (some (Ad g 0)) x.stmts.length c)/\Ce w' p 0 (aB z.1)/\Ce w' g (z.1*4) (aF O)/\Ce w' g (z.1*4+1) (aB (x.st z.1).fn)/\Ce w' g (z.1*4+2) (aB (x.st z.1).nx)/\Ce w' g (z.1*4+3) (aB (x.st z.1).ins)):=fun w' kk=>⟨(kk.cell (p:=Ad w.heap.size 0) bo).trans q1,(kk.cell (p:=Ad b 3) (aD z3)).trans z3,(kk.cell (p:=Ad p 0) hp.lt).trans qp,(kk.cell (p:=Ad g (z.1*4)) (aD z4)).trans z4,(kk.cell (p:=Ad g (z.1*4+1)) (aD z5)).trans z5,(kk.cell (p:=Ad g (z.1*4+2)) (aD z6)).trans z6,(kk.cell (p:=Ad g (z.1*4+3)) (aD z7)).trans z7⟩
  obtain⟨g1,g2,g3,g4,g5,g6,g7⟩:=ag W.drew ((Below.refl _ W).drew)
  have c9:((z.1:Nat):Int)< (x.stmts.length:Int):=by omega
  gi_wp2
  refine wF (S:=fun w'=>Ce w' w.heap.size 0 (aF b)/\Ce w' b 3 (.slice (some (Ad g 0)) x.stmts.length c)/\Ce w' p 0 (aB z.1)/\Ce w' g (z.1*4) (aF O)/\Ce w' g (z.1*4+1) (aB (x.st z.1).fn)/\Ce w' g (z.1*4+2) (aB (x.st z.1).nx)/\Ce w' g (z.1*4+3) (aB (x.st z.1).ins)) (by kernel_rfl) (by kernel_rfl) ⟨g1,g2,g3,g4,g5,g6,g7⟩ (fun V=>?_)
  refine dF 0 ?_
  refine dF 1 ?_
  refine dF 2 ?_
  refine dF 3 ?_
  refine dF 4 ?_
  refine dF 5 ?_
  refine dF 6 ?_
  try simp only[Act.put,fO,fN,fM]
  refine wpAnyH_ready (rs:=[7]) (by kernel_rfl) (by simp) ?_
  refine AllReadyH.cons rfl (fun K' C=>?_) AllReadyH.nil
  go_simp
  refine C _ _ (ag _ (by first|exact((Below.refl _ W).drew).alloc (Nat.le_refl _) _|exact((Below.refl _ W).alloc (Nat.le_refl _) _).drew)) (fun A=>?_)
  clear C K'
  try simp only[Act.put,fO,fN,fM]
  refine wpAnyH_ready (rs:=[8]) (by kernel_rfl) (by simp) ?_
  refine AllReadyH.cons rfl (fun K' C=>?_) AllReadyH.nil
  go_simp
  refine C _ _ (ag _ (by first|exact((Below.refl _ W).drew).alloc (Nat.le_refl _) _|exact((Below.refl _ W).alloc (Nat.le_refl _) _).drew)) (fun A=>?_)
  clear C K'
  try simp only[Act.put,fO,fN,fM]
  refine wpAnyH_done (by kernel_rfl) ?_ _
  clear V A g1 g2 g3 g4 g5 g6 g7
  obtain⟨H,ao⟩:=bM (W.alloc (.cells #[aF O,aB (x.st z.1).fn,aB (x.st z.1).nx,aB (x.st z.1).ins] 253)).drew
  have k7:Bw W H:=by rw[ao];exact((Below.refl _ W).alloc (Nat.le_refl _) _).drew
  have t7:H.heap[W.heap.size]?=some (.cells #[aF O,aB (x.st z.1).fn,aB (x.st z.1).nx,aB (x.st z.1).ins] 253 (0,0)):=by rw[ao];exact heap_alloc_new W _
  have a3:Bw w H:=kW.trans (k7.mono kW.size)
  have au:=br.below k7
  have Z:Hid (∀w',eH (fun t=>t=180\/t=225) w.heap.size H w'->Ce w' p 0 (aB z.1)/\Ce w' W.heap.size 0 (aF O)/\aM w' O (bK (x.st z.1).p sr sb)/\∀R j v,R< w.heap.size->Ce H R j v->w'.cell? (Ad R j)=some v):=fun w' q=>by
   refine⟨?_,(aA (q.typ _ _ _ _ (by decide) t7)).cell 0,au.below2 q.bel bt,fun R j v b5 hv=>(q.bel.cell (p:=Ad R j) b5).trans hv⟩
   exact(aA (q.typ _ _ _ _ (by decide) (aL hp k7))).cell 0
  have a1:=aL a4 k7
  have an:=aP k k7
  have a2:w.heap.size+1+1< H.heap.size:=a1.lt
  have l0:Ce H (w.heap.size+1+1) 0 (.slice pv ((J.map (·.1)).filterMap (x.acOf l f)).length cv):=a1.cell
  have ai:Hid (∀(X:World) (v4:Value) (Q:World) (a:Ac),Bw H X->Q.ownsRow w.heap.size 180 5 v4 (((J.map (·.1)).filterMap (x.acOf l f)).length+1) (jP ((J.map (·.1)).filterMap (x.acOf l f))++FE a)->(X.alloc (.cells (IZ a) 180)).grownBy Q (Value.slice pv ((J.map (·.1)).filterMap (x.acOf l f)).length cv).ownBlock->x.acOf l f z.1=some a->Ce Q (w.heap.size+1+1) 0 (.slice pv ((J.map (·.1)).filterMap (x.acOf l f)).length cv)/\Q.frozen? (Ad (w.heap.size+1+1) 0)=false/\w.heap.size+1+1< Q.heap.size/\eH (fun t=>t=180\/t=225) w.heap.size H Q/\eH (fun t=>t=180\/t=225) w.heap.size H (Q.setCell (Ad (w.heap.size+1+1) 0) v4)/\Hid (KeepsFrom W2.heap.size W (Q.setCell (Ad (w.heap.size+1+1) 0) v4)/\Below w.heap.size W (Q.setCell (Ad (w.heap.size+1+1) 0) v4)/\((FK w.heap.size (w.heap.size+1+1) 225 180 5 (((J++[z]).map (·.1)).filterMap (x.acOf l f)).length (jP (((J++[z]).map (·.1)).filterMap (x.acOf l f))) (Q.setCell (Ad (w.heap.size+1+1) 0) v4)/\Boxed (Q.setCell (Ad (w.heap.size+1+1) 0) v4) w.heap.size 221 (aF b))/\Boxed (Q.setCell (Ad (w.heap.size+1+1) 0) v4) (w.heap.size+1) 223 (aF d))/\Bw w (Q.setCell (Ad (w.heap.size+1+1) 0) v4))):=fun X v4 Q a kX r1 r2 ha=>by
   have b4:=aP an kX
   have bh:=aL a1 kX
   have bb:w.heap.size<=H.heap.size:=a3.size
   have bl:w.heap.size<=X.heap.size:=Nat.le_trans bb kX.size
   have kT:eH (fun t=>t=180\/t=225) w.heap.size H Q:=((eH.of_below kX bb).alloc bl _).trans (eH.grown (b4.alloc _) r2 (.inl rfl) (by simp;omega))
   have n5:=iw b4 bh (by decide)
   have x5:Boxed Q (w.heap.size+1+1) 225 (.slice pv ((J.map (·.1)).filterMap (x.acOf l f)).length cv):=(bh.alloc (.cells (IZ a) 180)).kept r2 (fun e=>n5 e.symm)
   have kS:eH (fun t=>t=180\/t=225) w.heap.size H (Q.setCell (Ad (w.heap.size+1+1) 0) v4):=kT.trans (eH.set (j:=0) (u:=v4) x5 (.inr rfl) (by omega))
   have b9:eH (fun t=>t=180\/t=225) w.heap.size W H:=eH.of_below k7 kW.size
   refine⟨x5.cell,x5.frozen,x5.lt,kT,kS,⟨⟨Nat.le_trans k7.size kS.bel.size,fun i o _ hi ho=>?_⟩,(k7.mono kW.size).trans kS.bel,⟨⟨⟨v4,x5.set _,?_⟩,?_⟩,?_⟩,a3.trans kS.bel⟩⟩
   ·have h1:=(k7.block i (gl hi)).trans hi
    have h2:=(kX.block i (gl h1)).trans h1
    have h3:=(((KeepsOthers.alloc X (.cells (IZ a) 180)).trans (jM (b4.alloc _) r2)).trans (KeepsOthers.setCell Q (Ad (w.heap.size+1+1) 0) v4)).same i o h2 ho
    exact h3
   ·have e1:((J++[z]).map (·.1)).filterMap (x.acOf l f)=((J.map (·.1)).filterMap (x.acOf l f))++[a]:=by rw[List.map_append,List.filterMap_append];simp[ha]
    rw[e1,Au,List.length_append]
    exact r1.kept (row:=some (w.heap.size+1+1)) (grownBy_setCell' Q _ _) (.inr (iw r1 x5 (by decide)))
   ·exact(kS.typ _ _ _ _ (by decide) ((b9.typ _ _ _ _ (by decide) hp1)))
   ·exact(kS.typ _ _ _ _ (by decide) ((b9.typ _ _ _ _ (by decide) hp2)))
  have av:Hid (x.acOf l f z.1=none->KeepsFrom W2.heap.size W H/\Below w.heap.size W H/\((FK w.heap.size (w.heap.size+1+1) 225 180 5 (((J++[z]).map (·.1)).filterMap (x.acOf l f)).length (jP (((J++[z]).map (·.1)).filterMap (x.acOf l f))) H/\Boxed H w.heap.size 221 (aF b))/\Boxed H (w.heap.size+1) 223 (aF d))/\Bw w H):=fun ha=>by
   have e1:((J++[z]).map (·.1)).filterMap (x.acOf l f)=((J.map (·.1)).filterMap (x.acOf l f)):=by rw[List.map_append,List.filterMap_append];simp[ha]
   rw[e1]
   exact⟨bO k7,k7.mono kW.size,⟨⟨⟨_,a1,an⟩,aL hp1 k7⟩,aL hp2 k7⟩,a3⟩
  have aq:eH (fun t=>t=180\/t=225) w.heap.size H H.drew:=(eH.refl _ _ _).drew
  have cc:=rq
  have ca:((J.map (·.1)).filterMap (x.acOf l f)).length<=64:=by
   have h1:=List.length_filterMap_le (x.acOf l f) (J.map (·.1))
   rw[List.length_map]at h1
   omega
  have ar:=aG an
  have bq:=so.fn
  have bn:=so.ln
  have bj:=aG so
  have N:=a3.size
  have ax:Hid (∀(nm:Nat) (t:ByteArray) (bi:Int),nm< 6->Ca 147 #[.agg #[.string t,aB bi,aB nm],Pt (w.heap.size+1) 0,Pt p 0] H.drew (Rt H.drew (aH (dT (aQ l ((x.st z.1).fn*6+nm)).1 f:Nat)))):=fun nm t bi a9=>Dc (HH.keep a3.drew) (c3.keep a3.drew) aj bq a9 (aL hp2 k7.drew).cell (aL hp k7.drew).cell
  obtain⟨bx,aw⟩:=aN ao (aP bf k7)
  clear a4 k hp1 hp2 k7 t7 a3 au a1 an so ao
  have yp:Ce H W.heap.size 0 (aF O):=(Z H (eH.refl _ _ _)).2.1
  rw[<-bx.out]
  by_cases K2:(x.st z.1).p.kind=2
  ·have y2:H.cell? (Ad O 2)=some (aB 2):=by rw[(Z.out H (eH.refl _ _ _)).2.2.1.cell 2];simp[bK,K2]
   obtain⟨R,cr,rfl,bp,ab⟩:=qu aw (b0 (.inl K2))
   have aa:=bg R rfl
   have G:Hid (∀w',eH (fun t=>t=180\/t=225) w.heap.size H w'->Ce w' p 0 (aB z.1)/\Ce w' W.heap.size 0 (aF O)/\Ce w' O 12 (.slice (some (Ad R 0)) (x.st z.1).r.length cr)/\w'.cell? (Ad R 2)=some (aB (x.st z.1).a0.num)):=fun w' q=>by
    obtain⟨h1,h2,h3,h4⟩:=Z w' q
    exact⟨h1,h2,h3.cell 12,h4 R 2 _ aa (ab H (fun _=>rfl)).2.2.1⟩
   obtain⟨m,M⟩:=bM ({spot:=z.1,num:=(x.st z.1).a0.num}:Ac)
   have a6:Hid (x.acOf l f z.1=some m):=by show _=_;rw[M];unfold Rp.acOf;rw[if_pos K2]
   have b6:eH (fun t=>t=180\/t=225) w.heap.size H (H.alloc (.cells #[aB z.1,.bool false,aB 0,aB (x.st z.1).a0.num,aH 0] 180)).drew:=((eH.refl _ _ _).alloc N _).drew
   have a7:Hid (FE m=[aB z.1,.bool false,aB 0,aB (x.st z.1).a0.num,aH 0]):=by show _=_;rw[M];rfl
   have a8:Hid (IZ m=#[aB z.1,.bool false,aB 0,aB (x.st z.1).a0.num,aH 0]):=by show _=_;rw[M];rfl
   clear M
   have az:Ce H.drew (w.heap.size+1+1) 0 (.slice pv ((J.map (·.1)).filterMap (x.acOf l f)).length cv):=l0
   gi_wp2
   refine jz (S:=fun w'=>Ce w' p 0 (aB z.1)/\Ce w' W.heap.size 0 (aF O)/\Ce w' O 12 (.slice (some (Ad R 0)) (x.st z.1).r.length cr)/\Ce w' R 2 (aB (x.st z.1).a0.num)) (by kernel_rfl) (by kernel_rfl) (G _ aq) (fun V=>?_)
   refine dF 1 ?_
   refine dF 2 ?_
   refine dF 3 ?_
   refine dF 4 ?_
   refine dF 5 ?_
   refine dF 6 ?_
   refine dF 7 ?_
   refine dF 8 ?_
   refine dF 9 ?_
   refine dF 10 ?_
   refine dF 11 ?_
   try simp only[Act.put,fO,fN,fM]
   refine wpAnyH_ready (rs:=[0,12]) (by kernel_rfl) (by simp) ?_
   refine AllReadyH.cons rfl (fun K' C=>?_) (AllReadyH.cons rfl (fun K' C=>?_) AllReadyH.nil)
   focus
    go_simp
    refine C _ _ (G _ (by assumption)) (fun A=>?_)
    clear C K'
    try simp only[Act.put,fO,fN,fM]
    refine wpAnyH_ready (rs:=[12]) (by kernel_rfl) (by simp) ?_
    refine AllReadyH.cons rfl (fun K' C=>?_) AllReadyH.nil
    go_simp
    refine C _ _ (G _ (by assumption)) (fun A=>?_)
    clear C K'
    try simp only[Act.put,fO,fN,fM]
   rotate_left
   focus
    go_simp
    refine C _ _ (G _ (by assumption)) (fun A=>?_)
    clear C K'
    try simp only[Act.put,fO,fN,fM]
    refine wpAnyH_ready (rs:=[0]) (by kernel_rfl) (by simp) ?_
    refine AllReadyH.cons rfl (fun K' C=>?_) AllReadyH.nil
    go_simp
    refine C _ _ (G _ (by assumption)) (fun A=>?_)
    clear C K'
    try simp only[Act.put,fO,fN,fM]
   all_goals
    refine wpAnyH_ready (rs:=[13]) (by kernel_rfl) (by simp) ?_
    refine AllReadyH.cons rfl (fun K' C=>?_) AllReadyH.nil
    refine bD rfl (.tmp 30) (.tmp 42) 225 rfl w.heap.size 180 i0 (.agg #[aB 0,.bool false,aB 0,aB 0,aH 0]) 5 40 Tryz.underlying225 hi am al ak rfl (by decide) _ _ _ rfl (ar.alloc _) (Ad H.heap.size 0) 1 1 [aB z.1,.bool false,aB 0,aB (x.st z.1).a0.num,aH 0] rfl rfl (cF _ _ _ _ rfl) (by intro u hu;simp at hu;rcases hu with rfl|rfl|rfl|rfl|rfl<;>rfl) (by decide) (by unfold maxLen;omega) (by omega) (by simp;omega) ?_
    intro v4 Q F B T
    obtain⟨p4,k4,rfl⟩:=aI F
    rw[<-a7.out]at F
    obtain⟨e5,f5,ay,b7,af,HP⟩:=ai H.drew _ Q m ((Below.refl _ H).drew) F (by rw[a8.out];exact⟨B.os,B.tape,B.output,B.size,B.block⟩) a6
    clear F B T
    refine C _ _ (G _ (by assumption)) (fun A=>?_)
    clear C K'
    try simp only[Act.put,fO,fN,fM]
    refine wpAnyH_ready (rs:=[14]) (by kernel_rfl) (by simp) ?_
    refine AllReadyH.cons rfl (fun K' C=>?_) AllReadyH.nil
    go_simp
    refine C _ _ (G _ (by assumption)) (fun A=>?_)
    clear C K'
    try simp only[Act.put,fO,fN,fM]
    refine wpAnyH_done (by kernel_rfl) ?_ _
    exact HP
  ·by_cases K3:(x.st z.1).p.kind=3
   ·have y2:H.cell? (Ad O 2)=some (aB 3):=by rw[(Z.out H (eH.refl _ _ _)).2.2.1.cell 2];simp[bK,K3]
    have G:Hid (∀w',eH (fun t=>t=180\/t=225) w.heap.size H w'->Ce w' p 0 (aB z.1)/\Ce w' W.heap.size 0 (aF O)/\w'.cell? (Ad O 5)=some (aB (x.st z.1).p.ln)):=fun w' q=>by
     obtain⟨h1,h2,h3,h4⟩:=Z w' q
     exact⟨h1,h2,h3.cell 5⟩
    obtain⟨m,M⟩:=bM ({spot:=z.1,wr:=true,num:=(x.st z.1).p.ln}:Ac)
    have a6:Hid (x.acOf l f z.1=some m):=by show _=_;rw[M];unfold Rp.acOf;rw[if_neg K2,if_pos K3]
    have b6:eH (fun t=>t=180\/t=225) w.heap.size H (H.alloc (.cells #[aB z.1,.bool true,aB 0,aB (x.st z.1).p.ln,aH 0] 180)).drew:=((eH.refl _ _ _).alloc N _).drew
    have a7:Hid (FE m=[aB z.1,.bool true,aB 0,aB (x.st z.1).p.ln,aH 0]):=by show _=_;rw[M];rfl
    have a8:Hid (IZ m=#[aB z.1,.bool true,aB 0,aB (x.st z.1).p.ln,aH 0]):=by show _=_;rw[M];rfl
    clear M
    have az:Ce H.drew (w.heap.size+1+1) 0 (.slice pv ((J.map (·.1)).filterMap (x.acOf l f)).length cv):=l0
    gi_wp2
    refine jz (S:=fun w'=>Ce w' p 0 (aB z.1)/\Ce w' W.heap.size 0 (aF O)/\Ce w' O 5 (aB (x.st z.1).p.ln)) (by kernel_rfl) (by kernel_rfl) (G _ aq) (fun V=>?_)
    refine dF 1 ?_
    refine dF 2 ?_
    refine dF 3 ?_
    refine dF 4 ?_
    refine dF 5 ?_
    refine dF 6 ?_
    refine dF 7 ?_
    refine dF 8 ?_
    try simp only[Act.put,fO,fN,fM]
    refine wpAnyH_ready (rs:=[0,9]) (by kernel_rfl) (by simp) ?_
    refine AllReadyH.cons rfl (fun K' C=>?_) (AllReadyH.cons rfl (fun K' C=>?_) AllReadyH.nil)
    focus
     go_simp
     refine C _ _ (G _ (by assumption)) (fun A=>?_)
     clear C K'
     try simp only[Act.put,fO,fN,fM]
     refine wpAnyH_ready (rs:=[9]) (by kernel_rfl) (by simp) ?_
     refine AllReadyH.cons rfl (fun K' C=>?_) AllReadyH.nil
     go_simp
     refine C _ _ (G _ (by assumption)) (fun A=>?_)
     clear C K'
     try simp only[Act.put,fO,fN,fM]
    rotate_left
    focus
     go_simp
     refine C _ _ (G _ (by assumption)) (fun A=>?_)
     clear C K'
     try simp only[Act.put,fO,fN,fM]
     refine wpAnyH_ready (rs:=[0]) (by kernel_rfl) (by simp) ?_
     refine AllReadyH.cons rfl (fun K' C=>?_) AllReadyH.nil
     go_simp
     refine C _ _ (G _ (by assumption)) (fun A=>?_)
     clear C K'
     try simp only[Act.put,fO,fN,fM]
    all_goals
     refine wpAnyH_ready (rs:=[10]) (by kernel_rfl) (by simp) ?_
     refine AllReadyH.cons rfl (fun K' C=>?_) AllReadyH.nil
     refine bD rfl (.tmp 46) (.tmp 55) 225 rfl w.heap.size 180 i0 (.agg #[aB 0,.bool false,aB 0,aB 0,aH 0]) 5 40 Tryz.underlying225 hi am al ak rfl (by decide) _ _ _ rfl (ar.alloc _) (Ad H.heap.size 0) 1 1 [aB z.1,.bool true,aB 0,aB (x.st z.1).p.ln,aH 0] rfl rfl (cF _ _ _ _ rfl) (by intro u hu;simp at hu;rcases hu with rfl|rfl|rfl|rfl|rfl<;>rfl) (by decide) (by unfold maxLen;omega) (by omega) (by simp;omega) ?_
     intro v4 Q F B T
     obtain⟨p4,k4,rfl⟩:=aI F
     rw[<-a7.out]at F
     obtain⟨e5,f5,ay,b7,af,HP⟩:=ai H.drew _ Q m ((Below.refl _ H).drew) F (by rw[a8.out];exact⟨B.os,B.tape,B.output,B.size,B.block⟩) a6
     clear F B T
     refine C _ _ (G _ (by assumption)) (fun A=>?_)
     clear C K'
     try simp only[Act.put,fO,fN,fM]
     refine wpAnyH_ready (rs:=[11]) (by kernel_rfl) (by simp) ?_
     refine AllReadyH.cons rfl (fun K' C=>?_) AllReadyH.nil
     go_simp
     refine C _ _ (G _ (by assumption)) (fun A=>?_)
     clear C K'
     try simp only[Act.put,fO,fN,fM]
     refine wpAnyH_done (by kernel_rfl) ?_ _
     exact HP
   ·by_cases K4:(x.st z.1).p.kind=4
    ·have y2:H.cell? (Ad O 2)=some (aB 4):=by rw[(Z.out H (eH.refl _ _ _)).2.2.1.cell 2];simp[bK,K4]
     obtain⟨R,cr,rfl,bp,ab⟩:=qu aw (b0 (.inr K4))
     have aa:=bg R rfl
     have a9:(x.st z.1).a0.num< 6:=bj.num _ (by unfold Fs.a0;rw[List.getD_eq_getElem?_getD,List.getElem?_eq_getElem (b0 (.inr K4))];exact List.getElem_mem _)
     have G:Hid (∀w',eH (fun t=>t=180\/t=225) w.heap.size H w'->Ce w' p 0 (aB z.1)/\Ce w' W.heap.size 0 (aF O)/\Ce w' O 7 (aB (x.st z.1).p.side)/\Ce w' O 12 (.slice (some (Ad R 0)) (x.st z.1).r.length cr)/\Ce w' R 0 (.string ⟨(x.st z.1).a0.text.toArray⟩)/\Ce w' R 1 (aB (x.st z.1).a0.at_)/\w'.cell? (Ad R 2)=some (aB (x.st z.1).a0.num)):=fun w' q=>by
      obtain⟨h1,h2,h3,h4⟩:=Z w' q
      exact⟨h1,h2,h3.cell 7,h3.cell 12,h4 R 0 _ aa (ab H (fun _=>rfl)).1,h4 R 1 _ aa (ab H (fun _=>rfl)).2.1,h4 R 2 _ aa (ab H (fun _=>rfl)).2.2.1⟩
     obtain⟨m,M⟩:=bM ({spot:=z.1,kind:=1,num:=(x.st z.1).p.side,things:=dT (aQ l ((x.st z.1).fn*6+(x.st z.1).a0.num)).1 f}:Ac)
     have a6:Hid (x.acOf l f z.1=some m):=by show _=_;rw[M];unfold Rp.acOf;rw[if_neg K2,if_neg K3,if_pos K4]
     have b6:eH (fun t=>t=180\/t=225) w.heap.size H (H.alloc (.cells #[aB z.1,.bool false,aB 1,aB (x.st z.1).p.side,aH (dT (aQ l ((x.st z.1).fn*6+(x.st z.1).a0.num)).1 f:Nat)] 180)).drew:=((eH.refl _ _ _).alloc N _).drew
     have a7:Hid (FE m=[aB z.1,.bool false,aB 1,aB (x.st z.1).p.side,aH (dT (aQ l ((x.st z.1).fn*6+(x.st z.1).a0.num)).1 f:Nat)]):=by show _=_;rw[M];rfl
     have a8:Hid (IZ m=#[aB z.1,.bool false,aB 1,aB (x.st z.1).p.side,aH (dT (aQ l ((x.st z.1).fn*6+(x.st z.1).a0.num)).1 f:Nat)]):=by show _=_;rw[M];rfl
     clear M
     have az:Ce H.drew (w.heap.size+1+1) 0 (.slice pv ((J.map (·.1)).filterMap (x.acOf l f)).length cv):=l0
     have ah:=aG (ax (x.st z.1).a0.num ⟨(x.st z.1).a0.text.toArray⟩ (x.st z.1).a0.at_ a9)
     gi_wp2
     refine jz (S:=fun w'=>Ce w' p 0 (aB z.1)/\Ce w' W.heap.size 0 (aF O)/\Ce w' O 7 (aB (x.st z.1).p.side)/\Ce w' O 12 (.slice (some (Ad R 0)) (x.st z.1).r.length cr)/\Ce w' R 0 (.string ⟨(x.st z.1).a0.text.toArray⟩)/\Ce w' R 1 (aB (x.st z.1).a0.at_)/\Ce w' R 2 (aB (x.st z.1).a0.num)) (by kernel_rfl) (by kernel_rfl) (G _ aq) (fun V=>?_)
     refine dF 1 ?_
     refine dF 2 ?_
     refine dF 3 ?_
     refine dF 4 ?_
     refine dF 5 ?_
     refine dF 6 ?_
     refine dF 7 ?_
     refine dF 8 ?_
     refine dF 9 ?_
     refine dF 10 ?_
     refine dF 11 ?_
     refine dF 12 ?_
     refine dF 13 ?_
     refine dF 14 ?_
     refine dF 15 ?_
     try simp only[Act.put,fO,fN,fM]
     refine wpAnyH_ready (rs:=[0,16]) (by kernel_rfl) (by simp) ?_
     refine AllReadyH.cons rfl (fun K' C=>?_) (AllReadyH.cons rfl (fun K' C=>?_) AllReadyH.nil)
     focus
      go_simp
      refine C _ _ (G _ (by assumption)) (fun A=>?_)
      clear C K'
      try simp only[Act.put,fO,fN,fM]
      refine wpAnyH_ready (rs:=[16]) (by kernel_rfl) (by simp) ?_
      refine AllReadyH.cons rfl (fun K' C=>?_) AllReadyH.nil
      go_simp
      refine ah.mono ?_
      rintro q P ⟨rfl,L⟩
      have E:Bw H P:=⟨L.os,L.tape,L.output,L.size,L.block⟩
      have y:=aG E
      have a5:eH (fun t=>t=180\/t=225) w.heap.size H P:=eH.of_below E N
      have l5:Ce P (w.heap.size+1+1) 0 (.slice pv ((J.map (·.1)).filterMap (x.acOf l f)).length cv):=(E.cell (p:=Ad (w.heap.size+1+1) 0) a2).trans l0
      have ad:w.heap.size+1+1< P.heap.size:=Nat.lt_of_lt_of_le a2 E.size
      have ae:eH (fun t=>t=180\/t=225) w.heap.size H (P.alloc (.cells #[aB z.1,.bool false,aB 1,aB (x.st z.1).p.side,aH (dT (aQ l ((x.st z.1).fn*6+(x.st z.1).a0.num)).1 f:Nat)] 180)):=a5.alloc (Nat.le_trans N E.size) _
      clear L E
      try go_wp2_with fail
      refine C _ _ (G _ (by assumption)) (fun A=>?_)
      clear C K'
      try simp only[Act.put,fO,fN,fM]
      refine dF 17 ?_
      try simp only[Act.put,fO,fN,fM]
      refine wpAnyH_ready (rs:=[18]) (by kernel_rfl) (by simp) ?_
      refine AllReadyH.cons rfl (fun K' C=>?_) AllReadyH.nil
      go_simp
      refine C _ _ (G _ (by assumption)) (fun A=>?_)
      clear C K'
      try simp only[Act.put,fO,fN,fM]
     rotate_left
     focus
      go_simp
      refine ah.mono ?_
      rintro q P ⟨rfl,L⟩
      have E:Bw H P:=⟨L.os,L.tape,L.output,L.size,L.block⟩
      have y:=aG E
      have a5:eH (fun t=>t=180\/t=225) w.heap.size H P:=eH.of_below E N
      have l5:Ce P (w.heap.size+1+1) 0 (.slice pv ((J.map (·.1)).filterMap (x.acOf l f)).length cv):=(E.cell (p:=Ad (w.heap.size+1+1) 0) a2).trans l0
      have ad:w.heap.size+1+1< P.heap.size:=Nat.lt_of_lt_of_le a2 E.size
      have ae:eH (fun t=>t=180\/t=225) w.heap.size H (P.alloc (.cells #[aB z.1,.bool false,aB 1,aB (x.st z.1).p.side,aH (dT (aQ l ((x.st z.1).fn*6+(x.st z.1).a0.num)).1 f:Nat)] 180)):=a5.alloc (Nat.le_trans N E.size) _
      clear L E
      try go_wp2_with fail
      refine C _ _ (G _ (by assumption)) (fun A=>?_)
      clear C K'
      try simp only[Act.put,fO,fN,fM]
      refine dF 17 ?_
      try simp only[Act.put,fO,fN,fM]
      refine wpAnyH_ready (rs:=[0,18]) (by kernel_rfl) (by simp) ?_
      refine AllReadyH.cons rfl (fun K' C=>?_) (AllReadyH.cons rfl (fun K' C=>?_) AllReadyH.nil)
      focus
       go_simp
       refine C _ _ (G _ (by assumption)) (fun A=>?_)
       clear C K'
       try simp only[Act.put,fO,fN,fM]
       refine wpAnyH_ready (rs:=[18]) (by kernel_rfl) (by simp) ?_
       refine AllReadyH.cons rfl (fun K' C=>?_) AllReadyH.nil
       go_simp
       refine C _ _ (G _ (by assumption)) (fun A=>?_)
       clear C K'
       try simp only[Act.put,fO,fN,fM]
      rotate_left
      focus
       go_simp
       refine C _ _ (G _ (by assumption)) (fun A=>?_)
       clear C K'
       try simp only[Act.put,fO,fN,fM]
       refine wpAnyH_ready (rs:=[0]) (by kernel_rfl) (by simp) ?_
       refine AllReadyH.cons rfl (fun K' C=>?_) AllReadyH.nil
       go_simp
       refine C _ _ (G _ (by assumption)) (fun A=>?_)
       clear C K'
       try simp only[Act.put,fO,fN,fM]
     all_goals
      refine wpAnyH_ready (rs:=[19]) (by kernel_rfl) (by simp) ?_
      refine AllReadyH.cons rfl (fun K' C=>?_) AllReadyH.nil
      refine bD rfl (.tmp 59) (.tmp 77) 225 rfl w.heap.size 180 i0 (.agg #[aB 0,.bool false,aB 0,aB 0,aH 0]) 5 40 Tryz.underlying225 hi am al ak rfl (by decide) _ _ _ rfl ((aP ar y).alloc _) (Ad P.heap.size 0) 1 1 [aB z.1,.bool false,aB 1,aB (x.st z.1).p.side,aH (dT (aQ l ((x.st z.1).fn*6+(x.st z.1).a0.num)).1 f:Nat)] rfl rfl (cF _ _ _ _ rfl) (by intro u hu;simp at hu;rcases hu with rfl|rfl|rfl|rfl|rfl<;>rfl) (by decide) (by unfold maxLen;omega) (by omega) (by have:=y.size;simp;omega) ?_
      intro v4 Q F B T
      obtain⟨p4,k4,rfl⟩:=aI F
      rw[<-a7.out]at F
      obtain⟨e5,f5,ay,b7,af,HP⟩:=ai P _ Q m y F (by rw[a8.out];exact⟨B.os,B.tape,B.output,B.size,B.block⟩) a6
      clear F B T
      refine C _ _ (G _ (by assumption)) (fun A=>?_)
      clear C K'
      try simp only[Act.put,fO,fN,fM]
      refine wpAnyH_ready (rs:=[20]) (by kernel_rfl) (by simp) ?_
      refine AllReadyH.cons rfl (fun K' C=>?_) AllReadyH.nil
      go_simp
      refine C _ _ (G _ (by assumption)) (fun A=>?_)
      clear C K'
      try simp only[Act.put,fO,fN,fM]
      refine wpAnyH_done (by kernel_rfl) ?_ _
      exact HP
    ·by_cases K5:(x.st z.1).p.kind=5
     ·have y2:H.cell? (Ad O 2)=some (aB 5):=by rw[(Z.out H (eH.refl _ _ _)).2.2.1.cell 2];simp[bK,K5]
      have a9:(x.st z.1).p.ln< 6:=bn
      have G:Hid (∀w',eH (fun t=>t=180\/t=225) w.heap.size H w'->Ce w' p 0 (aB z.1)/\Ce w' W.heap.size 0 (aF O)/\Ce w' O 7 (aB (x.st z.1).p.side)/\Ce w' O 3 (.string ⟨(x.st z.1).p.lt.toArray⟩)/\Ce w' O 4 (aB (x.st z.1).p.la)/\w'.cell? (Ad O 5)=some (aB (x.st z.1).p.ln)):=fun w' q=>by
       obtain⟨h1,h2,h3,h4⟩:=Z w' q
       exact⟨h1,h2,h3.cell 7,h3.cell 3,h3.cell 4,h3.cell 5⟩
      obtain⟨m,M⟩:=bM ({spot:=z.1,wr:=true,kind:=1,num:=(x.st z.1).p.side,things:=dT (aQ l ((x.st z.1).fn*6+(x.st z.1).p.ln)).1 f}:Ac)
      have a6:Hid (x.acOf l f z.1=some m):=by show _=_;rw[M];unfold Rp.acOf;rw[if_neg K2,if_neg K3,if_neg K4,if_pos K5]
      have b6:eH (fun t=>t=180\/t=225) w.heap.size H (H.alloc (.cells #[aB z.1,.bool true,aB 1,aB (x.st z.1).p.side,aH (dT (aQ l ((x.st z.1).fn*6+(x.st z.1).p.ln)).1 f:Nat)] 180)).drew:=((eH.refl _ _ _).alloc N _).drew
      have a7:Hid (FE m=[aB z.1,.bool true,aB 1,aB (x.st z.1).p.side,aH (dT (aQ l ((x.st z.1).fn*6+(x.st z.1).p.ln)).1 f:Nat)]):=by show _=_;rw[M];rfl
      have a8:Hid (IZ m=#[aB z.1,.bool true,aB 1,aB (x.st z.1).p.side,aH (dT (aQ l ((x.st z.1).fn*6+(x.st z.1).p.ln)).1 f:Nat)]):=by show _=_;rw[M];rfl
      clear M
      have az:Ce H.drew (w.heap.size+1+1) 0 (.slice pv ((J.map (·.1)).filterMap (x.acOf l f)).length cv):=l0
      have ah:=aG (ax (x.st z.1).p.ln ⟨(x.st z.1).p.lt.toArray⟩ (x.st z.1).p.la a9)
      gi_wp2
      refine jz (S:=fun w'=>Ce w' p 0 (aB z.1)/\Ce w' W.heap.size 0 (aF O)/\Ce w' O 7 (aB (x.st z.1).p.side)/\Ce w' O 3 (.string ⟨(x.st z.1).p.lt.toArray⟩)/\Ce w' O 4 (aB (x.st z.1).p.la)/\Ce w' O 5 (aB (x.st z.1).p.ln)) (by kernel_rfl) (by kernel_rfl) (G _ aq) (fun V=>?_)
      refine dF 1 ?_
      refine dF 2 ?_
      refine dF 3 ?_
      refine dF 4 ?_
      refine dF 5 ?_
      refine dF 6 ?_
      refine dF 7 ?_
      refine dF 8 ?_
      refine dF 9 ?_
      refine dF 10 ?_
      refine dF 11 ?_
      refine dF 12 ?_
      try simp only[Act.put,fO,fN,fM]
      refine wpAnyH_ready (rs:=[0,13]) (by kernel_rfl) (by simp) ?_
      refine AllReadyH.cons rfl (fun K' C=>?_) (AllReadyH.cons rfl (fun K' C=>?_) AllReadyH.nil)
      focus
       go_simp
       refine C _ _ (G _ (by assumption)) (fun A=>?_)
       clear C K'
       try simp only[Act.put,fO,fN,fM]
       refine wpAnyH_ready (rs:=[13]) (by kernel_rfl) (by simp) ?_
       refine AllReadyH.cons rfl (fun K' C=>?_) AllReadyH.nil
       go_simp
       refine ah.mono ?_
       rintro q P ⟨rfl,L⟩
       have E:Bw H P:=⟨L.os,L.tape,L.output,L.size,L.block⟩
       have y:=aG E
       have a5:eH (fun t=>t=180\/t=225) w.heap.size H P:=eH.of_below E N
       have l5:Ce P (w.heap.size+1+1) 0 (.slice pv ((J.map (·.1)).filterMap (x.acOf l f)).length cv):=(E.cell (p:=Ad (w.heap.size+1+1) 0) a2).trans l0
       have ad:w.heap.size+1+1< P.heap.size:=Nat.lt_of_lt_of_le a2 E.size
       have ae:eH (fun t=>t=180\/t=225) w.heap.size H (P.alloc (.cells #[aB z.1,.bool true,aB 1,aB (x.st z.1).p.side,aH (dT (aQ l ((x.st z.1).fn*6+(x.st z.1).p.ln)).1 f:Nat)] 180)):=a5.alloc (Nat.le_trans N E.size) _
       clear L E
       try go_wp2_with fail
       refine C _ _ (G _ (by assumption)) (fun A=>?_)
       clear C K'
       try simp only[Act.put,fO,fN,fM]
       refine dF 14 ?_
       try simp only[Act.put,fO,fN,fM]
       refine wpAnyH_ready (rs:=[15]) (by kernel_rfl) (by simp) ?_
       refine AllReadyH.cons rfl (fun K' C=>?_) AllReadyH.nil
       go_simp
       refine C _ _ (G _ (by assumption)) (fun A=>?_)
       clear C K'
       try simp only[Act.put,fO,fN,fM]
      rotate_left
      focus
       go_simp
       refine ah.mono ?_
       rintro q P ⟨rfl,L⟩
       have E:Bw H P:=⟨L.os,L.tape,L.output,L.size,L.block⟩
       have y:=aG E
       have a5:eH (fun t=>t=180\/t=225) w.heap.size H P:=eH.of_below E N
       have l5:Ce P (w.heap.size+1+1) 0 (.slice pv ((J.map (·.1)).filterMap (x.acOf l f)).length cv):=(E.cell (p:=Ad (w.heap.size+1+1) 0) a2).trans l0
       have ad:w.heap.size+1+1< P.heap.size:=Nat.lt_of_lt_of_le a2 E.size
       have ae:eH (fun t=>t=180\/t=225) w.heap.size H (P.alloc (.cells #[aB z.1,.bool true,aB 1,aB (x.st z.1).p.side,aH (dT (aQ l ((x.st z.1).fn*6+(x.st z.1).p.ln)).1 f:Nat)] 180)):=a5.alloc (Nat.le_trans N E.size) _
       clear L E
       try go_wp2_with fail
       refine C _ _ (G _ (by assumption)) (fun A=>?_)
       clear C K'
       try simp only[Act.put,fO,fN,fM]
       refine dF 14 ?_
       try simp only[Act.put,fO,fN,fM]
       refine wpAnyH_ready (rs:=[0,15]) (by kernel_rfl) (by simp) ?_
       refine AllReadyH.cons rfl (fun K' C=>?_) (AllReadyH.cons rfl (fun K' C=>?_) AllReadyH.nil)
       focus
        go_simp
        refine C _ _ (G _ (by assumption)) (fun A=>?_)
        clear C K'
        try simp only[Act.put,fO,fN,fM]
        refine wpAnyH_ready (rs:=[15]) (by kernel_rfl) (by simp) ?_
        refine AllReadyH.cons rfl (fun K' C=>?_) AllReadyH.nil
        go_simp
        refine C _ _ (G _ (by assumption)) (fun A=>?_)
        clear C K'
        try simp only[Act.put,fO,fN,fM]
       rotate_left
       focus
        go_simp
        refine C _ _ (G _ (by assumption)) (fun A=>?_)
        clear C K'
        try simp only[Act.put,fO,fN,fM]
        refine wpAnyH_ready (rs:=[0]) (by kernel_rfl) (by simp) ?_
        refine AllReadyH.cons rfl (fun K' C=>?_) AllReadyH.nil
        go_simp
        refine C _ _ (G _ (by assumption)) (fun A=>?_)
        clear C K'
        try simp only[Act.put,fO,fN,fM]
      all_goals
       refine wpAnyH_ready (rs:=[16]) (by kernel_rfl) (by simp) ?_
       refine AllReadyH.cons rfl (fun K' C=>?_) AllReadyH.nil
       refine bD rfl (.tmp 81) (.tmp 96) 225 rfl w.heap.size 180 i0 (.agg #[aB 0,.bool false,aB 0,aB 0,aH 0]) 5 40 Tryz.underlying225 hi am al ak rfl (by decide) _ _ _ rfl ((aP ar y).alloc _) (Ad P.heap.size 0) 1 1 [aB z.1,.bool true,aB 1,aB (x.st z.1).p.side,aH (dT (aQ l ((x.st z.1).fn*6+(x.st z.1).p.ln)).1 f:Nat)] rfl rfl (cF _ _ _ _ rfl) (by intro u hu;simp at hu;rcases hu with rfl|rfl|rfl|rfl|rfl<;>rfl) (by decide) (by unfold maxLen;omega) (by omega) (by have:=y.size;simp;omega) ?_
       intro v4 Q F B T
       obtain⟨p4,k4,rfl⟩:=aI F
       rw[<-a7.out]at F
       obtain⟨e5,f5,ay,b7,af,HP⟩:=ai P _ Q m y F (by rw[a8.out];exact⟨B.os,B.tape,B.output,B.size,B.block⟩) a6
       clear F B T
       refine C _ _ (G _ (by assumption)) (fun A=>?_)
       clear C K'
       try simp only[Act.put,fO,fN,fM]
       refine wpAnyH_ready (rs:=[17]) (by kernel_rfl) (by simp) ?_
       refine AllReadyH.cons rfl (fun K' C=>?_) AllReadyH.nil
       go_simp
       refine C _ _ (G _ (by assumption)) (fun A=>?_)
       clear C K'
       try simp only[Act.put,fO,fN,fM]
       refine wpAnyH_done (by kernel_rfl) ?_ _
       exact HP
     ·have y2:Ce H O 2 (aB (x.st z.1).p.kind):=(Z H (eH.refl _ _ _)).2.2.1.cell 2
      have n2:(((x.st z.1).p.kind:Int)==2)=false:=by rw[beq_eq_false_iff_ne];omega
      have n3:(((x.st z.1).p.kind:Int)==3)=false:=by rw[beq_eq_false_iff_ne];omega
      have n4:(((x.st z.1).p.kind:Int)==4)=false:=by rw[beq_eq_false_iff_ne];omega
      have n5:(((x.st z.1).p.kind:Int)==5)=false:=by rw[beq_eq_false_iff_ne];omega
      have HN:=aG (av (by unfold Rp.acOf;rw[if_neg K2,if_neg K3,if_neg K4,if_neg K5]))
      clear K2 K3 K4 K5 ai av
      gi_wp2
      exact HN
 case done=>
  rintro Dn ys W cd rfl ⟨⟨⟨⟨v,a4,k⟩,hp1⟩,hp2⟩,kW⟩ C
  have hc:=a4.cell
  have bz:Hid (W.ownsRow w.heap.size 180 5 v (x.accs l f).length (jP (x.accs l f))):=by
   have:=k
   rw[dO]at this
   exact this
  clear k
  gi_wp2
  refine⟨by simp,.inl ⟨_,_,rfl,run_takeDeferred C,?_⟩⟩
  refine⟨_,results_tmp rfl _ _ _,⟨_,rfl,sI bz C rfl _,?_⟩⟩
  exact kW.trans (belowK_b (w:=w) (Nat.le_refl _) W Dn _ _ (by omega) C rfl rfl)
 case stop=>
  rintro Dn c J W _ _ h _
  exact h.elim
end
section
attribute [local go_sem] Oper.semAt_some
theorem ML{held:List Nat}(h:cA w d x)(A:iA w c d held l)(ok:ft x)(K:mE x)(hg:0< w.heap.size)(J:Tz w)(D:f<=x.starts.length)(C:g<=x.starts.length)(H:a< 53)(G:b< 53)(F:x.starts.length< 60)(E:x.runs.length< 64)(B:x.stmts.length<=53):
  Ca 169 #[aF c,aB f,aB a,aB g,aB b] w (Rt w (.bool (x.atATimeOf l f a g b))):=by
 cases f with
 |zero=>
  cases g with
  |zero=>exact BQ
  |succ j=>exact Ey A (by omega) H
 |succ k=>
  cases g with
  |zero=>exact BS A (by omega) G
  |succ j=>
   by_cases e:k=j
   ·subst e;exact Ex h A (by omega)
   ·exact Hq h A ok K hg J (by omega) (by omega) e F E B
def jb(f:Nat->Nat->Bool)(A B:List Nat):Option (Nat×Nat):=A.findSome? (fun ra=>(B.find? (f ra)).map (fun rb=>(ra,rb)))
theorem uI{f:Nat->Nat->Bool}{A:List Nat}(h:∀r∈A,B.find? (f r)=none):jb f A B=none:=by
 unfold jb
 rw[List.findSome?_eq_none_iff]
 intro r C
 rw[h r C]
 rfl
theorem uH{f:Nat->Nat->Bool}{A:List Nat}(hp:l++[a]<+:A)(h:∀r∈l,B.find? (f r)=none)(D:B.find? (f a)=some b):jb f A B=some (a,b):=by
 obtain⟨t,rfl⟩:=hp
 unfold jb
 rw[List.append_assoc,List.findSome?_append]
 have E:l.findSome? (fun a=>(B.find? (f a)).map (fun b=>(a,b)))=none:=by
  rw[List.findSome?_eq_none_iff]
  intro r C
  rw[h r C]
  rfl
 rw[E]
 simp[D]
theorem rW{p:Nat->Bool}(h:∀r∈B,p r=false):B.find? p=none:=by
 rw[List.find?_eq_none]
 intro r A
 rw[h r A]
 decide
theorem Ab{p:Nat->Bool}(hp:l++[a]<+:B)(h:∀r∈l,p r=false)(A:p a=true):B.find? p=some a:=by
 obtain⟨t,rfl⟩:=hp
 rw[List.append_assoc,List.find?_append,rW h]
 simp[A]
theorem mh{P:Program}{Q:Func}{D C B:Tmp}{O N M:TypeId}(h:Q.results=#[.cell D O,.cell C N,.cell B M])(A:Array Value)(w:World){K J H:Addr}{y z L:Value}(T:A.getD D undef=.pointer (some K))(S:A.getD C undef=.pointer (some J))(R:A.getD B undef=.pointer (some H))
  (X:(loadVar O K).run P w=.ok y w) (W:(loadVar N J).run P w=.ok z w) (V:(loadVar M H).run P w=.ok L w):(results Q A).run P w=.ok (.tuple #[y,z,L]) w:=by
 have G:A[D]?.getD undef=.pointer (some K):=by simpa using T
 have F:A[C]?.getD undef=.pointer (some J):=by simpa using S
 have E:A[B]?.getD undef=.pointer (some H):=by simpa using R
 simp[results,h,G,F,E,asAddr,X,W,V]
theorem gT{P:Program}{t:TypeId}{v:Value}{d:TypeDesc}(B:P.underlying t=some d)(D:d.isRow=false)(C:w.cell? (Ad b 0)=some v):(loadVar t (Ad b 0)).run P w=.ok v w:=by
 have A:(isAgg t).run P w=.ok false w:=by
  unfold isAgg
  rw[Sem.run_bind,run_underlying B w]
  cases d<;>simp_all
 simp[loadVar,Sem.run_bind,A,C]
structure yg(w W:World)(bT a b ra rb:Nat)(f:Bool):Prop where
 kp:Below w.heap.size w W
 b3:Boxed W w.heap.size 170 (aF bT)
 b4:Boxed W (w.heap.size+1) 175 (.int .i64 a)
 b5:Boxed W (w.heap.size+1+1) 175 (.int .i64 b)
 b6:Boxed W (w.heap.size+1+1+1) 239 (.int .i64 ra)
 b7:Boxed W (w.heap.size+1+1+1+1) 239 (.int .i64 rb)
 b8:Boxed W (w.heap.size+1+1+1+1+1) 4 (.bool f)
theorem yg.keep{W':World}{f:Bool}(h:yg w W c a b d e f)(k:Bw W W'):yg w W' c a b d e f:=⟨h.kp.trans (k.mono h.kp.size),aL h.b3 k,aL h.b4 k,aL h.b5 k,aL h.b6 k,aL h.b7 k,aL h.b8 k⟩
theorem yg.grown{X Y:World}{B:Nat}{f:Bool}{row:Option Nat}(h:yg w X c a b d g f)(hg:X.grownBy Y row)(F:w.heap.size+6<=B)(C:∀r,row=some r->B<=r/\∃o:Obj,X.heap[r]?=some o/\o.isCells=false):yg w Y c a b d g f:=by
 have A:∀{i:Nat} {t:TypeId} {v:Value},Boxed X i t v->i< w.heap.size+6->Boxed Y i t v:=fun D E=>(hg.block _ D.lt (fun e=>by have:=(C _ e.symm).1;omega)).trans D
 exact⟨h.kp.grown hg (Nat.le_trans (Nat.le_refl _) h.kp.size) (fun k e=>by have:=(C k e).1;omega),A h.b3 (by omega),A h.b4 (by omega),A h.b5 (by omega),A h.b6 (by omega),A h.b7 (by omega),A h.b8 (by omega)⟩
theorem yg.set(h:yg w W c a b 0 0 false)(B A:Nat)(fl:Bool):yg w (((W.setCell ⟨w.heap.size+1+1+1,0,none⟩ (.int .i64 B)).setCell ⟨w.heap.size+1+1+1+1,0,none⟩ (.int .i64 A)).setCell ⟨w.heap.size+1+1+1+1+1,0,none⟩ (.bool fl)) c a b B A fl:=by
 refine⟨((h.kp.setCell (p:=Ad (w.heap.size+1+1+1) 0) (by show w.heap.size<=w.heap.size+1+1+1;omega) _).setCell (p:=Ad (w.heap.size+1+1+1+1) 0) (by show w.heap.size<=w.heap.size+1+1+1+1;omega) _).setCell (p:=Ad (w.heap.size+1+1+1+1+1) 0) (by show w.heap.size<=w.heap.size+1+1+1+1+1;omega) _,?_,?_,?_,?_,?_,?_⟩
 ·exact((h.b3.other (by omega) _).other (by omega) _).other (by omega) _
 ·exact((h.b4.other (by omega) _).other (by omega) _).other (by omega) _
 ·exact((h.b5.other (by omega) _).other (by omega) _).other (by omega) _
 ·exact((h.b6.set _).other (by omega) _).other (by omega) _
 ·exact((h.b7.other (by omega) _).set _).other (by omega) _
 ·exact((h.b8.other (by omega) _).other (by omega) _).set _
theorem Hg{held:List Nat}(h:cA w g x)(ht:iA w d g held l)(ok:ft x)(ag:mE x)(hg:0< w.heap.size)(hT:Tz w)(ha:a< x.stmts.length)(hb:b< x.stmts.length)(hm:x.starts.length< 60)(hn:x.runs.length=x.starts.length+1)(b9:x.stmts.length<=53):
  Ca 103 #[aF d,aB a,aB b] w (Rt w (match jb (fun G E=>x.atATimeOf l G a E b) (et (x.runByOf (x.st a).fn)) (et (x.runByOf (x.st b).fn))with|some z=>.tuple #[aB z.1,aB z.2,.bool true]|none=>.tuple #[aB 0,aB 0,.bool false])):=by
 obtain⟨D,hD⟩:=bM ((((((w.alloc (.cells #[aF d] 170)).alloc (.cells #[aB a] 175)).alloc (.cells #[aB b] 175)).alloc (.cells #[aB 0] 239)).alloc (.cells #[aB 0] 239)).alloc (.cells #[.bool false] 4))
 have a2:Hid (yg w D d a b 0 0 false):=by
  rw[hD]
  have e:∀(W:World) (t:TypeId) (v:Value) (B:Nat),W.heap.size=B->Boxed (W.alloc (.cells #[v] t)) B t v:=fun W t v B hB=>hB▸Boxed.new W t v
  refine⟨(((((ba w _).alloc (by simp) _).alloc (by simp;omega) _).alloc (by simp;omega) _).alloc (by simp;omega) _).alloc (by simp;omega) _,(((((Boxed.new w _ _).alloc _).alloc _).alloc _).alloc _).alloc _,((((e _ _ _ _ (by simp)).alloc _).alloc _).alloc _).alloc _,(((e _ _ _ _ (by simp)).alloc _).alloc _).alloc _,((e _ _ _ _ (by simp)).alloc _).alloc _,(e _ _ _ _ (by simp)).alloc _,e _ _ _ _ (by simp)⟩
 have br:D.heap.size=w.heap.size+6:=by rw[hD];simp
 have q3:Ce D w.heap.size 0 (aF d):=a2.out.b3.cell
 have q4:Ce D (w.heap.size+1) 0 (aB a):=a2.out.b4.cell
 rw[hD]at q3 q4
 have ac:Hid (∀s W,s< x.stmts.length->Bw w W->Ca 167 #[aF d,aB s] W (Rt W (aH (x.runByOf (x.st s).fn)))):=fun s W T k=>BO (h.keep k) ok (Nat.lt_of_lt_of_le hg k.size) (hT.below k) T (by omega) (ht.keep k).prog
 have ay:Hid (∀G E W,G<=x.starts.length->E<=x.starts.length->Bw w W->Ca 169 #[aF d,aB G,aB a,aB E,aB b] W (Rt W (.bool (x.atATimeOf l G a E b)))):=fun G E W S Z k=>ML (h.keep k) (ht.keep k) ok ag (Nat.lt_of_lt_of_le hg k.size) (hT.below k) S Z (by omega) (by omega) hm (by omega) b9
 have ab:Hid (∀s r,r< 64->(x.runByOf (x.st s).fn).testBit r=true->r<=x.starts.length):=fun s r C ak=>by
  have:=jv (by omega) (jg C ak).1
  omega
 have q:∀s,x.runByOf (x.st s).fn< ec:=fun s=>jh _ _
 obtain⟨A,hA⟩:=bM (x.runByOf (x.st a).fn)
 obtain⟨B,hB⟩:=bM (x.runByOf (x.st b).fn)
 have ao:A< ec:=by rw[hA];exact q a
 have an:B< ec:=by rw[hB];exact q b
 have a5:=aG (ac.out a D ha a2.out.kp)
 have ar:Hid (∀W,Bw w W->Ca 167 #[aF d,aB b] W (Rt W (aH B))):=fun W k=>by rw[hB];exact ac.out b W hb k
 have bo:Hid (∀r,r< 64->A.testBit r=true->r<=x.starts.length):=fun r S Z=>ab.out a r S (by rw[<-hA];exact Z)
 have bl:Hid (∀r,r< 64->B.testBit r=true->r<=x.starts.length):=fun r S Z=>ab.out b r S (by rw[<-hB];exact Z)
 rw[<-hA]at a5⊢
 rw[<-hB]
 obtain⟨f,hf⟩:=bM (fun G E=>x.atATimeOf l G a E b:Nat->Nat->Bool)
 have bm:Hid (∀G E W,G<=x.starts.length->E<=x.starts.length->Bw w W->Ca 169 #[aF d,aB G,aB a,aB E,aB b] W (Rt W (.bool (f G E)))):=by rw[hf];exact ay
 rw[<-hf]
 obtain⟨af,o⟩:=bM ((match jb f (et A) (et B)with|some z=>.tuple #[aB z.1,aB z.2,.bool true]|none=>.tuple #[aB 0,aB 0,.bool false]):Value)
 rw[<-o]
 obtain⟨a4,HT,HD⟩:=bY o hT hD
 clear h ht ok ag hT hD hA hB hf o q ac ay ab
 refine(callsIn_wide (n:=5)).1 ?_
 refine callsIn_of_wp_marks Tryz.func103 rfl trivial ?_ rfl
 simp only[Tryz.ntmps103,List.size_toArray,List.length_cons,List.length_nil,Nat.reduceAdd,Nat.reduceSub,Array.replicate_succ,Array.replicate_zero,List.push_toArray,List.append_toArray,List.nil_append,List.cons_append]
 gi_wp2
 rw[<-HD.out]
 refine⟨trivial,?_⟩
 refine(callsIn_wide.2 a5.out).mono ?_
 rintro e u ⟨rfl,a8⟩
 have bj:=aG (a2.out.keep a8)
 have bs:D.heap.size<=u.heap.size:=a8.size
 clear a8 q3 q4
 gi_wp2_with (refine⟨trivial,?_⟩;gi_at_call 168;refine(tP _ _ _).mono ?_;rintro e w' ⟨rfl,hq⟩;subst w')
 obtain⟨W2,a1⟩:=bM (u.alloc (.cells #[aH A] 351))
 have k2:Bw u W2:=by rw[a1];exact ba u _
 have bA:Boxed W2 u.heap.size 351 (aH A):=by rw[a1];exact Boxed.new _ _ _
 have b1:u.heap.size< W2.heap.size:=bA.lt
 have aq:=aG (bj.out.keep k2)
 rw[<-a1]
 clear a1
 refine wpIn_rangeFunc_ownH rfl (by decide) (gf:=236) (lb:=#[Pt u.heap.size 0]) rfl trivial (enters_of Tryz.func236 (by kernel_rfl) rfl)
  (rB 4 (by decide) u.heap.size w.heap.size A ao _ b1 (by omega) hg bA.cell (HT.out.below aq.out.kp)) belowK_t (belowK_b (by omega)) (Below.refl _ _) (fun _=>rfl)
  (fun(Q:List (El A)) W=>yg w W d a b 0 0 false/\∀r∈Q.map (·.1),(et B).find? (f r)=none)
  (fun c (Q:List (El A)) W=>c=.ret/\∃G E P,yg w W d a b G E true/\Q.map (·.1)=P++[G]/\(∀r∈P,(et B).find? (f r)=none)/\(et B).find? (f G)=some E)
  (fun _ X Y row T H C=>by exact⟨T.1.grown H (by omega) C,T.2⟩)
  (fun c _ X Y row T H C=>by
   obtain⟨e,G,E,P,S,Z⟩:=T
   exact⟨e,G,E,P,S.grown H (by omega) C,Z⟩)
  ⟨aq.out,fun r C=>by cases C⟩
  (fun z a' W=>∃p,a'={tmps:=#[aF d,aB a,aB b,Pt w.heap.size 0,Pt (w.heap.size+1) 0,Pt (w.heap.size+1+1) 0,Pt (w.heap.size+1+1+1) 0,Pt (w.heap.size+1+1+1+1) 0,Pt (w.heap.size+1+1+1+1+1) 0,Pt p 0,undef,aF d,aB a,aH A,.func (.func 236) #[] #[Pt u.heap.size 0],aB z.1,undef,undef,undef,undef,undef,undef,undef,undef,undef,undef,undef,undef,undef],defers:=[]}/\Boxed W p 239 (aB z.1)/\w.heap.size+6<=p)
  (fun z a' _ X Y row T H C=>by
   obtain⟨p,e,hp,bd⟩:=T
   exact⟨p,e,boxed_own (β:=Unit) p _ (fun _=>_) () X Y row hp H (fun r e=>(C r e).2),bd⟩) ?assign ?body ?done ?stop
 case assign=>
  rintro lr Q z W K hI hK
  have kA:Bw W (W.alloc (.cells #[aB z.1] 239)):=ba W _
  have bg:w.heap.size+6<=W.heap.size:=by have:=hI.1.b8.lt;omega
  have:=hK {tmps:=#[aF d,aB a,aB b,Pt w.heap.size 0,Pt (w.heap.size+1) 0,Pt (w.heap.size+1+1) 0,Pt (w.heap.size+1+1+1) 0,Pt (w.heap.size+1+1+1+1) 0,Pt (w.heap.size+1+1+1+1+1) 0,Pt W.heap.size 0,undef,aF d,aB a,aH A,.func (.func 236) #[] #[Pt u.heap.size 0],aB z.1,undef,undef,undef,undef,undef,undef,undef,undef,undef,undef,undef,undef,undef],defers:=[]} _ (bO kA) (kA.mono (by omega)) ⟨hI.1.keep kA,hI.2⟩ ⟨W.heap.size,rfl,Boxed.new _ _ _,bg⟩
  have HK:=aG this
  clear hK this hI
  gi_wp2
  exact HK.out
 case body=>
  rintro lr Q z a' W bx ⟨rr,ai⟩ ⟨O,L⟩ ⟨p,rfl,hp,bu⟩ bw
  have q3:Ce W w.heap.size 0 (aF d):=O.b3.cell
  have q5:Ce W (w.heap.size+1+1) 0 (aB b):=O.b5.cell
  obtain⟨HR,HS,HP,a6⟩:=fK (ar.out W O.kp) O hp L
  have az:=bo.out z.1 z.2.1 z.2.2
  have bz:w.heap.size+6<=W.heap.size:=by have:=O.b8.lt;omega
  clear O hp L
  gi_wp2
  refine⟨trivial,?_⟩
  refine(CallsIn.inRound lr (callsIn_wide.2 HR.out)).mono ?_
  rintro e W3 ⟨rfl,al⟩
  have ax:=aG al
  clear al q3 q5 HR
  gi_wp2_with (refine⟨trivial,?_⟩;gi_at_call 168;refine(CallsIn.inRound lr (tP _ _ _)).mono ?_;rintro e w' ⟨rfl,hq⟩;subst w')
  obtain⟨W4,a0⟩:=bM (W3.alloc (.cells #[aH B] 351))
  have k4:Bw W W4:=by rw[a0];exact ax.out.alloc ax.out.size _
  have bN:Boxed W4 W3.heap.size 351 (aH B):=by rw[a0];exact Boxed.new _ _ _
  have b0:W3.heap.size< W4.heap.size:=bN.lt
  have a3:=k4.size
  have ap:=aG (HS.out.keep k4)
  have bt:=ap.out.kp.size
  rw[<-a0]
  have bk:Hid (W4.heap[lr]?=some (.loop rr)):=(k4.block lr (gl ai)).trans ai
  clear a0
  refine' By (l₀:=lr) rfl bk.out (by decide) (gf:=236) (lb:=#[Pt W3.heap.size 0]) rfl trivial (enters_of Tryz.func236 (by kernel_rfl) rfl)
   (SeqStopsK.inRound lr (rB 2 (by decide) W3.heap.size w.heap.size B an W4 b0 (by omega) hg bN.cell (HT.out.below ap.out.kp))) belowK_t (belowK_b (by omega)) (Below.refl _ _) (fun _=>rfl)
   (fun(J:List (El B)) W'=>Bw W W'/\∀r∈J.map (·.1),f z.1 r=false)
   (fun c (J:List (El B)) W'=>c=.ret/\∃E F,(KeepsFrom W2.heap.size W W'/\yg w W' d a b z.1 E true)/\J.map (·.1)=F++[E]/\(∀r∈F,f z.1 r=false)/\f z.1 E=true)
   (fun _ X Y row T H C=>by exact⟨ownFrom_below (β:=Unit) (Nat.le_refl _) a3 () X Y row T.1 H C,T.2⟩)
   (fun c _ X Y row T H C=>by
    obtain⟨e,E,F,S,Z⟩:=T
    exact⟨e,E,F,⟨ownFrom_keepsFrom (β:=Unit) a3 () X Y row S.1 H C,S.2.grown H (by omega) C⟩,Z⟩)
   ⟨k4,fun r C=>by cases C⟩ (fun _=>Below.refl _ _) _ ?assign2 ?body2 ?done2 ?stop2
  case assign2=>
   intro l2 j W' K hK
   gi_wp2
   exact hK
  case body2=>
   rintro l2 J j W'- -⟨M,V⟩ bp
   have i:=aG (HS.out.keep M)
   have q3:Ce W' w.heap.size 0 (aF d):=i.out.b3.cell
   have q4:Ce W' (w.heap.size+1) 0 (aB a):=i.out.b4.cell
   have q5:Ce W' (w.heap.size+1+1) 0 (aB b):=i.out.b5.cell
   have qp:Ce W' p 0 (aB z.1):=(aL HP.out M).cell
   have ah:=bl.out j.1 j.2.1 j.2.2
   obtain⟨bn,av,au⟩:=bY (bm.out z.1 j.1 W' az ah i.out.kp) M V
   have b2:w.heap.size<=W'.heap.size:=i.out.kp.size
   clear M V
   gi_wp2
   refine⟨trivial,?_⟩
   refine(CallsIn.inRound l2 (callsIn_wide.2 bn.out)).mono ?_
   rintro e W5 ⟨rfl,y⟩
   obtain⟨R,ae⟩:=aN (i.out.keep y) y
   have ad:Hid (Bw W W5):=av.out.trans (y.mono av.out.size)
   have bq:Ce W5 p 0 (aB z.1):=(aL HP.out ad.out).cell
   have y6:=R.out.b6.cell
   have y7:=R.out.b7.cell
   have y8:=R.out.b8.cell
   have f6:=R.out.b6.frozen
   have f7:=R.out.b7.frozen
   have f8:=R.out.b8.frozen
   have be:w.heap.size+1+1+1+1+1< W5.heap.size:=R.out.b8.lt
   clear y q3 q4 q5 qp
   cases aj:f z.1 j.1
   ·gi_wp2
    refine⟨bO ae.out,ae.out.mono b2,ad.out,fun r C=>?_⟩
    rw[List.map_append]at C
    rcases List.mem_append.1 C with C|C
    ·exact au.out r C
    ·simp at C;subst C;exact aj
   ·have aa:=aG (R.out.set z.1 j.1 true)
    have bv:p≠w.heap.size+1+1+1:=by omega
    have aw:Hid (KeepsFrom W2.heap.size W (((W5.setCell (Ad (w.heap.size+1+1+1) 0) (aB z.1)).setCell (Ad (w.heap.size+1+1+1+1) 0) (aB j.1)).setCell (Ad (w.heap.size+1+1+1+1+1) 0) (.bool true))/\KeepsFrom W4.heap.size W' (((W5.setCell (Ad (w.heap.size+1+1+1) 0) (aB z.1)).setCell (Ad (w.heap.size+1+1+1+1) 0) (aB j.1)).setCell (Ad (w.heap.size+1+1+1+1+1) 0) (.bool true))):=by
     have ks:KeepsOthers W5 (((W5.setCell (Ad (w.heap.size+1+1+1) 0) (aB z.1)).setCell (Ad (w.heap.size+1+1+1+1) 0) (aB j.1)).setCell (Ad (w.heap.size+1+1+1+1+1) 0) (.bool true)):=((KeepsOthers.setCell _ _ _).trans (KeepsOthers.setCell _ _ _)).trans (KeepsOthers.setCell _ _ _)
     exact⟨(bO ad.out).trans (ks.from _),(bO ae.out).trans (ks.from _)⟩
    gi_wp2
    refine⟨aw.out.2,rfl,j.1,J.map (·.1),⟨aw.out.1,aa.out⟩,by simp,au.out,aj⟩
  case done2=>
   rintro ys W' rfl ⟨M,V⟩
   have HF:Hid (KeepsFrom W2.heap.size W W'/\Below w.heap.size W W'/\yg w W' d a b 0 0 false/\∀r∈(Q++[z]).map (·.1),(et B).find? (f r)=none):=by
    refine⟨bO M,M.mono (by omega),HS.out.keep M,fun r C=>?_⟩
    rw[List.map_append]at C
    rcases List.mem_append.1 C with C|C
    ·exact a6.out r C
    ·simp at C
     subst C
     rw[dO]at V
     exact rW V
   clear M V
   gi_wp2
   exact HF.out
  case stop2=>
   rintro c J W' m ⟨rfl,E,F,⟨bf,bb⟩,S,Z,h3⟩
   rw[S]at m
   refine wpIn_ret ?_
   exact⟨bf,rfl,z.1,E,Q.map (·.1),bb,by simp,a6.out,Ab m Z h3⟩
 case done=>
  rintro Dn ys W a9 rfl ⟨O,L⟩ hK
  have a7:jb f (et A) (et B)=none:=by
   rw[dO]at L
   exact uI L
  have bi:af=.tuple #[aB 0,aB 0,.bool false]:=by rw[a4.out,a7]
  have y6:=O.b6.cell
  have y7:=O.b7.cell
  have y8:=O.b8.cell
  have f6:=O.b6.frozen
  have f7:=O.b7.frozen
  have f8:=O.b8.frozen
  have be:w.heap.size+1+1+1+1+1< W.heap.size:=O.b8.lt
  have HS:=aG O
  clear O L
  have aa:=aG (HS.out.set 0 0 false)
  gi_wp2
  have am:(((W.setCell (Ad (w.heap.size+1+1+1) 0) (aB 0)).setCell (Ad (w.heap.size+1+1+1+1) 0) (aB 0)).setCell (Ad (w.heap.size+1+1+1+1+1) 0) (.bool false)).heap[Dn]?=some (.deferred (some [])):=(((KeepsOthers.setCell W (Ad (w.heap.size+1+1+1) 0) (aB 0)).trans (KeepsOthers.setCell _ (Ad (w.heap.size+1+1+1+1) 0) (aB 0))).trans (KeepsOthers.setCell _ (Ad (w.heap.size+1+1+1+1+1) 0) (.bool false))).same Dn _ hK rfl
  refine⟨by simp,.inl ⟨_,_,rfl,run_takeDeferred am,?_⟩⟩
  have N:=aa.out.grown (grownBy_putObj' _ Dn (.deferred none)) (B:=W2.heap.size) (by omega) (fun r e=>by cases e;exact⟨a9,_,am,rfl⟩)
  refine⟨_,mh rfl _ _ rfl rfl rfl (gT Tryz.underlying239 rfl N.b6.cell) (gT Tryz.underlying239 rfl N.b7.cell) (gT Tryz.underlying4 rfl N.b8.cell),by rw[bi];rfl,N.kp⟩
 case stop=>
  rintro Dn c Q W a9 m ⟨rfl,G,E,P,O,S,Z,h3⟩ hK
  rw[S]at m
  have bh:af=.tuple #[aB G,aB E,.bool true]:=by rw[a4.out,uH m Z h3]
  refine wpIn_ret ?_
  refine⟨by simp,.inl ⟨_,_,rfl,run_takeDeferred hK,?_⟩⟩
  have N:yg w (W.putObj Dn (.deferred none)) d a b G E true:=O.grown (grownBy_putObj' W Dn _) (B:=W2.heap.size) (by omega) (fun r e=>by cases e;exact⟨a9,_,hK,rfl⟩)
  refine⟨_,mh rfl _ _ rfl rfl rfl (gT Tryz.underlying239 rfl N.b6.cell) (gT Tryz.underlying239 rfl N.b7.cell) (gT Tryz.underlying4 rfl N.b8.cell),by rw[bh],N.kp⟩
end
theorem xF:∀(l:List Value) (A:Array Value) (o k:Nat),(l.zipIdx k).foldl (fun cs (x:Value×Nat)=>cs.setIfInBounds (o+x.2) x.1) A=iO A (o+k) l:=by
 intro l
 induction l with
 |nil=>intro A o k;rfl
 |cons a l ih=>intro A o k;rw[List.zipIdx_cons,List.foldl_cons,ih];rfl
theorem nV(A B:Array Value)(o n:Nat)(h:B.size=n):Array.foldl (fun cs (x:Value×Nat)=>cs.setIfInBounds (o+x.2) x.1) A B.zipIdx 0 n=iO A o B.toList:=by
 subst h
 have e:B.size=B.zipIdx.size:=by simp
 rw[e,<-Array.foldl_toList,Array.toList_zipIdx,xF]
 rfl
theorem rE(P Q R:Array Value)(vs:List Value)(h:Q.size=vs.length):iO (P++Q++R) P.size vs=P++vs.toArray++R:=by
 refine Array.ext_getElem? fun j=>?_
 by_cases B:j< (P++Q++R).size
 ·rw[nO _ _ _ _ B]
  simp only[Array.getElem?_append,Array.size_append,List.size_toArray]
  by_cases A:j< P.size
  ·rw[if_neg (by omega),if_pos (by omega),if_pos A,if_pos (by omega),if_pos A]
  ·by_cases C:j< P.size+vs.length
   ·rw[if_pos (by omega),if_pos (by omega),if_neg A];simp
   ·rw[if_neg (by omega),if_neg (by omega),if_neg (by omega),h]
 ·rw[Array.getElem?_eq_none (by rw[jF];omega),Array.getElem?_eq_none (by simp at B⊢;omega)]
theorem vL(a b:Value):(Tryz.zeroCells236.setIfInBounds 0 a).setIfInBounds 1 b=#[a,b]++aE (List.replicate 53 0)++aE (List.replicate 53 0):=by kernel_rfl
theorem Bo(a b:Value){m:List Nat}(A:l.length=53)(B:m.length=53):iO (iO (#[a,b]++aE (List.replicate 53 0)++aE (List.replicate 53 0)) 2 (aE l).toList) 55 (aE m).toList=#[a,b]++aE l++aE m:=by
 have D:iO (#[a,b]++aE (List.replicate 53 0)++aE (List.replicate 53 0)) 2 (aE l).toList=#[a,b]++aE l++aE (List.replicate 53 0):=by
  have:=rE #[a,b] (aE (List.replicate 53 0)) (aE (List.replicate 53 0)) (aE l).toList (by simp[aS,A])
  rw[Array.toArray_toList]at this
  exact this
 rw[D]
 have:=rE (#[a,b]++aE l) (aE (List.replicate 53 0)) #[] (aE m).toList (by simp[aS,B])
 rw[Array.append_empty,Array.append_empty,Array.toArray_toList]at this
 have C:(#[a,b]++aE l).size=55:=by simp[aS,A]
 rw[C]at this
 exact this
structure yi(y:Fl)(x:Rp)(cs held about:List Nat)(sh:Nat):Prop where
 of:∃S ent t rs bl,Dq y S ent t rs bl/\x=y.r6 S t rs bl
 ok:ft x
 sp:cP x
 wh:vJ x
 ag:mE x
 dok:∀s,s< 64->x.spots.testBit s=true->yn x (x.madeF x.stmts.length) s
 n60:x.stmts.length<=53
 n0:0< x.stmts.length
 so:∀s,s< x.stmts.length->lz (x.st s)
 sm:x.starts.length< 60
 set:∃k0,dC (x.roundG (x.madeF x.stmts.length)) k0 (List.replicate 104 0)=some cs
 okc:kh cs
 shr:dD (Gm cs) 70 (x.firstH cs).1 (x.firstH cs).1=some sh
 fh:(x.firstH cs).1< ec
 sh6:sh< 64
 mu:x.mutexes< 64
 nn:∀s,s< x.stmts.length->(x.st s).p.nn< 64
 s53:∀s,s< 64->x.spots.testBit s=true->s< 53/\(x.isCall s=true->(x.st s).p.nn< x.begins.length)
 b53:∀f,f< x.begins.length->x.begins.getD f 0< 53
 nst:∀s,s< x.stmts.length->x.isStart s=true->(x.st s).p.nn< x.begins.length
 nx:∀s t,s< 64->x.spots.testBit s=true->t< 64->(x.nextOf s).testBit t=true->t< 53
 hset:∃k0,dC (x.passG dT (x.heldB (dB (aW x.mutexes)) x.unA) x.spots) k0 (x.hf3 (dB (aW x.mutexes)))=some held
 hw:Wd 53 held
 rn:x.runs.length=x.starts.length+1
 bw:x.below.length=x.starts.length
 fn:∀s,s< x.stmts.length->(x.st s).fn< 5
 jn:∀s,s< x.stmts.length->(x.st s).p.kind=8->0< (x.st s).r.length/\((x.st s).r.getD 0 ⟨[],0,0,0⟩).num< 6
 sk:∀s k,x.startAt s=some k->k< x.starts.length
 aset:∃k0,dC (x.passG fV (x.aboutB cs) x.mainS) k0 (List.replicate 53 0)=some about
 aw:Wd 53 about
 rr:∀s,s< x.stmts.length->(x.st s).p.kind=2\/(x.st s).p.kind=4->0< (x.st s).r.length
theorem Kc{y:Fl}{held L:List Nat}(h:nH w a y)(ok:yi y x l held L b)(hT:Tz w)(hg:0< w.heap.size):
  Calls Tryz.prog 66 #[aF a] w fun r w'=>∃bT V,r=.returned (aF bT)/\iA w' bT V held L/\cA w' V x/\(∃v,w'.cell? (Ad bT 1)=some v/\w'.ownsRow w.heap.size 180 5 v (x.accs l b).length (jP (x.accs l b)))/\Bw w w':=by
 obtain⟨S,a8,t,rs,bl,f,Z⟩:=ok.of
 have H1:=MA h f hg hT
 rw[<-Z]at H1
 obtain⟨p,HT,A⟩:=bY H1 hT ok
 clear h f hT H1 ok Z
 go_in
 go_wp2_with fail
 refine p.mono ?_
 rintro q w1 ⟨V,rfl,P,H⟩
 obtain⟨k0,c⟩:=A.set
 obtain⟨a0,n,Y⟩:=bY (MP P A.sp A.dok (by have:=A.n60;omega) A.n0 (fun k hk=>by have:=A.ag.st k hk;have:=A.n60;exact⟨A.ag.st k hk,by omega⟩) A.so (by have:=A.sm;omega) (HT.below H) (Nat.lt_of_lt_of_le hg H.size) c A.okc A.shr A.fh A.sh6) P H
 clear P H p
 go_wp2_with fail
 refine a0.mono ?_
 rintro q w2 ⟨bH,rfl,R,T⟩
 have E:Bw w w2:=Y.trans (T.mono Y.size)
 have O:=n.keep T
 obtain⟨a4,m,a3,J⟩:=fK (zr O R A.sp A.so A.rr (HT.below E) (Nat.lt_of_lt_of_le hg E.size)) O R E
 clear T E O R a0 n Y
 go_wp2_with fail
 refine a4.mono ?_
 rintro q w3 ⟨v3,rfl,Q,G⟩
 obtain⟨p3,c3,rfl⟩:=aI Q
 have D:Bw w w3:=J.trans (G.mono J.size)
 have N:=m.keep G
 obtain⟨k1,e⟩:=A.hset
 obtain⟨a1,j,a2,u,X⟩:=ma (KJ N A.ok A.sp A.wh A.mu A.nn A.s53 A.b53 A.nst A.nx (HT.below D) (Nat.lt_of_lt_of_le hg D.size) e A.hw) N (a3.keep G) (dP Q w.heap.size J.size) D
 clear G D N Q a4 m a3 J
 go_wp2_with fail
 refine a1.mono ?_
 rintro q w4 ⟨rfl,B⟩
 have C:Bw w w4:=X.trans (B.mono X.size)
 have M:=j.keep B
 have g:=a2.keep B
 obtain⟨k2,d⟩:=A.aset
 obtain⟨a5,i,s,W⟩:=fK (Jb M g A.ok A.sp A.s53 A.nn A.b53 (by rw[A.out.rn];omega) (by have:=A.sm;omega) A.bw A.fn A.jn A.sk A.nx (HT.below C) (Nat.lt_of_lt_of_le hg C.size) d A.aw) M (aP u B) C
 clear B C M g a1 j a2 X u
 go_wp2_with fail
 refine a5.mono ?_
 rintro q K ⟨rfl,F⟩
 obtain⟨a6,a7⟩:=aN (i.keep F) (aP s F)
 have z:Hid (Bw w K):=W.trans (F.mono W.size)
 have z1:(aE held).size=53:=by rw[aS,A.out.hw.len]
 have z2:(aE L).size=53:=by rw[aS,A.out.aw.len]
 clear F a5 i W s
 go_wp2_with fail
 ·exfalso
  have hh:=h
  rw[nV _ _ _ _ z1,jF,vL]at hh
  simp[aS]at hh
 ·have o:Hid (aM (K.alloc (.cells (#[aF V,.slice p3 (x.accs l b).length c3]++aE held++aE L) 236)) K.heap.size (#[aF V,.slice p3 (x.accs l b).length c3]++aE held++aE L)):=aM.new K _ _
  rw[nV _ _ _ _ z2,nV _ _ _ _ z1,vL,Bo _ _ A.out.hw.len A.out.aw.len]
  have k6:Bw K (K.alloc (.cells (#[aF V,.slice p3 (x.accs l b).length c3]++aE held++aE L) 236)):=ba K _
  go_ret
  refine⟨K.heap.size,V,rfl,⟨⟨_,o⟩,A.hw.len,A.aw.len⟩,a6.keep k6,⟨_,?_,aP a7 k6⟩,z.trans (k6.mono z.size)⟩
  rw[o.out.cell,Array.getElem?_append_left (by simp[aS];omega),Array.getElem?_append_left (by simp)]
  rfl
structure wC where
 a:Nat:=0
 b:Nat:=0
 new:Int:=0
 field:Nat:=0
 ra:Nat:=0
 rb:Nat:=0
 la:List Nat:=[]
 lb:List Nat:=[]
namespace Rp
def rootsOf(x:Rp)(about:List Nat)(a b:Nat):Option (Nat×Nat):=jb (fun ra rb=>x.atATimeOf about ra a rb b) (et (x.runByOf (x.st a).fn)) (et (x.runByOf (x.st b).fn))
def repOf(x:Rp)(held about:List Nat)(a b:Ac):Option wC:=
 if((!a.wr&&!b.wr)||dT (held.getD a.spot 0) (held.getD b.spot 0)!=0)=true then none
 else if(mq a b).2=false then none
 else match x.rootsOf about a.spot b.spot with
  |none=>none
  |some z=>some {a:=a.spot,b:=b.spot,new:=(mq a b).1,field:=a.num,ra:=z.1,rb:=z.2,la:=et (held.getD a.spot 0),lb:=et (held.getD b.spot 0)}
end Rp
def kj(r:wC)(la lb:Value):Array Value:=#[.int .i64 r.a,.int .i64 r.b,.int .i64 r.new,.int .i64 r.field,.int .i64 r.ra,.int .i64 r.rb,la,lb]
def lP(base:Nat)(o:Option wC)(r:Ending)(w':World):Prop:=match o with
 |none=>r=.returned (.tuple #[.agg #[.int .i64 0,.int .i64 0,.int .i64 0,.int .i64 0,.int .i64 0,.int .i64 0,.slice none 0 0,.slice none 0 0],.bool false])
 |some z=>∃la lb,r=.returned (.tuple #[.agg (kj z la lb),.bool true])/\w'.ownsRow base 3 1 la z.la.length (dG z.la)/\w'.ownsRow base 3 1 lb z.lb.length (dG z.lb)
theorem ie{P:Program}{D:Func}{p u:Tmp}{ty:TypeId}(h:D.results=#[.cell p ty,.tmp u])(A:Array Value)(w:World)(g:Nat)(t:TypeId)(B:Array Value)(C:Nat×Nat)(d:TypeDesc)
  (hp:A.getD p undef=Pt g 0) (hg:w.heap[g]?=some (.cells B t C))
  (E:P.underlying ty=some d) (G:(match d with|.struct _|.array _ _=>true|_=>false)=true) (F:(P.info? ty).map (·.size)=some B.size):
  (results D A).run P w=.ok (.tuple #[.agg B,A.getD u undef]) w:=by
 rw[results_cell_tmp h,hp]
 simp[asAddr,run_loadVar_row w g t ty B C d hg E G F]
theorem jR:(Tryz.prog.info? 32).map (·.size)=some 8:=by kernel_rfl
theorem xC(W:World)(b:Nat):W.drew.heap[b]?=W.heap[b]?:=rfl
theorem mO(A:Nat)(W:World)(v:Value)(B:v=.bool false):lP A none (.returned (.tuple #[.agg #[aB 0,aB 0,aB 0,aB 0,aB 0,aB 0,.slice none 0 0,.slice none 0 0],v])) W:=by subst B;rfl
theorem yU{t:Nat}{A:Array Value}(h:W.heap[b]?=some (.cells A t (0,0)))(K:A.size=8)(J H G F E D C B:Value):((((((((W.setCell ⟨b,0,none⟩ J).setCell ⟨b,1,none⟩ H).setCell ⟨b,2,none⟩ G).setCell ⟨b,3,none⟩ F).setCell ⟨b,4,none⟩ E).setCell ⟨b,5,none⟩ D).setCell ⟨b,6,none⟩ C).setCell ⟨b,7,none⟩ B).heap[b]?=some (.cells #[J,H,G,F,E,D,C,B] t (0,0))/\aC (aK b) W ((((((((W.setCell ⟨b,0,none⟩ J).setCell ⟨b,1,none⟩ H).setCell ⟨b,2,none⟩ G).setCell ⟨b,3,none⟩ F).setCell ⟨b,4,none⟩ E).setCell ⟨b,5,none⟩ D).setCell ⟨b,6,none⟩ C).setCell ⟨b,7,none⟩ B):=by
 have:=eJ [J,H,G,F,E,D,C,B] 0 A W h
 rw[lE _ _ K]at this
 exact this
structure wi(w D:World)(bT:Nat)(a b:Ac)(HA HB:Nat):Prop where
 hD:D=((w.alloc (.cells #[.int .i64 a.spot,.bool a.wr,.int .i64 a.kind,.int .i64 a.num,.int .u64 a.things] 180)).alloc (.cells #[.int .i64 b.spot,.bool b.wr,.int .i64 b.kind,.int .i64 b.num,.int .u64 b.things] 180)).alloc (.cells #[.int .i64 0,.int .i64 0,.int .i64 0,.int .i64 0,.int .i64 0,.int .i64 0,.slice none 0 0,.slice none 0 0] 32)
 kD:Below w.heap.size w D
 b1:aM D w.heap.size #[.int .i64 a.spot,.bool a.wr,.int .i64 a.kind,.int .i64 a.num,.int .u64 a.things]
 b2:aM D (w.heap.size+1) #[.int .i64 b.spot,.bool b.wr,.int .i64 b.kind,.int .i64 b.num,.int .u64 b.things]
 b3:D.heap[w.heap.size+1+1]?=some (.cells #[.int .i64 0,.int .i64 0,.int .i64 0,.int .i64 0,.int .i64 0,.int .i64 0,.slice none 0 0,.slice none 0 0] 32 (0,0))
 hA:D.cell? ⟨bT,2+a.spot,none⟩=some (.int .u64 (HA:Nat))
 hB:D.cell? ⟨bT,2+b.spot,none⟩=some (.int .u64 (HB:Nat))
 hai:((a.spot:Nat):Int)< 53
 hbi:((b.spot:Nat):Int)< 53
theorem JM{held:List Nat}{a b:Ac}(C:iA w c d held l)(F:a.spot< 53)(E:b.spot< 53):∃D,wi w D c a b (held.getD a.spot 0) (held.getD b.spot 0):=by
 obtain⟨D,A⟩:=bM (((w.alloc (.cells #[aB a.spot,.bool a.wr,aB a.kind,aB a.num,aH a.things] 180)).alloc (.cells #[aB b.spot,.bool b.wr,aB b.kind,aB b.num,aH b.things] 180)).alloc (.cells #[aB 0,aB 0,aB 0,aB 0,aB 0,aB 0,.slice none 0 0,.slice none 0 0] 32))
 have B:Bw w D:=by rw[A];exact((ba w _).alloc (by simp) _).alloc (by simp;omega) _
 refine⟨D,A,B,?_,?_,?_,(C.keep B).heldC (by omega),(C.keep B).heldC (by omega),by omega,by omega⟩
 ·rw[A];exact((aM.new w _ _).alloc _).alloc _
 ·rw[A];exact(aM.new' _ _ _ _ (by simp)).alloc _
 ·rw[A]
  have:=heap_alloc_new ((w.alloc (.cells #[aB a.spot,.bool a.wr,aB a.kind,aB a.num,aH a.things] 180)).alloc (.cells #[aB b.spot,.bool b.wr,aB b.kind,aB b.num,aH b.things] 180)) (.cells #[aB 0,aB 0,aB 0,aB 0,aB 0,aB 0,.slice none 0 0,.slice none 0 0] 32)
  rw[World.size_alloc,World.size_alloc]at this
  exact this
theorem GO{a b:Ac}(h:wi w D c a b d e)(R:(a.wr=false/\b.wr=false)\/(a.wr=false/\b.wr=true/\(((dT d e:Nat):Int)!=0)=true)\/(a.wr=true/\(((dT d e:Nat):Int)!=0)=true)):
  Calls Tryz.prog 68 #[aF c,.agg #[aB a.spot,.bool a.wr,aB a.kind,aB a.num,aH a.things],.agg #[aB b.spot,.bool b.wr,aB b.kind,aB b.num,aH b.things]] w fun r w'=>lP w.heap.size none r w'/\Bw w w':=by
 have r1:=gz
 obtain⟨Z,J,K⟩:=bY h.hD h.kD h.b3
 have T:=h.hai
 have S:=h.hbi
 have L:=h.hA
 have W:=h.hB
 have V:c< D.heap.size:=aD L
 have B:=aA h.b3
 have P:=B.lt
 have Y:Ce D w.heap.size 0 (aB a.spot):=h.b1.cell 0
 have X:Ce D (w.heap.size+1) 0 (aB b.spot):=h.b2.cell 0
 have N:Ce D w.heap.size 1 (.bool a.wr):=h.b1.cell 1
 have M:Ce D (w.heap.size+1) 1 (.bool b.wr):=h.b2.cell 1
 have f:=B.cell
 have g:=B.fz
 rcases R with⟨C,G⟩|⟨C,G,E⟩|⟨C,E⟩
 all_goals
  rw[C]at N
  try rw[G]at M
  clear C h B
  try clear G
  go_in
  go_wp2_with fail
  rw[<-Z.out]
  go_region_held3 (fun w'=>Ce w' w.heap.size 0 (aB a.spot)/\Ce w' (w.heap.size+1) 0 (aB b.spot)/\Ce w' c (2+a.spot) (aH (d:Nat))/\Ce w' c (2+b.spot) (aH (e:Nat))) (first|exact⟨Y,X,L,W⟩|go_keep) (fail)
  all_goals
   go_wp2_with fail
   obtain⟨H,A⟩:=bM ((((((((D.setCell (Ad (w.heap.size+1+1) 0) (aB 0)).setCell (Ad (w.heap.size+1+1) 1) (aB 0)).setCell (Ad (w.heap.size+1+1) 2) (aB 0)).setCell (Ad (w.heap.size+1+1) 3) (aB 0)).setCell (Ad (w.heap.size+1+1) 4) (aB 0)).setCell (Ad (w.heap.size+1+1) 5) (aB 0)).setCell (Ad (w.heap.size+1+1) 6) (.slice none 0 0)).setCell (Ad (w.heap.size+1+1) 7) (.slice none 0 0)).drew
   have F:=yU K rfl (aB 0) (aB 0) (aB 0) (aB 0) (aB 0) (aB 0) (.slice none 0 0) (.slice none 0 0)
   have Q:H.heap[w.heap.size+1+1]?=some (.cells #[aB 0,aB 0,aB 0,aB 0,aB 0,aB 0,.slice none 0 0,.slice none 0 0] 32 (0,0)):=by subst A;rw[xC];exact F.1
   have O:Bw w H:=by subst A;exact(aY J F.2 (by omega)).drew
   rw[<-A]
   clear A F
   refine bodyPost_ret (ie rfl _ _ (w.heap.size+1+1) 32 _ (0,0) _ rfl Q Tryz.underlying32 rfl jR) rfl ⟨mO w.heap.size H _ rfl,O⟩
theorem Bt{n t:Nat}{A:Array Value}(h:W.heap[n+1+1]?=some (.cells A t (0,0)))(M:A.size=8){k:Nat}{v:Value}(L:b< n+1+1)(K:W.cell? (Ad b k)=some v)(J H G F E D C B:Value):((((((((W.setCell ⟨n+1+1,0,none⟩ J).setCell ⟨n+1+1,1,none⟩ H).setCell ⟨n+1+1,2,none⟩ G).setCell ⟨n+1+1,3,none⟩ F).setCell ⟨n+1+1,4,none⟩ E).setCell ⟨n+1+1,5,none⟩ D).setCell ⟨n+1+1,6,none⟩ C).setCell ⟨n+1+1,7,none⟩ B).cell? (Ad b k)=some v:=
 kc (yU h M J H G F E D C B).2 K (fun e=>Nat.lt_irrefl _ (Eq.subst (motive:=fun i=>i< n+1+1) e L))
theorem Bu{a b:Ac}{tn:Int}(h:wi w D c a b d e)(Y:a.wr=true\/(a.wr=false/\b.wr=true)){t s:Bool}{y x:Int}(Z:t=false\/(t=true/\s=false))(a8:(((dT d e:Nat):Int)!=0)=false)
  (G:Hid (Ca 102 #[.agg #[aB a.spot,.bool a.wr,aB a.kind,aB a.num,aH a.things],.agg #[aB b.spot,.bool b.wr,aB b.kind,aB b.num,aH b.things]] D.drew (Rt D.drew (.tuple #[aB tn,.bool t]))))
  (P:Hid (∀W,Bw w W->Ca 103 #[aF c,aB a.spot,aB b.spot] W (Rt W (.tuple #[aB y,aB x,.bool s]))))
  :
  Calls Tryz.prog 68 #[aF c,.agg #[aB a.spot,.bool a.wr,aB a.kind,aB a.num,aH a.things],.agg #[aB b.spot,.bool b.wr,aB b.kind,aB b.num,aH b.things]] w fun r w'=>lP w.heap.size none r w'/\Bw w w':=by
 have r1:=gz
 obtain⟨HD,J,S⟩:=bY h.hD h.kD h.b3
 have aa:=h.hai
 have a9:=h.hbi
 have p:=h.hA
 have hB:=h.hB
 have ab:c< D.heap.size:=aD p
 have A:=aA h.b3
 have X:=A.lt
 have g0:Ce D w.heap.size 0 (aB a.spot):=h.b1.cell 0
 have g1:Ce D (w.heap.size+1) 0 (aB b.spot):=h.b2.cell 0
 have w1:Ce D w.heap.size 1 (.bool a.wr):=h.b1.cell 1
 have z:Ce D (w.heap.size+1) 1 (.bool b.wr):=h.b2.cell 1
 have pz:=A.cell
 have fz:=A.fz
 have v2:Ce D w.heap.size 2 (aB a.kind):=h.b1.cell 2
 have v3:Ce D w.heap.size 3 (aB a.num):=h.b1.cell 3
 have v4:Ce D w.heap.size 4 (aH a.things):=h.b1.cell 4
 have u2:Ce D (w.heap.size+1) 2 (aB b.kind):=h.b2.cell 2
 have u3:Ce D (w.heap.size+1) 3 (aB b.num):=h.b2.cell 3
 have u4:Ce D (w.heap.size+1) 4 (aH b.things):=h.b2.cell 4
 have V:Hid (aM D.drew w.heap.size #[aB a.spot,.bool a.wr,aB a.kind,aB a.num,aH a.things]):=h.b1.below ⟨rfl,rfl,rfl,Nat.le_refl _,fun _ _=>rfl⟩
 have T:Hid (aM D.drew (w.heap.size+1) #[aB b.spot,.bool b.wr,aB b.kind,aB b.num,aH b.things]):=h.b2.below ⟨rfl,rfl,rfl,Nat.le_refl _,fun _ _=>rfl⟩
 rcases Y with g|⟨g,u⟩
 all_goals
  rw[g]at w1 G
  try rw[u]at z G
  clear g h A
  try clear u
  go_in
  go_wp2_with fail
  rw[<-HD.out]
  go_region_held3 (fun w'=>Ce w' w.heap.size 0 (aB a.spot)/\Ce w' (w.heap.size+1) 0 (aB b.spot)/\Ce w' c (2+a.spot) (aH (d:Nat))/\Ce w' c (2+b.spot) (aH (e:Nat))) (first|exact⟨g0,g1,p,hB⟩|go_keep) (fail)
  all_goals
   go_wp2_with fail
   refine G.mono ?_
   rintro q M ⟨rfl,E⟩
   have H:Bw w M:=J.drew.trans (E.mono J.drew.size)
   have k:=V.below E
   have j:=T.below E
   have v:M.heap[w.heap.size+1+1]?=some (.cells #[aB 0,aB 0,aB 0,aB 0,aB 0,aB 0,.slice none 0 0,.slice none 0 0] 32 (0,0)):=(E.block _ (by exact X)).trans S
   have s0:Ce M w.heap.size 0 (aB a.spot):=k.cell 0
   have s1:Ce M (w.heap.size+1) 0 (aB b.spot):=j.cell 0
   obtain⟨R,Q,L,O,K⟩:=ma k j v (P M H) H
   clear k j v H E P V T S J G
   go_wp2_with fail
   refine O.mono ?_
   rintro q B ⟨rfl,C⟩
   have N:Bw w B:=K.trans (C.mono K.size)
   have d1:=R.below C
   have d2:=Q.below C
   have i:B.heap[w.heap.size+1+1]?=some (.cells #[aB 0,aB 0,aB 0,aB 0,aB 0,aB 0,.slice none 0 0,.slice none 0 0] 32 (0,0)):=(C.block _ (by exact(aA L).lt)).trans L
   have A:=aA i
   have o:=A.lt
   have o0:Ce B (w.heap.size+1+1) 0 (aB 0):=A.cell 0
   have a7:B.frozen? (Ad (w.heap.size+1+1) 0)=false:=A.fz 0
   have o1:Ce B (w.heap.size+1+1) 1 (aB 0):=A.cell 1
   have a6:B.frozen? (Ad (w.heap.size+1+1) 1)=false:=A.fz 1
   have o2:Ce B (w.heap.size+1+1) 2 (aB 0):=A.cell 2
   have a5:B.frozen? (Ad (w.heap.size+1+1) 2)=false:=A.fz 2
   have o3:Ce B (w.heap.size+1+1) 3 (aB 0):=A.cell 3
   have a4:B.frozen? (Ad (w.heap.size+1+1) 3)=false:=A.fz 3
   have o4:Ce B (w.heap.size+1+1) 4 (aB 0):=A.cell 4
   have a3:B.frozen? (Ad (w.heap.size+1+1) 4)=false:=A.fz 4
   have o5:Ce B (w.heap.size+1+1) 5 (aB 0):=A.cell 5
   have a2:B.frozen? (Ad (w.heap.size+1+1) 5)=false:=A.fz 5
   have o6:Ce B (w.heap.size+1+1) 6 (.slice none 0 0):=A.cell 6
   have a1:B.frozen? (Ad (w.heap.size+1+1) 6)=false:=A.fz 6
   have o7:Ce B (w.heap.size+1+1) 7 (.slice none 0 0):=A.cell 7
   have a0:B.frozen? (Ad (w.heap.size+1+1) 7)=false:=A.fz 7
   obtain⟨n,m⟩:=aN i N
   clear d1 d2 i N C A R Q L O K
   rcases Z with rfl|⟨rfl,rfl⟩
   all_goals
    go_wp2_with fail
    obtain⟨l,F⟩:=bM ((((((((B.setCell (Ad (w.heap.size+1+1) 0) (aB 0)).setCell (Ad (w.heap.size+1+1) 1) (aB 0)).setCell (Ad (w.heap.size+1+1) 2) (aB 0)).setCell (Ad (w.heap.size+1+1) 3) (aB 0)).setCell (Ad (w.heap.size+1+1) 4) (aB 0)).setCell (Ad (w.heap.size+1+1) 5) (aB 0)).setCell (Ad (w.heap.size+1+1) 6) (.slice none 0 0)).setCell (Ad (w.heap.size+1+1) 7) (.slice none 0 0))
    have f:=yU n rfl (aB 0) (aB 0) (aB 0) (aB 0) (aB 0) (aB 0) (.slice none 0 0) (.slice none 0 0)
    have hh:l.heap[w.heap.size+1+1]?=some (.cells #[aB 0,aB 0,aB 0,aB 0,aB 0,aB 0,.slice none 0 0,.slice none 0 0] 32 (0,0)):=by subst F;exact f.1
    have kk:Bw w l:=by subst F;exact(aY m f.2 (by omega))
    rw[<-F]
    clear F f
    refine bodyPost_ret (ie rfl _ _ (w.heap.size+1+1) 32 _ (0,0) _ rfl hh Tryz.underlying32 rfl jR) rfl ⟨mO w.heap.size l _ rfl,kk⟩
theorem JL{a b:Ac}{P:Int}(h:wi w D c a b d e)(a5:a.wr=true\/(a.wr=false/\b.wr=true))(ao:(((dT d e:Nat):Int)!=0)=false)
  (N:Hid (Ca 102 #[.agg #[aB a.spot,.bool a.wr,aB a.kind,aB a.num,aH a.things],.agg #[aB b.spot,.bool b.wr,aB b.kind,aB b.num,aH b.things]] D.drew (Rt D.drew (.tuple #[aB P,.bool true]))))
  (p:Hid (∀W,Bw w W->Ca 103 #[aF c,aB a.spot,aB b.spot] W (Rt W (.tuple #[aB f,aB g,.bool true]))))
  (y:Hid (∀s W,s< ec->Bw w W->Ca 104 #[aH s] W fun r w'=>∃v,r=.returned v/\w'.ownsRow W.heap.size 3 1 v (et s).length (dG (et s))/\Bw W w')) (a7:d< ec) (a6:e< ec):
  Calls Tryz.prog 68 #[aF c,.agg #[aB a.spot,.bool a.wr,aB a.kind,aB a.num,aH a.things],.agg #[aB b.spot,.bool b.wr,aB b.kind,aB b.num,aH b.things]] w fun r w'=>lP w.heap.size (some {a:=a.spot,b:=b.spot,new:=P,field:=a.num,ra:=f,rb:=g,la:=et d,lb:=et e}) r w'/\Bw w w':=by
 have r1:=gz
 obtain⟨HD,V,a1⟩:=bY h.hD h.kD h.b3
 have ar:=h.hai
 have aq:=h.hbi
 have hA:=h.hA
 have hB:=h.hB
 have au:c< D.heap.size:=aD hA
 have C:=aA h.b3
 have a4:=C.lt
 have g0:D.cell? (Ad w.heap.size 0)=some (aB a.spot):=h.b1.cell 0
 have g1:D.cell? (Ad (w.heap.size+1) 0)=some (aB b.spot):=h.b2.cell 0
 have w1:D.cell? (Ad w.heap.size 1)=some (.bool a.wr):=h.b1.cell 1
 have w2:D.cell? (Ad (w.heap.size+1) 1)=some (.bool b.wr):=h.b2.cell 1
 have pz:=C.cell
 have fz:=C.fz
 have v2:D.cell? (Ad w.heap.size 2)=some (aB a.kind):=h.b1.cell 2
 have v3:D.cell? (Ad w.heap.size 3)=some (aB a.num):=h.b1.cell 3
 have v4:D.cell? (Ad w.heap.size 4)=some (aH a.things):=h.b1.cell 4
 have u2:D.cell? (Ad (w.heap.size+1) 2)=some (aB b.kind):=h.b2.cell 2
 have u3:D.cell? (Ad (w.heap.size+1) 3)=some (aB b.num):=h.b2.cell 3
 have u4:D.cell? (Ad (w.heap.size+1) 4)=some (aH b.things):=h.b2.cell 4
 have a3:Hid (aM D.drew w.heap.size #[aB a.spot,.bool a.wr,aB a.kind,aB a.num,aH a.things]):=h.b1.below ⟨rfl,rfl,rfl,Nat.le_refl _,fun _ _=>rfl⟩
 have a2:Hid (aM D.drew (w.heap.size+1) #[aB b.spot,.bool b.wr,aB b.kind,aB b.num,aH b.things]):=h.b2.below ⟨rfl,rfl,rfl,Nat.le_refl _,fun _ _=>rfl⟩
 rcases a5 with ea|⟨ea,eb⟩
 all_goals
  rw[ea]at w1 N
  try rw[eb]at w2 N
  clear ea h C
  try clear eb
  go_in
  go_wp2_with fail
  rw[<-HD.out]
  go_region_held3 (fun w'=>w'.cell? (Ad w.heap.size 0)=some (aB a.spot)/\w'.cell? (Ad (w.heap.size+1) 0)=some (aB b.spot)/\w'.cell? (Ad c (2+a.spot))=some (aH (d:Nat))/\w'.cell? (Ad c (2+b.spot))=some (aH (e:Nat))) (first|exact⟨g0,g1,hA,hB⟩|go_keep) (fail)
  all_goals
   go_wp2_with fail
   refine N.mono ?_
   rintro q k ⟨rfl,K⟩
   have Q:Bw w k:=V.drew.trans (K.mono V.drew.size)
   have c1:=a3.below K
   have c2:=a2.below K
   have c3:k.heap[w.heap.size+1+1]?=some (.cells #[aB 0,aB 0,aB 0,aB 0,aB 0,aB 0,.slice none 0 0,.slice none 0 0] 32 (0,0)):=(K.block _ (by exact a4)).trans a1
   have s0:k.cell? (Ad w.heap.size 0)=some (aB a.spot):=c1.cell 0
   have s1:k.cell? (Ad (w.heap.size+1) 0)=some (aB b.spot):=c2.cell 0
   obtain⟨a0,z,i,o,Y⟩:=ma c1 c2 c3 (p k Q) Q
   clear c1 c2 c3 Q K p a3 a2 a1 V N
   go_wp2_with fail
   refine o.mono ?_
   rintro q j ⟨rfl,J⟩
   have m:Bw w j:=Y.trans (J.mono Y.size)
   have d1:=a0.below J
   have d2:=z.below J
   have d3:j.heap[w.heap.size+1+1]?=some (.cells #[aB 0,aB 0,aB 0,aB 0,aB 0,aB 0,.slice none 0 0,.slice none 0 0] 32 (0,0)):=(J.block _ (by exact(aA i).lt)).trans i
   have q0:j.cell? (Ad w.heap.size 0)=some (aB a.spot):=d1.cell 0
   have q1:j.cell? (Ad (w.heap.size+1) 0)=some (aB b.spot):=d2.cell 0
   have q3:j.cell? (Ad w.heap.size 3)=some (aB a.num):=d1.cell 3
   obtain⟨ae,ad,Z,X⟩:=fK d1 d2 d3 m
   clear d1 d2 d3 m J a0 z i o Y
   go_wp2_with fail
   go_region_held3 (fun w'=>w'.cell? (Ad w.heap.size 0)=some (aB a.spot)/\w'.cell? (Ad (w.heap.size+1) 0)=some (aB b.spot)/\w'.cell? (Ad w.heap.size 3)=some (aB a.num)) (first|with_reducible exact⟨m0,m1,m3⟩|with_reducible exact⟨q0,q1,q3⟩|with_reducible exact⟨k0,k1,k3⟩|with_reducible exact⟨j0,j1,j3⟩|go_keep) (first|(go_at_call 104;refine(y e M a6 O).mono ?_;rintro q B ⟨lb,rfl,R,A⟩;obtain⟨E,G,rfl⟩:=aI R;have u:Hid (B.ownsRow (w.heap.size+1+1+1) 3 1 (.slice E (et e).length G) (et e).length (dG (et e))):=aG (dP R (w.heap.size+1+1+1) (aA T).lt);have t:=aG (aP x A);have ac:Hid (Bw w B):=aG (O.trans (A.mono O.size));have x1:=a9.below A;have x2:=a8.below A;have j0:B.cell? (Ad w.heap.size 0)=some (aB a.spot):=x1.cell 0;have j1:B.cell? (Ad (w.heap.size+1) 0)=some (aB b.spot):=x2.cell 0;have j3:B.cell? (Ad w.heap.size 3)=some (aB a.num):=x1.cell 3;have L:Hid (B.heap[w.heap.size+1+1]?=some (.cells #[aB 0,aB 0,aB 0,aB 0,aB 0,aB 0,.slice none 0 0,.slice none 0 0] 32 (0,0))):=aG ((A.block _ (by exact(aA T).lt)).trans T);have C:=aA L;have af:=C.lt;have o0:B.cell? (Ad (w.heap.size+1+1) 0)=some (aB 0):=C.cell 0;have an:B.frozen? (Ad (w.heap.size+1+1) 0)=false:=C.fz 0;have o1:B.cell? (Ad (w.heap.size+1+1) 1)=some (aB 0):=C.cell 1;have am:B.frozen? (Ad (w.heap.size+1+1) 1)=false:=C.fz 1;have o2:B.cell? (Ad (w.heap.size+1+1) 2)=some (aB 0):=C.cell 2;have al:B.frozen? (Ad (w.heap.size+1+1) 2)=false:=C.fz 2;have o3:B.cell? (Ad (w.heap.size+1+1) 3)=some (aB 0):=C.cell 3;have ak:B.frozen? (Ad (w.heap.size+1+1) 3)=false:=C.fz 3;have o4:B.cell? (Ad (w.heap.size+1+1) 4)=some (aB 0):=C.cell 4;have aj:B.frozen? (Ad (w.heap.size+1+1) 4)=false:=C.fz 4;have o5:B.cell? (Ad (w.heap.size+1+1) 5)=some (aB 0):=C.cell 5;have ai:B.frozen? (Ad (w.heap.size+1+1) 5)=false:=C.fz 5;have o6:B.cell? (Ad (w.heap.size+1+1) 6)=some (.slice none 0 0):=C.cell 6;have ah:B.frozen? (Ad (w.heap.size+1+1) 6)=false:=C.fz 6;have o7:B.cell? (Ad (w.heap.size+1+1) 7)=some (.slice none 0 0):=C.cell 7;have ag:B.frozen? (Ad (w.heap.size+1+1) 7)=false:=C.fz 7;have m0:=Bt L rfl (Nat.lt_of_lt_of_le (Nat.lt_succ_self _) (Nat.le_succ _)) j0 (aB a.spot) (aB b.spot) (aB P) (aB a.num) (aB f) (aB g) (.slice F (et d).length H) (.slice E (et e).length G);have m1:=Bt L rfl (Nat.lt_succ_self _) j1 (aB a.spot) (aB b.spot) (aB P) (aB a.num) (aB f) (aB g) (.slice F (et d).length H) (.slice E (et e).length G);have m3:=Bt L rfl (Nat.lt_of_lt_of_le (Nat.lt_succ_self _) (Nat.le_succ _)) j3 (aB a.spot) (aB b.spot) (aB P) (aB a.num) (aB f) (aB g) (.slice F (et d).length H) (.slice E (et e).length G);clear A R x1 x2 C q0 q1 q3 k0 k1 k3)|(go_at_call 104;(fail_if_success (have ap:=O));refine(y d j.drew a7 X.drew).mono ?_;rintro q M ⟨la,rfl,R,A⟩;obtain⟨F,H,rfl⟩:=aI R;have l:Bw w M:=X.trans (Below.mono ⟨A.os,A.tape,A.output,A.size,A.block⟩ X.size);have y1:=ae.below (w':=M) ⟨A.os,A.tape,A.output,A.size,A.block⟩;have y2:=ad.below (w':=M) ⟨A.os,A.tape,A.output,A.size,A.block⟩;have a9:=aG y1;have a8:=aG y2;have T:Hid (M.heap[w.heap.size+1+1]?=some (.cells #[aB 0,aB 0,aB 0,aB 0,aB 0,aB 0,.slice none 0 0,.slice none 0 0] 32 (0,0))):=aG ((A.block _ (by exact(aA Z).lt)).trans Z);have k0:M.cell? (Ad w.heap.size 0)=some (aB a.spot):=y1.cell 0;have k1:M.cell? (Ad (w.heap.size+1) 0)=some (aB b.spot):=y2.cell 0;have k3:M.cell? (Ad w.heap.size 3)=some (aB a.num):=y1.cell 3;have x:Hid (M.ownsRow (w.heap.size+1+1+1) 3 1 (.slice F (et d).length H) (et d).length (dG (et d))):=aG (dP R (w.heap.size+1+1+1) (aA Z).lt);have O:=aG l;clear A R l y1 y2))
   all_goals
    obtain⟨W8,S⟩:=bM ((((((((B.setCell (Ad (w.heap.size+1+1) 0) (aB a.spot)).setCell (Ad (w.heap.size+1+1) 1) (aB b.spot)).setCell (Ad (w.heap.size+1+1) 2) (aB P)).setCell (Ad (w.heap.size+1+1) 3) (aB a.num)).setCell (Ad (w.heap.size+1+1) 4) (aB f)).setCell (Ad (w.heap.size+1+1) 5) (aB g)).setCell (Ad (w.heap.size+1+1) 6) (.slice F (et d).length H)).setCell (Ad (w.heap.size+1+1) 7) (.slice E (et e).length G))
    have n:=yU L rfl (aB a.spot) (aB b.spot) (aB P) (aB a.num) (aB f) (aB g) (.slice F (et d).length H) (.slice E (et e).length G)
    rw[<-S]at n
    rw[<-S]
    clear S m0 m1 m3 j0 j1 j3
    have kk:Bw w W8:=aY ac n.2 (by omega)
    obtain⟨ab,aa⟩:=aN (dP (uT t n.2 (Nat.lt_succ_self _)) w.heap.size (by omega)) (dP (uT u n.2 (Nat.lt_succ_self _)) w.heap.size (by omega))
    go_wp2_with fail
    refine bodyPost_ret (ie rfl _ _ (w.heap.size+1+1) 32 _ (0,0) _ rfl n.1 Tryz.underlying32 rfl jR) rfl ⟨⟨_,_,rfl,ab,aa⟩,kk⟩
theorem yw(A:Wd 53 l){k:Nat}(C:k< 53):l.getD k 0< ec:=by
 have B:k< l.length:=by have:=A.len;omega
 have e:l.getD k 0=l[k]:=by simp[List.getD_eq_getElem?_getD,List.getElem?_eq_getElem B]
 rw[e]
 exact A.lt _ (List.getElem_mem _)
theorem Bs(h:u≠0):(((u:Nat):Int)!=0)=true:=by rw[bne_iff_ne];omega
theorem GK(h:u=0):(((u:Nat):Int)!=0)=false:=by subst h;rfl
theorem GJ{p q:Bool}(A:((!p&&!q)||u !=0)=true):(p=false/\q=false)\/(p=false/\q=true/\u≠0)\/(p=true/\u≠0):=by
 cases p<;>cases q<;>simp_all
theorem GI{p q:Bool}(A:¬((!p&&!q)||u !=0)=true):u=0/\(p=true\/(p=false/\q=true)):=by
 cases p<;>cases q<;>simp_all
def qG(a b:Ac)(HA HB:Nat)(tf:Int×Bool)(o:Option (Nat×Nat)):Option wC:=
 if((!a.wr&&!b.wr)||dT HA HB !=0)=true then none
 else if tf.2=false then none
 else match o with
  |none=>none
  |some z=>some {a:=a.spot,b:=b.spot,new:=tf.1,field:=a.num,ra:=z.1,rb:=z.2,la:=et HA,lb:=et HB}
theorem DY{a b:Ac}{A:Int×Bool}{o:Option (Nat×Nat)}(B:((!a.wr&&!b.wr)||dT c d !=0)=true):qG a b c d A o=none:=if_pos B
theorem GN{a b:Ac}{A:Int}{o:Option (Nat×Nat)}(B:¬((!a.wr&&!b.wr)||dT c d !=0)=true):qG a b c d (A,false) o=none:=by
 unfold qG;rw[if_neg B,if_pos rfl]
theorem GM{a b:Ac}{A:Int}(B:¬((!a.wr&&!b.wr)||dT c d !=0)=true):qG a b c d (A,true) none=none:=by
 unfold qG;rw[if_neg B,if_neg (by simp)]
theorem GL{a b:Ac}{A:Int}{z:Nat×Nat}(B:¬((!a.wr&&!b.wr)||dT c d !=0)=true):qG a b c d (A,true) (some z)=some {a:=a.spot,b:=b.spot,new:=A,field:=a.num,ra:=z.1,rb:=z.2,la:=et c,lb:=et d}:=by
 unfold qG;rw[if_neg B,if_neg (by simp)]
theorem DZ(x:Rp)(held A:List Nat)(a b:Ac):x.repOf held A a b=qG a b (held.getD a.spot 0) (held.getD b.spot 0) (mq a b) (x.rootsOf A a.spot b.spot):=by
 unfold Rp.repOf qG
 cases x.rootsOf A a.spot b.spot<;>rfl
theorem wW(x:Rp)(A:List Nat)(a b:Nat):x.rootsOf A a b=jb (fun C B=>x.atATimeOf A C a B b) (et (x.runByOf (x.st a).fn)) (et (x.runByOf (x.st b).fn)):=by unfold Rp.rootsOf;rfl
def Bq:Option (Nat×Nat)->Value
 |some z=>.tuple #[.int .i64 z.1,.int .i64 z.2,.bool true]
 |none=>.tuple #[.int .i64 0,.int .i64 0,.bool false]
theorem Lu{a b:Ac}{O:Int}{J:Bool}{o:Option (Nat×Nat)}(h:wi w D c a b d e)
  (C:Hid (Ca 102 #[.agg #[aB a.spot,.bool a.wr,aB a.kind,aB a.num,aH a.things],.agg #[aB b.spot,.bool b.wr,aB b.kind,aB b.num,aH b.things]] D.drew (Rt D.drew (.tuple #[aB O,.bool J]))))
  (E:Hid (∀W,Bw w W->Ca 103 #[aF c,aB a.spot,aB b.spot] W (Rt W (Bq o))))
  (N:Hid (∀s W,s< ec->Bw w W->Ca 104 #[aH s] W fun r w'=>∃v,r=.returned v/\w'.ownsRow W.heap.size 3 1 v (et s).length (dG (et s))/\Bw W w')) (L:d< ec) (K:e< ec):
  Ca 68 #[aF c,.agg #[aB a.spot,.bool a.wr,aB a.kind,aB a.num,aH a.things],.agg #[aB b.spot,.bool b.wr,aB b.kind,aB b.num,aH b.things]] w fun r w'=>lP w.heap.size (qG a b d e (O,J) o) r w'/\Bw w w':=by
 by_cases F:((!a.wr&&!b.wr)||dT d e !=0)=true
 ·rw[DY F]
  rcases GJ F with⟨H,M⟩|⟨H,M,G⟩|⟨H,G⟩
  ·exact GO h (.inl ⟨H,M⟩)
  ·exact GO h (.inr (.inl ⟨H,M,Bs G⟩))
  ·exact GO h (.inr (.inr ⟨H,Bs G⟩))
 ·obtain⟨G,A⟩:=GI F
  have B:=GK G
  cases J with
  |false=>
   rw[GN F]
   cases o with
   |none=>exact Bu h A (.inl rfl) B C E
   |some z=>exact Bu h A (.inl rfl) B C E
  |true=>
   cases o with
   |none=>
    rw[GM F]
    exact Bu h A (.inr ⟨rfl,rfl⟩) B C E
   |some z=>
    rw[GL F]
    exact JL h A B C E N L K
theorem LS{held:List Nat}(h:cA w d x)(D:iA w c d held l)(ok:ft x)(L:mE x)(hg:0< w.heap.size)(K:Tz w)(J:a< x.stmts.length)(G:b< x.stmts.length)(F:x.starts.length< 60)(E:x.runs.length=x.starts.length+1)(A:x.stmts.length<=53):
  Ca 103 #[aF c,aB a,aB b] w (Rt w (Bq (x.rootsOf l a b))):=by
 have H:=Hg h D ok L hg K J G F E A
 rw[wW]
 generalize jb (fun C B=>x.atATimeOf l C a B b) (et (x.runByOf (x.st a).fn)) (et (x.runByOf (x.st b).fn))=o at H⊢
 cases o<;>exact H
theorem Es{held:List Nat}{a b:Ac}(h:cA w d x)(K:iA w c d held l)(ok:ft x)(Q:mE x)(hg:0< w.heap.size)(H:Tz w)(G:a.spot< x.stmts.length)(F:b.spot< x.stmts.length)(P:x.starts.length< 60)(O:x.runs.length=x.starts.length+1)(A:x.stmts.length<=53)(J:Wd 53 held):
  Ca 68 #[aF c,.agg #[aB a.spot,.bool a.wr,aB a.kind,aB a.num,aH a.things],.agg #[aB b.spot,.bool b.wr,aB b.kind,aB b.num,aH b.things]] w fun r w'=>lP w.heap.size (x.repOf held l a b) r w'/\Bw w w':=by
 obtain⟨D,L⟩:=JM (a:=a) (b:=b) K (Nat.lt_of_lt_of_le G A) (Nat.lt_of_lt_of_le F A)
 rw[DZ]
 have C:=GQ (w:=D.drew) a b (H.below L.kD.drew)
 have E:=fun(W:World) (B:Bw w W)=>LS (h.keep B) (K.keep B) ok Q (Nat.lt_of_lt_of_le hg B.size) (H.below B) G F P O A
 generalize x.rootsOf l a.spot b.spot=o at E⊢
 generalize mq a b=M at C⊢
 obtain⟨S,R⟩:=M
 exact Lu L C E (fun s W N B=>BC s N (Nat.lt_of_lt_of_le hg B.size) (H.below B)) (yw J (Nat.lt_of_lt_of_le G A)) (yw J (Nat.lt_of_lt_of_le F A))
end Go.Proofs.YtajfbbldaiaolaaGreatDoor
