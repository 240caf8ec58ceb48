import Derived.Test.YtajfbbldaiaolaaGreatDoorQ08
set_option linter.unusedSimpArgs false
set_option linter.unusedVariables false
set_option maxRecDepth 100000
set_option maxHeartbeats 8000000
namespace Go.Proofs.YtajfbbldaiaolaaGreatDoor
open Go.RowKit Go.Maps Go.Shelf
variable {B a b c d n:Nat}{v:Value}{w:World}
section
theorem wU{u:List Fm}(h:u≠[])(f:Fm):cJ (aZ u f)=f:=by
 have A:=List.length_pos_iff.2 h
 have:=kF (l:=aZ u f) (by intro e;have:=congrArg List.length e;simp[aZ]at this;exact h this)
 rw[ey,aZ,List.getElem?_set_self (by omega)]at this
 exact(Option.some.inj this).symm
theorem wV(u:List Fm)(f A:Fm):aZ (aZ u f) A=aZ u A:=by simp[aZ]
section
variable {w:World} {B bu bm bt bF bs gs N cs j:Nat} {q:Value} {x1 x2 x3:Int} {e:Tu} {fv:Value} {t:List Fm} {v:Vl} {s:Fs}
theorem GC(hu:w.heap[bu]?=some (.cells (lQ bm bt q x1 x2 x3 e) 267 (0,0)))(M:cN w B bt fv t)(ht:2<=t.length)(hB:B<=bt)(c0:w.cell? (Ad bm 0)=some (aF bF))(ah:bm≠bt)(b2:¬aT fv bm)(hF:bF< B)(c3:w.cell? (Ad bF 3)=some (.slice (some (Ad gs 0)) N cs))(aw:gs< B)(hj:j< N)(o:(cJ t.dropLast).pl=(j:Int))(s0:w.cell? (Ad gs (j*4))=some (aF bs))(s1:w.cell? (Ad gs (j*4+1))=some (aB s.fn))(s2:w.cell? (Ad gs (j*4+2))=some (aB s.nx))(s3:w.cell? (Ad gs (j*4+3))=some (aB s.ins))(hs:AG w B bs s.p s.r)(hl:s.p.ln< 6):
  Calls Tryz.prog 113 #[aF bu,vI v] w fun r w'=>r=.returned (.tuple #[])/\∃a7,cN w' B bt a7 (aZ t.dropLast {oY (cJ t.dropLast) s.p v with pl:=s.nx})/\w'.heap[bu]?=some (.cells (lQ bm bt q x1 x2 x3 e) 267 (0,0))/\aC (fun i=>aT fv i\/i=bt) w w'/\∀i,aT a7 i->aT fv i:=by
 have ac:t≠[]:=by intro e;subst e;cases ht
 obtain⟨g,k,c,hk,rfl,au,ax,a2,ag⟩:=M.open ac
 obtain⟨k,rfl⟩:∃m,k=m+1:=⟨k-1,by omega⟩
 have K:=M.row
 rw[hk]at K
 have az:=sY K
 have L:=aA hu
 have b1:w.cell? (Ad bu 1)=some (aF bt):=L.cell 1
 have t0:w.cell? (Ad bt 0)=some (.slice (some (Ad g 0)) (k+1+1) c):=M.cell
 have z0:w.frozen? (Ad bt 0)=false:=(aA M.hd).fz 0
 have aq:IntKind.i64.wrap ((k:Int)+1)=((k+1:Nat):Int):=by have:=yt (n:=k+1) (by omega);simpa using this
 have y1:(0:Int)<=((k+1:Nat):Int):=by omega
 have y2:((k+1:Nat):Int)<=c:=by omega
 have x:¬bu=bt:=fun e=>by
  have:=M.hd
  rw[<-e,hu]at this
  simp at this
 have y:¬aT (.slice (some (Ad g 0)) (k+1+1) c) bu:=dE M.row hu (by decide)
 have ay:B<=g:=my M.row (show aT _ g from rfl)
 have hP:=M.pop hk
 obtain⟨u,l⟩:=bM t.dropLast
 rw[<-l]at hP o⊢
 have d:u.length=k+1:=by rw[l,List.length_dropLast];omega
 have b:u≠[]:=by intro e;rw[e]at d;cases d
 clear l
 obtain⟨W,hW⟩:=bM (w.setCell (Ad bt 0) (.slice (some (Ad g 0)) (k+1) c))
 have F:aC (aK bt) w W:=by rw[hW];exact(aC.refl _ _).set1 _ _
 rw[<-hW]at hP
 have hE:=mw (w:=W.drew) (bt:=bt) (n:=k+1) (c:=c) (pf:=some (Ad g 0)) hP.cell
 have a5:=sw (w:=W.drew) (bt:=bt) (g:=g) (n:=k) (c:=c) hP.cell (by omega)
 have hE:Ca 106 #[aF bt] W.drew fun r w'=>r=.returned (.bool false)/\w'=W.drew:=hE.mono (fun r w' hh=>⟨by rw[hh.1];simp,hh.2⟩)
 have ad:=M.hd
 have d0:W.cell? (Ad bu 0)=some (aF bm):=(F.cell (p:=Ad bu 0) L.lt (fun e=>x e)).trans (L.cell 0)
 have d1:W.cell? (Ad bu 1)=some (aF bt):=(F.cell (p:=Ad bu 1) L.lt (fun e=>x e)).trans b1
 have dm:W.cell? (Ad bm 0)=some (aF bF):=(F.cell (p:=Ad bm 0) (aD c0) (fun e=>ah e)).trans c0
 have d3:W.cell? (Ad bF 3)=some (.slice (some (Ad gs 0)) N cs):=(F.cell (p:=Ad bF 3) (aD c3) (fun e=>by have e:bF=bt:=e;omega)).trans c3
 have ng:∀i,¬aK bt ((Ad gs i):Addr).block:=fun i e=>by have e:gs=bt:=e;omega
 have e0:W.cell? (Ad gs (j*4))=some (aF bs):=(F.cell (p:=Ad gs (j*4)) (aD s0) (ng _)).trans s0
 have e1:W.cell? (Ad gs (j*4+1))=some (aB s.fn):=(F.cell (p:=Ad gs (j*4+1)) (aD s1) (ng _)).trans s1
 have e2:W.cell? (Ad gs (j*4+2))=some (aB s.nx):=(F.cell (p:=Ad gs (j*4+2)) (aD s2) (ng _)).trans s2
 have e3:W.cell? (Ad gs (j*4+3))=some (aB s.ins):=(F.cell (p:=Ad gs (j*4+3)) (aD s3) (ng _)).trans s3
 obtain⟨g',k',c',av,a3,am,ao,H,Z⟩:=hP.open b
 cases a3
 have r0:W.cell? (Ad g (k*7))=some (aB j):=by rw[<-o];exact H 0 (by omega)
 have rz:W.frozen? (Ad g (k*7))=false:=Z _
 have z1:(0:Int)<=j:=by omega
 have z2:(j:Int)< N:=by omega
 have ak:Hid (∀V,Bw W V->V.cell? (Ad bu 0)=some (aF bm)/\V.cell? (Ad bu 1)=some (aF bt)/\V.cell? (Ad bm 0)=some (aF bF)/\V.cell? (Ad bF 3)=some (.slice (some (Ad gs 0)) N cs)/\V.cell? (Ad gs (j*4))=some (aF bs)/\V.cell? (Ad gs (j*4+1))=some (aB s.fn)/\V.cell? (Ad gs (j*4+2))=some (aB s.nx)/\V.cell? (Ad gs (j*4+3))=some (aB s.ins)/\V.cell? (Ad g (k*7))=some (aB j)):=fun V E=>⟨(E.cell (p:=Ad bu 0) (aD d0)).trans d0,(E.cell (p:=Ad bu 1) (aD d1)).trans d1,(E.cell (p:=Ad bm 0) (aD dm)).trans dm,(E.cell (p:=Ad bF 3) (aD d3)).trans d3,(E.cell (p:=Ad gs (j*4)) (aD e0)).trans e0,(E.cell (p:=Ad gs (j*4+1)) (aD e1)).trans e1,(E.cell (p:=Ad gs (j*4+2)) (aD e2)).trans e2,(E.cell (p:=Ad gs (j*4+3)) (aD e3)).trans e3,(E.cell (p:=Ad g (k*7)) (aD r0)).trans r0⟩
 obtain⟨a8,HE,aj,HW,HP,al,HS⟩:=In hu hE a5 hW hP F (hs.kept F (fun i hi=>by have hi:i=bt:=hi;omega))
 unfold vI
 clear hu M a2 ag K F hW hE a5 hP L c0 c3 s0 s1 s2 s3 hs H Z ad o d0 dm d3 e0 e1 e2 e3 r0 ng rz
 go_in
 go_wp2_with fail
 go_region
 all_goals
  rw[<-HW.out]
  go_wp2_with fail
  refine HE.mono ?_
  rintro r w2 ⟨rfl,hq⟩
  subst w2
  go_wp2_with fail
  refine aj.mono ?_
  rintro r V ⟨rfl,m,hq⟩
  have a0:Bw W V:=by rw[hq];exact aR (Below.refl _ W).drew m
  obtain⟨f0,f1,fm,f3,g0,g1,g2,g3,r0⟩:=ak V a0
  have l0:bu< V.heap.size:=aD f0
  have lm:bm< V.heap.size:=aD fm
  have lF:bF< V.heap.size:=aD f3
  have ls:gs< V.heap.size:=aD g0
  have lg:g< V.heap.size:=aD r0
  have ab:=aG a0
  clear hq a0
  go_wp2_with fail
  go_region
  all_goals
   obtain⟨Y,hY⟩:=bM (V.alloc (.cells #[aF bs,aB s.fn,aB s.nx,aB s.ins] 253)).drew
   have a4:(V.alloc (.cells #[Pt bs 0,aB s.fn,aB s.nx,aB s.ins] 253)).drew=Y:=hY.symm
   rw[a4]
   have a:Bw V Y:=by rw[hY];exact((Below.refl _ V).alloc (Nat.le_refl _) _).drew
   have O:Bw W Y:=ab.trans (a.mono ab.size)
   have a6:=HP.below O
   have a1:=HS.kept (aC.of_below (S:=fun _=>False) O) (fun _ h=>h.elim)
   have hN:Y.heap[V.heap.size]?=some (.cells #[aF bs,aB s.fn,aB s.nx,aB s.ins] 253 (0,0)):=by rw[hY];exact heap_alloc_new V _
   obtain⟨sr,sb,Q,-,-⟩:=a1.ex
   have m1:Y.cell? (Ad bu 1)=some (aF bt):=(a.cell (p:=Ad bu 1) l0).trans f1
   have n0:Y.cell? (Ad V.heap.size 0)=some (aF bs):=(aA hN).cell 0
   have n2:Y.cell? (Ad V.heap.size 2)=some (aB s.nx):=(aA hN).cell 2
   have p3:Y.cell? (Ad bs 3)=some (.string ⟨s.p.lt.toArray⟩):=Q.cell 3
   have p4:Y.cell? (Ad bs 4)=some (aB s.p.la):=Q.cell 4
   have p5:Y.cell? (Ad bs 5)=some (aB s.p.ln):=Q.cell 5
   have HA:=aG (GF (v:=v) (p:=s.p) (a6.below (Below.refl _ Y).drew) b hl)
   have b0:=a1.lt
   have a9:Hid (∀X,aC (aT (.slice (some (Ad g 0)) (k+1) c)) Y X->X.cell? (Ad bu 1)=some (aF bt)/\X.cell? (Ad V.heap.size 0)=some (aF bs)/\X.cell? (Ad bs 3)=some (.string ⟨s.p.lt.toArray⟩)/\X.cell? (Ad bs 4)=some (aB s.p.la)/\X.cell? (Ad bs 5)=some (aB s.p.ln)/\X.cell? (Ad V.heap.size 2)=some (aB s.nx)):=fun X kX=>by
    have o1:∀i,i≠g->¬aT (.slice (some (Ad g 0)) (k+1) c) i:=fun i hi h=>hi (Option.some.inj (show some g=some i from h)).symm
    have q1:bu≠g:=fun e=>y (by rw[e];rfl)
    have q2:V.heap.size≠g:=by omega
    have q3:bs≠g:=by omega
    exact⟨(kX.cell (p:=Ad bu 1) (aD m1) (o1 _ q1)).trans m1,(kX.cell (p:=Ad V.heap.size 0) (aD n0) (o1 _ q2)).trans n0,(kX.cell (p:=Ad bs 3) (aD p3) (o1 _ q3)).trans p3,(kX.cell (p:=Ad bs 4) (aD p4) (o1 _ q3)).trans p4,(kX.cell (p:=Ad bs 5) (aD p5) (o1 _ q3)).trans p5,(kX.cell (p:=Ad V.heap.size 2) (aD n2) (o1 _ q2)).trans n2⟩
   have ai:=aG O
   clear hY a4 a O a6 a1 hN Q f0 f1 fm f3 g0 g1 g2 g3 r0
   go_wp2_with fail
   go_region_held3 (fun X=>X.cell? (Ad bu 1)=some (aF bt)/\X.cell? (Ad V.heap.size 0)=some (aF bs)/\X.cell? (Ad bs 3)=some (.string ⟨s.p.lt.toArray⟩)/\X.cell? (Ad bs 4)=some (aB s.p.la)/\X.cell? (Ad bs 5)=some (aB s.p.ln)) (first|with_reducible exact⟨j1,j2,j3,j4,j5⟩|with_reducible exact⟨m1,n0,p3,p4,p5⟩|go_keep) (first|(go_at_call 171;refine HA.mono ?_;rintro r X ⟨rfl,A,D⟩;have HX:Hid (cN X B bt (.slice (some (Ad g 0)) (k+1) c) (aZ u (oY (cJ u) s.p v))/\aC (aT (.slice (some (Ad g 0)) (k+1) c)) Y X):=aG ⟨A,⟨D.os,D.tape,D.output,D.size,D.block⟩⟩;obtain⟨j1,j2,j3,j4,j5,j6⟩:=a9 X HX.2;clear A D))
   all_goals
    obtain⟨u2,P⟩:=bM (aZ u (oY (cJ u) s.p v))
    have A:=HX.1
    rw[<-P]at A
    have G:u2.length=k+1:=by rw[P,ey,d]
    have R:u2≠[]:=by intro e;rw[e]at G;cases G
    obtain⟨b3,ap,b4,an,z,ae,af,C,J⟩:=A.open R
    cases z
    have i0:X.cell? (Ad g (k*7))=some (aB (cJ u2).pl):=C 0 (by omega)
    have iz:X.frozen? (Ad g (k*7))=false:=J _
    have T:=A.put (j:=0) (m:=0) (f:={cJ u2 with pl:=s.nx}) (u:=aB s.nx) G (by omega) (show(cJ u2).lo.length=6 from A.ok _ (lD R)) rfl (Below.refl _ _) rfl
    have ar:¬aT (.slice (some (Ad g 0)) (k+1) c) bu:=fun h=>y h
    have aa:Hid (cN (X.setCell (Ad g (k*7)) (aB s.nx)) B bt (.slice (some (Ad g 0)) (k+1) c) (aZ u {oY (cJ u) s.p v with pl:=s.nx})/\aC (aT (.slice (some (Ad g 0)) (k+1) c)) Y (X.setCell (Ad g (k*7)) (aB s.nx))):=by
     obtain⟨q1,q2⟩:=T
     rw[P,wV,wU b]at q1
     exact⟨q1,HX.2.trans q2⟩
    clear A T C J P
    go_wp2_with fail
    go_end0
    have E:aC (fun i=>aT (.slice (some (Ad g 0)) (k+1+1) c) i\/i=bt) w (X.setCell (Ad g (k*7)) (aB s.nx)):=((al.mono (fun i h=>.inr h)).trans (aC.of_below ai)).trans (aa.2.mono (fun i h=>.inl h))
    exact⟨rfl,.slice (some (Ad g 0)) (k+1) c,aa.1,(E.block bu (aA a8).lt (fun h=>by rcases h with h|h;exact y h;exact x h)).trans a8,E,fun i hi=>hi⟩
end
end
section
theorem nz:(Tryz.prog.info? 194).map (fun i=>(i.zero,i.size,i.bytes))=some (some (.pointer none),1,8):=by kernel_rfl
def du(l:List Nat):List Value:=l.map aF
theorem Mn{P:Program}{D:Region.Mode}{B:Array Oper}{Q:Exit->Act->World->Prop}{S:World->Prop}(i:Nat){C:Oper}{fuel:Nat}{A:Array Bool}{a:Act}(H:B[i]?=some C)(E:(Region.noSelect B&&Region.free D B A i&&(Region.ready D B A).contains i)=true)(K:∀c a w,Q (.panic c) (a.put C.dst v) w->Q (.panic c) a w)(J:S w)(G:Region.wanted C (yielded B a.tmps)=true)(F:∀w,S w->(execOp a.eval C).run P w=.ok (.value v) w)(h:wpAnyH P D B Q S fuel (A.setIfInBounds i true) (a.put C.dst v) w):wpAnyH P D B Q S (fuel+1) A a w:=by
 simp only[Bool.and_eq_true]at E
 exact wpAnyH_take H E.1.1 E.1.2 E.2 K (.inl ⟨G,F⟩) J h
theorem lS{P:Program}{D:Region.Mode}{B:Array Oper}{Q:Exit->Act->World->Prop}{S:World->Prop}(i:Nat){C:Oper}{fuel:Nat}{A:Array Bool}{a:Act}(h:wpAnyH P D B Q S fuel (A.setIfInBounds i true) (a.put C.dst v) w)(G:B[i]?=some C:=by rfl)(H:(Region.noSelect B&&Region.free D B A i&&(Region.ready D B A).contains i)=true:=by kernel_rfl)(K:∀c a w,Q (.panic c) (a.put C.dst v) w->Q (.panic c) a w:=by exact fun _ _ _ h=>h)(J:S w:=by assumption)(F:Region.wanted C (yielded B a.tmps)=true:=by rfl)(E:∀w,S w->(execOp a.eval C).run P w=.ok (.value v) w:=by intro _ h;(try dsimp only at h);go_simp;try with_reducible rfl):wpAnyH P D B Q S (fuel+1) A a w:=Mn i G H K J F E h
theorem fT{α:Type}(l:List α)(i:Nat)(a:α):l.toArray.setIfInBounds i a=(l.set i a).toArray:=List.setIfInBounds_toArray ..
theorem fR{α:Type}(l:List α)(a b:α):(a::l).set 0 b=b::l:=rfl
theorem fQ{α:Type}(l:List α)(n:Nat)(a b:α):(a::l).set (n+1) b=a::l.set n b:=rfl
section
variable {w:World} {B bu bm bt bs bF g n c objs hb lb ob:Nat} {s:Fs} {e:Tu} {fv tv:Value} {t:List Fm} {p:Int} {bts:List Nat}
theorem mM{v:World}{E:Option Addr}{f:Fm}{K:Array Value}(h:TC w B bu bm bt bs s e fv t)(D:w.heap[bm]?=some (.cells (uh bF tv objs hb lb ob) 193 (0,0)))(L:w.ownsRow B 194 1 tv bts.length (du bts))(hB:B<=bm)(Z:B<=w.heap.size)(O:K.toList=qM f)(Y:f.lo.length=6)
  (o:v.ownsRow B 194 1 (.slice E (bts.length+1) b) (bts.length+1) (du bts++[aF (w.heap.size+1)])) (hg:(((w.alloc (.cells K 197)).alloc (.cells #[.slice (some (Ad w.heap.size 0)) 1 1] 201)).alloc (.cells #[aF (w.heap.size+1)] 194)).grownBy v tv.ownBlock):
  v.cell? (Ad bm 1)=some tv/\v.frozen? (Ad bm 1)=false/\v.cell? (Ad bu 0)=some (aF bm)/\TC (v.setCell ⟨bm,1,none⟩ (.slice E (bts.length+1) b)) B bu bm bt bs s e fv t/\(v.setCell ⟨bm,1,none⟩ (.slice E (bts.length+1) b)).heap[bm]?=some (.cells (uh bF (.slice E (bts.length+1) b) objs hb lb ob) 193 (0,0))/\(v.setCell ⟨bm,1,none⟩ (.slice E (bts.length+1) b)).ownsRow B 194 1 (.slice E (bts.length+1) b) (bts++[w.heap.size+1]).length (du (bts++[w.heap.size+1]))/\cN (v.setCell ⟨bm,1,none⟩ (.slice E (bts.length+1) b)) B (w.heap.size+1) (.slice (some (Ad w.heap.size 0)) 1 1) [f]/\aC (fun i=>aT tv i\/i=bm) w (v.setCell ⟨bm,1,none⟩ (.slice E (bts.length+1) b)):=by
 obtain⟨A,T⟩:=bM (((w.alloc (.cells K 197)).alloc (.cells #[.slice (some (Ad w.heap.size 0)) 1 1] 201)).alloc (.cells #[aF (w.heap.size+1)] 194))
 rw[<-T]at hg
 have kA:Bw w A:=by rw[T];exact((ba w _).alloc (by simp) _).alloc (by simp;omega) _
 have V:aC (aT tv) A v:=(aC.refl (aT tv) A).grown hg (fun k z=>.inl z)
 have W:aC (aT tv) w v:=(aC.of_below kA).trans V
 have S:aC (aK bm) v (v.setCell (Ad bm 1) (.slice E (bts.length+1) b)):=(aC.refl _ _).set1 _ _
 have m:aC (fun i=>aT tv i\/i=bm) w (v.setCell (Ad bm 1) (.slice E (bts.length+1) b)):=(W.mono (fun i h=>.inl h)).trans (S.mono (fun i h=>.inr h))
 have G:=(W.block bm (aA D).lt (dE L D (by decide))).trans D
 have P:=aA G
 have u:bm≠bu:=fun e=>by rw[e,h.tu]at D;simp at D
 have nt:bm≠bt:=fun e=>by rw[e,h.th.hd]at D;simp at D
 have no:¬aT fv bm:=dE h.th.row D (by decide)
 have l:¬aT tv bu:=dE L h.tu (by decide)
 have q:¬aT tv bt:=dE L h.th.hd (by decide)
 have r:∀i,aT fv i->¬aT tv i:=fun i F h2=>by
  rcases h.th.row.2 with⟨J,_⟩|⟨g,cap,j,J,_,H,_⟩
  ·subst J;cases F
  ·subst J
   have:=Option.some.inj (show some g=some i from F)
   subst this
   exact dE L H (by decide) h2
 have X:=(W.block bu (aA h.tu).lt l).trans h.tu
 have R:A.heap[w.heap.size]?=some (.cells K 197 (0,0)):=by
  rw[T,Below.heap_alloc _ _ _ (by simp;omega),Below.heap_alloc _ _ _ (by simp)]
  exact heap_alloc_new _ _
 have Q:A.heap[w.heap.size+1]?=some (.cells #[.slice (some (Ad w.heap.size 0)) 1 1] 201 (0,0)):=by
  rw[T,Below.heap_alloc _ _ _ (by simp)]
  have:=heap_alloc_new (w.alloc (.cells K 197)) (.cells #[.slice (some (Ad w.heap.size 0)) 1 1] 201)
  rw[World.size_alloc]at this
  exact this
 have N:∀i,aT tv i->i< w.heap.size:=fun i C=>by
  rcases L.2 with⟨J,_⟩|⟨g,cap,j,J,_,H,_⟩
  ·subst J;cases C
  ·subst J
   have:=Option.some.inj (show some g=some i from C)
   subst this
   exact(gl H)
 have y:=(aA D).lt
 have p:=((V.block _ (gl R) (fun e=>by have:=N _ e;omega)).trans R)
 have F:=((V.block _ (gl Q) (fun e=>by have:=N _ e;omega)).trans Q)
 have d:=(S.block _ (gl p) (fun e=>by have e:w.heap.size=bm:=e;omega)).trans p
 have c:=(S.block _ (gl F) (fun e=>by have e:w.heap.size+1=bm:=e;omega)).trans F
 refine⟨P.cell 1,P.fz 1,(aA X).cell 0,h.kept m (fun i C=>?_) (fun C=>?_) (fun C=>?_) (fun i F C=>?_),by rw[heap_setCell G];rfl,?_,⟨fun x n=>by simp at n;subst n;exact Y,c,?_,by simp⟩,m⟩
 ·rcases C with C|C
  ·exact my L C
  ·omega
 ·rcases C with C|C
  ·exact l C
  ·exact u C.symm
 ·rcases C with C|C
  ·exact q C
  ·exact nt C.symm
 ·rcases C with C|C
  ·exact r i F C
  ·subst C;exact no F
 ·rw[List.length_append,List.length_singleton,show du (bts++[w.heap.size+1])=du bts++[aF (w.heap.size+1)]by simp[du]]
  exact ig o S (fun i C e=>by have e:i=bm:=e;subst e;exact dE o G (by decide) C)
 ·have M:K.size=7:=by rw[<-Array.length_toList,O];exact lK Y
  refine⟨by simp[eX,lK Y],.inr ⟨w.heap.size,1,K,rfl,Z,d,by simp,by decide,by rw[M],?_⟩⟩
  rw[List.take_of_length_le (by simp[M]),O]
  simp[eX]
theorem DX{e e' z k:Nat}{y:Value}{G C:List Value}(h:w.ownsRow B e z v k G)(J:w.ownsRow a e' b y c C)(D:e'≠e)(i:Nat)(H:aT v i)(A:aT y i):False:=by
 rcases J.2 with⟨F,_⟩|⟨K,cap,L,F,_,E,_⟩
 ·subst F;cases A
 ·subst F
  have:=Option.some.inj (show some K=some i from A)
  subst this
  exact dE h E D H
theorem Hr{e size k i:Nat}{E:List Value}(h:w.ownsRow B e size v k E)(D:aT v i):i< w.heap.size:=by
 rcases h.2 with⟨C,_⟩|⟨F,cap,G,C,_,A,_⟩
 ·subst C;cases D
 ·subst C
  have:=Option.some.inj (show some F=some i from D)
  subst this
  exact(gl A)
theorem TC.asgKit{v:Vl}(h:TC w B bu bm bt bs s e fv t)(E:s.p.ln< 6):(w.cell? (Ad bu 1)=some (aF bt)/\w.cell? (Ad bu 2)=some (aF bs)/\w.cell? (Ad bs 3)=some (.string ⟨s.p.lt.toArray⟩)/\w.cell? (Ad bs 4)=some (aB s.p.la)/\w.cell? (Ad bs 5)=some (aB s.p.ln))/\Hid (∀W,aC (aT fv) w W->W.cell? (Ad bu 1)=some (aF bt)/\W.cell? (Ad bu 2)=some (aF bs)/\W.cell? (Ad bs 3)=some (.string ⟨s.p.lt.toArray⟩)/\W.cell? (Ad bs 4)=some (aB s.p.la)/\W.cell? (Ad bs 5)=some (aB s.p.ln))/\Hid (Ca 171 #[aF bt,.agg #[.string ⟨s.p.lt.toArray⟩,aB s.p.la,aB s.p.ln],vI v] w.drew fun r w'=>r=.returned (.tuple #[])/\cN w' B bt fv (aZ t (oY (cJ t) s.p v))/\aC (aT fv) w.drew w'):=by
 obtain⟨sr,sb,A,-,-⟩:=h.st.ex
 have D:=aA h.tu
 have G:=h.st.lt
 have C:¬aT fv bs:=fun F=>by have:=my h.th.row F;omega
 refine⟨⟨D.cell 1,D.cell 2,A.cell 3,A.cell 4,A.cell 5⟩,fun W k=>⟨(k.cell (p:=Ad bu 1) D.lt h.no).trans (D.cell 1),(k.cell (p:=Ad bu 2) D.lt h.no).trans (D.cell 2),(k.cell (p:=Ad bs 3) A.lt C).trans (A.cell 3),(k.cell (p:=Ad bs 4) A.lt C).trans (A.cell 4),(k.cell (p:=Ad bs 5) A.lt C).trans (A.cell 5)⟩,GF (h.th.below (Below.refl _ w).drew) h.ne E⟩
theorem uA{v u:World}{M:Tu}{y:Value}{z tv:Value}{f:Fm}(C:TC v B bu bm bt bs s e fv t)(F:TC u B bu bm bt bs s M fv t)(P:aC (aK bu) v u)(D:v.heap[bm]?=some (.cells (uh bF y objs hb lb ob) 193 (0,0)))(G:v.ownsRow B 194 1 y (bts++[a]).length (du (bts++[a])))(E:cN v B a z [f])(R:w.heap.size<=a)(L:∀i,aT z i->w.heap.size<=i)(Z:B<=bm)(T:B<=w.heap.size)(J:∀i,aT fv i->i< w.heap.size):
  ∀X:World,cN X B bt fv (aZ t (oY (cJ t) s.p (2,bts.length)))->aC (aT fv) u X->aC (fun i=>aT tv i\/i=bm) w v->w.heap.size<=a->(∀i,aT z i->w.heap.size<=i)->(∀i,aT y i->aT tv i\/w.heap.size<=i)->TC X B bu bm bt bs s M fv (aZ t (oY (cJ t) s.p (2,bts.length)))/\X.heap[bm]?=some (.cells (uh bF y objs hb lb ob) 193 (0,0))/\X.ownsRow B 194 1 y (bts++[a]).length (du (bts++[a]))/\cN X B a z [f]/\aC (fun i=>aT tv i\/i=bm\/aT fv i\/i=bu) w X/\w.heap.size<=a/\(∀i,aT z i->w.heap.size<=i)/\∀i,aT y i->aT tv i\/w.heap.size<=i:=fun X S K Q Y W V=>by
 have A:aC (fun i=>i=bu\/aT fv i) v X:=(P.mono (fun i h=>.inl h)).trans (K.mono (fun i h=>.inr h))
 have N:bm≠bu:=fun e=>by rw[e,C.tu]at D;simp at D
 have no:¬aT fv bm:=dE C.th.row D (by decide)
 have O:a< v.heap.size:=(aA E.hd).lt
 refine⟨F.gave ((K.block bu (aA F.tu).lt F.no).trans F.tu) S (ey _ _) (K.mono (fun i h=>.inl h)),(A.block bm (aA D).lt (fun h=>by rcases h with h|h;exact N h;exact no h)).trans D,ig G A (fun i H h=>?_),E.kept A (fun h=>?_) (fun i H h=>?_),(Q.mono (fun i h=>by rcases h with h|h;exact .inl h;exact .inr (.inl h))).trans (A.mono (fun i h=>by rcases h with h|h;exact .inr (.inr (.inr h));exact .inr (.inr (.inl h)))),Y,W,V⟩
 ·rcases h with h|h
  ·subst h;exact dE G C.tu (by decide) H
  ·exact DX G C.th.row (by decide) i H h
 ·rcases h with h|h
  ·have:=E.hd
   rw[h,C.tu]at this
   simp at this
  ·have:=J _ h;omega
 ·rcases h with h|h
  ·subst h;exact dE E.row C.tu (by decide) H
  ·have:=J _ h;have:=L _ H;omega
theorem GB(h:TC w B bu bm bt bs s e fv t)(P:w.heap[bm]?=some (.cells (uh bF tv objs hb lb ob) 193 (0,0)))(hr:w.ownsRow B 194 1 tv bts.length (du bts))(c1:w.cell? (Ad bF 0)=some (.slice (some (Ad g 0)) n c))(ag:s.p.nn< n)(c2:w.cell? (Ad g s.p.nn)=some (aB p))(hm:∀a∈s.r,a.num< 6)(hl:s.r.length<=6)(af:s.p.ln< 6)(ak:bts.length< 6)(hB:B<=bm)(a7:B<=w.heap.size):
  Calls Tryz.prog 252 #[aF bu] w fun q w'=>q=.returned (.bool true)/\∃o E O,TC w' B bu bm bt bs s {e with ob:=bts.length} fv (aZ t (oY (cJ t) s.p (2,bts.length)))/\w'.heap[bm]?=some (.cells (uh bF o objs hb lb ob) 193 (0,0))/\w'.ownsRow B 194 1 o (bts++[E]).length (du (bts++[E]))/\cN w' B E O [⟨p,rK (s.r.map (cD (cJ t)))⟩]/\aC (fun i=>aT tv i\/i=bm\/aT fv i\/i=bu) w w'/\w.heap.size<=E/\(∀i,aT O i->w.heap.size<=i)/\∀i,aT o i->aT tv i\/w.heap.size<=i:=by
 obtain⟨i0,Z,ae,ad,ac⟩:=pZ nz
 obtain⟨f,hf⟩:=bM (⟨p,rK (s.r.map (cD (cJ t)))⟩:Fm)
 rw[<-hf]
 have z:f.lo.length=6:=by rw[hf];exact oT (by rw[List.length_map];exact hl)
 obtain⟨x0,x1,x2,x3,x4,x5,hx⟩:∃x0 x1 x2 x3 x4 x5:Vl,f=⟨p,[x0,x1,x2,x3,x4,x5]⟩:=by
  rw[hf]at z⊢
  match rK (s.r.map (cD (cJ t))),z with
  |[a,b,c,d,e,g],_=>exact⟨_,_,_,_,_,_,rfl⟩
 have c0:w.cell? (Ad bm 0)=some (aF bF):=(aA P).cell 0
 have HG:Hid (∀k,Ca 244 #[aF bu] (w.drewN k) (Rt w (.agg #[aB p,vI x0,vI x1,vI x2,vI x3,vI x4,vI x5]))):=fun k=>by
  have:=yA (w:=w.drewN k) (h.below (aR (Below.refl _ _) k)) c0 c1 ag c2 hm hl
  rw[CB (oT (by rw[List.length_map];exact hl)),<-hf,hx]at this
  exact this.mono (fun q w' j=>⟨j.1,⟨j.2.os,j.2.tape,j.2.output,j.2.size,j.2.block⟩⟩)
 have b0:w.cell? (Ad bu 0)=some (aF bm):=(aA h.tu).cell 0
 have m1:w.cell? (Ad bm 1)=some tv:=(aA P).cell 1
 obtain⟨N,hN⟩:=bM bts.length
 obtain⟨V,l,rfl⟩:=aI hr
 have h6:((bts.length:Int)==6)=false:=by simp;omega
 obtain⟨HC,m,aa,HR⟩:=fK h hx P hr
 have ai:Hid (∀i,aT fv i->i< w.heap.size):=fun i Z=>Hr h.th.row Z
 have a9:Hid (∀W,Bw w W->W.cell? (Ad bu 0)=some (aF bm)/\W.cell? (Ad bm 1)=some (.slice V bts.length l)):=fun W k=>⟨bc k b0,bc k m1⟩
 have aj:Hid (∀D J K,Bw w D->J.ownsRow B 194 1 K (bts.length+1) (du bts++[aF (D.heap.size+1)])->(((D.alloc (.cells #[aB p,vI x0,vI x1,vI x2,vI x3,vI x4,vI x5] 197)).alloc (.cells #[.slice (some (Ad D.heap.size 0)) 1 1] 201)).alloc (.cells #[aF (D.heap.size+1)] 194)).grownBy J (Value.slice V bts.length l).ownBlock->(K.ownBlock=(Value.slice V bts.length l).ownBlock\/K.ownBlock=some (((D.alloc (.cells #[aB p,vI x0,vI x1,vI x2,vI x3,vI x4,vI x5] 197)).alloc (.cells #[.slice (some (Ad D.heap.size 0)) 1 1] 201)).alloc (.cells #[aF (D.heap.size+1)] 194)).heap.size)->J.cell? (Ad bm 1)=some (.slice V bts.length l)/\J.frozen? (Ad bm 1)=false/\J.cell? (Ad bu 0)=some (aF bm)/\Hid (∃E O,TC (J.setCell (Ad bm 1) K) B bu bm bt bs s e fv t/\(J.setCell (Ad bm 1) K).heap[bm]?=some (.cells (uh bF K objs hb lb ob) 193 (0,0))/\(J.setCell (Ad bm 1) K).ownsRow B 194 1 K (bts++[E]).length (du (bts++[E]))/\cN (J.setCell (Ad bm 1) K) B E O [f]/\aC (fun i=>aT (.slice V bts.length l) i\/i=bm) w (J.setCell (Ad bm 1) K)/\w.heap.size<=E/\(∀i,aT O i->w.heap.size<=i)/\∀i,aT K i->aT (.slice V bts.length l) i\/w.heap.size<=i)):=fun D J K k2 ho hg hw=>by
  obtain⟨p4,k4,rfl⟩:=aI ho
  obtain⟨z1,z2,z3,z4,z5,z6,z7,z8⟩:=mM (HC.below k2) ((k2.block bm (aA aa).lt).trans aa) (aP HR k2) hB (Nat.le_trans a7 k2.size) (f:=f) (by rw[m.out];rfl) z ho hg
  have hk:=k2.size
  refine⟨z1,z2,z3,_,_,z4,z5,z6,z7,(aC.of_below k2).trans z8,by omega,fun i Z=>?_,fun i Z=>?_⟩
  ·have:=Option.some.inj (show some D.heap.size=some i from Z);omega
  ·rcases hw with hw|hw
   ·exact .inl (hw.symm.trans Z)
   ·have:=Option.some.inj (hw.symm.trans Z)
    simp at *
    omega
 have HO:Hid (∀W,Bw w W->W.ownsRow B 194 1 (.slice V bts.length l) bts.length (du bts)):=fun W k=>aP HR k
 unfold vI at HG
 clear h hx hf P hr c0 c1 c2 hN
 go_in
 go_wp2_with fail
 refine wp_region_held (S:=fun W=>W.cell? (Ad bu 0)=some (aF bm)) (by kernel_rfl) ?_
 have A:(fun W:World=>W.cell? (Ad bu 0)=some (aF bm)) {w with drawn:=w.drawn+1}:=b0
 refine lS 0 ?_
 refine lS 1 ?_
 refine lS 2 ?_
 refine lS 3 ?_
 refine lS 4 ?_
 refine lS 5 ?_
 refine lS 6 ?_
 refine lS 7 ?_
 refine lS 8 ?_
 refine lS 9 ?_
 refine lS 11 ?_
 try simp only[Act.put,fT,fR,fQ]
 refine wpAnyH_ready (rs:=[10,12]) (by kernel_rfl) (by simp) ?_
 refine AllReadyH.cons rfl (fun K' C=>?_) (AllReadyH.cons rfl (fun K' C=>?_) AllReadyH.nil)
 focus
  go_simp
  refine C _ _ A (fun A=>?_)
  clear C K'
  try simp only[Act.put,fT,fR,fQ]
  refine wpAnyH_ready (rs:=[12]) (by kernel_rfl) (by simp) ?_
  refine AllReadyH.cons rfl (fun K' C=>?_) AllReadyH.nil
  go_simp
  refine(HG 1).mono ?_
  rintro q D ⟨rfl,H⟩
  have T:=aG H
  obtain⟨e1,e2⟩:=a9 D H
  have l1:bu< D.heap.size:=aD e1
  have l2:bm< D.heap.size:=aD e2
  have l3:bu< D.heap.size+1:=Nat.lt_succ_of_lt l1
  have l4:bm< D.heap.size+1:=Nat.lt_succ_of_lt l2
  have l5:bu< D.heap.size+1+1:=Nat.lt_succ_of_lt l3
  have l6:bm< D.heap.size+1+1:=Nat.lt_succ_of_lt l4
  clear H
  try go_wp2_with fail
  refine C _ _ e1 (fun A=>?_)
  clear C K'
  try simp only[Act.put,fT,fR,fQ]
  refine wpAnyH_ready (rs:=[13]) (by kernel_rfl) (by simp) ?_
  refine AllReadyH.cons rfl (fun K' C=>?_) AllReadyH.nil
  go_simp
  refine C _ _ (by go_keep) (fun A=>?_)
  clear C K'
  try simp only[Act.put,fT,fR,fQ]
  refine lS 14 ?_
  try simp only[Act.put,fT,fR,fQ]
  refine wpAnyH_ready (rs:=[15]) (by kernel_rfl) (by simp) ?_
  refine AllReadyH.cons rfl (fun K' C=>?_) AllReadyH.nil
  go_simp
  refine C _ _ (by go_keep) (fun A=>?_)
  clear C K'
  try simp only[Act.put,fT,fR,fQ]
  refine wpAnyH_ready (rs:=[16]) (by kernel_rfl) (by simp) ?_
  refine AllReadyH.cons rfl (fun K' C=>?_) AllReadyH.nil
  go_simp
  refine C _ _ (by go_keep) (fun A=>?_)
  clear C K'
  try simp only[Act.put,fT,fR,fQ]
 rotate_left
 focus
  go_simp
  refine(HG 1).mono ?_
  rintro q D ⟨rfl,H⟩
  have T:=aG H
  obtain⟨e1,e2⟩:=a9 D H
  have l1:bu< D.heap.size:=aD e1
  have l2:bm< D.heap.size:=aD e2
  have l3:bu< D.heap.size+1:=Nat.lt_succ_of_lt l1
  have l4:bm< D.heap.size+1:=Nat.lt_succ_of_lt l2
  have l5:bu< D.heap.size+1+1:=Nat.lt_succ_of_lt l3
  have l6:bm< D.heap.size+1+1:=Nat.lt_succ_of_lt l4
  clear H
  try go_wp2_with fail
  refine C _ _ e1 (fun A=>?_)
  clear C K'
  try simp only[Act.put,fT,fR,fQ]
  refine wpAnyH_ready (rs:=[10,13]) (by kernel_rfl) (by simp) ?_
  refine AllReadyH.cons rfl (fun K' C=>?_) (AllReadyH.cons rfl (fun K' C=>?_) AllReadyH.nil)
  focus
   go_simp
   refine C _ _ A (fun A=>?_)
   clear C K'
   try simp only[Act.put,fT,fR,fQ]
   refine wpAnyH_ready (rs:=[13]) (by kernel_rfl) (by simp) ?_
   refine AllReadyH.cons rfl (fun K' C=>?_) AllReadyH.nil
   go_simp
   refine C _ _ (by go_keep) (fun A=>?_)
   clear C K'
   try simp only[Act.put,fT,fR,fQ]
   refine lS 14 ?_
   try simp only[Act.put,fT,fR,fQ]
   refine wpAnyH_ready (rs:=[15]) (by kernel_rfl) (by simp) ?_
   refine AllReadyH.cons rfl (fun K' C=>?_) AllReadyH.nil
   go_simp
   refine C _ _ (by go_keep) (fun A=>?_)
   clear C K'
   try simp only[Act.put,fT,fR,fQ]
   refine wpAnyH_ready (rs:=[16]) (by kernel_rfl) (by simp) ?_
   refine AllReadyH.cons rfl (fun K' C=>?_) AllReadyH.nil
   go_simp
   refine C _ _ (by go_keep) (fun A=>?_)
   clear C K'
   try simp only[Act.put,fT,fR,fQ]
  rotate_left
  focus
   go_simp
   refine C _ _ (by go_keep) (fun A=>?_)
   clear C K'
   try simp only[Act.put,fT,fR,fQ]
   refine lS 14 ?_
   try simp only[Act.put,fT,fR,fQ]
   refine wpAnyH_ready (rs:=[10,15]) (by kernel_rfl) (by simp) ?_
   refine AllReadyH.cons rfl (fun K' C=>?_) (AllReadyH.cons rfl (fun K' C=>?_) AllReadyH.nil)
   focus
    go_simp
    refine C _ _ A (fun A=>?_)
    clear C K'
    try simp only[Act.put,fT,fR,fQ]
    refine wpAnyH_ready (rs:=[15]) (by kernel_rfl) (by simp) ?_
    refine AllReadyH.cons rfl (fun K' C=>?_) AllReadyH.nil
    go_simp
    refine C _ _ (by go_keep) (fun A=>?_)
    clear C K'
    try simp only[Act.put,fT,fR,fQ]
    refine wpAnyH_ready (rs:=[16]) (by kernel_rfl) (by simp) ?_
    refine AllReadyH.cons rfl (fun K' C=>?_) AllReadyH.nil
    go_simp
    refine C _ _ (by go_keep) (fun A=>?_)
    clear C K'
    try simp only[Act.put,fT,fR,fQ]
   rotate_left
   focus
    go_simp
    refine C _ _ (by go_keep) (fun A=>?_)
    clear C K'
    try simp only[Act.put,fT,fR,fQ]
    refine wpAnyH_ready (rs:=[10,16]) (by kernel_rfl) (by simp) ?_
    refine AllReadyH.cons rfl (fun K' C=>?_) (AllReadyH.cons rfl (fun K' C=>?_) AllReadyH.nil)
    focus
     go_simp
     refine C _ _ A (fun A=>?_)
     clear C K'
     try simp only[Act.put,fT,fR,fQ]
     refine wpAnyH_ready (rs:=[16]) (by kernel_rfl) (by simp) ?_
     refine AllReadyH.cons rfl (fun K' C=>?_) AllReadyH.nil
     go_simp
     refine C _ _ (by go_keep) (fun A=>?_)
     clear C K'
     try simp only[Act.put,fT,fR,fQ]
    rotate_left
    focus
     go_simp
     refine C _ _ (by go_keep) (fun A=>?_)
     clear C K'
     try simp only[Act.put,fT,fR,fQ]
     refine wpAnyH_ready (rs:=[10]) (by kernel_rfl) (by simp) ?_
     refine AllReadyH.cons rfl (fun K' C=>?_) AllReadyH.nil
     go_simp
     refine C _ _ A (fun A=>?_)
     clear C K'
     try simp only[Act.put,fT,fR,fQ]
 all_goals
  refine wpAnyH_ready (rs:=[17]) (by kernel_rfl) (by simp) ?_
  refine AllReadyH.cons rfl (fun K' C=>?_) AllReadyH.nil
  refine bD rfl (.tmp 24) (.tmp 30) 191 rfl B 194 i0 (.pointer none) 1 8 Tryz.underlying191 Z ae ad ac rfl (by decide) _ _ _ (by simp[Act.eval,Act.put]) ((((HO D T).alloc _).alloc _).alloc _) (Ad (D.heap.size+1+1) 0) 1 1 [aF (D.heap.size+1)] (by simp[Act.eval,Act.put]) rfl (cF _ _ _ _ (by simp)) (by intro u hu;simp at hu;subst hu;rfl) (by decide) (by unfold maxLen;omega) (by omega) (by have:=T.size;simp;omega) ?_
  intro K J G L Y
  obtain⟨f1,f2,f3,HF⟩:=aj D J K T G L Y
  obtain⟨p4,k4,rfl⟩:=aI G
  clear G L Y
  refine C _ _ f3 (fun A=>?_)
  clear C K'
  try simp only[Act.put,fT,fR,fQ]
  refine lS 18 ?_
  refine lS 19 ?_
  try simp only[Act.put,fT,fR,fQ]
  refine wpAnyH_ready (rs:=[20]) (by kernel_rfl) (by simp) ?_
  refine AllReadyH.cons rfl (fun K' C=>?_) AllReadyH.nil
  go_simp
  refine C _ _ (by obtain⟨_,_,j,_⟩:=HF.out;exact(aA j.tu).cell 0) (fun A=>?_)
  clear C K'
  try simp only[Act.put,fT,fR,fQ]
  refine wpAnyH_done (by kernel_rfl) ?_ _
  obtain⟨E,O,M,y,x,a3,k5,a1,a0,a4⟩:=HF.out
  obtain⟨W5,a5⟩:=bM (J.setCell (Ad bm 1) (.slice p4 (bts.length+1) k4))
  rw[<-a5]at M y x a3 k5⊢
  obtain⟨Q,k6⟩:=M.set 9 (aB bts.length) (e':={e with ob:=bts.length}) rfl
  have d9:W5.cell? (Ad bu 9)=some (aB e.ob):=(aA M.tu).cell 9
  have z9:W5.frozen? (Ad bu 9)=false:=(aA M.tu).fz 9
  obtain⟨W6,a2⟩:=bM (W5.setCell (Ad bu 9) (aB bts.length))
  rw[<-a2]at Q k6
  have ab:=aG (uA (tv:=.slice V bts.length l) M Q k6 y x a3 a1 a0 hB a7 ai)
  obtain⟨⟨q1,q2,q3,q4,q5⟩,a8,HA⟩:=Q.asgKit (v:=(2,bts.length)) af
  obtain⟨ah,R⟩:=aN a2 (And.intro k5 (And.intro a1 (And.intro a0 a4)))
  unfold vI vT at HA
  clear M y x a3 k5 a1 a0 a4 Q k6 a2 a5 HF f1 f2 f3
  go_wp2_with fail
  rw[<-ah.out]
  go_region_held3 (fun X=>X.cell? (Ad bu 1)=some (aF bt)/\X.cell? (Ad bu 2)=some (aF bs)/\X.cell? (Ad bs 3)=some (.string ⟨s.p.lt.toArray⟩)/\X.cell? (Ad bs 4)=some (aB s.p.la)/\X.cell? (Ad bs 5)=some (aB s.p.ln)) (first|with_reducible exact⟨j1,j2,j3,j4,j5⟩|with_reducible exact⟨q1,q2,q3,q4,q5⟩|go_keep) (first|(go_at_call 171;refine HA.mono ?_;rintro r X ⟨rfl,a6,F⟩;obtain⟨j1,j2,j3,j4,j5⟩:=a8 X ⟨F.os,F.tape,F.output,F.size,F.block⟩;have m:=aG (And.intro a6 F);clear a6 F))
  all_goals go_wp2_with fail
  all_goals go_ret
  all_goals
   have F:aC (aT fv) W6 _:=⟨m.2.os,m.2.tape,m.2.output,m.2.size,m.2.block⟩
   exact⟨rfl,_,_,_,ab _ m.1 F R.1 R.2.1 R.2.2.1 R.2.2.2⟩
end
end
structure Tk where
 th:Int
 pl:Int
 kd:Int
 ob:Int
 fd:Int
deriving DecidableEq
def DK(x:Tk):Value:=.agg #[.int .i64 x.th,.int .i64 x.pl,.int .i64 x.kd,.int .i64 x.ob,.int .i64 x.fd]
def DJ(x:Tk):Bool:=x.kd==3||x.kd==5
def FY(x y:Tk):Bool:=(x.ob==y.ob&&x.fd==y.fd)&&!(x.th==y.th)&&(DJ x||DJ y)
theorem yL(x:Tk)(w:World):Calls Tryz.prog 256 #[DK x] w (Rt w (.bool (DJ x))):=by
 unfold DK DJ
 have A:Hid (Bw w (w.alloc (.cells #[aB x.th,aB x.pl,aB x.kd,aB x.ob,aB x.fd] 263))):=ba _ _
 go_in
 go_wp2_with fail
 all_goals go_ret
 all_goals exact⟨by simp_all,ba _ _⟩
theorem Kb(x y:Tk)(w:World):Calls Tryz.prog 176 #[DK x,DK y] w (Rt w (.bool (FY x y))):=by
 obtain⟨D,L⟩:=bM ((w.alloc (.cells #[aB x.th,aB x.pl,aB x.kd,aB x.ob,aB x.fd] 263)).alloc (.cells #[aB y.th,aB y.pl,aB y.kd,aB y.ob,aB y.fd] 263))
 have O:Bw w D:=by rw[L];exact(ba _ _).alloc (by simp) _
 have B:=aG (yL x D)
 have F:Hid (∀W,Calls Tryz.prog 256 #[DK y] W (Rt W (.bool (DJ y)))):=yL y
 obtain⟨H,G⟩:=aN L O
 have R:Hid (FY x y=((x.ob==y.ob&&x.fd==y.fd)&&!(x.th==y.th)&&(DJ x||DJ y))):=rfl
 unfold DK at B F⊢
 rw[R.out]
 clear R L O
 cases c:(x.ob==y.ob)
 ·go_in
  go_wp2_with fail
  rw[<-H.out]
  go_ret
  exact⟨by simp,G⟩
 ·cases b:(x.fd==y.fd)
  ·go_in
   go_wp2_with fail
   rw[<-H.out]
   go_ret
   exact⟨by simp,G⟩
  ·cases Q:(x.th==y.th)
   ·have M:(x.th !=y.th)=true:=by simp only[bne,Q];rfl
    cases P:DJ x
    ·rw[P]at B
     cases S:DJ y
     all_goals
      rw[S]at F
      go_in
      go_wp2_with fail
      rw[<-H.out]
      refine B.mono ?_
      rintro r E ⟨rfl,A⟩
      have C:=aG A
      have J:E.heap[w.heap.size+1]?=some (.cells #[aB y.th,aB y.pl,aB y.kd,aB y.ob,aB y.fd] 263 (0,0)):=(A.block (w.heap.size+1) (by rw[H.out];simp)).trans (by rw[H.out];have:=heap_alloc_new (w.alloc (.cells #[aB x.th,aB x.pl,aB x.kd,aB x.ob,aB x.fd] 263)) (.cells #[aB y.th,aB y.pl,aB y.kd,aB y.ob,aB y.fd] 263);rw[World.size_alloc]at this;exact this)
      have a:Ce E (w.heap.size+1) 0 (aB y.th):=(aA J).cell 0
      have Z:Ce E (w.heap.size+1) 1 (aB y.pl):=(aA J).cell 1
      have Y:Ce E (w.heap.size+1) 2 (aB y.kd):=(aA J).cell 2
      have X:Ce E (w.heap.size+1) 3 (aB y.ob):=(aA J).cell 3
      have V:Ce E (w.heap.size+1) 4 (aB y.fd):=(aA J).cell 4
      clear A J
      go_wp2_with fail
      refine(F E).mono ?_
      rintro r T ⟨rfl,K⟩
      have N:=aG K
      clear K
      go_wp2_with fail
      go_ret
      exact⟨by simp,G.trans ((C.trans (N.mono C.size)).mono G.size)⟩
    ·rw[P]at B
     go_in
     go_wp2_with fail
     rw[<-H.out]
     refine B.mono ?_
     rintro r E ⟨rfl,A⟩
     have C:=aG A
     clear A
     go_wp2_with fail
     go_ret
     exact⟨by simp,G.trans (C.mono G.size)⟩
   ·have M:(x.th !=y.th)=false:=by simp only[bne,Q];rfl
    go_in
    go_wp2_with fail
    rw[<-H.out]
    go_ret
    exact⟨by simp,G⟩
def eu(w:World)(b n:Nat)(f:Int->Int):Prop:=∃fo,bI km w b n fo/\∀x,gu x->(fo x).getD 0=f x
theorem eu.kept{S:Nat->Prop}{w':World}{f:Int->Int}(h:eu w b n f)(k:aC S w w')(A:¬S b):eu w' b n f:=by
 obtain⟨D,C,B⟩:=h
 exact⟨D,C.kept k A,B⟩
theorem ef{w':World}{row:Option Nat}{S:Nat->Prop}(h:w.grownBy w' row)(A:∀k,row=some k->S k):aC S w w':=⟨h.os,h.tape,h.output,h.size,fun k B C=>h.block k B (fun e=>C (A k e.symm))⟩
theorem Hz{m:Nat}{M Z:Int->Int}(hc:eu w b n M)(ho:eu w d m Z)(ad:b≠d)(hn:n+m<=900000)(h0:∀x,0<=M x):
  Calls Tryz.prog 117 #[.map (some b),.map (some d)] w fun r w'=>r=.returned (.tuple #[])/\eu w' b (n+m) (fun x=>max (M x) (Z x))/\aC (aK b) w w':=by
 obtain⟨gc,V,s⟩:=hc
 obtain⟨go,⟨D,C,a2,a1⟩,q⟩:=ho
 obtain⟨ai,a7,ah,a8,aj,au⟩:=vp s q V a2 a1 C
 have an:=V.lt
 have am:=C.lt
 have ac:=C.size_le
 clear V s q a2 a1
 go_in
 go_wp2_with (first|(at_range;refine wpList_range_own _ rfl _ 244 rfl 3 3 gh.kd Tryz.underlying244 _ d m D rfl C ?_;intro w0 g p al)|go_in)
 go_frame
 go_loopw [8] (fun _ wr=>∃(left:Lit->Bool) (cnt:Nat) (K:Int->Option Int),wr.ranges Tryz.prog 3 oO d w.heap.size m D left cnt/\cnt<=m/\Hid (bI km wr b (n+(m-cnt)) K)/\Hid (∀x,gu x->(K x).getD 0=if(has D (.int .i64 x)&&!left (.int .i64 x))=true then max (M x) (Z x)else M x)/\Hid (aC (aK b) w wr)) (fun _ wr=>wr.rangeLeft d w.heap.size)
 case atStart=>
  refine⟨_,_,gc,g,ac,?_,fun x E=>?_,ef p (fun k e=>by cases e)⟩
  ·exact(ah.kept (ef (S:=fun _=>False) p (fun k e=>by cases e)) (fun h=>h)).mono (by omega)
  ·rw[if_neg (by simp),ai.out x E]
 case round=>
  obtain⟨left,cnt,K,T,ap,HM,HF,HK⟩:=hrel
  go_wp2_with (first
   |(at_next;refine wpList_next_ranges _ rfl _ rfl 3 gh.kd oO (Value.int .i64) (Value.int .i64) (fun a9 kl h=>by obtain⟨x,_,F,_⟩:=tD.all a9 kl h;exact⟨x,F⟩) (fun v y h=>by obtain⟨x,_,F,_⟩:=tD.alle v y h;exact⟨x,F⟩) d w.heap.size m _ _ _ rfl T ?_ ?_)
   |go_in)
  ·intro aq ag
   go_wp2_with fail
   go_end0
   refine⟨rfl,⟨K,HM.mono (by omega),fun x E=>?_⟩,HK⟩
   rw[HF.out x E,ag]
   cases o:has D (.int .i64 x)with
   |true=>rw[if_pos (by simp)]
   |false=>
    rw[if_neg (by simp)]
    show M x=max (M x) (Z x)
    have F:=a8 x E
    have F:has D (.int .i64 x)=(go x).isSome:=F
    rw[o]at F
    have h2:=a7 x E
    cases hg:go x with
    |none=>rw[hg]at h2;simp at h2;rw[<-h2];have:=h0 x;omega
    |some a=>rw[hg]at F;cases F
  ·intro x c kl yd yp w1 J P af hv Y O j W ak ao
   obtain⟨x',E,a5,rfl⟩:=tD.all _ _ P
   have e1:x=x':=by cases a5;rfl
   subst e1
   clear a5 P
   obtain⟨c',hc,a4,a3⟩:=hH hv
   have e3:c=c':=by cases a4;rfl
   subst e3
   have e4:yd=.lit (.int .i64 c):=congrArg Prod.fst a3
   subst e4
   clear a4 a3 hv
   have o:has D (.int .i64 x)=true:=Maps.has_true_of_atKey Y
   have X:c=Z x:=by
    have F:has D (.int .i64 x)=(go x).isSome:=a8 x E
    rw[o]at F
    cases hg:go x with
    |none=>rw[hg]at F;cases F
    |some a=>
     have h2:=(aj x a E hg).2 (.agg [])
     have h3:=Y (.agg [])
     have h4:DataW.lit (H:=Unit) (.int .i64 a)=.lit (.int .i64 c):=h2.symm.trans h3
     have h5:=a7 x E
     rw[hg]at h5
     cases h4
     exact h5
   have L:=HM.kept (ef (S:=aK w.heap.size) W (fun k e=>(Option.some.inj e).symm)) (fun e=>by have e:b=w.heap.size:=e;omega)
   obtain⟨a,u⟩:=bM ((K x).getD 0)
   have G:=HF x E
   have ab:gu a:=by
    rw[u]
    cases hg:K x with
    |none=>exact ud (n:=0) (by decide)
    |some v=>
     obtain⟨_,_,_,h3⟩:=L
     exact(h3 x v E hg).1
   have ae:(Instr.lookup 244 (.map (some b)) (.int .i64 x) false).run Tryz.prog w1=.ok (.int .i64 a) w1:=by
    have:=L.look gh (t:=244) (e:=3) Tryz.underlying244 (z:=.int .i64 0) (yr _) x E
    rw[u]
    cases hg:K x with
    |none=>rw[hg]at this;exact this
    |some v=>rw[hg]at this;exact this
   have aa:gu (max a c):=by rcases Int.le_total a c with h|h;rw[Int.max_eq_right h];exact hc;rw[Int.max_eq_left h];exact ab
   obtain⟨w2,B,a0,A⟩:=L.put gh (t:=244) (e:=3) Tryz.underlying244 (by omega) x E (max a c) aa
   have B:(Instr.mapUpdate 244 (.map (some b)) (.int .i64 x) (.int .i64 (max a c))).run Tryz.prog w1=.ok () w2:=B
   have N:=O.kept A.grown (fun e=>ad (Option.some.inj e).symm) (fun e=>by have:=Option.some.inj e;omega)
   have f:Hid (bI km w2 b (n+(m-J)) (fun y=>if y=x then some (max a c)else K y)/\(∀z,gu z->((fun y=>if y=x then some (max a c)else K y) z).getD 0=if(has D (.int .i64 z)&&!((left (.int .i64 z)&&!(Lit.int .i64 z).sameKey (.int .i64 x))))=true then max (M z) (Z z)else M z)/\aC (aK b) w w2):=by
    refine⟨a0.mono (by omega),fun z hz=>?_,(HK.trans' (ef (S:=aK w.heap.size) W (fun k e=>(Option.some.inj e).symm)) (fun i e=>.inr (by have e:i=w.heap.size:=e;omega))).trans (aC.of_turned A)⟩
    show(if z=x then some (max a c)else K z).getD 0=_
    by_cases Q:z=x
    ·subst Q
     rw[if_pos rfl,o]
     have R:(Lit.int .i64 z).sameKey (.int .i64 z)=true:=by simp[Lit.sameKey]
     rw[R]
     simp only[Bool.not_true,Bool.and_false,Bool.not_false,Bool.and_true,if_true,Option.getD_some]
     have l:left (.int .i64 z)=true:=af
     rw[o,l]at G
     simp at G
     rw[u,G,X]
    ·rw[if_neg Q,HF.out z hz]
     have R:(Lit.int .i64 z).sameKey (.int .i64 x)=false:=by simp[Lit.sameKey,Q]
     rw[R]
     simp
   obtain⟨HL,av⟩:=aN j (And.intro u (And.intro G X))
   clear u X
   obtain⟨HG,a6⟩:=aN N T
   clear L a0 A O W G HF HM HK Y T N j
   go_wp2_with fail
   go_roundw
   case rel=>exact⟨_,J,_,HG,(by have:=HL.out;omega),f.1,f.2.1,f.2.2⟩
   case measure=>rw[HG.out.left_eq,a6.out.left_eq];exact HL
def Jf(x:Tk):List Int:=[x.th,x.pl,x.kd,x.ob,x.fd]
def AW(x:Tk):Prop:=gu x.th/\gu x.pl/\gu x.kd/\gu x.ob/\gu x.fd
def iD:Mt Tk Int:=⟨263,oO,DK,fun x=>.string (keyBytes (kI (Jf x))),.int .i64,fun a=>.lit (.int .i64 a),AW,gu⟩
theorem nM:iD.Good where
 kd:=tr
 key:=fun x A=>pW A.1 A.2.1 A.2.2.1 A.2.2.2.1 A.2.2.2.2
 inj:=fun x y A B h=>by
  have E:=pW A.1 A.2.1 A.2.2.1 A.2.2.2.1 A.2.2.2.2
  have C:=pW B.1 B.2.1 B.2.2.1 B.2.2.2.1 B.2.2.2.2
  have h:Lit.string (keyBytes (kI (Jf x)))=.string (keyBytes (kI (Jf y))):=h
  unfold Jf at h
  rw[<-h]at C
  have:=tx E C
  obtain⟨a,b,c,d,e⟩:=x
  obtain⟨K,J,H,G,e'⟩:=y
  simp at this
  obtain⟨rfl,rfl,rfl,rfl,rfl⟩:=this
  rfl
 lit:=fun _=>trivial
 mke:=fun a D=>if_pos D
 inv:=fun v a F h=>by obtain⟨c,_,rfl,e⟩:=hH h;cases e;rfl
theorem gY{A:List Value}{L:List Lit}(h:Tryz.prog.keyLits d 3 A=some L):∃x,A=[.int .i64 x]/\gu x/\L=[.int .i64 x]:=by
 cases d with
 |zero=>simp[Program.keyLits]at h
 |succ d=>
  unfold Program.keyLits at h
  simp only[Tryz.underlying3]at h
  match A,h with
  |[.int q n],h=>
   simp only at h
   split at h
   ·rename_i C
    cases h
    obtain⟨rfl,B⟩:=C
    exact⟨n,rfl,B,rfl⟩
   ·cases h
theorem nL:iD.Rg where
 all:=fun Y l h=>by
  obtain⟨B,L,rfl,A,rfl⟩:=keyOf_top (P:=Tryz.prog) (by kernel_rfl) h
  obtain⟨m,k⟩:=KQ
  rw[k]at A
  have A:Tryz.prog.keyLits (m+1+1) 263 B.toList=some L:=A
  unfold Program.keyLits at A
  simp only[Tryz.underlying263]at A
  split at A
  ·rename_i H
   have n:B.toList.length=5:=by rw[H.1];exact xN
   obtain⟨a,b,c,d,e,J⟩:∃a b c d e,B.toList=[a,b,c,d,e]:=by
    match B.toList,n with
    |[a,b,c,d,e],_=>exact⟨_,_,_,_,_,rfl⟩
   rw[J]at A
   simp only[List.mapM_cons,List.mapM_nil,cI,List.drop_zero,List.take_succ_cons,List.take_zero,List.drop_succ_cons]at A
   simp only[Option.bind_eq_bind,Option.pure_def,Option.map_eq_some_iff,Option.bind_eq_some_iff]at A
   obtain⟨LL,⟨L1,j,M1,⟨L2,i,y,⟨L3,g,x,⟨L4,f,w,⟨L5,Z,u,R,o⟩,p⟩,q⟩,r⟩,s⟩,t⟩:=A
   obtain⟨G,X,Q,rfl⟩:=gY j
   obtain⟨F,W,O,rfl⟩:=gY i
   obtain⟨E,V,N,rfl⟩:=gY g
   obtain⟨D,T,M,rfl⟩:=gY f
   obtain⟨C,S,K,rfl⟩:=gY Z
   cases R;cases o;cases p;cases q;cases r;cases s;cases t
   cases X;cases W;cases V;cases T;cases S
   refine⟨⟨G,F,E,D,C⟩,⟨Q,O,N,M,K⟩,?_,congrArg (fun l=>Lit.string (keyBytes l)) (show _=kI (Jf ⟨G,F,E,D,C⟩)by simp[kI,Jf])⟩
   show Value.agg B=.agg #[aB G,aB F,aB E,aB D,aB C]
   rw[show B=#[aB G,aB F,aB E,aB D,aB C]from Array.toList_inj.1 J]
  ·cases A
 alle:=fun v z h=>by obtain⟨c,H,rfl,e⟩:=hH h;exact⟨c,H,rfl,e⟩
theorem eu.look{f:Int->Int}(h:eu w b n f){x:Int}(B:gu x):(Instr.lookup 244 (.map (some b)) (aB x) false).run Tryz.prog w=.ok (aB (f x)) w/\gu (f x):=by
 obtain⟨F,C,E⟩:=h
 have A:=C.look gh (t:=244) (e:=3) Tryz.underlying244 (z:=aB 0) (yr _) x B
 rw[<-E x B]
 cases hg:F x with
 |none=>rw[hg]at A;exact⟨A,ud (n:=0) (by decide)⟩
 |some v=>
  rw[hg]at A
  obtain⟨_,_,_,D⟩:=C
  exact⟨A,(D x v B hg).1⟩
theorem eu.lt{f:Int->Int}(h:eu w b n f):b< w.heap.size:=by obtain⟨_,h,_⟩:=h;exact h.lt
def Jk(e:Tu):Value:=.agg #[.int .i64 e.th,.int .i64 e.kd,.int .i64 e.pl,.int .i64 e.ob,.int .i64 e.fd,vI e.vl,.bool e.en]
def wB(e:Tu):Tk:=⟨e.th,e.pl,e.kd,e.ob,e.fd⟩
theorem EF{g m:Nat}{f:Int->Int}{s:Tk->Option Int}{e:Tu}(c3:w.cell? (Ad b 3)=some (.map (some g)))(hT:bI iD w g n s)(hC:eu w d m f)(hn:n<=900000)(a3:∀y a,AW y->s y=some a->FY (wB e) y=true->a<=f y.th)(ht:AW (wB e)):
  Calls Tryz.prog 118 #[aF b,Jk e,.map (some d)] w fun r w'=>r=.returned (.tuple #[])/\bI iD w' g (n+1) (fun y=>if y=wB e then some (f e.th)else s y)/\aC (aK g) w w':=by
 obtain⟨HT,HC,ap⟩:=bY hT hC a3
 obtain⟨D,F,C,aa⟩:=hT
 obtain⟨av,au⟩:=aN C aa
 have a5:=F.lt
 have b2:=hC.lt
 have az:=aD c3
 have ax:=F.size_le
 obtain⟨A,hA⟩:=bM ((w.alloc (.cells #[aB e.th,aB e.kd,aB e.pl,aB e.ob,aB e.fd,vI e.vl,.bool e.en] 84)).alloc (.cells #[aB e.th,aB e.pl,aB e.kd,aB e.ob,aB e.fd] 263))
 have kA:Bw w A:=by rw[hA];exact(ba _ _).alloc (by simp) _
 have ao:A.heap.size=w.heap.size+1+1:=by rw[hA];simp
 have hN:A.heap[w.heap.size+1]?=some (.cells #[aB e.th,aB e.pl,aB e.kd,aB e.ob,aB e.fd] 263 (0,0)):=by
  rw[hA]
  have:=heap_alloc_new (w.alloc (.cells #[aB e.th,aB e.kd,aB e.pl,aB e.ob,aB e.fd,vI e.vl,.bool e.en] 84)) (.cells #[aB e.th,aB e.pl,aB e.kd,aB e.ob,aB e.fd] 263)
  rw[World.size_alloc]at this
  exact this
 have j:A.ownsMap Tryz.prog 263 oO g n D:=by
  obtain⟨es,c,O,h2⟩:=F
  exact⟨es,c,(kA.block g a5).trans O,h2⟩
 obtain⟨HA,ar,HN⟩:=bY hA kA hN
 unfold Jk vI
 unfold vI at HA
 clear a3 C aa hA kA hN F hC
 go_in
 go_wp2_with (first|(at_range;rw[<-HA.out];refine wpList_range_own _ rfl _ 246 rfl 263 3 nM.kd Tryz.underlying246 _ g n D rfl j ?_;intro w0 T J ai)|go_in)
 rw[ao]at T ai
 go_loopw [25] (fun _ wr=>∃(left:Lit->Bool) (cnt:Nat),wr.ranges Tryz.prog 263 oO g (w.heap.size+1+1) n D left cnt/\Hid (wr.heap[w.heap.size+1]?=some (.cells #[aB e.th,aB e.pl,aB e.kd,aB e.ob,aB e.fd] 263 (0,0))/\Bw w wr/\w.heap.size+1+1< wr.heap.size)) (fun _ wr=>wr.rangeLeft g (w.heap.size+1+1))
 case atStart=>
  refine⟨_,_,T,?_,?_,by omega⟩
  ·rw[J.block _ (by omega) (by simp)];exact HN
  ·exact ar.trans ⟨J.os,J.tape,J.output,J.size,fun k hk=>J.block k (by omega) (by simp)⟩
 case round=>
  obtain⟨left,cnt,N,HI⟩:=hrel
  go_wp2_with (first
   |(at_next;refine wpList_next_ranges _ rfl _ rfl 263 nM.kd oO DK (Value.int .i64) (fun ag kl h=>by obtain⟨x,_,O,_⟩:=nL.all ag kl h;exact⟨x,O⟩) (fun v y h=>by obtain⟨x,_,O,_⟩:=nL.alle v y h;exact⟨x,O⟩) g (w.heap.size+1+1) n _ _ _ rfl N ?_ ?_)
   |go_in)
  ·intro an ak
   obtain⟨M,P,i3⟩:=HI.out
   have p:=HT.below P a5
   have ab:eu wr d m f:=HC.kept (aC.of_below (S:=fun _=>False) P) (fun h=>h)
   obtain⟨l,a0⟩:=(ab.kept (aC.of_below (S:=fun _=>False) (Below.refl _ wr).drew) (fun h=>h)).look (x:=e.th) ht.1
   obtain⟨X,Q,a9,K⟩:=(p.below (Below.refl _ wr).drew p.lt).put nM (t:=246) (e:=3) Tryz.underlying246 (by omega) (wB e) ht (f e.th) a0
   have Q:(Instr.mapUpdate 246 (.map (some g)) (.agg #[aB e.th,aB e.pl,aB e.kd,aB e.ob,aB e.fd]) (aB (f e.th))).run Tryz.prog wr.drew=.ok () X:=Q
   have kX:=aC.of_turned K
   have d3:Ce wr b 3 (.map (some g)):=bc P c3
   have g1:Ce wr (w.heap.size+1) 0 (aB e.th):=(aA M).cell 0
   have g2:Ce wr (w.heap.size+1) 1 (aB e.pl):=(aA M).cell 1
   have g3:Ce wr (w.heap.size+1) 2 (aB e.kd):=(aA M).cell 2
   have g4:Ce wr (w.heap.size+1) 3 (aB e.ob):=(aA M).cell 3
   have g5:Ce wr (w.heap.size+1) 4 (aB e.fd):=(aA M).cell 4
   have HF:Hid (bI iD X g (n+1) (fun y=>if y=wB e then some (f e.th)else s y)/\aC (aK g) w X):=⟨a9,(aC.of_below P.drew).trans kX⟩
   clear M P i3 p ab a9 K kX HI N ak an
   go_wp2_with fail
   go_region
   all_goals go_wp2_with fail
   all_goals go_end0
   all_goals exact⟨rfl,HF⟩
  ·intro y c kl yd yp E L W b0 hv o R V a6 a2 al
   obtain⟨y',hy,ae,rfl⟩:=nL.all _ _ W
   have e1:y=y':=by cases y;cases y';cases ae;rfl
   subst e1
   obtain⟨c',hc,ad,ac⟩:=hH hv
   have e3:c=c':=by cases ad;rfl
   subst e3
   have e4:yd=.lit (.int .i64 c):=congrArg Prod.fst ac
   subst e4
   clear ad ac hv ae W
   have a7:s y=some c:=by
    have O:=av y hy
    rw[Maps.has_true_of_atKey o]at O
    cases hg:s y with
    |none=>rw[hg]at O;cases O
    |some a=>
     have h2:=(au y a hy hg).2 (.agg [])
     have h3:=o (.agg [])
     have h4:DataW.lit (H:=Unit) (.int .i64 a)=.lit (.int .i64 c):=h2.symm.trans h3
     cases h4
     rfl
   obtain⟨M,P,i3⟩:=HI.out
   have k1:aC (aK (w.heap.size+1+1)) wr E:=ef a6 (fun k e=>(Option.some.inj e).symm)
   have Z:=(k1.block (w.heap.size+1) (by omega) (fun e=>by have e:w.heap.size+1=w.heap.size+1+1:=e;omega)).trans M
   have j2:Bw w E:=aC.to_below ((aC.of_below (S:=fun _=>False) P).trans' k1 (fun i e=>.inr (by have e:i=w.heap.size+1+1:=e;omega)))
   obtain⟨D1,C⟩:=bM (E.alloc (.cells #[aB y.th,aB y.pl,aB y.kd,aB y.ob,aB y.fd] 263))
   have kD:Bw E D1:=by rw[C];exact ba _ _
   have a4:D1.heap[E.heap.size]?=some (.cells #[aB y.th,aB y.pl,aB y.kd,aB y.ob,aB y.fd] 263 (0,0)):=by rw[C];exact heap_alloc_new _ _
   have aj:E.heap.size< D1.heap.size:=by rw[C];simp
   have q:=aG (Kb (wB e) y D1)
   have a1:w.heap.size+1+1< E.heap.size:=by rw[a2];exact i3
   have g1:Ce E (w.heap.size+1) 0 (aB e.th):=(aA Z).cell 0
   have g2:Ce E (w.heap.size+1) 1 (aB e.pl):=(aA Z).cell 1
   have g3:Ce E (w.heap.size+1) 2 (aB e.kd):=(aA Z).cell 2
   have g4:Ce E (w.heap.size+1) 3 (aB e.ob):=(aA Z).cell 3
   have g5:Ce E (w.heap.size+1) 4 (aB e.fd):=(aA Z).cell 4
   have lw:w.heap.size+1< E.heap.size:=by omega
   have aq:Hid (∀G,Bw D1 G->G.ranges Tryz.prog 263 oO g (w.heap.size+1+1) n D (fun z=>left z&&!z.sameKey (iD.kl y)) L/\G.heap[w.heap.size+1]?=some (.cells #[aB e.th,aB e.pl,aB e.kd,aB e.ob,aB e.fd] 263 (0,0))/\Bw w G/\w.heap.size+1+1< G.heap.size/\eu G d m f/\G.cell? (Ad E.heap.size 0)=some (aB y.th)):=fun G k2=>by
    have B:Bw E G:=kD.trans (k2.mono kD.size)
    have kg:E.grownBy G none:=⟨B.os,B.tape,B.output,B.size,fun k hk _=>B.block k hk⟩
    have kb:Bw w G:=j2.trans (B.mono j2.size)
    exact⟨R.kept kg (by simp) (by simp),(B.block _ lw).trans Z,kb,Nat.lt_of_lt_of_le a1 B.size,HC.kept (aC.of_below (S:=fun _=>False) kb) (fun h=>h),(aA ((k2.block _ aj).trans a4)).cell 0⟩
   obtain⟨HL,af,aw⟩:=bY V N C
   have Y:Hid (FY (wB e) y=true->c<=f y.th):=ap y c hy a7
   have ah:=hy.1
   unfold DK at q al⊢
   unfold wB at q Y
   clear a7 M P i3 k1 Z j2 C kD a4 R V a6 a2 o HI N
   go_wp2_with fail
   rw[<-aw.out]
   refine q.mono ?_
   rintro r G ⟨rfl,a8⟩
   obtain⟨q1,q2,q3,q4,q5,q6⟩:=aq G a8
   obtain⟨l,a0⟩:=q5.look ah
   have u:=aG (And.intro q1 (And.intro q2 (And.intro q3 q4)))
   clear a8 q1 q2 q3 q4 q5
   cases am:FY ⟨e.th,e.pl,e.kd,e.ob,e.fd⟩ y with
   |false=>
    go_wp2_with fail
    go_roundw
    case rel=>exact⟨_,L,u.1,u.2⟩
    case measure=>rw[u.out.1.left_eq,af.out.left_eq];exact HL
   |true=>
    have b1:=Y am
    have ay:¬f y.th< c:=by omega
    go_wp2_with fail
    go_roundw
    case rel=>exact⟨_,L,u.1,u.2⟩
    case measure=>rw[u.out.1.left_eq,af.out.left_eq];exact HL
section
def fA:Nat->Option (Nat×Value)
 |1=>some (246,.bool true)
 |2=>some (247,.tuple #[])
 |3=>some (248,.tuple #[])
 |4=>some (249,.bool true)
 |5=>some (250,.bool true)
 |6=>some (251,.bool true)
 |7=>some (252,.bool true)
 |8=>some (253,.bool true)
 |9=>some (254,.tuple #[])
 |10=>some (255,.bool true)
 |_=>none
section
variable {w:World} {B bu bm bt bs:Nat} {s:Fs} {e:Tu} {fv:Value} {t:List Fm} {Φ:World->Prop}
theorem TC.kind(h:TC w B bu bm bt bs s e fv t):w.cell? (Ad bu 2)=some (aF bs)/\w.cell? (Ad bs 2)=some (aB s.p.kind):=by
 obtain⟨sr,sb,A,-,-⟩:=h.st.ex
 exact⟨(aA h.tu).cell 2,A.cell 2⟩
theorem DP{F:Nat}{r:Value}(h:TC w B bu bm bt bs s e fv t)(A:fA s.p.kind=some (F,r))(H:Ca F #[aF bu] w fun q w'=>q=.returned r/\Φ w'):
  Calls Tryz.prog 175 #[aF bu] w fun q w'=>q=.returned (.bool true)/\Φ w':=by
 obtain⟨L,D⟩:=h.kind
 clear h
 generalize s.p.kind=K at A D
 have G:=aG H
 clear H
 match K,A with
 |1,A|2,A|3,A|4,A|5,A|6,A|7,A|8,A|9,A|10,A=>
  simp only[fA,Option.some.injEq,Prod.mk.injEq]at A
  obtain⟨rfl,rfl⟩:=A
  go_in
  go_wp2_with fail
  refine G.mono ?_
  rintro q J ⟨rfl,C⟩
  have E:=aG C
  clear C
  go_wp2_with fail
  go_ret
  exact⟨rfl,E⟩
theorem Lr(h:TC w B bu bm bt bs s e fv t)(b:s.p.kind<=10)(H:Ca 175 #[aF bu] w fun q w'=>q=.returned (.bool true)/\∃e' C,TC w' B bu bm bt bs s e' fv C/\Φ w'):
  Calls Tryz.prog 114 #[aF bu] w fun q w'=>q=.returned (.bool true)/\∃A,Φ A/\∀e' C,TC A B bu bm bt bs s e' fv C->TC w' B bu bm bt bs s e' fv (aZ C {cJ C with pl:=s.nx})/\aC (aT fv) A w':=by
 obtain⟨b2,V⟩:=h.kind
 clear h
 generalize s.p.kind=K at b V
 have z:((K:Int)==11)=false:=by simp;omega
 have y:((K:Int)==12)=false:=by simp;omega
 have x:((K:Int)==13)=false:=by simp;omega
 have v:((K:Int)==14)=false:=by simp;omega
 have l:=aG H
 clear H
 go_in
 go_wp2_with fail
 refine l.mono ?_
 rintro q A ⟨rfl,e',C,G,T⟩
 have i:A.cell? (Ad bu 1)=some (aF bt):=(aA G.tu).cell 1
 have f:A.cell? (Ad bu 4)=some (aB s.nx):=(aA G.tu).cell 4
 obtain⟨g,k,c,N,D,a,d,E,J⟩:=G.th.open G.ne
 have j:=aG (sw (w:=A.drew) (bt:=bt) (g:=g) (n:=k) (c:=c) (by have:=G.th.cell;rw[D]at this;exact this) (by omega))
 have u:A.cell? (Ad g (k*7))=some (aB (cJ C).pl):=E 0 (by omega)
 have o:A.frozen? (Ad g (k*7))=false:=J _
 have L:Hid (∀m,∃Q,Φ Q/\∀e' C,TC Q B bu bm bt bs s e' fv C->TC ((A.setCell (Ad g (k*7)) (aB s.nx)).drewN m) B bu bm bt bs s e' fv (aZ C {cJ C with pl:=s.nx})/\aC (aT fv) Q ((A.setCell (Ad g (k*7)) (aB s.nx)).drewN m)):=fun m=>⟨A,T,fun e2 r P=>by
  obtain⟨g2,R,V,M,F,-,-,-,-⟩:=P.th.open P.ne
  rw[D]at F
  injection F with i1 Y i3
  injection i1 with i1
  injection i1 with i1
  have Y:k+1=R+1:=by omega
  have:k=R:=by omega
  subst this
  exact P.goOn M D (m:=m) rfl⟩
 have O:bu≠g:=fun e=>G.no (by rw[D,e];rfl)
 have S:g≠bu:=fun e=>O e.symm
 clear G T E J N D
 go_wp2_with fail
 go_region_held3 (fun W=>W.cell? (Ad bu 1)=some (aF bt)/\W.cell? (Ad bu 4)=some (aB s.nx)) (first|with_reducible exact⟨i,f⟩|go_keep) (first|(go_at_call 107;refine j.mono ?_;rintro q X ⟨rfl,m,Z⟩;subst X))
 all_goals go_wp2_with fail
 all_goals go_ret
 all_goals exact⟨rfl,L _⟩
def Kz:Nat->Option (Nat×Value)
 |11=>some (172,.bool true)
 |13=>some (174,.tuple #[])
 |14=>some (174,.tuple #[])
 |_=>none
theorem JD{F:Nat}{r:Value}(h:TC w B bu bm bt bs s e fv t)(A:Kz s.p.kind=some (F,r))(H:Ca F #[aF bu] w fun q w'=>q=.returned r/\Φ w'):
  Calls Tryz.prog 114 #[aF bu] w fun q w'=>q=.returned (.bool true)/\Φ w':=by
 obtain⟨L,D⟩:=h.kind
 clear h
 generalize s.p.kind=K at A D
 have G:=aG H
 clear H
 match K,A with
 |11,A|13,A|14,A=>
  simp only[Kz,Option.some.injEq,Prod.mk.injEq]at A
  obtain⟨rfl,rfl⟩:=A
  go_in
  go_wp2_with fail
  refine G.mono ?_
  rintro q J ⟨rfl,C⟩
  have E:=aG C
  clear C
  go_wp2_with fail
  go_ret
  exact⟨rfl,E⟩
end
end
section
theorem iT:(Tryz.prog.info? 84).map (·.size)=some 7:=by kernel_rfl
def tH(e:Tu):Array Value:=#[.int .i64 e.th,.int .i64 e.kd,.int .i64 e.pl,.int .i64 e.ob,.int .i64 e.fd,vI e.vl,.bool e.en]
theorem DE{V:World}{bt:Nat}{F E D C B A:Int}(h:V.heap[b]?=some (.cells #[aF a,aF bt,.pointer none,aB 0,aB 0,aB 0,aB 0,aB 0,aB 0,aB 0,aB 0,.nilIface,.bool false] 267 (0,0))):((((((((((((V.setCell ⟨b,6,none⟩ (.int .i64 F)).setCell ⟨b,7,none⟩ (.int .i64 0)).setCell ⟨b,8,none⟩ (.int .i64 E)).setCell ⟨b,9,none⟩ (.int .i64 (-1))).setCell ⟨b,10,none⟩ (.int .i64 0)).setCell ⟨b,11,none⟩ (.iface 148 (.int .i64 0))).setCell ⟨b,12,none⟩ (.bool false)).setCell ⟨b,2,none⟩ (.pointer (some ⟨c,0,none⟩))).setCell ⟨b,3,none⟩ (.int .i64 C)).setCell ⟨b,4,none⟩ (.int .i64 B)).setCell ⟨b,5,none⟩ (.int .i64 A)).setCell ⟨b,7,none⟩ (.int .i64 D)).heap[b]?=some (.cells (lQ a bt (aF c) C B A {th:=F,kd:=D,pl:=E}) 267 (0,0)):=by
 have:=(heap_setCell (heap_setCell (heap_setCell (heap_setCell (heap_setCell (heap_setCell (heap_setCell (heap_setCell (heap_setCell (heap_setCell (heap_setCell (heap_setCell h 6 (aB F)) 7 (aB 0)) 8 (aB E)) 9 (aB (-1))) 10 (aB 0)) 11 (.iface 148 (aB 0))) 12 (.bool false)) 2 (Pt c 0)) 3 (aB C)) 4 (aB B)) 5 (aB A)) 7 (aB D))
 simp only[fT,fR,fQ]at this
 exact this
section
variable {w:World} {B bm bt bs bF hb lb ob objs gs N cs i j:Nat} {s:Fs} {fv tv:Value} {t:List Fm} {bts:List Nat} {Φ:World->World->Nat->Tu->Value->List Fm->Prop}
theorem Kh(Q:w.heap[bm]?=some (.cells (uh bF tv objs hb lb ob) 193 (0,0)))(u:w.ownsRow B 194 1 tv bts.length (du bts))(hi:bts[i]?=some bt)(v:cN w B bt fv t)(P:t≠[])(d:(cJ t).pl=(j:Int))(c3:w.cell? (Ad bF 3)=some (.slice (some (Ad gs 0)) N cs))(hj:j< N)(s0:w.cell? (Ad gs (j*4))=some (aF bs))(s1:w.cell? (Ad gs (j*4+1))=some (aB s.fn))(s2:w.cell? (Ad gs (j*4+2))=some (aB s.nx))(s3:w.cell? (Ad gs (j*4+3))=some (aB s.ins))(hs:AG w B bs s.p s.r)(al:B<=w.heap.size)
  (H:∀L K,w.heap.size< K->Bw w L->TC L B K bm bt bs s {th:=i,kd:=s.p.kind,pl:=j} fv t->Ca 114 #[aF K] L fun q w'=>q=.returned (.bool true)/\∃e' D E,w'.heap[K]?=some (.cells (lQ bm bt (aF bs) s.fn s.nx s.ins e') 267 (0,0))/\cN w' B bt D E/\aC (fun i=>i≠w.heap.size) L w'/\Φ L w' K e' D E):
  Calls Tryz.prog 77 #[aF bm,aB i] w fun q w'=>∃L C K e' D E,q=.returned (.agg (tH {e' with en:=E.isEmpty}))/\w.heap.size< K/\Bw w L/\Φ L C K e' D E/\aC (fun i=>i=w.heap.size\/i=K) C w':=by
 obtain⟨pt,ct,rfl⟩:=aI u
 have a3:i< bts.length:=(List.getElem?_eq_some_iff.1 hi).1
 obtain⟨T,rfl,a2⟩:∃T,pt=some (Ad T 0)/\w.cell? (Ad T i)=some (aF bt):=by
  obtain⟨T,am,he⟩:=aO u (by omega)
  injection he with e1 e2 e3
  subst e1
  exact⟨T,rfl,cZ u (by simp[du,hi])⟩
 have m0:Ce w bm 0 (aF bF):=(aA Q).cell 0
 have m1:Ce w bm 1 (.slice (some (Ad T 0)) bts.length ct):=(aA Q).cell 1
 obtain⟨g,k,c,hk,e,aj,ak,M,a4⟩:=v.open P
 have r0:w.cell? (Ad g (k*7))=some (aB j):=by rw[<-d];exact M 0 (by omega)
 have f:w.cell? (Ad bt 0)=some (.slice (some (Ad g 0)) (k+1) c):=by rw[<-e];exact v.cell
 have aa:Hid (∀W,Bw w W->Ca 107 #[aF bt] W fun r w'=>r=.returned (Pt g (k*7))/\∃m,w'=W.drewN m):=fun W kW=>sw (bc kW f) (by omega)
 obtain⟨sr,sb,a,-,-⟩:=hs.ex
 have k2:Ce w bs 2 (aB s.p.kind):=a.cell 2
 have ab:Hid (∀V,Bw w V->Ce V bm 0 (aF bF)/\Ce V bF 3 (.slice (some (Ad gs 0)) N cs)/\Ce V gs (j*4) (aF bs)/\Ce V gs (j*4+1) (aB s.fn)/\Ce V gs (j*4+2) (aB s.nx)/\Ce V gs (j*4+3) (aB s.ins)/\Ce V bs 2 (aB s.p.kind)/\Ce V g (k*7) (aB j)):=fun V F=>⟨bc F m0,bc F c3,bc F s0,bc F s1,bc F s2,bc F s3,bc F k2,bc F r0⟩
 have lm:bm< w.heap.size:=aD m0
 have lF:bF< w.heap.size:=aD c3
 have lt:T< w.heap.size:=aD a2
 have ah:gs< w.heap.size:=aD s0
 have ai:bs< w.heap.size:=aD k2
 have lg:g< w.heap.size:=aD r0
 have HD:Hid (∀X,X.heap[w.heap.size+1]?=some (.cells (lQ bm bt (aF bs) s.fn s.nx s.ins {th:=i,kd:=s.p.kind,pl:=j}) 267 (0,0))->X.heap[w.heap.size]?=some (.cells #[aB 0,aB 0,aB 0,aB 0,aB 0,.nilIface,.bool false] 84 (0,0))->Bw w X->Ca 114 #[aF (w.heap.size+1)] X fun q w'=>q=.returned (.bool true)/\∃e' D E,w'.heap[w.heap.size+1]?=some (.cells (lQ bm bt (aF bs) s.fn s.nx s.ins e') 267 (0,0))/\cN w' B bt D E/\w'.heap[w.heap.size]?=some (.cells #[aB 0,aB 0,aB 0,aB 0,aB 0,.nilIface,.bool false] 84 (0,0))/\∃X,Bw w X/\Φ X w' (w.heap.size+1) e' D E):=fun X hX l O=>by
  refine(H X _ (by omega) O ⟨hX,hs.kept (aC.of_below (S:=fun _=>False) O) (fun _ h=>h.elim),v.below O,P,by omega⟩).mono ?_
  rintro q w' ⟨h0,e',D,E,J,o,G,h4⟩
  exact⟨h0,e',D,E,J,o,(G.block _ (aA l).lt (fun h=>h rfl)).trans l,X,O,h4⟩
 have y1:(0:Int)<=i:=by omega
 have y2:(i:Int)< bts.length:=by omega
 have y3:(0:Int)<=j:=by omega
 have y4:(j:Int)< N:=by omega
 have y5:((j:Int)==-1)=false:=by simp<;>omega
 clear Q u hi v P d hs H a3 a4 M hk e f a m0 c3 s0 s1 s2 s3 r0 k2
 go_in
 go_wp2_with fail
 refine(aa _ ((ba w _).alloc (by simp) _)).mono ?_
 rintro q V ⟨rfl,m,b⟩
 have F:Bw w V:=by rw[b];exact aR ((ba w _).alloc (by simp) _) m
 obtain⟨v0,v3,v4,v5,v6,v7,v8,v9⟩:=ab V F
 have R:V.heap[w.heap.size+1]?=some (.cells #[aF bm,aF bt,.pointer none,aB 0,aB 0,aB 0,aB 0,aB 0,aB 0,aB 0,aB 0,.nilIface,.bool false] 267 (0,0)):=by
  rw[b]
  have:=heap_alloc_new (w.alloc (.cells #[aB 0,aB 0,aB 0,aB 0,aB 0,.nilIface,.bool false] 84)) (.cells #[aF bm,aF bt,.pointer none,aB 0,aB 0,aB 0,aB 0,aB 0,aB 0,aB 0,aB 0,.nilIface,.bool false] 267)
  rw[World.size_alloc]at this
  exact this
 have n:V.heap[w.heap.size]?=some (.cells #[aB 0,aB 0,aB 0,aB 0,aB 0,.nilIface,.bool false] 84 (0,0)):=by
  rw[b]
  exact(Below.heap_alloc _ _ _ (by simp)).trans (heap_alloc_new w _)
 have A:=aA R
 have u0:Ce V (w.heap.size+1) 0 (aF bm):=A.cell 0
 have u1:Ce V (w.heap.size+1) 1 (aF bt):=A.cell 1
 have u2:Ce V (w.heap.size+1) 2 (.pointer none):=A.cell 2
 have u3:Ce V (w.heap.size+1) 3 (aB 0):=A.cell 3
 have u4:Ce V (w.heap.size+1) 4 (aB 0):=A.cell 4
 have u5:Ce V (w.heap.size+1) 5 (aB 0):=A.cell 5
 have u6:Ce V (w.heap.size+1) 6 (aB 0):=A.cell 6
 have u7:Ce V (w.heap.size+1) 7 (aB 0):=A.cell 7
 have u8:Ce V (w.heap.size+1) 8 (aB 0):=A.cell 8
 have u9:Ce V (w.heap.size+1) 9 (aB 0):=A.cell 9
 have a0:Ce V (w.heap.size+1) 10 (aB 0):=A.cell 10
 have z:Ce V (w.heap.size+1) 11 .nilIface:=A.cell 11
 have y:Ce V (w.heap.size+1) 12 (.bool false):=A.cell 12
 have uz:∀x,V.frozen? (Ad (w.heap.size+1) x)=false:=A.fz
 have LM:bm≠w.heap.size+1:=by omega
 have Mg:bF≠w.heap.size+1:=by omega
 have ag:gs≠w.heap.size+1:=by omega
 have af:bs≠w.heap.size+1:=by omega
 obtain⟨ac,ad,ae⟩:=bY R n F
 clear R n F A b
 go_wp2_with fail
 have Z:¬w.heap.size=w.heap.size+1:=by omega
 refine(HD _ ?hx ?hx0 ?kx).mono ?_
 case hx=>exact DE ac
 case hx0=>
  repeat rw[Below.heap_setCell _ _ _ _ (by exact Z)]
  exact ad
 case kx=>
  repeat(refine Below.setCell ?_ (show w.heap.size<=w.heap.size+1 by omega) _)
  exact ae
 rintro q C ⟨rfl,e',D,E,J,o,G,X,O,hP⟩
 obtain⟨pf,cf,rfl⟩:=aI o.row
 have hE:=mw (w:=C) (bt:=bt) (o.cell)
 have a1:Ce C (w.heap.size+1) 1 (aF bt):=(aA J).cell 1
 have a6:Ce C (w.heap.size+1) 6 (aB e'.th):=(aA J).cell 6
 have a7:Ce C (w.heap.size+1) 7 (aB e'.kd):=(aA J).cell 7
 have a8:Ce C (w.heap.size+1) 8 (aB e'.pl):=(aA J).cell 8
 have a9:Ce C (w.heap.size+1) 9 (aB e'.ob):=(aA J).cell 9
 have ao:Ce C (w.heap.size+1) 10 (aB e'.fd):=(aA J).cell 10
 have a5:Ce C (w.heap.size+1) 11 (vI e'.vl):=(aA J).cell 11
 have an:Ce C (w.heap.size+1) 12 (.bool e'.en):=(aA J).cell 12
 have az:∀x,C.frozen? (Ad (w.heap.size+1) x)=false:=(aA J).fz
 have d0:Ce C w.heap.size 0 (aB 0):=(aA G).cell 0
 have d1:Ce C w.heap.size 1 (aB 0):=(aA G).cell 1
 have d2:Ce C w.heap.size 2 (aB 0):=(aA G).cell 2
 have d3:Ce C w.heap.size 3 (aB 0):=(aA G).cell 3
 have d4:Ce C w.heap.size 4 (aB 0):=(aA G).cell 4
 have d5:Ce C w.heap.size 5 .nilIface:=(aA G).cell 5
 have d6:Ce C w.heap.size 6 (.bool false):=(aA G).cell 6
 have dz:∀x,C.frozen? (Ad w.heap.size x)=false:=(aA G).fz
 obtain⟨HE,H3,HP⟩:=bY hE G (And.intro O hP)
 have Y:decide (E.length=0)=E.isEmpty:=by cases E<;>simp
 rw[Y]at HE
 unfold vI at a5
 clear J o G O hP hE Y v0 v3 v4 v5 v6 v7 v8 v9 u0 u1 u2 u3 u4 u5 u6 u7 u8 u9 a0 z y uz
 go_wp2_with fail
 refine HE.mono ?_
 rintro q w3 ⟨rfl,b⟩
 subst w3
 go_wp2_with fail
 have h4:=(Below.heap_setCell C (Ad (w.heap.size+1) 12) (.bool E.isEmpty) w.heap.size Z).trans H3
 have hN:=heap_setCell (heap_setCell (heap_setCell (heap_setCell (heap_setCell (heap_setCell (heap_setCell h4 0 (aB e'.th)) 1 (aB e'.kd)) 2 (aB e'.pl)) 3 (aB e'.ob)) 4 (aB e'.fd)) 5 (vI e'.vl)) 6 (.bool E.isEmpty)
 simp only[fT,fR,fQ]at hN
 refine bodyPost_ret (results_cell_row rfl _ _ w.heap.size 84 (tH {e' with en:=E.isEmpty}) (0,0) _ rfl hN Tryz.underlying84 rfl iT) rfl ⟨X,C,w.heap.size+1,e',_,E,rfl,by omega,HP.1,HP.2,?_⟩
 repeat(refine aC.setCell ?_ (by simp) _)
 exact aC.refl _ _
end
end
section
theorem AU{V:World}{bt:Nat}{A:Int}(h:V.heap[b]?=some (.cells #[aF a,aF bt,.pointer none,aB 0,aB 0,aB 0,aB 0,aB 0,aB 0,aB 0,aB 0,.nilIface,.bool false] 267 (0,0))):((((((((V.setCell ⟨b,6,none⟩ (.int .i64 A)).setCell ⟨b,7,none⟩ (.int .i64 0)).setCell ⟨b,8,none⟩ (.int .i64 (-1))).setCell ⟨b,9,none⟩ (.int .i64 (-1))).setCell ⟨b,10,none⟩ (.int .i64 0)).setCell ⟨b,11,none⟩ (.iface 148 (.int .i64 0))).setCell ⟨b,12,none⟩ (.bool false)).setCell ⟨b,7,none⟩ (.int .i64 12)).heap[b]?=some (.cells (lQ a bt (.pointer none) 0 0 0 {th:=A,kd:=12,pl:=-1}) 267 (0,0)):=by
 have:=(heap_setCell (heap_setCell (heap_setCell (heap_setCell (heap_setCell (heap_setCell (heap_setCell (heap_setCell h 6 (aB A)) 7 (aB 0)) 8 (aB (-1))) 9 (aB (-1))) 10 (aB 0)) 11 (.iface 148 (aB 0))) 12 (.bool false)) 7 (aB 12))
 simp only[fT,fR,fQ]at this
 exact this
section
variable {w:World} {B bm bt bs bF hb lb ob objs gs N cs i j:Nat} {s:Fs} {fv tv:Value} {t:List Fm} {bts:List Nat} {Φ:World->World->Nat->Tu->Value->List Fm->Prop}
theorem Ie(M:w.heap[bm]?=some (.cells (uh bF tv objs hb lb ob) 193 (0,0)))(j:w.ownsRow B 194 1 tv bts.length (du bts))(v:bts[i]?=some bt)(z:cN w B bt fv t)(Z:t≠[])(Y:(cJ t).pl=-1)(ad:B<=w.heap.size)
  (H:∀K J,w.heap.size< J->Bw w K->K.heap[J]?=some (.cells (lQ bm bt (.pointer none) 0 0 0 {th:=i,kd:=12,pl:=-1}) 267 (0,0))->Ca 113 #[aF J,vI (0,0)] K fun q w'=>q=.returned (.tuple #[])/\∃D E,w'.heap[J]?=some (.cells (lQ bm bt (.pointer none) 0 0 0 {th:=i,kd:=12,pl:=-1}) 267 (0,0))/\cN w' B bt D E/\aC (fun i=>i≠w.heap.size) K w'/\Φ K w' J {th:=i,kd:=12,pl:=-1} D E):
  Calls Tryz.prog 77 #[aF bm,aB i] w fun q w'=>∃K C J e' D E,q=.returned (.agg (tH {e' with en:=E.isEmpty}))/\w.heap.size< J/\Bw w K/\Φ K C J e' D E/\aC (fun i=>i=w.heap.size\/i=J) C w':=by
 obtain⟨pt,ct,rfl⟩:=aI j
 have u:i< bts.length:=(List.getElem?_eq_some_iff.1 v).1
 obtain⟨O,rfl,s⟩:∃O,pt=some (Ad O 0)/\w.cell? (Ad O i)=some (aF bt):=by
  obtain⟨O,ae,he⟩:=aO j (by omega)
  injection he with e1 e2 e3
  subst e1
  exact⟨O,rfl,cZ j (by simp[du,v])⟩
 have m0:Ce w bm 0 (aF bF):=(aA M).cell 0
 have m1:Ce w bm 1 (.slice (some (Ad O 0)) bts.length ct):=(aA M).cell 1
 obtain⟨g,k,c,hk,a,ab,ac,L,y⟩:=z.open Z
 have p:w.cell? (Ad g (k*7))=some (aB (-1)):=by rw[<-Y];exact L 0 (by omega)
 have b:w.cell? (Ad bt 0)=some (.slice (some (Ad g 0)) (k+1) c):=by rw[<-a];exact z.cell
 have a2:Hid (∀W,Bw w W->Ca 107 #[aF bt] W fun r w'=>r=.returned (Pt g (k*7))/\∃m,w'=W.drewN m):=fun W kW=>sw (bc kW b) (by omega)
 have a3:Hid (∀V,Bw w V->Ce V bm 0 (aF bF)/\Ce V g (k*7) (aB (-1))):=fun V P=>⟨bc P m0,bc P p⟩
 have lm:bm< w.heap.size:=aD m0
 have lt:O< w.heap.size:=aD s
 have lg:g< w.heap.size:=aD p
 have HD:Hid (∀X,X.heap[w.heap.size+1]?=some (.cells (lQ bm bt (.pointer none) 0 0 0 {th:=i,kd:=12,pl:=-1}) 267 (0,0))->X.heap[w.heap.size]?=some (.cells #[aB 0,aB 0,aB 0,aB 0,aB 0,.nilIface,.bool false] 84 (0,0))->Bw w X->Ca 113 #[aF (w.heap.size+1),vI (0,0)] X fun q w'=>q=.returned (.tuple #[])/\∃e' D E,w'.heap[w.heap.size+1]?=some (.cells (lQ bm bt (.pointer none) 0 0 0 e') 267 (0,0))/\cN w' B bt D E/\w'.heap[w.heap.size]?=some (.cells #[aB 0,aB 0,aB 0,aB 0,aB 0,.nilIface,.bool false] 84 (0,0))/\∃X,Bw w X/\Φ X w' (w.heap.size+1) e' D E):=fun X hX d Q=>by
  refine(H X _ (by omega) Q hX).mono ?_
  rintro q w' ⟨h0,D,E,G,f,F,h4⟩
  exact⟨h0,_,D,E,G,f,(F.block _ (aA d).lt (fun h=>h rfl)).trans d,X,Q,h4⟩
 have y1:(0:Int)<=i:=by omega
 have y2:(i:Int)< bts.length:=by omega
 unfold vI at HD
 clear M j v z Z Y H u y L hk a b m0 p
 go_in
 go_wp2_with fail
 refine(a2 _ ((ba w _).alloc (by simp) _)).mono ?_
 rintro q V ⟨rfl,m,T⟩
 have P:Bw w V:=by rw[T];exact aR ((ba w _).alloc (by simp) _) m
 obtain⟨v0,v9⟩:=a3 V P
 have N:V.heap[w.heap.size+1]?=some (.cells #[aF bm,aF bt,.pointer none,aB 0,aB 0,aB 0,aB 0,aB 0,aB 0,aB 0,aB 0,.nilIface,.bool false] 267 (0,0)):=by
  rw[T]
  have:=heap_alloc_new (w.alloc (.cells #[aB 0,aB 0,aB 0,aB 0,aB 0,.nilIface,.bool false] 84)) (.cells #[aF bm,aF bt,.pointer none,aB 0,aB 0,aB 0,aB 0,aB 0,aB 0,aB 0,aB 0,.nilIface,.bool false] 267)
  rw[World.size_alloc]at this
  exact this
 have e:V.heap[w.heap.size]?=some (.cells #[aB 0,aB 0,aB 0,aB 0,aB 0,.nilIface,.bool false] 84 (0,0)):=by
  rw[T]
  exact(Below.heap_alloc _ _ _ (by simp)).trans (heap_alloc_new w _)
 have A:=aA N
 have u0:Ce V (w.heap.size+1) 0 (aF bm):=A.cell 0
 have u1:Ce V (w.heap.size+1) 1 (aF bt):=A.cell 1
 have u2:Ce V (w.heap.size+1) 2 (.pointer none):=A.cell 2
 have u3:Ce V (w.heap.size+1) 3 (aB 0):=A.cell 3
 have u4:Ce V (w.heap.size+1) 4 (aB 0):=A.cell 4
 have u5:Ce V (w.heap.size+1) 5 (aB 0):=A.cell 5
 have u6:Ce V (w.heap.size+1) 6 (aB 0):=A.cell 6
 have u7:Ce V (w.heap.size+1) 7 (aB 0):=A.cell 7
 have u8:Ce V (w.heap.size+1) 8 (aB 0):=A.cell 8
 have u9:Ce V (w.heap.size+1) 9 (aB 0):=A.cell 9
 have o:Ce V (w.heap.size+1) 10 (aB 0):=A.cell 10
 have n:Ce V (w.heap.size+1) 11 .nilIface:=A.cell 11
 have l:Ce V (w.heap.size+1) 12 (.bool false):=A.cell 12
 have uz:∀x,V.frozen? (Ad (w.heap.size+1) x)=false:=A.fz
 have LM:bm≠w.heap.size+1:=by omega
 obtain⟨a4,a5,aa⟩:=bY N e P
 clear N e P A T
 go_wp2_with fail
 have S:¬w.heap.size=w.heap.size+1:=by omega
 refine(HD _ ?hx ?hx0 ?kx).mono ?_
 case hx=>exact AU a4
 case hx0=>
  repeat rw[Below.heap_setCell _ _ _ _ (by exact S)]
  exact a5
 case kx=>
  repeat(refine Below.setCell ?_ (show w.heap.size<=w.heap.size+1 by omega) _)
  exact aa
 rintro q C ⟨rfl,e',D,E,G,f,F,X,Q,hP⟩
 obtain⟨pf,cf,rfl⟩:=aI f.row
 have hE:=mw (w:=C) (bt:=bt) (f.cell)
 have a1:Ce C (w.heap.size+1) 1 (aF bt):=(aA G).cell 1
 have a6:Ce C (w.heap.size+1) 6 (aB e'.th):=(aA G).cell 6
 have a7:Ce C (w.heap.size+1) 7 (aB e'.kd):=(aA G).cell 7
 have a8:Ce C (w.heap.size+1) 8 (aB e'.pl):=(aA G).cell 8
 have a9:Ce C (w.heap.size+1) 9 (aB e'.ob):=(aA G).cell 9
 have ag:Ce C (w.heap.size+1) 10 (aB e'.fd):=(aA G).cell 10
 have a0:Ce C (w.heap.size+1) 11 (vI e'.vl):=(aA G).cell 11
 have af:Ce C (w.heap.size+1) 12 (.bool e'.en):=(aA G).cell 12
 have az:∀x,C.frozen? (Ad (w.heap.size+1) x)=false:=(aA G).fz
 have d0:Ce C w.heap.size 0 (aB 0):=(aA F).cell 0
 have d1:Ce C w.heap.size 1 (aB 0):=(aA F).cell 1
 have d2:Ce C w.heap.size 2 (aB 0):=(aA F).cell 2
 have d3:Ce C w.heap.size 3 (aB 0):=(aA F).cell 3
 have d4:Ce C w.heap.size 4 (aB 0):=(aA F).cell 4
 have d5:Ce C w.heap.size 5 .nilIface:=(aA F).cell 5
 have d6:Ce C w.heap.size 6 (.bool false):=(aA F).cell 6
 have dz:∀x,C.frozen? (Ad w.heap.size x)=false:=(aA F).fz
 obtain⟨HE,H3,HP⟩:=bY hE F (And.intro Q hP)
 have R:decide (E.length=0)=E.isEmpty:=by cases E<;>simp
 rw[R]at HE
 unfold vI at a0
 clear G f F Q hP hE R v0 v9 u0 u1 u2 u3 u4 u5 u6 u7 u8 u9 o n l uz
 go_wp2_with fail
 refine HE.mono ?_
 rintro q w3 ⟨rfl,T⟩
 subst w3
 go_wp2_with fail
 have h4:=(Below.heap_setCell C (Ad (w.heap.size+1) 12) (.bool E.isEmpty) w.heap.size S).trans H3
 have hN:=heap_setCell (heap_setCell (heap_setCell (heap_setCell (heap_setCell (heap_setCell (heap_setCell h4 0 (aB e'.th)) 1 (aB e'.kd)) 2 (aB e'.pl)) 3 (aB e'.ob)) 4 (aB e'.fd)) 5 (vI e'.vl)) 6 (.bool E.isEmpty)
 simp only[fT,fR,fQ]at hN
 refine bodyPost_ret (results_cell_row rfl _ _ w.heap.size 84 (tH {e' with en:=E.isEmpty}) (0,0) _ rfl hN Tryz.underlying84 rfl iT) rfl ⟨X,C,w.heap.size+1,e',_,E,rfl,by omega,HP.1,HP.2,?_⟩
 repeat(refine aC.setCell ?_ (by simp) _)
 exact aC.refl _ _
end
end
section
section
variable {w:World} {B bm bt bs bF gs N cs j:Nat} {s:Fs} {fv:Value} {t:List Fm}
theorem LA(A:cN w B bt fv []):Calls Tryz.prog 72 #[aF bm,aF bt] w (Rt w (.bool false)):=by
 obtain⟨pf,F,rfl⟩:=aI A.row
 have D:=aG (mw (w:=w) (bt:=bt) A.cell)
 clear A
 go_in
 go_wp2_with fail
 refine D.mono ?_
 rintro q C ⟨rfl,E⟩
 subst C
 go_wp2_with fail
 go_ret
 exact⟨rfl,Below.refl _ _⟩
theorem cN.kit(F:cN w B bt fv t)(D:t≠[]):∃g k,Hid (Ca 106 #[aF bt] w (Ru w (.bool false)))/\Hid (Ca 107 #[aF bt] w fun r w'=>r=.returned (Pt g (k*7))/\∃m,w'=w.drewN m)/\w.cell? (Ad g (k*7))=some (aB (cJ t).pl):=by
 obtain⟨g,k,c,K,E,G,H,A,J⟩:=F.open D
 have C:w.cell? (Ad bt 0)=some (.slice (some (Ad g 0)) (k+1) c):=by rw[<-E];exact F.cell
 refine⟨g,k,?_,sw C (by omega),A 0 (by omega)⟩
 have:=mw C
 rw[show decide (k+1=0)=false from rfl]at this
 exact this
theorem Lz(F:cN w B bt fv t)(D:t≠[])(C:(cJ t).pl=-1):Calls Tryz.prog 72 #[aF bm,aF bt] w (Rt w (.bool true)):=by
 obtain⟨g,k,J,E,G⟩:=F.kit D
 rw[C]at G
 clear F
 go_in
 go_wp2_with fail
 refine J.mono ?_
 rintro q A ⟨rfl,H⟩
 subst A
 go_wp2_with fail
 refine E.mono ?_
 rintro q A ⟨rfl,m,H⟩
 subst A
 go_wp2_with fail
 go_ret
 exact⟨rfl,aR (Below.refl _ _) _⟩
theorem Lx(T:cN w B bt fv t)(K:t≠[])(X:w.cell? (Ad bm 0)=some (aF bF))(J:(cJ t).pl=(j:Int))(W:w.cell? (Ad bF 3)=some (.slice (some (Ad gs 0)) N cs))(hj:j< N)(R:w.cell? (Ad gs (j*4))=some (aF bs))(Q:w.cell? (Ad gs (j*4+1))=some (aB s.fn))(P:w.cell? (Ad gs (j*4+2))=some (aB s.nx))(O:w.cell? (Ad gs (j*4+3))=some (aB s.ins))(S:AG w B bs s.p s.r)(h8:s.p.kind≠8)(h9:s.p.kind≠9):Calls Tryz.prog 72 #[aF bm,aF bt] w (Rt w (.bool true)):=by
 obtain⟨g,k,f,L,F⟩:=T.kit K
 rw[J]at F
 obtain⟨sr,sb,E,-,-⟩:=S.ex
 have G:Ce w bs 2 (aB s.p.kind):=E.cell 2
 have o:(0:Int)<=j:=by omega
 have n:(j:Int)< N:=by omega
 have l:((j:Int)==-1)=false:=by simp<;>omega
 have i:((s.p.kind:Int)==8)=false:=by simp;omega
 have h:((s.p.kind:Int)==9)=false:=by simp;omega
 have e:=aD G
 have M:Hid (∀V,Bw w V->Ce V bm 0 (aF bF)/\Ce V bF 3 (.slice (some (Ad gs 0)) N cs)/\Ce V gs (j*4) (aF bs)/\Ce V gs (j*4+1) (aB s.fn)/\Ce V gs (j*4+2) (aB s.nx)/\Ce V gs (j*4+3) (aB s.ins)/\Ce V bs 2 (aB s.p.kind)/\Ce V g (k*7) (aB j)):=fun V A=>⟨bc A X,bc A W,bc A R,bc A Q,bc A P,bc A O,bc A G,bc A F⟩
 clear T S E X W R Q P O G F e
 go_in
 go_wp2_with fail
 refine f.mono ?_
 rintro q Y ⟨rfl,H⟩
 subst Y
 go_wp2_with fail
 refine L.mono ?_
 rintro q V ⟨rfl,m,H⟩
 have A:Bw w V:=by rw[H];exact aR (Below.refl _ _) m
 obtain⟨d,c,b,x,v,u,a,Z⟩:=M V A
 have l1:bm< V.heap.size:=aD d
 have l2:bF< V.heap.size:=aD c
 have l3:gs< V.heap.size:=aD b
 have z:bs< V.heap.size:=aD a
 have y:g< V.heap.size:=aD Z
 have D:=aG A
 clear H A
 go_wp2_with fail
 go_ret
 refine⟨rfl,?_⟩
 have C:=D.size
 first|exact D.alloc C _|(repeat(refine Below.setCell ?_ C _));exact D.alloc C _
end
end
section
section
variable {w:World} {B bm bt bs bF gs N cs j lb n:Nat} {s:Fs} {fv:Value} {t:List Fm} {f:Int->Option Int}
theorem Lv(Y:cN w B bt fv t)(K:t≠[])(b:w.cell? (Ad bm 0)=some (aF bF))(J:(cJ t).pl=(j:Int))(a:w.cell? (Ad bF 3)=some (.slice (some (Ad gs 0)) N cs))(hj:j< N)(S:w.cell? (Ad gs (j*4))=some (aF bs))(R:w.cell? (Ad gs (j*4+1))=some (aB s.fn))(Q:w.cell? (Ad gs (j*4+2))=some (aB s.nx))(P:w.cell? (Ad gs (j*4+3))=some (aB s.ins))(T:AG w B bs s.p s.r)(h9:s.p.kind=9)(Z:w.cell? (Ad bm 4)=some (.map (some lb)))(L:bI km w lb n f)(a0:s.p.nn< 100):Calls Tryz.prog 72 #[aF bm,aF bt] w (Rt w (.bool (f (s.p.nn:Int)).isNone)):=by
 obtain⟨g,k,HE,M,G⟩:=Y.kit K
 rw[J]at G
 obtain⟨sr,sb,C,-,-⟩:=T.ex
 have F:Ce w bs 2 (aB s.p.kind):=C.cell 2
 have y3:(0:Int)<=j:=by omega
 have y4:(j:Int)< N:=by omega
 have y5:((j:Int)==-1)=false:=by simp<;>omega
 have D:Ce w bs 11 (aB s.p.nn):=C.cell 11
 rw[h9]at F
 obtain⟨x,c⟩:∃x,Hid (∀W,Bw w W->(Instr.lookup 188 (.map (some lb)) (aB s.p.nn) true).run Tryz.prog W=.ok (.tuple #[aB x,.bool (f (s.p.nn:Int)).isSome]) W):=by
  have:=fun W (k:Bw w W)=>(L.below k L.lt).get gh (t:=188) (e:=3) Tryz.underlying188 (z:=aB 0) (yr _) (zd:=.lit (.int .i64 0)) (gh.mke 0 (ud (n:=0) (by decide))) Cq (s.p.nn:Int) (ud (by omega))
  cases X:f (s.p.nn:Int)with
  |none=>rw[X]at this;exact⟨0,fun W k=>this W k⟩
  |some x=>rw[X]at this;exact⟨x,fun W k=>this W k⟩
 rw[show(f (s.p.nn:Int)).isNone= !(f (s.p.nn:Int)).isSome by cases f (s.p.nn:Int)<;>rfl]
 have l0:=aD F
 have O:Hid (∀V,Bw w V->Ce V bm 0 (aF bF)/\Ce V bF 3 (.slice (some (Ad gs 0)) N cs)/\Ce V gs (j*4) (aF bs)/\Ce V gs (j*4+1) (aB s.fn)/\Ce V gs (j*4+2) (aB s.nx)/\Ce V gs (j*4+3) (aB s.ins)/\Ce V bs 2 (aB ((9:Nat):Int))/\Ce V bs 11 (aB s.p.nn)/\Ce V bm 4 (.map (some lb))/\Ce V g (k*7) (aB j)):=fun V A=>⟨bc A b,bc A a,bc A S,bc A R,bc A Q,bc A P,bc A F,bc A D,bc A Z,bc A G⟩
 generalize(f (s.p.nn:Int)).isSome=bb at c⊢
 clear Y T C b a S R Q P F G l0 D Z L
 go_in
 go_wp2_with fail
 refine HE.mono ?_
 rintro q d ⟨rfl,H⟩
 subst d
 go_wp2_with fail
 refine M.mono ?_
 rintro q V ⟨rfl,m,H⟩
 have A:Bw w V:=by rw[H];exact aR (Below.refl _ _) m
 obtain⟨y,o,l,v5,v6,v7,i,v,u,h⟩:=O V A
 have l1:bm< V.heap.size:=aD y
 have l2:bF< V.heap.size:=aD o
 have l3:gs< V.heap.size:=aD l
 have l4:bs< V.heap.size:=aD i
 have l5:g< V.heap.size:=aD h
 have E:=aG A
 have a1:=c _ ((A.alloc A.size (.cells #[aF bs,aB s.fn,aB s.nx,aB s.ins] 253)).drew)
 clear H A
 go_wp2_with fail
 go_region
 all_goals go_wp2_with fail
 all_goals go_ret
 all_goals exact⟨rfl,(E.alloc E.size _).drew⟩
end
end
section
section
variable {w:World} {B bm bt bs bF gs N cs j o b2:Nat} {s:Fs} {fv tv fv2:Value} {t t2:List Fm} {a:Pa} {bts:List Nat}
theorem Lw(i:cN w B bt fv t)(Q:t≠[])(c0:w.cell? (Ad bm 0)=some (aF bF))(P:(cJ t).pl=(j:Int))(c3:w.cell? (Ad bF 3)=some (.slice (some (Ad gs 0)) N cs))(hj:j< N)(y:w.cell? (Ad gs (j*4))=some (aF bs))(x:w.cell? (Ad gs (j*4+1))=some (aB s.fn))(v:w.cell? (Ad gs (j*4+2))=some (aB s.nx))(u:w.cell? (Ad gs (j*4+3))=some (aB s.ins))(hs:AG w B bs s.p s.r)(h8:s.p.kind=8)(c4:w.cell? (Ad bm 1)=some tv)(Z:w.ownsRow B 194 1 tv bts.length (du bts))(L:s.r[0]?=some a)(hm:a.num< 6)(ho:cD (cJ t) a=(2,(o:Int)))(H:bts[o]?=some b2)(J:cN w B b2 fv2 t2):Calls Tryz.prog 72 #[aF bm,aF bt] w (Rt w (.bool t2.isEmpty)):=by
 obtain⟨g,k,HE,l,f⟩:=i.kit Q
 rw[P]at f
 obtain⟨sr,sb,F,C,-⟩:=hs.ex
 have X:Ce w bs 2 (aB s.p.kind):=F.cell 2
 have y3:(0:Int)<=j:=by omega
 have y4:(j:Int)< N:=by omega
 have y5:((j:Int)==-1)=false:=by simp<;>omega
 rw[h8]at X
 obtain⟨pt,ct,rfl⟩:=aI Z
 have a8:o< bts.length:=(List.getElem?_eq_some_iff.1 H).1
 obtain⟨E,rfl,O⟩:∃E,pt=some (Ad E 0)/\w.cell? (Ad E o)=some (aF b2):=by
  obtain⟨E,a9,he⟩:=aO Z (by omega)
  injection he with e1 e2 e3
  subst e1
  exact⟨E,rfl,cZ Z (by simp[du,H])⟩
 have a7:0< s.r.length:=(List.getElem?_eq_some_iff.1 L).1
 obtain⟨D,cr,rfl⟩:=aO C (by omega)
 have M:Ce w bs 12 (.slice (some (Ad D 0)) s.r.length cr):=F.cell 12
 have q0:Ce w D 0 (.string ⟨a.text.toArray⟩):=cZ C (by rw[jH L 0 (by omega)];rfl)
 have q1:Ce w D 1 (aB a.at_):=cZ C (by rw[jH L 1 (by omega)];rfl)
 have q2:Ce w D 2 (aB a.num):=cZ C (by rw[jH L 2 (by omega)];rfl)
 have z:Ce w D 3 (aB a.n):=cZ C (by rw[jH L 3 (by omega)];rfl)
 have HV:Hid (∀W,Bw w W->Calls Tryz.prog 108 #[aF bt,.agg #[.string ⟨a.text.toArray⟩,aB a.at_,aB a.num,aB a.n]] W (Rt W (vI (2,(o:Int))))):=fun W k=>by rw[<-ho];exact DN (i.below k) Q hm
 obtain⟨a5,aa,rfl⟩:=aI J.row
 have T:Hid (∀W,Bw w W->Calls Tryz.prog 106 #[aF b2] W (Ru W (.bool t2.isEmpty))):=fun W k=>by
  have:=mw (w:=W) (J.below k).cell
  rw[show decide (t2.length=0)=t2.isEmpty by cases t2<;>simp]at this
  exact this
 have y6:(0:Int)<=o:=by omega
 have y7:(o:Int)< bts.length:=by omega
 have y8:(0:Int)< s.r.length:=by omega
 unfold vI vT at HV
 have l0:=aD X
 have R:Hid (∀V,Bw w V->Ce V bm 0 (aF bF)/\Ce V bF 3 (.slice (some (Ad gs 0)) N cs)/\Ce V gs (j*4) (aF bs)/\Ce V gs (j*4+1) (aB s.fn)/\Ce V gs (j*4+2) (aB s.nx)/\Ce V gs (j*4+3) (aB s.ins)/\Ce V bs 2 (aB ((8:Nat):Int))/\Ce V bs 12 (.slice (some (Ad D 0)) s.r.length cr)/\Ce V bm 1 (.slice (some (Ad E 0)) bts.length ct)/\Ce V E o (aF b2)/\Ce V D 0 (.string ⟨a.text.toArray⟩)/\Ce V D 1 (aB a.at_)/\Ce V D 2 (aB a.num)/\Ce V D 3 (aB a.n)/\Ce V g (k*7) (aB j)):=fun V A=>⟨bc A c0,bc A c3,bc A y,bc A x,bc A v,bc A u,bc A X,bc A M,bc A c4,bc A O,bc A q0,bc A q1,bc A q2,bc A z,bc A f⟩
 generalize t2.isEmpty=bb at T⊢
 clear i hs F c0 c3 y x v u X f l0 M c4 C Z J O q0 q1 q2 z ho L H P
 go_in
 go_wp2_with fail
 refine HE.mono ?_
 rintro q c ⟨rfl,b⟩
 subst c
 go_wp2_with fail
 refine l.mono ?_
 rintro q V ⟨rfl,m,b⟩
 have A:Bw w V:=by rw[b];exact aR (Below.refl _ _) m
 obtain⟨v0,v3,v4,v5,v6,v7,v8,a4,a3,e,d,a2,a1,a0,v9⟩:=R V A
 have l1:bm< V.heap.size:=aD v0
 have l2:bF< V.heap.size:=aD v3
 have l3:gs< V.heap.size:=aD v4
 have l4:bs< V.heap.size:=aD v8
 have l5:g< V.heap.size:=aD v9
 have K:=aG A
 have l6:E< V.heap.size:=aD e
 have l7:D< V.heap.size:=aD d
 have G:=A.size
 clear b A
 go_wp2_with fail
 refine(HV _ (K.alloc G _)).mono ?_
 rintro q Y ⟨rfl,hY⟩
 have h:Bw w Y:=(K.alloc G _).trans (hY.mono (K.alloc G _).size)
 obtain⟨_,_,_,_,_,_,_,_,u1,u2,_,_,_,_,_⟩:=R Y h
 have a6:=FZ o Y
 have S:=aG h
 clear hY h
 go_wp2_with fail
 refine(T _ S).mono ?_
 rintro q c ⟨rfl,b⟩
 subst c
 go_wp2_with fail
 go_ret
 exact⟨rfl,S⟩
end
end
theorem Kk(h:c< n)(A:n< 1000)(w:World):Calls Tryz.prog 78 #[aB c,aB n] w (Ru w (aB c)):=by
 have E:decide ((c:Int)< 0)=false:=by simp
 have D:((n:Int)==0)=false:=by simp;omega
 have C:Int.tmod (c:Int) n=c:=by rw[Int.tmod_eq_emod_of_nonneg (by omega)];exact Int.emod_eq_of_lt (by omega) (by omega)
 have B:IntKind.i64.wrap (c:Int)=c:=yt (by omega)
 go_in
 go_wp2_with fail
 go_ret
 exact⟨rfl,rfl⟩
theorem vV:(Tryz.prog.info? 3).map (fun i=>(i.zero,i.size,i.bytes))=some (some (aB 0),1,8):=by kernel_rfl
def gE(r:Nat->Bool)(n:Nat):List Nat:=(List.range n).filter r
theorem zp(r:Nat->Bool)(n:Nat):gE r (n+1)=gE r n++(if r n then[n]else[]):=by
 unfold gE
 rw[List.range_succ,List.filter_append]
 cases h:r n<;>simp[h]
theorem Bv(r:Nat->Bool)(n:Nat):(gE r n).length<=n:=by
 have:=List.length_filter_le r (List.range n)
 simpa[gE]using this
def BX(l:List Nat):List Value:=l.map (fun(x:Nat)=>Value.int .i64 (x:Int))
theorem Ig{tv:Value}{l:List Nat}{r:Nat->Bool}(c1:w.cell? (Ad a 1)=some tv)(X:w.ownsRow B 194 1 tv l.length (du l))(hl:l.length< 100)(H:∀i b W,l[i]?=some b->Bw w W->Ca 72 #[aF a,aF b] W (Rt W (.bool (r i)))):
  Calls Tryz.prog 49 #[aF a] w fun q w'=>∃z,q=.returned z/\w'.ownsRow w.heap.size 3 1 z (gE r l.length).length (BX (gE r l.length))/\Bw w w':=by
 obtain⟨i0,hi,f,d,Z⟩:=pZ vV
 obtain⟨N,n⟩:=bM l.length
 rw[<-n]at X⊢
 obtain⟨pr,cr,rfl⟩:=aI X
 obtain⟨HV,HR,HN⟩:=bY H X n
 have a4:N< 100:=by omega
 clear X n hl H
 go_in
 go_wp2_with fail
 go_loopw [11,3] (fun i v wr=>∃j:Nat,i=aB j/\j<=N/\Hid (∃p c,v=.slice p (gE r j).length c)/\Hid (wr.ownsRow w.heap.size 3 1 v (gE r j).length (BX (gE r j))/\Bw w wr)) (fun i _ _=>N-(intOf i).toNat)
 case atStart=>exact⟨0,rfl,by omega,⟨none,0,rfl⟩,World.ownsRow_nil _ _ _ _,Below.refl _ _⟩
 case round=>
  obtain⟨j,rfl,hj,HS,F⟩:=hrel
  by_cases M:j=N
  ·have h:¬((j:Int)< (N:Int)):=by omega
   have HF:Hid (wr.ownsRow w.heap.size 3 1 u3 (gE r N).length (BX (gE r N))/\Bw w wr):=by
    have:=F.out
    rw[M]at this
    exact this
   clear M
   go_wp2_with fail
   go_ret
   exact⟨u3,rfl,HF⟩
  ·have a2:j< N:=by omega
   have h:(j:Int)< (N:Int):=by omega
   have a3:(0:Int)<=j:=by omega
   obtain⟨g,a5,e⟩:=aO HR (by omega)
   cases e
   obtain⟨b,m⟩:∃b,l[j]?=some b:=⟨_,List.getElem?_eq_getElem (by have:=HN.out;omega)⟩
   have O:=aP HR F.2
   have a0:Ce wr g j (aF b):=cZ O (by simp[du,m])
   obtain⟨R,L⟩:=aN (HV j b wr m F.2) (zp r j)
   have y:=Bv r j
   obtain⟨Y,o,rfl⟩:=HS
   clear O m M
   generalize P:(gE r j).length=V at *
   have Q:=aG P
   clear P
   cases J:r j
   ·rw[J]at R L
    clear J
    have K:Hid (∀G,Bw wr G->(∃p c,Value.slice Y V o=.slice p (gE r (j+1)).length c)/\G.ownsRow w.heap.size 3 1 (.slice Y V o) (gE r (j+1)).length (BX (gE r (j+1)))/\Bw w G):=fun G k=>by
     have e:gE r (j+1)=gE r j:=by rw[L.out];simp
     rw[e,Q.out]
     exact⟨⟨_,_,rfl⟩,aP F.1 k,F.2.trans (k.mono F.2.size)⟩
    go_wp2_with fail
    refine R.mono ?_
    rintro q G ⟨rfl,E⟩
    have T:=aG E
    clear E
    go_wp2_with fail
    go_roundw
    case rel=>exact⟨j+1,by go_num,by omega,K _ T⟩
    case measure=>simp[intOf];omega
   ·rw[J]at R L
    clear J
    go_wp2_with fail
    refine R.mono ?_
    rintro q G ⟨rfl,E⟩
    have T:=aG E
    have D:=aP F.1 T
    have a1:w.heap.size<=G.heap.size:=Nat.le_trans F.2.size T.size
    clear E a0 R
    go_wp2_with (at_builtin;refine bE rfl _ _ 30 rfl w.heap.size 3 i0 (aB 0) 1 8 Tryz.underlying30 hi f d Z rfl (by decide) _ _ _ rfl (D.alloc _) (Ad G.heap.size 0) 1 1 [aB j] rfl rfl (cF _ _ _ _ (by simp)) (by intro u x;simp at x;subst x;rfl) (by decide) (by unfold maxLen;omega) (by omega) (by simp;omega) ?_;intro t s A C _)
    have K:Hid ((∃p c,t=.slice p (gE r (j+1)).length c)/\s.ownsRow w.heap.size 3 1 t (gE r (j+1)).length (BX (gE r (j+1)))/\Bw w s):=by
     have e:gE r (j+1)=gE r j++[j]:=by rw[L.out];simp
     have e2:(gE r (j+1)).length=V+1:=by rw[e,List.length_append,Q.out];rfl
     have e3:BX (gE r (j+1))=BX (gE r j)++[aB j]:=by rw[e];simp[BX]
     rw[e2,e3]
     refine⟨aI A,A,?_⟩
     exact aC.to_below ((aC.of_below (S:=fun _=>False) (F.2.trans (T.mono F.2.size))).trans' (((aC.refl (fun i=>(Value.slice Y V o).ownBlock=some i) G).alloc _).grown C (fun k hk=>.inl hk)) (fun i e=>.inr (my D e)))
    clear A C D
    go_wp2_with fail
    go_roundw
    case rel=>exact⟨j+1,by go_num,by omega,K.1,K.2⟩
    case measure=>simp[intOf];omega
end Go.Proofs.YtajfbbldaiaolaaGreatDoor
