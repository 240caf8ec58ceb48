import Derived.Deep.MidRow
import Derived.DeepKeys
import Derived.Laws.StructEq
import Derived.Deep.LoopGhost
import Derived.Test.YtajfbbldaiaolaaGreatDoorQ18
import Derived.Test.YtajfbbldaiaolaaGreatDoorQ20
set_option linter.unusedSimpArgs false
set_option linter.unusedVariables false
set_option maxRecDepth 100000
set_option maxHeartbeats 4000000
namespace Go.Proofs.YtajfbbldaiaolaaGreatDoor
open Go.RowKit Go.Shelf
variable {B a b c d m n s t:Nat}{L l:List Nat}{w:World}{x:Rp}
section
section
variable {P:Program} {ops:Array Oper} {Q:Exit->Act->World->Prop} {l n:Nat}
def iQ(o:Oper):Bool:=match o.op with|.defer _=>false|_=>true
theorem xm{o:Oper}(h:iQ o=true):∀c,o.op≠.defer c:=fun c e=>by unfold iQ at h;rw[e]at h;cases h
theorem ph{o:Oper}{a:Act}{K:Act->World->Prop}{r:Result Next}(h:o.upon P a K Q r):o.uponIn (Fence.wide.inRound l) n P a K Q r:=by
 unfold Oper.upon at h
 unfold Oper.uponIn
 split at h
 ·exact h
 ·exact h
 ·exact h
 ·exact⟨fun e=>(by cases e),CallsIn.inRound l (callsIn_wide.2 h)⟩
 ·refine⟨fun e=>(by cases e),fun c A _=>?_⟩
  obtain⟨v,w',r,s⟩:=h c A
  exact⟨v,w',r,stepsIn_wide.2 s⟩
 ·exact h
 ·exact h.elim
theorem zc{i:Nat}{K:Act->World->Prop}{a:Act}(C:ops.all iQ=true)(D:¬LetsOut Q)(h:wpOp P ops Q i K a w):wpOpIn (Fence.wide.inRound l) n P ops Q i K a w:=by
 unfold wpOp at h
 unfold wpOpIn
 cases B:ops[i]? with
 |none=>rw[B]at h;exact h
 |some o=>
  rw[B]at h
  simp only at h⊢
  split
  ·rename_i A
   rw[if_pos A]at h
   rcases h with h|h
   ·refine⟨fun f _=>trivial,?_⟩
    have E:iQ o=true:=by
     have:=Array.all_eq_true'.1 C o (Array.mem_of_getElem? B)
     exact this
    rw[Oper.semAt_eq _ _ _ (xm E)]
    exact ph h
   ·exact absurd h.2 D
  ·rename_i A
   rw[if_neg A]at h
   exact⟨fun f _=>trivial,h⟩
theorem oZ{D:Region.Mode}(B:ops.all iQ=true)(C:¬LetsOut Q):∀(fuel:Nat) (A:Array Bool) (a:Act) (w:World),wpAny P D ops Q fuel A a w->wpAnyIn (Fence.wide.inRound l) n P D ops Q fuel A a w
 |0,_,_,_,h=>h
 |fuel+1,_,_,_,h=>⟨h.1,fun i E=>wpOpIn_mono (fun G w' F=>oZ B C fuel _ G w' F) (zc B C (h.2 i E))⟩
theorem fy{S:World->Prop}{a:Act}(C:P.follows .mixedOrders=true)(A:ops.all iQ=true)(B:¬LetsOut Q)(D:S w.drew)
  (h:S w.drew->wpAnyH P .any ops Q S ops.size (Array.replicate ops.size false) a w.drew):(Code.region b ops true).wpIn (Fence.wide.inRound l) n P Q a w:=
 wpIn_region_any C (oZ A B _ _ _ _ (wpAny_of_held _ _ _ _ (h D)))
theorem wF{S:World->Prop}{K:Act->World->Prop}{a:Act}(B:P.follows .mixedOrders=true)(A:ops.all iQ=true)(C:S w.drew)
  (h:S w.drew->wpAnyH P .any ops (Exit.then K (fun _ _ _=>False)) S ops.size (Array.replicate ops.size false) a w.drew):(Code.region b ops true).wpIn (Fence.wide.inRound l) n P (Exit.then K Q) a w:=
 yu (fy B A (fun⟨_,_,e⟩=>e) C h)
end
theorem tk{P:Program}{D:Region.Mode}{B:Array Oper}{Q:Exit->Act->World->Prop}{S:World->Prop}(i:Nat){C:Oper}{v:Value}{fuel:Nat}{A:Array Bool}{a:Act}(H:B[i]?=some C)(E:(Region.noSelect B&&Region.free D B A i&&(Region.ready D B A).contains i)=true)(K:∀c a w,Q (.panic c) (a.put C.dst v) w->Q (.panic c) a w)(J:S w)(G:Region.wanted C (yielded B a.tmps)=true)(F:∀w,S w->(execOp a.eval C).run P w=.ok (.value v) w)(h:wpAnyH P D B Q S fuel (A.setIfInBounds i true) (a.put C.dst v) w):wpAnyH P D B Q S (fuel+1) A a w:=by
 simp only[Bool.and_eq_true]at E
 exact wpAnyH_take H E.1.1 E.1.2 E.2 K (.inl ⟨G,F⟩) J h
theorem dF{P:Program}{D:Region.Mode}{B:Array Oper}{Q:Exit->Act->World->Prop}{S:World->Prop}(i:Nat){C:Oper}{v:Value}{fuel:Nat}{A:Array Bool}{a:Act}(h:wpAnyH P D B Q S fuel (A.setIfInBounds i true) (a.put C.dst v) w)(G:B[i]?=some C:=by rfl)(H:(Region.noSelect B&&Region.free D B A i&&(Region.ready D B A).contains i)=true:=by kernel_rfl)(K:∀c a w,Q (.panic c) (a.put C.dst v) w->Q (.panic c) a w:=by exact fun _ _ _ h=>h)(J:S w:=by assumption)(F:Region.wanted C (yielded B a.tmps)=true:=by rfl)(E:∀w,S w->(execOp a.eval C).run P w=.ok (.value v) w:=by intro _ h;(try dsimp only at h);go_simp;try with_reducible rfl):wpAnyH P D B Q S (fuel+1) A a w:=tk i G H K J F E h
theorem fO{α:Type}(l:List α)(i:Nat)(a:α):l.toArray.setIfInBounds i a=(l.set i a).toArray:=List.setIfInBounds_toArray ..
theorem fN{α:Type}(l:List α)(a b:α):(a::l).set 0 b=b::l:=rfl
theorem fM{α:Type}(l:List α)(n:Nat)(a b:α):(a::l).set (n+1) b=a::l.set n b:=rfl
end
section
attribute [local go_sem] Oper.semAt_some
theorem ka(a b:Int)(w:World):(Instr.field 297 (.agg #[aH a,aH b]) 0).run Tryz.prog w=.ok (aH a) w:=by kernel_rfl
theorem eo{β:Type}{S:Nat->Prop}(D:w.heap.size<=B):OwnFrom B (fun(_:β) W=>aC S w W):=fun _ X Y row A hg C=>A.grown hg (fun k e=>.inr (Nat.le_trans D (C k e).1))
theorem eG{β:Type}{A:β->Array Value}(E:b< B):OwnFrom B (fun(s:β) W=>aM W b (A s)):=fun s X Y row C hg D=>by
 have e:Y.heap[b]?=X.heap[b]?:=hg.block b C.lt (fun e=>by have:=(D b e.symm).1;omega)
 exact⟨fun j=>(World.cell?_of_block (a:=(Ad b j)) e).trans (C.cell j),fun j=>(World.frozen?_of_block (a:=(Ad b j)) e).trans (C.fz j),Nat.lt_of_lt_of_le C.lt hg.size⟩
theorem dH{W W':World}(k:aC (aK b) W W')(D:b< B):KeepsFrom B W W':=⟨k.size,fun i o C A _=>(k.block i (gl A) (fun e=>by have:i=b:=e;omega)).trans A⟩
theorem dW{W W':World}(k:aC (aK b) W W')(C:n<=b)(A:n<=W.heap.size):Below n W W':=⟨k.os,k.tape,k.output,k.size,fun i B=>k.block i (by omega) (fun e=>by have:i=b:=e;omega)⟩
theorem eK{α β:Type}(f:β->α->β)(z:β)(l:List α)(a:α):(l++[a]).foldl f z=f (l.foldl f z) a:=by rw[List.foldl_append];rfl
namespace Rp
def getF(x:Rp)(s:Nat)(ts l:List Nat):List Nat:=ts.foldl (fun l t=>fc l (x.st s).fn (x.st s).p (aQ l (35+t*2+(x.st s).p.side))) l
def getG(x:Rp)(l:List Nat)(s:Nat):List Nat:=x.getF s (et (dy l (x.st s).fn (x.st s).a0).1) l
end Rp
theorem Is{v:World}(h:cA v m x)(k:Bw v w)(hs:s< x.stmts.length)(aq:v.heap.size<=b)(hb:aM w b (aE l))(hl:l.length=104)(c1:w.cell? (Ad d 1)=some (aF m))(so:lz (x.st s))(hk:(x.st s).p.kind=4)(hr:0< (x.st s).r.length)(hT:Tz w)(hg:0< v.heap.size)(al:(dy l (x.st s).fn (x.st s).a0).1< ec)(h6:∀t,t< 64->(dy l (x.st s).fn (x.st s).a0).1.testBit t=true->t< 6):
  Ca 145 #[aF d,aF b,aB s] w fun q w'=>q=.returned (.tuple #[])/\aM w' b (aE (x.getG l s))/\aC (aK b) w w':=by
 obtain⟨g,c,D,sr,sb,z3,z4,z5,z6,z7,J,X,bk,a9,bl⟩:=h.stmO k hs
 have o:D≠b:=by omega
 have ap:=hb.lt
 have bn:d< w.heap.size:=aD c1
 have bm:m< w.heap.size:=aD z3
 have bo:g< w.heap.size:=aD z4
 have bg:=hs
 obtain⟨H,cr,rfl,an,ab⟩:=qu X hr
 have ao:H≠b:=by have:=a9 H rfl;omega
 have ak:(x.st s).a0.num< 6:=so.num _ (by unfold Fs.a0;rw[List.getD_eq_getElem?_getD,List.getElem?_eq_getElem hr];exact List.getElem_mem _)
 unfold Rp.getG Rp.getF
 have d2:w.cell? (Ad D 2)=some (aB 4):=by rw[J.cell 2];simp[bK,hk]
 have aa:=so.fn
 have am:=so.ln
 have SO:=aG so
 generalize x.st s=st at *
 have b9:=J.lt
 have R:Hid (∀w',aC (aK b) (ek w b D st.fn st.nx st.ins).drew w'->w'.cell? (Ad w.heap.size 0)=some (aF b)/\w'.cell? (Ad (w.heap.size+1) 0)=some (aF D)/\w'.cell? (Ad (w.heap.size+1) 1)=some (aB st.fn)/\w'.cell? (Ad (w.heap.size+1) 2)=some (aB st.nx)/\w'.cell? (Ad (w.heap.size+1) 3)=some (aB st.ins)/\w'.cell? (Ad D 7)=some (aB st.p.side)/\w'.cell? (Ad D 12)=some (.slice (some (Ad H 0)) st.r.length cr)/\w'.cell? (Ad H 0)=some (.string ⟨st.a0.text.toArray⟩)/\w'.cell? (Ad H 1)=some (aB st.a0.at_)/\w'.cell? (Ad H 2)=some (aB st.a0.num)/\w'.cell? (Ad H 3)=some (aB st.a0.n)):=fun w' N=>by
  have a8:aC (aK b) (ek w b D st.fn st.nx st.ins) w':=⟨N.os,N.tape,N.output,N.size,N.block⟩
  obtain⟨a1,a2,a3,a4,a5,a6⟩:=iS a8 ap J o
  have kw:=(aC.of_below (S:=aK b) (aU w b D st.fn st.nx st.ins)).trans' a8 (fun i e=>.inl e)
  obtain⟨b1,b2,b3,b4⟩:=ab w' (fun j=>kw.cell (p:=Ad H j) an ao)
  exact⟨a1,a2,a3,a4,a5,a6.cell 7,a6.cell 12,b1,b2,b3,b4⟩
 obtain⟨g0,g1,g2,g3,g4,g5,g6,g7,g8,g9,ac⟩:=R _ (aC.refl _ _)
 have G:aM (ek w b D st.fn st.nx st.ins).drew b (aE l):=hb.below (aU w b D st.fn st.nx st.ins).drew
 have aj:aM (ek w b D st.fn st.nx st.ins).drew D (bK st.p (.slice (some (Ad H 0)) st.r.length cr) sb):=J.below (aU w b D st.fn st.nx st.ins).drew
 have HD:Hid ((w.alloc (.cells #[aF b] 313)).alloc (.cells #[aF D,aB st.fn,aB st.nx,aB st.ins] 253)=(ek w b D st.fn st.nx st.ins)):=rfl
 have T:=aG (aU w b D st.fn st.nx st.ins)
 have bj:=ka
 have b7:=aG (qi (f:=st.fn) (a:=st.a0) G hl aa ak)
 have b0:Hid (aM (ek w b D st.fn st.nx st.ins) b (aE l)):=hb.below (aU w b D st.fn st.nx st.ins)
 have ai:=so.side
 have av:=aG J
 have bf:v.heap.size<=w.heap.size:=k.size
 clear h k J X a9 ab G aj hb so
 refine(callsIn_wide (n:=3)).1 ?_
 refine callsIn_of_wp_marks Tryz.func145 rfl trivial ?_ rfl
 simp only[Tryz.ntmps145,List.size_toArray,List.length_cons,List.length_nil,Nat.reduceAdd,Nat.reduceSub,Array.replicate_succ,Array.replicate_zero,List.push_toArray,List.append_toArray,List.nil_append,List.cons_append]
 gi_wp2
 rw[HD.out]
 refine wpIn_wide.2 ?_
 go_region_held3 (fun w'=>w'.cell? (Ad w.heap.size 0)=some (aF b)/\w'.cell? (Ad (w.heap.size+1) 0)=some (aF D)/\w'.cell? (Ad (w.heap.size+1) 1)=some (aB st.fn)/\w'.cell? (Ad (w.heap.size+1) 2)=some (aB st.nx)/\w'.cell? (Ad (w.heap.size+1) 3)=some (aB st.ins)/\w'.cell? (Ad D 7)=some (aB st.p.side)/\w'.cell? (Ad D 12)=some (.slice (some (Ad H 0)) st.r.length cr)/\w'.cell? (Ad H 0)=some (.string ⟨st.a0.text.toArray⟩)/\w'.cell? (Ad H 1)=some (aB st.a0.at_)/\w'.cell? (Ad H 2)=some (aB st.a0.num)/\w'.cell? (Ad H 3)=some (aB st.a0.n)) (first|exact⟨e0,e1,e2,e3,e4,e5,e6,e7,e8,e9,ad⟩|exact⟨g0,g1,g2,g3,g4,g5,g6,g7,g8,g9,ac⟩|go_keep) (first|(go_at_call 215;refine b7.mono ?_;rintro q w2 ⟨rfl,u⟩;have M:=aG u;obtain⟨e0,e1,e2,e3,e4,e5,e6,e7,e8,e9,ad⟩:=R _ (aC.of_below u);clear u)|(go_at_call 217;refine(callsIn_wide.1 (qv 2 _ _)).mono ?_;rintro e w' ⟨rfl,Z⟩;subst w'))
 all_goals
  obtain⟨y,Q⟩:=bM (w2.alloc (.cells #[aH (dy l st.fn st.a0).1] 178))
  have k2:Below (ek w b D st.fn st.nx st.ins).heap.size (ek w b D st.fn st.nx st.ins) y:=by
   rw[Q]
   exact(⟨M.os,M.tape,M.output,M.size,M.block⟩:Below (ek w b D st.fn st.nx st.ins).heap.size (ek w b D st.fn st.nx st.ins) w2).alloc M.size _
  have a7:Bw w y:=T.trans (k2.mono T.size)
  have bA:Boxed y w2.heap.size 178 (aH (dy l st.fn st.a0).1):=by rw[Q];exact Boxed.new _ _ _
  have ah:w2.heap.size< y.heap.size:=bA.lt
  have ag:(ek w b D st.fn st.nx st.ins).heap.size<=y.heap.size:=k2.size
  have bd:w.heap.size<=y.heap.size:=a7.size
  obtain⟨b6,ay⟩:=aN (b0.below k2) k2
  rw[<-Q]
  have bp:=aG Q
  clear Q k2 e0 e1 e2 e3 e4 e5 e6 e7 e8 e9 ad g0 g1 g2 g3 g4 g5 g6 g7 g8 g9 ac
  gi_wp2
  refine' wpIn_rangeFunc_ownG rfl (by decide) (gf:=280) (lb:=#[Pt w2.heap.size 0]) rfl trivial (enters_of Tryz.func280 (by kernel_rfl) rfl)
   (px 2 (by decide) w2.heap.size v.heap.size (dy l st.fn st.a0).1 al _ ah (by omega) hg bA.cell (hT.below a7)) belowK_t (belowK_b (by omega)) (Below.refl _ _) (fun _=>rfl)
   (fun O W=>aM W b (aE ((O.map (·.1)).foldl (fun l t=>fc l st.fn st.p (aQ l (35+t*2+st.p.side))) l))/\aC (aK b) (ek w b D st.fn st.nx st.ins) W)
   (fun _ _ _=>False)
   (OwnFrom.and (eG (by omega)) (eo ag))
   (fun _ _ _ _ _ hs _ _=>hs)
   ⟨b6,aC.of_below ay⟩ _ ?assign ?body ?done ?stop
  case assign=>
   intro lr z W K V
   gi_wp2
   exact V
  case body=>
   rintro lr O z W ⟨G,C⟩ bi
   have be:=h6 z.1 z.2.1 z.2.2
   have b8:((z.1:Nat):Int)< 6:=by omega
   have bh:((st.p.side:Nat):Int)< 2:=by omega
   have kd:aC (aK b) (ek w b D st.fn st.nx st.ins).drew W.drew:=⟨C.os,C.tape,C.output,C.size,C.block⟩
   obtain⟨g0,g1,g2,g3,g4,g5,-⟩:=R W.drew kd
   obtain⟨L,hL⟩:=bM ((O.map (·.1)).foldl (fun l t=>fc l st.fn st.p (aQ l (35+t*2+st.p.side))) l)
   have au:L.length=104:=by
    rw[hL]
    have:∀(ts l:List Nat),(ts.foldl (fun l t=>fc l st.fn st.p (aQ l (35+t*2+st.p.side))) l).length=l.length:=by
     intro ts
     induction ts with
     |nil=>intro l;rfl
     |cons t ts ih=>intro l;rw[List.foldl_cons,ih,zT]
    rw[this];exact hl
   rw[<-hL]at G
   have P:aM W.drew b (aE L):=G.below ⟨rfl,rfl,rfl,Nat.le_refl _,fun _ _=>rfl⟩
   have v0:W.drew.cell? (Ad b (70+z.1*4+st.p.side*2))=some (aH (aQ L (35+z.1*2+st.p.side)).1):=by
    rw[P.cell,show 70+z.1*4+st.p.side*2=2*(35+z.1*2+st.p.side)by omega]
    exact bU (by omega)
   have v1:W.drew.cell? (Ad b (70+z.1*4+st.p.side*2+1))=some (aH (aQ L (35+z.1*2+st.p.side)).2):=by
    rw[P.cell,show 70+z.1*4+st.p.side*2+1=2*(35+z.1*2+st.p.side)+1 by omega]
    exact bU (by omega)
   have az:=aG (rT (w:=W.drew) (f:=st.fn) (nx:=st.nx) (ins:=st.ins) (h:=aQ L (35+z.1*2+st.p.side)) P ((av.below T).kept (⟨C.os,C.tape,C.output,C.size,C.block⟩:aC (aK b) (ek w b D st.fn st.nx st.ins) W.drew) o) au o aa am)
   have aw:Hid (((O++[z]).map (·.1)).foldl (fun l t=>fc l st.fn st.p (aQ l (35+t*2+st.p.side))) l=fc L st.fn st.p (aQ L (35+z.1*2+st.p.side))):=by
    show _=_
    rw[List.map_append,hL]
    exact eK _ _ _ _
   generalize aQ L (35+z.1*2+st.p.side)=hv at *
   have af:=aG C
   have bb:b< W.drew.heap.size:=P.lt
   have ae:=R
   clear P G C kd hL R
   gi_wp2
   refine fy (S:=fun w'=>w'.cell? (Ad w.heap.size 0)=some (aF b)/\w'.cell? (Ad (w.heap.size+1) 0)=some (aF D)/\w'.cell? (Ad (w.heap.size+1) 1)=some (aB st.fn)/\w'.cell? (Ad (w.heap.size+1) 2)=some (aB st.nx)/\w'.cell? (Ad (w.heap.size+1) 3)=some (aB st.ins)/\w'.cell? (Ad D 7)=some (aB st.p.side)) (by kernel_rfl) (by kernel_rfl) (fun⟨_,_,e⟩=>e) (⟨g0,g1,g2,g3,g4,g5⟩) (fun F=>?_)
   refine dF 0 ?_
   refine dF 1 ?_
   refine dF 2 ?_
   refine dF 3 ?_
   refine dF 4 ?_
   refine dF 5 ?_
   refine dF 6 ?_
   refine dF 7 ?_
   refine dF 8 ?_
   refine dF 9 ?_
   refine dF 10 ?_
   refine dF 11 ?_
   refine dF 12 ?_
   try simp only[Act.put,fO,fN,fM]
   refine wpAnyH_ready (rs:=[13]) (by kernel_rfl) (by simp) ?_
   refine AllReadyH.cons rfl (fun K' V=>?_) AllReadyH.nil
   go_simp
   refine V _ _ ⟨g0,g1,g2,g3,g4,g5⟩ (fun E=>?_)
   clear V K' F
   have F:=E
   clear E
   try simp only[Act.put,fO,fN,fM]
   refine wpAnyH_ready (rs:=[14]) (by kernel_rfl) (by simp) ?_
   refine AllReadyH.cons rfl (fun K' V=>?_) AllReadyH.nil
   go_simp
   refine az.mono ?_
   rintro q w3 ⟨rfl,Z⟩
   have Y:aC (aK b) W w3:=⟨Z.2.os,Z.2.tape,Z.2.output,Z.2.size,Z.2.block⟩
   have N:=af.trans' Y (fun i e=>.inl e)
   obtain⟨e0,e1,e2,e3,e4,e5,-⟩:=ae w3 ⟨N.os,N.tape,N.output,N.size,N.block⟩
   try go_wp2_with fail
   refine V _ _ ⟨e0,e1,e2,e3,e4,e5⟩ (fun E=>?_)
   clear V K' F
   have F:=E
   clear E
   try simp only[Act.put,fO,fN,fM]
   refine wpAnyH_done (by kernel_rfl) ?_ _
   clear F
   have ar:v.heap.size<=W.heap.size:=by have:=af.size;have:=T.size;omega
   exact⟨dH Y (by omega),dW Y aq ar,by rw[aw.out];exact Z.1,N⟩
  case done=>
   rintro Dn ys W hD rfl ⟨G,C⟩ V
   obtain⟨b5,ax⟩:=aN G C
   clear G C
   gi_wp2
   refine⟨by simp,.inl ⟨_,_,rfl,run_takeDeferred V,?_⟩⟩
   refine⟨_,results_none rfl _ _ _,rfl,?_,?_⟩
   ·rw[<-dO]
    exact(eG (β:=Unit) (A:=fun _=>_) (B:=y.heap.size) (by omega)) () _ _ _ b5 (grownBy_putObj' W Dn _) (fun r e=>by cases e;exact⟨hD,_,V,rfl⟩)
   ·exact(aC.of_below (S:=aK b) T).trans' (ax.grown (grownBy_putObj' W Dn _) (fun r e=>by cases e;exact .inr (by omega))) (fun i e=>.inl e)
  case stop=>
   rintro Dn c O W _ _ h _
   exact h.elim
end
section
attribute [local go_sem] Oper.semAt_some
namespace Rp
def putF(x:Rp)(s:Nat)(ts l:List Nat):List Nat:=ts.foldl (fun l t=>addAt l (35+t*2+(x.st s).p.side) (dy l (x.st s).fn (x.st s).a0)) l
def putG(x:Rp)(l:List Nat)(s:Nat):List Nat:=x.putF s (et (aQ l ((x.st s).fn*6+(x.st s).p.ln)).1) l
end Rp
theorem Iq{v:World}(h:cA v m x)(k:Bw v w)(hs:s< x.stmts.length)(aw:v.heap.size<=b)(hb:aM w b (aE l))(hl:l.length=104)(c1:w.cell? (Ad d 1)=some (aF m))(so:lz (x.st s))(hk:(x.st s).p.kind=5)(hr:0< (x.st s).r.length)(hT:Tz w)(hg:0< v.heap.size)(ap:(aQ l ((x.st s).fn*6+(x.st s).p.ln)).1< ec)(h6:∀t,t< 64->(aQ l ((x.st s).fn*6+(x.st s).p.ln)).1.testBit t=true->t< 6):
  Ca 145 #[aF d,aF b,aB s] w fun q w'=>q=.returned (.tuple #[])/\aM w' b (aE (x.putG l s))/\aC (aK b) w w':=by
 obtain⟨g,c,C,sr,sb,z3,z4,z5,z6,z7,P,o,bq,ag,bt⟩:=h.stmO k hs
 have an:C≠b:=by omega
 have av:=hb.lt
 have bv:d< w.heap.size:=aD c1
 have bu:m< w.heap.size:=aD z3
 have bw:g< w.heap.size:=aD z4
 have bk:=hs
 obtain⟨H,cr,rfl,aq,ah⟩:=qu o hr
 have ar:H≠b:=by have:=ag H rfl;omega
 have ao:(x.st s).a0.num< 6:=so.num _ (by unfold Fs.a0;rw[List.getD_eq_getElem?_getD,List.getElem?_eq_getElem hr];exact List.getElem_mem _)
 unfold Rp.putG Rp.putF
 have d2:w.cell? (Ad C 2)=some (aB 5):=by rw[P.cell 2];simp[bK,hk]
 have au:=so.fn
 have bn:=so.ln
 have SO:=aG so
 generalize x.st s=st at *
 have bf:=P.lt
 have Y:Hid (∀w',aC (aK b) (ek w b C st.fn st.nx st.ins).drew w'->Ce w' w.heap.size 0 (aF b)/\Ce w' (w.heap.size+1) 0 (aF C)/\Ce w' (w.heap.size+1) 1 (aB st.fn)/\Ce w' C 5 (aB st.p.ln)/\Ce w' C 7 (aB st.p.side)/\Ce w' C 12 (.slice (some (Ad H 0)) st.r.length cr)/\Ce w' H 0 (.string ⟨st.a0.text.toArray⟩)/\Ce w' H 1 (aB st.a0.at_)/\Ce w' H 2 (aB st.a0.num)/\w'.cell? (Ad H 3)=some (aB st.a0.n)):=fun w' N=>by
  have ae:aC (aK b) (ek w b C st.fn st.nx st.ins) w':=⟨N.os,N.tape,N.output,N.size,N.block⟩
  obtain⟨a1,a2,a3,a4,a5,a6⟩:=iS ae av P an
  have kw:=(aC.of_below (S:=aK b) (aU w b C st.fn st.nx st.ins)).trans' ae (fun i e=>.inl e)
  obtain⟨b1,b2,b3,b4⟩:=ah w' (fun j=>kw.cell (p:=Ad H j) aq ar)
  exact⟨a1,a2,a3,a6.cell 5,a6.cell 7,a6.cell 12,b1,b2,b3,b4⟩
 obtain⟨g0,g1,g2,g3,g4,g5,g6,g7,g8,g9⟩:=Y _ (aC.refl _ _)
 have G:aM (ek w b C st.fn st.nx st.ins).drew b (aE l):=hb.below (aU w b C st.fn st.nx st.ins).drew
 have am:aM (ek w b C st.fn st.nx st.ins).drew C (bK st.p (.slice (some (Ad H 0)) st.r.length cr) sb):=P.below (aU w b C st.fn st.nx st.ins).drew
 have HD:Hid ((w.alloc (.cells #[aF b] 313)).alloc (.cells #[aF C,aB st.fn,aB st.nx,aB st.ins] 253)=(ek w b C st.fn st.nx st.ins)):=rfl
 have Z:=aG (aU w b C st.fn st.nx st.ins)
 have b6:Hid (aM (ek w b C st.fn st.nx st.ins) b (aE l)):=hb.below (aU w b C st.fn st.nx st.ins)
 have al:=so.side
 have bz:=aG P
 have bj:v.heap.size<=w.heap.size:=k.size
 have bp:((st.fn:Nat):Int)< 5:=by omega
 have bo:((st.p.ln:Nat):Int)< 6:=by omega
 have aa:(ek w b C st.fn st.nx st.ins).drew.cell? (Ad b (st.fn*12+st.p.ln*2))=some (aH (aQ l (st.fn*6+st.p.ln)).1):=by
  rw[G.cell,show st.fn*12+st.p.ln*2=2*(st.fn*6+st.p.ln)by omega]
  exact bU (by omega)
 have br:b< (ek w b C st.fn st.nx st.ins).drew.heap.size:=G.lt
 have J:Below (ek w b C st.fn st.nx st.ins).heap.size (ek w b C st.fn st.nx st.ins) ((ek w b C st.fn st.nx st.ins).alloc (.cells #[aH (aQ l (st.fn*6+st.p.ln)).1] 178)).drew:=(ba _ _).drew
 obtain⟨e0,e1,e2,e3,-⟩:=Y ((ek w b C st.fn st.nx st.ins).alloc (.cells #[aH (aQ l (st.fn*6+st.p.ln)).1] 178)).drew (aC.of_below ⟨J.os,J.tape,J.output,J.size,J.block⟩)
 have af:Ce ((ek w b C st.fn st.nx st.ins).alloc (.cells #[aH (aQ l (st.fn*6+st.p.ln)).1] 178)).drew b (st.fn*12+st.p.ln*2) (aH (aQ l (st.fn*6+st.p.ln)).1):=bc J aa
 clear h k P o ag ah G am hb so J
 refine(callsIn_wide (n:=3)).1 ?_
 refine callsIn_of_wp_marks Tryz.func145 rfl trivial ?_ rfl
 simp only[Tryz.ntmps145,List.size_toArray,List.length_cons,List.length_nil,Nat.reduceAdd,Nat.reduceSub,Array.replicate_succ,Array.replicate_zero,List.push_toArray,List.append_toArray,List.nil_append,List.cons_append]
 gi_wp2
 rw[HD.out]
 refine wpIn_wide.2 ?_
 go_region_held3 (fun w'=>(Ce w' w.heap.size 0 (aF b)/\Ce w' (w.heap.size+1) 0 (aF C)/\Ce w' (w.heap.size+1) 1 (aB st.fn)/\Ce w' C 5 (aB st.p.ln))/\Ce w' b (st.fn*12+st.p.ln*2) (aH (aQ l (st.fn*6+st.p.ln)).1)) (first|exact⟨⟨g0,g1,g2,g3⟩,aa⟩|exact⟨⟨e0,e1,e2,e3⟩,af⟩|go_keep) (first|(go_at_call 217;refine(callsIn_wide.1 (qv 2 _ _)).mono ?_;rintro e w' ⟨rfl,hq⟩;subst w'))
 all_goals
  obtain⟨W2,R⟩:=bM ((ek w b C st.fn st.nx st.ins).alloc (.cells #[aH (aQ l (st.fn*6+st.p.ln)).1] 178)).drew
  have y:Below (ek w b C st.fn st.nx st.ins).heap.size (ek w b C st.fn st.nx st.ins) W2:=by
   rw[R]
   exact((Below.refl (ek w b C st.fn st.nx st.ins).heap.size (ek w b C st.fn st.nx st.ins)).drew).alloc (Nat.le_refl _) _
  have ad:Bw w W2:=Z.trans (y.mono Z.size)
  have bA:Boxed W2 (ek w b C st.fn st.nx st.ins).heap.size 178 (aH (aQ l (st.fn*6+st.p.ln)).1):=by rw[R];exact Boxed.new (ek w b C st.fn st.nx st.ins) _ _
  have ak:(ek w b C st.fn st.nx st.ins).heap.size< W2.heap.size:=bA.lt
  have aj:(ek w b C st.fn st.nx st.ins).heap.size<=W2.heap.size:=y.size
  have bh:w.heap.size<=W2.heap.size:=ad.size
  obtain⟨b9,b5⟩:=aN (b6.below y) y
  rw[<-R]
  have bx:=aG R
  clear R y g0 g1 g2 g3 g4 g5 g6 g7 g8 g9 e0 e1 e2 e3 aa af
  gi_wp2
  refine' wpIn_rangeFunc_ownG rfl (by decide) (gf:=280) (lb:=#[Pt (ek w b C st.fn st.nx st.ins).heap.size 0]) rfl trivial (enters_of Tryz.func280 (by kernel_rfl) rfl)
   (px 2 (by decide) (ek w b C st.fn st.nx st.ins).heap.size v.heap.size (aQ l (st.fn*6+st.p.ln)).1 ap _ ak (by omega) hg bA.cell (hT.below ad)) belowK_t (belowK_b (by omega)) (Below.refl _ _) (fun _=>rfl)
   (fun Q W=>aM W b (aE ((Q.map (·.1)).foldl (fun l t=>addAt l (35+t*2+st.p.side) (dy l st.fn st.a0)) l))/\aC (aK b) (ek w b C st.fn st.nx st.ins) W)
   (fun _ _ _=>False)
   (OwnFrom.and (eG (by omega)) (eo aj))
   (fun _ _ _ _ _ hs _ _=>hs)
   ⟨b9,aC.of_below b5⟩ _ ?assign ?body ?done ?stop
  case assign=>
   intro lr z W K V
   gi_wp2
   exact V
  case body=>
   rintro lr Q z W ⟨G,F⟩ bm
   have bi:=h6 z.1 z.2.1 z.2.2
   have be:((z.1:Nat):Int)< 6:=by omega
   have bl:((st.p.side:Nat):Int)< 2:=by omega
   have kd:aC (aK b) (ek w b C st.fn st.nx st.ins).drew W.drew:=⟨F.os,F.tape,F.output,F.size,F.block⟩
   have T:Hid (∀w',aC (aK b) (ek w b C st.fn st.nx st.ins).drew w'->Ce w' w.heap.size 0 (aF b)/\Ce w' (w.heap.size+1) 0 (aF C)/\Ce w' (w.heap.size+1) 1 (aB st.fn)/\Ce w' C 7 (aB st.p.side)/\Ce w' C 12 (.slice (some (Ad H 0)) st.r.length cr)/\Ce w' H 0 (.string ⟨st.a0.text.toArray⟩)/\Ce w' H 1 (aB st.a0.at_)/\Ce w' H 2 (aB st.a0.num)/\w'.cell? (Ad H 3)=some (aB st.a0.n)):=fun w' N=>by
    obtain⟨a0,a1,a2,a3,a4,a5,a6,a7,a8,a9⟩:=Y w' N
    exact⟨a0,a1,a2,a4,a5,a6,a7,a8,a9⟩
   obtain⟨g0,g1,g2,g3,g4,g5,g6,g7,g8⟩:=T W.drew kd
   obtain⟨L,hL⟩:=bM ((Q.map (·.1)).foldl (fun l t=>addAt l (35+t*2+st.p.side) (dy l st.fn st.a0)) l)
   have ay:L.length=104:=by
    rw[hL]
    have:∀(ts l:List Nat),(ts.foldl (fun l t=>addAt l (35+t*2+st.p.side) (dy l st.fn st.a0)) l).length=l.length:=by
     intro ts
     induction ts with
     |nil=>intro l;rfl
     |cons t ts ih=>intro l;rw[List.foldl_cons,ih,jw]
    rw[this];exact hl
   rw[<-hL]at G
   have X:aM W.drew b (aE L):=G.below ⟨rfl,rfl,rfl,Nat.le_refl _,fun _ _=>rfl⟩
   have bb:=aG (qi (f:=st.fn) (a:=st.a0) X ay au ao)
   have bd:Hid (∀w2,Bw W.drew w2->Ca 216 #[Pt b (70+z.1*4+st.p.side*2),.agg #[aH (dy L st.fn st.a0).1,aH (dy L st.fn st.a0).2]] w2 fun r w'=>r=.returned (.tuple #[])/\aM w' b (aE (addAt L (35+z.1*2+st.p.side) (dy L st.fn st.a0)))/\aC (aK b) w2 w'):=fun w2 y=>rU (X.below y) (by omega) (by omega)
   have az:Hid (((Q++[z]).map (·.1)).foldl (fun l t=>addAt l (35+t*2+st.p.side) (dy l st.fn st.a0)) l=addAt L (35+z.1*2+st.p.side) (dy L st.fn st.a0)):=by
    show _=_
    rw[List.map_append,hL]
    exact eK _ _ _ _
   have ac:=aG F
   have bg:b< W.drew.heap.size:=X.lt
   clear X G F kd hL Y
   gi_wp2
   refine fy (S:=fun w'=>Ce w' w.heap.size 0 (aF b)/\Ce w' (w.heap.size+1) 0 (aF C)/\Ce w' (w.heap.size+1) 1 (aB st.fn)/\Ce w' C 7 (aB st.p.side)/\Ce w' C 12 (.slice (some (Ad H 0)) st.r.length cr)/\Ce w' H 0 (.string ⟨st.a0.text.toArray⟩)/\Ce w' H 1 (aB st.a0.at_)/\Ce w' H 2 (aB st.a0.num)/\Ce w' H 3 (aB st.a0.n)) (by kernel_rfl) (by kernel_rfl) (fun⟨_,_,e⟩=>e) (⟨g0,g1,g2,g3,g4,g5,g6,g7,g8⟩) (fun E=>?_)
   refine dF 0 ?_
   refine dF 1 ?_
   refine dF 2 ?_
   refine dF 3 ?_
   refine dF 4 ?_
   refine dF 5 ?_
   refine dF 6 ?_
   refine dF 7 ?_
   refine dF 8 ?_
   refine dF 9 ?_
   refine dF 10 ?_
   refine dF 11 ?_
   refine dF 12 ?_
   refine dF 13 ?_
   refine dF 14 ?_
   refine dF 15 ?_
   refine dF 16 ?_
   refine dF 17 ?_
   refine dF 18 ?_
   refine dF 19 ?_
   refine dF 20 ?_
   try simp only[Act.put,fO,fN,fM]
   refine wpAnyH_ready (rs:=[21]) (by kernel_rfl) (by simp) ?_
   refine AllReadyH.cons rfl (fun K' V=>?_) AllReadyH.nil
   go_simp
   refine bb.mono ?_
   rintro q w4 ⟨rfl,M⟩
   have b8:=aG M
   have u:aC (aK b) W w4:=aC.of_below ⟨M.os,M.tape,M.output,M.size,M.block⟩
   have O:=ac.trans' u (fun i e=>.inl e)
   obtain⟨e0,e1,e2,e3,e4,e5,e6,e7,e8⟩:=T w4 ⟨O.os,O.tape,O.output,O.size,O.block⟩
   have ai:=aG u
   clear M u O
   try go_wp2_with fail
   refine V _ _ ⟨e0,e1,e2,e3,e4,e5,e6,e7,e8⟩ (fun D=>?_)
   clear V K' E
   have E:=D
   clear D
   try simp only[Act.put,fO,fN,fM]
   refine wpAnyH_ready (rs:=[22]) (by kernel_rfl) (by simp) ?_
   refine AllReadyH.cons rfl (fun K' V=>?_) AllReadyH.nil
   go_simp
   refine(bd w4 b8).mono ?_
   rintro q w3 ⟨rfl,hq⟩
   have ab:aC (aK b) W w3:=ai.trans' hq.2 (fun i e=>.inl e)
   have N:=ac.trans' ab (fun i e=>.inl e)
   obtain⟨f0,f1,f2,f3,f4,f5,f6,f7,f8⟩:=T w3 ⟨N.os,N.tape,N.output,N.size,N.block⟩
   try go_wp2_with fail
   refine V _ _ ⟨f0,f1,f2,f3,f4,f5,f6,f7,f8⟩ (fun D=>?_)
   clear V K' E
   have E:=D
   clear D
   try simp only[Act.put,fO,fN,fM]
   refine wpAnyH_done (by kernel_rfl) ?_ _
   clear E
   have ax:v.heap.size<=W.heap.size:=by have:=ac.size;have:=Z.size;omega
   exact⟨dH ab (by omega),dW ab aw ax,by rw[az.out];exact hq.1,N⟩
  case done=>
   rintro Dn ys W hD rfl ⟨G,F⟩ V
   obtain⟨b7,b0⟩:=aN G F
   clear G F
   gi_wp2
   refine⟨by simp,.inl ⟨_,_,rfl,run_takeDeferred V,?_⟩⟩
   refine⟨_,results_none rfl _ _ _,rfl,?_,?_⟩
   ·rw[<-dO]
    exact(eG (β:=Unit) (A:=fun _=>_) (B:=W2.heap.size) (by omega)) () _ _ _ b7 (grownBy_putObj' W Dn _) (fun r e=>by cases e;exact⟨hD,_,V,rfl⟩)
   ·exact(aC.of_below (S:=aK b) Z).trans' (b0.grown (grownBy_putObj' W Dn _) (fun r e=>by cases e;exact .inr (by omega))) (fun i e=>.inl e)
  case stop=>
   rintro Dn c Q W _ _ h _
   exact h.elim
end
def lj(P:Program):List Field->Nat->Nat->Bool
 |[],o,n=>o==n
 |f::fs,o,n=>f.offset==o&&lj P fs (o+P.cellsOf f.type) n
def um(P:Program):Nat->TypeId->Bool
 |0,_=>false
 |d+1,t=>match P.underlying t with
  |some (.int .u64)=>P.cellsOf t==1
  |some (.array n e)=>um P d e&&P.cellsOf t==n*P.cellsOf e
  |some (.struct fs)=>fs.all (·.name != "_")&&lj P fs.toList 0 (P.cellsOf t)&&fs.toList.all (fun f=>um P d f.type)
  |_=>false
def lZ(l:List Nat):List Lit:=l.map (fun(a:Nat)=>Lit.int .u64 (a:Int))
theorem Cm{a b:List Nat}(h:lZ a=lZ b):a=b:=by
 induction a generalizing b with
 |nil=>cases b with
  |nil=>rfl
  |cons y b=>cases h
 |cons x a ih=>cases b with
  |nil=>cases h
  |cons y b=>
   simp only[lZ,List.map_cons,List.cons.injEq]at h
   obtain⟨A,B⟩:=h
   injection A with _ A
   rw[ih B]
   congr 1
   omega
theorem pD(l:List Nat)(k:Nat):(aX l).drop k=aX (l.drop k):=by simp[aX,List.map_drop]
theorem pC(l:List Nat)(k:Nat):(aX l).take k=aX (l.take k):=by simp[aX,List.map_take]
theorem cG(l:List Nat):(aX l).length=l.length:=by simp[aX]
theorem IG(s:Nat)(g:Nat->List Nat):∀(n:Nat) (l:List Nat),l.length=n*s->((List.range n).map (fun i=>(l.drop (i*s)).take s)).flatten=l:=by
 intro n
 induction n with
 |zero=>intro l A;simp at A;subst A;rfl
 |succ n ih=>
  intro l A
  rw[List.range_succ_eq_map,List.map_cons,List.flatten_cons,List.map_map]
  have B:(l.drop s).length=n*s:=by rw[List.length_drop,A,Nat.succ_mul];omega
  have e:(List.range n).map ((fun i=>(l.drop (i*s)).take s)∘Nat.succ)=(List.range n).map (fun i=>((l.drop s).drop (i*s)).take s):=by
   refine List.map_congr_left fun i _=>?_
   simp only[Function.comp,List.drop_drop,Nat.succ_mul]
   rw[Nat.add_comm s]
  rw[e,ih _ B,Nat.zero_mul,List.drop_zero,List.take_append_drop]
theorem rN{α β:Type}(f:α->Option β)(g:α->β):∀l:List α,(∀a∈l,f a=some (g a))->l.mapM f=some (l.map g):=by
 intro l
 induction l with
 |nil=>intro _;rfl
 |cons a l ih=>intro h;rw[List.mapM_cons,h a (by simp),ih (fun b A=>h b (by simp[A]))];rfl
theorem mX(L:List (List Nat)):(L.map lZ).flatten=lZ L.flatten:=by
 induction L with
 |nil=>rfl
 |cons a L ih=>simp only[List.map_cons,List.flatten_cons,ih];simp[lZ]
theorem qO(P:Program):∀(fs:List Field) (o n:Nat) (l:List Nat),lj P fs o n=true->l.length=n->(fs.map (fun f=>(l.drop f.offset).take (P.cellsOf f.type))).flatten=l.drop o:=by
 intro fs
 induction fs with
 |nil=>
  intro o n l h A
  simp only[lj,beq_iff_eq]at h
  rw[List.map_nil,List.flatten_nil,List.drop_of_length_le (by omega)]
 |cons f fs ih=>
  intro o n l h A
  simp only[lj,Bool.and_eq_true,beq_iff_eq]at h
  rw[List.map_cons,List.flatten_cons,ih _ n l h.2 A,h.1,<-List.drop_drop,List.take_append_drop]
theorem tK(P:Program):∀(fs:List Field) (o n:Nat),lj P fs o n=true->o<=n/\∀f∈fs,f.offset+P.cellsOf f.type<=n:=by
 intro fs
 induction fs with
 |nil=>intro o n h;simp only[lj,beq_iff_eq]at h;exact⟨by omega,fun f A=>by cases A⟩
 |cons g fs ih=>
  intro o n h
  simp only[lj,Bool.and_eq_true,beq_iff_eq]at h
  obtain⟨C,B⟩:=ih _ _ h.2
  refine⟨by omega,fun f A=>?_⟩
  rcases List.mem_cons.1 A with rfl|A
  ·omega
  ·exact B f A
theorem ot(P:Program):∀(d:Nat) (t:TypeId) (l:List Nat),um P d t=true->l.length=P.cellsOf t->(∀a∈l,a< ec)->P.keyLits d t (aX l)=some (lZ l):=by
 intro d
 induction d with
 |zero=>intro t l h;cases h
 |succ d ih=>
  intro t l h B E
  unfold um at h
  unfold Program.keyLits
  split at h
  ·rename_i C
   rw[beq_iff_eq]at h
   rw[h]at B
   obtain⟨a,rfl⟩:=List.length_eq_one_iff.1 B
   have D:=E a (by simp)
   have H:(Lit.int .u64 (a:Int)).wf=true:=by
    unfold ec at D
    exact WalkArith.wf_u64 (by omega)
   simp[C,aX,lZ,H]
  ·rename_i n e C
   simp only[Bool.and_eq_true,beq_iff_eq]at h
   have A:(aX l).length=P.cellsOf t:=by rw[cG];exact B
   simp only[C]
   rw[if_pos A,rN _ (fun i=>lZ ((l.drop (i*P.cellsOf e)).take (P.cellsOf e)))]
   ·rw[Option.map_some]
    congr 1
    rw[show(List.range n).map (fun i=>lZ ((l.drop (i*P.cellsOf e)).take (P.cellsOf e)))=((List.range n).map (fun i=>(l.drop (i*P.cellsOf e)).take (P.cellsOf e))).map lZ by rw[List.map_map];rfl,mX,IG (P.cellsOf e) (fun _=>[]) n l (by rw[B,h.2])]
   ·intro i J
    rw[pD,pC]
    have F:i< n:=List.mem_range.1 J
    refine ih e _ h.1 ?_ (fun a D=>E a (List.mem_of_mem_drop (List.mem_of_mem_take D)))
    rw[List.length_take,List.length_drop,B,h.2]
    have:(i+1)*P.cellsOf e<=n*P.cellsOf e:=Nat.mul_le_mul_right _ F
    rw[Nat.add_mul,Nat.one_mul]at this
    omega
  ·rename_i fs C
   simp only[Bool.and_eq_true]at h
   have A:(aX l).length=P.cellsOf t:=by rw[cG];exact B
   simp only[C]
   rw[if_pos ⟨A,h.1.1⟩,rN _ (fun f=>lZ ((l.drop f.offset).take (P.cellsOf f.type)))]
   ·rw[Option.map_some]
    congr 1
    rw[show fs.toList.map (fun f=>lZ ((l.drop f.offset).take (P.cellsOf f.type)))=(fs.toList.map (fun f=>(l.drop f.offset).take (P.cellsOf f.type))).map lZ by rw[List.map_map];rfl,mX,qO P fs.toList 0 _ l h.1.2 B,List.drop_zero]
   ·intro f G
    rw[pD,pC]
    refine ih f.type _ (List.all_eq_true.1 h.2 f G) ?_ (fun a D=>E a (List.mem_of_mem_drop (List.mem_of_mem_take D)))
    have:=(tK P _ _ _ h.1.2).2 f G
    rw[List.length_take,List.length_drop,B]
    omega
  ·cases h
structure Wd(n:Nat)(l:List Nat):Prop where
 len:l.length=n
 lt:∀a∈l,a< ec
theorem qo{P:Program}{t:TypeId}(D:um P d t=true)(H:P.keyTypeAt m t=true)(G:m<=10000)(F:P.cellsOf t=n)(E:∀A:Array Value,A.size=n->(Value.agg A).formed P t=true)(C:Wd n l)(B:Wd n L)(w:World):
  (Op.equalIn 10000 t (.agg (aE l)) (.agg (aE L))).run P w=.ok (decide (l=L)) w:=by
 have h:=run_equalIn_deep (P:=P) (10000-m) m t H w d d (.agg (aE l)) (.agg (aE L)) (lZ l) (lZ L) (E _ (by simp[aE,aX,C.len])) (E _ (by simp[aE,aX,B.len])) (ot P d t l D (by rw[C.len,F]) C.lt) (ot P d t L D (by rw[B.len,F]) B.lt)
 rw[Nat.sub_add_cancel G]at h
 obtain⟨r,K,J⟩:=h
 rw[K]
 congr 1
 rw[Bool.eq_iff_iff,J,decide_eq_true_iff]
 exact⟨Cm,fun e=>by rw[e]⟩
theorem vY:um Tryz.prog 6 304=true:=by kernel_rfl
theorem vZ:Tryz.prog.keyTypeAt 6 304=true:=by kernel_rfl
theorem oH:Tryz.prog.cellsOf 304=104:=by kernel_rfl
theorem we(A:Array Value)(h:A.size=104):(Value.agg A).formed Tryz.prog 304=true:=by
 unfold Value.formed
 simp only[Tryz.underlying304,oH,h]
 rfl
theorem qQ(B:Wd 104 l)(A:Wd 104 L)(w:World):(binOp .neq 304 (.agg (aE l)) (.agg (aE L))).run Tryz.prog w=.ok (.bool (!decide (l=L))) w:=by
 rw[run_neq_struct,qo vY vZ (by decide) oH we B A]
 rfl
structure ke(P:Program)(t:TypeId)(n:Nat):Prop where
 hu:∃d,P.underlying t=some d/\d.isRow=true
 hi:(P.info? t).map (·.size)=some n
theorem md(l:List Nat):(aE l).toList=aX l:=by simp[aE]
theorem pc(l:List Nat):(aE l).all (·.oneCell')=true:=by
 refine all_oneCell_toArray (fun v A=>?_)
 simp only[aX,List.mem_map]at A
 obtain⟨a,_,rfl⟩:=A
 rfl
theorem rZ(h:aM w b (aE l)):w.rangeAt b 0 (aX l):=fun j v A=>by
 rw[Nat.zero_add,h.cell]
 simpa[aE]using A
def iO(A:Array Value):Nat->List Value->Array Value
 |_,[]=>A
 |o,v::r=>iO (A.setIfInBounds o v) (o+1) r
theorem jF:∀(vs:List Value) (A:Array Value) (o:Nat),(iO A o vs).size=A.size:=by
 intro vs
 induction vs with
 |nil=>intro A o;rfl
 |cons v r ih=>intro A o;show(iO _ _ r).size=_;rw[ih];simp
theorem nO:∀(vs:List Value) (A:Array Value) (o j:Nat),j< A.size->(iO A o vs)[j]?=if o<=j/\j< o+vs.length then vs[j-o]? else A[j]?:=by
 intro vs
 induction vs with
 |nil=>intro A o j _;rw[if_neg (by simp)];rfl
 |cons v r ih=>
  intro A o j B
  show(iO _ _ r)[j]?=_
  rw[ih _ _ _ (by simpa using B)]
  by_cases D:j=o
  ·subst D
   rw[if_neg (by omega),if_pos (by simp),Nat.sub_self]
   simp[B]
  ·by_cases C:o+1<=j/\j< o+1+r.length
   ·rw[if_pos C,if_pos (by simp;omega),show j-o=(j-(o+1))+1 by omega,List.getElem?_cons_succ]
   ·rw[if_neg C,if_neg (by simp;omega),Array.getElem?_setIfInBounds_ne (by omega)]
theorem lE(A:Array Value)(vs:List Value)(h:A.size=vs.length):iO A 0 vs=vs.toArray:=by
 refine Array.ext_getElem? fun j=>?_
 by_cases B:j< A.size
 ·rw[nO _ _ _ _ B,if_pos (by omega)];simp
 ·rw[Array.getElem?_eq_none (by rw[jF];omega),Array.getElem?_eq_none (by simp;omega)]
theorem eJ{t:TypeId}{C:Nat×Nat}:∀(vs:List Value) (o:Nat) (A:Array Value) (w:World),w.heap[b]?=some (.cells A t C)->(w.setCells b o vs).heap[b]?=some (.cells (iO A o vs) t C)/\aC (aK b) w (w.setCells b o vs):=by
 intro vs
 induction vs with
 |nil=>intro o A w h;exact⟨h,aC.refl _ _⟩
 |cons v r ih=>
  intro o A w h
  have B:=ih (o+1) _ _ (heap_set (j:=o) (u:=v) h)
  exact⟨B.1,((aC.refl _ w).set1 o v).trans B.2⟩
theorem gp{P:Program}{B:Array Oper}{A:List Oper}{op:Oper}{a:Act}{Q:Exit->Act->World->Prop}(C:op.guard=none)(T:ke P t n)(x:Operand)(E:op.op=.load t x)(D:a.eval x=Pt b 0)(G:aM w b (aE l))(F:Hid (l.length=n))
  (h:wpList P B Q A (a.put op.dst (.agg (aE l))) w):wpList P B Q (op::A) a w:=by
 obtain⟨d,J,H⟩:=T.hu
 exact wpList_load_mid C t x E b 0 D (aX l) d (rZ G) J H (by rw[T.hi,cG,F.out]) h
theorem gQ{P:Program}{C:Array Oper}{B:List Oper}{op:Oper}{a:Act}{Q:Exit->Act->World->Prop}{A:Array Value}(E:op.guard=none)(T:ke P t n)(x y:Operand)(K:op.op=.store t x y)(J:a.eval x=Pt b 0)(H:a.eval y=.agg (aE l))(D:Hid (l.length=n))(G:w.heap[b]?=some (.cells A c (0,0)))(M:A.size=n)
  (h:Hid (∀w',w'.heap[b]?=some (.cells (aE l) c (0,0))->aC (aK b) w w'->wpList P C Q B (a.put op.dst undef) w')):wpList P C Q (op::B) a w:=by
 have F:=aA G
 refine wpList_store_mid E t x y K b 0 (aE l) J H (fun j L=>?_) (by rw[T.hi,aS,D.out]) (pc l) ?_
 ·rw[aS,D.out]at L
  rw[Nat.zero_add,F.cell,F.fz]
  exact⟨by rw[Array.getElem?_eq_getElem (by omega)];rfl,rfl⟩
 ·have:=eJ (b:=b) (aE l).toList 0 A w G
  refine h _ ?_ this.2
  rw[this.1,lE _ _ (by rw[md,cG,D.out];exact M)]
theorem jQ:ke Tryz.prog 304 104:=⟨⟨_,Tryz.underlying304,rfl⟩,by kernel_rfl⟩
theorem oE:Tryz.zeroCells304.size=104:=by kernel_rfl
theorem tR:Tryz.zeroCells304=aE (List.replicate 104 0):=by kernel_rfl
def dC(f:List Nat->List Nat):Nat->List Nat->Option (List Nat)
 |0,v=>if f v=v then some v else none
 |k+1,v=>if f v=v then some v else dC f k (f v)
abbrev oI:Array Value:=#[.int .u64 0,.int .u64 0,.int .u64 0,.int .u64 0,.int .u64 0,.int .u64 0,.int .u64 0,.int .u64 0,.int .u64 0,.int .u64 0,.int .u64 0,.int .u64 0,.int .u64 0,.int .u64 0,.int .u64 0,.int .u64 0,.int .u64 0,.int .u64 0,.int .u64 0,.int .u64 0,.int .u64 0,.int .u64 0,.int .u64 0,.int .u64 0,.int .u64 0,.int .u64 0,.int .u64 0,.int .u64 0,.int .u64 0,.int .u64 0,.int .u64 0,.int .u64 0,.int .u64 0,.int .u64 0,.int .u64 0,.int .u64 0,.int .u64 0,.int .u64 0,.int .u64 0,.int .u64 0,.int .u64 0,.int .u64 0,.int .u64 0,.int .u64 0,.int .u64 0,.int .u64 0,.int .u64 0,.int .u64 0,.int .u64 0,.int .u64 0,.int .u64 0,.int .u64 0,.int .u64 0]
theorem wD:oI.size=53:=rfl
theorem Jo:oI=aE (List.replicate 53 0):=rfl
theorem lO:ke Tryz.prog 229 53:=⟨⟨_,Tryz.underlying229,rfl⟩,by kernel_rfl⟩
theorem Dg:um Tryz.prog 6 229=true:=by kernel_rfl
theorem Di:Tryz.prog.keyTypeAt 6 229=true:=by kernel_rfl
theorem vO:Tryz.prog.cellsOf 229=53:=by kernel_rfl
theorem Dl(A:Array Value)(h:A.size=53):(Value.agg A).formed Tryz.prog 229=true:=by
 unfold Value.formed
 simp only[Tryz.underlying229,vO,h]
 rfl
theorem xX(B:Wd 53 l)(A:Wd 53 L)(w:World):(binOp .neq 229 (.agg (aE l)) (.agg (aE L))).run Tryz.prog w=.ok (.bool (!decide (l=L))) w:=by
 rw[run_neq_struct,qo Dg Di (by decide) vO Dl B A]
 rfl
theorem nZ:ke Tryz.prog 233 53:=⟨⟨_,Tryz.underlying233,rfl⟩,by kernel_rfl⟩
theorem Df:um Tryz.prog 6 233=true:=by kernel_rfl
theorem Dh:Tryz.prog.keyTypeAt 6 233=true:=by kernel_rfl
theorem vN:Tryz.prog.cellsOf 233=53:=by kernel_rfl
theorem Dk(A:Array Value)(h:A.size=53):(Value.agg A).formed Tryz.prog 233=true:=by
 unfold Value.formed
 simp only[Tryz.underlying233,vN,h]
 rfl
theorem xW(B:Wd 53 l)(A:Wd 53 L)(w:World):(binOp .neq 233 (.agg (aE l)) (.agg (aE L))).run Tryz.prog w=.ok (.bool (!decide (l=L))) w:=by
 rw[run_neq_struct,qo Df Dh (by decide) vN Dk B A]
 rfl
abbrev nI{t n:Nat}(_:ke Tryz.prog t n):Nat:=t
abbrev nE{t n:Nat}(_:ke Tryz.prog t n):Nat:=n
abbrev zE{z:Array Value}{n:Nat}(_:z.size=n):Array Value:=z
theorem wS{z:Array Value}(hq:b=142/\t=304/\n=104/\z=Tryz.zeroCells304\/b=223/\t=229/\n=53/\z=oI\/b=229/\t=233/\n=53/\z=oI)(B:ke Tryz.prog t n)(Y:z.size=n)(j:∀(xs ys:List Nat),Wd n xs->Wd n ys->∀w:World,(binOp .neq t (.agg (aE xs)) (.agg (aE ys))).run Tryz.prog w=.ok (.bool (!decide (xs=ys))) w)(v R:List Nat)(k0:Nat)(f:List Nat->List Nat)(G:List Nat->Prop)(k:FuncId)(bs q:Array Value)(w:World)(hv:Wd n v)(hG:G v)(hf:∀y,Wd n y->G y->Wd n (f y)/\G (f y))(hR:dC f k0 v=some R)
  (hk:∀(y:List Nat) (W:World),Wd n y->G y->Bw w W->Ca k (bs++#[.agg (aE y)]++q) W (Rt W (.agg (aE (f y)))))
  (he:∀args w,(callFunc k args).run Tryz.prog w=.ok (.enter k args) w):
  Calls Tryz.prog b #[.agg (aE v),.func (.func k) bs q] w (Rt w (.agg (aE R))):=by
 obtain⟨HK,HR,HF,HG,HV⟩:=ma hk hR hf hG hv
 have ag:Hid (v.length=n):=hv.len
 have aa:Hid ((f v).length=n):=(hf v hv hG).1.len
 have s:Bw w ((w.alloc (.cells (aE v) t)).alloc (.cells z t)):=(ba w _).alloc (by simp) _
 have H1:=aG (hk v _ hv hG s)
 have L:aM ((w.alloc (.cells (aE v) t)).alloc (.cells z t)) w.heap.size (aE v):=(aM.new w _ _).alloc _
 have a1:Hid (((w.alloc (.cells (aE v) t)).alloc (.cells z t)).heap[w.heap.size]?=some (.cells (aE v) t (0,0))/\((w.alloc (.cells (aE v) t)).alloc (.cells z t)).heap[w.heap.size+1]?=some (.cells z t (0,0))):=⟨(Below.heap_alloc _ _ _ (by simp)).trans (heap_alloc_new w _),by have:=heap_alloc_new (w.alloc (.cells (aE v) t)) (.cells z t);rw[World.size_alloc]at this;exact this⟩
 obtain⟨a3,ai⟩:=aN s j
 clear hk hR hf hG hv s j
 rcases hq with⟨rfl,rfl,rfl,rfl⟩|⟨rfl,rfl,rfl,rfl⟩|⟨rfl,rfl,rfl,rfl⟩
 all_goals
  go_in
  go_wp2_with (first|(refine gp rfl B _ rfl rfl (by assumption) (by assumption) ?_))
  refine H1.mono ?_
  rintro r T ⟨rfl,P⟩
  have al:=aG P
  have S:Hid (T.heap[w.heap.size]?=some (.cells (aE v) (nI B) (0,0))/\T.heap[w.heap.size+1]?=some (.cells (zE Y) (nI B) (0,0))/\Bw w T):=⟨(P.block _ (by simp;omega)).trans a1.1,(P.block _ (by simp)).trans a1.2,a3.trans (P.mono a3.size)⟩
  clear P L a1 a3 al
  go_wp2_with (first|(refine gQ rfl B _ _ rfl rfl rfl aa (heap_alloc_new T _) Y ?_))
  show∀w':World,_
  intro w2 a5 K
  have HI:Hid (w2.heap[w.heap.size]?=some (.cells (aE v) (nI B) (0,0))/\(∃A,w2.heap[w.heap.size+1]?=some (.cells A (nI B) (0,0))/\A.size=nE B)/\w2.heap[T.heap.size]?=some (.cells (aE (f v)) (nI B) (0,0))/\w.heap.size+1< T.heap.size/\Bw w w2):=by
   have hz:=(gl S.2.1)
   have J:∀i,i< T.heap.size->w2.heap[i]?=T.heap[i]?:=fun i l=>(K.block i (by simp;omega) (by show¬i=T.heap.size;omega)).trans (Below.heap_alloc _ _ _ l)
   refine⟨(J _ (by omega)).trans S.1,⟨_,(J _ hz).trans S.2.1,Y⟩,a5,hz,?_⟩
   exact S.2.2.trans ⟨K.os,K.tape,K.output,Nat.le_trans (by simp) K.size,fun i l=>J i (by omega)⟩
  clear a5 K S H1
  go_wp2_with fail
  go_loopg [5] k0 (fun g a wr=>∃(y:List Nat) (p:Nat),a=Pt p 0/\Hid (dC f g y=some R)/\Hid (Wd (nE B) y/\G y)/\Hid (wr.heap[w.heap.size]?=some (.cells (aE y) (nI B) (0,0))/\(∃A,wr.heap[w.heap.size+1]?=some (.cells A (nI B) (0,0))/\A.size=nE B)/\wr.heap[p]?=some (.cells (aE (f y)) (nI B) (0,0))/\w.heap.size+1< p/\Bw w wr))
  case atStart=>exact⟨v,T.heap.size,rfl,HR,⟨HV,HG⟩,HI⟩
  case round=>
   obtain⟨y,p,rfl,HS,HW,V⟩:=hrel
   have M:Hid (y.length=nE B):=HW.1.len
   have Z:=HF y HW.1 HW.2
   have D:Hid ((f y).length=nE B):=Z.1.len
   have L:aM wr w.heap.size (aE y):=aA V.1
   have O:aM wr p (aE (f y)):=aA V.2.2.1
   have hq:=ai _ _ Z.1 HW.1
   have Q:=aG Z
   clear Z ag aa
   by_cases e:f y=y
   ·have F:(!decide (f y=y))=false:=by simp[e]
    have HX:Hid (y=R):=by
     have:=HS.out
     show y=R
     cases gk<;>simpa[dC,e]using this
    have a8:∀W:World,(binOp .neq (nI B) (.agg (aE (f y))) (.agg (aE y))).run Tryz.prog W=.ok (.bool false) W:=fun W=>by rw[hq W,F]
    obtain⟨A,hA,a0⟩:=V.2.1
    clear e hq F
    go_wp2_with (first|(refine gp rfl B _ rfl rfl O D ?_)|(refine gp rfl B _ rfl rfl L M ?_)|(refine gQ rfl B _ _ rfl rfl rfl M hA a0 ?_))
    show∀w':World,_
    intro E c C
    have ak:Hid (Bw w E):=V.2.2.2.2.trans (by
     have:=V.2.2.2.2.size
     exact⟨C.os,C.tape,C.output,C.size,fun i l=>C.block i (by omega) (by show¬i=w.heap.size+1;omega)⟩)
    have af:(Tryz.prog.info? (nI B)).map (·.size)=some (aE y).size:=by rw[aS,M.out];exact B.hi
    clear C L O hA
    go_wp2_with fail
    refine bodyPost_ret (results_cell_row rfl _ _ (w.heap.size+1) (nI B) (aE y) (0,0) _ rfl c (by first|exact Tryz.underlying304|exact Tryz.underlying229|exact Tryz.underlying233) rfl af) rfl ⟨by rw[<-HX.out],ak⟩
   ·have F:(!decide (f y=y))=true:=by simp[e]
    obtain⟨g',rfl,ah⟩:∃g',gk=g'+1/\Hid (dC f g' (f y)=some R):=by
     have:=HS.out
     cases gk with
     |zero=>simp[dC,e]at this
     |succ g'=>exact⟨g',rfl,by show dC f g' (f y)=some R;simpa[dC,e]using this⟩
    have a8:∀W:World,(binOp .neq (nI B) (.agg (aE (f y))) (.agg (aE y))).run Tryz.prog W=.ok (.bool true) W:=fun W=>by rw[hq W,F]
    have a7:=V.1
    have ae:(aE y).size=nE B:=by rw[aS,M.out]
    clear e hq F
    go_wp2_with (first|(refine gp rfl B _ rfl rfl O D ?_)|(refine gp rfl B _ rfl rfl L M ?_)|(refine gQ rfl B _ _ rfl rfl rfl D a7 ae ?_))
    show∀w':World,_
    intro E c C
    have m:aM E p (aE (f y)):=O.kept C (by have:=V.2.2.2.1;show¬p=w.heap.size;omega)
    have ac:Hid (E.heap[w.heap.size]?=some (.cells (aE (f y)) (nI B) (0,0))/\(∃A,E.heap[w.heap.size+1]?=some (.cells A (nI B) (0,0))/\A.size=nE B)/\w.heap.size+1< E.heap.size/\Bw w E):=by
     obtain⟨A,hA,a0⟩:=V.2.1
     have hz:=(gl hA)
     refine⟨c,⟨A,(C.block _ hz (by show¬w.heap.size+1=w.heap.size;omega)).trans hA,a0⟩,Nat.lt_of_lt_of_le hz C.size,V.2.2.2.2.trans ⟨C.os,C.tape,C.output,C.size,fun i l=>C.block i (by omega) (by show¬i=w.heap.size;omega)⟩⟩
    clear c C L O a7 a8 V
    go_wp2_with (first|(refine gp rfl B _ rfl rfl m D ?_)|(refine gQ rfl B _ _ rfl rfl rfl D (heap_alloc_new E _) Y ?_))
    show∀w':World,_
    intro X u N
    have am:E.heap.size< X.heap.size:=(gl u)
    have d:Hid (X.heap[w.heap.size]?=some (.cells (aE (f y)) (nI B) (0,0))/\(∃A,X.heap[w.heap.size+1]?=some (.cells A (nI B) (0,0))/\A.size=nE B)/\X.heap[E.heap.size]?=some (.cells (aE (f y)) (nI B) (0,0))/\w.heap.size+1< E.heap.size/\Bw w X):=by
     obtain⟨q1,⟨A,q2,q3⟩,q4,q5⟩:=ac
     have J:∀i,i< E.heap.size->X.heap[i]?=E.heap[i]?:=fun i l=>(N.block i (by simp;omega) (by show¬i=E.heap.size;omega)).trans (Below.heap_alloc _ _ _ l)
     exact⟨(J _ (by omega)).trans q1,⟨A,(J _ q4).trans q2,q3⟩,u,q4,q5.trans ⟨N.os,N.tape,N.output,by omega,fun i l=>J i (by omega)⟩⟩
    have ab:aM X w.heap.size (aE (f y)):=aA d.1
    have HC:=aG (HK (f y) X Q.1 Q.2 d.2.2.2.2)
    have a9:Hid ((f (f y)).length=nE B):=(HF _ Q.1 Q.2).1.len
    clear u N m ac
    go_wp2_with (first|(refine gp rfl B _ rfl rfl ab D ?_))
    refine HC.mono ?_
    rintro r w5 ⟨rfl,x⟩
    have a2:Hid (w5.heap[w.heap.size]?=some (.cells (aE (f y)) (nI B) (0,0))/\(∃A,w5.heap[w.heap.size+1]?=some (.cells A (nI B) (0,0))/\A.size=nE B)/\w5.heap[E.heap.size]?=some (.cells (aE (f y)) (nI B) (0,0))/\w.heap.size+1< E.heap.size/\Bw w w5):=by
     obtain⟨q1,⟨A,q2,q3⟩,q4,q5,q6⟩:=d
     have J:∀{i:Nat} {o:Obj},X.heap[i]?=some o->w5.heap[i]?=some o:=fun h=>(x.block _ (gl h)).trans h
     exact⟨J q1,⟨A,J q2,q3⟩,J q4,q5,q6.trans (x.mono q6.size)⟩
    have a6:=a2.2.2.1
    have ad:(aE (f y)).size=nE B:=by rw[aS,D.out]
    clear x ab d HC
    go_wp2_with (first|(refine gQ rfl B _ _ rfl rfl rfl a9 a6 ad ?_))
    show∀w':World,_
    intro w6 a4 H
    have aj:Hid (w6.heap[w.heap.size]?=some (.cells (aE (f y)) (nI B) (0,0))/\(∃A,w6.heap[w.heap.size+1]?=some (.cells A (nI B) (0,0))/\A.size=nE B)/\w6.heap[E.heap.size]?=some (.cells (aE (f (f y))) (nI B) (0,0))/\w.heap.size+1< E.heap.size/\Bw w w6):=by
     obtain⟨q1,⟨A,q2,q3⟩,q4,q5,q6⟩:=a2
     have J:∀{i:Nat} {o:Obj},i≠E.heap.size->w5.heap[i]?=some o->w6.heap[i]?=some o:=fun F h=>(H.block _ (gl h) F).trans h
     refine⟨J (by omega) q1,⟨A,J (by omega) q2,q3⟩,a4,q5,q6.trans ⟨H.os,H.tape,H.output,H.size,fun i l=>H.block i (by have:=q6.size;omega) (by show¬i=E.heap.size;omega)⟩⟩
    clear a4 H a6 a2
    go_wp2_with fail
    go_roundg g'
    case rel=>exact⟨f y,E.heap.size,rfl,ah,Q,aj⟩
    all_goals omega
abbrev uC:=@wS _ _ _ _ (.inl ⟨rfl,rfl,rfl,rfl⟩) jQ oE (fun _ _ h k=>qQ h k)
abbrev Bl:=@wS _ _ _ _ (.inr (.inl ⟨rfl,rfl,rfl,rfl⟩)) lO wD (fun _ _ h k=>xX h k)
abbrev Bk:=@wS _ _ _ _ (.inr (.inr ⟨rfl,rfl,rfl,rfl⟩)) nZ wD (fun _ _ h k=>xW h k)
structure kh(l:List Nat):Prop where
 wd:Wd 104 l
 th:∀j,l.getD (2*j) 0< 64
theorem DC(B:a< 64)(A:b< 64):fV a b< 64:=by
 unfold fV
 exact Nat.lt_of_le_of_lt (Nat.mod_le _ _) (Nat.or_lt_two_pow (n:=6) B A)
theorem vu(l:List Nat)(i j v:Nat):(l.set i v).getD j 0=if i=j/\j< l.length then v else l.getD j 0:=by
 simp only[List.getD_eq_getElem?_getD,List.getElem?_set]
 by_cases h:i=j
 ·subst h
  by_cases A:i< l.length
  ·simp[A]
  ·simp[A]
 ·simp[h]
theorem kh.addAt(h:kh l)(i:Nat){v:Nat×Nat}(B:v.1< 64):kh (addAt l i v):=by
 refine⟨⟨by rw[jw];exact h.wd.len,fun a A=>?_⟩,fun j=>?_⟩
 ·unfold Go.Proofs.YtajfbbldaiaolaaGreatDoor.addAt at A
  rcases List.mem_or_eq_of_mem_set A with A|rfl
  ·rcases List.mem_or_eq_of_mem_set A with A|rfl
   ·exact h.wd.lt a A
   ·exact kE _ _
  ·exact kE _ _
 ·unfold Go.Proofs.YtajfbbldaiaolaaGreatDoor.addAt
  rw[vu,if_neg (by omega),vu]
  split
  ·exact DC (h.th i) B
  ·exact h.th j
theorem kh.held(h:kh l)(i:Nat):(aQ l i).1< 64:=h.th i
theorem kh.atom(h:kh l)(f:Nat)(a:Pa):(dy l f a).1< 64:=by
 unfold dy
 split
 ·decide
 ·exact h.held _
theorem kh.give(h:kh l)(f:Nat)(p:Ph){v:Nat×Nat}(A:v.1< 64):kh (fc l f p v):=by
 unfold fc
 split
 ·exact h
 ·exact h.addAt _ A
theorem kh.hand(g f:Nat)(r:List Pa):∀(i:Nat) (l:List Nat),kh l->kh (gP g f r i l):=by
 induction r with
 |nil=>intro i l h;exact h
 |cons a r ih=>intro i l h;exact ih _ _ (h.addAt _ (h.atom f a))
theorem vw{α:Type}(F:List Nat->α->List Nat)(A:∀l t,kh l->kh (F l t)):∀(ts:List α) (l:List Nat),kh l->kh (ts.foldl F l):=by
 intro ts
 induction ts with
 |nil=>intro l h;exact h
 |cons t ts ih=>intro l h;exact ih _ (A l t h)
namespace Rp
def doG(x:Rp)(f:Nat->Option Nat)(l:List Nat)(s:Nat):List Nat:=
 if(x.st s).p.kind=1 then(if(x.st s).p.op=0 then x.setG l s else l)
 else if(x.st s).p.kind=2 then x.loadG l s
 else if(x.st s).p.kind=3 then x.storeG l s
 else if(x.st s).p.kind=4 then x.getG l s
 else if(x.st s).p.kind=5 then x.putG l s
 else if(x.st s).p.kind=6 then x.newG l s ((f s).getD 0)
 else if(x.st s).p.kind=7 then x.goG l s ((x.startAt s).getD 0)
 else if(x.st s).p.kind=11 then x.callG l s
 else l
end Rp
structure yn(x:Rp)(f:Nat->Option Nat)(s:Nat):Prop where
 lt:s< x.stmts.length
 so:lz (x.st s)
 s64:s< 64
 sm:x.starts.length< 64
 k:((x.st s).p.kind=1/\(x.st s).p.op=0/\0< (x.st s).r.length)\/((x.st s).p.kind=2/\(x.st s).a0.num< 5/\0< (x.st s).r.length)\/((x.st s).p.kind=3/\(x.st s).p.ln< 5/\0< (x.st s).r.length)\/((x.st s).p.kind=4/\0< (x.st s).r.length)\/((x.st s).p.kind=5/\0< (x.st s).r.length)\/((x.st s).p.kind=6/\∃m,f s=some m/\m< 6)\/((x.st s).p.kind=7/\∃m,x.startAt s=some m/\m< 64)\/((x.st s).p.kind=12/\(x.st s).r.length=0)\/(x.st s).p.kind=11\/(x.st s).p.kind=8\/(x.st s).p.kind=9\/(x.st s).p.kind=10\/(x.st s).p.kind=13\/(x.st s).p.kind=14\/((x.st s).p.kind=1/\(x.st s).p.op≠0)
theorem xM{f:Nat->Option Nat}(h:yn x f s)(B:kh l):kh (x.doG f l s):=by
 unfold Rp.doG
 split
 ·split
  ·exact B.give _ _ (B.atom _ _)
  ·exact B
 split
 ·exact B.give _ _ (B.held _)
 split
 ·exact B.addAt _ (B.atom _ _)
 split
 ·exact vw _ (fun l t h=>h.give _ _ (h.held _)) _ _ B
 split
 ·exact vw _ (fun l t h=>h.addAt _ (h.atom _ _)) _ _ B
 split
 ·rename_i D
  have C:∃m,f s=some m/\m< 6:=by
   rcases h.k with A|A|A|A|A|A|A|A|A|A|A|A|A|A|A<;>first|exact A.2|omega
  obtain⟨m,e,C⟩:=C
  rw[e]
  refine B.give _ _ ?_
  show aW m< 64
  unfold aW
  exact Nat.lt_of_le_of_lt (Nat.mod_le _ _) (Nat.pow_lt_pow_right (by decide) C)
 split
 ·exact(kh.hand _ _ _ _ _ B).give _ _ (by show 0< 64;decide)
 split
 ·exact(kh.hand _ _ _ _ _ B).give _ _ ((kh.hand _ _ _ _ _ B).held _)
 ·exact B
theorem tl{v:Nat}(B:v< 64)(h:v.testBit t=true):t< 6:=by
 rcases Nat.lt_or_ge t 6 with A|A
 ·exact A
 ·rw[Nat.testBit_lt_two_pow (Nat.lt_of_lt_of_le B (Nat.pow_le_pow_right (by decide:0< 2) A:2^6<=2^t))]at h
  cases h
theorem MQ{u:World}{f:Nat->Option Nat}(h:cA u c x)(k:Bw u w)(C:u.heap.size<=b)(E:aM w b (aE l))(H:kh l)(F:w.cell? (Ad a 1)=some (aF c))(Q:w.cell? (Ad a 2)=some (.map (some d)))(J:a≠b)(P:iL w d n f)(ok:yn x f s)(M:Tz w)(hg:0< u.heap.size):
  Ca 145 #[aF a,aF b,aB s] w fun q w'=>q=.returned (.tuple #[])/\aM w' b (aE (x.doG f l s))/\aC (aK b) w w':=by
 have B:=H.wd.len
 have N:∀v:Nat,v< 64->v< ec:=fun v R=>by unfold ec;omega
 rcases ok.k with⟨A,D,G⟩|⟨A,D,G⟩|⟨A,D,G⟩|⟨A,D⟩|⟨A,D⟩|⟨A,m,D,G⟩|⟨A,m,D,G⟩|⟨A,D⟩|A|L
 ·rw[show x.doG f l s=x.setG l s by simp[Rp.doG,A,D]]
  exact Ip h k ok.lt C E B F ok.so A D G
 ·rw[show x.doG f l s=x.loadG l s by simp[Rp.doG,A]]
  exact EX h k ok.lt C E B F ok.so A D G
 ·rw[show x.doG f l s=x.storeG l s by simp[Rp.doG,A]]
  exact Cx h k ok.lt C E B F ok.so A D G
 ·rw[show x.doG f l s=x.getG l s by simp[Rp.doG,A]]
  exact Is h k ok.lt C E B F ok.so A D M hg (N _ (H.atom _ _)) (fun t _ K=>tl (H.atom _ _) K)
 ·rw[show x.doG f l s=x.putG l s by simp[Rp.doG,A]]
  exact Iq h k ok.lt C E B F ok.so A D M hg (N _ (H.held _)) (fun t _ K=>tl (H.held _) K)
 ·rw[show x.doG f l s=x.newG l s m by simp[Rp.doG,A,D]]
  have:=ok.s64
  exact Ir h k ok.lt C E B F ok.so A Q J P D (by omega) (by omega)
 ·rw[show x.doG f l s=x.goG l s m by simp[Rp.doG,A,D]]
  exact Kv h k ok.lt C E B F ok.so A J D G ok.sm
 ·rw[show x.doG f l s=l by simp[Rp.doG,A]]
  exact It h k ok.lt C E B F ok.so A D
 ·rw[show x.doG f l s=x.callG l s by simp[Rp.doG,A]]
  exact EY h k ok.lt C E B F ok.so A
 ·rw[show x.doG f l s=l by rcases L with A|A|A|A|A|⟨A,O⟩<;>simp[Rp.doG,A]<;>(intro q;exact absurd q O)]
  exact EW h k ok.lt C E F L
section
attribute [local go_sem] Oper.semAt_some
theorem qF{P:Program}{Q:Exit->Act->World->Prop}{o:Oper}{a:Act}{K:Act->World->Prop}{r:Result Next}(h:o.upon P a K Q r):o.uponIn Fence.wide n P a K Q r:=by
 unfold Oper.upon at h
 unfold Oper.uponIn
 split at h
 ·exact h
 ·exact h
 ·exact h
 ·exact⟨fun e=>(by cases e),callsIn_wide.2 h⟩
 ·refine⟨fun e=>(by cases e),fun c A _=>?_⟩
  obtain⟨v,w',r,s⟩:=h c A
  exact⟨v,w',r,stepsIn_wide.2 s⟩
 ·exact h
 ·exact h.elim
theorem Gg{P:Program}{Q:Exit->Act->World->Prop}{o:Oper}{a:Act}{K:Act->World->Prop}(h:o.wp P a w K Q):o.wpIn Fence.wide n P a w K Q:=⟨fun _ _=>trivial,qF h⟩
theorem kC{P:Program}{B:Array Oper}{A:List Oper}{op:Oper}{a:Act}{Q:Exit->Act->World->Prop}(C:op.guard=none)(T:ke P t n)(x:Operand)(E:op.op=.load t x)(D:a.eval x=Pt b 0)(G:aM w b (aE l))(F:Hid (l.length=n))
  (h:wpListIn Fence.wide m P B Q A (a.put op.dst (.agg (aE l))) w):wpListIn Fence.wide m P B Q (op::A) a w:=by
 obtain⟨d,L,J⟩:=T.hu
 exact wpListIn_plain C fun K H=>Gg (wp_load_mid t x E b 0 D (aX l) d (rZ G) L J (by rw[T.hi,cG,F.out]) (H _ _ h))
theorem kz{P:Program}{C:Array Oper}{B:List Oper}{op:Oper}{a:Act}{Q:Exit->Act->World->Prop}{A:Array Value}(E:op.guard=none)(T:ke P t n)(x y:Operand)(L:op.op=.store t x y)(J:a.eval x=Pt b 0)(H:a.eval y=.agg (aE l))(D:Hid (l.length=n))(G:w.heap[b]?=some (.cells A c (0,0)))(O:A.size=n)
  (h:Hid (∀w',w'.heap[b]?=some (.cells (aE l) c (0,0))->aC (aK b) w w'->wpListIn Fence.wide m P C Q B (a.put op.dst undef) w')):wpListIn Fence.wide m P C Q (op::B) a w:=by
 have F:=aA G
 have:=eJ (b:=b) (aE l).toList 0 A w G
 refine wpListIn_plain E fun K N=>Gg (wp_store_mid t x y L b 0 (aE l) J H (fun j M=>?_) (by rw[T.hi,aS,D.out]) (pc l) (N _ _ (h _ ?_ this.2)))
 ·rw[aS,D.out]at M
  rw[Nat.zero_add,F.cell,F.fz]
  exact⟨by rw[Array.getElem?_eq_getElem (by omega)];rfl,rfl⟩
 ·rw[this.1,lE _ _ (by rw[md,cG,D.out];exact O)]
namespace Rp
def roundG(x:Rp)(f:Nat->Option Nat)(l:List Nat):List Nat:=(et x.spots).foldl (x.doG f) l
end Rp
theorem LU{g j:Nat}{f:Nat->Option Nat}(h:cA w b x)(sp:cP x)(y:kh l)(d1:w.cell? (Ad d 0)=some (aF b))(d3:w.cell? (Ad g 0)=some (aF a))(c1:w.cell? (Ad a 1)=some (aF b))(c2:w.cell? (Ad a 2)=some (.map (some j)))(hm:iL w j n f)(ok:∀s,s< 64->x.spots.testBit s=true->yn x f s)(hT:Tz w)(hg:0< w.heap.size):
  Ca 143 #[.agg (aE l),Pt d 0,Pt g 0] w (Rt w (.agg (aE (x.roundG f l)))):=by
 obtain⟨bv,sv,tv,rv,lv,h1,-⟩:=h.ex
 have c5:Ce w b 5 (aH x.spots):=h1.cell 5
 have a7:=h1.lt
 have l1:d< w.heap.size:=aD d1
 have l3:g< w.heap.size:=aD d3
 have a8:a< w.heap.size:=aD c1
 have aa:Hid (l.length=104):=y.wd.len
 obtain⟨D,P⟩:=bM ((w.alloc (.cells (aE l) 304)).alloc (.cells Tryz.zeroCells304 304))
 have X:Bw w D:=by rw[P];exact(ba w _).alloc (by simp) _
 have q:w.heap.size+1< D.heap.size:=by rw[P];simp
 have T:aM D w.heap.size (aE l):=by rw[P];exact(aM.new w _ _).alloc _
 have R:D.heap[w.heap.size+1]?=some (.cells Tryz.zeroCells304 304 (0,0)):=by
  rw[P]
  have:=heap_alloc_new (w.alloc (.cells (aE l) 304)) (.cells Tryz.zeroCells304 304)
  rw[World.size_alloc]at this
  exact this
 obtain⟨HH,HM,HL,HT,N,G,a5,a2,HD⟩:=xA h hm y hT ok X T R P
 have r1:Ce D d 0 (aF b):=bc X d1
 have r5:Ce D b 5 (aH x.spots):=bc X c5
 clear h hm y hT ok h1 X T R P
 refine(callsIn_wide (n:=3)).1 ?_
 refine callsIn_of_wp_marks Tryz.func143 rfl trivial ?_ rfl
 simp only[Tryz.ntmps143,List.size_toArray,List.length_cons,List.length_nil,Nat.reduceAdd,Nat.reduceSub,Array.replicate_succ,Array.replicate_zero,List.push_toArray,List.append_toArray,List.nil_append,List.cons_append]
 gi_wp2_with (refine⟨trivial,?_⟩;gi_at_call 144;rw[<-HD.out];refine(gJ _ _ _).mono ?_;rintro e w' ⟨rfl,hq⟩;subst w')
 obtain⟨Z,F⟩:=bM (D.alloc (.cells #[aH x.spots] 284))
 have p:Bw D Z:=by rw[F];exact ba D _
 have bA:Boxed Z D.heap.size 284 (aH x.spots):=by rw[F];exact Boxed.new _ _ _
 have r:D.heap.size< Z.heap.size:=bA.lt
 have o:Bw w Z:=G.trans (p.mono G.size)
 rw[<-F]
 clear F r1 r5
 refine' wpIn_rangeFunc_ownG rfl (by decide) (gf:=212) (lb:=#[Pt D.heap.size 0]) rfl trivial (enters_of Tryz.func212 (by kernel_rfl) rfl)
  (fI 2 (by decide) D.heap.size w.heap.size x.spots sp.lt _ r (by omega) hg bA.cell (HT.below o)) belowK_t (belowK_b (by omega)) (Below.refl _ _) (fun _=>rfl)
  (fun C W=>aM W w.heap.size (aE ((C.map (·.1)).foldl (x.doG f) l))/\aC (aK w.heap.size) D W)
  (fun _ _ _=>False)
  (OwnFrom.and (eG (by omega)) (eo (by omega)))
  (fun _ _ _ _ _ hs _ _=>hs)
  ⟨a5.below p,aC.of_below p⟩ _ ?assign ?body ?done ?stop
 case assign=>
  intro lr z W K Y
  gi_wp2
  exact Y
 case body=>
  rintro lr C z W ⟨E,A⟩ a6
  have H:Bw w W:=aY G A (Nat.le_refl _)
  have hO:kh ((C.map (·.1)).foldl (x.doG f) l):=by
   have:∀(ts:List (El x.spots)) (l:List Nat),kh l->kh ((ts.map (·.1)).foldl (x.doG f) l):=by
    intro ts
    induction ts with
    |nil=>intro l h;exact h
    |cons t ts ih=>intro l h;exact ih _ (xM (N t.1 t.2.1 t.2.2) h)
   exact this C l HL
  have hd:=MQ (s:=z.1) HH H (Nat.le_refl _) E hO (bc H c1) (bc H c2) (by omega) (HM.keep H) (N z.1 z.2.1 z.2.2) (HT.below H) hg
  have a4:=aG hd
  have q3:Ce W g 0 (aF a):=bc H d3
  have O:=aG A
  have a1:=H.size
  clear E A H hO hd
  gi_wp2
  refine⟨trivial,?_⟩
  refine(CallsIn.inRound lr (callsIn_wide.2 a4)).mono ?_
  rintro e w3 ⟨rfl,a0,M⟩
  gi_wp2
  refine⟨dH M (by omega),dW M (Nat.le_refl _) a1,?_,O.trans' M (fun i e=>.inl e)⟩
  rw[List.map_append]
  show aM w3 w.heap.size (aE (((C.map (·.1))++[z.1]).foldl (x.doG f) l))
  rw[eK]
  exact a0
 case done=>
  rintro k ys W a9 rfl ⟨E,A⟩ Y
  have S:aM W w.heap.size (aE (x.roundG f l)):=by
   have:=E
   rw[dO]at this
   exact this
  have L:Hid ((x.roundG f l).length=104):=by
   have:∀(ts:List (El x.spots)) (l:List Nat),kh l->kh ((ts.map (·.1)).foldl (x.doG f) l):=by
    intro ts
    induction ts with
    |nil=>intro l h;exact h
    |cons t ts ih=>intro l h;exact ih _ (xM (N t.1 t.2.1 t.2.2) h)
   have h2:=(this (yT x.spots) l HL).wd.len
   rw[dO]at h2
   exact h2
  have Q:W.heap[w.heap.size+1]?=some (.cells Tryz.zeroCells304 304 (0,0)):=(A.block _ q (by show¬w.heap.size+1=w.heap.size;omega)).trans a2
  have O:=aG A
  clear E A
  gi_wp2_with (first|(refine kC rfl jQ _ rfl rfl S L ?_)|(refine kz rfl jQ _ _ rfl rfl rfl L Q oE ?_))
  show∀w':World,_
  intro m u B
  have V:m.heap[k]?=some (.deferred (some [])):=(B.block _ (gl Y) (by show¬k=w.heap.size+1;omega)).trans Y
  have J:Bw w m:=by
   have:=aY G O (Nat.le_refl _)
   exact this.trans ⟨B.os,B.tape,B.output,B.size,fun i hi=>B.block i (by have:=this.size;omega) (by show¬i=w.heap.size+1;omega)⟩
  have a3:=aG J
  have v:(Tryz.prog.info? 304).map (·.size)=some (aE (x.roundG f l)).size:=by rw[aS,L.out];exact jQ.hi
  clear B S Q J
  gi_wp2
  refine⟨by simp,.inl ⟨_,_,rfl,run_takeDeferred V,?_⟩⟩
  refine⟨_,results_cell_row rfl _ _ (w.heap.size+1) 304 (aE (x.roundG f l)) (0,0) _ rfl ((Array.getElem?_setIfInBounds_ne (by omega)).trans u) Tryz.underlying304 rfl v,rfl,?_⟩
  exact a3.trans (belowK_b (w:=w) (Nat.le_refl _) m k _ _ (by omega) V rfl rfl)
 case stop=>
  rintro k c C W _ _ h _
  exact h.elim
end
theorem Iu{f:Nat}{a:Pa}(A:jd w b c d l)(F:f< 5)(E:a.num< 6):
  Calls Tryz.prog 215 #[Pt b 3,aB f,.agg #[.string ⟨a.text.toArray⟩,aB a.at_,aB a.num,aB a.n]] w (Rt w (.agg #[aH (dy l f a).1,aH (dy l f a).2])):=by
 have H:w.cell? (Ad b (3+f*12+a.num*2))=some (aH (aQ l (f*6+a.num)).1):=by
  have:=A.word (j:=2*(f*6+a.num)) (by omega)
  rw[show 3+2*(f*6+a.num)=3+f*12+a.num*2 by omega]at this
  exact this
 have G:w.cell? (Ad b (3+f*12+a.num*2+1))=some (aH (aQ l (f*6+a.num)).2):=by
  have:=A.word (j:=2*(f*6+a.num)+1) (by omega)
  rw[show 3+(2*(f*6+a.num)+1)=3+f*12+a.num*2+1 by omega]at this
  exact this
 have D:b< w.heap.size:=aD A.src
 have e:(⟨a.text.toArray⟩:ByteArray).toList.isEmpty=a.text.isEmpty:=by simp
 unfold dy
 generalize aQ l (f*6+a.num)=B at *
 clear A
 cases C:a.text.isEmpty
 ·rw[C]at e
  go_in
  go_wp2_with fail
  go_region
  go_wp2_with fail
  refine bodyPost_ret (results_cell_row rfl _ _ (w.heap.size+1) 297 #[aH B.1,aH B.2] (0,0) _ rfl (js w _ _) Tryz.underlying297 rfl fZ) rfl ⟨rfl,?_⟩
  exact((ba w _).alloc (by simp) _).drew
 ·rw[C]at e
  go_in
  go_wp2_with fail
  refine bodyPost_ret (results_cell_row rfl _ _ (w.heap.size+1) 297 #[aH 0,aH 0] (0,0) _ rfl (js w _ _) Tryz.underlying297 rfl fZ) rfl ⟨rfl,?_⟩
  exact(ba w _).alloc (by simp) _
def Gm(cs:List Nat)(t:Nat):Nat:=fV (aQ cs (35+t*2)).1 (aQ cs (35+t*2+1)).1
theorem qY:Et 221:=enters_of Tryz.func221 (by kernel_rfl) rfl
theorem Cv(A:jd w a b c l)(G:w.cell? (Ad d 0)=some (aF a))(F:t< 6):
  Calls Tryz.prog 221 #[aB t,Pt d 0] w (Rt w (aH (Gm l t))):=by
 have r1:=ff
 have E:w.cell? (Ad a (73+t*4))=some (aH (aQ l (35+t*2)).1):=by
  have:=A.word (j:=2*(35+t*2)) (by omega)
  rw[show 3+2*(35+t*2)=73+t*4 by omega]at this
  exact this
 have D:w.cell? (Ad a (73+t*4+2))=some (aH (aQ l (35+t*2+1)).1):=by
  have:=A.word (j:=2*(35+t*2+1)) (by omega)
  rw[show 3+2*(35+t*2+1)=73+t*4+2 by omega]at this
  exact this
 have B:((t:Nat):Int)< 6:=by omega
 unfold Gm
 generalize aQ l (35+t*2)=v at *
 generalize aQ l (35+t*2+1)=C at *
 clear A
 go_in
 go_wp2_with fail
 go_region
 go_wp2_with fail
 go_ret
 exact⟨rfl,(Below.refl _ w).drew⟩
def CZ(a b:Nat×Nat):Nat×Nat:=(fV a.1 b.1,fV a.2 b.2)
def iN(cs:List Nat)(k:Nat):Nat×Nat:=(List.range k).foldl (fun a i=>CZ a (aQ cs (30+i))) (0,0)
def oC(cs:List Nat)(f:Nat)(r:List Pa)(z:Nat×Nat):Nat×Nat:=r.foldl (fun a p=>CZ a (dy cs f p)) z
namespace Rp
def startH(x:Rp)(cs:List Nat)(z:Nat×Nat)(s:Nat):Nat×Nat:=if eU x.spots s then oC cs (x.st s).fn (x.st s).r z else z
def firstH(x:Rp)(cs:List Nat):Nat×Nat:=x.starts.foldl (x.startH cs) (iN cs 5)
end Rp
theorem Az(a0 A J H G F E D C B:Int)(w:World):(Instr.index 300 (.agg #[aH a0,aH A,aH J,aH H,aH G,aH F,aH E,aH D,aH C,aH B]) (aB 0)).run Tryz.prog w=.ok (.agg #[aH a0,aH A]) w:=by kernel_rfl
theorem ye(a0 J B A H G F E D C:Int)(w:World):(Instr.index 300 (.agg #[aH a0,aH J,aH B,aH A,aH H,aH G,aH F,aH E,aH D,aH C]) (aB 1)).run Tryz.prog w=.ok (.agg #[aH B,aH A]) w:=by kernel_rfl
theorem yc(a0 J H G B A F E D C:Int)(w:World):(Instr.index 300 (.agg #[aH a0,aH J,aH H,aH G,aH B,aH A,aH F,aH E,aH D,aH C]) (aB 2)).run Tryz.prog w=.ok (.agg #[aH B,aH A]) w:=by kernel_rfl
theorem ya(a0 J H G F E B A D C:Int)(w:World):(Instr.index 300 (.agg #[aH a0,aH J,aH H,aH G,aH F,aH E,aH B,aH A,aH D,aH C]) (aB 3)).run Tryz.prog w=.ok (.agg #[aH B,aH A]) w:=by kernel_rfl
theorem xZ(a0 J H G F E D C B A:Int)(w:World):(Instr.index 300 (.agg #[aH a0,aH J,aH H,aH G,aH F,aH E,aH D,aH C,aH B,aH A]) (aB 4)).run Tryz.prog w=.ok (.agg #[aH B,aH A]) w:=by kernel_rfl
theorem tU{k:Nat}(A:k< 5)(w:World):∀(l:List Nat),l.length=10->(Instr.index 300 (.agg (aE l)) (aB k)).run Tryz.prog w=.ok (.agg #[aH (l.getD (2*k) 0:Nat),aH (l.getD (2*k+1) 0:Nat)]) w
 |[a0,a1,a2,a3,a4,a5,a6,a7,a8,a9],_=>by
  rcases(by omega:k=0\/k=1\/k=2\/k=3\/k=4)with rfl|rfl|rfl|rfl|rfl
  ·exact Az _ _ _ _ _ _ _ _ _ _ w
  ·exact ye _ _ _ _ _ _ _ _ _ _ w
  ·exact yc _ _ _ _ _ _ _ _ _ _ w
  ·exact ya _ _ _ _ _ _ _ _ _ _ w
  ·exact xZ _ _ _ _ _ _ _ _ _ _ w
def je(cs:List Nat):List Nat:=(cs.drop 60).take 10
theorem lC(h:l.length=104):(je l).length=10:=by simp[je,h]
theorem pe(h:l.length=104){j:Nat}(A:j< 10):(je l).getD j 0=l.getD (60+j) 0:=by
 unfold je
 simp only[List.getD_eq_getElem?_getD,List.getElem?_take,List.getElem?_drop,if_pos A]
theorem wG(A:List Nat)(k:Nat):iN A (k+1)=CZ (iN A k) (aQ A (30+k)):=by
 unfold iN
 rw[List.range_succ,eK]
def yK(z:Nat×Nat):List Nat:=[z.1,z.2]
structure tV(w wr:World)(bH:Nat)(z:Nat×Nat):Prop where
 kp:Below w.heap.size w wr
 bx:aM wr w.heap.size #[aF bH]
 fi:aM wr (w.heap.size+1) (aE (yK z))
theorem tV.keep{wr w':World}{z:Nat×Nat}(h:tV w wr a z)(k:Bw wr w'):tV w w' a z:=⟨h.kp.trans (k.mono h.kp.size),h.bx.below k,h.fi.below k⟩
theorem tV.add{wr w':World}{z v:Nat×Nat}(h:tV w wr a z)(k:aC (aK (w.heap.size+1)) wr w')(A:aM w' (w.heap.size+1) (aE (addAt (yK z) 0 v))):tV w w' a (CZ z v):=
 ⟨aY h.kp k (by omega),h.bx.kept k (by show¬w.heap.size=w.heap.size+1;omega),A⟩
theorem EV{R:Nat}(h:cA w d x)(hh:jd w b d m l)(hx:∀k,k< x.starts.length->x.starts.getD k 0< x.stmts.length/\x.starts.getD k 0< 64)(ab:∀s,s< x.stmts.length->lz (x.st s))(hm:x.starts.length< 64)
  (hT:Tz w) (hg:0< w.heap.size) (hR:dD (Gm l) 70 (x.firstH l).1 (x.firstH l).1=some R) (hf:(x.firstH l).1< ec) (h6:R< 64):
  Calls Tryz.prog 146 #[aF b] w (Rt w (aH R)):=by
 have C:=hh.len
 obtain⟨bv,sv,tv,rv,lv,h1,h2,h3,h4,-⟩:=h.ex
 obtain⟨pt,ct,rfl⟩:=aI h4
 have c1:Ce w b 1 (aF d):=hh.src
 have ay:b< w.heap.size:=aD c1
 have br:=h1.lt
 have s4:Ce w d 4 (.slice pt x.starts.length ct):=h1.cell 4
 have s5:Ce w d 5 (aH x.spots):=h1.cell 5
 obtain⟨W0,a5⟩:=bM ((w.alloc (.cells #[aF b] 223)).alloc (.cells #[aH 0,aH 0] 297))
 have a9:Hid (tV w W0 b (0,0)):=by
  rw[a5]
  refine⟨(ba w _).alloc (by simp) _,(aM.new w _ _).alloc _,?_⟩
  exact aM.new' _ _ _ _ (by simp)
 have ac:Tryz.prog.underlying 300=some (.array 5 297):=Tryz.underlying300
 have ae:(Tryz.prog.info? 300).map (·.size)=some (aX (je l)).length:=by rw[cG,lC C];kernel_rfl
 have b4:Hid (∀W,Bw w W->W.rangeAt b 63 (aX (je l))):=fun W o j v hv=>by
  have hj:j< 10:=by have:=(List.getElem?_eq_some_iff.1 hv).1;rw[cG,lC C]at this;exact this
  rw[o.cell (p:=Ad b (63+j)) ay]
  have:=hh.word (j:=60+j) (by omega)
  rw[show 3+(60+j)=63+j by omega]at this
  rw[this,<-pe C hj,<-hv]
  simp[aX,lC C,hj]
 obtain⟨HH,am,HX,b3,H4,HT,HR,b1⟩:=LR h hh hx ab h4 hT hR a5
 clear h hh hx ab h1 h2 h3 h4 hT hR a5
 have q1:Ce W0 w.heap.size 0 (aF b):=a9.bx.cell 0
 have af:=b4 W0 a9.kp
 go_in
 go_wp2_with (first|(rw[<-b1.out];refine wpList_load_mid rfl 300 _ rfl b 63 rfl (aX (je l)) _ af ac rfl ae ?_))
 clear q1 af ac ae
 go_loopw [16] (fun i wr=>∃k:Nat,i=aB k/\Hid (k<=5)/\Hid (tV w wr b (iN l k))) (fun i _=>5-(intOf i).toNat)
 case atStart=>exact⟨0,rfl,(by decide:(0:Nat)<=5),a9⟩
 case round=>
  obtain⟨k,rfl,V,H⟩:=hrel
  have a1:=V.out
  by_cases hk:k=5
  ·have O:¬((k:Int)< 5):=by omega
   have be:Hid (tV w wr b (iN l 5)):=by rw[<-hk];exact H
   have q1:Ce wr w.heap.size 0 (aF b):=H.bx.cell 0
   have q2:Ce wr b 1 (aF d):=bc H.kp c1
   have q3:Ce wr d 4 (.slice pt x.starts.length ct):=bc H.kp s4
   clear hk a1 V H
   go_wp2_with fail
   clear q1 q2 q3 O
   rename World=>wo
   go_loopw [30] (fun i wr=>∃j:Nat,i=aB j/\Hid (j<=x.starts.length)/\Hid (tV w wr b ((x.starts.take j).foldl (x.startH l) (iN l 5)))) (fun i _=>x.starts.length-(intOf i).toNat)
   case atStart=>exact⟨0,rfl,Nat.zero_le _,be⟩
   case round=>
    obtain⟨j,rfl,a8,HJ⟩:=hrel
    obtain⟨A,ar⟩:=bM (wr:World)
    subst ar
    have ah:=a8.out
    by_cases hj:j=x.starts.length
    ·have av:¬((j:Int)< (x.starts.length:Int)):=by omega
     have y:Hid (tV w A b (x.firstH l)):=by
      have:=HJ.out
      rw[hj,List.take_length]at this
      exact this
     have q1:Ce A (w.heap.size+1) 0 (aH (x.firstH l).1):=y.fi.cell 0
     have b5:Hid (Ca 220 #[aH (x.firstH l).1,.func (.func 221) #[] #[Pt w.heap.size 0]] A (Rt A (aH R))):=by
      refine xb (x.firstH l).1 R hf (Gm l) 221 #[] _ A (Nat.lt_of_lt_of_le hg y.kp.size) (HT.below y.kp) ⟨70,HR⟩ (fun t W ht aj o=>?_) qY
      exact Cv (am.keep (y.kp.trans (o.mono y.kp.size))) ((y.keep o).bx.cell 0) (tl h6 aj)
     clear hj ah a8 HJ
     go_wp2_with fail
     refine b5.mono ?_
     rintro q Z ⟨rfl,E⟩
     have B:=aG E
     clear E
     go_wp2_with fail
     go_ret
     exact⟨rfl,y.kp.trans (B.mono y.kp.size)⟩
    ·have a3:j< x.starts.length:=by omega
     have av:((j:Int)< (x.starts.length:Int)):=by omega
     clear hj
     obtain⟨gt,rfl⟩:∃g,pt=some (Ad g 0):=by
      obtain⟨g,c',e⟩:=aO H4 (by omega)
      cases e;exact⟨g,rfl⟩
     obtain⟨a0,u⟩:=HX j a3
     have T:Hid ((x.starts.take (j+1)).foldl (x.startH l) (iN l 5)=x.startH l ((x.starts.take j).foldl (x.startH l) (iN l 5)) (x.starts.getD j 0)):=by
      show _=_
      have e:x.starts[j]?=some (x.starts.getD j 0):=by rw[List.getD_eq_getElem?_getD,List.getElem?_eq_getElem a3];rfl
      rw[List.take_add_one,e]
      exact eK _ _ _ _
     obtain⟨s,hs⟩:=bM (x.starts.getD j 0)
     have z0:A.cell? (Ad gt j)=some (aB s):=by
      rw[HJ.out.kp.cell (p:=Ad gt j) (H4.out.lt gt rfl).2,H4.out.cellAt _ (by omega),hs]
      simp[dG,a3]
     have ao:A.cell? (Ad gt (j*1))=some (aB s):=by rw[Nat.mul_one];exact z0
     rw[<-hs]at a0 u T
     obtain⟨z,hz⟩:=bM ((x.starts.take j).foldl (x.startH l) (iN l 5))
     rw[<-hz]at T
     have D:Hid (tV w A b z):=by rw[hz];exact HJ
     have q1:Ce A w.heap.size 0 (aF b):=D.bx.cell 0
     have q2:Ce A b 1 (aF d):=bc D.kp c1
     have q5:Ce A d 5 (aH x.spots):=bc D.kp s5
     have Y:=aG (lJ x.spots s u A)
     clear hs hz HJ ah a8
     cases hu:eU x.spots s
     ·have N:Hid (tV w A b ((x.starts.take (j+1)).foldl (x.startH l) (iN l 5))):=by
       show tV _ _ _ _
       rw[T.out]
       unfold Rp.startH
       rw[hu]
       exact D
      rw[hu]at Y
      go_wp2_with fail
      refine Y.mono ?_
      rintro q wq ⟨rfl,hq⟩
      subst wq
      go_wp2_with fail
      go_roundw
      case rel=>exact⟨j+1,by go_num,(by omega:j+1<=x.starts.length),N⟩
      case measure=>simp[intOf];omega
     ·rw[hu]at Y
      have N:Hid (x.startH l z s=oC l (x.st s).fn (x.st s).r z):=by show _=_;unfold Rp.startH;rw[hu];rfl
      obtain⟨g,c,bs,sr,sb,y3,y4,y5,y6,y7,a4,J,bo,ad,-⟩:=HH.stmO D.kp a0
      have so:=b3 s a0
      obtain⟨pr,cr,rfl⟩:=aI J
      have ap:Ce A bs 12 (.slice pr (x.st s).r.length cr):=a4.cell 12
      have bp:bs< A.heap.size:=a4.lt
      have bu:g< A.heap.size:=aD y4
      have bq:d< A.heap.size:=aD y3
      have bt:b< A.heap.size:=aD q2
      generalize x.st s=st at *
      obtain⟨W7,Q⟩:=bM (A.alloc (.cells #[aF bs,aB st.fn,aB st.nx,aB st.ins] 253))
      have k7:Bw A W7:=by rw[Q];exact ba A _
      have bf:=aG (D.keep k7)
      have an:Hid (aM W7 A.heap.size #[aF bs,aB st.fn,aB st.nx,aB st.ins]):=by show aM _ _ _;rw[Q];exact aM.new _ _ _
      obtain⟨b0,a7⟩:=aN Q (aP J k7)
      have b6:Hid (∀i,(Value.slice pr st.r.length cr).ownBlock=some i->i< w.heap.size):=ad
      have ax:=so.fn
      have b9:=aG so.num
      have bm:=so.len
      have aq:w.heap.size+1< A.heap.size:=D.fi.lt
      have bl:A.heap.size< W7.heap.size:=an.lt
      clear a4 J k7 Q so ad
      go_wp2_with fail
      refine Y.mono ?_
      rintro q wq ⟨rfl,hq⟩
      subst wq
      go_wp2_with fail
      rw[<-b0.out]
      clear z0 ao q1 q2 q5 y3 y4 y5 y6 y7 ap
      go_loopw [60] (fun i wr=>∃k:Nat,i=aB k/\Hid (k<=st.r.length)/\Hid (aC (aK (w.heap.size+1)) W7 wr)/\Hid (tV w wr b (oC l st.fn (st.r.take k) z))) (fun i _=>st.r.length-(intOf i).toNat)
      case atStart=>exact⟨0,rfl,Nat.zero_le _,aC.refl _ _,bf⟩
      case round=>
       obtain⟨k,rfl,V,X,H⟩:=hrel
       have a1:=V.out
       by_cases hk:k=st.r.length
       ·have O:¬((k:Int)< (st.r.length:Int)):=by omega
        have HN:Hid (tV w wr b ((x.starts.take (j+1)).foldl (x.startH l) (iN l 5))):=by
         have:=H.out
         rw[hk,List.take_length,<-N.out,<-T.out]at this
         exact this
        clear hk a1
        go_wp2_with fail
        go_roundw
        case rel=>exact⟨j+1,by go_num,(by omega:j+1<=x.starts.length),HN⟩
        case measure=>simp[intOf];omega
       ·have a2:k< st.r.length:=by omega
        have O:((k:Int)< (st.r.length:Int)):=by omega
        clear hk
        obtain⟨a,ha⟩:∃a,st.r[k]?=some a:=⟨_,List.getElem?_eq_getElem a2⟩
        have au:=b9 a (List.mem_of_getElem? ha)
        obtain⟨G,rfl⟩:∃G,pr=some (Ad G 0):=by
         obtain⟨g,c',e⟩:=aO a7 (by omega)
         cases e;exact⟨g,rfl⟩
        have aw:G< W7.heap.size:=(a7.lt G rfl).2
        have bn:=b6 G rfl
        have K:∀i,i< 4->wr.cell? (Ad G (k*4+i))=(oK a)[i]?:=fun i hi=>by
         rw[X.out.cell (p:=Ad G (k*4+i)) aw (by show¬G=w.heap.size+1;omega),a7.out.cellAt _ (by omega),mS ha i hi]
        have y0:Ce wr G (k*4) (.string ⟨a.text.toArray⟩):=K 0 (by decide)
        have y1:Ce wr G (k*4+1) (aB a.at_):=K 1 (by decide)
        have y2:Ce wr G (k*4+2) (aB a.num):=K 2 (by decide)
        have y3:Ce wr G (k*4+3) (aB a.n):=K 3 (by decide)
        obtain⟨M,P⟩:=bM (wr.alloc (.cells #[.string ⟨a.text.toArray⟩,aB a.at_,aB a.num,aB a.n] 258))
        have k8:Bw wr M:=by rw[P];exact ba wr _
        have b8:aM M wr.heap.size #[.string ⟨a.text.toArray⟩,aB a.at_,aB a.num,aB a.n]:=by rw[P];exact aM.new wr _ _
        have b7:=(an.kept X (by show¬A.heap.size=w.heap.size+1;omega)).below k8
        have F:=aG (H.keep k8)
        have bk:w.heap.size+1< wr.heap.size:=H.fi.lt
        have bj:=X.size
        have a6:Hid (∀w',aC (aK (w.heap.size+1)) M.drew w'->Ce w' w.heap.size 0 (aF b)/\Ce w' A.heap.size 1 (aB st.fn)/\Ce w' wr.heap.size 0 (.string ⟨a.text.toArray⟩)/\Ce w' wr.heap.size 1 (aB a.at_)/\Ce w' wr.heap.size 2 (aB a.num)/\w'.cell? (Ad wr.heap.size 3)=some (aB a.n)):=fun w' o=>by
         have y7:aM w' A.heap.size _:=(⟨b7.cell,b7.fz,b7.lt⟩:aM M.drew A.heap.size _).kept o (by show¬A.heap.size=w.heap.size+1;omega)
         have y8:aM w' wr.heap.size _:=(⟨b8.cell,b8.fz,b8.lt⟩:aM M.drew wr.heap.size _).kept o (by show¬wr.heap.size=w.heap.size+1;omega)
         have y9:aM w' w.heap.size _:=(⟨F.bx.cell,F.bx.fz,F.bx.lt⟩:aM M.drew w.heap.size _).kept o (by show¬w.heap.size=w.heap.size+1;omega)
         exact⟨y9.cell 0,y7.cell 1,y8.cell 0,y8.cell 1,y8.cell 2,y8.cell 3⟩
        obtain⟨g0,g1,g2,g3,g4,g5⟩:=a6 M.drew (aC.refl _ _)
        have bh:=aG (Iu (w:=M.drew) (f:=st.fn) (a:=a) (am.keep (F.kp.drew)) ax au)
        have aa:Hid (∀Z,Bw M.drew Z->Ca 216 #[Pt (w.heap.size+1) 0,.agg #[aH (dy l st.fn a).1,aH (dy l st.fn a).2]] Z fun r w'=>r=.returned (.tuple #[])/\aM w' (w.heap.size+1) (aE (addAt (yK (oC l st.fn (st.r.take k) z)) 0 (dy l st.fn a)))/\aC (aK (w.heap.size+1)) Z w'):=fun Z k2=>rU (h:=dy l st.fn a) ((F.fi.below ⟨rfl,rfl,rfl,Nat.le_refl _,fun _ _=>rfl⟩:aM M.drew _ _).below k2) (by show 1< 2;decide) rfl
        have b2:Hid (oC l st.fn (st.r.take (k+1)) z=CZ (oC l st.fn (st.r.take k) z) (dy l st.fn a)):=by
         show _=_
         unfold oC
         rw[List.take_add_one,ha]
         exact eK _ _ _ _
        obtain⟨bd,az⟩:=aN k8 P
        clear K P k8 b7 b8 ha
        go_wp2_with fail
        rw[<-az.out]
        go_region_held3 (fun w'=>Ce w' w.heap.size 0 (aF b)/\Ce w' A.heap.size 1 (aB st.fn)/\Ce w' wr.heap.size 0 (.string ⟨a.text.toArray⟩)/\Ce w' wr.heap.size 1 (aB a.at_)/\Ce w' wr.heap.size 2 (aB a.num)/\Ce w' wr.heap.size 3 (aB a.n)) (first|exact⟨e0,e1,e2,e3,e4,e5⟩|exact⟨g0,g1,g2,g3,g4,g5⟩|go_keep) (first|(go_at_call 215;refine bh.mono ?_;rintro q Z ⟨rfl,E⟩;have B:=aG E;obtain⟨e0,e1,e2,e3,e4,e5⟩:=a6 _ (aC.of_below E);clear E)|(go_at_call 216;refine(aa Z B).mono ?_;rintro q w3 ⟨rfl,hq⟩;have HQ:=aG hq;obtain⟨e0,e1,e2,e3,e4,e5⟩:=a6 _ ((aC.of_below (S:=aK (w.heap.size+1)) B).trans' hq.2 (fun i e=>.inl e));clear hq))
        all_goals
         have L:Bw M Z:=⟨B.os,B.tape,B.output,B.size,B.block⟩
         have al:Hid (aC (aK (w.heap.size+1)) W7 w3/\tV w w3 b (oC l st.fn (st.r.take (k+1)) z)):=by
          refine⟨X.trans' ((aC.of_below (S:=aK (w.heap.size+1)) bd).trans' ((aC.of_below (S:=aK (w.heap.size+1)) L).trans' HQ.2 (fun i e=>.inl e)) (fun i e=>.inl e)) (fun i e=>.inl e),?_⟩
          rw[b2.out]
          exact(F.keep L).add HQ.2 HQ.1
         clear e0 e1 e2 e3 e4 e5 L
         go_wp2_with fail
         go_roundw
         case rel=>exact⟨k+1,by go_num,(by omega:k+1<=st.r.length),al.1,al.2⟩
         case measure=>simp[intOf];omega
  ·have a2:k< 5:=by omega
   have O:((k:Int)< 5):=by omega
   clear hk
   have ai:=fun W=>tU a2 W (je l) (lC C)
   have bg:Hid (((je l).getD (2*k) 0,(je l).getD (2*k+1) 0)=aQ l (30+k)):=by
    show _=_
    rw[pe C (by omega),pe C (by omega)]
    unfold aQ
    rw[show 60+2*k=2*(30+k)by omega,show 60+(2*k+1)=2*(30+k)+1 by omega]
   generalize(je l).getD (2*k) 0=v0 at *
   generalize(je l).getD (2*k+1) 0=v1 at *
   have bi:∀W:World,(Instr.index 300 (.agg (aX (je l)).toArray) (aB k)).run Tryz.prog W=.ok (.agg #[aH (v0:Nat),aH (v1:Nat)]) W:=ai
   have kA:Bw wr (wr.alloc (.cells #[aH (v0:Nat),aH (v1:Nat)] 297)):=ba wr _
   have aa:Hid (Ca 216 #[Pt (w.heap.size+1) 0,.agg #[aH (v0:Nat),aH (v1:Nat)]] (wr.alloc (.cells #[aH (v0:Nat),aH (v1:Nat)] 297)) fun r w'=>r=.returned (.tuple #[])/\aM w' (w.heap.size+1) (aE (addAt (yK (iN l k)) 0 (v0,v1)))/\aC (aK (w.heap.size+1)) (wr.alloc (.cells #[aH (v0:Nat),aH (v1:Nat)] 297)) w'):=rU (h:=(v0,v1)) (H.fi.below kA) (by show 1< 2;decide) rfl
   have bb:=aG kA
   have aq:w.heap.size+1< wr.heap.size:=H.fi.lt
   clear ai kA
   go_wp2_with fail
   refine aa.mono ?_
   rintro q w3 ⟨rfl,ak,ag⟩
   have HN:Hid (tV w w3 b (iN l (k+1))):=by
    show tV _ _ _ _
    rw[wG,<-bg.out]
    exact(H.keep bb).add ag ak
   clear ak ag
   go_wp2_with fail
   go_roundw
   case rel=>exact⟨k+1,by go_num,(by omega:k+1<=5),HN⟩
   case measure=>simp[intOf];omega
end Go.Proofs.YtajfbbldaiaolaaGreatDoor
