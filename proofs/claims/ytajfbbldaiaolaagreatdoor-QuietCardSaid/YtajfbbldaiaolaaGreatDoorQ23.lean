import Derived.Test.YtajfbbldaiaolaaGreatDoorQ22
set_option linter.unusedSimpArgs false
set_option linter.unusedVariables false
set_option maxRecDepth 100000
set_option maxHeartbeats 4000000
namespace Go.Proofs.YtajfbbldaiaolaaGreatDoor
open Go.RowKit Go.Shelf
variable {w:World}{x:Rp}
section
attribute [local go_sem] Oper.semAt_some
namespace Rp
def returnsOf(x:Rp)(f:Nat):Nat:=iG (x.inOf (aW f)) (fun s=>(x.st s).p.kind==12)
end Rp
theorem qy:Et 281:=enters_of Tryz.func281 (by kernel_rfl) rfl
theorem JQ{a d s:Nat}(h:cA w a x)(B:s< x.stmts.length)(K:w.cell? (Ad d 0)=some (aF a)):
  Calls Tryz.prog 281 #[aB s,Pt d 0] w (Rt w (.bool ((x.st s).p.kind==12))):=by
 obtain⟨g,c,b,sr,sb,L,D,J,H,G,A,C⟩:=h.stm B
 have F:Ce w b 2 (aB (x.st s).p.kind):=A.cell 2
 have E:=A.lt
 have e:(((x.st s).p.kind:Int)==(12:Int))=((x.st s).p.kind==12):=by rw[Bool.eq_iff_iff,beq_iff_eq,beq_iff_eq];omega
 clear h A C
 go_in
 go_wp2_with fail
 go_ret
 exact⟨by rw[<-e];rfl,Below.refl _ _⟩
theorem BB{a f:Nat}(h:cA w a x)(ok:ft x)(sp:cP x)(hg:0< w.heap.size)(R:Tz w)(X:f< 64):
  Calls Tryz.prog 227 #[aF a,aB f] w (Rt w (aH (x.returnsOf f))):=by
 obtain⟨C,B⟩:=bM (w.alloc (.cells #[aF a] 221))
 have A:Bw w C:=by rw[B];exact ba _ _
 have bP:Boxed C w.heap.size 221 (aF a):=by rw[B];exact Boxed.new _ _ _
 have O:=h.keep A
 have H:=Nat.lt_of_lt_of_le hg A.size
 have E:=R.below A
 have d:Hid (∀W,Bw C W->Ca 159 #[aF a,aH (aW f)] W fun r w'=>r=.returned (aH (x.inOf (aW f)))/\Bw C w'/\Ce w' w.heap.size 0 (aF a)):=fun W k=>(Jg (O.keep k) ok sp (Nat.lt_of_lt_of_le H k.size) (E.below k) (aW f)).mono (fun r w' D=>⟨D.1,k.trans (D.2.mono k.size),(aL bP (k.trans (D.2.mono k.size))).cell⟩)
 have c:Hid (∀W,Bw C W->Ca 196 #[aH (x.inOf (aW f)),.func (.func 281) #[] #[Pt w.heap.size 0]] W fun r w'=>r=.returned (aH (x.returnsOf f))/\Bw C w'/\w'.cell? (Ad w.heap.size 0)=some (aF a)):=fun W k=>by
  have er:x.returnsOf f=iG (x.inOf (aW f)) (fun s=>(x.st s).p.kind==12):=rfl
  obtain⟨I,N⟩:=bM (x.inOf (aW f))
  have T:∀i,i< 64->I.testBit i=true->i< x.stmts.length:=fun i Z Y=>qe sp Z (by rw[<-N];exact Y)
  have V:I< ec:=by rw[N];exact jh _ _
  rw[er,<-N]
  refine(mK I V (fun s=>(x.st s).p.kind==12) 281 #[] _ W (Nat.lt_of_lt_of_le H k.size) (E.below k) (fun y W' Q=>?_) qy).mono ?_
  ·exact JQ ((O.keep k).keep Q) (T y.1 y.2.1 y.2.2) (aL (aL bP k) Q).cell
  ·exact fun r w' D=>⟨D.1,k.trans (D.2.mono k.size),(aL bP (k.trans (D.2.mono k.size))).cell⟩
 have b:=bP.cell
 obtain⟨F,M,L⟩:=bY (Below.refl C.heap.size C) A B
 clear h O ok sp R E bP A B
 go_in
 go_wp2_with fail
 rw[<-L.out]
 clear L
 go_region_held3 (fun w'=>Ce w' w.heap.size 0 (aF a)) (first|exact S|exact b|go_keep) (first|(go_at_call 275;refine(fC f X _).mono ?_;rintro q w' ⟨rfl,j⟩;subst w')|(go_at_call 159;refine(d _ (by first|exact F|exact F.drew|exact F.drew.drew)).mono ?_;rintro q g ⟨rfl,K,S⟩;have G:=aG K;clear K)|(go_at_call 196;refine(c _ (by first|exact G|exact G.drew|exact G.drew.drew)).mono ?_;rintro q e ⟨rfl,J,S⟩;have P:=aG J;clear J))
 all_goals go_wp2_with fail
 all_goals go_ret
 all_goals exact⟨rfl,M.trans (P.mono M.size)⟩
abbrev AE{f:Nat}(_:∀args w,(callFunc f args).run Tryz.prog w=.ok (.enter f args) w):Nat:=f
theorem CQ(w:World)(t:TypeId)(v:Value)(B:Nat)(A:w.heap.size=B):Boxed (w.alloc (.cells #[v] t)) B t v:=A▸Boxed.new _ _ _
def mN(op:Nat->Nat->Nat)(l:List Nat)(a:Nat)(ss:List Nat):Nat:=ss.foldl (fun a s=>op a (l.getD s 0)) a
theorem zn(op:Nat->Nat->Nat)(l:List Nat)(a s:Nat)(A:List Nat):mN op l a (A++[s])=op (mN op l a A) (l.getD s 0):=by unfold mN;rw[List.foldl_append];rfl
theorem JK{d j k m o:Nat}{op:Nat->Nat->Nat}(hq:d=157/\k=322/\m=327/\o=227\/d=164/\k=335/\m=340/\o=231)(L:∀args w,(callFunc j args).run Tryz.prog w=.ok (.enter j args) w)(T:∀(a b:Nat) (w:World),Ca j #[aH a,aH b] w (Ru w (aH (op a b:Nat)))){w:World}{p r nn f:Nat}{x:Rp}{l:List Nat}(h:cA w p x)(ok:ft x)(sp:cP x)(hf:f< 64)(hb:aM w r (aE l))(hl:l.length=53)(X:∀s,s< 64->x.spots.testBit s=true->s< 53)(hT:Tz w)(hg:0< w.heap.size):
  Ca d #[.agg #[aF p,aH nn,.func (.func j) #[] #[]],Pt r 0,aB f] w (Rt w (aH (mN op l nn (et (x.returnsOf f)):Nat))):=by
 obtain⟨D,N⟩:=bM (((w.alloc (.cells #[aF p,aH nn,.func (.func j) #[] #[]] k)).alloc (.cells #[Pt r 0] m)).alloc (.cells #[aH nn] o))
 have R:Bw w D:=by rw[N];exact((ba w _).alloc (by simp) _).alloc (by simp;omega) _
 have b0:aM D w.heap.size #[aF p,aH nn,.func (.func j) #[] #[]]:=by rw[N];exact((aM.new w _ _).alloc _).alloc _
 have b1:aM D (w.heap.size+1) #[Pt r 0]:=by rw[N];exact(aM.new' _ _ _ _ (by simp)).alloc _
 have bC:Boxed D (w.heap.size+1+1) o (aH nn):=by rw[N];exact CQ _ _ _ _ (by simp)
 have e0:Ce D w.heap.size 0 (aF p):=b0.cell 0
 have HR:=aG (BB (h.keep R) ok sp (Nat.lt_of_lt_of_le hg R.size) (hT.below R) hf)
 have a4:x.returnsOf f< ec:=jh _ _
 have a6:Hid (∀s,s< 64->(x.returnsOf f).testBit s=true->s< 53):=fun s h1 h2=>X s h1 (jg h1 (jg h1 h2).1).1
 generalize x.returnsOf f=S at *
 have hA:=hb.lt
 obtain⟨HB,HT,H,ab,aa,HD⟩:=vp hb hT R b0 b1 N
 clear h ok sp hb hT R b0 b1 N X
 have a7:=aG T
 obtain⟨I,Z⟩:=bM (fun B W=>Boxed W (w.heap.size+1+1) o (aH (mN op l nn (B.map (·.1))))/\aC (aK (w.heap.size+1+1)) D W:List (El S)->World->Prop)
 clear T
 rcases hq with⟨rfl,rfl,rfl,rfl⟩|⟨rfl,rfl,rfl,rfl⟩
 all_goals
  refine(callsIn_wide (n:=3)).1 ?_
  refine callsIn_of_wp_marks (by first|exact Tryz.func157|exact Tryz.func164) rfl trivial ?_ rfl
  simp only[Tryz.ntmps157,Tryz.ntmps164,List.size_toArray,List.length_cons,List.length_nil,Nat.reduceAdd,Nat.reduceSub,Array.replicate_succ,Array.replicate_zero,List.push_toArray,List.append_toArray,List.nil_append,List.cons_append]
  gi_wp2
  rw[<-HD.out]
  refine⟨trivial,?_⟩
  refine(callsIn_wide.2 HR).mono ?_
  rintro e Q ⟨rfl,V⟩
  have P:=aG V
  clear V
  gi_wp2_with (refine⟨trivial,?_⟩;gi_at_call 144;refine(gJ _ _ _).mono ?_;rintro e w' ⟨rfl,hq⟩;subst w')
  obtain⟨t,G⟩:=bM (Q.alloc (.cells #[aH S] 284))
  have Y:Boxed t Q.heap.size 284 (aH S):=by rw[G];exact Boxed.new _ _ _
  have k2:Bw D t:=by rw[G];exact P.alloc P.size _
  have a0:Bw w t:=H.trans (k2.mono H.size)
  have a2:Q.heap.size< t.heap.size:=Y.lt
  have ag:=bC.lt
  have ah:D.heap.size<=Q.heap.size:=P.size
  rw[<-G]
  clear G
  refine' wpIn_rangeFunc_ownG rfl (by decide) (gf:=212) (lb:=#[Pt Q.heap.size 0]) rfl trivial (enters_of Tryz.func212 (by kernel_rfl) rfl)
   (fI 2 (by decide) Q.heap.size w.heap.size S a4 _ a2 (by omega) hg Y.cell (HT.below a0)) belowK_t (belowK_b (by omega)) (Below.refl _ _) (fun _=>rfl)
   I
   (fun _ _ _=>False)
   (by rw[Z];exact OwnFrom.and (Own.from (boxed_own _ _ _) _) (eo (by omega)))
   (fun _ _ _ _ _ hs _ _=>hs)
   (by rw[Z];exact⟨aL bC k2,aC.of_below k2⟩) _ ?assign ?body ?done ?stop
  case assign=>
   intro lr z W K F
   gi_wp2
   exact F
  case body=>
   rintro lr B z W M ai
   subst Z
   obtain⟨C,A⟩:=M
   have ac:=a6 z.1 z.2.1 z.2.2
   have a1:((z.1:Nat):Int)< 53:=by omega
   have J:Bw w W:=aY H A (by omega)
   have y:Ce W w.heap.size 2 (.func (.func (AE L)) #[] #[]):=(ab.kept A (by show¬w.heap.size=w.heap.size+1+1;omega)).cell 2
   have q1:Ce W (w.heap.size+1) 0 (Pt r 0):=(aa.kept A (by show¬w.heap.size+1=w.heap.size+1+1;omega)).cell 0
   have v:W.cell? (Ad r z.1)=some (aH (l.getD z.1 0:Nat)):=by rw[(HB.out.below J).cell];exact bU (by omega)
   have u:=C.cell
   have qf:=C.frozen
   have HM:=aG (a7 (mN op l nn (B.map (·.1))) (l.getD z.1 0))
   have HN:Hid (mN op l nn ((B++[z]).map (·.1))=op (mN op l nn (B.map (·.1))) (l.getD z.1 0)):=by show _=_;rw[List.map_append];exact zn _ _ _ _ _
   have a3:=J.size
   obtain⟨a9,a8⟩:=aN C A
   generalize mN op l nn (B.map (·.1))=av at *
   generalize l.getD z.1 0=lv at *
   have l1:=aD q1
   have l2:=aD u
   have l3:=aD v
   have l4:=aD y
   clear C A J
   have HS:Hid (∀w',aC (aK (w.heap.size+1+1)) W w'->Ce w' w.heap.size 2 (.func (.func (AE L)) #[] #[])/\Ce w' (w.heap.size+1) 0 (Pt r 0)/\Ce w' r z.1 (aH (lv:Nat))):=fun w' q=>⟨kc q y (by omega),kc q q1 (by omega),kc q v (by omega)⟩
   have kk:aC (aK (w.heap.size+1+1)) W (W.drew.setCell (Ad (w.heap.size+1+1) 0) (aH (op av lv:Nat))):=((aC.refl _ W).drew).set1 0 _
   have g:=HS W.drew ((aC.refl _ W).drew)
   have g2:=HS _ kk
   have O:=aG kk
   have ae:Ce W.drew (w.heap.size+1+1) 0 (aH (av:Nat)):=u
   have ad:W.drew.frozen? (Ad (w.heap.size+1+1) 0)=false:=qf
   have af:w.heap.size+1+1< W.drew.heap.size:=l2
   clear kk q1 y v u qf
   gi_wp2
   refine fy (S:=fun w'=>Ce w' w.heap.size 2 (.func (.func (AE L)) #[] #[])/\Ce w' (w.heap.size+1) 0 (Pt r 0)/\Ce w' r z.1 (aH (lv:Nat))) (by kernel_rfl) (by kernel_rfl) (fun⟨_,_,e⟩=>e) g (fun a5=>?_)
   refine dF 0 ?_
   refine dF 1 ?_
   refine dF 3 ?_
   refine dF 4 ?_
   refine dF 5 ?_
   refine dF 6 ?_
   refine dF 7 ?_
   try simp only[Act.put,fO,fN,fM]
   refine wpAnyH_ready (rs:=[2]) (by kernel_rfl) (by simp) ?_
   refine AllReadyH.cons rfl (fun K' F=>?_) AllReadyH.nil
   go_simp
   refine F _ _ g (fun E=>?_)
   clear F K'
   try simp only[Act.put,fO,fN,fM]
   refine wpAnyH_ready (rs:=[8]) (by kernel_rfl) (by simp) ?_
   refine AllReadyH.cons rfl (fun K' F=>?_) AllReadyH.nil
   go_simp
   refine(HM _).mono ?_
   rintro q wq ⟨rfl,hq⟩
   subst wq
   try go_wp2_with fail
   refine F _ _ g (fun E=>?_)
   clear F K'
   try simp only[Act.put,fO,fN,fM]
   refine wpAnyH_ready (rs:=[9]) (by kernel_rfl) (by simp) ?_
   refine AllReadyH.cons rfl (fun K' F=>?_) AllReadyH.nil
   go_simp
   refine F _ _ g2 (fun E=>?_)
   clear F K'
   try simp only[Act.put,fO,fN,fM]
   refine wpAnyH_done (by kernel_rfl) ?_ _
   exact⟨dH O (by omega),dW O (by omega) a3,by rw[HN.out];exact a9.set _,a8.trans' O (fun i e=>.inl e)⟩
  case done=>
   rintro Dn ys W N rfl M F
   subst Z
   obtain⟨C,A⟩:=M
   rw[dO]at C
   have hc:=C.cell
   have HK:=aG (aY H A (by omega))
   clear A
   gi_wp2
   refine⟨by simp,.inl ⟨_,_,rfl,run_takeDeferred F,?_⟩⟩
   exact⟨_,results_tmp rfl _ _ _,rfl,HK.trans (belowK_b (w:=w) (Nat.le_refl _) W Dn _ _ (by omega) F rfl rfl)⟩
  case stop=>
   rintro D c B W _ _ h _
   exact h.elim
abbrev JJ:=@JK _ _ _ _ _ dT (.inl ⟨rfl,rfl,rfl,rfl⟩) mo Gk
abbrev JI:=@JK _ _ _ _ _ fV (.inr ⟨rfl,rfl,rfl,rfl⟩) mm Gj
end
end Go.Proofs.YtajfbbldaiaolaaGreatDoor
