import Derived.Deep.MidRow
import Derived.DeepKeys
import Derived.Laws.StructEq
import Derived.Deep.LoopGhost
import Derived.Test.YtmdaflepdaiabaaGreatDoorQ19
set_option linter.unusedSimpArgs false
set_option linter.unusedVariables false
namespace Go.Proofs.YtmdaflepdaiabaaGreatDoor
section
set_option maxRecDepth 100000
set_option maxHeartbeats 2000000
open Go.RowKit Go.Shelf
attribute [local go_sem] Oper.semAt_some
namespace Rp
def putF(x:Rp)(s:Nat)(ts l:List Nat):List Nat:=ts.foldl (fun l t=>addAt l (35+t*2+(x.st s).p.side) (bZ l (x.st s).fn (x.st s).a0)) l
def putG(x:Rp)(l:List Nat)(s:Nat):List Nat:=x.putF s (els (ax l ((x.st s).fn*6+(x.st s).p.ln)).1) l
end Rp
theorem Ae{w0 w:World}{bH bR b s:Nat}{x:Rp}{l:List Nat}(h:aP w0 bR x)(k:Below w0.heap.size w0 w)(hs:s< x.stmts.length)(hbb:w0.heap.size≤b)(hb:an w b (ab l))(hl:l.length=104)(c1:w.cell? ⟨bH,1,none⟩=some (ak bR))(so:gM (x.st s))(hk:(x.st s).p.kind=5)(hr:0< (x.st s).r.length)(hT:Tz w)(hg:0< w0.heap.size)(hlt:(ax l ((x.st s).fn*6+(x.st s).p.ln)).1< bI)(h6:∀t,t< 64→(ax l ((x.st s).fn*6+(x.st s).p.ln)).1.testBit t=true→t< 6):
  Calls Tryz.prog 97 #[ak bH,ak b,.int .i64 s] w fun q w'=>q=.returned (.tuple #[])∧an w' b (ab (x.putG l s))∧ae (ao b) w w':=by
 obtain⟨g,c,bs,sr,sb,z3,z4,z5,z6,z7,hbs,hrow,hbo,hro,hRo⟩:=h.stmO k hs
 have hne:bs≠b:=by omega
 have hbl:=hb.lt
 have hHl:bH< w.heap.size:=ah c1
 have hRl:bR< w.heap.size:=ah z3
 have hGl:g< w.heap.size:=ah z4
 have hsl:=hs
 obtain⟨gr,cr,rfl,hgl,hat⟩:=mL hrow hr
 have hgb:gr≠b:=by have:=hro gr rfl;omega
 have hna:(x.st s).a0.num< 6:=so.num _ (by unfold Fs.a0;rw[List.getD_eq_getElem?_getD,List.getElem?_eq_getElem hr];exact List.getElem_mem _)
 unfold Rp.putG Rp.putF
 have d2:w.cell? ⟨bs,2,none⟩=some (.int .i64 5):=by rw[hbs.cell 2];simp[aK,hk]
 have hfn:=so.fn
 have hln:=so.ln
 have SO:=aa so
 generalize x.st s=st at *
 have hbsl:=hbs.lt
 have HSK:Hid (∀w',ae (ao b) (cO w b bs st.fn st.nx st.ins).drew w'→w'.cell? ⟨w.heap.size,0,none⟩=some (ak b)∧w'.cell? ⟨w.heap.size+1,0,none⟩=some (ak bs)∧w'.cell? ⟨w.heap.size+1,1,none⟩=some (.int .i64 st.fn)∧w'.cell? ⟨bs,5,none⟩=some (.int .i64 st.p.ln)∧w'.cell? ⟨bs,7,none⟩=some (.int .i64 st.p.side)∧w'.cell? ⟨bs,12,none⟩=some (.slice (some ⟨gr,0,none⟩) st.r.length cr)∧w'.cell? ⟨gr,0,none⟩=some (.string ⟨st.a0.text.toArray⟩)∧w'.cell? ⟨gr,1,none⟩=some (.int .i64 st.a0.at_)∧w'.cell? ⟨gr,2,none⟩=some (.int .i64 st.a0.num)∧w'.cell? ⟨gr,3,none⟩=some (.int .i64 st.a0.n)):=fun w' kk=>by
  have kk':ae (ao b) (cO w b bs st.fn st.nx st.ins) w':=⟨kk.os,kk.tape,kk.output,kk.size,kk.block⟩
  obtain⟨a1,a2,a3,a4,a5,a6⟩:=ix kk' hbl hbs hne
  have kw:=(ae.of_below (S:=ao b) (au w b bs st.fn st.nx st.ins)).trans' kk' (fun i e=>Or.inl e)
  obtain⟨b1,b2,b3,b4⟩:=hat w' (fun j=>kw.cell (p:=⟨gr,j,none⟩) hgl hgb)
  exact⟨a1,a2,a3,a6.cell 5,a6.cell 7,a6.cell 12,b1,b2,b3,b4⟩
 obtain⟨g0,g1,g2,g3,g4,g5,g6,g7,g8,g9⟩:=HSK.out _ (ae.refl _ _)
 have hbW:an (cO w b bs st.fn st.nx st.ins).drew b (ab l):=hb.below (au w b bs st.fn st.nx st.ins).drew
 have hsW:an (cO w b bs st.fn st.nx st.ins).drew bs (aK st.p (.slice (some ⟨gr,0,none⟩) st.r.length cr) sb):=hbs.below (au w b bs st.fn st.nx st.ins).drew
 have HD:Hid ((w.alloc (.cells #[ak b] 228)).alloc (.cells #[ak bs,.int .i64 st.fn,.int .i64 st.nx,.int .i64 st.ins] 197)=(cO w b bs st.fn st.nx st.ins)):=rfl
 have HKD:=aa (au w b bs st.fn st.nx st.ins)
 have HBW:Hid (an (cO w b bs st.fn st.nx st.ins) b (ab l)):=hb.below (au w b bs st.fn st.nx st.ins)
 have hside:=so.side
 have HSB:=aa hbs
 have hz0:w0.heap.size≤w.heap.size:=k.size
 have hfi:((st.fn:Nat):Int)< 5:=by omega
 have hli:((st.p.ln:Nat):Int)< 6:=by omega
 have hv0:(cO w b bs st.fn st.nx st.ins).drew.cell? ⟨b,st.fn*12+st.p.ln*2,none⟩=some (.int .u64 (ax l (st.fn*6+st.p.ln)).1):=by
  rw[hbW.cell,show st.fn*12+st.p.ln*2=2*(st.fn*6+st.p.ln)by omega]
  exact aY (by omega)
 have hbD:b< (cO w b bs st.fn st.nx st.ins).drew.heap.size:=hbW.lt
 have hka:Below (cO w b bs st.fn st.nx st.ins).heap.size (cO w b bs st.fn st.nx st.ins) ((cO w b bs st.fn st.nx st.ins).alloc (.cells #[.int .u64 (ax l (st.fn*6+st.p.ln)).1] 144)).drew:=((Below.refl _ _).alloc (Nat.le_refl _) _).drew
 obtain⟨e0,e1,e2,e3,-⟩:=HSK.out ((cO w b bs st.fn st.nx st.ins).alloc (.cells #[.int .u64 (ax l (st.fn*6+st.p.ln)).1] 144)).drew (ae.of_below ⟨hka.os,hka.tape,hka.output,hka.size,hka.block⟩)
 have hv1:((cO w b bs st.fn st.nx st.ins).alloc (.cells #[.int .u64 (ax l (st.fn*6+st.p.ln)).1] 144)).drew.cell? ⟨b,st.fn*12+st.p.ln*2,none⟩=some (.int .u64 (ax l (st.fn*6+st.p.ln)).1):=(hka.cell (p:=⟨b,st.fn*12+st.p.ln*2,none⟩) hbD).trans hv0
 clear h k hbs hrow hro hat hbW hsW hb so hka
 refine(callsIn_wide (n:=3)).1 ?_
 refine callsIn_of_wp_marks Tryz.func97 rfl trivial ?_ rfl
 simp only[Tryz.ntmps97,List.size_toArray,List.length_cons,List.length_nil,Nat.reduceAdd,Nat.reduceSub,Array.replicate_succ,Array.replicate_zero,List.push_toArray,List.append_toArray,List.nil_append,List.cons_append]
 gi_wp2
 rw[HD.out]
 refine wpIn_wide.2 ?_
 go_region_held3 (fun w'=>(w'.cell? ⟨w.heap.size,0,none⟩=some (ak b)∧w'.cell? ⟨w.heap.size+1,0,none⟩=some (ak bs)∧w'.cell? ⟨w.heap.size+1,1,none⟩=some (.int .i64 st.fn)∧w'.cell? ⟨bs,5,none⟩=some (.int .i64 st.p.ln))∧w'.cell? ⟨b,st.fn*12+st.p.ln*2,none⟩=some (.int .u64 (ax l (st.fn*6+st.p.ln)).1)) (first|exact⟨⟨g0,g1,g2,g3⟩,hv0⟩|exact⟨⟨e0,e1,e2,e3⟩,hv1⟩|go_keep) (first|(go_at_call 152;refine(callsIn_wide.1 (mM 2 _ _)).mono ?_;rintro e w' ⟨rfl,hq⟩;subst w'))
 all_goals
  obtain⟨W2,hW2⟩:∃W,W=((cO w b bs st.fn st.nx st.ins).alloc (.cells #[.int .u64 (ax l (st.fn*6+st.p.ln)).1] 144)).drew:=⟨_,rfl⟩
  have k2:Below (cO w b bs st.fn st.nx st.ins).heap.size (cO w b bs st.fn st.nx st.ins) W2:=by
   rw[hW2]
   exact((Below.refl (cO w b bs st.fn st.nx st.ins).heap.size (cO w b bs st.fn st.nx st.ins)).drew).alloc (Nat.le_refl _) _
  have kw2:Below w.heap.size w W2:=HKD.out.trans (k2.mono HKD.out.size)
  have bA:Boxed W2 (cO w b bs st.fn st.nx st.ins).heap.size 144 (.int .u64 (ax l (st.fn*6+st.p.ln)).1):=by rw[hW2];exact Boxed.new (cO w b bs st.fn st.nx st.ins) _ _
  have hz2:(cO w b bs st.fn st.nx st.ins).heap.size< W2.heap.size:=bA.lt
  have hzD:(cO w b bs st.fn st.nx st.ins).heap.size≤W2.heap.size:=k2.size
  have hzw:w.heap.size≤W2.heap.size:=kw2.size
  have HB0:=aa (HBW.out.below k2)
  have HK2:=aa k2
  rw[←hW2]
  have HW2:=aa hW2
  clear hW2 k2 g0 g1 g2 g3 g4 g5 g6 g7 g8 g9 e0 e1 e2 e3 hv0 hv1
  gi_wp2
  refine' wpIn_rangeFunc_ownG rfl (by decide) (gf:=197) (lb:=#[.pointer (some ⟨(cO w b bs st.fn st.nx st.ins).heap.size,0,none⟩)]) rfl trivial (enters_of Tryz.func197 (by kernel_rfl) rfl)
   (jz 2 (by decide) (cO w b bs st.fn st.nx st.ins).heap.size w0.heap.size (ax l (st.fn*6+st.p.ln)).1 hlt _ hz2 (by omega) hg bA.cell (hT.below kw2)) belowK_t (belowK_b (by omega)) (Below.refl _ _) (fun _=>rfl)
   (fun pre W=>an W b (ab ((pre.map (·.1)).foldl (fun l t=>addAt l (35+t*2+st.p.side) (bZ l st.fn st.a0)) l))∧ae (ao b) (cO w b bs st.fn st.nx st.ins) W)
   (fun _ _ _=>False)
   (OwnFrom.and (cU (by omega)) (cN hzD))
   (fun _ _ _ _ _ hs _ _=>hs)
   ⟨HB0.out,ae.of_below HK2.out⟩ _ ?assign ?body ?done ?stop
  case assign=>
   intro lr z W K hK
   gi_wp2
   exact hK
  case body=>
   rintro lr pre z W ⟨hbW,hkW⟩ hpl
   have hz6:=h6 z.1 z.2.1 z.2.2
   have hz6i:((z.1:Nat):Int)< 6:=by omega
   have hsi:((st.p.side:Nat):Int)< 2:=by omega
   have kd:ae (ao b) (cO w b bs st.fn st.nx st.ins).drew W.drew:=⟨hkW.os,hkW.tape,hkW.output,hkW.size,hkW.block⟩
   have HSB2:Hid (∀w',ae (ao b) (cO w b bs st.fn st.nx st.ins).drew w'→w'.cell? ⟨w.heap.size,0,none⟩=some (ak b)∧w'.cell? ⟨w.heap.size+1,0,none⟩=some (ak bs)∧w'.cell? ⟨w.heap.size+1,1,none⟩=some (.int .i64 st.fn)∧w'.cell? ⟨bs,7,none⟩=some (.int .i64 st.p.side)∧w'.cell? ⟨bs,12,none⟩=some (.slice (some ⟨gr,0,none⟩) st.r.length cr)∧w'.cell? ⟨gr,0,none⟩=some (.string ⟨st.a0.text.toArray⟩)∧w'.cell? ⟨gr,1,none⟩=some (.int .i64 st.a0.at_)∧w'.cell? ⟨gr,2,none⟩=some (.int .i64 st.a0.num)∧w'.cell? ⟨gr,3,none⟩=some (.int .i64 st.a0.n)):=fun w' kk=>by
    obtain⟨a0,a1,a2,a3,a4,a5,a6,a7,a8,a9⟩:=HSK.out w' kk
    exact⟨a0,a1,a2,a4,a5,a6,a7,a8,a9⟩
   obtain⟨g0,g1,g2,g3,g4,g5,g6,g7,g8⟩:=HSB2.out W.drew kd
   obtain⟨L,hL⟩:∃L,L=(pre.map (·.1)).foldl (fun l t=>addAt l (35+t*2+st.p.side) (bZ l st.fn st.a0)) l:=⟨_,rfl⟩
   have hLl:L.length=104:=by
    rw[hL]
    have:∀(ts l:List Nat),(ts.foldl (fun l t=>addAt l (35+t*2+st.p.side) (bZ l st.fn st.a0)) l).length=l.length:=by
     intro ts
     induction ts with
     |nil=>intro l;rfl
     |cons t ts ih=>intro l;rw[List.foldl_cons,ih,ic]
    rw[this];exact hl
   rw[←hL]at hbW
   have hbd:an W.drew b (ab L):=hbW.below ⟨rfl,rfl,rfl,Nat.le_refl _,fun _ _=>rfl⟩
   have HAT:=aa (mA (f:=st.fn) (a:=st.a0) hbd hLl hfn hna)
   have HAD:Hid (∀w2,Below W.drew.heap.size W.drew w2→Calls Tryz.prog 151 #[.pointer (some ⟨b,70+z.1*4+st.p.side*2,none⟩),.agg #[.int .u64 (bZ L st.fn st.a0).1,.int .u64 (bZ L st.fn st.a0).2]] w2 fun r w'=>r=.returned (.tuple #[])∧an w' b (ab (addAt L (35+z.1*2+st.p.side) (bZ L st.fn st.a0)))∧ae (ao b) w2 w'):=fun w2 k2=>oo (hbd.below k2) (by omega) (by omega)
   have HLN:Hid (((pre++[z]).map (·.1)).foldl (fun l t=>addAt l (35+t*2+st.p.side) (bZ l st.fn st.a0)) l=addAt L (35+z.1*2+st.p.side) (bZ L st.fn st.a0)):=by
    show _=_
    rw[List.map_append,hL]
    exact da _ _ _ _
   have HKW:=aa hkW
   have hbDl:b< W.drew.heap.size:=hbd.lt
   clear hbd hbW hkW kd hL HSK
   gi_wp2
   refine eJ (S:=fun w'=>w'.cell? ⟨w.heap.size,0,none⟩=some (ak b)∧w'.cell? ⟨w.heap.size+1,0,none⟩=some (ak bs)∧w'.cell? ⟨w.heap.size+1,1,none⟩=some (.int .i64 st.fn)∧w'.cell? ⟨bs,7,none⟩=some (.int .i64 st.p.side)∧w'.cell? ⟨bs,12,none⟩=some (.slice (some ⟨gr,0,none⟩) st.r.length cr)∧w'.cell? ⟨gr,0,none⟩=some (.string ⟨st.a0.text.toArray⟩)∧w'.cell? ⟨gr,1,none⟩=some (.int .i64 st.a0.at_)∧w'.cell? ⟨gr,2,none⟩=some (.int .i64 st.a0.num)∧w'.cell? ⟨gr,3,none⟩=some (.int .i64 st.a0.n)) (by kernel_rfl) (by kernel_rfl) (fun⟨_,_,e⟩=>e) (⟨g0,g1,g2,g3,g4,g5,g6,g7,g8⟩) (fun hHeld=>?_)
   refine tk 0 (v:=?v0) rfl (by kernel_rfl) (fun _ _ _ h=>h) (by assumption) rfl ?hy0 ?_
   case hy0=>intro _ h;(try dsimp only at h);go_simp;try with_reducible rfl
   try simp only[Act.put,aS,aR,aQ]
   refine tk 1 (v:=?v1) rfl (by kernel_rfl) (fun _ _ _ h=>h) (by assumption) rfl ?hy1 ?_
   case hy1=>intro _ h;(try dsimp only at h);go_simp;try with_reducible rfl
   try simp only[Act.put,aS,aR,aQ]
   refine tk 2 (v:=?v2) rfl (by kernel_rfl) (fun _ _ _ h=>h) (by assumption) rfl ?hy2 ?_
   case hy2=>intro _ h;(try dsimp only at h);go_simp;try with_reducible rfl
   try simp only[Act.put,aS,aR,aQ]
   refine tk 3 (v:=?v3) rfl (by kernel_rfl) (fun _ _ _ h=>h) (by assumption) rfl ?hy3 ?_
   case hy3=>intro _ h;(try dsimp only at h);go_simp;try with_reducible rfl
   try simp only[Act.put,aS,aR,aQ]
   refine tk 4 (v:=?v4) rfl (by kernel_rfl) (fun _ _ _ h=>h) (by assumption) rfl ?hy4 ?_
   case hy4=>intro _ h;(try dsimp only at h);go_simp;try with_reducible rfl
   try simp only[Act.put,aS,aR,aQ]
   refine tk 5 (v:=?v5) rfl (by kernel_rfl) (fun _ _ _ h=>h) (by assumption) rfl ?hy5 ?_
   case hy5=>intro _ h;(try dsimp only at h);go_simp;try with_reducible rfl
   try simp only[Act.put,aS,aR,aQ]
   refine tk 6 (v:=?v6) rfl (by kernel_rfl) (fun _ _ _ h=>h) (by assumption) rfl ?hy6 ?_
   case hy6=>intro _ h;(try dsimp only at h);go_simp;try with_reducible rfl
   try simp only[Act.put,aS,aR,aQ]
   refine tk 7 (v:=?v7) rfl (by kernel_rfl) (fun _ _ _ h=>h) (by assumption) rfl ?hy7 ?_
   case hy7=>intro _ h;(try dsimp only at h);go_simp;try with_reducible rfl
   try simp only[Act.put,aS,aR,aQ]
   refine tk 8 (v:=?v8) rfl (by kernel_rfl) (fun _ _ _ h=>h) (by assumption) rfl ?hy8 ?_
   case hy8=>intro _ h;(try dsimp only at h);go_simp;try with_reducible rfl
   try simp only[Act.put,aS,aR,aQ]
   refine tk 9 (v:=?v9) rfl (by kernel_rfl) (fun _ _ _ h=>h) (by assumption) rfl ?hy9 ?_
   case hy9=>intro _ h;(try dsimp only at h);go_simp;try with_reducible rfl
   try simp only[Act.put,aS,aR,aQ]
   refine tk 10 (v:=?v10) rfl (by kernel_rfl) (fun _ _ _ h=>h) (by assumption) rfl ?hy10 ?_
   case hy10=>intro _ h;(try dsimp only at h);go_simp;try with_reducible rfl
   try simp only[Act.put,aS,aR,aQ]
   refine tk 11 (v:=?v11) rfl (by kernel_rfl) (fun _ _ _ h=>h) (by assumption) rfl ?hy11 ?_
   case hy11=>intro _ h;(try dsimp only at h);go_simp;try with_reducible rfl
   try simp only[Act.put,aS,aR,aQ]
   refine tk 12 (v:=?v12) rfl (by kernel_rfl) (fun _ _ _ h=>h) (by assumption) rfl ?hy12 ?_
   case hy12=>intro _ h;(try dsimp only at h);go_simp;try with_reducible rfl
   try simp only[Act.put,aS,aR,aQ]
   refine tk 13 (v:=?v13) rfl (by kernel_rfl) (fun _ _ _ h=>h) (by assumption) rfl ?hy13 ?_
   case hy13=>intro _ h;(try dsimp only at h);go_simp;try with_reducible rfl
   try simp only[Act.put,aS,aR,aQ]
   refine tk 14 (v:=?v14) rfl (by kernel_rfl) (fun _ _ _ h=>h) (by assumption) rfl ?hy14 ?_
   case hy14=>intro _ h;(try dsimp only at h);go_simp;try with_reducible rfl
   try simp only[Act.put,aS,aR,aQ]
   refine tk 15 (v:=?v15) rfl (by kernel_rfl) (fun _ _ _ h=>h) (by assumption) rfl ?hy15 ?_
   case hy15=>intro _ h;(try dsimp only at h);go_simp;try with_reducible rfl
   try simp only[Act.put,aS,aR,aQ]
   refine tk 16 (v:=?v16) rfl (by kernel_rfl) (fun _ _ _ h=>h) (by assumption) rfl ?hy16 ?_
   case hy16=>intro _ h;(try dsimp only at h);go_simp;try with_reducible rfl
   try simp only[Act.put,aS,aR,aQ]
   refine tk 17 (v:=?v17) rfl (by kernel_rfl) (fun _ _ _ h=>h) (by assumption) rfl ?hy17 ?_
   case hy17=>intro _ h;(try dsimp only at h);go_simp;try with_reducible rfl
   try simp only[Act.put,aS,aR,aQ]
   refine tk 18 (v:=?v18) rfl (by kernel_rfl) (fun _ _ _ h=>h) (by assumption) rfl ?hy18 ?_
   case hy18=>intro _ h;(try dsimp only at h);go_simp;try with_reducible rfl
   try simp only[Act.put,aS,aR,aQ]
   refine tk 19 (v:=?v19) rfl (by kernel_rfl) (fun _ _ _ h=>h) (by assumption) rfl ?hy19 ?_
   case hy19=>intro _ h;(try dsimp only at h);go_simp;try with_reducible rfl
   try simp only[Act.put,aS,aR,aQ]
   refine tk 20 (v:=?v20) rfl (by kernel_rfl) (fun _ _ _ h=>h) (by assumption) rfl ?hy20 ?_
   case hy20=>intro _ h;(try dsimp only at h);go_simp;try with_reducible rfl
   try simp only[Act.put,aS,aR,aQ]
   refine wpAnyH_ready (rs:=[21]) (by kernel_rfl) (by simp) ?_
   refine AllReadyH.cons rfl (fun K' hK=>?_) AllReadyH.nil
   go_simp
   refine HAT.out.mono ?_
   rintro q w4 ⟨rfl,hb4⟩
   have HB4:=aa hb4
   have kq4:ae (ao b) W w4:=ae.of_below ⟨hb4.os,hb4.tape,hb4.output,hb4.size,hb4.block⟩
   have kk4:=HKW.out.trans' kq4 (fun i e=>Or.inl e)
   obtain⟨e0,e1,e2,e3,e4,e5,e6,e7,e8⟩:=HSB2.out w4 ⟨kk4.os,kk4.tape,kk4.output,kk4.size,kk4.block⟩
   have HKQ4:=aa kq4
   clear hb4 kq4 kk4
   try go_wp2_with fail
   refine hK.out _ _ ⟨e0,e1,e2,e3,e4,e5,e6,e7,e8⟩ (fun hHeld2=>?_)
   clear hK K' hHeld
   have hHeld:=hHeld2
   clear hHeld2
   try simp only[Act.put,aS,aR,aQ]
   refine wpAnyH_ready (rs:=[22]) (by kernel_rfl) (by simp) ?_
   refine AllReadyH.cons rfl (fun K' hK=>?_) AllReadyH.nil
   go_simp
   refine(HAD.out w4 HB4.out).mono ?_
   rintro q w3 ⟨rfl,hq⟩
   have hq2:ae (ao b) W w3:=HKQ4.out.trans' hq.2 (fun i e=>Or.inl e)
   have kk:=HKW.out.trans' hq2 (fun i e=>Or.inl e)
   obtain⟨f0,f1,f2,f3,f4,f5,f6,f7,f8⟩:=HSB2.out w3 ⟨kk.os,kk.tape,kk.output,kk.size,kk.block⟩
   try go_wp2_with fail
   refine hK.out _ _ ⟨f0,f1,f2,f3,f4,f5,f6,f7,f8⟩ (fun hHeld2=>?_)
   clear hK K' hHeld
   have hHeld:=hHeld2
   clear hHeld2
   try simp only[Act.put,aS,aR,aQ]
   refine wpAnyH_done (by kernel_rfl) ?_ _
   clear hHeld
   have hWl:w0.heap.size≤W.heap.size:=by have:=HKW.out.size;have:=HKD.out.size;omega
   exact⟨bY hq2 (by omega),cn hq2 hbb hWl,by rw[HLN.out];exact hq.1,kk⟩
  case done=>
   rintro Dn ys W hD rfl ⟨hbW,hkW⟩ hK
   have HBF:=aa hbW
   have HKF:=aa hkW
   clear hbW hkW
   gi_wp2
   refine⟨by simp,.inl ⟨_,_,rfl,run_takeDeferred hK,?_⟩⟩
   refine⟨_,results_none rfl _ _ _,rfl,?_,?_⟩
   ·rw[←cF]
    exact(cU (β:=Unit) (A:=fun _=>_) (B:=W2.heap.size) (by omega)) () _ _ _ HBF.out (grownBy_putObj' W Dn _) (fun r e=>by cases e;exact⟨hD,_,hK,rfl⟩)
   ·exact(ae.of_below (S:=ao b) HKD.out).trans' (HKF.out.grown (grownBy_putObj' W Dn _) (fun r e=>by cases e;exact Or.inr (by omega))) (fun i e=>Or.inl e)
  case stop=>
   rintro Dn c pre W _ _ h _
   exact h.elim
end
section
open Go.RowKit Go.Shelf
def iY(P:Program):List Field→Nat→Nat→Bool
 |[],o,n=>o==n
 |f::fs,o,n=>f.offset==o&&iY P fs (o+P.cellsOf f.type) n
def pH(P:Program):Nat→TypeId→Bool
 |0,_=>false
 |d+1,t=>match P.underlying t with
  |some (.int .u64)=>P.cellsOf t==1
  |some (.array n e)=>pH P d e&&P.cellsOf t==n*P.cellsOf e
  |some (.struct fs)=>fs.all (·.name != "_")&&iY P fs.toList 0 (P.cellsOf t)&&fs.toList.all (fun f=>pH P d f.type)
  |_=>false
def jo(l:List Nat):List Lit:=l.map (fun(a:Nat)=>Lit.int .u64 (a:Int))
theorem vY{a b:List Nat}(h:jo a=jo b):a=b:=by
 induction a generalizing b with
 |nil=>cases b with
  |nil=>rfl
  |cons y b=>cases h
 |cons x a ih=>cases b with
  |nil=>cases h
  |cons y b=>
   simp only[jo,List.map_cons,List.cons.injEq]at h
   obtain⟨h1,h2⟩:=h
   injection h1 with _ h1
   rw[ih h2]
   congr 1
   omega
theorem ma(l:List Nat)(k:Nat):(aH l).drop k=aH (l.drop k):=by simp[aH,List.map_drop]
theorem lZ(l:List Nat)(k:Nat):(aH l).take k=aH (l.take k):=by simp[aH,List.map_take]
theorem aV(l:List Nat):(aH l).length=l.length:=by simp[aH]
theorem Ak(s:Nat)(g:Nat→List Nat):∀(n:Nat) (l:List Nat),l.length=n*s→((List.range n).map (fun i=>(l.drop (i*s)).take s)).flatten=l:=by
 intro n
 induction n with
 |zero=>intro l hl;simp at hl;subst hl;rfl
 |succ n ih=>
  intro l hl
  rw[List.range_succ_eq_map,List.map_cons,List.flatten_cons,List.map_map]
  have h2:(l.drop s).length=n*s:=by rw[List.length_drop,hl,Nat.succ_mul];omega
  have e:(List.range n).map ((fun i=>(l.drop (i*s)).take s)∘Nat.succ)=(List.range n).map (fun i=>((l.drop s).drop (i*s)).take s):=by
   refine List.map_congr_left fun i _=>?_
   simp only[Function.comp,List.drop_drop,Nat.succ_mul]
   rw[Nat.add_comm s]
  rw[e,ih _ h2,Nat.zero_mul,List.drop_zero,List.take_append_drop]
theorem og{α β:Type}(f:α→Option β)(g:α→β):∀l:List α,(∀a∈l,f a=some (g a))→l.mapM f=some (l.map g):=by
 intro l
 induction l with
 |nil=>intro _;rfl
 |cons a l ih=>intro h;rw[List.mapM_cons,h a (by simp),ih (fun b hb=>h b (by simp[hb]))];rfl
theorem jV(L:List (List Nat)):(L.map jo).flatten=jo L.flatten:=by
 induction L with
 |nil=>rfl
 |cons a L ih=>simp only[List.map_cons,List.flatten_cons,ih];simp[jo]
theorem ni(P:Program):∀(fs:List Field) (o n:Nat) (l:List Nat),iY P fs o n=true→l.length=n→(fs.map (fun f=>(l.drop f.offset).take (P.cellsOf f.type))).flatten=l.drop o:=by
 intro fs
 induction fs with
 |nil=>
  intro o n l h hl
  simp only[iY,beq_iff_eq]at h
  rw[List.map_nil,List.flatten_nil,List.drop_of_length_le (by omega)]
 |cons f fs ih=>
  intro o n l h hl
  simp only[iY,Bool.and_eq_true,beq_iff_eq]at h
  rw[List.map_cons,List.flatten_cons,ih _ n l h.2 hl,h.1,←List.drop_drop,List.take_append_drop]
theorem ph(P:Program):∀(fs:List Field) (o n:Nat),iY P fs o n=true→o≤n∧∀f∈fs,f.offset+P.cellsOf f.type≤n:=by
 intro fs
 induction fs with
 |nil=>intro o n h;simp only[iY,beq_iff_eq]at h;exact⟨by omega,fun f hf=>by cases hf⟩
 |cons g fs ih=>
  intro o n h
  simp only[iY,Bool.and_eq_true,beq_iff_eq]at h
  obtain⟨h1,h2⟩:=ih _ _ h.2
  refine⟨by omega,fun f hf=>?_⟩
  rcases List.mem_cons.1 hf with rfl|hf
  ·omega
  ·exact h2 f hf
theorem kO(P:Program):∀(d:Nat) (t:TypeId) (l:List Nat),pH P d t=true→l.length=P.cellsOf t→(∀a∈l,a< bI)→P.keyLits d t (aH l)=some (jo l):=by
 intro d
 induction d with
 |zero=>intro t l h;cases h
 |succ d ih=>
  intro t l h hl hm
  unfold pH at h
  unfold Program.keyLits
  split at h
  ·rename_i hu
   rw[beq_iff_eq]at h
   rw[h]at hl
   obtain⟨a,rfl⟩:=List.length_eq_one_iff.1 hl
   have ha:=hm a (by simp)
   have hw:(Lit.int .u64 (a:Int)).wf=true:=by
    unfold bI at ha
    exact WalkArith.wf_u64 (by omega)
   simp[hu,aH,jo,hw]
  ·rename_i n e hu
   simp only[Bool.and_eq_true,beq_iff_eq]at h
   have hlen:(aH l).length=P.cellsOf t:=by rw[aV];exact hl
   simp only[hu]
   rw[if_pos hlen,og _ (fun i=>jo ((l.drop (i*P.cellsOf e)).take (P.cellsOf e)))]
   ·rw[Option.map_some]
    congr 1
    rw[show(List.range n).map (fun i=>jo ((l.drop (i*P.cellsOf e)).take (P.cellsOf e)))=((List.range n).map (fun i=>(l.drop (i*P.cellsOf e)).take (P.cellsOf e))).map jo by rw[List.map_map];rfl,jV,Ak (P.cellsOf e) (fun _=>[]) n l (by rw[hl,h.2])]
   ·intro i hi
    rw[ma,lZ]
    have hi':i< n:=List.mem_range.1 hi
    refine ih e _ h.1 ?_ (fun a ha=>hm a (List.mem_of_mem_drop (List.mem_of_mem_take ha)))
    rw[List.length_take,List.length_drop,hl,h.2]
    have:(i+1)*P.cellsOf e≤n*P.cellsOf e:=Nat.mul_le_mul_right _ hi'
    rw[Nat.add_mul,Nat.one_mul]at this
    omega
  ·rename_i fs hu
   simp only[Bool.and_eq_true]at h
   have hlen:(aH l).length=P.cellsOf t:=by rw[aV];exact hl
   simp only[hu]
   rw[if_pos ⟨hlen,h.1.1⟩,og _ (fun f=>jo ((l.drop f.offset).take (P.cellsOf f.type)))]
   ·rw[Option.map_some]
    congr 1
    rw[show fs.toList.map (fun f=>jo ((l.drop f.offset).take (P.cellsOf f.type)))=(fs.toList.map (fun f=>(l.drop f.offset).take (P.cellsOf f.type))).map jo by rw[List.map_map];rfl,jV,ni P fs.toList 0 _ l h.1.2 hl,List.drop_zero]
   ·intro f hf
    rw[ma,lZ]
    refine ih f.type _ (List.all_eq_true.1 h.2 f hf) ?_ (fun a ha=>hm a (List.mem_of_mem_drop (List.mem_of_mem_take ha)))
    have:=(ph P _ _ _ h.1.2).2 f hf
    rw[List.length_take,List.length_drop,hl]
    omega
  ·cases h
structure Wd(n:Nat)(l:List Nat):Prop where
 len:l.length=n
 lt:∀a∈l,a< bI
theorem mE{P:Program}{d m:Nat}{t:TypeId}{n:Nat}(hu:pH P d t=true)(hk:P.keyTypeAt m t=true)(hm:m≤10000)(hc:P.cellsOf t=n)(hf:∀A:Array Value,A.size=n→(Value.agg A).formed P t=true){xs ys:List Nat}(hx:Wd n xs)(hy:Wd n ys)(w:World):
  (Op.equalIn 10000 t (.agg (ab xs)) (.agg (ab ys))).run P w=.ok (decide (xs=ys)) w:=by
 have h:=run_equalIn_deep (P:=P) (10000-m) m t hk w d d (.agg (ab xs)) (.agg (ab ys)) (jo xs) (jo ys) (hf _ (by simp[ab,aH,hx.len])) (hf _ (by simp[ab,aH,hy.len])) (kO P d t xs hu (by rw[hx.len,hc]) hx.lt) (kO P d t ys hu (by rw[hy.len,hc]) hy.lt)
 rw[Nat.sub_add_cancel hm]at h
 obtain⟨r,h1,h2⟩:=h
 rw[h1]
 congr 1
 rw[Bool.eq_iff_iff,h2,decide_eq_true_iff]
 exact⟨vY,fun e=>by rw[e]⟩
theorem ri:pH Tryz.prog 6 219=true:=by kernel_rfl
theorem rj:Tryz.prog.keyTypeAt 6 219=true:=by kernel_rfl
theorem lk:Tryz.prog.cellsOf 219=104:=by kernel_rfl
theorem rk(A:Array Value)(h:A.size=104):(Value.agg A).formed Tryz.prog 219=true:=by
 unfold Value.formed
 simp only[Tryz.underlying219,lk,h]
 rfl
theorem nj{xs ys:List Nat}(hx:Wd 104 xs)(hy:Wd 104 ys)(w:World):(binOp .neq 219 (.agg (ab xs)) (.agg (ab ys))).run Tryz.prog w=.ok (.bool (!decide (xs=ys))) w:=by
 rw[run_neq_struct,mE ri rj (by decide) lk rk hx hy]
 rfl
end
section
open Go.RowKit Go.Shelf
structure mT(P:Program)(t:TypeId)(n:Nat):Prop where
 hu:∃d,P.underlying t=some d∧d.isRow=true
 hi:(P.info? t).map (·.size)=some n
theorem jq(l:List Nat):(ab l).toList=aH l:=by simp[ab]
theorem lN(l:List Nat):(ab l).all (·.oneCell')=true:=by
 refine all_oneCell_toArray (fun v hv=>?_)
 simp only[aH,List.mem_map]at hv
 obtain⟨a,_,rfl⟩:=hv
 rfl
theorem ox{w:World}{b:Nat}{l:List Nat}(h:an w b (ab l)):w.rangeAt b 0 (aH l):=fun j v hv=>by
 rw[Nat.zero_add,h.cell]
 simpa[ab]using hv
def gm(A:Array Value):Nat→List Value→Array Value
 |_,[]=>A
 |o,v::r=>gm (A.setIfInBounds o v) (o+1) r
theorem io:∀(vs:List Value) (A:Array Value) (o:Nat),(gm A o vs).size=A.size:=by
 intro vs
 induction vs with
 |nil=>intro A o;rfl
 |cons v r ih=>intro A o;show(gm _ _ r).size=_;rw[ih];simp
theorem kx:∀(vs:List Value) (A:Array Value) (o j:Nat),j< A.size→(gm A o vs)[j]?=if o≤j∧j< o+vs.length then vs[j-o]? else A[j]?:=by
 intro vs
 induction vs with
 |nil=>intro A o j _;rw[if_neg (by simp)];rfl
 |cons v r ih=>
  intro A o j hj
  show(gm _ _ r)[j]?=_
  rw[ih _ _ _ (by simpa using hj)]
  by_cases h1:j=o
  ·subst h1
   rw[if_neg (by omega),if_pos (by simp),Nat.sub_self]
   simp[hj]
  ·by_cases h2:o+1≤j∧j< o+1+r.length
   ·rw[if_pos h2,if_pos (by simp;omega),show j-o=(j-(o+1))+1 by omega,List.getElem?_cons_succ]
   ·rw[if_neg h2,if_neg (by simp;omega),Array.getElem?_setIfInBounds_ne (by omega)]
theorem jd(A:Array Value)(vs:List Value)(h:A.size=vs.length):gm A 0 vs=vs.toArray:=by
 refine Array.ext_getElem? fun j=>?_
 by_cases hj:j< A.size
 ·rw[kx _ _ _ _ hj,if_pos (by omega)];simp
 ·rw[Array.getElem?_eq_none (by rw[io];omega),Array.getElem?_eq_none (by simp;omega)]
theorem dz{b:Nat}{t:TypeId}{fz:Nat×Nat}:∀(vs:List Value) (o:Nat) (A:Array Value) (w:World),w.heap[b]?=some (.cells A t fz)→(w.setCells b o vs).heap[b]?=some (.cells (gm A o vs) t fz)∧ae (ao b) w (w.setCells b o vs):=by
 intro vs
 induction vs with
 |nil=>intro o A w h;exact⟨h,ae.refl _ _⟩
 |cons v r ih=>
  intro o A w h
  have h2:=ih (o+1) _ _ (eD (j:=o) (u:=v) h)
  exact⟨h2.1,((ae.refl _ w).set1 o v).trans h2.2⟩
theorem aT{P:Program}{ops:Array Oper}{rest:List Oper}{op:Oper}{a:Act}{w:World}{Q:Exit→Act→World→Prop}{t n b:Nat}{l:List Nat}(hgd:op.guard=none)(T:mT P t n)(x:Operand)(ho:op.op=.load t x)(hx:a.eval x=.pointer (some ⟨b,0,none⟩))(hb:an w b (ab l))(hl:Hid (l.length=n))
  (h:wpList P ops Q rest (a.put op.dst (.agg (ab l))) w):wpList P ops Q (op::rest) a w:=by
 obtain⟨d,h1,h2⟩:=T.hu
 exact wpList_load_mid hgd t x ho b 0 hx (aH l) d (ox hb) h1 h2 (by rw[T.hi,aV,hl.out]) h
theorem bM{P:Program}{ops:Array Oper}{rest:List Oper}{op:Oper}{a:Act}{w:World}{Q:Exit→Act→World→Prop}{t t' n b:Nat}{l:List Nat}{A:Array Value}(hgd:op.guard=none)(T:mT P t n)(x y:Operand)(ho:op.op=.store t x y)(hx:a.eval x=.pointer (some ⟨b,0,none⟩))(hy:a.eval y=.agg (ab l))(hl:Hid (l.length=n))(hb:w.heap[b]?=some (.cells A t' (0,0)))(hA:A.size=n)
  (h:Hid (∀w',w'.heap[b]?=some (.cells (ab l) t' (0,0))→ae (ao b) w w'→wpList P ops Q rest (a.put op.dst undef) w')):wpList P ops Q (op::rest) a w:=by
 have hk:=af hb
 refine wpList_store_mid hgd t x y ho b 0 (ab l) hx hy (fun j hj=>?_) (by rw[T.hi,ar,hl.out]) (lN l) ?_
 ·rw[ar,hl.out]at hj
  rw[Nat.zero_add,hk.cell,hk.fz]
  exact⟨by rw[Array.getElem?_eq_getElem (by omega)];rfl,rfl⟩
 ·have:=dz (b:=b) (ab l).toList 0 A w hb
  refine h.out _ ?_ this.2
  rw[this.1,jd _ _ (by rw[jq,aV,hl.out];exact hA)]
theorem bi:mT Tryz.prog 219 104:=⟨⟨_,Tryz.underlying219,rfl⟩,by kernel_rfl⟩
theorem gD:Tryz.zeroCells219.size=104:=by kernel_rfl
theorem px:Tryz.zeroCells219=ab (List.replicate 104 0):=by kernel_rfl
def aM(f:List Nat→List Nat):Nat→List Nat→Option (List Nat)
 |0,v=>if f v=v then some v else none
 |k+1,v=>if f v=v then some v else aM f k (f v)
end
section
set_option maxRecDepth 100000
set_option maxHeartbeats 4000000
open Go.RowKit Go.Shelf
theorem pO(v R:List Nat)(k0:Nat)(f:List Nat→List Nat)(G:List Nat→Prop)(k:FuncId)(bs caps:Array Value)(w:World)(hv:Wd 104 v)(hG:G v)(hf:∀y,Wd 104 y→G y→Wd 104 (f y)∧G (f y))(hR:aM f k0 v=some R)
  (hk:∀(y:List Nat) (W:World),Wd 104 y→G y→Below w.heap.size w W→Calls Tryz.prog k (bs++#[.agg (ab y)]++caps) W fun r W'=>r=.returned (.agg (ab (f y)))∧Below W.heap.size W W')
  (he:∀args w,(callFunc k args).run Tryz.prog w=.ok (.enter k args) w):
  Calls Tryz.prog 94 #[.agg (ab v),.func (.func k) bs caps] w fun r w'=>r=.returned (.agg (ab R))∧Below w.heap.size w w':=by
 have HK:=aa hk
 have HR:=aa hR
 have HF:=aa hf
 have HG:=aa hG
 have HV:=aa hv
 have hlv:Hid (v.length=104):=hv.len
 have hlf:Hid ((f v).length=104):=(hf v hv hG).1.len
 have k0b:Below w.heap.size w ((w.alloc (.cells (ab v) 219)).alloc (.cells Tryz.zeroCells219 219)):=((Below.refl _ w).alloc (Nat.le_refl _) _).alloc (by simp) _
 have H1:=aa (hk v _ hv hG k0b)
 have hb2:an ((w.alloc (.cells (ab v) 219)).alloc (.cells Tryz.zeroCells219 219)) w.heap.size (ab v):=(an.new w _ _).alloc _
 have HT2:Hid (((w.alloc (.cells (ab v) 219)).alloc (.cells Tryz.zeroCells219 219)).heap[w.heap.size]?=some (.cells (ab v) 219 (0,0))∧((w.alloc (.cells (ab v) 219)).alloc (.cells Tryz.zeroCells219 219)).heap[w.heap.size+1]?=some (.cells Tryz.zeroCells219 219 (0,0))):=⟨(Below.heap_alloc _ _ _ (by simp)).trans (heap_alloc_new w _),by have:=heap_alloc_new (w.alloc (.cells (ab v) 219)) (.cells Tryz.zeroCells219 219);rw[World.size_alloc]at this;exact this⟩
 have HK0:=aa k0b
 clear hk hR hf hG hv k0b
 go_enter Tryz.func94,Tryz.ntmps94
 go_wp2_with (first|(refine aT rfl bi _ rfl rfl (by assumption) (by assumption) ?_))
 refine H1.out.mono ?_
 rintro r w1 ⟨rfl,hb1⟩
 have HB1:=aa hb1
 have HT3:Hid (w1.heap[w.heap.size]?=some (.cells (ab v) 219 (0,0))∧w1.heap[w.heap.size+1]?=some (.cells Tryz.zeroCells219 219 (0,0))∧Below w.heap.size w w1):=⟨(hb1.block _ (by simp;omega)).trans HT2.out.1,(hb1.block _ (by simp)).trans HT2.out.2,HK0.out.trans (hb1.mono HK0.out.size)⟩
 clear hb1 hb2 HT2 HK0 HB1
 go_wp2_with (first|(refine bM rfl bi _ _ rfl rfl rfl hlf (heap_alloc_new w1 _) gD ?_))
 show∀w':World,_
 intro w2 hw2 hk2
 have HI:Hid (w2.heap[w.heap.size]?=some (.cells (ab v) 219 (0,0))∧(∃A,w2.heap[w.heap.size+1]?=some (.cells A 219 (0,0))∧A.size=104)∧w2.heap[w1.heap.size]?=some (.cells (ab (f v)) 219 (0,0))∧w.heap.size+1< w1.heap.size∧Below w.heap.size w w2):=by
  have hz:=(Array.getElem?_eq_some_iff.1 HT3.out.2.1).1
  have hb:∀i,i< w1.heap.size→w2.heap[i]?=w1.heap[i]?:=fun i hi=>(hk2.block i (by simp;omega) (by show¬i=w1.heap.size;omega)).trans (Below.heap_alloc _ _ _ hi)
  refine⟨(hb _ (by omega)).trans HT3.out.1,⟨_,(hb _ hz).trans HT3.out.2.1,gD⟩,hw2,hz,?_⟩
  exact HT3.out.2.2.trans ⟨hk2.os,hk2.tape,hk2.output,Nat.le_trans (by simp) hk2.size,fun i hi=>hb i (by omega)⟩
 clear hw2 hk2 HT3 H1
 go_wp2_with fail
 go_loopg [5] k0 (fun g a wr=>∃(y:List Nat) (p:Nat),a=.pointer (some ⟨p,0,none⟩)∧Hid (aM f g y=some R)∧Hid (Wd 104 y∧G y)∧Hid (wr.heap[w.heap.size]?=some (.cells (ab y) 219 (0,0))∧(∃A,wr.heap[w.heap.size+1]?=some (.cells A 219 (0,0))∧A.size=104)∧wr.heap[p]?=some (.cells (ab (f y)) 219 (0,0))∧w.heap.size+1< p∧Below w.heap.size w wr))
 case atStart=>exact⟨v,w1.heap.size,rfl,HR,⟨HV.out,HG.out⟩,HI⟩
 case round=>
  obtain⟨y,p,rfl,HS,HW,HM⟩:=hrel
  have hly:Hid (y.length=104):=HW.out.1.len
  have hwf:=HF.out y HW.out.1 HW.out.2
  have hlfy:Hid ((f y).length=104):=hwf.1.len
  have hb2:an wr w.heap.size (ab y):=af HM.out.1
  have hbp:an wr p (ab (f y)):=af HM.out.2.2.1
  have hq:=nj hwf.1 HW.out.1
  have HWF:=aa hwf
  clear hwf hlv hlf
  by_cases e:f y=y
  ·have hne:(!decide (f y=y))=false:=by simp[e]
   have HX:Hid (y=R):=by
    have:=HS.out
    show y=R
    cases gk<;>simpa[aM,e]using this
   have hq2:∀W:World,(binOp .neq 219 (.agg (ab (f y))) (.agg (ab y))).run Tryz.prog W=.ok (.bool false) W:=fun W=>by rw[hq W,hne]
   obtain⟨A,hA,hAn⟩:=HM.out.2.1
   clear e hq hne
   go_wp2_with (first|(refine aT rfl bi _ rfl rfl hbp hlfy ?_)|(refine aT rfl bi _ rfl rfl hb2 hly ?_)|(refine bM rfl bi _ _ rfl rfl rfl hly hA hAn ?_))
   show∀w':World,_
   intro w3 hw3 hk3
   have HF3:Hid (Below w.heap.size w w3):=HM.out.2.2.2.2.trans (by
    have:=HM.out.2.2.2.2.size
    exact⟨hk3.os,hk3.tape,hk3.output,hk3.size,fun i hi=>hk3.block i (by omega) (by show¬i=w.heap.size+1;omega)⟩)
   have hsz:(Tryz.prog.info? 219).map (·.size)=some (ab y).size:=by rw[ar,hly.out];exact bi.hi
   clear hk3 hb2 hbp hA
   go_wp2_with fail
   refine bodyPost_ret (results_cell_row rfl _ _ (w.heap.size+1) 219 (ab y) (0,0) _ rfl hw3 Tryz.underlying219 rfl hsz) rfl ⟨by rw[←HX.out],HF3.out⟩
  ·have hne:(!decide (f y=y))=true:=by simp[e]
   obtain⟨g',rfl,HS2⟩:∃g',gk=g'+1∧Hid (aM f g' (f y)=some R):=by
    have:=HS.out
    cases gk with
    |zero=>simp[aM,e]at this
    |succ g'=>exact⟨g',rfl,by show aM f g' (f y)=some R;simpa[aM,e]using this⟩
   have hq2:∀W:World,(binOp .neq 219 (.agg (ab (f y))) (.agg (ab y))).run Tryz.prog W=.ok (.bool true) W:=fun W=>by rw[hq W,hne]
   have ht2:=HM.out.1
   have hy2:(ab y).size=104:=by rw[ar,hly.out]
   clear e hq hne
   go_wp2_with (first|(refine aT rfl bi _ rfl rfl hbp hlfy ?_)|(refine aT rfl bi _ rfl rfl hb2 hly ?_)|(refine bM rfl bi _ _ rfl rfl rfl hlfy ht2 hy2 ?_))
   show∀w':World,_
   intro w3 hw3 hk3
   have hbp3:an w3 p (ab (f y)):=hbp.kept hk3 (by have:=HM.out.2.2.2.1;show¬p=w.heap.size;omega)
   have HM3:Hid (w3.heap[w.heap.size]?=some (.cells (ab (f y)) 219 (0,0))∧(∃A,w3.heap[w.heap.size+1]?=some (.cells A 219 (0,0))∧A.size=104)∧w.heap.size+1< w3.heap.size∧Below w.heap.size w w3):=by
    obtain⟨A,hA,hAn⟩:=HM.out.2.1
    have hz:=(Array.getElem?_eq_some_iff.1 hA).1
    refine⟨hw3,⟨A,(hk3.block _ hz (by show¬w.heap.size+1=w.heap.size;omega)).trans hA,hAn⟩,Nat.lt_of_lt_of_le hz hk3.size,HM.out.2.2.2.2.trans ⟨hk3.os,hk3.tape,hk3.output,hk3.size,fun i hi=>hk3.block i (by omega) (by show¬i=w.heap.size;omega)⟩⟩
   clear hw3 hk3 hb2 hbp ht2 hq2 HM
   go_wp2_with (first|(refine aT rfl bi _ rfl rfl hbp3 hlfy ?_)|(refine bM rfl bi _ _ rfl rfl rfl hlfy (heap_alloc_new w3 _) gD ?_))
   show∀w':World,_
   intro w4 hw4 hk4
   have hlt4:w3.heap.size< w4.heap.size:=(Array.getElem?_eq_some_iff.1 hw4).1
   have HM4:Hid (w4.heap[w.heap.size]?=some (.cells (ab (f y)) 219 (0,0))∧(∃A,w4.heap[w.heap.size+1]?=some (.cells A 219 (0,0))∧A.size=104)∧w4.heap[w3.heap.size]?=some (.cells (ab (f y)) 219 (0,0))∧w.heap.size+1< w3.heap.size∧Below w.heap.size w w4):=by
    obtain⟨q1,⟨A,q2,q3⟩,q4,q5⟩:=HM3.out
    have hb:∀i,i< w3.heap.size→w4.heap[i]?=w3.heap[i]?:=fun i hi=>(hk4.block i (by simp;omega) (by show¬i=w3.heap.size;omega)).trans (Below.heap_alloc _ _ _ hi)
    exact⟨(hb _ (by omega)).trans q1,⟨A,(hb _ q4).trans q2,q3⟩,hw4,q4,q5.trans ⟨hk4.os,hk4.tape,hk4.output,by omega,fun i hi=>hb i (by omega)⟩⟩
   have hb4:an w4 w.heap.size (ab (f y)):=af HM4.out.1
   have HC:=aa (HK.out (f y) w4 HWF.out.1 HWF.out.2 HM4.out.2.2.2.2)
   have hlff:Hid ((f (f y)).length=104):=(HF.out _ HWF.out.1 HWF.out.2).1.len
   clear hw4 hk4 hbp3 HM3
   go_wp2_with (first|(refine aT rfl bi _ rfl rfl hb4 hlfy ?_))
   refine HC.out.mono ?_
   rintro r w5 ⟨rfl,hb5⟩
   have HM5:Hid (w5.heap[w.heap.size]?=some (.cells (ab (f y)) 219 (0,0))∧(∃A,w5.heap[w.heap.size+1]?=some (.cells A 219 (0,0))∧A.size=104)∧w5.heap[w3.heap.size]?=some (.cells (ab (f y)) 219 (0,0))∧w.heap.size+1< w3.heap.size∧Below w.heap.size w w5):=by
    obtain⟨q1,⟨A,q2,q3⟩,q4,q5,q6⟩:=HM4.out
    have hb:∀{i:Nat} {o:Obj},w4.heap[i]?=some o→w5.heap[i]?=some o:=fun h=>(hb5.block _ (Array.getElem?_eq_some_iff.1 h).1).trans h
    exact⟨hb q1,⟨A,hb q2,q3⟩,hb q4,q5,q6.trans (hb5.mono q6.size)⟩
   have ht5:=HM5.out.2.2.1
   have hy5:(ab (f y)).size=104:=by rw[ar,hlfy.out]
   clear hb5 hb4 HM4 HC
   go_wp2_with (first|(refine bM rfl bi _ _ rfl rfl rfl hlff ht5 hy5 ?_))
   show∀w':World,_
   intro w6 hw6 hk6
   have HM6:Hid (w6.heap[w.heap.size]?=some (.cells (ab (f y)) 219 (0,0))∧(∃A,w6.heap[w.heap.size+1]?=some (.cells A 219 (0,0))∧A.size=104)∧w6.heap[w3.heap.size]?=some (.cells (ab (f (f y))) 219 (0,0))∧w.heap.size+1< w3.heap.size∧Below w.heap.size w w6):=by
    obtain⟨q1,⟨A,q2,q3⟩,q4,q5,q6⟩:=HM5.out
    have hb:∀{i:Nat} {o:Obj},i≠w3.heap.size→w5.heap[i]?=some o→w6.heap[i]?=some o:=fun hne h=>(hk6.block _ (Array.getElem?_eq_some_iff.1 h).1 hne).trans h
    refine⟨hb (by omega) q1,⟨A,hb (by omega) q2,q3⟩,hw6,q5,q6.trans ⟨hk6.os,hk6.tape,hk6.output,hk6.size,fun i hi=>hk6.block i (by have:=q6.size;omega) (by show¬i=w3.heap.size;omega)⟩⟩
   clear hw6 hk6 ht5 HM5
   go_wp2_with fail
   go_roundg g'
   case rel=>exact⟨f y,w3.heap.size,rfl,HS2,HWF,HM6⟩
   all_goals omega
end
section
open Go.RowKit Go.Shelf
structure iI(l:List Nat):Prop where
 wd:Wd 104 l
 th:∀j,l.getD (2*j) 0< 64
theorem xq{a b:Nat}(ha:a< 64)(hb:b< 64):fa a b< 64:=by
 unfold fa
 exact Nat.lt_of_le_of_lt (Nat.mod_le _ _) (Nat.or_lt_two_pow (n:=6) ha hb)
theorem qJ(l:List Nat)(i j v:Nat):(l.set i v).getD j 0=if i=j∧j< l.length then v else l.getD j 0:=by
 simp only[List.getD_eq_getElem?_getD,List.getElem?_set]
 by_cases h:i=j
 ·subst h
  by_cases h2:i< l.length
  ·simp[h2]
  ·simp[h2]
 ·simp[h]
theorem iI.addAt{l:List Nat}(h:iI l)(i:Nat){v:Nat×Nat}(hv:v.1< 64):iI (addAt l i v):=by
 refine⟨⟨by rw[ic];exact h.wd.len,fun a ha=>?_⟩,fun j=>?_⟩
 ·unfold Go.Proofs.YtmdaflepdaiabaaGreatDoor.addAt at ha
  rcases List.mem_or_eq_of_mem_set ha with ha|rfl
  ·rcases List.mem_or_eq_of_mem_set ha with ha|rfl
   ·exact h.wd.lt a ha
   ·exact fT _ _
  ·exact fT _ _
 ·unfold Go.Proofs.YtmdaflepdaiabaaGreatDoor.addAt
  rw[qJ,if_neg (by omega),qJ]
  split
  ·exact xq (h.th i) hv
  ·exact h.th j
theorem iI.held{l:List Nat}(h:iI l)(i:Nat):(ax l i).1< 64:=h.th i
theorem iI.atom{l:List Nat}(h:iI l)(f:Nat)(a:Pa):(bZ l f a).1< 64:=by
 unfold bZ
 split
 ·decide
 ·exact h.held _
theorem iI.give{l:List Nat}(h:iI l)(f:Nat)(p:Ph){v:Nat×Nat}(hv:v.1< 64):iI (ed l f p v):=by
 unfold ed
 split
 ·exact h
 ·exact h.addAt _ hv
theorem iI.hand(g f:Nat)(r:List Pa):∀(i:Nat) (l:List Nat),iI l→iI (gB g f r i l):=by
 induction r with
 |nil=>intro i l h;exact h
 |cons a r ih=>intro i l h;exact ih _ _ (h.addAt _ (h.atom f a))
theorem qL{α:Type}(F:List Nat→α→List Nat)(hF:∀l t,iI l→iI (F l t)):∀(ts:List α) (l:List Nat),iI l→iI (ts.foldl F l):=by
 intro ts
 induction ts with
 |nil=>intro l h;exact h
 |cons t ts ih=>intro l h;exact ih _ (hF l t h)
namespace Rp
def doG(x:Rp)(f:Nat→Option Nat)(l:List Nat)(s:Nat):List Nat:=
 if(x.st s).p.kind=1 then x.setG l s
 else if(x.st s).p.kind=2 then x.loadG l s
 else if(x.st s).p.kind=3 then x.storeG l s
 else if(x.st s).p.kind=4 then x.getG l s
 else if(x.st s).p.kind=5 then x.putG l s
 else if(x.st s).p.kind=6 then x.newG l s ((f s).getD 0)
 else if(x.st s).p.kind=7 then x.goG l s ((x.startAt s).getD 0)
 else l
end Rp
structure sY(x:Rp)(f:Nat→Option Nat)(s:Nat):Prop where
 lt:s< x.stmts.length
 so:gM (x.st s)
 s64:s< 64
 sm:x.starts.length< 64
 k:((x.st s).p.kind=1∧(x.st s).p.op=0∧0< (x.st s).r.length)∨((x.st s).p.kind=2∧(x.st s).a0.num< 5∧0< (x.st s).r.length)∨((x.st s).p.kind=3∧(x.st s).p.ln< 5∧0< (x.st s).r.length)∨((x.st s).p.kind=4∧0< (x.st s).r.length)∨((x.st s).p.kind=5∧0< (x.st s).r.length)∨((x.st s).p.kind=6∧∃m,f s=some m∧m< 6)∨((x.st s).p.kind=7∧∃m,x.startAt s=some m∧m< 64)∨((x.st s).p.kind=12∧(x.st s).r.length=0)∨(x.st s).p.kind=8∨(x.st s).p.kind=9∨(x.st s).p.kind=10∨(x.st s).p.kind=13∨(x.st s).p.kind=14
theorem sB{x:Rp}{f:Nat→Option Nat}{s:Nat}(h:sY x f s){l:List Nat}(hl:iI l):iI (x.doG f l s):=by
 unfold Rp.doG
 split
 ·exact hl.give _ _ (hl.atom _ _)
 split
 ·exact hl.give _ _ (hl.held _)
 split
 ·exact hl.addAt _ (hl.atom _ _)
 split
 ·exact qL _ (fun l t h=>h.give _ _ (h.held _)) _ _ hl
 split
 ·exact qL _ (fun l t h=>h.addAt _ (h.atom _ _)) _ _ hl
 split
 ·rename_i hk
  have hm:∃m,f s=some m∧m< 6:=by
   rcases h.k with h1|h1|h1|h1|h1|h1|h1|h1|h1|h1|h1|h1|h1<;>first|exact h1.2|omega
  obtain⟨m,e,hm⟩:=hm
  rw[e]
  refine hl.give _ _ ?_
  show aC m< 64
  unfold aC
  exact Nat.lt_of_le_of_lt (Nat.mod_le _ _) (Nat.pow_lt_pow_right (by decide) hm)
 split
 ·exact(iI.hand _ _ _ _ _ hl).give _ _ (by show 0< 64;decide)
 ·exact hl
theorem oZ{v t:Nat}(hv:v< 64)(h:v.testBit t=true):t< 6:=by
 rcases Nat.lt_or_ge t 6 with h6|h6
 ·exact h6
 ·rw[Nat.testBit_lt_two_pow (Nat.lt_of_lt_of_le hv (Nat.pow_le_pow_right (by decide:0< 2) h6:2^6≤2^t))]at h
  cases h
theorem Cr{w0 w:World}{bH bR b s bm n:Nat}{x:Rp}{f:Nat→Option Nat}{l:List Nat}(h:aP w0 bR x)(k:Below w0.heap.size w0 w)(hbb:w0.heap.size≤b)(hb:an w b (ab l))(hl:iI l)(c1:w.cell? ⟨bH,1,none⟩=some (ak bR))(c2:w.cell? ⟨bH,2,none⟩=some (.map (some bm)))(hHb:bH≠b)(hm:fB w bm n f)(ok:sY x f s)(hT:Tz w)(hg:0< w0.heap.size):
  Calls Tryz.prog 97 #[ak bH,ak b,.int .i64 s] w fun q w'=>q=.returned (.tuple #[])∧an w' b (ab (x.doG f l s))∧ae (ao b) w w':=by
 have hlen:=hl.wd.len
 have M6:∀v:Nat,v< 64→v< bI:=fun v hv=>by unfold bI;omega
 rcases ok.k with⟨hk,h1,h2⟩|⟨hk,h1,h2⟩|⟨hk,h1,h2⟩|⟨hk,h1⟩|⟨hk,h1⟩|⟨hk,m,h1,h2⟩|⟨hk,m,h1,h2⟩|⟨hk,h1⟩|hk|hk|hk|hk|hk
 ·rw[show x.doG f l s=x.setG l s by simp[Rp.doG,hk]]
  exact Ad h k ok.lt hbb hb hlen c1 ok.so hk h1 h2
 ·rw[show x.doG f l s=x.loadG l s by simp[Rp.doG,hk]]
  exact yo h k ok.lt hbb hb hlen c1 ok.so hk h1 h2
 ·rw[show x.doG f l s=x.storeG l s by simp[Rp.doG,hk]]
  exact wu h k ok.lt hbb hb hlen c1 ok.so hk h1 h2
 ·rw[show x.doG f l s=x.getG l s by simp[Rp.doG,hk]]
  exact Ag h k ok.lt hbb hb hlen c1 ok.so hk h1 hT hg (M6 _ (hl.atom _ _)) (fun t _ ht=>oZ (hl.atom _ _) ht)
 ·rw[show x.doG f l s=x.putG l s by simp[Rp.doG,hk]]
  exact Ae h k ok.lt hbb hb hlen c1 ok.so hk h1 hT hg (M6 _ (hl.held _)) (fun t _ ht=>oZ (hl.held _) ht)
 ·rw[show x.doG f l s=x.newG l s m by simp[Rp.doG,hk,h1]]
  have:=ok.s64
  exact Af h k ok.lt hbb hb hlen c1 ok.so hk c2 hHb hm h1 (by omega) (by omega)
 ·rw[show x.doG f l s=x.goG l s m by simp[Rp.doG,hk,h1]]
  exact Bo h k ok.lt hbb hb hlen c1 ok.so hk hHb h1 h2 ok.sm
 ·rw[show x.doG f l s=l by simp[Rp.doG,hk]]
  exact Ah h k ok.lt hbb hb hlen c1 ok.so hk h1
 ·rw[show x.doG f l s=l by simp[Rp.doG,hk]]
  exact ww h k ok.lt hbb hb hlen c1 ok.so hk
 ·rw[show x.doG f l s=l by simp[Rp.doG,hk]]
  exact wv h k ok.lt hbb hb hlen c1 ok.so hk
 ·rw[show x.doG f l s=l by simp[Rp.doG,hk]]
  exact uw h k ok.lt hbb hb hlen c1 ok.so hk
 ·rw[show x.doG f l s=l by simp[Rp.doG,hk]]
  exact uu h k ok.lt hbb hb hlen c1 ok.so hk
 ·rw[show x.doG f l s=l by simp[Rp.doG,hk]]
  exact ut h k ok.lt hbb hb hlen c1 ok.so hk
end
section
set_option maxRecDepth 100000
set_option maxHeartbeats 4000000
open Go.RowKit Go.Shelf
attribute [local go_sem] Oper.semAt_some
theorem mW{P:Program}{Q:Exit→Act→World→Prop}{n:Nat}{o:Oper}{a:Act}{K:Act→World→Prop}{r:Result Next}(h:o.upon P a K Q r):o.uponIn Fence.wide n P a K Q r:=by
 unfold Oper.upon at h
 unfold Oper.uponIn
 split at h
 ·exact h
 ·exact h
 ·exact h
 ·exact⟨fun e=>(by cases e),callsIn_wide.2 h⟩
 ·refine⟨fun e=>(by cases e),fun c cs _=>?_⟩
  obtain⟨v,w',r,s⟩:=h c cs
  exact⟨v,w',r,stepsIn_wide.2 s⟩
 ·exact h
 ·exact h.elim
theorem yV{P:Program}{Q:Exit→Act→World→Prop}{n:Nat}{o:Oper}{a:Act}{w:World}{K:Act→World→Prop}(h:o.wp P a w K Q):o.wpIn Fence.wide n P a w K Q:=⟨fun _ _=>trivial,mW h⟩
theorem gh{P:Program}{ops:Array Oper}{rest:List Oper}{op:Oper}{a:Act}{w:World}{Q:Exit→Act→World→Prop}{m t n b:Nat}{l:List Nat}(hgd:op.guard=none)(T:mT P t n)(x:Operand)(ho:op.op=.load t x)(hx:a.eval x=.pointer (some ⟨b,0,none⟩))(hb:an w b (ab l))(hl:Hid (l.length=n))
  (h:wpListIn Fence.wide m P ops Q rest (a.put op.dst (.agg (ab l))) w):wpListIn Fence.wide m P ops Q (op::rest) a w:=by
 obtain⟨d,h1,h2⟩:=T.hu
 exact wpListIn_plain hgd fun K hK=>yV (wp_load_mid t x ho b 0 hx (aH l) d (ox hb) h1 h2 (by rw[T.hi,aV,hl.out]) (hK _ _ h))
theorem gg{P:Program}{ops:Array Oper}{rest:List Oper}{op:Oper}{a:Act}{w:World}{Q:Exit→Act→World→Prop}{m t t' n b:Nat}{l:List Nat}{A:Array Value}(hgd:op.guard=none)(T:mT P t n)(x y:Operand)(ho:op.op=.store t x y)(hx:a.eval x=.pointer (some ⟨b,0,none⟩))(hy:a.eval y=.agg (ab l))(hl:Hid (l.length=n))(hb:w.heap[b]?=some (.cells A t' (0,0)))(hA:A.size=n)
  (h:Hid (∀w',w'.heap[b]?=some (.cells (ab l) t' (0,0))→ae (ao b) w w'→wpListIn Fence.wide m P ops Q rest (a.put op.dst undef) w')):wpListIn Fence.wide m P ops Q (op::rest) a w:=by
 have hk:=af hb
 have:=dz (b:=b) (ab l).toList 0 A w hb
 refine wpListIn_plain hgd fun K hK=>yV (wp_store_mid t x y ho b 0 (ab l) hx hy (fun j hj=>?_) (by rw[T.hi,ar,hl.out]) (lN l) (hK _ _ (h.out _ ?_ this.2)))
 ·rw[ar,hl.out]at hj
  rw[Nat.zero_add,hk.cell,hk.fz]
  exact⟨by rw[Array.getElem?_eq_getElem (by omega)];rfl,rfl⟩
 ·rw[this.1,jd _ _ (by rw[jq,aV,hl.out];exact hA)]
namespace Rp
def roundG(x:Rp)(f:Nat→Option Nat)(l:List Nat):List Nat:=(els x.spots).foldl (x.doG f) l
end Rp
theorem BV{w:World}{bH bR b1 b3 bm n:Nat}{x:Rp}{f:Nat→Option Nat}{l:List Nat}(h:aP w bR x)(sp:ci x)(hl:iI l)(d1:w.cell? ⟨b1,0,none⟩=some (ak bR))(d3:w.cell? ⟨b3,0,none⟩=some (ak bH))(c1:w.cell? ⟨bH,1,none⟩=some (ak bR))(c2:w.cell? ⟨bH,2,none⟩=some (.map (some bm)))(hm:fB w bm n f)(ok:∀s,s< 64→x.spots.testBit s=true→sY x f s)(hT:Tz w)(hg:0< w.heap.size):
  Calls Tryz.prog 95 #[.agg (ab l),.pointer (some ⟨b1,0,none⟩),.pointer (some ⟨b3,0,none⟩)] w fun q w'=>q=.returned (.agg (ab (x.roundG f l)))∧Below w.heap.size w w':=by
 obtain⟨bv,sv,tv,rv,lv,h1,-⟩:=h.ex
 have c5:w.cell? ⟨bR,5,none⟩=some (.int .u64 x.spots):=h1.cell 5
 have hRl:=h1.lt
 have l1:b1< w.heap.size:=ah d1
 have l3:b3< w.heap.size:=ah d3
 have hHl:bH< w.heap.size:=ah c1
 have HLL:Hid (l.length=104):=hl.wd.len
 obtain⟨D,hD⟩:∃W,W=(w.alloc (.cells (ab l) 219)).alloc (.cells Tryz.zeroCells219 219):=⟨_,rfl⟩
 have kD:Below w.heap.size w D:=by rw[hD];exact((Below.refl _ w).alloc (Nat.le_refl _) _).alloc (by simp) _
 have hzD:w.heap.size+1< D.heap.size:=by rw[hD];simp
 have hbD:an D w.heap.size (ab l):=by rw[hD];exact(an.new w _ _).alloc _
 have hrD:D.heap[w.heap.size+1]?=some (.cells Tryz.zeroCells219 219 (0,0)):=by
  rw[hD]
  have:=heap_alloc_new (w.alloc (.cells (ab l) 219)) (.cells Tryz.zeroCells219 219)
  rw[World.size_alloc]at this
  exact this
 have HH:=aa h
 have HM:=aa hm
 have HL:=aa hl
 have HT:=aa hT
 have HOK:=aa ok
 have HKD:=aa kD
 have HBD:=aa hbD
 have HRD:=aa hrD
 have HD:=aa hD
 have r1:D.cell? ⟨b1,0,none⟩=some (ak bR):=(kD.cell (p:=⟨b1,0,none⟩) l1).trans d1
 have r5:D.cell? ⟨bR,5,none⟩=some (.int .u64 x.spots):=(kD.cell (p:=⟨bR,5,none⟩) hRl).trans c5
 clear h hm hl hT ok h1 kD hbD hrD hD
 refine(callsIn_wide (n:=3)).1 ?_
 refine callsIn_of_wp_marks Tryz.func95 rfl trivial ?_ rfl
 simp only[Tryz.ntmps95,List.size_toArray,List.length_cons,List.length_nil,Nat.reduceAdd,Nat.reduceSub,Array.replicate_succ,Array.replicate_zero,List.push_toArray,List.append_toArray,List.nil_append,List.cons_append]
 gi_wp2_with (refine⟨trivial,?_⟩;gi_at_call 96;rw[←HD.out];refine(eI _ _ _).mono ?_;rintro e w' ⟨rfl,hq⟩;subst w')
 obtain⟨W2,hW2⟩:∃W,W=D.alloc (.cells #[.int .u64 x.spots] 199):=⟨_,rfl⟩
 have k2:Below D.heap.size D W2:=by rw[hW2];exact(Below.refl _ D).alloc (Nat.le_refl _) _
 have bA:Boxed W2 D.heap.size 199 (.int .u64 x.spots):=by rw[hW2];exact Boxed.new _ _ _
 have hz2:D.heap.size< W2.heap.size:=bA.lt
 have kw2:Below w.heap.size w W2:=HKD.out.trans (k2.mono HKD.out.size)
 rw[←hW2]
 clear hW2 r1 r5
 refine' wpIn_rangeFunc_ownG rfl (by decide) (gf:=147) (lb:=#[.pointer (some ⟨D.heap.size,0,none⟩)]) rfl trivial (enters_of Tryz.func147 (by kernel_rfl) rfl)
  (dr 2 (by decide) D.heap.size w.heap.size x.spots sp.lt _ hz2 (by omega) hg bA.cell (HT.out.below kw2)) belowK_t (belowK_b (by omega)) (Below.refl _ _) (fun _=>rfl)
  (fun pre W=>an W w.heap.size (ab ((pre.map (·.1)).foldl (x.doG f) l))∧ae (ao w.heap.size) D W)
  (fun _ _ _=>False)
  (OwnFrom.and (cU (by omega)) (cN (by omega)))
  (fun _ _ _ _ _ hs _ _=>hs)
  ⟨HBD.out.below k2,ae.of_below k2⟩ _ ?assign ?body ?done ?stop
 case assign=>
  intro lr z W K hK
  gi_wp2
  exact hK
 case body=>
  rintro lr pre z W ⟨hbW,hkW⟩ hpl
  have kW:Below w.heap.size w W:=aE HKD.out hkW (Nat.le_refl _)
  have hO:iI ((pre.map (·.1)).foldl (x.doG f) l):=by
   have:∀(ts:List (El x.spots)) (l:List Nat),iI l→iI ((ts.map (·.1)).foldl (x.doG f) l):=by
    intro ts
    induction ts with
    |nil=>intro l h;exact h
    |cons t ts ih=>intro l h;exact ih _ (sB (HOK.out t.1 t.2.1 t.2.2) h)
   exact this pre l HL.out
  have hd:=Cr (s:=z.1) HH.out kW (Nat.le_refl _) hbW hO ((kW.cell (p:=⟨bH,1,none⟩) hHl).trans c1) ((kW.cell (p:=⟨bH,2,none⟩) hHl).trans c2) (by omega) (HM.out.keep kW) (HOK.out z.1 z.2.1 z.2.2) (HT.out.below kW) hg
  have HDO:=aa hd
  have q3:W.cell? ⟨b3,0,none⟩=some (ak bH):=(kW.cell (p:=⟨b3,0,none⟩) l3).trans d3
  have HKW:=aa hkW
  have hWz:=kW.size
  clear hbW hkW kW hO hd
  gi_wp2
  refine⟨trivial,?_⟩
  refine(CallsIn.inRound lr (callsIn_wide.2 HDO.out)).mono ?_
  rintro e w3 ⟨rfl,hb3,hk3⟩
  gi_wp2
  refine⟨bY hk3 (by omega),cn hk3 (Nat.le_refl _) hWz,?_,HKW.out.trans' hk3 (fun i e=>Or.inl e)⟩
  rw[List.map_append]
  show an w3 w.heap.size (ab (((pre.map (·.1))++[z.1]).foldl (x.doG f) l))
  rw[da]
  exact hb3
 case done=>
  rintro Dn ys W hDn rfl ⟨hbW,hkW⟩ hK
  have hbF:an W w.heap.size (ab (x.roundG f l)):=by
   have:=hbW
   rw[cF]at this
   exact this
  have hlF:Hid ((x.roundG f l).length=104):=by
   have:∀(ts:List (El x.spots)) (l:List Nat),iI l→iI ((ts.map (·.1)).foldl (x.doG f) l):=by
    intro ts
    induction ts with
    |nil=>intro l h;exact h
    |cons t ts ih=>intro l h;exact ih _ (sB (HOK.out t.1 t.2.1 t.2.2) h)
   have h2:=(this (jZ x.spots) l HL.out).wd.len
   rw[cF]at h2
   exact h2
  have hrW:W.heap[w.heap.size+1]?=some (.cells Tryz.zeroCells219 219 (0,0)):=(hkW.block _ hzD (by show¬w.heap.size+1=w.heap.size;omega)).trans HRD.out
  have HKW:=aa hkW
  clear hbW hkW
  gi_wp2_with (first|(refine gh rfl bi _ rfl rfl hbF hlF ?_)|(refine gg rfl bi _ _ rfl rfl rfl hlF hrW gD ?_))
  show∀w':World,_
  intro w4 hw4 hk4
  have hK4:w4.heap[Dn]?=some (.deferred (some [])):=(hk4.block _ (Array.getElem?_eq_some_iff.1 hK).1 (by show¬Dn=w.heap.size+1;omega)).trans hK
  have hkw4:Below w.heap.size w w4:=by
   have:=aE HKD.out HKW.out (Nat.le_refl _)
   exact this.trans ⟨hk4.os,hk4.tape,hk4.output,hk4.size,fun i hi=>hk4.block i (by have:=this.size;omega) (by show¬i=w.heap.size+1;omega)⟩
  have HK4:=aa hkw4
  have hsz:(Tryz.prog.info? 219).map (·.size)=some (ab (x.roundG f l)).size:=by rw[ar,hlF.out];exact bi.hi
  clear hk4 hbF hrW hkw4
  gi_wp2
  refine⟨by simp,.inl ⟨_,_,rfl,run_takeDeferred hK4,?_⟩⟩
  refine⟨_,results_cell_row rfl _ _ (w.heap.size+1) 219 (ab (x.roundG f l)) (0,0) _ rfl ((Array.getElem?_setIfInBounds_ne (by omega)).trans hw4) Tryz.underlying219 rfl hsz,rfl,?_⟩
  exact HK4.out.trans (belowK_b (w:=w) (Nat.le_refl _) w4 Dn _ _ (by omega) hK4 rfl rfl)
 case stop=>
  rintro Dn c pre W _ _ h _
  exact h.elim
end
section
set_option maxRecDepth 100000
set_option maxHeartbeats 2000000
open Go.RowKit Go.Shelf
theorem Ai{w:World}{bH bR sh f:Nat}{cs:List Nat}{a:Pa}(hh:gN w bH bR sh cs)(hf:f< 5)(hn:a.num< 6):
  Calls Tryz.prog 150 #[.pointer (some ⟨bH,3,none⟩),.int .i64 f,.agg #[.string ⟨a.text.toArray⟩,.int .i64 a.at_,.int .i64 a.num,.int .i64 a.n]] w fun r w'=>r=.returned (.agg #[.int .u64 (bZ cs f a).1,.int .u64 (bZ cs f a).2])∧Below w.heap.size w w':=by
 have c0:w.cell? ⟨bH,3+f*12+a.num*2,none⟩=some (.int .u64 (ax cs (f*6+a.num)).1):=by
  have:=hh.word (j:=2*(f*6+a.num)) (by omega)
  rw[show 3+2*(f*6+a.num)=3+f*12+a.num*2 by omega]at this
  exact this
 have c1:w.cell? ⟨bH,3+f*12+a.num*2+1,none⟩=some (.int .u64 (ax cs (f*6+a.num)).2):=by
  have:=hh.word (j:=2*(f*6+a.num)+1) (by omega)
  rw[show 3+(2*(f*6+a.num)+1)=3+f*12+a.num*2+1 by omega]at this
  exact this
 have hlt:bH< w.heap.size:=ah hh.src
 have e:(⟨a.text.toArray⟩:ByteArray).toList.isEmpty=a.text.isEmpty:=by simp
 unfold bZ
 generalize ax cs (f*6+a.num)=hv at *
 clear hh
 cases ht:a.text.isEmpty
 ·rw[ht]at e
  go_enter Tryz.func150,Tryz.ntmps150
  go_wp2_with fail
  go_region
  go_wp2_with fail
  refine bodyPost_ret (results_cell_row rfl _ _ (w.heap.size+1) 212 #[.int .u64 hv.1,.int .u64 hv.2] (0,0) _ rfl (gZ w _ _) Tryz.underlying212 rfl eF) rfl ⟨rfl,?_⟩
  exact(((Below.refl _ w).alloc (Nat.le_refl _) _).alloc (by simp) _).drew
 ·rw[ht]at e
  go_enter Tryz.func150,Tryz.ntmps150
  go_wp2_with fail
  refine bodyPost_ret (results_cell_row rfl _ _ (w.heap.size+1) 212 #[.int .u64 0,.int .u64 0] (0,0) _ rfl (gZ w _ _) Tryz.underlying212 rfl eF) rfl ⟨rfl,?_⟩
  exact((Below.refl _ w).alloc (Nat.le_refl _) _).alloc (by simp) _
def yZ(cs:List Nat)(t:Nat):Nat:=fa (ax cs (35+t*2)).1 (ax cs (35+t*2+1)).1
theorem nz:∀args w,(callFunc 156 args).run Tryz.prog w=.ok (.enter 156 args) w:=enters_of Tryz.func156 (by kernel_rfl) rfl
theorem wn{w:World}{bH bR sh t b1:Nat}{cs:List Nat}(hh:gN w bH bR sh cs)(c1:w.cell? ⟨b1,0,none⟩=some (ak bH))(ht:t< 6):
  Calls Tryz.prog 156 #[.int .i64 t,.pointer (some ⟨b1,0,none⟩)] w fun r w'=>r=.returned (.int .u64 (yZ cs t))∧Below w.heap.size w w':=by
 have r1:=cG
 have q0:w.cell? ⟨bH,73+t*4,none⟩=some (.int .u64 (ax cs (35+t*2)).1):=by
  have:=hh.word (j:=2*(35+t*2)) (by omega)
  rw[show 3+2*(35+t*2)=73+t*4 by omega]at this
  exact this
 have q1:w.cell? ⟨bH,73+t*4+2,none⟩=some (.int .u64 (ax cs (35+t*2+1)).1):=by
  have:=hh.word (j:=2*(35+t*2+1)) (by omega)
  rw[show 3+2*(35+t*2+1)=73+t*4+2 by omega]at this
  exact this
 have hti:((t:Nat):Int)< 6:=by omega
 unfold yZ
 generalize ax cs (35+t*2)=v at *
 generalize ax cs (35+t*2+1)=v' at *
 clear hh
 go_enter Tryz.func156,Tryz.ntmps156
 go_wp2_with fail
 go_region
 go_wp2_with fail
 go_ret
 exact⟨rfl,(Below.refl _ w).drew⟩
def wS(a b:Nat×Nat):Nat×Nat:=(fa a.1 b.1,fa a.2 b.2)
def gi(cs:List Nat)(k:Nat):Nat×Nat:=(List.range k).foldl (fun a i=>wS a (ax cs (30+i))) (0,0)
def li(cs:List Nat)(f:Nat)(r:List Pa)(z:Nat×Nat):Nat×Nat:=r.foldl (fun a p=>wS a (bZ cs f p)) z
namespace Rp
def startH(x:Rp)(cs:List Nat)(z:Nat×Nat)(s:Nat):Nat×Nat:=if dB x.spots s then li cs (x.st s).fn (x.st s).r z else z
def firstH(x:Rp)(cs:List Nat):Nat×Nat:=x.starts.foldl (x.startH cs) (gi cs 5)
end Rp
theorem uW(a0 a1 a2 a3 a4 a5 a6 a7 a8 a9:Int)(w:World):(Instr.index 215 (.agg #[.int .u64 a0,.int .u64 a1,.int .u64 a2,.int .u64 a3,.int .u64 a4,.int .u64 a5,.int .u64 a6,.int .u64 a7,.int .u64 a8,.int .u64 a9]) (.int .i64 0)).run Tryz.prog w=.ok (.agg #[.int .u64 a0,.int .u64 a1]) w:=by kernel_rfl
end
end Go.Proofs.YtmdaflepdaiabaaGreatDoor
