import Derived.Test.YtmdaflepdaiabaaGreatDoorQ22
set_option linter.unusedSimpArgs false
set_option linter.unusedVariables false
namespace Go.Proofs.YtmdaflepdaiabaaGreatDoor
section
set_option maxRecDepth 100000
set_option maxHeartbeats 4000000
open Go.RowKit Go.Shelf
attribute [local go_sem] Oper.semAt_some
theorem rc:(Tryz.prog.info? 169).map (fun i=>(i.zero,i.size,i.bytes))=some (some (.int .u64 0),1,8):=by kernel_rfl
theorem tZ{w:World}{B e n g:Nat}{xs:List Value}(h:w.ownsRow B e 1 (.slice (some ⟨g,0,none⟩) n n) n xs):w.heap[g]?=some (.cells xs.toArray e (0,0)):=by
 rcases h.2 with⟨hv,_⟩|⟨g',cap,cur,hv,_,hh,_,_,hs,ht⟩
 ·cases hv
 ·cases hv
  rw[Nat.mul_one]at hs ht
  rw[List.take_of_length_le (by simp;omega)]at ht
  rw[hh,←ht]
structure Ca(w wr:World)(bR bL n k:Nat)(ds:List Deferred):Prop where
 kp:Below w.heap.size w wr
 b1:Boxed wr w.heap.size 163 (ak bR)
 row:∃us:List Nat,us.length=n∧wr.heap[w.heap.size+1]?=some (.cells (ab us) 169 (0,0))
 b3:Boxed wr bL 238 (.slice (some ⟨w.heap.size+1,0,none⟩) n n)
 bl:w.heap.size+1< bL
 mks:Mk wr w.heap.size ds
 le:k≤n
theorem sG{w:World}{bR:Nat}{x:Rp}(h:aP w bR x)(ok:ei x)(sp:ci x)(wh:qU x)(hnn:∀s,s< x.stmts.length→(x.st s).p.nn< 64)(hT:Tz w)(hg:0< w.heap.size):
  Calls Tryz.prog 103 #[ak bR] w fun r w'=>∃p n c,r=.returned (.slice p n c)∧Below w.heap.size w w':=by
 obtain⟨i0,hi,hz0,hz1,hz2⟩:=info_parts rc
 obtain⟨bv,sv,tv,rv,lv,h1,h2,-⟩:=h.ex
 obtain⟨pb,cb,rfl⟩:=ai h2
 have c2:w.cell? ⟨bR,2,none⟩=some (.slice pb x.begins.length cb):=h1.cell 2
 have hRl:=h1.lt
 have hbn:=wh.len
 refine(callsIn_wide (n:=3)).1 ?_
 refine callsIn_of_wp_marks Tryz.func103 rfl trivial ?_ rfl
 simp only[Tryz.ntmps103,List.size_toArray,List.length_cons,List.length_nil,Nat.reduceAdd,Nat.reduceSub,Array.replicate_succ,Array.replicate_zero,List.push_toArray,List.append_toArray,List.nil_append,List.cons_append]
 refine wpIn_wide.2 ?_
 go_wp2_with (at_make;refine wpList_make_full _ rfl _ _ 238 rfl w.heap.size 169 i0 (.int .u64 0) 1 Tryz.underlying238 hi hz0 hz1 .i64 .i64 _ _ x.begins.length rfl rfl rfl rfl (by rw[hz2];omega) (by unfold maxLen;omega) (by simp) ?_;intro w1 hown1 hgrow1)
 obtain⟨bL,hbL⟩:∃b,b=w1.heap.size:=⟨_,rfl⟩
 obtain⟨W0,hW0⟩:∃W,W=w1.alloc (.cells #[.slice (some ⟨w.heap.size+1,0,none⟩) x.begins.length x.begins.length] 238):=⟨_,rfl⟩
 have HI0:Hid (Ca w W0 bR bL x.begins.length 0 []):=by
  have hr:=tZ hown1
  rw[World.size_alloc]at hr
  have hz:=(Array.getElem?_eq_some_iff.1 hr).1
  have k1:Below w.heap.size w w1:=((Below.refl _ w).alloc (Nat.le_refl _) _).grown hgrow1 (by simp) (fun k e=>by cases e)
  rw[hW0,hbL]
  refine⟨k1.alloc k1.size _,?_,⟨List.replicate x.begins.length 0,by simp,?_⟩,Boxed.new _ _ _,hz,trivial,Nat.zero_le _⟩
  ·have:=(hgrow1.block w.heap.size (by simp) (fun e=>by cases e)).trans (Boxed.new w 163 (ak bR))
   exact(Below.heap_alloc _ _ _ (by omega)).trans this
  ·rw[Below.heap_alloc _ _ _ hz,hr]
   congr 2
   have hm:(List.range x.begins.length).map (fun i=>([Value.int .u64 0]:List Value)[i%1]?.getD default)=List.replicate x.begins.length (Value.int .u64 0):=by
    rw[List.eq_replicate_iff]
    refine⟨by simp,fun b hb=>?_⟩
    simp only[List.mem_map,Nat.mod_one]at hb
    obtain⟨_,_,rfl⟩:=hb
    rfl
   simp[ab,aH,madeCells,Value.cells]
   rw[hm]
   simp
 rw[←hW0,←hbL]
 have HH:=aa h
 have HSP:=aa sp
 have HOK:=aa ok
 have HWH:=aa wh
 have HNN:=aa hnn
 have HT:=aa hT
 clear h h1 h2 ok sp wh hnn hT hown1 hgrow1 hW0 hbL
 refine(wpIn_wide (n:=3)).1 (wpIn_loop (fun a wr=>∃(u4 u5 u15 u16 u17 u18 u19 u20 u21 u22 u23 u24 u25 u26 u27 u28 u29 u30 u31 u32 u33 u34 u35 u36 u37 u38 u39 u40 u41 u42 u43 u44 u45:Value) (ds:List Deferred) (k:Nat),a={tmps:=#[ak bR,.pointer (some ⟨w.heap.size,0,none⟩),.slice none 0 0,.pointer (some ⟨bL,0,none⟩),u4,u5,ak bR,.pointer (some ⟨bR,0,none⟩),.pointer (some ⟨bR,2,none⟩),.slice pb x.begins.length cb,.int .i64 x.begins.length,.slice (some ⟨w.heap.size+1,0,none⟩) x.begins.length x.begins.length,.slice (some ⟨w.heap.size+1,0,none⟩) x.begins.length x.begins.length,.int .i64 x.begins.length,.int .i64 k,u15,u16,u17,u18,u19,u20,u21,u22,u23,u24,u25,u26,u27,u28,u29,u30,u31,u32,u33,u34,u35,u36,u37,u38,u39,u40,u41,u42,u43,u44,u45,undef],defers:=ds}∧Hid (Ca w wr bR bL x.begins.length k ds)) (fun a _=>x.begins.length-(intOf (a.tmps.getD 14 undef)).toNat) ?start ?round)
 case start=>exact⟨_,_,_,_,_,_,_,_,_,_,_,_,_,_,_,_,_,_,_,_,_,_,_,_,_,_,_,_,_,_,_,_,_,_,0,rfl,HI0⟩
 case round=>
  rintro a wr ⟨u4,u5,u15,u16,u17,u18,u19,u20,u21,u22,u23,u24,u25,u26,u27,u28,u29,u30,u31,u32,u33,u34,u35,u36,u37,u38,u39,u40,u41,u42,u43,u44,u45,ds,k,rfl,HI⟩
  have hkl:=HI.out.le
  have hL1:=HI.out.bl
  refine wpIn_wide.2 ?_
  by_cases hk:k=x.begins.length
  ·have hkn:¬((k:Int)< (x.begins.length:Int)):=by omega
   have q3:wr.cell? ⟨bL,0,none⟩=some (.slice (some ⟨w.heap.size+1,0,none⟩) x.begins.length x.begins.length):=HI.out.b3.cell
   clear hk hkl
   go_wp2_with fail
   refine dK ds _ HI.out.mks (fun w' kb=>?_)
   refine⟨_,results_tmp rfl _ _ _,?_⟩
   exact⟨⟨_,_,_,rfl⟩,HI.out.kp.trans (kb.mono (Nat.le_refl _))⟩
  ·have hkd:k< x.begins.length:=by omega
   have hkn:((k:Int)< (x.begins.length:Int)):=by omega
   clear hk
   obtain⟨W1,hW1⟩:∃W,W=wr.alloc (.cells #[.int .i64 k] 3):=⟨_,rfl⟩
   have k1:Below wr.heap.size wr W1:=by rw[hW1];exact(Below.refl _ wr).alloc (Nat.le_refl _) _
   have bF:Boxed W1 wr.heap.size 3 (.int .i64 k):=by rw[hW1];exact Boxed.new _ _ _
   have kw1:Below w.heap.size w W1:=HI.out.kp.trans (k1.mono HI.out.kp.size)
   have q1:W1.cell? ⟨w.heap.size,0,none⟩=some (ak bR):=(am HI.out.b1 k1).cell
   have qf:W1.cell? ⟨wr.heap.size,0,none⟩=some (.int .i64 k):=bF.cell
   have hz1:wr.heap.size< W1.heap.size:=bF.lt
   have hwr:w.heap.size< wr.heap.size:=HI.out.b1.lt
   have HWO:Hid (Calls Tryz.prog 140 #[ak bR,.int .i64 k] W1.drew fun r w'=>r=.returned (.int .u64 (x.wholeD k))∧Below W1.drew.heap.size W1.drew w'):=vx (HH.out.keep kw1.drew) HOK.out HSP.out (Nat.lt_of_lt_of_le hg kw1.size) (HT.out.below kw1.drew) (by omega) (fun s hs hc=>HNN.out s hs) (HWH.out.wh k hkd)
   have HIN:Hid (∀W,Below W1.drew.heap.size W1.drew W→Calls Tryz.prog 111 #[ak bR,.int .u64 (x.wholeD k)] W fun r w'=>r=.returned (.int .u64 (x.inOf (x.wholeD k)))∧Below W.heap.size W w'):=fun W kk=>by
    have kb:=kw1.drew.trans (kk.mono kw1.size)
    exact AT (HH.out.keep kb) HOK.out HSP.out (Nat.lt_of_lt_of_le hg kb.size) (HT.out.below kb) (x.wholeD k)
   obtain⟨M,hM⟩:∃M,M=x.inOf (x.wholeD k):=⟨_,rfl⟩
   rw[←hM]at HIN
   have hMlt:M< bI:=by rw[hM];exact jK _ _
   have HMM:Hid (∀t,t< 64→M.testBit t=true→t< x.stmts.length):=fun t ht hb=>by rw[hM]at hb;exact qD HSP.out ht hb
   have HK1:=aa k1
   have HBF:=aa bF
   have HW1:=aa hW1
   have HKW1:=aa kw1
   clear hM hW1 k1 bF kw1
   go_wp2_with fail
   rw[←HW1.out]
   go_region_held3 (fun w'=>w'.cell? ⟨w.heap.size,0,none⟩=some (ak bR)∧w'.cell? ⟨wr.heap.size,0,none⟩=some (.int .i64 k)) (first|exact⟨i1,i2⟩|exact⟨g1,g2⟩|exact⟨e1,e2⟩|exact⟨q1,qf⟩|go_keep) (first|(go_at_call 140;refine HWO.out.mono ?_;rintro q w2 ⟨rfl,hb2⟩;have HB2:=aa hb2;have e1:w2.cell? ⟨w.heap.size,0,none⟩=some (ak bR):=(hb2.cell (p:=⟨w.heap.size,0,none⟩) (by show w.heap.size< W1.heap.size;omega)).trans q1;have e2:w2.cell? ⟨wr.heap.size,0,none⟩=some (.int .i64 k):=(hb2.cell (p:=⟨wr.heap.size,0,none⟩) hz1).trans qf;clear hb2)|(go_at_call 111;refine(HIN.out w2 HB2.out).mono ?_;rintro q w3 ⟨rfl,hb3⟩;have hb3':Below W1.drew.heap.size W1.drew w3:=HB2.out.trans (hb3.mono HB2.out.size);have HB3:=aa hb3';have g1:w3.cell? ⟨w.heap.size,0,none⟩=some (ak bR):=(hb3'.cell (p:=⟨w.heap.size,0,none⟩) (by show w.heap.size< W1.heap.size;omega)).trans q1;have g2:w3.cell? ⟨wr.heap.size,0,none⟩=some (.int .i64 k):=(hb3'.cell (p:=⟨wr.heap.size,0,none⟩) hz1).trans qf;have hz3:W1.heap.size≤w3.heap.size:=hb3'.size;have i1:(w3.alloc (.cells #[.int .u64 M] 199)).cell? ⟨w.heap.size,0,none⟩=some (ak bR):=(World.cell?_alloc_lt _ _ _ (by show w.heap.size< w3.heap.size;omega)).trans g1;have i2:(w3.alloc (.cells #[.int .u64 M] 199)).cell? ⟨wr.heap.size,0,none⟩=some (.int .i64 k):=(World.cell?_alloc_lt _ _ _ (by show wr.heap.size< w3.heap.size;omega)).trans g2;clear hb3 hb3')|(go_at_call 96;refine(callsIn_wide.1 (eI 2 _ _)).mono ?_;rintro e w' ⟨rfl,hq⟩;subst w'))
   all_goals
    obtain⟨W4,hW4⟩:∃W,W=w3.alloc (.cells #[.int .u64 M] 199):=⟨_,rfl⟩
    have hb3:Below W1.heap.size W1 w3:=⟨HB3.out.os,HB3.out.tape,HB3.out.output,HB3.out.size,HB3.out.block⟩
    have k4:Below wr.heap.size wr W4:=by
     have:=HK1.out.trans (hb3.mono HK1.out.size)
     rw[hW4];exact this.alloc this.size _
    have bN:Boxed W4 w3.heap.size 199 (.int .u64 M):=by rw[hW4];exact Boxed.new _ _ _
    have bF4:Boxed W4 wr.heap.size 3 (.int .i64 k):=by rw[hW4];exact(am HBF.out hb3).alloc _
    have hz4:w3.heap.size< W4.heap.size:=bN.lt
    have kw4:Below w.heap.size w W4:=HI.out.kp.trans (k4.mono HI.out.kp.size)
    have hz43:=k4.size
    rw[←hW4]
    clear hW4 hb3 i1 i2 g1 g2 e1 e2 q1 qf
    go_wp2_with fail
    refine(wpIn_wide (n:=3)).1 ?_
    refine' wpIn_rangeFunc_ownG rfl (by decide) (gf:=147) (lb:=#[.pointer (some ⟨w3.heap.size,0,none⟩)]) rfl trivial (enters_of Tryz.func147 (by kernel_rfl) rfl)
     (dr 2 (by decide) w3.heap.size w.heap.size M hMlt _ hz4 (by omega) hg bN.cell (HT.out.below kw4)) belowK_t (belowK_b (by omega)) (Below.refl _ _) (fun _=>rfl)
     (fun _ W=>(∃us:List Nat,us.length=x.begins.length∧W.heap[w.heap.size+1]?=some (.cells (ab us) 169 (0,0)))∧ae (ao (w.heap.size+1)) W4 W)
     (fun _ _ _=>False)
     (OwnFrom.and (fun _ X Y row hs hg' hr=>by
      obtain⟨us,h1,h2⟩:=hs
      exact⟨us,h1,(hg'.block _ (Array.getElem?_eq_some_iff.1 h2).1 (fun e=>by have:=(hr _ e.symm).1;omega)).trans h2⟩) (cN (Nat.le_refl _)))
     (fun _ _ _ _ _ hs _ _=>hs)
     ⟨by obtain⟨us,h1,h2⟩:=HI.out.row;exact⟨us,h1,(k4.block _ (Array.getElem?_eq_some_iff.1 h2).1).trans h2⟩,ae.refl _ _⟩ _ ?assign ?body ?done ?stop
    case assign=>
     intro lr z W K hK
     gi_wp2
     exact hK
    case body=>
     rintro lr pre z W ⟨⟨us,hul,hrow⟩,hkW⟩ hpl
     have hzs:=HMM.out z.1 z.2.1 z.2.2
     have kwW:Below w.heap.size w W:=aE kw4 hkW (by omega)
     obtain⟨g,c,bs,sr,sb,z3,z4,z5,z6,z7,hbs,-⟩:=(HH.out.keep kwW).stm hzs
     have HSK:Hid (∀w',ae (ao (w.heap.size+1)) W w'→w'.cell? ⟨bL,0,none⟩=some (.slice (some ⟨w.heap.size+1,0,none⟩) x.begins.length x.begins.length)∧w'.cell? ⟨wr.heap.size,0,none⟩=some (.int .i64 k)∧w'.cell? ⟨w.heap.size,0,none⟩=some (ak bR)):=fun w' q=>by
      have q4:ae (ao (w.heap.size+1)) W4 w':=hkW.trans' q (fun i e=>Or.inl e)
      have hLl:=HI.out.b3.lt
      refine⟨(q4.cell (p:=⟨bL,0,none⟩) (by show bL< W4.heap.size;omega) (by show¬bL=w.heap.size+1;omega)).trans (am HI.out.b3 k4).cell,(q4.cell (p:=⟨wr.heap.size,0,none⟩) (by show wr.heap.size< W4.heap.size;omega) (by show¬wr.heap.size=w.heap.size+1;omega)).trans bF4.cell,(q4.cell (p:=⟨w.heap.size,0,none⟩) (by show w.heap.size< W4.heap.size;omega) (by show¬w.heap.size=w.heap.size+1;omega)).trans (am HI.out.b1 k4).cell⟩
     have q1:=(HSK.out W (ae.refl _ _)).2.2
     have y2:W.cell? ⟨bs,2,none⟩=some (.int .i64 (x.st z.1).p.kind):=hbs.cell 2
     have HKW:=aa hkW
     have hsz:w.heap.size≤W.heap.size:=kwW.size
     by_cases h10:(x.st z.1).p.kind=10
     ·have h10b:(((x.st z.1).p.kind:Int)==10)=true:=by rw[beq_iff_eq];omega
      have HNA:=aa (wU (w:=W.drew) (HH.out.keep kwW.drew) hzs (HNN.out z.1 hzs))
      obtain⟨g0,g1,g2⟩:=HSK.out W.drew ((ae.refl _ W).drew)
      have hbr:=af hrow
      have v0:W.drew.cell? ⟨w.heap.size+1,k,none⟩=some (.int .u64 (us.getD k 0:Nat)):=by
       show W.cell? _=_
       rw[hbr.cell];exact aY (by omega)
      have v1:W.drew.frozen? ⟨w.heap.size+1,k,none⟩=false:=hbr.fz k
      have hrl:w.heap.size+1< W.drew.heap.size:=hbr.lt
      have r1:=cG
      have HF:Hid (∀v:Nat,KeepsFrom W4.heap.size W (W.drew.setCell ⟨w.heap.size+1,k,none⟩ (.int .u64 v))∧Below w.heap.size W (W.drew.setCell ⟨w.heap.size+1,k,none⟩ (.int .u64 v))∧(∃us:List Nat,us.length=x.begins.length∧(W.drew.setCell ⟨w.heap.size+1,k,none⟩ (.int .u64 v)).heap[w.heap.size+1]?=some (.cells (ab us) 169 (0,0)))∧ae (ao (w.heap.size+1)) W4 (W.drew.setCell ⟨w.heap.size+1,k,none⟩ (.int .u64 v))):=fun v=>by
       have kk:ae (ao (w.heap.size+1)) W (W.drew.setCell ⟨w.heap.size+1,k,none⟩ (.int .u64 v)):=((ae.refl _ W).drew).set1 k _
       refine⟨bY kk (by omega),cn kk (by omega) hsz,⟨us.set k v,by simpa using hul,?_⟩,HKW.out.trans' kk (fun i e=>Or.inl e)⟩
       have:=eD (W:=W.drew) (j:=k) (u:=.int .u64 v) hrow
       rw[dy]at this
       exact this
      generalize us.getD k 0=uv at *
      clear hkW hrow hbr hbs h10
      gi_wp2
      have HSS:Hid (∀v:Nat,(W.drew.setCell ⟨w.heap.size+1,k,none⟩ (.int .u64 v)).cell? ⟨bL,0,none⟩=some (.slice (some ⟨w.heap.size+1,0,none⟩) x.begins.length x.begins.length)∧(W.drew.setCell ⟨w.heap.size+1,k,none⟩ (.int .u64 v)).cell? ⟨wr.heap.size,0,none⟩=some (.int .i64 k)∧(W.drew.setCell ⟨w.heap.size+1,k,none⟩ (.int .u64 v)).cell? ⟨w.heap.size,0,none⟩=some (ak bR)):=fun v=>HSK.out _ (((ae.refl _ W).drew).set1 k _)
      obtain⟨s0,s1,s2⟩:=HSS.out (fa uv (aC (x.st z.1).p.nn))
      refine eJ (S:=fun w'=>w'.cell? ⟨bL,0,none⟩=some (.slice (some ⟨w.heap.size+1,0,none⟩) x.begins.length x.begins.length)∧w'.cell? ⟨wr.heap.size,0,none⟩=some (.int .i64 k)∧w'.cell? ⟨w.heap.size,0,none⟩=some (ak bR)) (by kernel_rfl) (by kernel_rfl) (fun⟨_,_,e⟩=>e) ⟨g0,g1,g2⟩ (fun hHeld=>?_)
      refine tk 0 (v:=?v0) rfl (by kernel_rfl) (fun _ _ _ h=>h) (by assumption) rfl ?hy0 ?_
      case hy0=>intro _ h;(try dsimp only at h);go_simp;try with_reducible rfl
      try simp only[Act.put,aS,aR,aQ]
      refine tk 1 (v:=?v1) rfl (by kernel_rfl) (fun _ _ _ h=>h) (by assumption) rfl ?hy1 ?_
      case hy1=>intro _ h;(try dsimp only at h);go_simp;try with_reducible rfl
      try simp only[Act.put,aS,aR,aQ]
      refine tk 2 (v:=?v2) rfl (by kernel_rfl) (fun _ _ _ h=>h) (by assumption) rfl ?hy2 ?_
      case hy2=>intro _ h;(try dsimp only at h);go_simp;try with_reducible rfl
      try simp only[Act.put,aS,aR,aQ]
      refine tk 4 (v:=?v4) rfl (by kernel_rfl) (fun _ _ _ h=>h) (by assumption) rfl ?hy4 ?_
      case hy4=>intro _ h;(try dsimp only at h);go_simp;try with_reducible rfl
      try simp only[Act.put,aS,aR,aQ]
      refine tk 5 (v:=?v5) rfl (by kernel_rfl) (fun _ _ _ h=>h) (by assumption) rfl ?hy5 ?_
      case hy5=>intro _ h;(try dsimp only at h);go_simp;try with_reducible rfl
      try simp only[Act.put,aS,aR,aQ]
      refine wpAnyH_ready (rs:=[3,6]) (by kernel_rfl) (by simp) ?_
      refine AllReadyH.cons rfl (fun K' hK=>?_) (AllReadyH.cons rfl (fun K' hK=>?_) AllReadyH.nil)
      ·go_simp
       refine hK.out _ _ ⟨g0,g1,g2⟩ (fun hHeld2=>?_)
       clear hK K'
       try simp only[Act.put,aS,aR,aQ]
       refine wpAnyH_ready (rs:=[6]) (by kernel_rfl) (by simp) ?_
       refine AllReadyH.cons rfl (fun K' hK=>?_) AllReadyH.nil
       go_simp
       refine HNA.out.mono ?_
       rintro q wq ⟨rfl,hq⟩
       subst wq
       try go_wp2_with fail
       refine hK.out _ _ ⟨g0,g1,g2⟩ (fun hHeld2=>?_)
       clear hK K'
       try simp only[Act.put,aS,aR,aQ]
       refine tk 7 (v:=?av7) rfl (by kernel_rfl) (fun _ _ _ h=>h) (by assumption) rfl ?ay7 ?_
       case ay7=>intro _ h;(try dsimp only at h);go_simp;try with_reducible rfl
       try simp only[Act.put,aS,aR,aQ]
       refine tk 8 (v:=?av8) rfl (by kernel_rfl) (fun _ _ _ h=>h) (by assumption) rfl ?ay8 ?_
       case ay8=>intro _ h;(try dsimp only at h);go_simp;try with_reducible rfl
       try simp only[Act.put,aS,aR,aQ]
       refine wpAnyH_ready (rs:=[9]) (by kernel_rfl) (by simp) ?_
       refine AllReadyH.cons rfl (fun K' hK=>?_) AllReadyH.nil
       go_simp
       refine hK.out _ _ ⟨s0,s1,s2⟩ (fun hHeld2=>?_)
       clear hK K'
       try simp only[Act.put,aS,aR,aQ]
       refine wpAnyH_done (by kernel_rfl) ?_ _
       exact HF.out _
      ·go_simp
       refine HNA.out.mono ?_
       rintro q wq ⟨rfl,hq⟩
       subst wq
       try go_wp2_with fail
       refine hK.out _ _ ⟨g0,g1,g2⟩ (fun hHeld2=>?_)
       clear hK K'
       try simp only[Act.put,aS,aR,aQ]
       refine wpAnyH_ready (rs:=[3]) (by kernel_rfl) (by simp) ?_
       refine AllReadyH.cons rfl (fun K' hK=>?_) AllReadyH.nil
       go_simp
       refine hK.out _ _ ⟨g0,g1,g2⟩ (fun hHeld2=>?_)
       clear hK K'
       try simp only[Act.put,aS,aR,aQ]
       refine tk 7 (v:=?bv7) rfl (by kernel_rfl) (fun _ _ _ h=>h) (by assumption) rfl ?by7 ?_
       case by7=>intro _ h;(try dsimp only at h);go_simp;try with_reducible rfl
       try simp only[Act.put,aS,aR,aQ]
       refine tk 8 (v:=?bv8) rfl (by kernel_rfl) (fun _ _ _ h=>h) (by assumption) rfl ?by8 ?_
       case by8=>intro _ h;(try dsimp only at h);go_simp;try with_reducible rfl
       try simp only[Act.put,aS,aR,aQ]
       refine wpAnyH_ready (rs:=[9]) (by kernel_rfl) (by simp) ?_
       refine AllReadyH.cons rfl (fun K' hK=>?_) AllReadyH.nil
       go_simp
       refine hK.out _ _ ⟨s0,s1,s2⟩ (fun hHeld2=>?_)
       clear hK K'
       try simp only[Act.put,aS,aR,aQ]
       refine wpAnyH_done (by kernel_rfl) ?_ _
       exact HF.out _
     ·have h10b:(((x.st z.1).p.kind:Int)==10)=false:=by rw[beq_eq_false_iff_ne];omega
      have HR:=aa hrow
      clear hkW hrow hbs h10
      gi_wp2
      exact⟨KeepsFrom.refl _ _,Below.refl _ _,⟨us,hul,HR.out⟩,HKW.out⟩
    case done=>
     rintro Dn ys W hDn rfl ⟨hrow,hkW⟩ hK
     have HN:Hid (Ca w W bR bL x.begins.length (k+1) ({target:=.collected Dn,args:=#[]}::ds)):=by
      have hLl:=HI.out.b3.lt
      have kk:ae (ao (w.heap.size+1)) wr W:=(ae.of_below (S:=ao (w.heap.size+1)) k4).trans' hkW (fun i e=>Or.inl e)
      refine⟨aE kw4 hkW (by omega),(kk.block _ HI.out.b1.lt (by show¬w.heap.size=w.heap.size+1;omega)).trans HI.out.b1,hrow,(kk.block _ hLl (by show¬bL=w.heap.size+1;omega)).trans HI.out.b3,hL1,?_,by omega⟩
      refine HI.out.mks.cons (fun i o hi ho=>(kk.block i (Array.getElem?_eq_some_iff.1 hi).1 (fun e=>?_)).trans hi) (by omega) (by omega) hK
      have e':i=w.heap.size+1:=e
      subst e'
      obtain⟨us,_,h2⟩:=HI.out.row
      rw[h2]at hi
      cases hi
      cases ho
     clear hrow hkW
     try gi_wp2
     go_wp2_with fail
     exact⟨⟨_,_,_,_,_,_,_,_,_,_,_,_,_,_,_,_,_,_,_,_,_,_,_,_,_,_,_,_,_,_,_,_,_,_,k+1,by go_num,HN⟩,by simp[intOf];omega⟩
    case stop=>
     rintro Dn c pre W _ _ h _
     exact h.elim
end
section
set_option maxRecDepth 100000
set_option maxHeartbeats 4000000
open Go.RowKit Go.Shelf
attribute [local go_sem] Oper.semAt_some
namespace Rp
def hf1(x:Rp)(all:Nat):List Nat:=(els x.spots).foldl (fun l s=>l.set s all) (List.replicate 53 0)
def hf2(x:Rp)(all:Nat):List Nat:=(x.hf1 all).set (x.begins.getD x.main 0) 0
def hfS(x:Rp)(l:List Nat)(s:Nat):List Nat:=if x.isStart s then l.set (x.begins.getD (x.st s).p.nn 0) 0 else l
def hf3(x:Rp)(all:Nat):List Nat:=(els x.spots).foldl x.hfS (x.hf2 all)
end Rp
theorem oL{l:List Nat}(h:Wd 53 l)(i:Nat){v:Nat}(hv:v< bI):Wd 53 (l.set i v):=⟨by simpa using h.len,fun a ha=>by
 rcases List.mem_or_eq_of_mem_set ha with ha|rfl
 ·exact h.lt a ha
 ·exact hv⟩
theorem jY{α:Type}(F:List Nat→α→List Nat)(hF:∀l a,Wd 53 l→Wd 53 (F l a)):∀(ts:List α) (l:List Nat),Wd 53 l→Wd 53 (ts.foldl F l):=by
 intro ts
 induction ts with
 |nil=>intro l h;exact h
 |cons t ts ih=>intro l h;exact ih _ (hF l t h)
theorem oC:Wd 53 (List.replicate 53 0):=⟨by simp,fun a ha=>by rw[List.eq_of_mem_replicate ha];decide⟩
theorem sd(x:Rp){all:Nat}(h:all< bI):Wd 53 (x.hf1 all):=jY _ (fun _ _ hl=>oL hl _ h) _ _ oC
theorem wl(x:Rp){all:Nat}(h:all< bI):Wd 53 (x.hf2 all):=oL (sd x h) _ (by decide)
theorem wi(x:Rp){l:List Nat}(s:Nat)(h:Wd 53 l):Wd 53 (x.hfS l s):=by
 unfold Rp.hfS
 split
 ·exact oL h _ (by decide)
 ·exact h
theorem wk(x:Rp){all:Nat}(h:all< bI):Wd 53 (x.hf3 all):=jY _ (fun _ s hl=>wi x s hl) _ _ (wl x h)
theorem sH{w:World}{bR all:Nat}{x:Rp}(h:aP w bR x)(sp:ci x)(ha:all< bI)(hs53:∀s,s< 64→x.spots.testBit s=true→s< 53)(hmn:x.main< x.begins.length)(hb53:∀f,f< x.begins.length→x.begins.getD f 0< 53)(hnn:∀s,s< x.stmts.length→x.isStart s=true→(x.st s).p.nn< x.begins.length)(hT:Tz w)(hg:0< w.heap.size):
  Calls Tryz.prog 105 #[ak bR,.int .u64 all] w fun r w'=>r=.returned (.agg (ab (x.hf3 all)))∧Below w.heap.size w w':=by
 obtain⟨bv,sv,tv,rv,lv,h1,h2,-⟩:=h.ex
 obtain⟨gb,cb,rfl⟩:=aG h2 (by omega)
 have c0:w.cell? ⟨bR,0,none⟩=some (.int .i64 x.main):=h1.cell 0
 have c2:w.cell? ⟨bR,2,none⟩=some (.slice (some ⟨gb,0,none⟩) x.begins.length cb):=h1.cell 2
 have c5:w.cell? ⟨bR,5,none⟩=some (.int .u64 x.spots):=h1.cell 5
 have HBG:Hid (∀f,f< x.begins.length→w.cell? ⟨gb,f,none⟩=some (.int .i64 (x.begins.getD f 0:Nat))):=fun f hf=>by
  rw[h2.cellAt _ (by omega)]
  simp[bV,hf]
 have hRl:=h1.lt
 have hgl:gb< w.heap.size:=(h2.lt gb rfl).2
 obtain⟨D,hD⟩:∃W,W=(((w.alloc (.cells #[ak bR] 163)).alloc (.cells #[.int .u64 all] 169)).alloc (.cells gc 171)).alloc (.cells gc 171):=⟨_,rfl⟩
 have kD:Below w.heap.size w D:=by rw[hD];exact((((Below.refl _ w).alloc (Nat.le_refl _) _).alloc (by simp) _).alloc (by simp;omega) _).alloc (by simp;omega) _
 have hzD:w.heap.size+1+1+1< D.heap.size:=by rw[hD];simp
 have b1:an D w.heap.size #[ak bR]:=by rw[hD];exact(((an.new w _ _).alloc _).alloc _).alloc _
 have b2:an D (w.heap.size+1) #[.int .u64 all]:=by rw[hD];exact((an.new' _ _ _ _ (by simp)).alloc _).alloc _
 have b3:D.heap[w.heap.size+1+1]?=some (.cells gc 171 (0,0)):=by
  rw[hD]
  have:=heap_alloc_new ((w.alloc (.cells #[ak bR] 163)).alloc (.cells #[.int .u64 all] 169)) (.cells gc 171)
  rw[World.size_alloc,World.size_alloc]at this
  exact(Below.heap_alloc _ _ _ (by simp)).trans this
 have b4:an D (w.heap.size+1+1+1) (ab (List.replicate 53 0)):=by rw[hD,←AA];exact an.new' _ _ _ _ (by simp)
 have HKD:=aa kD
 have HB1:=aa b1
 have HB2:=aa b2
 have HB3:=aa b3
 have HB4:=aa b4
 have HH:=aa h
 have HT:=aa hT
 have HS53:=aa hs53
 have HB53:=aa hb53
 have HNN:=aa hnn
 have r1:D.cell? ⟨w.heap.size,0,none⟩=some (ak bR):=b1.cell 0
 have r5:D.cell? ⟨bR,5,none⟩=some (.int .u64 x.spots):=(kD.cell (p:=⟨bR,5,none⟩) hRl).trans c5
 rw[hD]at r1 r5
 have HD:=aa hD
 clear h h1 h2 hT hs53 hb53 hnn kD b1 b2 b3 b4 hD
 refine(callsIn_wide (n:=3)).1 ?_
 refine callsIn_of_wp_marks Tryz.func105 rfl trivial ?_ rfl
 simp only[Tryz.ntmps105,List.size_toArray,List.length_cons,List.length_nil,Nat.reduceAdd,Nat.reduceSub,Array.replicate_succ,Array.replicate_zero,List.push_toArray,List.append_toArray,List.nil_append,List.cons_append]
 gi_wp2_with (refine⟨trivial,?_⟩;gi_at_call 96;rw[←HD.out];refine(eI _ _ _).mono ?_;rintro e w' ⟨rfl,hq⟩;subst w')
 obtain⟨W2,hW2⟩:∃W,W=D.alloc (.cells #[.int .u64 x.spots] 199):=⟨_,rfl⟩
 have k2:Below D.heap.size D W2:=by rw[hW2];exact(Below.refl _ D).alloc (Nat.le_refl _) _
 have bA:Boxed W2 D.heap.size 199 (.int .u64 x.spots):=by rw[hW2];exact Boxed.new _ _ _
 have hz2:D.heap.size< W2.heap.size:=bA.lt
 have kw2:Below w.heap.size w W2:=HKD.out.trans (k2.mono HKD.out.size)
 rw[←hW2]
 clear hW2 r1 r5
 refine' wpIn_rangeFunc_ownG rfl (by decide) (gf:=147) (lb:=#[.pointer (some ⟨D.heap.size,0,none⟩)]) rfl trivial (enters_of Tryz.func147 (by kernel_rfl) rfl)
  (dr 2 (by decide) D.heap.size w.heap.size x.spots sp.lt _ hz2 (by omega) hg bA.cell (HT.out.below kw2)) belowK_t (belowK_b (by omega)) (Below.refl _ _) (fun _=>rfl)
  (fun pre W=>an W (w.heap.size+1+1+1) (ab ((pre.map (·.1)).foldl (fun l s=>l.set s all) (List.replicate 53 0)))∧ae (ao (w.heap.size+1+1+1)) D W)
  (fun _ _ _=>False)
  (OwnFrom.and (cU (by omega)) (cN (by omega)))
  (fun _ _ _ _ _ hs _ _=>hs)
  ⟨HB4.out.below k2,ae.of_below k2⟩ _ ?assign ?body ?done ?stop
 case assign=>
  intro lr z W K hK
  gi_wp2
  exact hK
 case body=>
  rintro lr pre z W ⟨hbW,hkW⟩ hpl
  have hz53:=HS53.out z.1 z.2.1 z.2.2
  have hz53i:((z.1:Nat):Int)< 53:=by omega
  have qa:W.cell? ⟨w.heap.size+1,0,none⟩=some (.int .u64 all):=(HB2.out.kept hkW (by show¬w.heap.size+1=w.heap.size+1+1+1;omega)).cell 0
  have hLl:((pre.map (·.1)).foldl (fun l s=>l.set s all) (List.replicate 53 0)).length=53:=(jY (fun l (s:Nat)=>l.set s all) (fun _ _ hl=>oL hl _ ha) _ _ oC).len
  have qz:W.cell? ⟨w.heap.size+1+1+1,z.1,none⟩=some (.int .u64 (((pre.map (·.1)).foldl (fun l s=>l.set s all) (List.replicate 53 0)).getD z.1 0:Nat)):=by rw[hbW.cell];exact aY (by omega)
  have qf:W.frozen? ⟨w.heap.size+1+1+1,z.1,none⟩=false:=hbW.fz _
  have hlt:w.heap.size+1+1+1< W.heap.size:=hbW.lt
  have HF:Hid (KeepsFrom W2.heap.size W (W.setCell ⟨w.heap.size+1+1+1,z.1,none⟩ (.int .u64 all))∧Below w.heap.size W (W.setCell ⟨w.heap.size+1+1+1,z.1,none⟩ (.int .u64 all))∧an (W.setCell ⟨w.heap.size+1+1+1,z.1,none⟩ (.int .u64 all)) (w.heap.size+1+1+1) (ab (((pre++[z]).map (·.1)).foldl (fun l s=>l.set s all) (List.replicate 53 0)))∧ae (ao (w.heap.size+1+1+1)) D (W.setCell ⟨w.heap.size+1+1+1,z.1,none⟩ (.int .u64 all))):=by
   have kk:ae (ao (w.heap.size+1+1+1)) W (W.setCell ⟨w.heap.size+1+1+1,z.1,none⟩ (.int .u64 all)):=(ae.refl _ W).set1 _ _
   refine⟨bY kk (by omega),cn kk (by omega) (by omega),?_,hkW.trans' kk (fun i e=>Or.inl e)⟩
   have e1:=hbW.set z.1 (.int .u64 (all:Nat)) (by rw[ar];omega)
   rw[dy]at e1
   rw[List.map_append]
   show an _ _ (ab (((pre.map (·.1))++[z.1]).foldl _ _))
   rw[da]
   exact e1
  generalize((pre.map (·.1)).foldl (fun l s=>l.set s all) (List.replicate 53 0)).getD z.1 0=lv at *
  clear hbW hkW hLl
  gi_wp2
  exact HF.out
 case done=>
  rintro D1 ys W hD1 rfl ⟨hbW,hkW⟩ hK1
  have hbF:an W (w.heap.size+1+1+1) (ab (x.hf1 all)):=by
   have:=hbW
   rw[cF]at this
   exact this
  have kwW:Below w.heap.size w W:=aE HKD.out hkW (by omega)
  have hm53:=HB53.out x.main hmn
  have hm53i:((x.begins.getD x.main 0:Nat):Int)< 53:=by omega
  have hmi:((x.main:Nat):Int)< (x.begins.length:Int):=by omega
  have hbg:=HBG.out x.main hmn
  generalize hbm:x.begins.getD x.main 0=bm at *
  have q1:W.cell? ⟨w.heap.size,0,none⟩=some (ak bR):=(HB1.out.kept hkW (by show¬w.heap.size=w.heap.size+1+1+1;omega)).cell 0
  have q2:W.cell? ⟨bR,2,none⟩=some (.slice (some ⟨gb,0,none⟩) x.begins.length cb):=(kwW.cell (p:=⟨bR,2,none⟩) hRl).trans c2
  have q0:W.cell? ⟨bR,0,none⟩=some (.int .i64 x.main):=(kwW.cell (p:=⟨bR,0,none⟩) hRl).trans c0
  have qb:W.cell? ⟨gb,x.main,none⟩=some (.int .i64 (bm:Nat)):=(kwW.cell (p:=⟨gb,x.main,none⟩) hgl).trans hbg
  have qz:W.cell? ⟨w.heap.size+1+1+1,bm,none⟩=some (.int .u64 ((x.hf1 all).getD bm 0:Nat)):=by rw[hbF.cell];exact aY (by rw[(sd x ha).len];omega)
  have qf:W.frozen? ⟨w.heap.size+1+1+1,bm,none⟩=false:=hbF.fz _
  have hlt:w.heap.size+1+1+1< W.heap.size:=hbF.lt
  have hRW:bR< W.heap.size:=ah q2
  have hgW:gb< W.heap.size:=ah qb
  obtain⟨W5,hW5⟩:∃W',W'=(W.setCell ⟨w.heap.size+1+1+1,bm,none⟩ (.int .u64 0)).drew:=⟨_,rfl⟩
  have k5:ae (ao (w.heap.size+1+1+1)) W W5:=by rw[hW5];exact((ae.refl _ W).set1 _ _).drew
  have hb5:an W5 (w.heap.size+1+1+1) (ab (x.hf2 all)):=by
   have e1:=hbF.set bm (.int .u64 (0:Nat)) (by rw[ar,(sd x ha).len];omega)
   rw[dy]at e1
   unfold Rp.hf2
   rw[hW5,hbm]
   exact e1.below ⟨rfl,rfl,rfl,Nat.le_refl _,fun _ _=>rfl⟩
  have kD5:ae (ao (w.heap.size+1+1+1)) D W5:=hkW.trans' k5 (fun i e=>Or.inl e)
  have hK5:W5.heap[D1]?=some (.deferred (some [])):=(k5.block _ (Array.getElem?_eq_some_iff.1 hK1).1 (by show¬D1=w.heap.size+1+1+1;omega)).trans hK1
  have kw5:Below w.heap.size w W5:=aE HKD.out kD5 (by omega)
  have HS0:Hid (∀W',ae (ao (w.heap.size+1+1+1)) W W'→W'.cell? ⟨w.heap.size,0,none⟩=some (ak bR)∧W'.cell? ⟨bR,2,none⟩=some (.slice (some ⟨gb,0,none⟩) x.begins.length cb)∧W'.cell? ⟨bR,0,none⟩=some (.int .i64 x.main)∧W'.cell? ⟨gb,x.main,none⟩=some (.int .i64 (bm:Nat))):=fun W' q=>by
   refine⟨(q.cell (p:=⟨w.heap.size,0,none⟩) (by show w.heap.size< W.heap.size;omega) (by show¬w.heap.size=w.heap.size+1+1+1;omega)).trans q1,(q.cell (p:=⟨bR,2,none⟩) hRW (by show¬bR=w.heap.size+1+1+1;omega)).trans q2,(q.cell (p:=⟨bR,0,none⟩) hRW (by show¬bR=w.heap.size+1+1+1;omega)).trans q0,(q.cell (p:=⟨gb,x.main,none⟩) hgW (by show¬gb=w.heap.size+1+1+1;omega)).trans qb⟩
  obtain⟨s1,s2,s3,s4⟩:=HS0.out (W.setCell ⟨w.heap.size+1+1+1,bm,none⟩ (.int .u64 0)).drew (((ae.refl _ W).set1 _ _).drew)
  have HW5:=aa hW5
  have HK5:=aa kD5
  have HKw5:=aa kw5
  have HB5:=aa hb5
  have HKD5:=aa hK5
  have t1:W5.cell? ⟨w.heap.size,0,none⟩=some (ak bR):=(HS0.out W5 k5).1
  have t5:W5.cell? ⟨bR,5,none⟩=some (.int .u64 x.spots):=(kw5.cell (p:=⟨bR,5,none⟩) hRl).trans c5
  generalize(x.hf1 all).getD bm 0=hv at *
  clear hbW hkW hbF kwW hW5 k5 hb5 kD5 hK5 kw5 hbg
  gi_wp2
  refine wpIn_wide.2 ?_
  go_region_held3 (fun w'=>w'.cell? ⟨w.heap.size,0,none⟩=some (ak bR)∧w'.cell? ⟨bR,2,none⟩=some (.slice (some ⟨gb,0,none⟩) x.begins.length cb)∧w'.cell? ⟨bR,0,none⟩=some (.int .i64 x.main)∧w'.cell? ⟨gb,x.main,none⟩=some (.int .i64 (bm:Nat))) (first|exact⟨s1,s2,s3,s4⟩|exact⟨q1,q2,q0,qb⟩|go_keep) (fail)
  all_goals
   rw[←HW5.out]
   clear s1 s2 s3 s4 q0 q1 q2 qb qz qf
   gi_wp2_with (refine⟨trivial,?_⟩;gi_at_call 96;refine(eI _ _ _).mono ?_;rintro e w' ⟨rfl,hq⟩;subst w')
   obtain⟨W6,hW6⟩:∃W',W'=W5.alloc (.cells #[.int .u64 x.spots] 199):=⟨_,rfl⟩
   have k6:Below W5.heap.size W5 W6:=by rw[hW6];exact(Below.refl _ W5).alloc (Nat.le_refl _) _
   have bA6:Boxed W6 W5.heap.size 199 (.int .u64 x.spots):=by rw[hW6];exact Boxed.new _ _ _
   have hz6:W5.heap.size< W6.heap.size:=bA6.lt
   have kw6:Below w.heap.size w W6:=HKw5.out.trans (k6.mono HKw5.out.size)
   have hzD5:D.heap.size≤W5.heap.size:=HK5.out.size
   have hD15:D1< W5.heap.size:=(Array.getElem?_eq_some_iff.1 HKD5.out).1
   have kD6:ae (ao (w.heap.size+1+1+1)) D W6:=HK5.out.below k6
   rw[←hW6]
   clear hW6 t1 t5
   refine' wpIn_rangeFunc_ownG rfl (by decide) (gf:=147) (lb:=#[.pointer (some ⟨W5.heap.size,0,none⟩)]) rfl trivial (enters_of Tryz.func147 (by kernel_rfl) rfl)
    (dr 2 (by decide) W5.heap.size w.heap.size x.spots sp.lt _ hz6 (by omega) hg bA6.cell (HT.out.below kw6)) belowK_t (belowK_b (by omega)) (Below.refl _ _) (fun _=>rfl)
    (fun pre W'=>an W' (w.heap.size+1+1+1) (ab ((pre.map (·.1)).foldl x.hfS (x.hf2 all)))∧ae (ao (w.heap.size+1+1+1)) W6 W')
    (fun _ _ _=>False)
    (OwnFrom.and (cU (by omega)) (cN (Nat.le_refl _)))
    (fun _ _ _ _ _ hs _ _=>hs)
    ⟨HB5.out.below k6,ae.refl _ _⟩ _ ?assign2 ?body2 ?done2 ?stop2
   case assign2=>
    intro lr z W' K hK
    gi_wp2
    exact hK
   case body2=>
    rintro lr pre z W' ⟨hbW,hkW⟩ hpl
    have hzs:=sp.mem z.1 z.2.1 z.2.2
    have kwW:Below w.heap.size w W':=aE kw6 hkW (by omega)
    have kDW:ae (ao (w.heap.size+1+1+1)) D W':=kD6.trans' hkW (fun i e=>Or.inl e)
    have q1:W'.cell? ⟨w.heap.size,0,none⟩=some (ak bR):=(HB1.out.kept kDW (by show¬w.heap.size=w.heap.size+1+1+1;omega)).cell 0
    have HSTT:=aa (mg (HH.out.keep kwW) hzs)
    obtain⟨L,hL⟩:∃L,L=(pre.map (·.1)).foldl x.hfS (x.hf2 all):=⟨_,rfl⟩
    have hLl:L.length=53:=by rw[hL];exact(jY x.hfS (fun _ s hl=>wi x s hl) _ _ (wl x ha)).len
    rw[←hL]at hbW
    have HLN:Hid (((pre++[z]).map (·.1)).foldl x.hfS (x.hf2 all)=x.hfS L z.1):=by
     show _=_
     rw[List.map_append,hL]
     exact da _ _ _ _
    have HBW:=aa hbW
    have HKW:=aa hkW
    have HKw:=aa kwW
    have hzw:w.heap.size< W'.heap.size:=ah q1
    have hsz:w.heap.size≤W'.heap.size:=kwW.size
    clear hbW hkW kwW kDW hL
    gi_wp2
    refine⟨trivial,?_⟩
    refine(CallsIn.inRound lr (callsIn_wide.2 HSTT.out)).mono ?_
    rintro e W7 ⟨rfl,hb7⟩
    have q1':W7.cell? ⟨w.heap.size,0,none⟩=some (ak bR):=(hb7.cell (p:=⟨w.heap.size,0,none⟩) hzw).trans q1
    have HB7:=aa hb7
    have HBL7:=aa (HBW.out.below hb7)
    have kw7:Below w.heap.size w W7:=HKw.out.trans (hb7.mono HKw.out.size)
    have q2:W7.cell? ⟨bR,2,none⟩=some (.slice (some ⟨gb,0,none⟩) x.begins.length cb):=(kw7.cell (p:=⟨bR,2,none⟩) hRl).trans c2
    cases hst:x.isStart z.1
    ·have HE:Hid (x.hfS L z.1=L):=by show _=_;unfold Rp.hfS;rw[hst];rfl
     clear hb7 kw7
     gi_wp2
     exact⟨aB HB7.out,HB7.out.mono hsz,by rw[HLN.out,HE.out];exact HBL7.out,HKW.out.below HB7.out⟩
    ·have hnb:=HNN.out z.1 hzs hst
     have hn53:=HB53.out _ hnb
     have HE:Hid (x.hfS L z.1=L.set (x.begins.getD (x.st z.1).p.nn 0) 0):=by show _=_;unfold Rp.hfS;rw[hst];rfl
     have qb:W7.cell? ⟨gb,(x.st z.1).p.nn,none⟩=some (.int .i64 (x.begins.getD (x.st z.1).p.nn 0:Nat)):=(kw7.cell (p:=⟨gb,(x.st z.1).p.nn,none⟩) hgl).trans (HBG.out _ hnb)
     have hni:(((x.st z.1).p.nn:Nat):Int)< (x.begins.length:Int):=by omega
     generalize x.begins.getD (x.st z.1).p.nn 0=bn at *
     have hn53i:((bn:Nat):Int)< 53:=by omega
     have qz:W7.cell? ⟨w.heap.size+1+1+1,bn,none⟩=some (.int .u64 (L.getD bn 0:Nat)):=by rw[HBL7.out.cell];exact aY (by omega)
     have qf:W7.frozen? ⟨w.heap.size+1+1+1,bn,none⟩=false:=HBL7.out.fz _
     have hl7:w.heap.size+1+1+1< W7.heap.size:=HBL7.out.lt
     have HF:Hid (KeepsFrom W6.heap.size W' (W7.setCell ⟨w.heap.size+1+1+1,bn,none⟩ (.int .u64 0))∧Below w.heap.size W' (W7.setCell ⟨w.heap.size+1+1+1,bn,none⟩ (.int .u64 0))∧an (W7.setCell ⟨w.heap.size+1+1+1,bn,none⟩ (.int .u64 0)) (w.heap.size+1+1+1) (ab (((pre++[z]).map (·.1)).foldl x.hfS (x.hf2 all)))∧ae (ao (w.heap.size+1+1+1)) W6 (W7.setCell ⟨w.heap.size+1+1+1,bn,none⟩ (.int .u64 0))):=by
      have kk:ae (ao (w.heap.size+1+1+1)) W' (W7.setCell ⟨w.heap.size+1+1+1,bn,none⟩ (.int .u64 0)):=(ae.of_below (S:=ao (w.heap.size+1+1+1)) hb7).set1 _ _
      refine⟨bY kk (by omega),cn kk (by omega) hsz,?_,HKW.out.trans' kk (fun i e=>Or.inl e)⟩
      have e1:=HBL7.out.set bn (.int .u64 (0:Nat)) (by rw[ar];omega)
      rw[dy]at e1
      rw[HLN.out,HE.out]
      exact e1
     generalize L.getD bn 0=lv2 at *
     clear hb7 kw7
     gi_wp2
     exact HF.out
   case done2=>
    rintro D2 ys W' hD2 rfl ⟨hbW,hkW⟩ hK2
    have hbF:an W' (w.heap.size+1+1+1) (ab (x.hf3 all)):=by
     have:=hbW
     rw[cF]at this
     exact this
    have hlF:Hid ((x.hf3 all).length=53):=(wk x ha).len
    have kDW:ae (ao (w.heap.size+1+1+1)) D W':=kD6.trans' hkW (fun i e=>Or.inl e)
    have hrW:W'.heap[w.heap.size+1+1]?=some (.cells gc 171 (0,0)):=(kDW.block _ (by omega) (by show¬w.heap.size+1+1=w.heap.size+1+1+1;omega)).trans HB3.out
    have hK1':W'.heap[D1]?=some (.deferred (some [])):=(hkW.block _ (by omega) (by show¬D1=w.heap.size+1+1+1;omega)).trans ((k6.block _ hD15).trans HKD5.out)
    have HKW:=aa (aE HKD.out kDW (by omega))
    clear hbW hkW kDW
    gi_wp2_with (first|(refine gh rfl bO _ rfl rfl hbF hlF ?_)|(refine gg rfl bO _ _ rfl rfl rfl hlF hrW kq ?_))
    show∀w':World,_
    intro w4 hw4 hk4
    have hM:Mk w4 W2.heap.size [{target:=.collected D2,args:=#[]},{target:=.collected D1,args:=#[]}]:=by
     have e2:w4.heap[D2]?=some (.deferred (some [])):=(hk4.block _ (Array.getElem?_eq_some_iff.1 hK2).1 (by show¬D2=w.heap.size+1+1;omega)).trans hK2
     have e1:w4.heap[D1]?=some (.deferred (some [])):=(hk4.block _ (Array.getElem?_eq_some_iff.1 hK1').1 (by show¬D1=w.heap.size+1+1;omega)).trans hK1'
     refine⟨⟨D2,rfl,by omega,e2,fun d' hd' e=>?_⟩,⟨D1,rfl,hD1,e1,fun d' hd'=>by cases hd'⟩,trivial⟩
     simp only[List.mem_singleton]at hd'
     subst hd'
     simp only[Target.collected.injEq]at e
     omega
    have hkw4:Below w.heap.size w w4:=HKW.out.trans ⟨hk4.os,hk4.tape,hk4.output,hk4.size,fun i hi=>hk4.block i (by have:=HKW.out.size;omega) (by show¬i=w.heap.size+1+1;omega)⟩
    have HK4:=aa hkw4
    have hsz:(Tryz.prog.info? 171).map (·.size)=some (ab (x.hf3 all)).size:=by rw[ar,hlF.out];exact bO.hi
    clear hk4 hbF hrW hkw4
    gi_wp2
    refine dK _ _ hM (fun w' kb=>?_)
    refine⟨_,results_cell_row rfl _ _ (w.heap.size+1+1) 171 (ab (x.hf3 all)) (0,0) _ rfl ((kb.block _ (by omega)).trans hw4) Tryz.underlying171 rfl hsz,rfl,?_⟩
    exact HK4.out.trans (kb.mono (by omega))
   case stop2=>
    rintro Dn c pre W' _ _ h _
    exact h.elim
 case stop=>
  rintro Dn c pre W _ _ h _
  exact h.elim
end
section
set_option maxRecDepth 100000
set_option maxHeartbeats 4000000
open Go.RowKit Go.Shelf
theorem xw{w:World}{b t n:Nat}{A:Array Value}(h:w.heap[b]?=some (.cells A t (0,0)))(hn:A.size=n):w.there b 0 n:=fun j hj=>by
 have hb:=af h
 rw[Nat.zero_add,hb.cell,hb.fz]
 exact⟨by rw[Array.getElem?_eq_getElem (by omega)];rfl,rfl⟩
theorem wE{w:World}{b t:Nat}{A:Array Value}{vs:List Value}(h:w.heap[b]?=some (.cells A t (0,0))){p1 p2 p3 p4 p5:Addr}{v1 v2 v3 v4 v5:Value}(f1:w.cell? p1=some v1)(f2:w.cell? p2=some v2)(f3:w.cell? p3=some v3)(f4:w.cell? p4=some v4)(f5:w.cell? p5=some v5)(h1:p1.block≠b)(h2:p2.block≠b∧p3.block≠b∧p4.block≠b)(h5:p5.block≠b):
  (w.setCells b 0 vs).cell? p1=some v1∧(w.setCells b 0 vs).cell? p2=some v2∧(w.setCells b 0 vs).cell? p3=some v3∧(w.setCells b 0 vs).cell? p4=some v4∧(w.setCells b 0 vs).cell? p5=some v5:=by
 have k:=(dz vs 0 A w h).2
 exact⟨(k.cell (ah f1) h1).trans f1,(k.cell (ah f2) h2.1).trans f2,(k.cell (ah f3) h2.2.1).trans f3,(k.cell (ah f4) h2.2.2).trans f4,(k.cell (ah f5) h5).trans f5⟩
theorem Bu{w:World}{bR k0:Nat}{x:Rp}{R:List Nat}(h:aP w bR x)(ok:ei x)(sp:ci x)(wh:qU x)(hmu:x.mutexes< 64)(hnn:∀s,s< x.stmts.length→(x.st s).p.nn< 64)(hs53:∀s,s< 64→x.spots.testBit s=true→s< 53∧x.isCall s=false)(hb53:∀f,f< x.begins.length→x.begins.getD f 0< 53)(hns:∀s,s< x.stmts.length→x.isStart s=true→(x.st s).p.nn< x.begins.length)
  (hnx:∀s t,s< 64→x.spots.testBit s=true→t< 64→(x.nextOf s).testBit t=true→t< 53) (hT:Tz w) (hg:0< w.heap.size) (hR:aM (x.passM x.heldB x.spots) k0 (x.hf3 (cj (aC x.mutexes)))=some R) (hRw:Wd 53 R):
  Calls Tryz.prog 67 #[ak bR] w fun r w'=>r=.returned (.agg (ab R))∧Below w.heap.size w w':=by
 obtain⟨bv,sv,tv,rv,lv,h1,-⟩:=h.ex
 have c1:w.cell? ⟨bR,1,none⟩=some (.int .i64 x.mutexes):=h1.cell 1
 have c5:w.cell? ⟨bR,5,none⟩=some (.int .u64 x.spots):=h1.cell 5
 have hRl:=h1.lt
 have HBE:=aa (sD x.mutexes hmu)
 obtain⟨D,hD⟩:∃W,W=(w.alloc (.cells #[ak bR] 163)).alloc (.cells gc 171):=⟨_,rfl⟩
 have kD:Below w.heap.size w D:=by rw[hD];exact((Below.refl _ w).alloc (Nat.le_refl _) _).alloc (by simp) _
 have hzD:w.heap.size+1< D.heap.size:=by rw[hD];simp
 have b1:an D w.heap.size #[ak bR]:=by rw[hD];exact(an.new w _ _).alloc _
 have b2:D.heap[w.heap.size+1]?=some (.cells gc 171 (0,0)):=by rw[hD];exact gZ w _ _
 have q1:D.cell? ⟨w.heap.size,0,none⟩=some (ak bR):=b1.cell 0
 have q2:D.cell? ⟨bR,1,none⟩=some (.int .i64 x.mutexes):=(kD.cell (p:=⟨bR,1,none⟩) hRl).trans c1
 have hRD:bR< D.heap.size:=ah q2
 have hwD:w.heap.size< D.heap.size:=ah q1
 have HKD:=aa kD
 have HB1:=aa b1
 have HB2:=aa b2
 have HD:=aa hD
 have HH:=aa h
 have HOK:=aa ok
 have HSP:=aa sp
 have HWH:=aa wh
 have HNN:=aa hnn
 have HS53:=aa hs53
 have HB53:=aa hb53
 have HNS:=aa hns
 have HNX:=aa hnx
 have HT:=aa hT
 have HR:=aa hR
 have HRW:=aa hRw
 obtain⟨all,hall⟩:∃a,a=cj (aC x.mutexes):=⟨_,rfl⟩
 have hallt:all< bI:=by rw[hall];exact gP _
 rw[←hall]at HBE HR
 clear h h1 ok sp wh hnn hs53 hb53 hns hnx hT hR hRw kD b1 b2 hD hall
 go_enter Tryz.func67,Tryz.ntmps67
 go_wp2_with fail
 rw[←HD.out]
 go_region_held3 (fun w'=>w'.cell? ⟨w.heap.size,0,none⟩=some (ak bR)∧w'.cell? ⟨bR,1,none⟩=some (.int .i64 x.mutexes)) (first|exact⟨q1,q2⟩|go_keep) (first|(go_at_call 101;refine(HBE.out _).mono ?_;rintro q wq ⟨rfl,hq⟩;subst wq))
 all_goals
  obtain⟨D1,hD1⟩:∃W,W=(D.alloc (.cells #[ak bR,.int .u64 all,.func (.func 102) #[] #[]] 237)).drew:=⟨_,rfl⟩
  have k1:Below D.heap.size D D1:=by rw[hD1];exact((Below.refl _ D).alloc (Nat.le_refl _) _).drew
  have b3:an D1 D.heap.size #[ak bR,.int .u64 all,.func (.func 102) #[] #[]]:=by rw[hD1];exact(an.new D _ _).below ⟨rfl,rfl,rfl,Nat.le_refl _,fun _ _=>rfl⟩
  have kw1:Below w.heap.size w D1:=HKD.out.trans (k1.mono HKD.out.size)
  have t1:D1.cell? ⟨w.heap.size,0,none⟩=some (ak bR):=(HB1.out.below k1).cell 0
  have HMU:=aa (sG (HH.out.keep kw1) HOK.out HSP.out HWH.out HNN.out (HT.out.below kw1) (Nat.lt_of_lt_of_le hg kw1.size))
  rw[←hD1]
  have HK1:=aa k1
  have HB3:=aa b3
  have HKw1:=aa kw1
  clear hD1 k1 b3 kw1 q1 q2
  go_wp2_with fail
  refine HMU.out.mono ?_
  rintro q w2 ⟨p2,n2,c2,rfl,hb2⟩
  obtain⟨W3,hW3⟩:∃W,W=w2.alloc (.cells #[.slice p2 n2 c2] 238):=⟨_,rfl⟩
  have k3:Below D1.heap.size D1 W3:=by rw[hW3];exact hb2.alloc hb2.size _
  have kw3:Below w.heap.size w W3:=HKw1.out.trans (k3.mono HKw1.out.size)
  have kD3:Below D.heap.size D W3:=HK1.out.trans (k3.mono HK1.out.size)
  have bl1:=HB1.out.below kD3
  have bl3:=HB3.out.below k3
  have HSK:Hid (∀W,Below W3.heap.size W3 W→W.cell? ⟨w.heap.size,0,none⟩=some (ak bR)∧W.cell? ⟨D.heap.size,0,none⟩=some (ak bR)∧W.cell? ⟨D.heap.size,1,none⟩=some (.int .u64 all)∧W.cell? ⟨D.heap.size,2,none⟩=some (.func (.func 102) #[] #[])∧W.cell? ⟨bR,5,none⟩=some (.int .u64 x.spots)):=fun W kk=>by
   have b3':=bl3.below kk
   exact⟨(bl1.below kk).cell 0,b3'.cell 0,b3'.cell 1,b3'.cell 2,((kw3.trans (kk.mono kw3.size)).cell (p:=⟨bR,5,none⟩) hRl).trans c5⟩
  obtain⟨g1,g2,g3,g4,g5⟩:=HSK.out W3.drew ((Below.refl _ W3).drew)
  have HHF:Hid (Calls Tryz.prog 105 #[ak bR,.int .u64 all] W3.drew fun r w'=>r=.returned (.agg (ab (x.hf3 all)))∧Below W3.drew.heap.size W3.drew w'):=sH (HH.out.keep kw3.drew) HSP.out hallt (fun s h1 h2=>(HS53.out s h1 h2).1) HWH.out.main HB53.out HNS.out (HT.out.below kw3.drew) (Nat.lt_of_lt_of_le hg kw3.size)
  have HFO:Hid (∀W,Below W3.heap.size W3 W→Calls Tryz.prog 104 #[.agg #[ak bR,.int .u64 all,.func (.func 102) #[] #[]],.agg (ab (x.hf3 all)),.int .u64 x.spots,.func (.func 106) #[] #[.pointer (some ⟨w.heap.size,0,none⟩),.pointer (some ⟨D.heap.size,0,none⟩),.pointer (some ⟨w2.heap.size,0,none⟩)]] W fun r w'=>r=.returned (.agg (aH R).toArray)∧Below W.heap.size W w'):=fun W kk=>by
   have kw:=kw3.trans (kk.mono kw3.size)
   refine yr (HH.out.keep kw) HOK.out HSP.out.lt (fun s h1 h2=>⟨HSP.out.mem s h1 h2,(HS53.out s h1 h2).2⟩) (wk x hallt) HNX.out (fun W' bA l s k' hb' hl' h1 h2=>?_) nG (HT.out.below kw) (Nat.lt_of_lt_of_le hg kw.size) HR.out
   have kw':=kw.trans (k'.mono kw.size)
   have hsl:=HSP.out.mem s h1 h2
   exact Bl (HH.out.keep kw') hsl (HS53.out s h1 h2).1 hb' hl' (((bl1.below kk).below k').cell 0) (HS53.out s h1 h2).2 (HNN.out s hsl)
  have HB2W:=aa ((kD3.block _ hzD).trans HB2.out)
  have HK3:=aa kw3
  have i1:(Tryz.prog.info? 171).map (·.size)=some (aH R).length:=by rw[aV,HRW.out.len];exact bO.hi
  have i2:(aH R).length=53:=by rw[aV,HRW.out.len]
  have i3:∀v∈aH R,v.oneCell'=true:=fun v hv=>by
   simp only[aH,List.mem_map]at hv
   obtain⟨a,_,rfl⟩:=hv
   rfl
  have HW3:=aa hW3
  have hz3:D.heap.size≤W3.heap.size:=kD3.size
  clear hW3 k3 kw3 kD3 bl1 bl3 hb2 t1
  go_wp2_with fail
  rw[←HW3.out]
  go_region_held3 (fun w'=>w'.cell? ⟨w.heap.size,0,none⟩=some (ak bR)∧w'.cell? ⟨D.heap.size,0,none⟩=some (ak bR)∧w'.cell? ⟨D.heap.size,1,none⟩=some (.int .u64 all)∧w'.cell? ⟨D.heap.size,2,none⟩=some (.func (.func 102) #[] #[])∧w'.cell? ⟨bR,5,none⟩=some (.int .u64 x.spots)) (first|exact⟨j1,j2,j3,j4,j5⟩|exact⟨f1,f2,f3,f4,f5⟩|exact⟨e1,e2,e3,e4,e5⟩|exact⟨g1,g2,g3,g4,g5⟩|go_keep) (first|(go_at_call 105;refine HHF.out.mono ?_;rintro q w4 ⟨rfl,hb4⟩;have hb4':Below W3.heap.size W3 w4:=⟨hb4.os,hb4.tape,hb4.output,hb4.size,hb4.block⟩;have HB4:=aa hb4';obtain⟨e1,e2,e3,e4,e5⟩:=HSK.out w4 hb4';clear hb4 hb4')|(go_at_call 104;refine(HFO.out w4 HB4.out).mono ?_;rintro q w5 ⟨rfl,hb5⟩;have hb5':Below W3.heap.size W3 w5:=HB4.out.trans (hb5.mono HB4.out.size);have HB5:=aa hb5';obtain⟨f1,f2,f3,f4,f5⟩:=HSK.out w5 hb5';have ht5:=(hb5'.block (w.heap.size+1) (by omega)).trans HB2W.out;have HT5:=aa ht5;have tt:w5.there (w.heap.size+1) 0 53:=xw ht5 kq;obtain⟨j1,j2,j3,j4,j5⟩:(w5.setCells (w.heap.size+1) 0 (aH R)).cell? ⟨w.heap.size,0,none⟩=some (ak bR)∧(w5.setCells (w.heap.size+1) 0 (aH R)).cell? ⟨D.heap.size,0,none⟩=some (ak bR)∧(w5.setCells (w.heap.size+1) 0 (aH R)).cell? ⟨D.heap.size,1,none⟩=some (.int .u64 all)∧(w5.setCells (w.heap.size+1) 0 (aH R)).cell? ⟨D.heap.size,2,none⟩=some (.func (.func 102) #[] #[])∧(w5.setCells (w.heap.size+1) 0 (aH R)).cell? ⟨bR,5,none⟩=some (.int .u64 x.spots):=wE ht5 f1 f2 f3 f4 f5 (by show w.heap.size≠w.heap.size+1;omega) ⟨by show D.heap.size≠w.heap.size+1;omega,by show D.heap.size≠w.heap.size+1;omega,by show D.heap.size≠w.heap.size+1;omega⟩ (by show bR≠w.heap.size+1;omega);clear hb5 hb5' ht5))
  all_goals
   have hst:=dz (aH R) 0 _ w5 HT5.out
   rw[jd _ _ (by rw[i2];rfl)]at hst
   obtain⟨W6,hW6⟩:∃W,W=w5.setCells (w.heap.size+1) 0 (aH R):=⟨_,rfl⟩
   rw[←hW6]at hst⊢
   have HF:Hid (Below w.heap.size w W6):=aE (HK3.out.trans (HB5.out.mono HK3.out.size)) hst.2 (by omega)
   have hh6:W6.heap[w.heap.size+1]?=some (.cells (ab R) 171 (0,0)):=hst.1
   have hsz:(Tryz.prog.info? 171).map (·.size)=some (ab R).size:=by rw[ar,HRW.out.len];exact bO.hi
   clear hst hW6 tt f1 f2 f3 f4 f5 j1 j2 j3 j4 j5 e1 e2 e3 e4 e5
   go_wp2_with fail
   refine bodyPost_ret (results_cell_row rfl _ _ (w.heap.size+1) 171 (ab R) (0,0) _ rfl hh6 Tryz.underlying171 rfl hsz) rfl ⟨rfl,HF.out⟩
end
section
set_option maxRecDepth 100000
set_option maxHeartbeats 4000000
open Go.RowKit Go.Shelf
namespace Rp
def mainS(x:Rp):Nat:=x.inOf (x.runs.getD 0 0)
end Rp
theorem At{w:World}{bR bH sh k0:Nat}{x:Rp}{cs R:List Nat}(h:aP w bR x)(hh:gN w bH bR sh cs)(ok:ei x)(sp:ci x)(hs53:∀s,s< 64→x.spots.testBit s=true→s< 53∧x.isCall s=false)(hrn:0< x.runs.length)(hm:x.starts.length< 64)(hbw:x.below.length=x.starts.length)(hf:∀s,s< x.stmts.length→(x.st s).fn< 5)(hj:∀s,s< x.stmts.length→(x.st s).p.kind=8→0< (x.st s).r.length∧((x.st s).r.getD 0 ⟨[],0,0,0⟩).num< 6)(hk:∀s k,x.startAt s=some k→k< x.starts.length)
  (hnx:∀s t,s< 64→x.spots.testBit s=true→t< 64→(x.nextOf s).testBit t=true→t< 53) (hT:Tz w) (hg:0< w.heap.size) (hR:aM (x.passS (x.aboutB cs) x.mainS) k0 (List.replicate 53 0)=some R) (hRw:Wd 53 R):
  Calls Tryz.prog 68 #[ak bR,ak bH] w fun r w'=>r=.returned (.agg (ab R))∧Below w.heap.size w w':=by
 obtain⟨bv,sv,tv,rv,lv,h1,-,-,-,h5,-⟩:=h.ex
 obtain⟨gr,cr,rfl⟩:=aG h5 (by omega)
 have c7:w.cell? ⟨bR,7,none⟩=some (.slice (some ⟨gr,0,none⟩) x.runs.length cr):=h1.cell 7
 have cr0:w.cell? ⟨gr,0,none⟩=some (.int .u64 (x.runs.getD 0 0:Nat)):=by
  rw[h5.cellAt _ (by omega)]
  simp[aH,hrn]
 have hRl:=h1.lt
 have hgl:gr< w.heap.size:=ah cr0
 have hri:(0:Int)< (x.runs.length:Int):=by omega
 obtain⟨D,hD⟩:∃W,W=(((w.alloc (.cells #[ak bR] 163)).alloc (.cells #[ak bH] 165)).alloc (.cells gc 175)).alloc (.cells #[ak bR,.int .u64 0,.func (.func 110) #[] #[]] 250):=⟨_,rfl⟩
 have kD:Below w.heap.size w D:=by rw[hD];exact((((Below.refl _ w).alloc (Nat.le_refl _) _).alloc (by simp) _).alloc (by simp;omega) _).alloc (by simp;omega) _
 have hzD:w.heap.size+1+1+1< D.heap.size:=by rw[hD];simp
 have b1:an D w.heap.size #[ak bR]:=by rw[hD];exact(((an.new w _ _).alloc _).alloc _).alloc _
 have b2:an D (w.heap.size+1) #[ak bH]:=by rw[hD];exact((an.new' _ _ _ _ (by simp)).alloc _).alloc _
 have b3:D.heap[w.heap.size+1+1]?=some (.cells gc 175 (0,0)):=by
  rw[hD]
  have:=heap_alloc_new ((w.alloc (.cells #[ak bR] 163)).alloc (.cells #[ak bH] 165)) (.cells gc 175)
  rw[World.size_alloc,World.size_alloc]at this
  exact(Below.heap_alloc _ _ _ (by simp)).trans this
 have b4:an D (w.heap.size+1+1+1) #[ak bR,.int .u64 0,.func (.func 110) #[] #[]]:=by rw[hD];exact an.new' _ _ _ _ (by simp)
 have q1:D.cell? ⟨w.heap.size,0,none⟩=some (ak bR):=b1.cell 0
 have q7:D.cell? ⟨bR,7,none⟩=some (.slice (some ⟨gr,0,none⟩) x.runs.length cr):=(kD.cell (p:=⟨bR,7,none⟩) hRl).trans c7
 have qr:D.cell? ⟨gr,0,none⟩=some (.int .u64 (x.runs.getD 0 0:Nat)):=(kD.cell (p:=⟨gr,0,none⟩) hgl).trans cr0
 have HIN:Hid (Calls Tryz.prog 111 #[ak bR,.int .u64 (x.runs.getD 0 0:Nat)] D.drew fun r w'=>r=.returned (.int .u64 x.mainS)∧Below D.drew.heap.size D.drew w'):=AT (h.keep kD.drew) ok sp (Nat.lt_of_lt_of_le hg kD.size) (hT.below kD.drew) (x.runs.getD 0 0)
 have hMS:∀s,s< 64→x.mainS.testBit s=true→x.spots.testBit s=true:=fun s h1 h2=>(kr h1 h2).1
 have HFO:Hid (∀W,Below D.heap.size D W→Calls Tryz.prog 112 #[.agg #[ak bR,.int .u64 0,.func (.func 110) #[] #[]],.agg gc,.int .u64 x.mainS,.func (.func 113) #[] #[.pointer (some ⟨w.heap.size,0,none⟩),.pointer (some ⟨w.heap.size+1+1+1,0,none⟩),.pointer (some ⟨w.heap.size+1,0,none⟩)]] W fun r w'=>r=.returned (.agg (ab R))∧Below W.heap.size W w'):=fun W kk=>by
  have kw:=kD.trans (kk.mono kD.size)
  rw[AA]
  refine yq (nn:=0) (h.keep kw) ok (jK _ _) (fun s h1 h2=>⟨sp.mem s h1 (hMS s h1 h2),(hs53 s h1 (hMS s h1 h2)).2⟩) oC (fun s t h1 h2 h3 h4=>hnx s t h1 (hMS s h1 h2) h3 h4) (fun W' bA l s k' hb' hl' h1 h2=>?_) nN (hT.below kw) (Nat.lt_of_lt_of_le hg kw.size) hR
  have kw':=kw.trans (k'.mono kw.size)
  have hs:=hMS s h1 h2
  have hsl:=sp.mem s h1 hs
  exact As (h.keep kw') (hh.keep kw') hsl (hs53 s h1 hs).1 hb' hl' (((b1.below kk).below k').cell 0) (((b2.below kk).below k').cell 0) (hs53 s h1 hs).2 hm hbw (hf s hsl) (hj s hsl) (hk s)
 have HB1:=aa b1
 have HB3:=aa b3
 have HB4:=aa b4
 have HKD:=aa kD
 have HD:=aa hD
 have HRL:Hid (R.length=53):=hRw.len
 have hsz:(Tryz.prog.info? 175).map (·.size)=some (ab R).size:=by rw[ar,hRw.len];exact ce.hi
 generalize x.runs.getD 0 0=r0 at *
 have hwD:w.heap.size< D.heap.size:=ah q1
 have hRD:bR< D.heap.size:=ah q7
 have hgD:gr< D.heap.size:=ah qr
 clear h hh ok sp hs53 hf hj hk hnx hT hR hRw h1 h5 kD b1 b2 b3 b4 hD hMS
 go_enter Tryz.func68,Tryz.ntmps68
 go_wp2_with fail
 rw[←HD.out]
 go_region_held3 (fun w'=>w'.cell? ⟨w.heap.size,0,none⟩=some (ak bR)∧w'.cell? ⟨bR,7,none⟩=some (.slice (some ⟨gr,0,none⟩) x.runs.length cr)∧w'.cell? ⟨gr,0,none⟩=some (.int .u64 (r0:Nat))) (first|exact⟨e1,e2,e3⟩|exact⟨q1,q7,qr⟩|go_keep) (first|(go_at_call 111;refine HIN.out.mono ?_;rintro q w2 ⟨rfl,hb2⟩;have hb2':Below D.heap.size D w2:=⟨hb2.os,hb2.tape,hb2.output,hb2.size,hb2.block⟩;have HB2:=aa hb2';have e1:w2.cell? ⟨w.heap.size,0,none⟩=some (ak bR):=(hb2'.cell (p:=⟨w.heap.size,0,none⟩) hwD).trans q1;have e2:w2.cell? ⟨bR,7,none⟩=some (.slice (some ⟨gr,0,none⟩) x.runs.length cr):=(hb2'.cell (p:=⟨bR,7,none⟩) hRD).trans q7;have e3:w2.cell? ⟨gr,0,none⟩=some (.int .u64 (r0:Nat)):=(hb2'.cell (p:=⟨gr,0,none⟩) hgD).trans qr;clear hb2 hb2'))
 all_goals
  have bl4:=HB4.out.below HB2.out
  have y0:w2.cell? ⟨w.heap.size+1+1+1,0,none⟩=some (ak bR):=bl4.cell 0
  have y1:w2.cell? ⟨w.heap.size+1+1+1,1,none⟩=some (.int .u64 0):=bl4.cell 1
  have y2:w2.cell? ⟨w.heap.size+1+1+1,2,none⟩=some (.func (.func 110) #[] #[]):=bl4.cell 2
  clear bl4 e1 e2 e3 q1 q7 qr
  go_wp2_with fail
  refine(HFO.out w2 HB2.out).mono ?_
  rintro q w3 ⟨rfl,hb3⟩
  have ht3:=(hb3.block _ (by have:=HB2.out.size;omega)).trans ((HB2.out.block (w.heap.size+1+1) (by omega)).trans HB3.out)
  have HB5:Hid (Below w.heap.size w w3):=by
   have:=HKD.out.trans (HB2.out.mono HKD.out.size)
   exact this.trans (hb3.mono this.size)
  clear hb3 y0 y1 y2
  go_wp2_with (first|(refine bM rfl ce _ _ rfl rfl rfl HRL ht3 kq ?_))
  show∀w':World,_
  intro w4 hw4 hk4
  have HF:Hid (Below w.heap.size w w4):=aE HB5.out hk4 (by omega)
  clear hk4 ht3
  go_wp2_with fail
  refine bodyPost_ret (results_cell_row rfl _ _ (w.heap.size+1+1) 175 (ab R) (0,0) _ rfl hw4 Tryz.underlying175 rfl hsz) rfl ⟨rfl,HF.out⟩
end
section
set_option maxRecDepth 100000
set_option maxHeartbeats 2000000
open Go.RowKit Go.Shelf
theorem wT{w:World}{bH bR b3 b6 s n sh:Nat}{cs:List Nat}{x:Rp}{t:ByteArray}{a:Int}(h:aP w bR x)(hh:gN w bH bR sh cs)(hs:s< x.stmts.length)(hf:(x.st s).fn< 5)(hn:n< 6)(c3:w.cell? ⟨b3,0,none⟩=some (ak bH))(c6:w.cell? ⟨b6,0,none⟩=some (.int .i64 s)):
  Calls Tryz.prog 99 #[.agg #[.string t,.int .i64 a,.int .i64 n],.pointer (some ⟨b3,0,none⟩),.pointer (some ⟨b6,0,none⟩)] w fun r w'=>r=.returned (.int .u64 (dg (ax cs ((x.st s).fn*6+n)).1 sh:Nat))∧Below w.heap.size w w':=by
 have r1:=dt
 have hfd:=iE
 obtain⟨D,hD⟩:∃W,W=w.alloc (.cells #[.string t,.int .i64 a,.int .i64 n] 96):=⟨_,rfl⟩
 have kD:Below w.heap.size w D:=by rw[hD];exact(Below.refl _ w).alloc (Nat.le_refl _) _
 have b1:an D w.heap.size #[.string t,.int .i64 a,.int .i64 n]:=by rw[hD];exact an.new w _ _
 have HSK:Hid (∀W,Below D.heap.size D W→W.cell? ⟨b3,0,none⟩=some (ak bH)∧W.cell? ⟨b6,0,none⟩=some (.int .i64 s)∧W.cell? ⟨w.heap.size,0,none⟩=some (.string t)∧W.cell? ⟨w.heap.size,1,none⟩=some (.int .i64 a)∧W.cell? ⟨w.heap.size,2,none⟩=some (.int .i64 n)∧W.cell? ⟨bH,0,none⟩=some (.int .u64 sh)):=fun W kk=>by
  have kw:=kD.trans (kk.mono kD.size)
  have y:=b1.below kk
  exact⟨(kw.cell (p:=⟨b3,0,none⟩) (ah c3)).trans c3,(kw.cell (p:=⟨b6,0,none⟩) (ah c6)).trans c6,y.cell 0,y.cell 1,y.cell 2,(hh.keep kw).sharedC⟩
 obtain⟨g0,g1,g2,g3,g4,g5⟩:=HSK.out D.drew ((Below.refl _ D).drew)
 have HLO:=aa (ws (w:=D.drew) (t:=t) (a:=a) (h.keep kD.drew) (hh.keep kD.drew) hs hf hn)
 have HKD:=aa kD
 have HD:=aa hD
 generalize ax cs ((x.st s).fn*6+n)=hv at *
 clear h hh kD b1 hD c3 c6
 go_enter Tryz.func99,Tryz.ntmps99
 go_wp2_with fail
 rw[←HD.out]
 go_region_held3 (fun w'=>w'.cell? ⟨b3,0,none⟩=some (ak bH)∧w'.cell? ⟨b6,0,none⟩=some (.int .i64 s)∧w'.cell? ⟨w.heap.size,0,none⟩=some (.string t)∧w'.cell? ⟨w.heap.size,1,none⟩=some (.int .i64 a)∧w'.cell? ⟨w.heap.size,2,none⟩=some (.int .i64 n)∧w'.cell? ⟨bH,0,none⟩=some (.int .u64 sh)) (first|exact⟨e0,e1,e2,e3,e4,e5⟩|exact⟨g0,g1,g2,g3,g4,g5⟩|go_keep) (first|(go_at_call 100;refine HLO.out.mono ?_;rintro q w2 ⟨rfl,hb2⟩;have hb2':Below D.heap.size D w2:=⟨hb2.os,hb2.tape,hb2.output,hb2.size,hb2.block⟩;have HB2:=aa hb2';obtain⟨e0,e1,e2,e3,e4,e5⟩:=HSK.out w2 hb2';clear hb2 hb2'))
 all_goals go_wp2_with fail
 all_goals go_ret
 all_goals exact⟨rfl,HKD.out.trans (HB2.out.mono HKD.out.size)⟩
end
end Go.Proofs.YtmdaflepdaiabaaGreatDoor
