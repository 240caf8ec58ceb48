import Derived.Test.YtmdaflepdaiabaaGreatDoorQ09
set_option linter.unusedSimpArgs false
set_option linter.unusedVariables false
namespace Go.Proofs.YtmdaflepdaiabaaGreatDoor
section
set_option maxRecDepth 100000
set_option maxHeartbeats 4000000
open Go.RowKit Go.Maps
theorem pD.done{w wr:World}{bn bm bp n B B2:Nat}{f:aj→Option (Nat×Nat)}{F:Nat→Nat→Prop}{bds ks:List Nat}{fs:List Fn}{fv dv:Value}{np:List Nat}{lcs:List Lc}{R:Except (Nat×Nat) (List Pd×List Ph)}{l:List Pd}{pl news gos:Nat}{lv:Value}{done:List Nat}{hs:List Ph}(h:pD w wr bn bm bp n B B2 f F bds ks fs fv dv np lcs R ks.length l pl news gos lv done hs)(hl:lcs.length=ks.length):R=.ok (l,hs):=by
 have:=h.eq
 rw[List.drop_of_length_le (by simp[hl]),hZ]at this
 simpa using this
theorem vS{w:World}{P:Nat→Prop}{bp:Nat}{l:List Pd}(h:xe w P bp l)(hP:∀i,P i→i< w.heap.size)(hok:oz l):
  Calls Tryz.prog 19 #[.pointer (some ⟨bp,0,none⟩)] w fun r w'=>ae P w w'∧((∃l3 hs,du l=.ok (l3,hs)∧r=.returned (.tuple #[])∧Ay w' (fun i=>P i∨w.heap.size≤i) bp l3 hs)∨(∃e a,du l=.error (e,a)∧cc w' r e a)):=by
 obtain⟨dv,bds,Q,g1,g2,g3,g4,g5,g6⟩:=h
 obtain⟨F,f1,f2,f3⟩:=DL.of g4
 have HOK:=aa hok
 have HP:=aa hP
 have hmk:(Instr.makeMap 87 none).run Tryz.prog w=.ok (.map (some w.heap.size)) (w.alloc (.map #[] 0)):=rfl
 have hbp:=hP bp g1
 have k1:ae (fun _=>False) w ((w.alloc (.map #[] 0)).alloc (.cells (tu bp w.heap.size aN 0 0) 90)):=((ae.refl _ w).alloc _).alloc _
 have hFw:∀k i,F k i→i< w.heap.size∧i≠bp:=fun k i hi=>⟨hP i (g5 i (f3 k i hi)).1,(g5 i (f3 k i hi)).2.1⟩
 have hs1:((w.alloc (.map #[] 0)).alloc (.cells (tu bp w.heap.size aN 0 0) 90)).heap.size=w.heap.size+2:=by simp
 have HDF:Hid (DF ((w.alloc (.map #[] 0)).alloc (.cells (tu bp w.heap.size aN 0 0) 90)) (w.heap.size+1) w.heap.size ((w.alloc (.map #[] 0)).alloc (.cells (tu bp w.heap.size aN 0 0) 90)).heap.size (((w.alloc (.map #[] 0)).alloc (.cells (tu bp w.heap.size aN 0 0) 90)).heap.size+1) F):=
  ⟨by omega,f2,fun k i hi=>⟨by have:=(hFw k i hi).1;omega,by have:=(hFw k i hi).1;omega,by have:=(hFw k i hi).1;omega⟩,by omega,by omega,Nat.le_refl _,by omega⟩
 have HD:=aa (zY (P':=fun i=>dv.ownBlock=some i) (an.newAt (w.alloc (.map #[] 0)) (tu bp w.heap.size aN 0 0) 90 (w.heap.size+1) (by simp)) ((dc.made w).kept (S:=fun _=>False) ((ae.refl _ _).alloc _) (fun e=>e)) (g2.kept k1 (fun e=>e)) ⟨aL g3.1 k1 (fun _ _ e=>e),fun i e=>e⟩ (f1.keep k1 (fun j i hi=>⟨(hFw j i hi).1,fun e=>e⟩)) HDF.out HOK.out.kd (fun e=>by
  rcases e with e|e|⟨k,e⟩
  ·omega
  ·omega
  ·exact(hFw k bp e).2 rfl) (fun i hi e=>by
  have hi2:=hP i (g3.2 i hi)
  rcases e with e|e|⟨k,e⟩
  ·omega
  ·omega
  ·exact(g5 i (f3 k i e)).2.2 hi) (by rw[f1.len];exact HOK.out.len))
 have HFX:=aa (And.intro f2 (And.intro hFw f3))
 have HGG:=aa (And.intro g1 (And.intro g2 (And.intro g3 (And.intro g5 g6))))
 have HK1:=aa k1
 have HEQ:Hid (du l=match cq (fun _=>none) (fun _=>0) l with|.error e=>.error e|.ok (l1,f,_)=>match eU f (dk 0 l1) l1 with|.error e=>.error e|.ok (l2,lcs)=>match hZ f (gY l1) ((dk 0 l1).zip lcs) 0 0 0 l2 with|.error e=>.error e|.ok l3=>if iB f (gY l1)then .ok l3 else .error (11,0)):=rfl
 have HKD:Hid (∀(w2:World),ae (Av (w.heap.size+1) w.heap.size F) ((w.alloc (.map #[] 0)).alloc (.cells (tu bp w.heap.size aN 0 0) 90)) w2→ae P w w2):=fun w2 hk=>(HK1.out.mono (fun _ e=>e.elim)).trans' hk (fun i e=>by
  rcases e with e|e|⟨k,e⟩
  ·exact Or.inr (by omega)
  ·exact Or.inr (by omega)
  ·exact Or.inl (g5 i (f3 k i e)).1)
 clear g1 g2 g3 g4 g5 g6 f1 f2 f3 hok hP hFw k1
 generalize hw1:(w.alloc (.map #[] 0)).alloc (.cells (tu bp w.heap.size aN 0 0) 90)=w1 at *
 have HW1:Hid ((w.alloc (.map #[] 0)).alloc (.cells #[.pointer (some ⟨bp,0,none⟩),.map (some w.heap.size),.slice none 0 0,.int .i64 0,.int .i64 0] 90)=w1):=hw1
 clear hw1
 go_enter Tryz.func19,Tryz.ntmps19
 go_wp2_with fail
 rw[HW1.out]
 refine HD.out.mono ?_
 rintro e w2 ⟨hk2,hx⟩
 rcases hx with⟨l1,f,c,fs,fv,q1,rfl,hdi⟩|⟨er,a,q1,b2,rfl,h3⟩
 case inr=>
  have HX:=aa (And.intro (HKD.out w2 hk2) h3)
  have HE:Hid (du l=.error (er,a)):=by show _=_;rw[HEQ.out,q1]
  clear q1 h3 hk2
  go_wp2_with fail
  exact⟨rfl,HX.out.1,Or.inr ⟨er,a,HE.out,b2,rfl,HX.out.2⟩⟩
 case inl=>
 clear hmk
 have HDI:=aa hdi
 have HDC:=aa (HOK.out.dec q1)
 have HFM:=aa (HOK.out.fm l1 f c q1)
 have HK2:=aa hk2
 have HE1:Hid (du l=match eU f (dk 0 l1) l1 with|.error e=>.error e|.ok (l2,lcs)=>match hZ f (gY l1) ((dk 0 l1).zip lcs) 0 0 0 l2 with|.error e=>.error e|.ok l3=>if iB f (gY l1)then .ok l3 else .error (11,0)):=by show _=_;rw[HEQ.out,q1]
 have HPF:Hid (PF (w.heap.size+1) w.heap.size bp (w1.heap.size+1+1) F (dk 0 l1) fs):=
  ⟨by omega,by omega,by omega,HFX.out.1,fun k i hi=>by have:=HFX.out.2.1 k i hi;exact⟨by omega,by omega,by omega,this.2⟩,by omega,by omega,by omega,sc _ _,fun i hi=>(hdi.fl.ge i hi).1,hdi.fl.nd⟩
 have HI1:=aa (hdi.pars (fun k d hd=>(HDC.out.2 k d hd).1))
 obtain⟨pw,cw,rfl⟩:=ai hdi.fl.own
 have c2:w2.cell? ⟨w.heap.size+1,2,none⟩=some (.slice pw fs.length cw):=hdi.nb.cell 2
 have hfl:fs.length≤1000000:=by
  have h1:=hdi.fl.len
  have h2:=jX l1 0
  have h3:(gY l1).length≤l1.length:=by unfold gY;rw[List.length_map];exact List.length_filter_le _ _
  have h4:=HDC.out.1
  have h5:=HOK.out.len
  omega
 have HKL:Hid ((dk 0 l1).length=fs.length):=hdi.fl.len
 clear hk2 hdi q1
 go_wp2_with fail
 clear c2
 go_loopw [18] (fun i wr=>∃(j:Nat) (lx:List Pd) (lcs:List Lc),i=.int .i64 j∧j≤fs.length∧Hid (sS w2 wr (w.heap.size+1) w.heap.size bp l1.length (w1.heap.size+1+1) f F bds (dk 0 l1) fs (.slice pw fs.length cw) (eU f (dk 0 l1) l1) j lx lcs)) (fun i _=>fs.length-(intOf i).toNat)
 case atStart=>exact⟨0,l1,[],rfl,Nat.zero_le _,HI1⟩
 case round=>
  obtain⟨j,lx,lcs,rfl,hjl,HR⟩:=hrel
  by_cases hj:j=fs.length
  ·have hkl:¬((j:Int)< (fs.length:Int)):=by omega
   have hjk:j=(dk 0 l1).length:=by rw[HKL.out];exact hj
   have hR0:=HR.out
   rw[hjk]at hR0
   have kPB:∀i,i< w.heap.size→(∀k,¬F k i)→¬Av (w.heap.size+1) w.heap.size F i∧¬(i∈mD fs∨∃k,F k i):=fun i hi hn=>⟨fun e=>by
    rcases e with e|e|⟨m,e⟩
    ·omega
    ·omega
    ·exact hn m e,fun e=>by
    rcases e with e|⟨m,e⟩
    ·have:=HPF.out.ge i e;omega
    ·exact hn m e⟩
   have hpn:=kPB bp hbp (fun k e=>(HFX.out.2.1 k bp e).2 rfl)
   have hpb:an wr bp #[dv,aN]:=((HGG.out.2.1.kept HK1.out (fun e=>e)).kept HK2.out hpn.1).kept hR0.kp hpn.2
   have hdn:∀i,dv.ownBlock=some i→¬Av (w.heap.size+1) w.heap.size F i∧¬(i∈mD fs∨∃k,F k i):=fun i e=>kPB i (HP.out i (HGG.out.2.2.1.2 i e)) (fun k z=>(HGG.out.2.2.2.1 i (HFX.out.2.2 k i z)).2.2 e)
   have HDV:Hid (wr.ownsRow 0 84 1 dv bds.length (dW bds)):=aL (aL (aL HGG.out.2.2.1.1 HK1.out (fun _ _ e=>e)) HK2.out (fun i e=>(hdn i e).1)) hR0.kp (fun i e=>(hdn i e).2)
   obtain⟨hpe,hbi⟩:=hR0.bods (np:=gY l1) hpb (yQ.mk l1) (fun k d hd=>(HDC.out.2 k d hd).2)
   have HBI:=aa hbi
   have hszr:w1.heap.size+1+1≤wr.heap.size:=by
    have h1:=HDI.out.mb.lt
    have h2:=HR.out.kp.size
    omega
   have hbF:∀(k b:Nat),bds[k]?=some b→F k b:=fun k b hb=>by
    obtain⟨d,hd⟩:∃d,lx[k]?=some d:=⟨_,List.getElem?_eq_getElem (by rw[←hR0.dl.len];exact(List.getElem?_eq_some_iff.1 hb).1)⟩
    obtain⟨_,_,_,_,h1,_⟩:=hR0.dl.rep k b d hb hd
    exact h1
   have HBF:Hid (BF (w.heap.size+1) w.heap.size bp (w1.heap.size+1+1) wr.heap.size f F bds (dk 0 l1) fs (.slice pw fs.length cw) (gY l1) lcs):=by
    refine⟨HPF.out,hszr,fun i hi=>(hR0.fl.ge i hi).2.1,fun i e=>⟨(hR0.fl.own.lt i e).1,(hR0.fl.own.lt i e).2,fun hi=>(hR0.fl.ge i hi).2.2 e⟩,fun x hx=>?_,HFM.out,?_,by rw[hR0.len],hbF⟩
    ·obtain⟨m,hm,e2⟩:=List.getElem_of_mem hx
     have hx':fs[m]?=some x:=by rw[List.getElem?_eq_getElem hm,e2]
     obtain⟨k,hk⟩:∃k,(dk 0 l1)[m]?=some k:=⟨_,List.getElem?_eq_getElem (by rw[HKL.out];exact hm)⟩
     have hb:=hR0.fl.at_ m k x hk hx'
     exact⟨k,hbF k _ hb,hb⟩
    ·rw[←jX l1 0,HKL.out];exact hfl
   have HE2:Hid (du l=match hZ f (gY l1) ((dk 0 l1).zip lcs) 0 0 0 lx with|.error e=>.error e|.ok l3=>if iB f (gY l1)then .ok l3 else .error (11,0)):=by show _=_;rw[HE1.out,hpe]
   have HKR:Hid (ae P w wr):=(HKD.out w2 HK2.out).trans' hR0.kp (fun i e=>by
    rcases e with e|⟨m,e⟩
    ·have:=HPF.out.ge i e;exact Or.inr (by omega)
    ·exact Or.inl (HGG.out.2.2.2.1 i (HFX.out.2.2 m i e)).1)
   have HLL:Hid (lcs.length=(dk 0 l1).length):=by show _=_;rw[hR0.len]
   have c2:wr.cell? ⟨w.heap.size+1,2,none⟩=some (.slice pw fs.length cw):=hR0.nb.cell 2
   clear hR0 hjk hj hjl kPB hpn hpb hdn hpe hbi hbF
   go_wp2_with fail
   clear c2 hkl
   obtain⟨wz,rfl⟩:∃x,x=wr:=⟨wr,rfl⟩
   go_loopw [31] (fun i wx=>∃(j:Nat) (ly:List Pd) (pl news gos:Nat) (lv:Value) (done:List Nat) (hs:List Ph),i=.int .i64 j∧j≤fs.length∧Hid (pD wz wx (w.heap.size+1) w.heap.size bp l1.length (w1.heap.size+1+1) wz.heap.size f F bds (dk 0 l1) fs (.slice pw fs.length cw) dv (gY l1) lcs (hZ f (gY l1) ((dk 0 l1).zip lcs) 0 0 0 lx) j ly pl news gos lv done hs)) (fun i _=>fs.length-(intOf i).toNat)
   case atStart=>exact⟨0,lx,0,0,0,aN,[],[],rfl,Nat.zero_le _,HBI⟩
   case round=>
    obtain⟨j,ly,pl,news,gos,lv,done,hs,rfl,hjl,HY⟩:=hrel
    have HKY:Hid (∀(S:Nat→Prop) (wt:World),ae S wr wt→(∀i,S i→i=w.heap.size+1∨i=bp∨i∈mD fs∨(∃k,F k i)∨wz.heap.size≤i)→ae P w wt):=fun S wt hk hS=>by
     refine HKR.out.trans' (HY.out.kp.trans (hk.mono hS)) (fun i e=>?_)
     have hww:w.heap.size≤wz.heap.size:=HKR.out.size
     rcases e with e|e|e|⟨m,e⟩|e
     ·exact Or.inr (by omega)
     ·exact Or.inl (e▸HGG.out.1)
     ·have:=HPF.out.ge i e;exact Or.inr (by omega)
     ·exact Or.inl (HGG.out.2.2.2.1 i (HFX.out.2.2 m i e)).1
     ·exact Or.inr (by omega)
    by_cases hj:j=fs.length
    ·have hkl:¬((j:Int)< (fs.length:Int)):=by omega
     have hjk:j=(dk 0 l1).length:=by rw[HKL.out];exact hj
     have hY0:=HY.out
     rw[hjk]at hY0
     have HRB:=aa (hY0.done HLL.out)
     have HNB:Hid (NB wr (w.heap.size+1) w.heap.size bp l1.length f (FQ fs (.slice pw fs.length cw)) (gY l1) (.slice pw fs.length cw) news gos):=(HY.out.nw ⟨fun _=>none,0⟩).nb
     have HM:=aa (Be HNB.out HBF.out.fm HBF.out.few)
     clear hY0 hjk hj hjl
     go_wp2_with fail
     refine HM.out.mono ?_
     rintro e w4 ⟨hb4,⟨hm,rfl⟩|⟨hm,b2,rfl,h3⟩⟩
     ·have HE3:Hid (du l=.ok (ly,hs)):=by show _=_;rw[HE2.out,HRB.out];simp only;rw[if_pos hm]
      have HB4:=aa hb4
      clear hb4 hm
      go_wp2_with fail
      go_end0
      have k4:ae (fun _=>False) wr w4:=ae.of_below HB4.out
      refine⟨HKY.out _ w4 k4 (fun _ e=>e.elim),Or.inl ⟨ly,hs,HE3.out,rfl,⟨dv,lv,bds,done,F,HY.out.pb.kept k4 (fun e=>e),?_,aL (bz HY.out.own (Nat.zero_le _)) k4 (fun _ _ e=>e),HY.out.dl.keep k4 (fun k i hi=>⟨?_,fun e=>e⟩),HFX.out.1,fun k i hi=>⟨Or.inl (HGG.out.2.2.2.1 i (HFX.out.2.2 k i hi)).1,by have h1:=(HFX.out.2.1 k i hi).1;have h2:w.heap.size≤wz.heap.size:=HKR.out.size;have h3:=HY.out.le;have h4:=k4.size;omega⟩,HY.out.hd.keep k4 (fun i hi=>⟨fun e=>e,?_⟩),fun i e=>Or.inl (HGG.out.2.2.1.2 i e),fun i e=>Or.inr ?_,Or.inl HGG.out.1⟩⟩⟩
      ·refine aL (aL HDV.out HY.out.kp (fun i e z=>?_)) k4 (fun _ _ e=>e)
       have hi:=HP.out i (HGG.out.2.2.1.2 i e)
       have hww:w.heap.size≤wz.heap.size:=HKR.out.size
       rcases z with z|z|z|⟨m,z⟩|z
       ·omega
       ·exact HGG.out.2.2.2.2 (by rw[e,z])
       ·have:=HPF.out.ge i z;omega
       ·exact(HGG.out.2.2.2.1 i (HFX.out.2.2 m i z)).2.2 e
       ·omega
      ·have:=HPF.out.fo k i hi
       have:=HBF.out.b2
       have:=HY.out.le
       omega
      ·obtain⟨⟨m,_,hi⟩,_⟩:=hi
       exact Or.inl (HGG.out.2.2.2.1 i (HFX.out.2.2 m i hi)).1
      ·have:=(HY.out.own.lt i e).1
       have hww:w.heap.size≤wz.heap.size:=HKR.out.size
       omega
     ·have HE3:Hid (du l=.error (11,0)):=by show _=_;rw[HE2.out,HRB.out];simp only;rw[if_neg (by rw[hm];decide)]
      have HX4:=aa (And.intro (HKY.out _ w4 (ae.of_below (S:=fun _=>False) hb4) (fun _ e=>e.elim)) h3)
      clear hb4 hm h3
      go_wp2_with fail
      exact⟨rfl,HX4.out.1,Or.inr ⟨11,0,HE3.out,b2,rfl,HX4.out.2⟩⟩
    ·have hjn:j< fs.length:=by omega
     have hkl:(j:Int)< (fs.length:Int):=by omega
     clear hj hjl
     obtain⟨x,hx⟩:∃x,fs[j]?=some x:=⟨_,List.getElem?_eq_getElem hjn⟩
     obtain⟨k,hk⟩:∃k,(dk 0 l1)[j]?=some k:=⟨_,List.getElem?_eq_getElem (by rw[HKL.out];exact hjn)⟩
     obtain⟨c,hc⟩:∃c,lcs[j]?=some c:=⟨_,List.getElem?_eq_getElem (by rw[HLL.out,HKL.out];exact hjn)⟩
     have hbd:=HY.out.fl.at_ j k x hk hx
     obtain⟨d,hd⟩:∃d,ly[k]?=some d:=⟨_,List.getElem?_eq_getElem (by rw[←HY.out.dl.len];exact(List.getElem?_eq_some_iff.1 hbd).1)⟩
     obtain⟨sp,sb,bb,Qb,r1,r2,r3,r4,r5,r6⟩:=HY.out.dl.rep k x.bd d hbd hd
     obtain⟨gw,rfl⟩:∃gw,pw=some ⟨gw,0,none⟩:=by
      obtain⟨g,c,e⟩:=aG HY.out.fl.own (by omega)
      cases e;exact⟨g,rfl⟩
     have hcell:wr.cell? ⟨gw,j,none⟩=some (ak x.bf):=by
      rw[HY.out.fl.own.cellAt _ (by omega)]
      simp[dW,hx]
     have hcell':wr.cell? ⟨gw,j*1,none⟩=some (ak x.bf):=by rw[Nat.mul_one];exact hcell
     have hxm:=List.mem_of_getElem? hx
     have hbk:=HY.out.fl.blk x hxm
     have b0:wr.cell? ⟨x.bf,0,none⟩=some (ak x.bd):=hbk.cell 0
     have b5:wr.cell? ⟨x.bd,5,none⟩=some sb:=r2.cell 5
     have hnb:∀i,F k i→i≠x.bd→i∉bds:=fun i hi hne hm=>by
      obtain⟨m,hm,e⟩:=List.getElem_of_mem hm
      have hm':bds[m]?=some i:=by rw[List.getElem?_eq_getElem hm,e]
      by_cases hmk:m=k
      ·subst hmk;rw[hbd]at hm';cases hm';exact hne rfl
      ·exact hmk (HPF.out.dj m k i (HBF.out.bf m i hm') hi)
     have hlo:=HY.out.lo j x c (Nat.le_refl _) hx hc
     have hzz:=HY.out.hz j k d (Nat.le_refl _) hk hd
     have HSY:=aa (HBF.out.sys (n:=l1.length) (dv:=dv) hx)
     have HFP:=aa (HBF.out.fp (n:=l1.length) (dv:=dv) (k:=k) hx (P:=Qb) (fun i hi=>⟨(r6.q i hi).1,hnb i (r6.q i hi).1 (r6.q i hi).2.1⟩))
     have HC:=aa (rT d.body wr (su (w.heap.size+1) w.heap.size bp l1.length wz.heap.size f fs (.slice (some ⟨gw,0,none⟩) fs.length cw) dv (gY l1)) x.bf x.bl Qb (fun i=>sb.ownBlock=some i) bb sb ⟨c,pl,news,gos⟩ lv done (HY.out.nw c) ⟨hbk.cell 1,hlo.1,hlo.2⟩ HSY.out HFP.out (HBF.out.fp (k:=k) hx (fun i hi=>⟨r4.2 i hi,hnb i (r4.2 i hi) (fun e=>r6.bb (by rw[hi,e]))⟩)) (fun i hi e=>(r6.q i e).2.2.2 hi) ⟨r4.1,fun i e=>e⟩ r5 hzz.1 hzz.2)
     have HXX:=aa (And.intro hx (And.intro hk (And.intro hc (And.intro hd (And.intro r2 (And.intro r3 (And.intro r4 r6)))))))
     have HBK:=aa hbk
     have hxb:=dp hxm
     have HWB:Hid (∀i,iD (su (w.heap.size+1) w.heap.size bp l1.length wz.heap.size f fs (.slice (some ⟨gw,0,none⟩) fs.length cw) dv (gY l1)) x.bl Qb i→i=w.heap.size+1∨i=bp∨i∈mD fs∨(∃k,F k i)∨wz.heap.size≤i):=fun i e=>by
      rcases e with e|e|e|e|e
      ·exact Or.inr (Or.inr (Or.inr (Or.inl ⟨k,(r6.q i e).1⟩)))
      ·exact Or.inl e
      ·exact Or.inr (Or.inl e)
      ·exact Or.inr (Or.inr (Or.inl (by rw[e];exact hxb.2)))
      ·exact Or.inr (Or.inr (Or.inr (Or.inr e)))
     have HNF:Hid (¬iD (su (w.heap.size+1) w.heap.size bp l1.length wz.heap.size f fs (.slice (some ⟨gw,0,none⟩) fs.length cw) dv (gY l1)) x.bl Qb x.bf):=fun e=>by
      have h1:=HPF.out.ge _ hxb.1
      have h2:=HBF.out.fb _ hxb.1
      rcases e with e|e|e|e|e
      ·have:=HPF.out.fo k _ (r6.q _ e).1;omega
      ·have e:x.bf=w.heap.size+1:=e;omega
      ·have e:x.bf=bp:=e;omega
      ·exact(Fn.apart HPF.out.fn hx hx).1 e
      ·have e:wz.heap.size≤x.bf:=e;omega
     have hFb:=HBF.out.bf k _ hbd
     have HND:Hid (¬iD (su (w.heap.size+1) w.heap.size bp l1.length wz.heap.size f fs (.slice (some ⟨gw,0,none⟩) fs.length cw) dv (gY l1)) x.bl Qb x.bd):=fun e=>by
      have h1:=HPF.out.fo k _ hFb
      have h2:=HPF.out.ge _ hxb.2
      have h3:=HBF.out.b2
      rcases e with e|e|e|e|e
      ·exact(r6.q _ e).2.1 rfl
      ·exact h1.2.1 e
      ·exact h1.2.2.2 e
      ·have e:x.bd=x.bl:=e;omega
      ·have e:wz.heap.size≤x.bd:=e;omega
     clear hx hk hc hd hbd r1 r2 r3 r4 r5 r6 hxm hbk hnb hlo hzz hxb hFb
     go_wp2_with fail
     refine HC.out.mono ?_
     rintro e w3 ⟨hk3,⟨st2,l',lv2,L2,e2,rfl,n2,f2,t2,d2⟩|⟨er,a,e2,b2,rfl,h3⟩⟩
     ·have y0:w3.cell? ⟨x.bf,0,none⟩=some (ak x.bd):=(HBK.out.kept hk3 HNF.out).cell 0
      have y1:w3.cell? ⟨x.bf,1,none⟩=some (.map (some x.bl)):=(HBK.out.kept hk3 HNF.out).cell 1
      have hB3:=HXX.out.2.2.2.2.1.kept hk3 HND.out
      have y6:w3.cell? ⟨x.bd,6,none⟩=some (.int .i64 d.locals):=hB3.cell 6
      have yf:=hB3.fz
      have hl3:x.bf< w3.heap.size:=(HBK.out.kept hk3 HNF.out).lt
      have hl4:=hB3.lt
      have e4:=(f2.lc.move (w':=w3.drew) rfl).len 3
      have HN:=aa (HY.out.next HBF.out HXX.out.1 HXX.out.2.1 HXX.out.2.2.1 HXX.out.2.2.2.1 HXX.out.2.2.2.2.1 HXX.out.2.2.2.2.2.1 HXX.out.2.2.2.2.2.2.1 HXX.out.2.2.2.2.2.2.2 hk3 e2 n2 t2 d2 rfl)
      clear hk3 e2 n2 f2 t2 d2 hB3
      go_wp2_with fail
      go_region
      all_goals
       go_wp2_with fail
       go_roundw
       case rel=>exact⟨j+1,_,_,_,_,_,_,_,by go_num,by omega,HN⟩
       case measure=>simp[intOf];omega
     ·have HE3:Hid (du l=.error (er,a)):=by
       show _=_
       have hzk:((dk 0 l1).zip lcs)[j]?=some (k,c):=by rw[List.getElem?_zip_eq_some];exact⟨HXX.out.2.1,HXX.out.2.2.1⟩
       have hlt:=(List.getElem?_eq_some_iff.1 hzk).1
       have hdr:((dk 0 l1).zip lcs).drop j=(k,c)::((dk 0 l1).zip lcs).drop (j+1):=by rw[List.drop_eq_getElem_cons hlt,(List.getElem?_eq_some_iff.1 hzk).2]
       have h5:=HY.out.eq
       rw[hdr,hZ,HXX.out.2.2.2.1]at h5
       simp only at h5
       have e2:iQ f (gY l1) ⟨c,pl,news,gos⟩ d.body=.error (er,a):=e2
       rw[e2]at h5
       rw[HE2.out,h5]
      have HK3:=aa (HKY.out _ w3 hk3 HWB.out)
      replace h3:=aa h3
      clear hk3 e2
      go_wp2_with fail
      exact⟨rfl,HK3.out,Or.inr ⟨er,a,HE3.out,b2,rfl,h3.out⟩⟩
  ·have hjn:j< fs.length:=by omega
   have hkl:(j:Int)< (fs.length:Int):=by omega
   clear hj hjl
   obtain⟨x,hx⟩:∃x,fs[j]?=some x:=⟨_,List.getElem?_eq_getElem hjn⟩
   obtain⟨k,hk⟩:∃k,(dk 0 l1)[j]?=some k:=⟨_,List.getElem?_eq_getElem (by rw[HKL.out];exact hjn)⟩
   have hbd:=HR.out.fl.at_ j k x hk hx
   obtain⟨d,hd⟩:∃d,lx[k]?=some d:=⟨_,List.getElem?_eq_getElem (by rw[←HR.out.dl.len];exact(List.getElem?_eq_some_iff.1 hbd).1)⟩
   obtain⟨gw,rfl⟩:∃gw,pw=some ⟨gw,0,none⟩:=by
    obtain⟨g,c,e⟩:=aG HR.out.fl.own (by omega)
    cases e;exact⟨g,rfl⟩
   have hcell:wr.cell? ⟨gw,j,none⟩=some (ak x.bf):=by
    rw[HR.out.fl.own.cellAt _ (by omega)]
    simp[dW,hx]
   have hcell':wr.cell? ⟨gw,j*1,none⟩=some (ak x.bf):=by rw[Nat.mul_one];exact hcell
   have hxm:=List.mem_of_getElem? hx
   have hxb:=dp hxm
   have hge1:=HPF.out.ge _ hxb.1
   have hge2:=HPF.out.ge _ hxb.2
   have HC:=aa (Bd ⟨HR.out.nb.cell 1,HR.out.th⟩ (HR.out.fl.blk x hxm) (HR.out.l2 j x (Nat.le_refl _) hx) (HR.out.dl.rep k x.bd d hbd hd) (fun i hi=>by
    have h1:=HPF.out.fo k i hi
    have h2:=(HR.out.fl.ge _ hxb.1).2.1
    exact⟨by omega,h1.2.1,h1.2.2.1,by omega,by omega⟩) (by omega) (by omega) (Fn.apart HPF.out.fn hx hx).1 (HR.out.hz k d hd).1 (HR.out.hz k d hd).2)
   have HX:=aa (And.intro hx (And.intro hk hd))
   have HXL:=aa hxb.2
   clear hx hk hd hbd hxm hxb hge1 hge2
   go_wp2_with fail
   refine HC.out.mono ?_
   rintro e w3 ⟨hk3,⟨ps',l',e1,rfl,r1,r2,r3,r4⟩|⟨er,a,e1,b2,rfl,h3⟩⟩
   ·have HN:=aa (HR.out.next HPF.out HX.out.1 HX.out.2.1 HX.out.2.2 hk3 e1 r1 r2 r3 r4)
    clear hk3 e1 r1 r2 r3 r4
    go_wp2_with fail
    go_roundw
    case rel=>exact⟨j+1,_,_,by go_num,by omega,HN⟩
    case measure=>simp[intOf];omega
   ·have HE2:Hid (du l=.error (er,a)):=by
     show _=_
     have hdr:(dk 0 l1).drop j=k::(dk 0 l1).drop (j+1):=by
      have hlt:=(List.getElem?_eq_some_iff.1 HX.out.2.1).1
      rw[List.drop_eq_getElem_cons hlt,(List.getElem?_eq_some_iff.1 HX.out.2.1).2]
     have h5:=HR.out.eq
     rw[hdr,eU,HX.out.2.2]at h5
     simp only at h5
     unfold xL at h5
     rw[e1]at h5
     rw[HE1.out,h5]
    have HK3:Hid (ae P w w3):=(HKD.out w2 HK2.out).trans' ((HR.out.kp.trans (hk3.mono (fun i e=>by
     rcases e with e|e
     ·exact Or.inl (by rw[e];exact HXL.out)
     ·exact Or.inr ⟨k,e⟩)))) (fun i e=>by
     rcases e with e|⟨m,e⟩
     ·have:=HPF.out.ge i e;exact Or.inr (by omega)
     ·exact Or.inl (HGG.out.2.2.2.1 i (HFX.out.2.2 m i e)).1)
    replace h3:=aa h3
    clear hk3 e1
    go_wp2_with fail
    exact⟨rfl,HK3.out,Or.inr ⟨er,a,HE2.out,b2,rfl,h3.out⟩⟩
end
section
set_option maxRecDepth 100000
set_option maxHeartbeats 2000000
open Go.RowKit Go.Maps
theorem uF{l:List Pd}:∀{f f':aj→Option (Nat×Nat)} {c c':Nat→Nat} {l':List Pd},cq f c l=.ok (l',f',c')→(∀t m,f t=some (2,m)→m< c 2)→c' 2=c 2+(gY l').length∧∀t m,f' t=some (2,m)→m< c' 2:=by
 induction l with
 |nil=>intro f f' c c' l' h hf;rw[cq]at h;cases h;exact⟨by simp[gY],hf⟩
 |cons d l ih=>
  intro f f' c c' l' h hf
  rw[cq]at h
  split at h
  ·cases h
  ·split at h
   ·cases h
   ·split at h
    ·cases h
    ·rename_i l1 f1 c1 e
     cases h
     obtain⟨h1,h2⟩:=ih e (fun t m ht=>by
      unfold putF at ht
      unfold my
      split at ht
      ·simp only[Option.some.injEq,Prod.mk.injEq]at ht
       obtain⟨k1,k2⟩:=ht
       rw[if_pos k1.symm]
       omega
      ·have:=hf t m ht
       split
       ·rename_i hk;rw[←hk];omega
       ·exact this)
     refine⟨?_,h2⟩
     rw[h1]
     unfold my gY
     rw[List.filter_cons]
     by_cases hk:d.kind=2
     ·simp[hk];omega
     ·simp[hk,Ne.symm hk]
def gF(w w':World)(l3:List Pd)(hs:List Ph)(bq:Nat):Prop:=∃bp,an w' bq #[ak bp]∧Ay w' (fun i=>w.heap.size≤i) bp l3 hs
theorem xO{w:World}{b1 b4 bq:Nat}{s:ByteArray}{ts:List aI}{l3:List Pd}{hs:List Ph}(hokP:(be ts).2.v.ok=true)(hrP:du ((be ts).1.map ik)=.ok (l3,hs))(hpd:oz ((be ts).1.map ik))(hT:eG s.data.toList ts)(hsz:s.size≤700)(h1:an w b1 #[.string s])(h4:an w b4 #[ak bq])(hq:an w bq #[.pointer none])(n4:b4≠bq):
  Calls Tryz.prog 17 #[.pointer (some ⟨b1,0,none⟩),.pointer (some ⟨b4,0,none⟩)] w fun e w'=>ae (ao bq) w w'∧((e=.returned (.tuple #[])∧gF w w' l3 hs bq)∨∃b,e=cY b∧(fun(_:Nat) (_:World)=>False) b w'):=by
 have HPD:=aa hpd
 have HRP:=aa hrP
 have HOK:=aa hokP
 clear hpd hrP hokP
 have HQ:=aa hq
 have H4:=aa h4
 have hdT:=aa hT
 have c1:w.cell? ⟨b1,0,none⟩=some (.string s):=h1.cell 0
 have c4:w.cell? ⟨b4,0,none⟩=some (ak bq):=h4.cell 0
 have hl1:=h1.lt
 have hl4:=h4.lt
 have hlq:=hq.lt
 have HD:Hid (Calls Tryz.prog 18 #[.string s] w.drew fun r w'=>Below w.heap.size w w'∧(((be ts).2.v.ok=true∧∃bp,r=.returned (ak bp)∧xe w' (cV w w') bp ((be ts).1.map ik))∨((be ts).2.v.ok=false∧cc w' r (be ts).2.v.e (be ts).2.v.a))):=(AY w.drew hT hsz).mono (fun e w' h=>⟨⟨h.1.os,h.1.tape,h.1.output,h.1.size,h.1.block⟩,h.2⟩)
 clear hq h4 hT h1
 go_enter Tryz.func17,Tryz.ntmps17
 go_upto_region 0 with fail
 go_cut []from 2 (fun wx=>∃w2 bp,wx=w2.setCell ⟨bq,0,none⟩ (ak bp)∧Hid (Below w.heap.size w w2∧(be ts).2.v.ok=true∧xe w2 (cV w w2) bp ((be ts).1.map ik)))
 case first=>
  go_wp2_with fail
  go_region_law (refine en rfl ?_;go_wp2_with fail;refine HD.out.mono ?_;rintro e w2 ⟨hb2,hx⟩;rcases hx.symm with⟨hok,b,rfl,h3⟩|⟨hok,bp,rfl,hrep⟩;(focus(rw[HOK.out]at hok;cases hok));(have q4:w2.cell? ⟨b4,0,none⟩=some (ak bq):=(by rw[hb2.cell (p:=⟨b4,0,none⟩) hl4];exact c4);have qq:w2.cell? ⟨bq,0,none⟩=some (.pointer none):=(by rw[hb2.cell (p:=⟨bq,0,none⟩) hlq];exact HQ.out.cell 0);have qf:∀j,w2.frozen? ⟨bq,j,none⟩=false:=(fun j=>by rw[hb2.frozen (p:=⟨bq,j,none⟩) hlq];exact HQ.out.fz j);have HX:=aa (And.intro hb2 (And.intro hok hrep));clear hb2 hok hrep hx))
  all_goals
   go_wp2_with fail
   go_meet
   exact⟨w2,bp,rfl,HX.out⟩
 case rest=>
 obtain⟨w2,bp,rfl,HX⟩:=hcut
 have hb2:=HX.out.1
 have hz2:=hb2.size
 have q4:(w2.setCell ⟨bq,0,none⟩ (ak bp)).cell? ⟨b4,0,none⟩=some (ak bq):=((H4.out.below hb2).setO bq 0 (ak bp) n4).cell 0
 have HBQ:Hid (an (w2.setCell ⟨bq,0,none⟩ (ak bp)) bq #[ak bp]):=(HQ.out.below hb2).set 0 (ak bp) (by simp)
 have qq:(w2.setCell ⟨bq,0,none⟩ (ak bp)).cell? ⟨bq,0,none⟩=some (ak bp):=HBQ.out.cell 0
 have HK2:Hid (ae (ao bq) w (w2.setCell ⟨bq,0,none⟩ (ak bp))):=(ae.of_below (S:=ao bq) hb2).set1 0 _
 have hs2:(w2.setCell ⟨bq,0,none⟩ (ak bp)).heap.size=w2.heap.size:=by simp[World.setCell]
 have hkq:ae (ao bq) w2 (w2.setCell ⟨bq,0,none⟩ (ak bp)):=(ae.refl (ao bq) w2).set1 0 _
 have hrp:xe (w2.setCell ⟨bq,0,none⟩ (ak bp)) (cV w w2) bp ((be ts).1.map ik):=by
  obtain⟨dv,bds,Q,g1,g2,g3,g4,g5,g6⟩:=HX.out.2.2
  have hnq:∀i,cV w w2 i→¬ao bq i:=fun i hi e=>by have:=hi.1;have e:i=bq:=e;omega
  exact⟨dv,bds,Q,g1,g2.kept hkq (hnq _ g1),⟨aL g3.1 hkq (fun i e=>hnq i (g3.2 i e)),g3.2⟩,g4.keep hkq (fun i hi=>⟨(g5 i hi).1.2,hnq i (g5 i hi).1,hi⟩),g5,g6⟩
 have HN:=aa (vS hrp (fun i hi=>by rw[hs2];exact hi.2) HPD.out)
 clear hb2 hkq hrp HX
 generalize hw3:w2.setCell ⟨bq,0,none⟩ (ak bp)=w3 at *
 clear hw3
 go_wp2_with fail
 refine HN.out.mono ?_
 rintro e w4 ⟨hk4,⟨l3',hs3,e1,rfl,hres⟩|⟨er,a,e1,b,rfl,h3⟩⟩
 ·rw[HRP.out]at e1
  cases e1
  have HY:=aa (And.intro hk4 hres)
  clear hk4 hres
  go_wp2_with fail
  go_end0
  have hk5:ae (ao bq) w w4:=HK2.out.trans' HY.out.1 (fun i hi=>Or.inr hi.1)
  refine⟨hk5,Or.inl ⟨rfl,bp,HBQ.out.kept HY.out.1 (fun e=>by have:=e.1;omega),?_⟩⟩
  exact HY.out.2.keep (ae.refl (fun _=>False) w4) (fun i hi=>⟨fun e=>e,by
   rcases hi with hi|hi
   ·exact hi.1
   ·show w.heap.size≤i;omega⟩)
 ·rw[HRP.out]at e1
  cases e1
theorem gF.keep{w wA w' w'':World}{S:Nat→Prop}{l3:List Pd}{hs:List Ph}{bq:Nat}(h:gF w w' l3 hs bq)(k:ae S w' w'')(h0:∀i,w.heap.size≤i→¬S i)(hq:¬S bq)(hA:wA.heap.size≤w.heap.size):gF wA w'' l3 hs bq:=by
 obtain⟨bp,h3,h6⟩:=h
 exact⟨bp,h3.kept k hq,h6.keep k (fun i hi=>⟨h0 i hi,Nat.le_trans hA hi⟩)⟩
theorem Cc(args:Array Value)(w:World):(callFunc 17 args).run Tryz.prog w=.ok (.enter 17 args) w:=by
 kernel_rfl
theorem zB{w:World}{s:ByteArray}{ts:List aI}{l3:List Pd}{hs:List Ph}(hokP:(be ts).2.v.ok=true)(hrP:du ((be ts).1.map ik)=.ok (l3,hs))(hpd:oz ((be ts).1.map ik))(hT:eG s.data.toList ts)(hsz:s.size≤700):
  Calls Tryz.prog 12 #[.string s] w fun r w'=>Below w.heap.size w w'∧∃bq,r=.returned (.tuple #[ak bq,.nilIface])∧w.heap.size≤bq∧gF w w' l3 hs bq:=by
 have hmf:∀(fn:Go.Fn) (first cap:Array Value) (w:World),(Instr.makeFunc fn first cap).run Tryz.prog w=.ok (.func fn first cap) w:=fun _ _ _ _=>rfl
 obtain⟨wA,hwA⟩:∃x,x=((w.alloc (.cells #[.string s] 9)).alloc (.cells #[.pointer none] 56)).alloc (.cells #[ak (w.heap.size+1)] 39):=⟨_,rfl⟩
 have hsA:wA.heap.size=w.heap.size+3:=by rw[hwA];simp
 have h1:an wA w.heap.size #[.string s]:=by rw[hwA];exact((an.new w _ _).alloc _).alloc _
 have hq:an wA (w.heap.size+1) #[.pointer none]:=by rw[hwA];exact(an.newAt _ _ _ _ (by simp)).alloc _
 have h4:an wA (w.heap.size+2) #[ak (w.heap.size+1)]:=by rw[hwA];exact an.newAt _ _ _ _ (by simp)
 have HBA:Hid (Below w.heap.size w wA):=by show Below _ _ _;rw[hwA];exact(((Below.refl _ _).alloc (Nat.le_refl _) _).alloc (by simp) _).alloc (by simp;omega) _
 have HC:=aa (uK (w:=wA) (S:=ao (w.heap.size+1)) (fun e=>by have e:wA.heap.size=w.heap.size+1:=e;omega) (G:=17) (cap:=#[ak w.heap.size,ak (w.heap.size+2)]) (Rok:=fun w'=>gF (wA.alloc (.cells #[.nilIface] 41)) w' l3 hs (w.heap.size+1)) (Rbad:=fun _ _=>False) Cc ((xO hokP hrP hpd hT hsz (h1.alloc _) (h4.alloc _) (hq.alloc _) (by omega)).mono (fun e w' h=>⟨h.1,h.2⟩)))
 have HWA:=aa hwA
 clear h1 hq h4 hT hwA hokP hrP hpd
 go_enter Tryz.func12,Tryz.ntmps12
 go_wp2_with fail
 rw[←HWA.out]
 refine HC.out.mono ?_
 rintro e w2 ⟨w1,hk1,⟨rfl,h1,hw2⟩|⟨b,rfl,h1,hw2⟩⟩
 ·have k2:ae (ao wA.heap.size) w1 w2:=by rw[hw2];exact(ae.refl (ao wA.heap.size) w1).set1 0 _
  have HT2:Hid (gF w w2 l3 hs (w.heap.size+1)):=h1.keep k2 (fun i hi e=>by have e:i=wA.heap.size:=e;simp at hi;omega) (fun e=>by have e:w.heap.size+1=wA.heap.size:=e;omega) (by simp;omega)
  have k3:ae (ao (w.heap.size+1)) wA w1:=((ae.refl (ao (w.heap.size+1)) wA).alloc _).trans hk1
  have HK:Hid (Below w.heap.size w w2):=ae.to_below (((ae.of_below (S:=fun _=>False) HBA.out).trans' k3 (fun i e=>Or.inr (by have e:i=w.heap.size+1:=e;omega))).trans' k2 (fun i e=>Or.inr (by have e:i=wA.heap.size:=e;omega)))
  have hb4:an wA (w.heap.size+2) #[ak (w.heap.size+1)]:=by rw[HWA.out];exact an.newAt _ _ _ _ (by simp)
  have c4:w2.cell? ⟨w.heap.size+2,0,none⟩=some (ak (w.heap.size+1)):=((hb4.kept k3 (fun e=>by have e:w.heap.size+2=w.heap.size+1:=e;omega)).kept k2 (fun e=>by have e:w.heap.size+2=wA.heap.size:=e;omega)).cell 0
  clear hk1 h1 hw2 k2 k3 hb4
  go_wp2_with fail
  refine bodyPost_ret (v:=.tuple #[ak (w.heap.size+1),.nilIface]) (by simp[results,Tryz.results12,go_sem]) rfl ⟨HK.out,w.heap.size+1,rfl,by omega,HT2.out⟩
 ·exact h1.elim
def BM(p:Ph)(r:List Pa):Bool:=decide (p.lt.length≤1000)&&decide (p.nt.length≤1000)&&r.all (fun a=>decide (a.text.length≤1000))&&decide (r.length≤1000)&&(!(decide (p.kind=1)&&decide (p.op=0))||decide (r≠[]))
theorem zw{p:Ph}{r:List Pa}(h:BM p r=true):Bx p r:=by
 simp only[BM,Bool.and_eq_true,decide_eq_true_eq,List.all_eq_true,Bool.or_eq_true,Bool.not_eq_true',Bool.and_eq_false_iff,decide_eq_false_iff_not]at h
 obtain⟨⟨⟨⟨h1,h2⟩,h3⟩,h4⟩,h5⟩:=h
 exact⟨by omega,by omega,fun a ha=>by have:=h3 a ha;omega,by omega,fun k=>by
  rcases h5 with h5|h5
  ·rcases h5 with h5|h5
   ·exact absurd k.1 h5
   ·exact absurd k.2 h5
  ·exact h5⟩
mutual
def zu:dx→Bool
 |.mk p r bls=>BM p r&&oP bls&&decide (bls.length≤1000)
def qe:List dx→Bool
 |[]=>true
 |s::l=>zu s&&qe l
def oP:List (List dx)→Bool
 |[]=>true
 |l::ls=>qe l&&decide (l.length≤1000)&&oP ls
end
mutual
theorem xG:∀s,zu s=true→rq s
 |.mk p r bls,h=>by
  simp only[zu,Bool.and_eq_true,decide_eq_true_eq]at h
  rw[rq]
  exact⟨zw h.1.1,nX bls h.1.2,by omega⟩
theorem mi:∀l,qe l=true→fJ l
 |[],_=>by rw[fJ];trivial
 |s::l,h=>by
  simp only[qe,Bool.and_eq_true]at h
  rw[fJ]
  exact⟨xG s h.1,mi l h.2⟩
theorem nX:∀l,oP l=true→km l
 |[],_=>by rw[km];trivial
 |l::ls,h=>by
  simp only[oP,Bool.and_eq_true,decide_eq_true_eq]at h
  rw[km]
  exact⟨⟨mi l h.1.1,by omega⟩,nX ls h.2⟩
end
def vG(l:List Pd):Bool:=l.all (fun d=>decide (d.kind< 3)&&decide (d.name.length≤1000)&&d.params.all (fun a=>decide (a.text.length≤1000))&&decide (d.params.length≤1000)&&qe d.body&&decide (d.body.length≤1000))&&decide (l.length≤1000)
theorem xJ{l:List Pd}(h:vG l=true):oz l:=by
 simp only[vG,Bool.and_eq_true,decide_eq_true_eq,List.all_eq_true]at h
 obtain⟨h,hl⟩:=h
 refine⟨fun d hd=>?_,fun d hd=>?_,fun d hd=>?_,by omega,fun l1 f c he t m hf=>?_⟩
 ·have:=h d hd;exact⟨by omega,by omega⟩
 ·have:=h d hd;exact⟨fun a ha=>by have:=this.1.1.1.2 a ha;omega,by omega⟩
 ·have:=h d hd;exact⟨mi _ this.1.2,by omega⟩
 ·obtain⟨k1,k2⟩:=uF he (fun t m ht=>by cases ht)
  unfold cy at hf
  cases hx:f t with
  |none=>rw[hx]at hf;cases hf
  |some x=>
   obtain⟨k,m'⟩:=x
   rw[hx]at hf
   simp only at hf
   split at hf
   ·rename_i e
    cases hf
    subst e
    have:=k2 t m hx
    omega
   ·cases hf
end
end Go.Proofs.YtmdaflepdaiabaaGreatDoor
