import Derived.BigRegion
import Derived.Test.YtmdaflepdaiabaaGreatDoorQ08
set_option linter.unusedSimpArgs false
set_option linter.unusedVariables false
namespace Go.Proofs.YtmdaflepdaiabaaGreatDoor
section
set_option maxRecDepth 100000
set_option maxHeartbeats 4000000
open Go.RowKit Go.Maps
theorem rg:(Tryz.prog.info? 91).map (fun i=>(i.zero,i.size,i.bytes))=some (some (.pointer none),1,8):=by kernel_rfl
def yR(w w':World)(bn bm bp bc bk:Nat)(F:Nat→Nat→Prop)(bds:List Nat)(l:List Pd)(r:Ending):Prop:=
 ae (Av bn bm F) w w'∧((∃l1 f c fs fv,cq (fun _=>none) (fun _=>0) l=.ok (l1,f,c)∧r=.returned (.tuple #[])∧DI w w' bn bm bp bc bk F bds (cq (fun _=>none) (fun _=>0) l) l1 [] f c (dk 0 l1) fs fv)∨(∃e a,cq (fun _=>none) (fun _=>0) l=.error (e,a)∧cc w' r e a))
theorem zY{w:World}{bn bm bp:Nat}{F:Nat→Nat→Prop}{bds:List Nat}{l:List Pd}{dv:Value}{P':Nat→Prop}(hnb:an w bn (tu bp bm aN 0 0))(hth:dc w bm 0 (fun _=>none))(hpb:an w bp #[dv,aN])(hrow:cA w P' 84 1 dv bds.length (dW bds))(hdl:DL w F bds l)(g:DF w bn bm w.heap.size (w.heap.size+1) F)(hkd:∀d∈l,d.kind< 3∧d.name.length≤1000000)(hpp:¬Av bn bm F bp)(hpr:∀i,P' i→¬Av bn bm F i)(hlen:bds.length≤1000000):
  Calls Tryz.prog 28 #[.pointer (some ⟨bn,0,none⟩)] w fun r w'=>yR w w' bn bm bp w.heap.size (w.heap.size+1) F bds l r:=by
 obtain⟨i0,hi,hz0,hz1,hz2⟩:=info_parts rg
 obtain⟨pv,cv,rfl⟩:=ai hrow.1
 have HG:=aa g
 have HROW:=aa hrow
 have HPR:=aa hpr
 have hnl:=g.nl
 have c0:w.cell? ⟨bn,0,none⟩=some (ak bp):=hnb.cell 0
 have cp0:w.cell? ⟨bp,0,none⟩=some (.slice pv bds.length cv):=hpb.cell 0
 have hpl:=hpb.lt
 have HI:Hid (DI w ((w.alloc (.cells #[.int .i64 0,.int .i64 0,.int .i64 0] 127)).alloc (.cells #[.int .i64 5,.int .i64 3,.int .i64 5] 127)) bn bm bp w.heap.size (w.heap.size+1) F bds (cq (fun _=>none) (fun _=>0) l) [] l (fun _=>none) (fun _=>0) [] [] aN):=by
  have k:ae (fun _=>False) w ((w.alloc (.cells #[.int .i64 0,.int .i64 0,.int .i64 0] 127)).alloc (.cells #[.int .i64 5,.int .i64 3,.int .i64 5] 127)):=((ae.refl _ w).alloc _).alloc _
  refine⟨hnb.kept k (fun e=>e),hth.kept k (fun e=>e),(an.new w _ _).alloc _,an.newAt _ _ _ _ (by simp),hdl.keep k (fun j i hi=>⟨(g.fo j i hi).1,fun e=>e⟩),⟨World.ownsRow_nil _ _ _ _,fun x hx=>by simp at hx,by simp[mD],fun i hi=>by simp[mD]at hi,rfl,fun j k x h=>by simp at h⟩,fun x hx=>by simp at hx,?_,k.mono (fun _ e=>e.elim),fun j hj=>Nat.zero_le _,hkd⟩
  cases cq (fun _=>none) (fun _=>0) l with
  |error e=>rfl
  |ok x=>simp
 clear hnb hth hpb hrow hdl g hkd hpp hpr
 go_enter Tryz.func28,Tryz.ntmps28
 go_wp2_with fail
 clear c0 cp0
 go_loopw [17] (fun i wr=>∃(done rest:List Pd) (f:aj→Option (Nat×Nat)) (c:Nat→Nat) (fs:List Fn) (fv:Value),i=.int .i64 done.length∧Hid (DI w wr bn bm bp w.heap.size (w.heap.size+1) F bds (cq (fun _=>none) (fun _=>0) l) done rest f c (dk 0 done) fs fv)) (fun i _=>bds.length-(intOf i).toNat)
 case atStart=>exact⟨[],l,_,_,[],aN,rfl,HI⟩
 case round=>
  obtain⟨done,rest,f,c,fs,fv,rfl,HR⟩:=hrel
  have hdl:=HR.out.dl.len
  rcases rest with _|⟨d,rest⟩
  ·have hkl:¬((done.length:Int)< (bds.length:Int)):=by simp at hdl;omega
   have HEQ:Hid (cq (fun _=>none) (fun _=>0) l=.ok (done,f,c)):=by show _=_;rw[HR.out.eq,cq];simp
   clear hdl
   go_wp2_with fail
   first|go_end0|refine bodyPost_ret (results_none rfl _ _ _) rfl ?_
   exact⟨HR.out.kp,Or.inl ⟨done,f,c,fs,fv,HEQ.out,rfl,HR.out⟩⟩
  ·have hkn:done.length< bds.length:=by simp at hdl;omega
   have hkl:(done.length:Int)< (bds.length:Int):=by omega
   clear hdl
   obtain⟨gv,rfl⟩:∃gv,pv=some ⟨gv,0,none⟩:=by
    obtain⟨g,c,e⟩:=aG HROW.out.1 (by omega)
    cases e;exact⟨g,rfl⟩
   obtain⟨bd,hbd⟩:∃bd,bds[done.length]?=some bd:=⟨_,List.getElem?_eq_getElem hkn⟩
   have hcell:wr.cell? ⟨gv,done.length,none⟩=some (ak bd):=by
    rw[HR.out.kp.cell (p:=⟨gv,done.length,none⟩) (HROW.out.1.lt gv rfl).2 (HPR.out gv (HROW.out.2 gv rfl))]
    rw[HROW.out.1.cellAt _ (by omega)]
    simp[dW,hbd]
   have hcell':wr.cell? ⟨gv,done.length*1,none⟩=some (ak bd):=by rw[Nat.mul_one];exact hcell
   obtain⟨sp,sb,bb,Qd,hFd,hB,hrest⟩:=HR.out.dl.rep done.length bd d hbd (by simp)
   have HBD:=aa hbd
   have hkd:=HR.out.kd d (by simp)
   have hk3:d.kind< 3:=hkd.1
   have hsz:d.name.length≤1000000:=hkd.2
   have t0:wr.cell? ⟨bd,0,none⟩=some (.int .i64 d.kind):=hB.cell 0
   have t1:wr.cell? ⟨bd,1,none⟩=some (.string ⟨d.name.toArray⟩):=hB.cell 1
   have t2:wr.cell? ⟨bd,2,none⟩=some (.int .i64 d.at_):=hB.cell 2
   have t3:wr.cell? ⟨bd,3,none⟩=some (.int .i64 d.num):=hB.cell 3
   have tf:=hB.fz
   have hbl:=hB.lt
   have hbo:=HG.out.fo _ _ hFd
   have n1:bd≠bn:=hbo.2.1
   have n2:bd≠bm:=hbo.2.2
   have n3:bd≠w.heap.size:=by omega
   have n4:bd≠w.heap.size+1:=by omega
   have n5:bn≠bm:=HG.out.nm
   have n6:bm≠w.heap.size:=by have:=HG.out.ml;omega
   have c1:wr.cell? ⟨bn,1,none⟩=some (.map (some bm)):=HR.out.nb.cell 1
   have hbn:bn< wr.heap.size:=HR.out.nb.lt
   have hk012:d.kind=0∨d.kind=1∨d.kind=2:=by omega
   have q0:wr.cell? ⟨w.heap.size,d.kind,none⟩=some (.int .i64 (c d.kind)):=by rw[HR.out.cb.cell];rcases hk012 with e|e|e<;>rw[e]<;>rfl
   have q1:wr.cell? ⟨w.heap.size+1,d.kind,none⟩=some (.int .i64 (iS d.kind)):=by rw[HR.out.mb.cell];rcases hk012 with e|e|e<;>rw[e]<;>rfl
   have q0':wr.cell? ⟨w.heap.size,d.kind*1,none⟩=some (.int .i64 (c d.kind)):=by rw[Nat.mul_one];exact q0
   have q1':wr.cell? ⟨w.heap.size+1,d.kind*1,none⟩=some (.int .i64 (iS d.kind)):=by rw[Nat.mul_one];exact q1
   have qf:∀j,wr.frozen? ⟨w.heap.size,j,none⟩=false:=HR.out.cb.fz
   have ql:w.heap.size< wr.heap.size:=HR.out.cb.lt
   have ql1:w.heap.size+1< wr.heap.size:=HR.out.mb.lt
   have hcl:=HR.out.cl d.kind hk3
   have hm5:iS d.kind≤5:=by unfold iS;split<;>omega
   clear hB hrest hFd hbo hkd hk012
   have e0:=(HR.out.th.move (w':=wr.drew) rfl).look ⟨d.name.toArray⟩ hsz
   have k1:=ae.of_below (S:=fun _=>False) ((Below.refl wr.heap.size wr).alloc (Nat.le_refl _) (.cells #[.int .i64 0,.int .i64 0] 129))
   have e2:=((HR.out.th.kept k1 (fun e=>e)).move (w':=(wr.alloc (.cells #[.int .i64 0,.int .i64 0] 129)).drew) rfl).look ⟨d.name.toArray⟩ hsz
   have HPE:Hid (cq f c (d::rest)=if(f d.name).isSome=true then .error (7,d.at_)else if c d.kind=iS d.kind then .error (8,d.at_)else match cq (putF f d.name (d.kind,c d.kind)) (my c d.kind) rest with|.error e=>.error e|.ok (l',f',c')=>.ok ({d with num:=c d.kind}::l',f',c')):=by show _=_;rw[cq];rfl
   cases hf:f d.name with
   |some x=>
    have hff:f (ByteArray.mk d.name.toArray).data.toList=some x:=hf
    rw[hff]at e0 e2
    simp only[Option.getD_some,Option.isSome_some]at e0 e2
    unfold dJ at e0 e2
    have HEQ:Hid (cq (fun _=>none) (fun _=>0) l=.error (7,d.at_)):=by show _=_;rw[HR.out.eq,HPE.out,if_pos (by rw[hf];rfl)]
    clear hf hff k1
    go_wp2_with fail
    go_region
    all_goals
     go_wp2_with fail
     refine(bo 7 d.at_ _).mono ?_
     rintro e w2 ⟨⟨b2,rfl,h3⟩,h4⟩
     replace h3:=aa h3
     replace h4:=aa h4
     go_wp2_with fail
     refine⟨rfl,HR.out.kp.below ?_,Or.inr ⟨7,d.at_,HEQ.out,b2,rfl,h3.out⟩⟩
     have h5:=((Below.refl wr.heap.size wr).alloc (Nat.le_refl _) (vc x)).drew
     exact h5.trans (h4.out.mono (by simp))
   |none=>
    have hff:f (ByteArray.mk d.name.toArray).data.toList=none:=hf
    rw[hff]at e0 e2
    simp only[Option.getD_none,Option.isSome_none]at e0 e2
    unfold dJ at e0 e2
    by_cases hcm:c d.kind=iS d.kind
    ·have hcb:((c d.kind:Int)==(iS d.kind:Int))=true:=by rw[beq_iff_eq];omega
     have HEQ:Hid (cq (fun _=>none) (fun _=>0) l=.error (8,d.at_)):=by show _=_;rw[HR.out.eq,HPE.out,if_neg (by rw[hf];simp),if_pos hcm]
     clear hf hff k1 hcm hcl hm5
     go_wp2_with fail
     go_region
     all_goals
      go_wp2_with fail
      go_region
      all_goals
       go_wp2_with fail
       refine(bo 8 d.at_ _).mono ?_
       rintro e w2 ⟨⟨b2,rfl,h3⟩,h4⟩
       replace h3:=aa h3
       replace h4:=aa h4
       go_wp2_with fail
       refine⟨rfl,HR.out.kp.below ?_,Or.inr ⟨8,d.at_,HEQ.out,b2,rfl,h3.out⟩⟩
       have h5:=((Below.refl wr.heap.size wr).alloc (Nat.le_refl _) (.cells #[.int .i64 0,.int .i64 0] 129)).drew.drew
       exact h5.trans (h4.out.mono (by simp))
    ·have hcb:((c d.kind:Int)==(iS d.kind:Int))=false:=by rw[beq_eq_false_iff_ne];omega
     have kk:ae (fun i=>i=bd) wr ((jr (wr.setCell ⟨bd,3,none⟩ (.int .i64 (c d.kind)))).drew):=((((((ae.refl (fun i=>i=bd) wr).setCell (p:=⟨bd,3,none⟩) (Or.inl rfl) _).alloc _).drew).drew).drew)
     obtain⟨w9,e5,h9,ht9⟩:=(HR.out.th.kept kk (fun e=>n2 e.symm)).store ⟨d.name.toArray⟩ hsz (by omega) (d.kind,c d.kind)
     have HM:=aa (HR.out.mid HG.out hbd hf hcm ht9 h9 ((c d.kind:Int)+1) rfl)
     have k9:ae (fun i=>i=bd∨i=bm) wr w9:=ae.grown (kk.mono (T:=fun i=>i=bd∨i=bm) (fun _ e=>Or.inl e)) ht9.grown (fun k hk=>by cases hk;exact Or.inl (Or.inr rfl))
     have q9:w9.cell? ⟨w.heap.size,d.kind,none⟩=some (.int .i64 (c d.kind)):=by rw[k9.cell (p:=⟨w.heap.size,d.kind,none⟩) ql (fun e=>by rcases e with e|e;exact n3 e.symm;exact n6 e.symm)];exact q0
     have q9':w9.cell? ⟨w.heap.size,d.kind*1,none⟩=some (.int .i64 (c d.kind)):=by rw[Nat.mul_one];exact q9
     have qf9:∀j,w9.frozen? ⟨w.heap.size,j,none⟩=false:=fun j=>by rw[k9.frozen (p:=⟨w.heap.size,j,none⟩) ql (fun e=>by rcases e with e|e;exact n3 e.symm;exact n6 e.symm)];exact qf j
     have hkt:∃sr sb,an w9 bd (ke {d with num:=c d.kind} sr sb):=by
      obtain⟨sp,sb,bb,Qd,hFd,hB,hrest⟩:=HR.out.dl.rep done.length bd d hbd (by simp)
      have kb:ae (fun i=>i=bm) (wr.setCell ⟨bd,3,none⟩ (.int .i64 (c d.kind))) w9:=ae.grown (((((ae.refl (fun i=>i=bm) _).alloc _).drew).drew).drew) ht9.grown (fun k hk=>by cases hk;exact Or.inl rfl)
      exact⟨sp,sb,(hB.set 3 _ (show 3< 7 by decide)).kept kb n2⟩
     obtain⟨sp,sb,hB9⟩:=hkt
     have hB10:=hB9.setO w.heap.size d.kind (.int .i64 ((c d.kind:Int)+1)) n3
     have t9:w9.cell? ⟨bd,0,none⟩=some (.int .i64 d.kind):=hB9.cell 0
     have t10:(w9.setCell ⟨w.heap.size,d.kind,none⟩ (.int .i64 ((c d.kind:Int)+1))).cell? ⟨bd,0,none⟩=some (.int .i64 d.kind):=hB10.cell 0
     unfold dJ at e5
     have HNF:=aa hcm
     have hc5:c d.kind≤5:=by omega
     have u2:(w9.setCell ⟨w.heap.size,d.kind,none⟩ (.int .i64 ((c d.kind:Int)+1))).cell? ⟨bn,2,none⟩=some fv:=HM.out.nb.cell 2
     have uf:=HM.out.nb.fz
     have ul:=HM.out.nb.lt
     obtain⟨w10,hw10⟩:∃x,x=w9.setCell ⟨w.heap.size,d.kind,none⟩ (.int .i64 ((c d.kind:Int)+1)):=⟨_,rfl⟩
     rw[←hw10]at HM t10 u2 uf ul
     have HW10:=aa hw10
     clear hf hff k1 hcm hcl kk h9 ht9 k9 hB9 hB10 hw10
     go_wp2_with fail
     go_region
     all_goals
      go_wp2_with fail
      go_region
      all_goals
       go_upto_region 11 with fail
       go_cut [17]from 17 to 115 (fun s17 wx=>s17=.int .i64 done.length∧wx=w9)
       case first=>
        go_wp2_with fail
        go_region
        all_goals
         go_wp2_with fail
         go_meet
         exact⟨rfl,rfl⟩
       case rest=>
       obtain⟨rfl,rfl⟩:=hcut
       by_cases hk2:d.kind=2
       ·have hkb:((d.kind:Int)==2)=true:=by rw[beq_iff_eq];omega
        have HK2:=aa hk2
        have HWR:=HW10
        obtain⟨pw,cw,rfl⟩:=ai HM.out.fl.own
        have hown:=HM.out.fl.own
        have hfl:fs.length≤1000000:=by
         have h1:=HM.out.fl.len
         have h2:=jX done 0
         have h3:(gY done).length≤done.length:=by unfold gY;rw[List.length_map];exact List.length_filter_le _ _
         omega
        have hbk:w.heap.size+1+1≤w10.heap.size:=by have:=HM.out.mb.lt;omega
        clear hk2
        rw[HW10.out]at t10 u2 uf ul hown hbk HM
        generalize hw10:wc.setCell ⟨w.heap.size,d.kind,none⟩ (.int .i64 ((c d.kind:Int)+1))=w11 at *
        have hmk:(Instr.makeMap 100 none).run Tryz.prog w11=.ok (.map (some w11.heap.size)) (w11.alloc (.map #[] 0)):=rfl
        have hnw:¬Value.ownBlock (.slice pw fs.length cw)=some bn:=fun e=>by have:=(hown.lt bn e).1;omega
        have HKG:Hid (∀w4,(((w11.alloc (.map #[] 0)).alloc (.cells #[ak bd,.map (some w11.heap.size)] 102)).alloc (.cells #[ak (w11.heap.size+1)] 91)).grownBy w4 (Value.ownBlock (.slice pw fs.length cw))→ae (fun i=>Value.ownBlock (.slice pw fs.length cw)=some i) (((w11.alloc (.map #[] 0)).alloc (.cells #[ak bd,.map (some w11.heap.size)] 102)).alloc (.cells #[ak (w11.heap.size+1)] 91)) w4):=fun w4 hg=>(ae.refl _ _).grown hg (fun k hk=>Or.inl hk)
        have HVG:Hid (∀w4,ae (fun i=>Value.ownBlock (.slice pw fs.length cw)=some i) (((w11.alloc (.map #[] 0)).alloc (.cells #[ak bd,.map (some w11.heap.size)] 102)).alloc (.cells #[ak (w11.heap.size+1)] 91)) w4→w4.cell? ⟨bn,2,none⟩=some (.slice pw fs.length cw)∧∀j,w4.frozen? ⟨bn,j,none⟩=false):=fun w4 hk4=>by
         have hB4:an w4 bn (tu bp bm (.slice pw fs.length cw) 0 0):=(((HM.out.nb.alloc _).alloc _).alloc _).kept hk4 hnw
         exact⟨hB4.cell 2,hB4.fz⟩
        clear hnw
        go_wp2_with (at_builtin;refine aq rfl _ _ 88 rfl (w.heap.size+1+1) 91 i0 (.pointer none) 1 8 Tryz.underlying88 hi hz0 hz1 hz2 rfl (by decide) _ _ _ rfl (((hown.alloc _).alloc _).alloc _) ⟨w11.heap.size+2,0,none⟩ 1 1 [ak (w11.heap.size+1)] rfl rfl (aF _ _ _ _ (by simp)) (by intro u hu;simp at hu;subst hu;rfl) (by decide) (by unfold maxLen;omega) (by omega) (by simp;omega) ?_;intro l4 w4 hown4 hgrow4 hwh4;obtain⟨p3,c3,rfl⟩:=ai hown4;have hk4:=HKG.out w4 hgrow4;obtain⟨v2,vf⟩:=HVG.out w4 hk4;replace hk4:=aa hk4;replace hown4:=aa hown4;replace hwh4:=aa hwh4;clear hgrow4)
        have HM3:Hid (DI w (w4.setCell ⟨bn,2,none⟩ (.slice p3 (fs.length+1) c3)) bn bm bp w.heap.size (w.heap.size+1) F bds (cq (fun _=>none) (fun _=>0) l) (done++[{d with num:=c d.kind}]) rest (putF f d.name (d.kind,c d.kind)) (my c d.kind) (dk 0 (done++[{d with num:=c d.kind}])) (fs++[⟨w11.heap.size+1,w11.heap.size,bd⟩]) (.slice p3 (fs.length+1) c3)):=by
         show DI _ _ _ _ _ _ _ _ _ _ _ _ _ _ _ _ _
         rw[om,if_pos HK2.out,Nat.zero_add]
         exact HM.out.fun HG.out HBD.out hk4.out (by simpa using hown4.out) (by rcases hwh4.out with h|h;exact Or.inl h;exact Or.inr ⟨_,h,by simp⟩)
        clear HM
        go_roundw
        case rel=>exact⟨done++[{d with num:=c d.kind}],rest,_,_,fs++[⟨w11.heap.size+1,w11.heap.size,bd⟩],_,by simp,by simpa using HM3⟩
        case measure=>simp[intOf];omega
       ·have hkb:((d.kind:Int)==2)=false:=by rw[beq_eq_false_iff_ne];omega
        have HM2:Hid (DI w w10 bn bm bp w.heap.size (w.heap.size+1) F bds (cq (fun _=>none) (fun _=>0) l) (done++[{d with num:=c d.kind}]) rest (putF f d.name (d.kind,c d.kind)) (my c d.kind) (dk 0 (done++[{d with num:=c d.kind}])) fs fv):=by
         show DI _ _ _ _ _ _ _ _ _ _ _ _ _ _ _ _ _
         rw[om,if_neg hk2,List.append_nil]
         exact HM.out
        clear hk2 HM
        rw[HW10.out]at HM2 t10
        go_wp2_with fail
        go_roundw
        case rel=>exact⟨done++[{d with num:=c d.kind}],rest,_,_,fs,fv,by simp,HM2⟩
        case measure=>simp[intOf];omega
end
section
open Go.RowKit Go.Maps
theorem Bd{w:World}{bn bm n bf bl bd:Nat}{f:aj→Option (Nat×Nat)}{P:Nat→Prop}{d:Pd}(hn:NM w bn bm n f)(hb:an w bf #[ak bd,.map (some bl)])(hl:dF w bl 0 (fun _=>none))(hd:iG w P bd d)(hP:∀i,P i→i< w.heap.size∧i≠bn∧i≠bm∧i≠bf∧i≠bl)(h1:bn≠bl)(h2:bm≠bl)(h3:bf≠bl)(hz:∀a,a∈d.params→a.text.length≤1000000)(hpl:d.params.length≤1000000):
  Calls Tryz.prog 29 #[.pointer (some ⟨bn,0,none⟩),.pointer (some ⟨bf,0,none⟩)] w fun r w'=>ae (fun i=>i=bl∨P i) w w'∧((∃ps' l',fe f ⟨fun _=>none,0⟩ 0 d.params=.ok (ps',l')∧r=.returned (.tuple #[])∧iG w' P bd {d with params:=ps'}∧dF w' bl l'.c l'.g∧ps'.length=d.params.length∧l'.c≤6)∨(∃e a,fe f ⟨fun _=>none,0⟩ 0 d.params=.error (e,a)∧cc w' r e a)):=by
 obtain⟨sp,sb,bb,Q,g1,g2,g3,g4,g5,g6⟩:=hd
 have c4:w.cell? ⟨bd,4,none⟩=some sp:=g2.cell 4
 by_cases hp0:d.params=[]
 ·rw[hp0]at g3
  obtain⟨pp,cg,rfl⟩:=ai g3.1
  refine(qx (bn:=bn) (hb.cell 0) c4).mono ?_
  rintro r w' ⟨rfl,rfl⟩
  refine⟨ae.refl _ _,Or.inl ⟨[],⟨fun _=>none,0⟩,by rw[hp0];rfl,rfl,⟨_,sb,bb,Q,g1,g2,g3,g4,g5,g6⟩,hl,by rw[hp0],Nat.zero_le _⟩⟩
 ·have hne:d.params.length≠0:=fun e=>hp0 (List.length_eq_zero_iff.1 e)
  obtain⟨g,cg,rfl⟩:=aG g3.1 hne
  have hg:=hP g (g3.2 g rfl)
  have hI:PI w w bn bm n bf bl g cg f (fe f ⟨fun _=>none,0⟩ 0 d.params) d.params [] d.params ⟨fun _=>none,0⟩:=⟨hn,hb.cell 1,hl,by simpa using g3.1,ae.refl _ _,by simp only[List.length_nil,List.nil_append];cases fe f ⟨fun _=>none,0⟩ 0 d.params with|ok x=>rfl|error e=>rfl,by simp,rfl,by simp⟩
  refine(xY hI hg.2.2.2.2 (fun e=>hg.2.1 e.symm) h1 (fun e=>hg.2.2.1 e.symm) h2 (fun e=>hg.2.2.2.1 e.symm) h3 (hb.cell 0) c4 hz hpl).mono ?_
  rintro r w' ⟨hk,hx⟩
  refine⟨hk.mono (fun i e=>e.elim Or.inl (fun e=>Or.inr (by rw[e];exact g3.2 g rfl))),?_⟩
  rcases hx with⟨ps',l',e1,e2,hi⟩|hx
  ·have hlen:ps'.length=d.params.length:=by have:=hi.len;simpa using this
   have hb1:bd≠bl:=(hP bd g1).2.2.2.2
   have hb2:bd≠g:=fun e=>g6.rb (by rw[e];rfl)
   have nS:∀i,P i→i≠g→¬(i=bl∨i=g):=fun i hi hn e=>e.elim (hP i hi).2.2.2.2 hn
   refine Or.inl ⟨ps',l',e1,e2,⟨.slice (some ⟨g,0,none⟩) d.params.length cg,sb,bb,Q,g1,g2.kept hk (nS bd g1 hb2),⟨?_,g3.2⟩,⟨aL g4.1 hk (fun i e=>nS i (g4.2 i e) (fun x=>g6.rs g rfl (by rw[←x];exact e))),g4.2⟩,g5.keep hk (fun i hi=>⟨(hP i (g6.q i hi).1).1,nS i (g6.q i hi).1 (fun x=>(g6.q i hi).2.2.1 (by rw[x];rfl)),hi⟩),g6⟩,hi.lc,hlen,by have:=hi.cl;have:=hi.l3;omega⟩
   have:=hi.row
   rw[←hlen]at this⊢
   simpa using this
  ·exact Or.inr hx
structure PF(bn bm bp B:Nat)(F:Nat→Nat→Prop)(ks:List Nat)(fs:List Fn):Prop where
 nm:bn≠bm
 np:bn≠bp
 mp:bm≠bp
 dj:Dj F
 fo:∀k i,F k i→i< B∧i≠bn∧i≠bm∧i≠bp
 nl:bn< B
 ml:bm< B
 pl:bp< B
 nd:ks.Nodup
 ge:∀i∈mD fs,B≤i
 fn:(mD fs).Nodup
theorem Fn.apart{fs:List Fn}(h:(mD fs).Nodup){i j:Nat}{x y:Fn}(hx:fs[i]?=some x)(hy:fs[j]?=some y):x.bf≠y.bl∧(i≠j→x.bl≠y.bl∧x.bf≠y.bf):=by
 induction fs generalizing i j with
 |nil=>simp at hx
 |cons a fs ih=>
  have h':(a.bf::a.bl::mD fs).Nodup:=h
  rw[List.nodup_cons,List.nodup_cons]at h'
  obtain⟨n1,n2,n3⟩:=h'
  simp only[List.mem_cons,not_or]at n1
  cases i with
  |zero=>
   simp at hx;subst hx
   cases j with
   |zero=>simp at hy;subst hy;exact⟨n1.1,fun e=>absurd rfl e⟩
   |succ j=>
    have hm:=dp (List.mem_of_getElem? (by simpa using hy:fs[j]?=some y))
    exact⟨fun e=>n1.2 (e▸hm.2),fun _=>⟨fun e=>n2 (e▸hm.2),fun e=>n1.2 (e▸hm.1)⟩⟩
  |succ i=>
   have hx:fs[i]?=some x:=by simpa using hx
   have hm:=dp (List.mem_of_getElem? hx)
   cases j with
   |zero=>simp at hy;subst hy;exact⟨fun e=>n2 (e▸hm.1),fun _=>⟨fun e=>n2 (e▸hm.2),fun e=>n1.2 (e▸hm.1)⟩⟩
   |succ j=>have:=ih n3 hx (by simpa using hy:fs[j]?=some y);exact⟨this.1,fun e=>this.2 (fun z=>e (by rw[z]))⟩
structure sS(w wr:World)(bn bm bp n B:Nat)(f:aj→Option (Nat×Nat))(F:Nat→Nat→Prop)(bds ks:List Nat)(fs:List Fn)(fv:Value)(R:Except (Nat×Nat) (List Pd×List Lc))(j:Nat)(l:List Pd)(lcs:List Lc):Prop where
 nb:an wr bn (tu bp bm fv 0 0)
 th:dc wr bm n f
 dl:DL wr F bds l
 fl:FL wr B bds ks fs fv
 l1:∀(i:Nat) (x:Fn) (c:Lc),fs[i]?=some x→lcs[i]?=some c→dF wr x.bl c.c c.g∧c.c≤6
 l2:∀(i:Nat) (x:Fn),j≤i→fs[i]?=some x→dF wr x.bl 0 (fun _=>none)
 len:lcs.length=j
 hz:∀(k:Nat) (d:Pd),l[k]?=some d→(∀a,a∈d.params→a.text.length≤1000000)∧d.params.length≤1000000
 eq:R=match eU f (ks.drop j) l with|.error e=>.error e|.ok (l',m)=>.ok (l',lcs++m)
 kp:ae (fun i=>i∈mD fs∨∃k,F k i) w wr
theorem nY{f:aj→Option (Nat×Nat)}(ps:List Pn):∀{l l':Lc} {i:Nat} {ps':List Pn},fe f l i ps=.ok (ps',l')→ps'.map (·.text)=ps.map (·.text):=by
 induction ps with
 |nil=>intro l l' i ps' h;rw[fe]at h;cases h;rfl
 |cons a ps ih=>
  intro l l' i ps' h
  rw[fe]at h
  split at h
  ·cases h
  ·split at h
   ·cases h
   ·split at h
    ·cases h
    ·rename_i r' l2 hq
     cases h
     simp[ih hq]
theorem sS.next{w wr w':World}{bn bm bp n B:Nat}{f:aj→Option (Nat×Nat)}{F:Nat→Nat→Prop}{bds ks:List Nat}{fs:List Fn}{fv:Value}{R:Except (Nat×Nat) (List Pd×List Lc)}{j k:Nat}{l:List Pd}{lcs:List Lc}{x:Fn}{d:Pd}{ps':List Pn}{l':Lc}(h:sS w wr bn bm bp n B f F bds ks fs fv R j l lcs)(g:PF bn bm bp B F ks fs)(hx:fs[j]?=some x)(hk:ks[j]?=some k)(hd:l[k]?=some d)
  (k0:ae (fun i=>i=x.bl∨F k i) wr w') (e1:fe f ⟨fun _=>none,0⟩ 0 d.params=.ok (ps',l')) (hr:iG w' (F k) x.bd {d with params:=ps'}) (hl:dF w' x.bl l'.c l'.g) (hlen:ps'.length=d.params.length) (h6:l'.c≤6):
  sS w w' bn bm bp n B f F bds ks fs fv R (j+1) (l.set k {d with params:=ps'}) (lcs++[l']):=by
 have hxm:=List.mem_of_getElem? hx
 have hxb:=dp hxm
 have hbl:=g.ge _ hxb.2
 have hno:∀i,i< B→(∀k,¬F k i)→¬(i=x.bl∨F k i):=fun i hi hn e=>by
  rcases e with e|e
  ·omega
  ·exact hn k e
 have hfl:=h.fl.ge
 have hFB:∀k i,F k i→i< B:=fun k i e=>(g.fo k i e).1
 have hkl:k< l.length:=(List.getElem?_eq_some_iff.1 hd).1
 have nbf:∀y∈fs,¬(y.bf=x.bl∨F k y.bf):=fun y hy e=>by
  obtain⟨i,hi,e2⟩:=List.getElem_of_mem hy
  have hy':fs[i]?=some y:=by rw[List.getElem?_eq_getElem hi,e2]
  rcases e with e|e
  ·exact(Fn.apart g.fn hy' hx).1 e
  ·have:=hFB k _ e;have:=g.ge _ (dp hy).1;omega
 have lkeep:∀(i:Nat) (y:Fn),i≠j→fs[i]?=some y→¬(y.bl=x.bl∨F k y.bl):=fun i y hij hy e=>by
  rcases e with e|e
  ·exact((Fn.apart g.fn hy hx).2 hij).1 e
  ·have:=hFB k _ e;have:=g.ge _ (dp (List.mem_of_getElem? hy)).2;omega
 refine⟨h.nb.kept k0 (hno bn g.nl (fun k e=>(g.fo k bn e).2.1 rfl)),h.th.kept k0 (hno bm g.ml (fun k e=>(g.fo k bm e).2.2.1 rfl)),?_,h.fl.keep k0 nbf (fun i e z=>?_),fun i y c hy hc=>?_,fun i y hij hy=>?_,by simp[h.len],fun i y hy=>?_,?_,h.kp.trans (k0.mono (fun i e=>e.elim (fun e=>Or.inl (by rw[e];exact hxb.2)) (fun e=>Or.inr ⟨k,e⟩)))⟩
 ·have hbd:=h.fl.at_ j k x hk hx
  refine h.dl.set k0 hbd hr (fun m i hm hi=>⟨?_,fun e=>?_⟩)
  ·have:=hFB m i hi
   have h2:=(hfl _ hxb.2)
   omega
  ·rcases e with e|e
   ·have:=hFB m i hi;omega
   ·exact hm (g.dj m k i hi e)
 ·rcases z with z|z
  ·exact(hfl _ hxb.2).2.2 (by rw[←z];exact e)
  ·have:=(h.fl.own.lt i e).1;have:=hFB k i z;omega
 ·by_cases hij:i< lcs.length
  ·rw[List.getElem?_append_left hij]at hc
   have:=h.l1 i y c hy hc
   exact⟨this.1.kept k0 (lkeep i y (by have:=h.len;omega) hy),this.2⟩
  ·rw[List.getElem?_append_right (by omega)]at hc
   have hlt:=(List.getElem?_eq_some_iff.1 hc).1
   simp at hlt
   have hz:i-lcs.length=0:=by omega
   rw[hz]at hc
   simp at hc
   subst hc
   have:i=j:=by have:=h.len;omega
   subst this
   rw[hx]at hy;cases hy
   exact⟨hl,h6⟩
 ·exact(h.l2 i y (by omega) hy).kept k0 (lkeep i y (by omega) hy)
 ·by_cases e:i=k
  ·subst e
   rw[List.getElem?_set_self hkl]at hy
   cases hy
   have:=h.hz i d hd
   refine⟨fun a ha=>?_,by show ps'.length≤_;omega⟩
   have ht:=nY d.params e1
   have:a.text∈d.params.map (·.text):=by rw[←ht];exact List.mem_map_of_mem ha
   obtain⟨b,hb,e⟩:=List.mem_map.1 this
   rw[←e];exact(h.hz i d hd).1 b hb
  ·rw[List.getElem?_set_ne (fun x=>e x.symm)]at hy
   exact h.hz i y hy
 ·have hdr:ks.drop j=k::ks.drop (j+1):=by
   have hlt:=(List.getElem?_eq_some_iff.1 hk).1
   rw[List.drop_eq_getElem_cons hlt,(List.getElem?_eq_some_iff.1 hk).2]
  rw[h.eq,hdr,eU,hd]
  simp only
  unfold xL
  rw[e1]
  simp only
  cases eU f (ks.drop (j+1)) (l.set k {d with params:=ps'})with
  |error e=>rfl
  |ok z=>simp
end
section
open Go.RowKit Go.Maps
def FQ(fs:List Fn)(fv:Value):Nat→Prop:=fun i=>fv.ownBlock=some i∨∃x∈fs,i=x.bf∨i=x.bd
def yQ(np ks:List Nat)(l:List Pd):Prop:=np.length=ks.length∧∀(m k:Nat) (d:Pd),ks[m]?=some k→l[k]?=some d→np[m]?=some d.params.length
theorem yQ.set{np ks:List Nat}{l:List Pd}(h:yQ np ks l){k:Nat}{d d':Pd}(hd:l[k]?=some d)(hp:d'.params.length=d.params.length):yQ np ks (l.set k d'):=⟨h.1,fun m i x hm hx=>by
 by_cases e:i=k
 ·subst e
  rw[List.getElem?_set_self (List.getElem?_eq_some_iff.1 hd).1]at hx
  cases hx
  rw[hp];exact h.2 m i d hm hd
 ·rw[List.getElem?_set_ne (fun z=>e z.symm)]at hx;exact h.2 m i x hm hx⟩
theorem yQ.mk(l:List Pd):yQ (gY l) (dk 0 l) l:=⟨(jX l 0).symm,fun m k d hm hd=>by
 obtain⟨_,d',h1,_,h3⟩:=yg l 0 m k hm
 rw[Nat.sub_zero,hd]at h1
 cases h1;exact h3⟩
theorem sX.of{w:World}{B:Nat}{F:Nat→Nat→Prop}{bds ks:List Nat}{fs:List Fn}{fv:Value}{l:List Pd}{np:List Nat}(hf:FL w B bds ks fs fv)(hd:DL w F bds l)(hn:yQ np ks l):sX w (FQ fs fv) fv np:=by
 obtain⟨pf,cf,e⟩:=ai hf.own
 have hlen:np.length=fs.length:=hn.1.trans hf.len
 refine⟨pf,cf,by rw[e,hlen],fun m k hk=>?_⟩
 have hm:m< fs.length:=by rw[←hlen];exact(List.getElem?_eq_some_iff.1 hk).1
 obtain⟨x,hx⟩:∃x,fs[m]?=some x:=⟨_,List.getElem?_eq_getElem hm⟩
 obtain⟨i,hi⟩:∃i,ks[m]?=some i:=⟨_,List.getElem?_eq_getElem (by rw[hf.len];exact hm)⟩
 have hb:=hf.at_ m i x hi hx
 obtain⟨d,hdd⟩:∃d,l[i]?=some d:=⟨_,List.getElem?_eq_getElem (by rw[←hd.len];exact(List.getElem?_eq_some_iff.1 hb).1)⟩
 have hnp:=hn.2 m i d hi hdd
 rw[hk]at hnp
 cases hnp
 obtain⟨sp,sb,bb,Q,g1,g2,g3,_⟩:=hd.rep i x.bd d hb hdd
 obtain⟨pp,cp,rfl⟩:=ai g3.1
 have hxm:=List.mem_of_getElem? hx
 obtain⟨gf,cg,eg⟩:=aG hf.own (by omega)
 rw[e]at eg
 cases eg
 refine⟨gf,x.bf,x.bd,pp,cp,Or.inl (by rw[e];rfl),Or.inr ⟨x,hxm,Or.inl rfl⟩,Or.inr ⟨x,hxm,Or.inr rfl⟩,rfl,?_,(hf.blk x hxm).cell 0,g2.cell 4⟩
 have ho:=hf.own
 rw[e]at ho
 rw[ho.cellAt _ (by omega)]
 simp[dW,hx]
theorem qn{l:List Nat}(h:l.Nodup){i j a:Nat}(hi:l[i]?=some a)(hj:l[j]?=some a):i=j:=by
 induction l generalizing i j with
 |nil=>simp at hi
 |cons b l ih=>
  rw[List.nodup_cons]at h
  cases i with
  |zero=>cases j with
   |zero=>rfl
   |succ j=>simp at hi hj;subst hi;exact absurd (List.mem_of_getElem? hj) h.1
  |succ i=>cases j with
   |zero=>simp at hi hj;subst hj;exact absurd (List.mem_of_getElem? hi) h.1
   |succ j=>exact congrArg (·+1) (ih h.2 (by simpa using hi) (by simpa using hj))
theorem jt{l:List Nat}{j a m:Nat}(h:l[j]?=some a):m∈l.take (j+1)↔m∈l.take j∨m=a:=by
 rw[List.take_add_one,h];simp
theorem vP{l:List Nat}(h:l.Nodup){j a:Nat}(hj:l[j]?=some a):a∉l.take j:=fun e=>by
 obtain⟨i,hi,e2⟩:=List.getElem_of_mem e
 have hlt:i< j:=by simp at hi;omega
 have:l[i]?=some a:=by rw[←e2];simp
 have:=qn h this hj
 omega
structure pD(w wr:World)(bn bm bp n B B2:Nat)(f:aj→Option (Nat×Nat))(F:Nat→Nat→Prop)(bds ks:List Nat)(fs:List Fn)(fv dv:Value)(np:List Nat)(lcs:List Lc)(R:Except (Nat×Nat) (List Pd×List Ph))(j:Nat)(l:List Pd)(pl news gos:Nat)(lv:Value)(done:List Nat)(hs:List Ph):Prop where
 nb:an wr bn (tu bp bm fv news gos)
 th:dc wr bm n f
 dl:DL wr F bds l
 fl:FL wr B bds ks fs fv
 pb:an wr bp #[dv,lv]
 own:wr.ownsRow B2 133 1 lv done.length (dW done)
 dn:done.length=pl
 p48:pl≤48
 n6:news≤6
 g5:gos≤5
 lo:∀(i:Nat) (x:Fn) (c:Lc),j≤i→fs[i]?=some x→lcs[i]?=some c→dF wr x.bl c.c c.g∧c.c≤6
 npl:yQ np ks l
 hd:fC wr (fun i=>(∃k,k∈ks.take j∧F k i)∧i∉bds) done hs
 hz:∀(i k:Nat) (d:Pd),j≤i→ks[i]?=some k→l[k]?=some d→fJ d.body∧d.body.length≤1000000
 eq:R=match hZ f np ((ks.zip lcs).drop j) pl news gos l with|.error e=>.error e|.ok (l',m)=>.ok (l',hs++m)
 kp:ae (fun i=>i=bn∨i=bp∨i∈mD fs∨(∃k,F k i)∨B2≤i) w wr
 le:B2≤wr.heap.size
structure BF(bn bm bp B B2:Nat)(f:aj→Option (Nat×Nat))(F:Nat→Nat→Prop)(bds ks:List Nat)(fs:List Fn)(fv:Value)(np:List Nat)(lcs:List Lc):Prop where
 pf:PF bn bm bp B F ks fs
 b2:B≤B2
 fb:∀i∈mD fs,i< B2
 fo:∀i,fv.ownBlock=some i→B≤i∧i< B2∧i∉mD fs
 bd:∀x∈fs,∃k,F k x.bd∧bds[k]?=some x.bd
 fm:∀t m,cy f t 2=some m→m< np.length
 few:np.length≤1000000
 ll:lcs.length=ks.length
 bf:∀(k b:Nat),bds[k]?=some b→F k b
section
variable {w wr w':World} {bn bm bp n B B2:Nat} {f:aj→Option (Nat×Nat)} {F:Nat→Nat→Prop} {bds ks:List Nat} {fs:List Fn} {fv dv:Value} {np:List Nat} {lcs:List Lc} {R:Except (Nat×Nat) (List Pd×List Ph)} {j k:Nat} {l:List Pd} {pl news gos:Nat} {lv:Value} {done:List Nat} {hs:List Ph}
abbrev su(bn bm bp n B2:Nat)(f:aj→Option (Nat×Nat))(fs:List Fn)(fv dv:Value)(np:List Nat):Ev:=⟨bn,bm,bp,n,B2,f,FQ fs fv,np,fv,dv⟩
theorem BF.sys(g:BF bn bm bp B B2 f F bds ks fs fv np lcs){x:Fn}(hx:fs[j]?=some x):Bv (su bn bm bp n B2 f fs fv dv np) x.bf x.bl:=by
 have hxm:=List.mem_of_getElem? hx
 have hxb:=dp hxm
 have h1:=g.pf.ge _ hxb.1
 have h2:=g.pf.ge _ hxb.2
 have h3:=g.fb _ hxb.1
 have h4:=g.fb _ hxb.2
 have hn:=g.pf.nl
 have hm:=g.pf.ml
 have hp:=g.pf.pl
 have hb2:=g.b2
 refine⟨g.pf.nm,g.pf.np,by show bn≠x.bl;omega,g.pf.mp,by show bm≠x.bl;omega,by show bp≠x.bl;omega,by show x.bf≠bn;omega,by show x.bf≠bp;omega,(Fn.apart g.pf.fn hx hx).1,⟨by show bn< B2;omega,by show bm< B2;omega,by show bp< B2;omega,h3,h4⟩,fun i hi=>?_,g.fm,g.few⟩
 show i< B2∧i≠bn∧i≠bp∧i≠x.bl
 rcases hi with hi|⟨y,hy,hi|hi⟩
 ·have:=g.fo i hi
  exact⟨this.2.1,by omega,by omega,fun e=>this.2.2 (e▸hxb.2)⟩
 ·have hyb:=dp hy
  have:=g.pf.ge _ hyb.1
  have:=g.fb _ hyb.1
  obtain⟨m,hm,e2⟩:=List.getElem_of_mem hy
  have hy':fs[m]?=some y:=by rw[List.getElem?_eq_getElem hm,e2]
  exact⟨by omega,by omega,by omega,fun e=>(Fn.apart g.pf.fn hy' hx).1 (by rw[←hi];exact e)⟩
 ·obtain⟨m,hm,_⟩:=g.bd y hy
  have:=g.pf.fo m _ hm
  exact⟨by omega,by omega,by omega,by omega⟩
theorem BF.fp(g:BF bn bm bp B B2 f F bds ks fs fv np lcs){x:Fn}(hx:fs[j]?=some x){P:Nat→Prop}(hP:∀i,P i→F k i∧i∉bds):Fp (su bn bm bp n B2 f fs fv dv np) x.bf x.bl P:=fun i hi=>by
 obtain⟨h1,h2⟩:=hP i hi
 have h3:=g.pf.fo k i h1
 have hxb:=dp (List.mem_of_getElem? hx)
 have:=g.pf.ge _ hxb.1
 have:=g.pf.ge _ hxb.2
 have hb2:=g.b2
 show i< B2∧i≠bn∧i≠bm∧i≠bp∧i≠x.bf∧i≠x.bl∧¬FQ fs fv i
 refine⟨by omega,h3.2.1,h3.2.2.1,h3.2.2.2,by omega,by omega,fun e=>?_⟩
 rcases e with e|⟨y,hy,e|e⟩
 ·have:=(g.fo i e).1;omega
 ·have:=g.pf.ge _ (dp hy).1;omega
 ·obtain⟨m,_,h5⟩:=g.bd y hy
  exact h2 (e▸List.mem_of_getElem? h5)
theorem pD.nw(h:pD w wr bn bm bp n B B2 f F bds ks fs fv dv np lcs R j l pl news gos lv done hs)(lc:Lc):NW wr (su bn bm bp n B2 f fs fv dv np) ⟨lc,pl,news,gos⟩ lv done:=
 ⟨⟨h.nb,h.th,sX.of h.fl h.dl h.npl,h.n6,h.g5⟩,h.pb,h.own,h.dn,h.p48,h.le⟩
theorem pD.next{w1:World}{x:Fn}{d:Pd}{c:Lc}{st:St}{b:List dx}{lv2:Value}{L:List Nat}{sp sb:Value}{bb:List Nat}{Q:Nat→Prop}(h:pD w wr bn bm bp n B B2 f F bds ks fs fv dv np lcs R j l pl news gos lv done hs)(g:BF bn bm bp B B2 f F bds ks fs fv np lcs)(hx:fs[j]?=some x)(hk:ks[j]?=some k)(hc:lcs[j]?=some c)(hd:l[k]?=some d)
  (r2:an wr x.bd (ke d sp sb)) (r3:cA wr (F k) 96 3 sp d.params.length (jm d.params)) (r4:cA wr (F k) 133 1 sb bb.length (dW bb)) (r6:zb (F k) Q x.bd sp sb)
  (k1:ae (iD (su bn bm bp n B2 f fs fv dv np) x.bl (fun i=>Q i)) wr w1) (e1:iQ f np ⟨c,pl,news,gos⟩ d.body=.ok (st,b)) (n1:NW w1 (su bn bm bp n B2 f fs fv dv np) st lv2 (done++L)) (t1:bB w1 Q bb b) (d1:fC w1 Q L (eA b)) (hw:w'=(w1.setCell ⟨x.bd,6,none⟩ (.int .i64 st.lc.c)).drew):
  pD w w' bn bm bp n B B2 f F bds ks fs fv dv np lcs R (j+1) (l.set k {d with body:=b,locals:=st.lc.c}) st.pl st.news st.gos lv2 (done++L) (hs++eA b):=by
 subst hw
 have hbdk:bds[k]?=some x.bd:=h.fl.at_ j k x hk hx
 have hFb:F k x.bd:=g.bf k _ hbdk
 have hbo:=g.pf.fo k _ hFb
 have hb2:=g.b2
 have hxm:=List.mem_of_getElem? hx
 have hxb:=dp hxm
 have hxl:=g.pf.ge _ hxb.2
 have hxf:=g.pf.ge _ hxb.1
 have hdb:∀m b',bds[m]?=some b'→m≠k→b'≠x.bd:=fun m b' hm hne e=>hne (g.pf.dj m k x.bd (e▸g.bf m b' hm) hFb)
 have hQn:∀i,Q i→F k i∧i≠x.bd:=fun i hi=>⟨(r6.q i hi).1,(r6.q i hi).2.1⟩
 have hQb:∀i,Q i→i∉bds:=fun i hi hm=>by
  obtain⟨m,hm,e⟩:=List.getElem_of_mem hm
  have hm':bds[m]?=some i:=by rw[List.getElem?_eq_getElem hm,e]
  by_cases hne:m=k
  ·subst hne;rw[hbdk]at hm';cases hm';exact(hQn _ hi).2 rfl
  ·exact hne (g.pf.dj m k i (g.bf m i hm') (hQn i hi).1)
 have nW:∀i,i< B2→i≠bn→i≠bp→i≠x.bl→¬Q i→¬iD (su bn bm bp n B2 f fs fv dv np) x.bl (fun i=>Q i) i:=fun i h1 h2 h3 h4 h5 e=>by
  rcases e with e|e|e|e|e
  ·exact h5 e
  ·exact h2 e
  ·exact h3 e
  ·exact h4 e
  ·have e:B2≤i:=e;omega
 have k2:ae (ao x.bd) w1 ((w1.setCell ⟨x.bd,6,none⟩ (.int .i64 st.lc.c)).drew):=((ae.refl (ao x.bd) w1).set1 6 _).drew
 have hle1:=n1.le
 have nbd:∀i,F k i→i≠x.bd→¬Q i→¬iD (su bn bm bp n B2 f fs fv dv np) x.bl (fun i=>Q i) i:=fun i hi hne hq=>by
  have:=g.pf.fo k i hi
  exact nW i (by omega) this.2.1 this.2.2.2 (by omega) hq
 have nbd0:¬iD (su bn bm bp n B2 f fs fv dv np) x.bl (fun i=>Q i) x.bd:=nW _ (by omega) hbo.2.1 hbo.2.2.2 (by omega) (fun e=>(hQn _ e).2 rfl)
 have hB1:an w1 x.bd (ke d sp sb):=r2.kept k1 nbd0
 have hrepd:iG ((w1.setCell ⟨x.bd,6,none⟩ (.int .i64 st.lc.c)).drew) (F k) x.bd {d with body:=b,locals:=st.lc.c}:=by
  refine⟨sp,sb,bb,Q,hFb,(hB1.set 6 _ (show 6< 7 by decide)).below ((Below.refl _ _).drew),⟨?_,r3.2⟩,⟨?_,r4.2⟩,?_,r6⟩
  ·refine aL (aL r3.1 k1 (fun i e=>nbd i (r3.2 i e) (fun z=>r6.rb (by rw[e,z])) (fun z=>(r6.q i z).2.2.1 e))) k2 (fun i e z=>r6.rb (by rw[e,(z:i=x.bd)]))
  ·refine aL (aL r4.1 k1 (fun i e=>nbd i (r4.2 i e) (fun z=>r6.bb (by rw[e,z])) (fun z=>(r6.q i z).2.2.2 e))) k2 (fun i e z=>r6.bb (by rw[e,(z:i=x.bd)]))
  ·refine t1.keep k2 (fun i hi=>⟨?_,(hQn i hi).2,hi⟩)
   have:=g.pf.fo k i (hQn i hi).1
   have hle1:B2≤w1.heap.size:=hle1
   omega
 have kall:ae (fun i=>iD (su bn bm bp n B2 f fs fv dv np) x.bl (fun i=>Q i) i∨i=x.bd) wr ((w1.setCell ⟨x.bd,6,none⟩ (.int .i64 st.lc.c)).drew):=(k1.mono (fun i e=>Or.inl e)).trans (k2.mono (fun i e=>Or.inr e))
 have nF:∀m i,m≠k→F m i→¬(iD (su bn bm bp n B2 f fs fv dv np) x.bl (fun i=>Q i) i∨i=x.bd):=fun m i hm hi e=>by
  have h3:=g.pf.fo m i hi
  rcases e with e|e
  ·exact nW i (by omega) h3.2.1 h3.2.2.2 (by omega) (fun z=>hm (g.pf.dj m k i hi (hQn i z).1)) e
  ·subst e;exact hm (g.pf.dj m k _ hi hFb)
 have nfb:∀i∈mD fs,i≠x.bl→¬(iD (su bn bm bp n B2 f fs fv dv np) x.bl (fun i=>Q i) i∨i=x.bd):=fun i hi hne e=>by
  have h3:=g.pf.ge i hi
  have hn:=g.pf.nl
  have hp:=g.pf.pl
  rcases e with e|e
  ·exact nW i (g.fb i hi) (by omega) (by omega) hne (fun z=>by have:=g.pf.fo k i (hQn i z).1;omega) e
  ·omega
 have hkl:k< l.length:=(List.getElem?_eq_some_iff.1 hd).1
 have hln:∀i,F k i→i< wr.heap.size:=fun i hi=>by have:=g.pf.fo k i hi;have:=h.le;omega
 refine⟨n1.nb.nb.kept k2 (fun e=>hbo.2.1 (e:bn=x.bd).symm),n1.nb.th.kept k2 (fun e=>hbo.2.2.1 (e:bm=x.bd).symm),h.dl.set kall hbdk hrepd (fun m i hm hi=>⟨by have:=g.pf.fo m i hi;have:=h.le;omega,nF m i hm hi⟩),h.fl.keep kall (fun y hy=>nfb _ (dp hy).1 (fun e=>?_)) (fun i e z=>?_),n1.pb.kept k2 (fun e=>hbo.2.2.2 (e:bp=x.bd).symm),aU n1.own k2 (fun i e=>by have e:i=x.bd:=e;show i< B2;omega),n1.pl,n1.p48,n1.nb.n6,n1.nb.g5,fun i y c' hij hy hc'=>?_,h.npl.set hd rfl,?_,fun i m y hij hm hy=>?_,?_,?_,Nat.le_trans hle1 k2.size⟩
 ·obtain⟨m,hm,e2⟩:=List.getElem_of_mem hy
  have hy':fs[m]?=some y:=by rw[List.getElem?_eq_getElem hm,e2]
  exact(Fn.apart g.pf.fn hy' hx).1 e
 ·have h3:=g.fo i e
  have hn:=g.pf.nl
  have hp:=g.pf.pl
  rcases z with z|z
  ·exact nW i h3.2.1 (by omega) (by omega) (fun y=>h3.2.2 (y▸hxb.2)) (fun y=>by have:=g.pf.fo k i (hQn i y).1;omega) z
  ·omega
 ·have h3:=h.lo i y c' (by omega) hy hc'
  exact⟨h3.1.kept kall (nfb _ (dp (List.mem_of_getElem? hy)).2 ((Fn.apart g.pf.fn hy hx).2 (by omega)).1),h3.2⟩
 ·refine(h.hd.keep kall (fun i hi=>?_)).app (d1.keep k2 (fun i hi=>⟨fun e=>(hQn i hi).2 e,⟨k,(jt hk).2 (Or.inr rfl),(hQn i hi).1⟩,hQb i hi⟩))
  obtain⟨⟨m,hm,hi⟩,h2⟩:=hi
  exact⟨nF m i (fun e=>vP g.pf.nd hk (e▸hm)) hi,⟨m,(jt hk).2 (Or.inl hm),hi⟩,h2⟩
 ·by_cases e:m=k
  ·subst e
   have:=qn g.pf.nd hm hk
   omega
  ·rw[List.getElem?_set_ne (fun z=>e z.symm)]at hy
   exact h.hz i m y (by omega) hm hy
 ·have hzk:(ks.zip lcs)[j]?=some (k,c):=by rw[List.getElem?_zip_eq_some];exact⟨hk,hc⟩
  have hlt:=(List.getElem?_eq_some_iff.1 hzk).1
  have hdr:(ks.zip lcs).drop j=(k,c)::(ks.zip lcs).drop (j+1):=by rw[List.drop_eq_getElem_cons hlt,(List.getElem?_eq_some_iff.1 hzk).2]
  rw[h.eq,hdr,hZ,hd]
  simp only
  rw[e1]
  simp only
  cases hZ f np ((ks.zip lcs).drop (j+1)) st.pl st.news st.gos (l.set k {d with body:=b,locals:=st.lc.c})with
  |error e=>rfl
  |ok z=>simp
 ·refine h.kp.trans (kall.mono (fun i e=>?_))
  rcases e with(e|e|e|e|e)|e
  ·exact Or.inr (Or.inr (Or.inr (Or.inl ⟨k,(hQn i e).1⟩)))
  ·exact Or.inl e
  ·exact Or.inr (Or.inl e)
  ·exact Or.inr (Or.inr (Or.inl (by rw[e];exact hxb.2)))
  ·exact Or.inr (Or.inr (Or.inr (Or.inr e)))
  ·exact Or.inr (Or.inr (Or.inr (Or.inl ⟨k,e▸hFb⟩)))
end
end
section
open Go.RowKit Go.Maps
theorem ye(l:List Pd):∀n k,k∈dk n l→n≤k:=by
 induction l with
 |nil=>intro n k h;simp[dk]at h
 |cons d l ih=>
  intro n k h
  unfold dk at h
  split at h
  ·rcases List.mem_cons.1 h with rfl|h
   ·omega
   ·have:=ih _ _ h;omega
  ·have:=ih _ _ h;omega
structure Ay(w:World)(P:Nat→Prop)(bp:Nat)(l:List Pd)(hs:List Ph):Prop where
 ex:∃(dv sv:Value) (bds done:List Nat) (F:Nat→Nat→Prop),an w bp #[dv,sv]∧w.ownsRow 0 84 1 dv bds.length (dW bds)∧w.ownsRow 0 133 1 sv done.length (dW done)∧DL w F bds l∧Dj F∧(∀k i,F k i→P i∧i< w.heap.size)∧fC w P done hs∧(∀i,dv.ownBlock=some i→P i)∧(∀i,sv.ownBlock=some i→P i)∧P bp
theorem Ay.keep{w w':World}{P P' S:Nat→Prop}{bp:Nat}{l:List Pd}{hs:List Ph}(h:Ay w P bp l hs)(k:ae S w w')(h0:∀i,P i→¬S i∧P' i):Ay w' P' bp l hs:=by
 obtain⟨dv,sv,bds,done,F,r1,r2,r3,r4,r5,r6,r7,r8,r9,r10⟩:=h.ex
 exact⟨dv,sv,bds,done,F,r1.kept k (h0 _ r10).1,aL r2 k (fun i e=>(h0 i (r8 i e)).1),aL r3 k (fun i e=>(h0 i (r9 i e)).1),r4.keep k (fun j i hi=>⟨(r6 j i hi).2,(h0 i (r6 j i hi).1).1⟩),r5,fun j i hi=>⟨(h0 i (r6 j i hi).1).2,Nat.lt_of_lt_of_le (r6 j i hi).2 k.size⟩,r7.keep k (fun i hi=>h0 i hi),fun i e=>(h0 i (r8 i e)).2,fun i e=>(h0 i (r9 i e)).2,(h0 _ r10).2⟩
structure oz(l:List Pd):Prop where
 kd:∀d∈l,d.kind< 3∧d.name.length≤1000000
 ps:∀d∈l,(∀a,a∈d.params→a.text.length≤1000000)∧d.params.length≤1000000
 bs:∀d∈l,fJ d.body∧d.body.length≤1000000
 len:l.length≤1000000
 fm:∀l1 f c,cq (fun _=>none) (fun _=>0) l=.ok (l1,f,c)→∀t m,cy f t 2=some m→m< (gY l1).length
theorem qQ{l:List Pd}:∀{f f':aj→Option (Nat×Nat)} {c c':Nat→Nat} {l':List Pd},cq f c l=.ok (l',f',c')→l'.map (fun d=>{d with num:=0})=l.map (fun d=>{d with num:=0}):=by
 induction l with
 |nil=>intro f f' c c' l' h;rw[cq]at h;cases h;rfl
 |cons d l ih=>
  intro f f' c c' l' h
  rw[cq]at h
  split at h
  ·cases h
  ·split at h
   ·cases h
   ·split at h
    ·cases h
    ·rename_i r f2 c2 hq
     cases h
     simp[ih hq]
theorem oz.dec{l l1:List Pd}{f:aj→Option (Nat×Nat)}{c:Nat→Nat}(h:oz l)(he:cq (fun _=>none) (fun _=>0) l=.ok (l1,f,c)):l1.length=l.length∧∀(k:Nat) (d:Pd),l1[k]?=some d→((∀a,a∈d.params→a.text.length≤1000000)∧d.params.length≤1000000)∧fJ d.body∧d.body.length≤1000000:=by
 have hs:=qQ he
 have hlen:l1.length=l.length:=by have:=congrArg List.length hs;simpa using this
 refine⟨hlen,fun k d hd=>?_⟩
 have hk:k< l.length:=by rw[←hlen];exact(List.getElem?_eq_some_iff.1 hd).1
 have h1:(l1.map (fun d=>{d with num:=0}))[k]?=some {d with num:=0}:=by rw[List.getElem?_map,hd];rfl
 rw[hs,List.getElem?_map,List.getElem?_eq_getElem hk]at h1
 simp only[Option.map_some,Option.some.injEq]at h1
 have hm:l[k]∈l:=List.getElem_mem hk
 have e1:l[k].params=d.params:=by have:=congrArg Pd.params h1;exact this
 have e2:l[k].body=d.body:=by have:=congrArg Pd.body h1;exact this
 rw[←e1,←e2]
 exact⟨h.ps _ hm,h.bs _ hm⟩
theorem mm{f:aj→Option (Nat×Nat)}(ks:List Nat):∀{l l':List Pd} {lcs:List Lc},eU f ks l=.ok (l',lcs)→∀(k:Nat) (d:Pd),l'[k]?=some d→∃d0,l[k]?=some d0∧d.body=d0.body∧d.params.length=d0.params.length:=by
 induction ks with
 |nil=>intro l l' lcs h k d hd;rw[eU]at h;cases h;exact⟨d,hd,rfl,rfl⟩
 |cons m ks ih=>
  intro l l' lcs h k d hd
  rw[eU]at h
  cases hm:l[m]? with
  |none=>rw[hm]at h;cases h;exact⟨d,hd,rfl,rfl⟩
  |some x=>
   rw[hm]at h
   simp only at h
   unfold xL at h
   cases hp:fe f ⟨fun _=>none,0⟩ 0 x.params with
   |error e=>rw[hp]at h;cases h
   |ok y=>
    obtain⟨r,lc⟩:=y
    rw[hp]at h
    simp only at h
    cases hq:eU f ks (l.set m {x with params:=r})with
    |error e=>rw[hq]at h;cases h
    |ok z=>
     obtain⟨l2,lcs2⟩:=z
     rw[hq]at h
     simp only[Except.ok.injEq,Prod.mk.injEq]at h
     obtain⟨rfl,_⟩:=h
     obtain⟨d0,h1,h2,h3⟩:=ih hq k d hd
     by_cases e:k=m
     ·subst e
      rw[List.getElem?_set_self (List.getElem?_eq_some_iff.1 hm).1]at h1
      cases h1
      refine⟨x,hm,h2,h3.trans ?_⟩
      have:=congrArg List.length (nY x.params hp)
      simpa using this
     ·rw[List.getElem?_set_ne (fun z=>e z.symm)]at h1
      exact⟨d0,h1,h2,h3⟩
theorem sc(l:List Pd):∀n,(dk n l).Nodup:=by
 induction l with
 |nil=>intro n;simp[dk]
 |cons d l ih=>
  intro n
  unfold dk
  split
  ·rw[List.nodup_cons];exact⟨fun h=>by have:=ye _ _ _ h;omega,ih _⟩
  ·exact ih _
theorem DI.pars{w w2:World}{bn bm bp bc bk:Nat}{F:Nat→Nat→Prop}{bds:List Nat}{R:Except (Nat×Nat) (List Pd×(aj→Option (Nat×Nat))×(Nat→Nat))}{l1:List Pd}{f:aj→Option (Nat×Nat)}{c:Nat→Nat}{ks:List Nat}{fs:List Fn}{fv:Value}(h:DI w w2 bn bm bp bc bk F bds R l1 [] f c ks fs fv)(hz:∀(k:Nat) (d:Pd),l1[k]?=some d→(∀a,a∈d.params→a.text.length≤1000000)∧d.params.length≤1000000):
  sS w2 w2 bn bm bp l1.length (bk+1) f F bds ks fs fv (eU f ks l1) 0 l1 []:=by
 refine⟨h.nb,h.th,by simpa using h.dl,h.fl,fun i x c _ hc=>by simp at hc,fun i x _ hx=>h.lc x (List.mem_of_getElem? hx),rfl,hz,?_,ae.refl _ _⟩
 simp only[List.drop_zero,List.nil_append]
 cases eU f ks l1 with
 |error e=>rfl
 |ok x=>rfl
theorem sS.bods{w2 w3:World}{bn bm bp n B:Nat}{f:aj→Option (Nat×Nat)}{F:Nat→Nat→Prop}{bds ks:List Nat}{fs:List Fn}{fv dv:Value}{l1 l2:List Pd}{lcs:List Lc}{np:List Nat}(h:sS w2 w3 bn bm bp n B f F bds ks fs fv (eU f ks l1) ks.length l2 lcs)(hpb:an w3 bp #[dv,aN])(hnp:yQ np ks l1)(hb:∀(k:Nat) (d:Pd),l1[k]?=some d→fJ d.body∧d.body.length≤1000000):
  eU f ks l1=.ok (l2,lcs)∧pD w3 w3 bn bm bp n B w3.heap.size f F bds ks fs fv dv np lcs (hZ f np (ks.zip lcs) 0 0 0 l2) 0 l2 0 0 0 aN [] []:=by
 have he:eU f ks l1=.ok (l2,lcs):=by have:=h.eq;rw[List.drop_length,eU]at this;simpa using this
 refine⟨he,h.nb,h.th,h.dl,h.fl,hpb,World.ownsRow_nil _ _ _ _,rfl,Nat.zero_le _,Nat.zero_le _,Nat.zero_le _,fun i x c _ hx hc=>h.l1 i x c hx hc,⟨hnp.1,fun m k d hm hd=>?_⟩,fC.nil,fun i k d _ _ hd=>?_,?_,ae.refl _ _,Nat.le_refl _⟩
 ·obtain⟨d0,h1,_,h3⟩:=mm ks he k d hd
  rw[h3];exact hnp.2 m k d0 hm h1
 ·obtain⟨d0,h1,h2,_⟩:=mm ks he k d hd
  rw[h2];exact hb k d0 h1
 ·simp only[List.drop_zero,List.nil_append]
  cases hZ f np (ks.zip lcs) 0 0 0 l2 with
  |error e=>rfl
  |ok x=>rfl
end
end Go.Proofs.YtmdaflepdaiabaaGreatDoor
