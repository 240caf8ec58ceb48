import Derived.BigRegion
import Derived.Test.YtajfbbldaiaolaaGreatDoorQ05
set_option linter.unusedSimpArgs false
set_option linter.unusedVariables false
set_option maxRecDepth 100000
set_option maxHeartbeats 4000000
namespace Go.Proofs.YtajfbbldaiaolaaGreatDoor
open Go.RowKit Go.Maps
variable {B a b j k n:Nat}{L l:List Nat}{v w:World}{y:Value}
theorem vW:(Tryz.prog.info? 114).map (fun i=>(i.zero,i.size,i.bytes))=some (some (.pointer none),1,8):=by kernel_rfl
def FV(w w':World)(bn bm bp bc bk:Nat)(F:Nat->Nat->Prop)(bds:List Nat)(l:List Pd)(r:Ending):Prop:=
 aC (Jd bn bm F) w w'/\((∃l1 f c fs fv,dI (fun _=>none) (fun _=>0) l=.ok (l1,f,c)/\r=.returned (.tuple #[])/\DI w w' bn bm bp bc bk F bds (dI (fun _=>none) (fun _=>0) l) l1 [] f c (eA 0 l1) fs fv)\/(∃e a,dI (fun _=>none) (fun _=>0) l=.error (e,a)/\dA w' r e a))
theorem Ia{bn bm bp:Nat}{F:Nat->Nat->Prop}{bds:List Nat}{l:List Pd}{dv:Value}{P':Nat->Prop}(hnb:aM w bn (yO bp bm bV 0 0))(hth:ei w bm 0 (fun _=>none))(hpb:aM w bp #[dv,bV])(hrow:dL w P' 107 1 dv bds.length (fg bds))(hdl:DL w F bds l)(g:DF w bn bm w.heap.size (w.heap.size+1) F)(hkd:∀d∈l,d.kind< 3/\d.name.length<=1000000)(hpp:¬Jd bn bm F bp)(hpr:∀i,P' i->¬Jd bn bm F i)(hlen:bds.length<=1000000):
  Calls Tryz.prog 39 #[Pt bn 0] w fun r w'=>FV w w' bn bm bp w.heap.size (w.heap.size+1) F bds l r:=by
 obtain⟨i0,hi,hz0,hz1,hz2⟩:=info_parts vW
 obtain⟨pv,cv,rfl⟩:=aI hrow.1
 obtain⟨HG,HROW,HPR⟩:=bY g hrow hpr
 have hnl:=g.nl
 have c0:Ce w bn 0 (aF bp):=hnb.cell 0
 have cp0:Ce w bp 0 (.slice pv bds.length cv):=hpb.cell 0
 have hpl:=hpb.lt
 have HI:Hid (DI w ((w.alloc (.cells #[aB 0,aB 0,aB 0] 161)).alloc (.cells #[aB 5,aB 3,aB 5] 161)) bn bm bp w.heap.size (w.heap.size+1) F bds (dI (fun _=>none) (fun _=>0) l) [] l (fun _=>none) (fun _=>0) [] [] bV):=by
  have k:aC (fun _=>False) w ((w.alloc (.cells #[aB 0,aB 0,aB 0] 161)).alloc (.cells #[aB 5,aB 3,aB 5] 161)):=((aC.refl _ w).alloc _).alloc _
  refine⟨hnb.kept k (fun e=>e),hth.kept k (fun e=>e),(aM.new w _ _).alloc _,aM.newAt _ _ _ _ (by simp),hdl.keep k (fun j i hi=>⟨(g.fo j i hi).1,fun e=>e⟩),⟨World.ownsRow_nil _ _ _ _,fun x hx=>by simp at hx,by simp[qm],fun i hi=>by simp[qm]at hi,rfl,fun j k x h=>by simp at h⟩,fun x hx=>by simp at hx,?_,k.mono (fun _ e=>e.elim),fun j hj=>Nat.zero_le _,hkd⟩
  cases dI (fun _=>none) (fun _=>0) l with
  |error e=>rfl
  |ok x=>simp
 clear hnb hth hpb hrow hdl g hkd hpp hpr
 go_in
 go_wp2_with fail
 clear c0 cp0
 go_loopw [17] (fun i wr=>∃(done rest:List Pd) (f:aJ->Option (Nat×Nat)) (c:Nat->Nat) (fs:List Fn) (fv:Value),i=aB done.length/\Hid (DI w wr bn bm bp w.heap.size (w.heap.size+1) F bds (dI (fun _=>none) (fun _=>0) l) done rest f c (eA 0 done) fs fv)) (fun i _=>bds.length-(intOf i).toNat)
 case atStart=>exact⟨[],l,_,_,[],bV,rfl,HI⟩
 case round=>
  obtain⟨done,rest,f,c,fs,fv,rfl,HR⟩:=hrel
  have hdl:=HR.dl.len
  rcases rest with _|⟨d,rest⟩
  ·have hkl:¬((done.length:Int)< (bds.length:Int)):=by simp at hdl;omega
   have HEQ:Hid (dI (fun _=>none) (fun _=>0) l=.ok (done,f,c)):=by show _=_;rw[HR.out.eq,dI];simp
   clear hdl
   go_wp2_with fail
   first|go_end0|refine bodyPost_ret (results_none rfl _ _ _) rfl ?_
   exact⟨HR.kp,.inl ⟨done,f,c,fs,fv,HEQ,rfl,HR⟩⟩
  ·have hkn:done.length< bds.length:=by simp at hdl;omega
   have hkl:(done.length:Int)< (bds.length:Int):=by omega
   clear hdl
   obtain⟨gv,rfl⟩:∃gv,pv=some (Ad gv 0):=by
    obtain⟨g,c,e⟩:=aO HROW.1 (by omega)
    cases e;exact⟨g,rfl⟩
   obtain⟨bd,hbd⟩:∃bd,bds[done.length]?=some bd:=⟨_,List.getElem?_eq_getElem hkn⟩
   have hcell:wr.cell? (Ad gv done.length)=some (aF bd):=by
    rw[HR.out.kp.cell (p:=Ad gv done.length) (HROW.out.1.lt gv rfl).2 (HPR.out gv (HROW.out.2 gv rfl))]
    rw[HROW.out.1.cellAt _ (by omega)]
    simp[fg,hbd]
   have hcell':wr.cell? (Ad gv (done.length*1))=some (aF bd):=by rw[Nat.mul_one];exact hcell
   obtain⟨sp,sb,bb,Qd,hFd,hB,hrest⟩:=HR.dl.rep done.length bd d hbd (by simp)
   have HBD:=aG hbd
   have hkd:=HR.kd d (by simp)
   have hk3:d.kind< 3:=hkd.1
   have hsz:d.name.length<=1000000:=hkd.2
   have t0:Ce wr bd 0 (aB d.kind):=hB.cell 0
   have t1:Ce wr bd 1 (.string ⟨d.name.toArray⟩):=hB.cell 1
   have t2:Ce wr bd 2 (aB d.at_):=hB.cell 2
   have t3:Ce wr bd 3 (aB d.num):=hB.cell 3
   have tf:=hB.fz
   have hbl:=hB.lt
   have hbo:=HG.fo _ _ hFd
   have n1:bd≠bn:=hbo.2.1
   have n2:bd≠bm:=hbo.2.2
   have n3:bd≠w.heap.size:=by omega
   have n4:bd≠w.heap.size+1:=by omega
   have n5:bn≠bm:=HG.nm
   have n6:bm≠w.heap.size:=by have:=HG.ml;omega
   have c1:Ce wr bn 1 (.map (some bm)):=HR.nb.cell 1
   have hbn:bn< wr.heap.size:=HR.nb.lt
   have hk012:d.kind=0\/d.kind=1\/d.kind=2:=by omega
   have q0:wr.cell? (Ad w.heap.size d.kind)=some (aB (c d.kind)):=by rw[HR.out.cb.cell];rcases hk012 with e|e|e<;>rw[e]<;>rfl
   have q1:wr.cell? (Ad (w.heap.size+1) d.kind)=some (aB (kR d.kind)):=by rw[HR.out.mb.cell];rcases hk012 with e|e|e<;>rw[e]<;>rfl
   have q0':wr.cell? (Ad w.heap.size (d.kind*1))=some (aB (c d.kind)):=by rw[Nat.mul_one];exact q0
   have q1':wr.cell? (Ad (w.heap.size+1) (d.kind*1))=some (aB (kR d.kind)):=by rw[Nat.mul_one];exact q1
   have qf:∀j,wr.frozen? (Ad w.heap.size j)=false:=HR.cb.fz
   have ql:w.heap.size< wr.heap.size:=HR.cb.lt
   have ql1:w.heap.size+1< wr.heap.size:=HR.mb.lt
   have hcl:=HR.cl d.kind hk3
   have hm5:kR d.kind<=5:=by unfold kR;split<;>omega
   clear hB hrest hFd hbo hkd hk012
   have e0:=(HR.th.move (w':=wr.drew) rfl).look ⟨d.name.toArray⟩ hsz
   have k1:=aC.of_below (S:=fun _=>False) ((Below.refl wr.heap.size wr).alloc (Nat.le_refl _) (.cells #[aB 0,aB 0] 163))
   have e2:=((HR.th.kept k1 (fun e=>e)).move (w':=(wr.alloc (.cells #[aB 0,aB 0] 163)).drew) rfl).look ⟨d.name.toArray⟩ hsz
   have HPE:Hid (dI f c (d::rest)=if(f d.name).isSome=true then .error (7,d.at_)else if c d.kind=kR d.kind then .error (8,d.at_)else match dI (putF f d.name (d.kind,c d.kind)) (qd c d.kind) rest with|.error e=>.error e|.ok (l',f',c')=>.ok ({d with num:=c d.kind}::l',f',c')):=by show _=_;rw[dI];rfl
   cases hf:f d.name with
   |some x=>
    have hff:f (ByteArray.mk d.name.toArray).data.toList=some x:=hf
    rw[hff]at e0 e2
    simp only[Option.getD_some,Option.isSome_some]at e0 e2
    unfold eW at e0 e2
    have HEQ:Hid (dI (fun _=>none) (fun _=>0) l=.error (7,d.at_)):=by show _=_;rw[HR.out.eq,HPE.out,if_pos (by rw[hf];rfl)]
    clear hf hff k1
    go_wp2_with fail
    go_region
    all_goals
     go_wp2_with fail
     refine(cO 7 d.at_ _).mono ?_
     rintro e w2 ⟨⟨b2,rfl,h3⟩,h4⟩
     replace h3:=aG h3
     replace h4:=aG h4
     go_wp2_with fail
     refine⟨rfl,HR.kp.below ?_,.inr ⟨7,d.at_,HEQ,b2,rfl,h3⟩⟩
     have h5:=((Below.refl wr.heap.size wr).alloc (Nat.le_refl _) (AX x)).drew
     exact h5.trans (h4.mono (by simp))
   |none=>
    have hff:f (ByteArray.mk d.name.toArray).data.toList=none:=hf
    rw[hff]at e0 e2
    simp only[Option.getD_none,Option.isSome_none]at e0 e2
    unfold eW at e0 e2
    by_cases hcm:c d.kind=kR d.kind
    ·have hcb:((c d.kind:Int)==(kR d.kind:Int))=true:=by rw[beq_iff_eq];omega
     have HEQ:Hid (dI (fun _=>none) (fun _=>0) l=.error (8,d.at_)):=by show _=_;rw[HR.out.eq,HPE.out,if_neg (by rw[hf];simp),if_pos hcm]
     clear hf hff k1 hcm hcl hm5
     go_wp2_with fail
     go_region
     all_goals
      go_wp2_with fail
      go_region
      all_goals
       go_wp2_with fail
       refine(cO 8 d.at_ _).mono ?_
       rintro e w2 ⟨⟨b2,rfl,h3⟩,h4⟩
       replace h3:=aG h3
       replace h4:=aG h4
       go_wp2_with fail
       refine⟨rfl,HR.kp.below ?_,.inr ⟨8,d.at_,HEQ,b2,rfl,h3⟩⟩
       have h5:=((Below.refl wr.heap.size wr).alloc (Nat.le_refl _) (.cells #[aB 0,aB 0] 163)).drew.drew
       exact h5.trans (h4.mono (by simp))
    ·have hcb:((c d.kind:Int)==(kR d.kind:Int))=false:=by rw[beq_eq_false_iff_ne];omega
     have kk:aC (fun i=>i=bd) wr ((me (wr.setCell (Ad bd 3) (aB (c d.kind)))).drew):=((((((aC.refl (fun i=>i=bd) wr).setCell (p:=Ad bd 3) (.inl rfl) _).alloc _).drew).drew).drew)
     obtain⟨w9,e5,h9,ht9⟩:=(HR.th.kept kk (fun e=>n2 e.symm)).store ⟨d.name.toArray⟩ hsz (by omega) (d.kind,c d.kind)
     have HM:=aG (HR.mid HG hbd hf hcm ht9 h9 ((c d.kind:Int)+1) rfl)
     have k9:aC (fun i=>i=bd\/i=bm) wr w9:=aC.grown (kk.mono (T:=fun i=>i=bd\/i=bm) (fun _ e=>.inl e)) ht9.grown (fun k hk=>by cases hk;exact .inl (.inr rfl))
     have q9:w9.cell? (Ad w.heap.size d.kind)=some (aB (c d.kind)):=by rw[k9.cell (p:=Ad w.heap.size d.kind) ql (fun e=>by rcases e with e|e;exact n3 e.symm;exact n6 e.symm)];exact q0
     have q9':w9.cell? (Ad w.heap.size (d.kind*1))=some (aB (c d.kind)):=by rw[Nat.mul_one];exact q9
     have qf9:∀j,w9.frozen? (Ad w.heap.size j)=false:=fun j=>by rw[k9.frozen (p:=Ad w.heap.size j) ql (fun e=>by rcases e with e|e;exact n3 e.symm;exact n6 e.symm)];exact qf j
     have hkt:∃sr sb,aM w9 bd (nj {d with num:=c d.kind} sr sb):=by
      obtain⟨sp,sb,bb,Qd,hFd,hB,hrest⟩:=HR.dl.rep done.length bd d hbd (by simp)
      have kb:aC (fun i=>i=bm) (wr.setCell (Ad bd 3) (aB (c d.kind))) w9:=aC.grown (((((aC.refl (fun i=>i=bm) _).alloc _).drew).drew).drew) ht9.grown (fun k hk=>by cases hk;exact .inl rfl)
      exact⟨sp,sb,(hB.set 3 _ (show 3< 7 by decide)).kept kb n2⟩
     obtain⟨sp,sb,hB9⟩:=hkt
     have hB10:=hB9.setO w.heap.size d.kind (aB ((c d.kind:Int)+1)) n3
     have t9:Ce w9 bd 0 (aB d.kind):=hB9.cell 0
     have t10:Ce (w9.setCell (Ad w.heap.size d.kind) (aB ((c d.kind:Int)+1))) bd 0 (aB d.kind):=hB10.cell 0
     unfold eW at e5
     have HNF:=aG hcm
     have hc5:c d.kind<=5:=by omega
     have u2:Ce (w9.setCell (Ad w.heap.size d.kind) (aB ((c d.kind:Int)+1))) bn 2 fv:=HM.nb.cell 2
     have uf:=HM.nb.fz
     have ul:=HM.nb.lt
     obtain⟨w10,hw10⟩:=bM (w9.setCell (Ad w.heap.size d.kind) (aB ((c d.kind:Int)+1)))
     rw[<-hw10]at HM t10 u2 uf ul
     have HW10:=aG hw10
     clear hf hff k1 hcm hcl kk h9 ht9 k9 hB9 hB10 hw10
     go_wp2_with fail
     go_region
     all_goals
      go_wp2_with fail
      go_region
      all_goals
       go_upto_region 11 with fail
       go_cut [17]from 17 to 115 (fun s17 wx=>s17=aB done.length/\wx=w9)
       case first=>
        go_wp2_with fail
        go_region
        all_goals
         go_wp2_with fail
         go_meet
         exact⟨rfl,rfl⟩
       case rest=>
       obtain⟨rfl,rfl⟩:=hcut
       by_cases hk2:d.kind=2
       ·have hkb:((d.kind:Int)==2)=true:=by rw[beq_iff_eq];omega
        have HK2:=aG hk2
        have HWR:=HW10
        obtain⟨pw,cw,rfl⟩:=aI HM.fl.own
        have hown:=HM.fl.own
        have hfl:fs.length<=1000000:=by
         have h1:=HM.fl.len
         have h2:=mZ done 0
         have h3:(jr done).length<=done.length:=by unfold jr;rw[List.length_map];exact List.length_filter_le _ _
         omega
        have hbk:w.heap.size+1+1<=w10.heap.size:=by have:=HM.mb.lt;omega
        clear hk2
        rw[HW10.out]at t10 u2 uf ul hown hbk HM
        generalize hw10:wc.setCell (Ad w.heap.size d.kind) (aB ((c d.kind:Int)+1))=w11 at *
        have hmk:(Instr.makeMap 123 none).run Tryz.prog w11=.ok (.map (some w11.heap.size)) (w11.alloc (.map #[] 0)):=rfl
        have hnw:¬Value.ownBlock (.slice pw fs.length cw)=some bn:=fun e=>by have:=(hown.lt bn e).1;omega
        have HKG:Hid (∀w4,(((w11.alloc (.map #[] 0)).alloc (.cells #[aF bd,.map (some w11.heap.size)] 125)).alloc (.cells #[aF (w11.heap.size+1)] 114)).grownBy w4 (Value.ownBlock (.slice pw fs.length cw))->aC (fun i=>Value.ownBlock (.slice pw fs.length cw)=some i) (((w11.alloc (.map #[] 0)).alloc (.cells #[aF bd,.map (some w11.heap.size)] 125)).alloc (.cells #[aF (w11.heap.size+1)] 114)) w4):=fun w4 hg=>(aC.refl _ _).grown hg (fun k hk=>.inl hk)
        have HVG:Hid (∀w4,aC (fun i=>Value.ownBlock (.slice pw fs.length cw)=some i) (((w11.alloc (.map #[] 0)).alloc (.cells #[aF bd,.map (some w11.heap.size)] 125)).alloc (.cells #[aF (w11.heap.size+1)] 114)) w4->Ce w4 bn 2 (.slice pw fs.length cw)/\∀j,w4.frozen? (Ad bn j)=false):=fun w4 hk4=>by
         have hB4:aM w4 bn (yO bp bm (.slice pw fs.length cw) 0 0):=(((HM.nb.alloc _).alloc _).alloc _).kept hk4 hnw
         exact⟨hB4.cell 2,hB4.fz⟩
        clear hnw
        go_wp2_with (at_builtin;refine bE rfl _ _ 111 rfl (w.heap.size+1+1) 114 i0 (.pointer none) 1 8 Tryz.underlying111 hi hz0 hz1 hz2 rfl (by decide) _ _ _ rfl (((hown.alloc _).alloc _).alloc _) (Ad (w11.heap.size+2) 0) 1 1 [aF (w11.heap.size+1)] rfl rfl (cF _ _ _ _ (by simp)) (by intro u hu;simp at hu;subst hu;rfl) (by decide) (by unfold maxLen;omega) (by omega) (by simp;omega) ?_;intro l4 w4 hown4 hgrow4 hwh4;obtain⟨p3,c3,rfl⟩:=aI hown4;have hk4:=HKG w4 hgrow4;obtain⟨v2,vf⟩:=HVG w4 hk4;replace hk4:=aG hk4;replace hown4:=aG hown4;replace hwh4:=aG hwh4;clear hgrow4)
        have HM3:Hid (DI w (w4.setCell (Ad bn 2) (.slice p3 (fs.length+1) c3)) bn bm bp w.heap.size (w.heap.size+1) F bds (dI (fun _=>none) (fun _=>0) l) (done++[{d with num:=c d.kind}]) rest (putF f d.name (d.kind,c d.kind)) (qd c d.kind) (eA 0 (done++[{d with num:=c d.kind}])) (fs++[⟨w11.heap.size+1,w11.heap.size,bd⟩]) (.slice p3 (fs.length+1) c3)):=by
         show DI _ _ _ _ _ _ _ _ _ _ _ _ _ _ _ _ _
         rw[rR,if_pos HK2.out,Nat.zero_add]
         exact HM.fun HG HBD hk4 (by simpa using hown4.out) (by rcases hwh4.out with h|h;exact .inl h;exact .inr ⟨_,h,by simp⟩)
        clear HM
        go_roundw
        case rel=>exact⟨done++[{d with num:=c d.kind}],rest,_,_,fs++[⟨w11.heap.size+1,w11.heap.size,bd⟩],_,by simp,by simpa using HM3⟩
        case measure=>simp[intOf];omega
       ·have hkb:((d.kind:Int)==2)=false:=by rw[beq_eq_false_iff_ne];omega
        have HM2:Hid (DI w w10 bn bm bp w.heap.size (w.heap.size+1) F bds (dI (fun _=>none) (fun _=>0) l) (done++[{d with num:=c d.kind}]) rest (putF f d.name (d.kind,c d.kind)) (qd c d.kind) (eA 0 (done++[{d with num:=c d.kind}])) fs fv):=by
         show DI _ _ _ _ _ _ _ _ _ _ _ _ _ _ _ _ _
         rw[rR,if_neg hk2,List.append_nil]
         exact HM
        clear hk2 HM
        rw[HW10.out]at HM2 t10
        go_wp2_with fail
        go_roundw
        case rel=>exact⟨done++[{d with num:=c d.kind}],rest,_,_,fs,fv,by simp,HM2⟩
        case measure=>simp[intOf];omega
theorem Ke{bn h:Nat}{f:aJ->Option (Nat×Nat)}{P:Nat->Prop}{d:Pd}(R:NM w bn b n f)(T:aM w h #[aF k,.map (some j)])(X:eP w j 0 (fun _=>none))(o:ko w P k d)(H:∀i,P i->i< w.heap.size/\i≠bn/\i≠b/\i≠h/\i≠j)(v:bn≠j)(u:b≠j)(t:h≠j)(m:∀a,a∈d.params->a.text.length<=1000000)(N:d.params.length<=1000000):
  Ca 40 #[Pt bn 0,Pt h 0] w fun r w'=>aC (fun i=>i=j\/P i) w w'/\((∃A l',gR f ⟨fun _=>none,0⟩ 0 d.params=.ok (A,l')/\r=.returned (.tuple #[])/\ko w' P k {d with params:=A}/\eP w' j l'.c l'.g/\A.length=d.params.length/\l'.c<=6)\/(∃e a,gR f ⟨fun _=>none,0⟩ 0 d.params=.error (e,a)/\dA w' r e a)):=by
 obtain⟨sp,sb,l,Q,K,V,E,J,Y,F⟩:=o
 have Z:Ce w k 4 sp:=V.cell 4
 by_cases C:d.params=[]
 ·rw[C]at E
  obtain⟨pp,W,rfl⟩:=aI E.1
  refine(vg (bn:=bn) (T.cell 0) Z).mono ?_
  rintro r w' ⟨rfl,rfl⟩
  refine⟨aC.refl _ _,.inl ⟨[],⟨fun _=>none,0⟩,by rw[C];rfl,rfl,⟨_,sb,l,Q,K,V,E,J,Y,F⟩,X,by rw[C],Nat.zero_le _⟩⟩
 ·have O:d.params.length≠0:=fun e=>C (List.length_eq_zero_iff.1 e)
  obtain⟨g,W,rfl⟩:=aO E.1 O
  have hg:=H g (E.2 g rfl)
  have s:PI w w bn b n h j g W f (gR f ⟨fun _=>none,0⟩ 0 d.params) d.params [] d.params ⟨fun _=>none,0⟩:=⟨R,T.cell 1,X,by simpa using E.1,aC.refl _ _,by simp only[List.length_nil,List.nil_append];cases gR f ⟨fun _=>none,0⟩ 0 d.params with|ok x=>rfl|error e=>rfl,by simp,rfl,by simp⟩
  refine(EG s hg.2.2.2.2 (fun e=>hg.2.1 e.symm) v (fun e=>hg.2.2.1 e.symm) u (fun e=>hg.2.2.2.1 e.symm) t (T.cell 0) Z m N).mono ?_
  rintro r w' ⟨G,M⟩
  refine⟨G.mono (fun i e=>e.elim .inl (fun e=>.inr (by rw[e];exact E.2 g rfl))),?_⟩
  rcases M with⟨A,l',z,y,B⟩|M
  ·have D:A.length=d.params.length:=by have:=B.len;simpa using this
   have p:k≠j:=(H k K).2.2.2.2
   have S:k≠g:=fun e=>F.rb (by rw[e];rfl)
   have L:∀i,P i->i≠g->¬(i=j\/i=g):=fun i B R e=>e.elim (H i B).2.2.2.2 R
   refine .inl ⟨A,l',z,y,⟨.slice (some (Ad g 0)) d.params.length W,sb,l,Q,K,V.kept G (L k K S),⟨?_,E.2⟩,⟨bJ J.1 G (fun i e=>L i (J.2 i e) (fun x=>F.rs g rfl (by rw[<-x];exact e))),J.2⟩,Y.keep G (fun i B=>⟨(H i (F.q i B).1).1,L i (F.q i B).1 (fun x=>(F.q i B).2.2.1 (by rw[x];rfl)),B⟩),F⟩,B.lc,D,by have:=B.cl;have:=B.l3;omega⟩
   have:=B.row
   rw[<-D]at this⊢
   simpa using this
  ·exact .inr M
structure PF(bn bm bp B:Nat)(F:Nat->Nat->Prop)(ks:List Nat)(fs:List Fn):Prop where
 nm:bn≠bm
 np:bn≠bp
 mp:bm≠bp
 dj:Dj F
 fo:∀k i,F k i->i< B/\i≠bn/\i≠bm/\i≠bp
 nl:bn< B
 ml:bm< B
 pl:bp< B
 nd:ks.Nodup
 ge:∀i∈qm fs,B<=i
 fn:(qm fs).Nodup
theorem Fn.apart{fs:List Fn}(h:(qm fs).Nodup){i:Nat}{x y:Fn}(A:fs[i]?=some x)(C:fs[j]?=some y):x.bf≠y.bl/\(i≠j->x.bl≠y.bl/\x.bf≠y.bf):=by
 induction fs generalizing i j with
 |nil=>simp at A
 |cons a fs ih=>
  have F:(a.bf::a.bl::qm fs).Nodup:=h
  rw[List.nodup_cons,List.nodup_cons]at F
  obtain⟨D,E,G⟩:=F
  simp only[List.mem_cons,not_or]at D
  cases i with
  |zero=>
   simp at A;subst A
   cases j with
   |zero=>simp at C;subst C;exact⟨D.1,fun e=>absurd rfl e⟩
   |succ j=>
    have B:=eD (List.mem_of_getElem? (by simpa using C:fs[j]?=some y))
    exact⟨fun e=>D.2 (e▸B.2),fun _=>⟨fun e=>E (e▸B.2),fun e=>D.2 (e▸B.1)⟩⟩
  |succ i=>
   have A:fs[i]?=some x:=by simpa using A
   have B:=eD (List.mem_of_getElem? A)
   cases j with
   |zero=>simp at C;subst C;exact⟨fun e=>E (e▸B.1),fun _=>⟨fun e=>E (e▸B.2),fun e=>D.2 (e▸B.1)⟩⟩
   |succ j=>have:=ih G A (by simpa using C:fs[j]?=some y);exact⟨this.1,fun e=>this.2 (fun z=>e (by rw[z]))⟩
structure yh(w wr:World)(bn bm bp n B:Nat)(f:aJ->Option (Nat×Nat))(F:Nat->Nat->Prop)(bds ks:List Nat)(fs:List Fn)(fv:Value)(R:Except (Nat×Nat) (List Pd×List Lc))(j:Nat)(l:List Pd)(lcs:List Lc):Prop where
 nb:aM wr bn (yO bp bm fv 0 0)
 th:ei wr bm n f
 dl:DL wr F bds l
 fl:FL wr B bds ks fs fv
 l1:∀(i:Nat) (x:Fn) (c:Lc),fs[i]?=some x->lcs[i]?=some c->eP wr x.bl c.c c.g/\c.c<=6
 l2:∀(i:Nat) (x:Fn),j<=i->fs[i]?=some x->eP wr x.bl 0 (fun _=>none)
 len:lcs.length=j
 hz:∀(k:Nat) (d:Pd),l[k]?=some d->(∀a,a∈d.params->a.text.length<=1000000)/\d.params.length<=1000000
 eq:R=match gG f (ks.drop j) l with|.error e=>.error e|.ok (l',m)=>.ok (l',lcs++m)
 kp:aC (fun i=>i∈qm fs\/∃k,F k i) w wr
theorem rJ{f:aJ->Option (Nat×Nat)}(B:List Pn):∀{l l':Lc} {i:Nat} {A:List Pn},gR f l i B=.ok (A,l')->A.map (·.text)=B.map (·.text):=by
 induction B with
 |nil=>intro l l' i A h;rw[gR]at h;cases h;rfl
 |cons a B ih=>
  intro l l' i A h
  rw[gR]at h
  split at h
  ·cases h
  ·split at h
   ·cases h
   ·split at h
    ·cases h
    ·rename_i D E C
     cases h
     simp[ih C]
theorem yh.next{wr w':World}{bn o p:Nat}{f:aJ->Option (Nat×Nat)}{F:Nat->Nat->Prop}{K:List Nat}{fs:List Fn}{u:Value}{R:Except (Nat×Nat) (List Pd×List Lc)}{l:List Pd}{G:List Lc}{x:Fn}{d:Pd}{C:List Pn}{l':Lc}(h:yh w wr bn o p n B f F L K fs u R j l G)(g:PF bn o p B F K fs)(Q:fs[j]?=some x)(q:K[j]?=some k)(V:l[k]?=some d)
  (M:aC (fun i=>i=x.bl\/F k i) wr w') (v:gR f ⟨fun _=>none,0⟩ 0 d.params=.ok (C,l')) (hr:ko w' (F k) x.bd {d with params:=C}) (hl:eP w' x.bl l'.c l'.g) (t:C.length=d.params.length) (h6:l'.c<=6):
  yh w w' bn o p n B f F L K fs u R (j+1) (l.set k {d with params:=C}) (G++[l']):=by
 have Y:=List.mem_of_getElem? Q
 have H:=eD Y
 have a0:=g.ge _ H.2
 have S:∀i,i< B->(∀k,¬F k i)->¬(i=x.bl\/F k i):=fun i P hn e=>by
  rcases e with e|e
  ·omega
  ·exact hn k e
 have T:=h.fl.ge
 have E:∀k i,F k i->i< B:=fun k i e=>(g.fo k i e).1
 have Z:k< l.length:=(List.getElem?_eq_some_iff.1 V).1
 have W:∀y∈fs,¬(y.bf=x.bl\/F k y.bf):=fun y A e=>by
  obtain⟨i,P,e2⟩:=List.getElem_of_mem A
  have X:fs[i]?=some y:=by rw[List.getElem?_eq_getElem P,e2]
  rcases e with e|e
  ·exact(Fn.apart g.fn X Q).1 e
  ·have:=E k _ e;have:=g.ge _ (eD A).1;omega
 have D:∀(i:Nat) (y:Fn),i≠j->fs[i]?=some y->¬(y.bl=x.bl\/F k y.bl):=fun i y J A e=>by
  rcases e with e|e
  ·exact((Fn.apart g.fn A Q).2 J).1 e
  ·have:=E k _ e;have:=g.ge _ (eD (List.mem_of_getElem? A)).2;omega
 refine⟨h.nb.kept M (S bn g.nl (fun k e=>(g.fo k bn e).2.1 rfl)),h.th.kept M (S o g.ml (fun k e=>(g.fo k o e).2.2.1 rfl)),?_,h.fl.keep M W (fun i e z=>?_),fun i y c A O=>?_,fun i y J A=>?_,by simp[h.len],fun i y A=>?_,?_,h.kp.trans (M.mono (fun i e=>e.elim (fun e=>.inl (by rw[e];exact H.2)) (fun e=>.inr ⟨k,e⟩)))⟩
 ·have s:=h.fl.at_ j k x q Q
  refine h.dl.set M s hr (fun m i hm P=>⟨?_,fun e=>?_⟩)
  ·have:=E m i P
   have h2:=(T _ H.2)
   omega
  ·rcases e with e|e
   ·have:=E m i P;omega
   ·exact hm (g.dj m k i P e)
 ·rcases z with z|z
  ·exact(T _ H.2).2.2 (by rw[<-z];exact e)
  ·have:=(h.fl.own.lt i e).1;have:=E k i z;omega
 ·by_cases J:i< G.length
  ·rw[List.getElem?_append_left J]at O
   have:=h.l1 i y c A O
   exact⟨this.1.kept M (D i y (by have:=h.len;omega) A),this.2⟩
  ·rw[List.getElem?_append_right (by omega)]at O
   have N:=(List.getElem?_eq_some_iff.1 O).1
   simp at N
   have hz:i-G.length=0:=by omega
   rw[hz]at O
   simp at O
   subst O
   have:i=j:=by have:=h.len;omega
   subst this
   rw[Q]at A;cases A
   exact⟨hl,h6⟩
 ·exact(h.l2 i y (by omega) A).kept M (D i y (by omega) A)
 ·by_cases e:i=k
  ·subst e
   rw[List.getElem?_set_self Z]at A
   cases A
   have:=h.hz i d V
   refine⟨fun a ha=>?_,by show C.length<=_;omega⟩
   have ht:=rJ d.params v
   have:a.text∈d.params.map (·.text):=by rw[<-ht];exact List.mem_map_of_mem ha
   obtain⟨b,hb,e⟩:=List.mem_map.1 this
   rw[<-e];exact(h.hz i d V).1 b hb
  ·rw[List.getElem?_set_ne (fun x=>e x.symm)]at A
   exact h.hz i y A
 ·have r:K.drop j=k::K.drop (j+1):=by
   have N:=(List.getElem?_eq_some_iff.1 q).1
   rw[List.drop_eq_getElem_cons N,(List.getElem?_eq_some_iff.1 q).2]
  rw[h.eq,r,gG,V]
  simp only
  unfold En
  rw[v]
  simp only
  cases gG f (K.drop (j+1)) (l.set k {d with params:=C})with
  |error e=>rfl
  |ok z=>simp
section
def FQ(fs:List Fn)(fv:Value):Nat->Prop:=fun i=>fv.ownBlock=some i\/∃x∈fs,i=x.bf\/i=x.bd
def FU(np ks:List Nat)(l:List Pd):Prop:=np.length=ks.length/\∀(m k:Nat) (d:Pd),ks[m]?=some k->l[k]?=some d->np[m]?=some d.params.length
theorem FU.set{np:List Nat}{l:List Pd}(h:FU np L l){d D:Pd}(C:l[k]?=some d)(hp:D.params.length=d.params.length):FU np L (l.set k D):=⟨h.1,fun m i x B A=>by
 by_cases e:i=k
 ·subst e
  rw[List.getElem?_set_self (List.getElem?_eq_some_iff.1 C).1]at A
  cases A
  rw[hp];exact h.2 m i d B C
 ·rw[List.getElem?_set_ne (fun z=>e z.symm)]at A;exact h.2 m i x B A⟩
theorem FU.mk(l:List Pd):FU (jr l) (eA 0 l) l:=⟨(mZ l 0).symm,fun m k d B C=>by
 obtain⟨_,E,A,_,D⟩:=EN l 0 m k B
 rw[Nat.sub_zero,C]at A
 cases A;exact D⟩
theorem ym.of{F:Nat->Nat->Prop}{H:List Nat}{fs:List Fn}{l:List Pd}{np:List Nat}(D:FL w B L H fs y)(R:DL w F L l)(M:FU np H l):ym w (FQ fs y) y np:=by
 obtain⟨pf,Z,e⟩:=aI D.own
 have A:np.length=fs.length:=M.1.trans D.len
 refine⟨pf,Z,by rw[e,A],fun m k O=>?_⟩
 have N:m< fs.length:=by rw[<-A];exact(List.getElem?_eq_some_iff.1 O).1
 obtain⟨x,J⟩:∃x,fs[m]?=some x:=⟨_,List.getElem?_eq_getElem N⟩
 obtain⟨i,P⟩:∃i,H[m]?=some i:=⟨_,List.getElem?_eq_getElem (by rw[D.len];exact N)⟩
 have S:=D.at_ m i x P J
 obtain⟨d,G⟩:∃d,l[i]?=some d:=⟨_,List.getElem?_eq_getElem (by rw[<-R.len];exact(List.getElem?_eq_some_iff.1 S).1)⟩
 have E:=M.2 m i d P G
 rw[O]at E
 cases E
 obtain⟨sp,sb,c,Q,a,X,W,_⟩:=R.rep i x.bd d S G
 obtain⟨V,Y,rfl⟩:=aI W.1
 have C:=List.mem_of_getElem? J
 obtain⟨gf,b,T⟩:=aO D.own (by omega)
 rw[e]at T
 cases T
 refine⟨gf,x.bf,x.bd,V,Y,.inl (by rw[e];rfl),.inr ⟨x,C,.inl rfl⟩,.inr ⟨x,C,.inr rfl⟩,rfl,?_,(D.blk x C).cell 0,X.cell 4⟩
 have K:=D.own
 rw[e]at K
 rw[K.cellAt _ (by omega)]
 simp[fg,J]
theorem uW{l:List Nat}(h:l.Nodup){i:Nat}(A:l[i]?=some a)(B:l[j]?=some a):i=j:=by
 induction l generalizing i j with
 |nil=>simp at A
 |cons b l ih=>
  rw[List.nodup_cons]at h
  cases i with
  |zero=>cases j with
   |zero=>rfl
   |succ j=>simp at A B;subst A;exact absurd (List.mem_of_getElem? B) h.1
  |succ i=>cases j with
   |zero=>simp at A B;subst B;exact absurd (List.mem_of_getElem? A) h.1
   |succ j=>exact congrArg (·+1) (ih h.2 (by simpa using A) (by simpa using B))
theorem mg{l:List Nat}{m:Nat}(h:l[j]?=some a):m∈l.take (j+1)↔m∈l.take j\/m=a:=by
 rw[List.take_add_one,h];simp
theorem BY{l:List Nat}(h:l.Nodup)(B:l[j]?=some a):a∉l.take j:=fun e=>by
 obtain⟨i,C,D⟩:=List.getElem_of_mem e
 have A:i< j:=by simp at C;omega
 have:l[i]?=some a:=by rw[<-D];simp
 have:=uW h this B
 omega
structure uc(w wr:World)(bn bm bp n B B2:Nat)(f:aJ->Option (Nat×Nat))(F:Nat->Nat->Prop)(bds ks:List Nat)(fs:List Fn)(fv dv:Value)(np:List Nat)(lcs:List Lc)(R:Except (Nat×Nat) (List Pd×List Ph))(j:Nat)(l:List Pd)(pl news gos:Nat)(lv:Value)(done:List Nat)(hs:List Ph):Prop where
 nb:aM wr bn (yO bp bm fv news gos)
 th:ei wr bm n f
 dl:DL wr F bds l
 fl:FL wr B bds ks fs fv
 pb:aM wr bp #[dv,lv]
 own:wr.ownsRow B2 167 1 lv done.length (fg done)
 dn:done.length=pl
 p48:pl<=48
 n6:news<=6
 g5:gos<=5
 lo:∀(i:Nat) (x:Fn) (c:Lc),j<=i->fs[i]?=some x->lcs[i]?=some c->eP wr x.bl c.c c.g/\c.c<=6
 npl:FU np ks l
 hd:ib wr (fun i=>(∃k,k∈ks.take j/\F k i)/\i∉bds) done hs
 hz:∀(i k:Nat) (d:Pd),j<=i->ks[i]?=some k->l[k]?=some d->im d.body/\d.body.length<=1000000
 eq:R=match ju f np ((ks.zip lcs).drop j) pl news gos l with|.error e=>.error e|.ok (l',m)=>.ok (l',hs++m)
 kp:aC (fun i=>i=bn\/i=bp\/i∈qm fs\/(∃k,F k i)\/B2<=i) w wr
 le:B2<=wr.heap.size
structure BF(bn bm bp B B2:Nat)(f:aJ->Option (Nat×Nat))(F:Nat->Nat->Prop)(bds ks:List Nat)(fs:List Fn)(fv:Value)(np:List Nat)(lcs:List Lc):Prop where
 pf:PF bn bm bp B F ks fs
 b2:B<=B2
 fb:∀i∈qm fs,i< B2
 fo:∀i,fv.ownBlock=some i->B<=i/\i< B2/\i∉qm fs
 bd:∀x∈fs,∃k,F k x.bd/\bds[k]?=some x.bd
 fm:∀t m,dK f t 2=some m->m< np.length
 few:np.length<=1000000
 ll:lcs.length=ks.length
 bf:∀(k b:Nat),bds[k]?=some b->F k b
section
variable {w wr w':World} {bn bm bp n B B2:Nat} {f:aJ->Option (Nat×Nat)} {F:Nat->Nat->Prop} {bds ks:List Nat} {fs:List Fn} {fv dv:Value} {np:List Nat} {lcs:List Lc} {R:Except (Nat×Nat) (List Pd×List Ph)} {j k:Nat} {l:List Pd} {pl news gos:Nat} {lv:Value} {done:List Nat} {hs:List Ph}
abbrev xK(bn bm bp n B2:Nat)(f:aJ->Option (Nat×Nat))(fs:List Fn)(fv dv:Value)(np:List Nat):Ev:=⟨bn,bm,bp,n,B2,f,FQ fs fv,np,fv,dv⟩
theorem BF.sys(g:BF bn bm bp B B2 f F bds ks fs fv np lcs){x:Fn}(E:fs[j]?=some x):KK (xK bn bm bp n B2 f fs fv dv np) x.bf x.bl:=by
 have K:=List.mem_of_getElem? E
 have A:=eD K
 have R:=g.pf.ge _ A.1
 have Q:=g.pf.ge _ A.2
 have N:=g.fb _ A.1
 have M:=g.fb _ A.2
 have P:=g.pf.nl
 have G:=g.pf.ml
 have hp:=g.pf.pl
 have L:=g.b2
 refine⟨g.pf.nm,g.pf.np,by show bn≠x.bl;omega,g.pf.mp,by show bm≠x.bl;omega,by show bp≠x.bl;omega,by show x.bf≠bn;omega,by show x.bf≠bp;omega,(Fn.apart g.pf.fn E E).1,⟨by show bn< B2;omega,by show bm< B2;omega,by show bp< B2;omega,N,M⟩,fun i C=>?_,g.fm,g.few⟩
 show i< B2/\i≠bn/\i≠bp/\i≠x.bl
 rcases C with C|⟨y,J,C|C⟩
 ·have:=g.fo i C
  exact⟨this.2.1,by omega,by omega,fun e=>this.2.2 (e▸A.2)⟩
 ·have D:=eD J
  have:=g.pf.ge _ D.1
  have:=g.fb _ D.1
  obtain⟨m,G,O⟩:=List.getElem_of_mem J
  have H:fs[m]?=some y:=by rw[List.getElem?_eq_getElem G,O]
  exact⟨by omega,by omega,by omega,fun e=>(Fn.apart g.pf.fn H E).1 (by rw[<-C];exact e)⟩
 ·obtain⟨m,G,_⟩:=g.bd y J
  have:=g.pf.fo m _ G
  exact⟨by omega,by omega,by omega,by omega⟩
theorem BF.fp(g:BF bn bm bp B B2 f F bds ks fs fv np lcs){x:Fn}(E:fs[j]?=some x){P:Nat->Prop}(J:∀i,P i->F k i/\i∉bds):Fp (xK bn bm bp n B2 f fs fv dv np) x.bf x.bl P:=fun i G=>by
 obtain⟨M,L⟩:=J i G
 have C:=g.pf.fo k i M
 have A:=eD (List.mem_of_getElem? E)
 have:=g.pf.ge _ A.1
 have:=g.pf.ge _ A.2
 have H:=g.b2
 show i< B2/\i≠bn/\i≠bm/\i≠bp/\i≠x.bf/\i≠x.bl/\¬FQ fs fv i
 refine⟨by omega,C.2.1,C.2.2.1,C.2.2.2,by omega,by omega,fun e=>?_⟩
 rcases e with e|⟨y,D,e|e⟩
 ·have:=(g.fo i e).1;omega
 ·have:=g.pf.ge _ (eD D).1;omega
 ·obtain⟨m,_,K⟩:=g.bd y D
  exact L (e▸List.mem_of_getElem? K)
theorem uc.nw(h:uc w wr bn bm bp n B B2 f F bds ks fs fv dv np lcs R j l pl news gos lv done hs)(A:Lc):NW wr (xK bn bm bp n B2 f fs fv dv np) ⟨A,pl,news,gos⟩ lv done:=
 ⟨⟨h.nb,h.th,ym.of h.fl h.dl h.npl,h.n6,h.g5⟩,h.pb,h.own,h.dn,h.p48,h.le⟩
theorem uc.next{x:Fn}{d:Pd}{c:Lc}{st:St}{b:List eM}{p:Value}{sp sb:Value}{u:List Nat}{Q:Nat->Prop}(h:uc w wr bn bm bp n B B2 f F bds ks fs fv dv np lcs R j l pl news gos lv done hs)(g:BF bn bm bp B B2 f F bds ks fs fv np lcs)(t:fs[j]?=some x)(X:ks[j]?=some k)(hc:lcs[j]?=some c)(hd:l[k]?=some d)
  (r2:aM wr x.bd (nj d sp sb)) (r3:dL wr (F k) 119 3 sp d.params.length (lY d.params)) (r4:dL wr (F k) 167 1 sb u.length (fg u)) (r6:Gv (F k) Q x.bd sp sb)
  (s:aC (jZ (xK bn bm bp n B2 f fs fv dv np) x.bl (fun i=>Q i)) wr v) (e1:kQ f np ⟨c,pl,news,gos⟩ d.body=.ok (st,b)) (P:NW v (xK bn bm bp n B2 f fs fv dv np) st p (done++L)) (t1:cV v Q u b) (d1:ib v Q L (fU b)) (hw:w'=(v.setCell ⟨x.bd,6,none⟩ (.int .i64 st.lc.c)).drew):
  uc w w' bn bm bp n B B2 f F bds ks fs fv dv np lcs R (j+1) (l.set k {d with body:=b,locals:=st.lc.c}) st.pl st.news st.gos p (done++L) (hs++fU b):=by
 subst hw
 have K:bds[k]?=some x.bd:=h.fl.at_ j k x X t
 have M:F k x.bd:=g.bf k _ K
 have J:=g.pf.fo k _ M
 have ad:=g.b2
 have a1:=List.mem_of_getElem? t
 have T:=eD a1
 have a8:=g.pf.ge _ T.2
 have a9:=g.pf.ge _ T.1
 have ac:∀m b',bds[m]?=some b'->m≠k->b'≠x.bd:=fun m b' D G e=>G (g.pf.dj m k x.bd (e▸g.bf m b' D) M)
 have C:∀i,Q i->F k i/\i≠x.bd:=fun i A=>⟨(r6.q i A).1,(r6.q i A).2.1⟩
 have a6:∀i,Q i->i∉bds:=fun i A D=>by
  obtain⟨m,D,e⟩:=List.getElem_of_mem D
  have W:bds[m]?=some i:=by rw[List.getElem?_eq_getElem D,e]
  by_cases G:m=k
  ·subst G;rw[K]at W;cases W;exact(C _ A).2 rfl
  ·exact G (g.pf.dj m k i (g.bf m i W) (C i A).1)
 have o:∀i,i< B2->i≠bn->i≠bp->i≠x.bl->¬Q i->¬jZ (xK bn bm bp n B2 f fs fv dv np) x.bl (fun i=>Q i) i:=fun i h1 h2 N h4 h5 e=>by
  rcases e with e|e|e|e|e
  ·exact h5 e
  ·exact h2 e
  ·exact N e
  ·exact h4 e
  ·have e:B2<=i:=e;omega
 have O:aC (aK x.bd) v ((v.setCell (Ad x.bd 6) (aB st.lc.c)).drew):=((aC.refl (aK x.bd) v).set1 6 _).drew
 have H:=P.le
 have a:∀i,F k i->i≠x.bd->¬Q i->¬jZ (xK bn bm bp n B2 f fs fv dv np) x.bl (fun i=>Q i) i:=fun i A G hq=>by
  have:=g.pf.fo k i A
  exact o i (by omega) this.2.1 this.2.2.2 (by omega) hq
 have Z:¬jZ (xK bn bm bp n B2 f fs fv dv np) x.bl (fun i=>Q i) x.bd:=o _ (by omega) J.2.1 J.2.2.2 (by omega) (fun e=>(C _ e).2 rfl)
 have a7:aM v x.bd (nj d sp sb):=r2.kept s Z
 have V:ko ((v.setCell (Ad x.bd 6) (aB st.lc.c)).drew) (F k) x.bd {d with body:=b,locals:=st.lc.c}:=by
  refine⟨sp,sb,u,Q,M,(a7.set 6 _ (show 6< 7 by decide)).below ((Below.refl _ _).drew),⟨?_,r3.2⟩,⟨?_,r4.2⟩,?_,r6⟩
  ·refine bJ (bJ r3.1 s (fun i e=>a i (r3.2 i e) (fun z=>r6.rb (by rw[e,z])) (fun z=>(r6.q i z).2.2.1 e))) O (fun i e z=>r6.rb (by rw[e,(z:i=x.bd)]))
  ·refine bJ (bJ r4.1 s (fun i e=>a i (r4.2 i e) (fun z=>r6.bb (by rw[e,z])) (fun z=>(r6.q i z).2.2.2 e))) O (fun i e z=>r6.bb (by rw[e,(z:i=x.bd)]))
  ·refine t1.keep O (fun i A=>⟨?_,(C i A).2,A⟩)
   have:=g.pf.fo k i (C i A).1
   have H:B2<=v.heap.size:=H
   omega
 have E:aC (fun i=>jZ (xK bn bm bp n B2 f fs fv dv np) x.bl (fun i=>Q i) i\/i=x.bd) wr ((v.setCell (Ad x.bd 6) (aB st.lc.c)).drew):=(s.mono (fun i e=>.inl e)).trans (O.mono (fun i e=>.inr e))
 have nF:∀m i,m≠k->F m i->¬(jZ (xK bn bm bp n B2 f fs fv dv np) x.bl (fun i=>Q i) i\/i=x.bd):=fun m i D A e=>by
  have N:=g.pf.fo m i A
  rcases e with e|e
  ·exact o i (by omega) N.2.1 N.2.2.2 (by omega) (fun z=>D (g.pf.dj m k i A (C i z).1)) e
  ·subst e;exact D (g.pf.dj m k _ A M)
 have Y:∀i∈qm fs,i≠x.bl->¬(jZ (xK bn bm bp n B2 f fs fv dv np) x.bl (fun i=>Q i) i\/i=x.bd):=fun i A G e=>by
  have N:=g.pf.ge i A
  have hn:=g.pf.nl
  have hp:=g.pf.pl
  rcases e with e|e
  ·exact o i (g.fb i A) (by omega) (by omega) G (fun z=>by have:=g.pf.fo k i (C i z).1;omega) e
  ·omega
 have ab:k< l.length:=(List.getElem?_eq_some_iff.1 hd).1
 have aa:∀i,F k i->i< wr.heap.size:=fun i A=>by have:=g.pf.fo k i A;have:=h.le;omega
 refine⟨P.nb.nb.kept O (fun e=>J.2.1 (e:bn=x.bd).symm),P.nb.th.kept O (fun e=>J.2.2.1 (e:bm=x.bd).symm),h.dl.set E K V (fun m i D A=>⟨by have:=g.pf.fo m i A;have:=h.le;omega,nF m i D A⟩),h.fl.keep E (fun y S=>Y _ (eD S).1 (fun e=>?_)) (fun i e z=>?_),P.pb.kept O (fun e=>J.2.2.2 (e:bp=x.bd).symm),dw P.own O (fun i e=>by have e:i=x.bd:=e;show i< B2;omega),P.pl,P.p48,P.nb.n6,P.nb.g5,fun i y c' a3 S a5=>?_,h.npl.set hd rfl,?_,fun i m y a3 D S=>?_,?_,?_,Nat.le_trans H O.size⟩
 ·obtain⟨m,D,e2⟩:=List.getElem_of_mem S
  have a0:fs[m]?=some y:=by rw[List.getElem?_eq_getElem D,e2]
  exact(Fn.apart g.pf.fn a0 t).1 e
 ·have N:=g.fo i e
  have hn:=g.pf.nl
  have hp:=g.pf.pl
  rcases z with z|z
  ·exact o i N.2.1 (by omega) (by omega) (fun y=>N.2.2 (y▸T.2)) (fun y=>by have:=g.pf.fo k i (C i y).1;omega) z
  ·omega
 ·have N:=h.lo i y c' (by omega) S a5
  exact⟨N.1.kept E (Y _ (eD (List.mem_of_getElem? S)).2 ((Fn.apart g.pf.fn S t).2 (by omega)).1),N.2⟩
 ·refine(h.hd.keep E (fun i A=>?_)).app (d1.keep O (fun i A=>⟨fun e=>(C i A).2 e,⟨k,(mg X).2 (.inr rfl),(C i A).1⟩,a6 i A⟩))
  obtain⟨⟨m,D,A⟩,h2⟩:=A
  exact⟨nF m i (fun e=>BY g.pf.nd X (e▸D)) A,⟨m,(mg X).2 (.inl D),A⟩,h2⟩
 ·by_cases e:m=k
  ·subst e
   have:=uW g.pf.nd D X
   omega
  ·rw[List.getElem?_set_ne (fun z=>e z.symm)]at S
   exact h.hz i m y (by omega) D S
 ·have r:(ks.zip lcs)[j]?=some (k,c):=by rw[List.getElem?_zip_eq_some];exact⟨X,hc⟩
  have a2:=(List.getElem?_eq_some_iff.1 r).1
  have a4:(ks.zip lcs).drop j=(k,c)::(ks.zip lcs).drop (j+1):=by rw[List.drop_eq_getElem_cons a2,(List.getElem?_eq_some_iff.1 r).2]
  rw[h.eq,a4,ju,hd]
  simp only
  rw[e1]
  simp only
  cases ju f np ((ks.zip lcs).drop (j+1)) st.pl st.news st.gos (l.set k {d with body:=b,locals:=st.lc.c})with
  |error e=>rfl
  |ok z=>simp
 ·refine h.kp.trans (E.mono (fun i e=>?_))
  rcases e with(e|e|e|e|e)|e
  ·exact .inr (.inr (.inr (.inl ⟨k,(C i e).1⟩)))
  ·exact .inl e
  ·exact .inr (.inl e)
  ·exact .inr (.inr (.inl (by rw[e];exact T.2)))
  ·exact .inr (.inr (.inr (.inr e)))
  ·exact .inr (.inr (.inr (.inl ⟨k,e▸M⟩)))
end
end
theorem EM(l:List Pd):∀n k,k∈eA n l->n<=k:=by
 induction l with
 |nil=>intro n k h;simp[eA]at h
 |cons d l ih=>
  intro n k h
  unfold eA at h
  split at h
  ·rcases List.mem_cons.1 h with rfl|h
   ·omega
   ·have:=ih _ _ h;omega
  ·have:=ih _ _ h;omega
structure Jl(w:World)(P:Nat->Prop)(bp:Nat)(l:List Pd)(hs:List Ph):Prop where
 ex:∃(dv sv:Value) (bds done:List Nat) (F:Nat->Nat->Prop),aM w bp #[dv,sv]/\w.ownsRow 0 107 1 dv bds.length (fg bds)/\w.ownsRow 0 167 1 sv done.length (fg done)/\DL w F bds l/\Dj F/\(∀k i,F k i->P i/\i< w.heap.size)/\ib w P done hs/\(∀i,dv.ownBlock=some i->P i)/\(∀i,sv.ownBlock=some i->P i)/\P bp
theorem Jl.keep{w':World}{P P' S:Nat->Prop}{l:List Pd}{H:List Ph}(h:Jl w P a l H)(k:aC S w w')(A:∀i,P i->¬S i/\P' i):Jl w' P' a l H:=by
 obtain⟨dv,J,D,done,F,r1,r2,r3,r4,r5,r6,K,G,E,C⟩:=h.ex
 exact⟨dv,J,D,done,F,r1.kept k (A _ C).1,bJ r2 k (fun i e=>(A i (G i e)).1),bJ r3 k (fun i e=>(A i (E i e)).1),r4.keep k (fun j i B=>⟨(r6 j i B).2,(A i (r6 j i B).1).1⟩),r5,fun j i B=>⟨(A i (r6 j i B).1).2,Nat.lt_of_lt_of_le (r6 j i B).2 k.size⟩,K.keep k (fun i B=>A i B),fun i e=>(A i (G i e)).2,fun i e=>(A i (E i e)).2,(A _ C).2⟩
structure sf(l:List Pd):Prop where
 kd:∀d∈l,d.kind< 3/\d.name.length<=1000000
 ps:∀d∈l,(∀a,a∈d.params->a.text.length<=1000000)/\d.params.length<=1000000
 bs:∀d∈l,im d.body/\d.body.length<=1000000
 len:l.length<=1000000
 fm:∀l1 f c,dI (fun _=>none) (fun _=>0) l=.ok (l1,f,c)->∀t m,dK f t 2=some m->m< (jr l1).length
theorem vC{l:List Pd}:∀{f A:aJ->Option (Nat×Nat)} {c B:Nat->Nat} {l':List Pd},dI f c l=.ok (l',A,B)->l'.map (fun d=>{d with num:=0})=l.map (fun d=>{d with num:=0}):=by
 induction l with
 |nil=>intro f A c B l' h;rw[dI]at h;cases h;rfl
 |cons d l ih=>
  intro f A c B l' h
  rw[dI]at h
  split at h
  ·cases h
  ·split at h
   ·cases h
   ·split at h
    ·cases h
    ·rename_i r D E C
     cases h
     simp[ih C]
theorem sf.dec{l B:List Pd}{f:aJ->Option (Nat×Nat)}{c:Nat->Nat}(h:sf l)(H:dI (fun _=>none) (fun _=>0) l=.ok (B,f,c)):B.length=l.length/\∀(k:Nat) (d:Pd),B[k]?=some d->((∀a,a∈d.params->a.text.length<=1000000)/\d.params.length<=1000000)/\im d.body/\d.body.length<=1000000:=by
 have D:=vC H
 have A:B.length=l.length:=by have:=congrArg List.length D;simpa using this
 refine⟨A,fun k d G=>?_⟩
 have F:k< l.length:=by rw[<-A];exact(List.getElem?_eq_some_iff.1 G).1
 have C:(B.map (fun d=>{d with num:=0}))[k]?=some {d with num:=0}:=by rw[List.getElem?_map,G];rfl
 rw[D,List.getElem?_map,List.getElem?_eq_getElem F]at C
 simp only[Option.map_some,Option.some.injEq]at C
 have E:l[k]∈l:=List.getElem_mem F
 have K:l[k].params=d.params:=by have:=congrArg Pd.params C;exact this
 have J:l[k].body=d.body:=by have:=congrArg Pd.body C;exact this
 rw[<-K,<-J]
 exact⟨h.ps _ E,h.bs _ E⟩
theorem pN{f:aJ->Option (Nat×Nat)}(C:List Nat):∀{l l':List Pd} {A:List Lc},gG f C l=.ok (l',A)->∀(k:Nat) (d:Pd),l'[k]?=some d->∃B,l[k]?=some B/\d.body=B.body/\d.params.length=B.params.length:=by
 induction C with
 |nil=>intro l l' A h k d E;rw[gG]at h;cases h;exact⟨d,E,rfl,rfl⟩
 |cons m C ih=>
  intro l l' A h k d E
  rw[gG]at h
  cases D:l[m]? with
  |none=>rw[D]at h;cases h;exact⟨d,E,rfl,rfl⟩
  |some x=>
   rw[D]at h
   simp only at h
   unfold En at h
   cases hp:gR f ⟨fun _=>none,0⟩ 0 x.params with
   |error e=>rw[hp]at h;cases h
   |ok y=>
    obtain⟨r,L⟩:=y
    rw[hp]at h
    simp only at h
    cases G:gG f C (l.set m {x with params:=r})with
    |error e=>rw[G]at h;cases h
    |ok z=>
     obtain⟨M,H⟩:=z
     rw[G]at h
     simp only[Except.ok.injEq,Prod.mk.injEq]at h
     obtain⟨rfl,_⟩:=h
     obtain⟨B,F,K,J⟩:=ih G k d E
     by_cases e:k=m
     ·subst e
      rw[List.getElem?_set_self (List.getElem?_eq_some_iff.1 D).1]at F
      cases F
      refine⟨x,D,K,J.trans ?_⟩
      have:=congrArg List.length (rJ x.params hp)
      simpa using this
     ·rw[List.getElem?_set_ne (fun z=>e z.symm)]at F
      exact⟨B,F,K,J⟩
theorem xz(l:List Pd):∀n,(eA n l).Nodup:=by
 induction l with
 |nil=>intro n;simp[eA]
 |cons d l ih=>
  intro n
  unfold eA
  split
  ·rw[List.nodup_cons];exact⟨fun h=>by have:=EM _ _ _ h;omega,ih _⟩
  ·exact ih _
theorem DI.pars{bn g m:Nat}{F:Nat->Nat->Prop}{R:Except (Nat×Nat) (List Pd×(aJ->Option (Nat×Nat))×(Nat->Nat))}{A:List Pd}{f:aJ->Option (Nat×Nat)}{c:Nat->Nat}{fs:List Fn}(h:DI w v bn b g j m F l R A [] f c L fs y)(B:∀(k:Nat) (d:Pd),A[k]?=some d->(∀a,a∈d.params->a.text.length<=1000000)/\d.params.length<=1000000):
  yh v v bn b g A.length (m+1) f F l L fs y (gG f L A) 0 A []:=by
 refine⟨h.nb,h.th,by simpa using h.dl,h.fl,fun i x c _ D=>by simp at D,fun i x _ C=>h.lc x (List.mem_of_getElem? C),rfl,B,?_,aC.refl _ _⟩
 simp only[List.drop_zero,List.nil_append]
 cases gG f L A with
 |error e=>rfl
 |ok x=>rfl
theorem yh.bods{bn:Nat}{f:aJ->Option (Nat×Nat)}{F:Nat->Nat->Prop}{fs:List Fn}{dv:Value}{D C:List Pd}{A:List Lc}{np:List Nat}(h:yh w v bn a b n B f F l L fs y (gG f L D) L.length C A)(G:aM v b #[dv,bV])(E:FU np L D)(Q:∀(k:Nat) (d:Pd),D[k]?=some d->im d.body/\d.body.length<=1000000):
  gG f L D=.ok (C,A)/\uc v v bn a b n B v.heap.size f F l L fs y dv np A (ju f np (L.zip A) 0 0 0 C) 0 C 0 0 0 bV [] []:=by
 have H:gG f L D=.ok (C,A):=by have:=h.eq;rw[List.drop_length,gG]at this;simpa using this
 refine⟨H,h.nb,h.th,h.dl,h.fl,G,World.ownsRow_nil _ _ _ _,rfl,Nat.zero_le _,Nat.zero_le _,Nat.zero_le _,fun i x c _ N P=>h.l1 i x c N P,⟨E.1,fun m k d O J=>?_⟩,ib.nil,fun i k d _ _ J=>?_,?_,aC.refl _ _,Nat.le_refl _⟩
 ·obtain⟨M,K,_,R⟩:=pN L H k d J
  rw[R];exact E.2 m k M O K
 ·obtain⟨M,K,S,_⟩:=pN L H k d J
  rw[S];exact Q k M K
 ·simp only[List.drop_zero,List.nil_append]
  cases ju f np (L.zip A) 0 0 0 C with
  |error e=>rfl
  |ok x=>rfl
theorem uc.done{wr:World}{bn c:Nat}{f:aJ->Option (Nat×Nat)}{F:Nat->Nat->Prop}{C:List Nat}{fs:List Fn}{dv:Value}{np:List Nat}{A:List Lc}{R:Except (Nat×Nat) (List Pd×List Ph)}{l:List Pd}{d e g:Nat}{z:Value}{done:List Nat}{D:List Ph}(h:uc w wr bn a b n B c f F L C fs y dv np A R C.length l d e g z done D)(E:A.length=C.length):R=.ok (l,D):=by
 have:=h.eq
 rw[List.drop_of_length_le (by simp[E]),ju]at this
 simpa using this
theorem Cb{P:Nat->Prop}{o:Nat}{l:List Pd}(h:Dp w P o l)(hP:∀i,P i->i< w.heap.size)(b9:sf l):
  Calls Tryz.prog 24 #[Pt o 0] w fun r w'=>aC P w w'/\((∃l3 hs,eE l=.ok (l3,hs)/\r=.returned (.tuple #[])/\Jl w' (fun i=>P i\/w.heap.size<=i) o l3 hs)\/(∃e a,eE l=.error (e,a)/\dA w' r e a)):=by
 obtain⟨dv,V,Q,g1,g2,g3,g4,g5,g6⟩:=h
 obtain⟨F,f1,f2,f3⟩:=DL.of g4
 obtain⟨a4,HP⟩:=aN b9 hP
 have a8:(Instr.makeMap 110 none).run Tryz.prog w=.ok (.map (some w.heap.size)) (w.alloc (.map #[] 0)):=rfl
 have bt:=hP o g1
 have k1:aC (fun _=>False) w ((w.alloc (.map #[] 0)).alloc (.cells (yO o w.heap.size bV 0 0) 113)):=((aC.refl _ w).alloc _).alloc _
 have t:∀k i,F k i->i< w.heap.size/\i≠o:=fun k i B=>⟨hP i (g5 i (f3 k i B)).1,(g5 i (f3 k i B)).2.1⟩
 have cd:((w.alloc (.map #[] 0)).alloc (.cells (yO o w.heap.size bV 0 0) 113)).heap.size=w.heap.size+2:=by simp
 have c7:Hid (DF ((w.alloc (.map #[] 0)).alloc (.cells (yO o w.heap.size bV 0 0) 113)) (w.heap.size+1) w.heap.size ((w.alloc (.map #[] 0)).alloc (.cells (yO o w.heap.size bV 0 0) 113)).heap.size (((w.alloc (.map #[] 0)).alloc (.cells (yO o w.heap.size bV 0 0) 113)).heap.size+1) F):=
  ⟨by omega,f2,fun k i B=>⟨by have:=(t k i B).1;omega,by have:=(t k i B).1;omega,by have:=(t k i B).1;omega⟩,by omega,by omega,Nat.le_refl _,by omega⟩
 have HD:=aG (Ia (P':=fun i=>dv.ownBlock=some i) (aM.newAt (w.alloc (.map #[] 0)) (yO o w.heap.size bV 0 0) 113 (w.heap.size+1) (by simp)) ((ei.made w).kept (S:=fun _=>False) ((aC.refl _ _).alloc _) (fun e=>e)) (g2.kept k1 (fun e=>e)) ⟨bJ g3.1 k1 (fun _ _ e=>e),fun i e=>e⟩ (f1.keep k1 (fun j i B=>⟨(t j i B).1,fun e=>e⟩)) c7 a4.kd (fun e=>by
  rcases e with e|e|⟨k,e⟩
  ·omega
  ·omega
  ·exact(t k o e).2 rfl) (fun i B e=>by
  have cg:=hP i (g3.2 i B)
  rcases e with e|e|⟨k,e⟩
  ·omega
  ·omega
  ·exact(g5 i (f3 k i e)).2.2 B) (by rw[f1.len];exact a4.len))
 obtain⟨K,G,ax⟩:=bY (And.intro f2 (And.intro t f3)) (And.intro g1 (And.intro g2 (And.intro g3 (And.intro g5 g6)))) k1
 have bn:Hid (eE l=match dI (fun _=>none) (fun _=>0) l with|.error e=>.error e|.ok (A,f,_)=>match gG f (eA 0 A) A with|.error e=>.error e|.ok (l2,E)=>match ju f (jr A) ((eA 0 A).zip E) 0 0 0 l2 with|.error e=>.error e|.ok l3=>if jW f (jr A)then .ok l3 else .error (11,0)):=rfl
 have av:Hid (∀(w2:World),aC (Jd (w.heap.size+1) w.heap.size F) ((w.alloc (.map #[] 0)).alloc (.cells (yO o w.heap.size bV 0 0) 113)) w2->aC P w w2):=fun w2 y=>(ax.mono (fun _ e=>e.elim)).trans' y (fun i e=>by
  rcases e with e|e|⟨k,e⟩
  ·exact .inr (by omega)
  ·exact .inr (by omega)
  ·exact .inl (g5 i (f3 k i e)).1)
 clear g1 g2 g3 g4 g5 g6 f1 f2 f3 b9 hP t k1
 generalize b4:(w.alloc (.map #[] 0)).alloc (.cells (yO o w.heap.size bV 0 0) 113)=w1 at *
 have bw:Hid ((w.alloc (.map #[] 0)).alloc (.cells #[Pt o 0,.map (some w.heap.size),.slice none 0 0,aB 0,aB 0] 113)=w1):=b4
 clear b4
 go_in
 go_wp2_with fail
 rw[bw.out]
 refine HD.mono ?_
 rintro e w2 ⟨aa,L⟩
 rcases L with⟨A,f,c,fs,fv,q1,rfl,R⟩|⟨er,a,q1,b2,rfl,Z⟩
 case inr=>
  have HX:=aG (And.intro (av w2 aa) Z)
  have HE:Hid (eE l=.error (er,a)):=by show _=_;rw[bn.out,q1]
  clear q1 Z aa
  go_wp2_with fail
  exact⟨rfl,HX.1,.inr ⟨er,a,HE,b2,rfl,HX.2⟩⟩
 case inl=>
 clear a8
 obtain⟨c6,ay,c4,af⟩:=fK R (a4.dec q1) (a4.fm A f c q1) aa
 have bo:Hid (eE l=match gG f (eA 0 A) A with|.error e=>.error e|.ok (l2,E)=>match ju f (jr A) ((eA 0 A).zip E) 0 0 0 l2 with|.error e=>.error e|.ok l3=>if jW f (jr A)then .ok l3 else .error (11,0)):=by show _=_;rw[bn.out,q1]
 have C:Hid (PF (w.heap.size+1) w.heap.size o (w1.heap.size+1+1) F (eA 0 A) fs):=
  ⟨by omega,by omega,by omega,K.1,fun k i B=>by have:=K.2.1 k i B;exact⟨by omega,by omega,by omega,this.2⟩,by omega,by omega,by omega,xz _ _,fun i B=>(R.fl.ge i B).1,R.fl.nd⟩
 have c1:=aG (R.pars (fun k d Y=>(ay.2 k d Y).1))
 obtain⟨pw,cw,rfl⟩:=aI R.fl.own
 have c2:Ce w2 (w.heap.size+1) 2 (.slice pw fs.length cw):=R.nb.cell 2
 have bs:fs.length<=1000000:=by
  have h1:=R.fl.len
  have h2:=mZ A 0
  have Z:(jr A).length<=A.length:=by unfold jr;rw[List.length_map];exact List.length_filter_le _ _
  have h4:=ay.1
  have h5:=a4.len
  omega
 have u:Hid ((eA 0 A).length=fs.length):=R.fl.len
 clear aa R q1
 go_wp2_with fail
 clear c2
 go_loopw [18] (fun i wr=>∃(j:Nat) (lx:List Pd) (E:List Lc),i=aB j/\j<=fs.length/\Hid (yh w2 wr (w.heap.size+1) w.heap.size o A.length (w1.heap.size+1+1) f F V (eA 0 A) fs (.slice pw fs.length cw) (gG f (eA 0 A) A) j lx E)) (fun i _=>fs.length-(intOf i).toNat)
 case atStart=>exact⟨0,A,[],rfl,Nat.zero_le _,c1⟩
 case round=>
  obtain⟨j,lx,E,rfl,a1,X⟩:=hrel
  by_cases hj:j=fs.length
  ·have a9:¬((j:Int)< (fs.length:Int)):=by omega
   have a2:j=(eA 0 A).length:=by rw[u.out];exact hj
   have D:=X.out
   rw[a2]at D
   have ag:∀i,i< w.heap.size->(∀k,¬F k i)->¬Jd (w.heap.size+1) w.heap.size F i/\¬(i∈qm fs\/∃k,F k i):=fun i B hn=>⟨fun e=>by
    rcases e with e|e|⟨m,e⟩
    ·omega
    ·omega
    ·exact hn m e,fun e=>by
    rcases e with e|⟨m,e⟩
    ·have:=C.ge i e;omega
    ·exact hn m e⟩
   have ai:=ag o bt (fun k e=>(K.2.1 k o e).2 rfl)
   have b8:aM wr o #[dv,bV]:=((G.2.1.kept ax (fun e=>e)).kept af ai.1).kept D.kp ai.2
   have ao:∀i,dv.ownBlock=some i->¬Jd (w.heap.size+1) w.heap.size F i/\¬(i∈qm fs\/∃k,F k i):=fun i e=>ag i (HP i (G.2.2.1.2 i e)) (fun k z=>(G.2.2.2.1 i (K.2.2 k i z)).2.2 e)
   have c5:Hid (wr.ownsRow 0 107 1 dv V.length (fg V)):=bJ (bJ (bJ G.2.2.1.1 ax (fun _ _ e=>e)) af (fun i e=>(ao i e).1)) D.kp (fun i e=>(ao i e).2)
   obtain⟨b7,bh⟩:=D.bods (np:=jr A) b8 (FU.mk A) (fun k d Y=>(ay.2 k d Y).2)
   have c8:=aG bh
   have b6:w1.heap.size+1+1<=wr.heap.size:=by
    have h1:=c6.mb.lt
    have h2:=X.kp.size
    omega
   have ap:∀(k b:Nat),V[k]?=some b->F k b:=fun k b hb=>by
    obtain⟨d,Y⟩:∃d,lx[k]?=some d:=⟨_,List.getElem?_eq_getElem (by rw[<-D.dl.len];exact(List.getElem?_eq_some_iff.1 hb).1)⟩
    obtain⟨_,_,_,_,h1,_⟩:=D.dl.rep k b d hb Y
    exact h1
   have N:Hid (BF (w.heap.size+1) w.heap.size o (w1.heap.size+1+1) wr.heap.size f F V (eA 0 A) fs (.slice pw fs.length cw) (jr A) E):=by
    refine⟨C,b6,fun i B=>(D.fl.ge i B).2.1,fun i e=>⟨(D.fl.own.lt i e).1,(D.fl.own.lt i e).2,fun B=>(D.fl.ge i B).2.2 e⟩,fun x L=>?_,c4,?_,by rw[D.len],ap⟩
    ·obtain⟨m,hm,e2⟩:=List.getElem_of_mem L
     have bq:fs[m]?=some x:=by rw[List.getElem?_eq_getElem hm,e2]
     obtain⟨k,y⟩:∃k,(eA 0 A)[m]?=some k:=⟨_,List.getElem?_eq_getElem (by rw[u.out];exact hm)⟩
     have hb:=D.fl.at_ m k x y bq
     exact⟨k,ap k _ hb,hb⟩
    ·rw[<-mZ A 0,u.out];exact bs
   have a7:Hid (eE l=match ju f (jr A) ((eA 0 A).zip E) 0 0 0 lx with|.error e=>.error e|.ok l3=>if jW f (jr A)then .ok l3 else .error (11,0)):=by show _=_;rw[bo.out,b7]
   have a5:Hid (aC P w wr):=(av w2 af).trans' D.kp (fun i e=>by
    rcases e with e|⟨m,e⟩
    ·have:=C.ge i e;exact .inr (by omega)
    ·exact .inl (G.2.2.2.1 i (K.2.2 m i e)).1)
   have bm:Hid (E.length=(eA 0 A).length):=by show _=_;rw[D.len]
   have c2:Ce wr (w.heap.size+1) 2 (.slice pw fs.length cw):=D.nb.cell 2
   clear D a2 hj a1 ag ai b8 ao b7 bh ap
   go_wp2_with fail
   clear c2 a9
   obtain⟨v,rfl⟩:∃x,x=wr:=⟨wr,rfl⟩
   go_loopw [31] (fun i wx=>∃(j:Nat) (ly:List Pd) (pl W a3:Nat) (lv:Value) (done:List Nat) (hs:List Ph),i=aB j/\j<=fs.length/\Hid (uc v wx (w.heap.size+1) w.heap.size o A.length (w1.heap.size+1+1) v.heap.size f F V (eA 0 A) fs (.slice pw fs.length cw) dv (jr A) E (ju f (jr A) ((eA 0 A).zip E) 0 0 0 lx) j ly pl W a3 lv done hs)) (fun i _=>fs.length-(intOf i).toNat)
   case atStart=>exact⟨0,lx,0,0,0,bV,[],[],rfl,Nat.zero_le _,c8⟩
   case round=>
    obtain⟨j,ly,pl,W,a3,lv,done,hs,rfl,a1,O⟩:=hrel
    have au:Hid (∀(S:Nat->Prop) (wt:World),aC S wr wt->(∀i,S i->i=w.heap.size+1\/i=o\/i∈qm fs\/(∃k,F k i)\/v.heap.size<=i)->aC P w wt):=fun S wt y hS=>by
     refine a5.trans' (O.kp.trans (y.mono hS)) (fun i e=>?_)
     have b3:w.heap.size<=v.heap.size:=a5.size
     rcases e with e|e|e|⟨m,e⟩|e
     ·exact .inr (by omega)
     ·exact .inl (e▸G.1)
     ·have:=C.ge i e;exact .inr (by omega)
     ·exact .inl (G.2.2.2.1 i (K.2.2 m i e)).1
     ·exact .inr (by omega)
    by_cases hj:j=fs.length
    ·have a9:¬((j:Int)< (fs.length:Int)):=by omega
     have a2:j=(eA 0 A).length:=by rw[u.out];exact hj
     have aq:=O.out
     rw[a2]at aq
     have bk:=aG (aq.done bm)
     have c0:Hid (NB wr (w.heap.size+1) w.heap.size o A.length f (FQ fs (.slice pw fs.length cw)) (jr A) (.slice pw fs.length cw) W a3):=(O.nw ⟨fun _=>none,0⟩).nb
     have HM:=aG (Kf c0 N.fm N.few)
     clear aq a2 hj a1
     go_wp2_with fail
     refine HM.mono ?_
     rintro e w4 ⟨ad,⟨hm,rfl⟩|⟨hm,b2,rfl,Z⟩⟩
     ·have a6:Hid (eE l=.ok (ly,hs)):=by show _=_;rw[a7.out,bk.out];simp only;rw[if_pos hm]
      have c9:=aG ad
      clear ad hm
      go_wp2_with fail
      go_end0
      have k4:aC (fun _=>False) wr w4:=aC.of_below c9
      refine⟨au _ w4 k4 (fun _ e=>e.elim),.inl ⟨ly,hs,a6,rfl,⟨dv,lv,V,done,F,O.pb.kept k4 (fun e=>e),?_,bJ (cU O.own (Nat.zero_le _)) k4 (fun _ _ e=>e),O.dl.keep k4 (fun k i B=>⟨?_,fun e=>e⟩),K.1,fun k i B=>⟨.inl (G.2.2.2.1 i (K.2.2 k i B)).1,by have h1:=(K.2.1 k i B).1;have h2:w.heap.size<=v.heap.size:=a5.size;have Z:=O.le;have h4:=k4.size;omega⟩,O.hd.keep k4 (fun i B=>⟨fun e=>e,?_⟩),fun i e=>.inl (G.2.2.1.2 i e),fun i e=>.inr ?_,.inl G.1⟩⟩⟩
      ·refine bJ (bJ c5 O.kp (fun i e z=>?_)) k4 (fun _ _ e=>e)
       have B:=HP i (G.2.2.1.2 i e)
       have b3:w.heap.size<=v.heap.size:=a5.size
       rcases z with z|z|z|⟨m,z⟩|z
       ·omega
       ·exact G.2.2.2.2 (by rw[e,z])
       ·have:=C.ge i z;omega
       ·exact(G.2.2.2.1 i (K.2.2 m i z)).2.2 e
       ·omega
      ·have:=C.fo k i B
       have:=N.b2
       have:=O.le
       omega
      ·obtain⟨⟨m,_,B⟩,_⟩:=B
       exact .inl (G.2.2.2.1 i (K.2.2 m i B)).1
      ·have:=(O.own.lt i e).1
       have b3:w.heap.size<=v.heap.size:=a5.size
       omega
     ·have a6:Hid (eE l=.error (11,0)):=by show _=_;rw[a7.out,bk.out];simp only;rw[if_neg (by rw[hm];decide)]
      have bj:=aG (And.intro (au _ w4 (aC.of_below (S:=fun _=>False) ad) (fun _ e=>e.elim)) Z)
      clear ad hm Z
      go_wp2_with fail
      exact⟨rfl,bj.1,.inr ⟨11,0,a6,b2,rfl,bj.2⟩⟩
    ·have a0:j< fs.length:=by omega
     have a9:(j:Int)< (fs.length:Int):=by omega
     clear hj a1
     obtain⟨x,L⟩:∃x,fs[j]?=some x:=⟨_,List.getElem?_eq_getElem a0⟩
     obtain⟨k,y⟩:∃k,(eA 0 A)[j]?=some k:=⟨_,List.getElem?_eq_getElem (by rw[u.out];exact a0)⟩
     obtain⟨c,hc⟩:∃c,E[j]?=some c:=⟨_,List.getElem?_eq_getElem (by rw[bm.out,u.out];exact a0)⟩
     have T:=O.fl.at_ j k x y L
     obtain⟨d,Y⟩:∃d,ly[k]?=some d:=⟨_,List.getElem?_eq_getElem (by rw[<-O.out.dl.len];exact(List.getElem?_eq_some_iff.1 T).1)⟩
     obtain⟨sp,sb,bb,Qb,r1,r2,r3,r4,r5,r6⟩:=O.dl.rep k x.bd d T Y
     obtain⟨gw,rfl⟩:∃gw,pw=some (Ad gw 0):=by
      obtain⟨g,c,e⟩:=aO O.fl.own (by omega)
      cases e;exact⟨g,rfl⟩
     have s:wr.cell? (Ad gw j)=some (aF x.bf):=by
      rw[O.out.fl.own.cellAt _ (by omega)]
      simp[fg,L]
     have ab:wr.cell? (Ad gw (j*1))=some (aF x.bf):=by rw[Nat.mul_one];exact s
     have p:=List.mem_of_getElem? L
     have ac:=O.fl.blk x p
     have b0:Ce wr x.bf 0 (aF x.bd):=ac.cell 0
     have b5:Ce wr x.bd 5 sb:=r2.cell 5
     have aj:∀i,F k i->i≠x.bd->i∉V:=fun i B br hm=>by
      obtain⟨m,hm,e⟩:=List.getElem_of_mem hm
      have ak:V[m]?=some i:=by rw[List.getElem?_eq_getElem hm,e]
      by_cases a8:m=k
      ·subst a8;rw[T]at ak;cases ak;exact br rfl
      ·exact a8 (C.dj m k i (N.bf m i ak) B)
     have am:=O.lo j x c (Nat.le_refl _) L hc
     have ah:=O.hz j k d (Nat.le_refl _) y Y
     obtain⟨bx,c3⟩:=aN (N.sys (n:=A.length) (dv:=dv) L) (N.fp (n:=A.length) (dv:=dv) (k:=k) L (P:=Qb) (fun i B=>⟨(r6.q i B).1,aj i (r6.q i B).1 (r6.q i B).2.1⟩))
     obtain⟨HC,J,az⟩:=bY (xp d.body wr (xK (w.heap.size+1) w.heap.size o A.length v.heap.size f fs (.slice (some (Ad gw 0)) fs.length cw) dv (jr A)) x.bf x.bl Qb (fun i=>sb.ownBlock=some i) bb sb ⟨c,pl,W,a3⟩ lv done (O.nw c) ⟨ac.cell 1,am.1,am.2⟩ bx c3 (N.fp (k:=k) L (fun i B=>⟨r4.2 i B,aj i (r4.2 i B) (fun e=>r6.bb (by rw[B,e]))⟩)) (fun i B e=>(r6.q i e).2.2.2 B) ⟨r4.1,fun i e=>e⟩ r5 ah.1 ah.2) (And.intro L (And.intro y (And.intro hc (And.intro Y (And.intro r2 (And.intro r3 (And.intro r4 r6))))))) ac
     have M:=eD p
     have bv:Hid (∀i,jZ (xK (w.heap.size+1) w.heap.size o A.length v.heap.size f fs (.slice (some (Ad gw 0)) fs.length cw) dv (jr A)) x.bl Qb i->i=w.heap.size+1\/i=o\/i∈qm fs\/(∃k,F k i)\/v.heap.size<=i):=fun i e=>by
      rcases e with e|e|e|e|e
      ·exact .inr (.inr (.inr (.inl ⟨k,(r6.q i e).1⟩)))
      ·exact .inl e
      ·exact .inr (.inl e)
      ·exact .inr (.inr (.inl (by rw[e];exact M.2)))
      ·exact .inr (.inr (.inr (.inr e)))
     have ar:Hid (¬jZ (xK (w.heap.size+1) w.heap.size o A.length v.heap.size f fs (.slice (some (Ad gw 0)) fs.length cw) dv (jr A)) x.bl Qb x.bf):=fun e=>by
      have h1:=C.ge _ M.1
      have h2:=N.fb _ M.1
      rcases e with e|e|e|e|e
      ·have:=C.fo k _ (r6.q _ e).1;omega
      ·have e:x.bf=w.heap.size+1:=e;omega
      ·have e:x.bf=o:=e;omega
      ·exact(Fn.apart C.fn L L).1 e
      ·have e:v.heap.size<=x.bf:=e;omega
     have bi:=N.bf k _ T
     have bz:Hid (¬jZ (xK (w.heap.size+1) w.heap.size o A.length v.heap.size f fs (.slice (some (Ad gw 0)) fs.length cw) dv (jr A)) x.bl Qb x.bd):=fun e=>by
      have h1:=C.fo k _ bi
      have h2:=C.ge _ M.2
      have Z:=N.b2
      rcases e with e|e|e|e|e
      ·exact(r6.q _ e).2.1 rfl
      ·exact h1.2.1 e
      ·exact h1.2.2.2 e
      ·have e:x.bd=x.bl:=e;omega
      ·have e:v.heap.size<=x.bd:=e;omega
     clear L y hc Y T r1 r2 r3 r4 r5 r6 p ac aj am ah M bi
     go_wp2_with fail
     refine HC.mono ?_
     rintro e w3 ⟨H,⟨ca,l',cc,L2,e2,rfl,n2,f2,t2,d2⟩|⟨er,a,e2,b2,rfl,Z⟩⟩
     ·have y0:Ce w3 x.bf 0 (aF x.bd):=(az.kept H ar).cell 0
      have y1:Ce w3 x.bf 1 (.map (some x.bl)):=(az.kept H ar).cell 1
      have ae:=J.2.2.2.2.1.kept H bz
      have y6:Ce w3 x.bd 6 (aB d.locals):=ae.cell 6
      have yf:=ae.fz
      have cf:x.bf< w3.heap.size:=(az.kept H ar).lt
      have ce:=ae.lt
      have e4:=(f2.lc.move (w':=w3.drew) rfl).len 3
      have HN:=aG (O.next N J.1 J.2.1 J.2.2.1 J.2.2.2.1 J.2.2.2.2.1 J.2.2.2.2.2.1 J.2.2.2.2.2.2.1 J.2.2.2.2.2.2.2 H e2 n2 t2 d2 rfl)
      clear H e2 n2 f2 t2 d2 ae
      go_wp2_with fail
      go_region
      all_goals
       go_wp2_with fail
       go_roundw
       case rel=>exact⟨j+1,_,_,_,_,_,_,_,by go_num,by omega,HN⟩
       case measure=>simp[intOf];omega
     ·have a6:Hid (eE l=.error (er,a)):=by
       show _=_
       have b1:((eA 0 A).zip E)[j]?=some (k,c):=by rw[List.getElem?_zip_eq_some];exact⟨J.2.1,J.2.2.1⟩
       have al:=(List.getElem?_eq_some_iff.1 b1).1
       have an:((eA 0 A).zip E).drop j=(k,c)::((eA 0 A).zip E).drop (j+1):=by rw[List.drop_eq_getElem_cons al,(List.getElem?_eq_some_iff.1 b1).2]
       have h5:=O.eq
       rw[an,ju,J.out.2.2.2.1]at h5
       simp only at h5
       have e2:kQ f (jr A) ⟨c,pl,W,a3⟩ d.body=.error (er,a):=e2
       rw[e2]at h5
       rw[a7.out,h5]
      have aw:=aG (au _ w3 H bv)
      replace Z:=aG Z
      clear H e2
      go_wp2_with fail
      exact⟨rfl,aw,.inr ⟨er,a,a6,b2,rfl,Z⟩⟩
  ·have a0:j< fs.length:=by omega
   have a9:(j:Int)< (fs.length:Int):=by omega
   clear hj a1
   obtain⟨x,L⟩:∃x,fs[j]?=some x:=⟨_,List.getElem?_eq_getElem a0⟩
   obtain⟨k,y⟩:∃k,(eA 0 A)[j]?=some k:=⟨_,List.getElem?_eq_getElem (by rw[u.out];exact a0)⟩
   have T:=X.fl.at_ j k x y L
   obtain⟨d,Y⟩:∃d,lx[k]?=some d:=⟨_,List.getElem?_eq_getElem (by rw[<-X.out.dl.len];exact(List.getElem?_eq_some_iff.1 T).1)⟩
   obtain⟨gw,rfl⟩:∃gw,pw=some (Ad gw 0):=by
    obtain⟨g,c,e⟩:=aO X.fl.own (by omega)
    cases e;exact⟨g,rfl⟩
   have s:wr.cell? (Ad gw j)=some (aF x.bf):=by
    rw[X.out.fl.own.cellAt _ (by omega)]
    simp[fg,L]
   have ab:wr.cell? (Ad gw (j*1))=some (aF x.bf):=by rw[Nat.mul_one];exact s
   have p:=List.mem_of_getElem? L
   have M:=eD p
   have bg:=C.ge _ M.1
   have be:=C.ge _ M.2
   have HC:=aG (Ke ⟨X.nb.cell 1,X.th⟩ (X.fl.blk x p) (X.l2 j x (Nat.le_refl _) L) (X.dl.rep k x.bd d T Y) (fun i B=>by
    have h1:=C.fo k i B
    have h2:=(X.fl.ge _ M.1).2.1
    exact⟨by omega,h1.2.1,h1.2.2.1,by omega,by omega⟩) (by omega) (by omega) (Fn.apart C.fn L L).1 (X.hz k d Y).1 (X.hz k d Y).2)
   obtain⟨HX,bu⟩:=aN (And.intro L (And.intro y Y)) M.2
   clear L y Y T p M bg be
   go_wp2_with fail
   refine HC.mono ?_
   rintro e w3 ⟨H,⟨cb,l',e1,rfl,r1,r2,r3,r4⟩|⟨er,a,e1,b2,rfl,Z⟩⟩
   ·have HN:=aG (X.next C HX.1 HX.2.1 HX.2.2 H e1 r1 r2 r3 r4)
    clear H e1 r1 r2 r3 r4
    go_wp2_with fail
    go_roundw
    case rel=>exact⟨j+1,_,_,by go_num,by omega,HN⟩
    case measure=>simp[intOf];omega
   ·have a7:Hid (eE l=.error (er,a)):=by
     show _=_
     have an:(eA 0 A).drop j=k::(eA 0 A).drop (j+1):=by
      have al:=(List.getElem?_eq_some_iff.1 HX.2.1).1
      rw[List.drop_eq_getElem_cons al,(List.getElem?_eq_some_iff.1 HX.out.2.1).2]
     have h5:=X.eq
     rw[an,gG,HX.out.2.2]at h5
     simp only at h5
     unfold En at h5
     rw[e1]at h5
     rw[bo.out,h5]
    have aw:Hid (aC P w w3):=(av w2 af).trans' ((X.kp.trans (H.mono (fun i e=>by
     rcases e with e|e
     ·exact .inl (by rw[e];exact bu)
     ·exact .inr ⟨k,e⟩)))) (fun i e=>by
     rcases e with e|⟨m,e⟩
     ·have:=C.ge i e;exact .inr (by omega)
     ·exact .inl (G.2.2.2.1 i (K.2.2 m i e)).1)
    replace Z:=aG Z
    clear H e1
    go_wp2_with fail
    exact⟨rfl,aw,.inr ⟨er,a,a7,b2,rfl,Z⟩⟩
theorem Af{l:List Pd}:∀{f D:aJ->Option (Nat×Nat)} {c C:Nat->Nat} {l':List Pd},dI f c l=.ok (l',D,C)->(∀t m,f t=some (2,m)->m< c 2)->C 2=c 2+(jr l').length/\∀t m,D t=some (2,m)->m< C 2:=by
 induction l with
 |nil=>intro f D c C l' h E;rw[dI]at h;cases h;exact⟨by simp[jr],E⟩
 |cons d l ih=>
  intro f D c C l' h E
  rw[dI]at h
  split at h
  ·cases h
  ·split at h
   ·cases h
   ·split at h
    ·cases h
    ·rename_i J L M e
     cases h
     obtain⟨H,G⟩:=ih e (fun t m A=>by
      unfold putF at A
      unfold qd
      split at A
      ·simp only[Option.some.injEq,Prod.mk.injEq]at A
       obtain⟨F,K⟩:=A
       rw[if_pos F.symm]
       omega
      ·have:=E t m A
       split
       ·rename_i B;rw[<-B];omega
       ·exact this)
     refine⟨?_,G⟩
     rw[H]
     unfold qd jr
     rw[List.filter_cons]
     by_cases B:d.kind=2
     ·simp[B];omega
     ·simp[B,Ne.symm B]
def iW(w w':World)(l3:List Pd)(hs:List Ph)(bq:Nat):Prop:=∃bp,aM w' bq #[aF bp]/\Jl w' (fun i=>w.heap.size<=i) bp l3 hs
theorem Eu{c d f:Nat}{s:ByteArray}{ts:List bB}{l3:List Pd}{hs:List Ph}(J:(cL ts).2.v.ok=true)(M:eE ((cL ts).1.map jE)=.ok (l3,hs))(N:sf ((cL ts).1.map jE))(m:ga s.data.toList ts)(Z:s.size<=700)(n:aM w c #[.string s])(X:aM w d #[aF f])(k:aM w f #[.pointer none])(n4:d≠f):
  Calls Tryz.prog 22 #[Pt c 0,Pt d 0] w fun e w'=>aC (aK f) w w'/\((e=.returned (.tuple #[])/\iW w w' l3 hs f)\/∃b,e=ee b/\(fun(_:Nat) (_:World)=>False) b w'):=by
 obtain⟨y,V,z⟩:=bY N M J
 clear N M J
 obtain⟨x,H4,a6⟩:=bY k X m
 have c1:Ce w c 0 (.string s):=n.cell 0
 have c4:Ce w d 0 (aF f):=X.cell 0
 have a5:=n.lt
 have a4:=X.lt
 have O:=k.lt
 have HD:Hid (Ca 23 #[.string s] w.drew fun r w'=>Bw w w'/\(((cL ts).2.v.ok=true/\∃C,r=.returned (aF C)/\Dp w' (dZ w w') C ((cL ts).1.map jE))\/((cL ts).2.v.ok=false/\dA w' r (cL ts).2.v.e (cL ts).2.v.a))):=(JW w.drew m Z).mono (fun e w' h=>⟨⟨h.1.os,h.1.tape,h.1.output,h.1.size,h.1.block⟩,h.2⟩)
 clear k X m n
 go_in
 go_upto_region 0 with fail
 go_cut []from 2 (fun wx=>∃A C,wx=A.setCell (Ad f 0) (aF C)/\Hid (Bw w A/\(cL ts).2.v.ok=true/\Dp A (dZ w A) C ((cL ts).1.map jE)))
 case first=>
  go_wp2_with fail
  go_region_law (refine iB rfl ?_;go_wp2_with fail;refine HD.mono ?_;rintro e A ⟨B,hx⟩;rcases hx.symm with⟨E,b,rfl,h3⟩|⟨E,C,rfl,H⟩;(focus(rw[z.out]at E;cases E));(have q4:A.cell? (Ad d 0)=some (aF f):=(bc B c4);have qq:A.cell? (Ad f 0)=some (.pointer none):=(by rw[B.cell (p:=Ad f 0) O];exact x.cell 0);have qf:∀j,A.frozen? (Ad f j)=false:=(fun j=>by rw[B.frozen (p:=Ad f j) O];exact x.fz j);have T:=aG (And.intro B (And.intro E H));clear B E H hx))
  all_goals
   go_wp2_with fail
   go_meet
   exact⟨A,C,rfl,T⟩
 case rest=>
 obtain⟨A,C,rfl,T⟩:=hcut
 have B:=T.1
 have a2:=B.size
 have q4:Ce (A.setCell (Ad f 0) (aF C)) d 0 (aF f):=((H4.below B).setO f 0 (aF C) n4).cell 0
 have W:Hid (aM (A.setCell (Ad f 0) (aF C)) f #[aF C]):=(x.below B).set 0 (aF C) (by simp)
 have qq:Ce (A.setCell (Ad f 0) (aF C)) f 0 (aF C):=W.cell 0
 have a0:Hid (aC (aK f) w (A.setCell (Ad f 0) (aF C))):=(aC.of_below (S:=aK f) B).set1 0 _
 have g:(A.setCell (Ad f 0) (aF C)).heap.size=A.heap.size:=by simp[World.setCell]
 have F:aC (aK f) A (A.setCell (Ad f 0) (aF C)):=(aC.refl (aK f) A).set1 0 _
 have L:Dp (A.setCell (Ad f 0) (aF C)) (dZ w A) C ((cL ts).1.map jE):=by
  obtain⟨dv,t,Q,g1,g2,q,g4,o,g6⟩:=T.2.2
  have K:∀i,dZ w A i->¬aK f i:=fun i D e=>by have:=D.1;have e:i=f:=e;omega
  exact⟨dv,t,Q,g1,g2.kept F (K _ g1),⟨bJ q.1 F (fun i e=>K i (q.2 i e)),q.2⟩,g4.keep F (fun i D=>⟨(o i D).1.2,K i (o i D).1,D⟩),o,g6⟩
 have HN:=aG (Cb L (fun i D=>by rw[g];exact D.2) y)
 clear B F L T
 generalize Y:A.setCell (Ad f 0) (aF C)=w3 at *
 clear Y
 go_wp2_with fail
 refine HN.mono ?_
 rintro e w4 ⟨P,⟨a1,a3,R,rfl,G⟩|⟨er,a,R,b,rfl,h3⟩⟩
 ·rw[V.out]at R
  cases R
  have u:=aG (And.intro P G)
  clear P G
  go_wp2_with fail
  go_end0
  have l:aC (aK f) w w4:=a0.trans' u.1 (fun i D=>.inr D.1)
  refine⟨l,.inl ⟨rfl,C,W.kept u.1 (fun e=>by have:=e.1;omega),?_⟩⟩
  exact u.2.keep (aC.refl (fun _=>False) w4) (fun i D=>⟨fun e=>e,by
   rcases D with D|D
   ·exact D.1
   ·show w.heap.size<=i;omega⟩)
 ·rw[V.out]at R
  cases R
theorem iW.keep{w' u:World}{S:Nat->Prop}{A:List Pd}{B:List Ph}(h:iW w w' A B a)(k:aC S w' u)(H:∀i,w.heap.size<=i->¬S i)(D:¬S a)(E:v.heap.size<=w.heap.size):iW v u A B a:=by
 obtain⟨J,G,F⟩:=h
 exact⟨J,G.kept k D,F.keep k (fun i C=>⟨H i C,Nat.le_trans E C⟩)⟩
theorem Mh(args:Array Value)(w:World):(callFunc 22 args).run Tryz.prog w=.ok (.enter 22 args) w:=by
 kernel_rfl
theorem Hi{s:ByteArray}{ts:List bB}{N:List Pd}{P:List Ph}(C:(cL ts).2.v.ok=true)(F:eE ((cL ts).1.map jE)=.ok (N,P))(H:sf ((cL ts).1.map jE))(Z:ga s.data.toList ts)(T:s.size<=700):
  Calls Tryz.prog 11 #[.string s] w fun r w'=>Bw w w'/\∃V,r=.returned (.tuple #[aF V,.nilIface])/\w.heap.size<=V/\iW w w' N P V:=by
 have f:∀(c:Go.Fn) (first cap:Array Value) (w:World),(Instr.makeFunc c first cap).run Tryz.prog w=.ok (.func c first cap) w:=fun _ _ _ _=>rfl
 obtain⟨A,B⟩:=bM (((w.alloc (.cells #[.string s] 9)).alloc (.cells #[.pointer none] 63)).alloc (.cells #[aF (w.heap.size+1)] 35))
 have d:A.heap.size=w.heap.size+3:=by rw[B];simp
 have E:aM A w.heap.size #[.string s]:=by rw[B];exact((aM.new w _ _).alloc _).alloc _
 have Y:aM A (w.heap.size+1) #[.pointer none]:=by rw[B];exact(aM.newAt _ _ _ _ (by simp)).alloc _
 have a:aM A (w.heap.size+2) #[aF (w.heap.size+1)]:=by rw[B];exact aM.newAt _ _ _ _ (by simp)
 have X:Hid (Bw w A):=by show Below _ _ _;rw[B];exact((ba _ _).alloc (by simp) _).alloc (by simp;omega) _
 obtain⟨k,L⟩:=aN (Ak (w:=A) (S:=aK (w.heap.size+1)) (fun e=>by have e:A.heap.size=w.heap.size+1:=e;omega) (G:=22) (cap:=#[aF w.heap.size,aF (w.heap.size+2)]) (Rok:=fun w'=>iW (A.alloc (.cells #[.nilIface] 37)) w' N P (w.heap.size+1)) (Rbad:=fun _ _=>False) Mh ((Eu C F H Z T (E.alloc _) (a.alloc _) (Y.alloc _) (by omega)).mono (fun e w' h=>⟨h.1,h.2⟩))) B
 clear E Y a Z B C F H
 go_in
 go_wp2_with fail
 rw[<-L.out]
 refine k.mono ?_
 rintro e M ⟨Q,J,⟨rfl,E,D⟩|⟨b,rfl,E,D⟩⟩
 ·have O:aC (aK A.heap.size) Q M:=by rw[D];exact(aC.refl (aK A.heap.size) Q).set1 0 _
  have W:Hid (iW w M N P (w.heap.size+1)):=E.keep O (fun i g e=>by have e:i=A.heap.size:=e;simp at g;omega) (fun e=>by have e:w.heap.size+1=A.heap.size:=e;omega) (by simp;omega)
  have R:aC (aK (w.heap.size+1)) A Q:=((aC.refl (aK (w.heap.size+1)) A).alloc _).trans J
  have j:Hid (Bw w M):=aC.to_below (((aC.of_below (S:=fun _=>False) X).trans' R (fun i e=>.inr (by have e:i=w.heap.size+1:=e;omega))).trans' O (fun i e=>.inr (by have e:i=A.heap.size:=e;omega)))
  have K:aM A (w.heap.size+2) #[aF (w.heap.size+1)]:=by rw[L.out];exact aM.newAt _ _ _ _ (by simp)
  have l:Ce M (w.heap.size+2) 0 (aF (w.heap.size+1)):=((K.kept R (fun e=>by have e:w.heap.size+2=w.heap.size+1:=e;omega)).kept O (fun e=>by have e:w.heap.size+2=A.heap.size:=e;omega)).cell 0
  clear J E D O R K
  go_wp2_with fail
  refine bodyPost_ret (v:=.tuple #[aF (w.heap.size+1),.nilIface]) (by simp[results,Tryz.results11,go_sem]) rfl ⟨j,w.heap.size+1,rfl,by omega,W⟩
 ·exact E.elim
def LD(p:Ph)(r:List Pa):Bool:=decide (p.lt.length<=1000)&&decide (p.nt.length<=1000)&&r.all (fun a=>decide (a.text.length<=1000))&&decide (r.length<=1000)&&(!(decide (p.kind=1)&&decide (p.op=0))||decide (r≠[]))
theorem Ha{p:Ph}{r:List Pa}(h:LD p r=true):KN p r:=by
 simp only[LD,Bool.and_eq_true,decide_eq_true_eq,List.all_eq_true,Bool.or_eq_true,Bool.not_eq_true',Bool.and_eq_false_iff,decide_eq_false_iff_not]at h
 obtain⟨⟨⟨⟨F,E⟩,C⟩,D⟩,A⟩:=h
 exact⟨by omega,by omega,fun a B=>by have:=C a B;omega,by omega,fun k=>by
  rcases A with A|A
  ·rcases A with A|A
   ·exact absurd k.1 A
   ·exact absurd k.2 A
  ·exact A⟩
mutual
def GY:eM->Bool
 |.mk p r bls=>LD p r&&sN bls&&decide (bls.length<=1000)
def uQ:List eM->Bool
 |[]=>true
 |s::l=>GY s&&uQ l
def sN:List (List eM)->Bool
 |[]=>true
 |l::ls=>uQ l&&decide (l.length<=1000)&&sN ls
end
mutual
theorem Eg:∀s,GY s=true->wj s
 |.mk p r bls,h=>by
  simp only[GY,Bool.and_eq_true,decide_eq_true_eq]at h
  rw[wj]
  exact⟨Ha h.1.1,rI bls h.1.2,by omega⟩
theorem pK:∀l,uQ l=true->im l
 |[],_=>by rw[im];trivial
 |s::l,h=>by
  simp only[uQ,Bool.and_eq_true]at h
  rw[im]
  exact⟨Eg s h.1,pK l h.2⟩
theorem rI:∀l,sN l=true->nD l
 |[],_=>by rw[nD];trivial
 |l::ls,h=>by
  simp only[sN,Bool.and_eq_true,decide_eq_true_eq]at h
  rw[nD]
  exact⟨⟨pK l h.1.1,by omega⟩,rI ls h.2⟩
end
def BK(l:List Pd):Bool:=l.all (fun d=>decide (d.kind< 3)&&decide (d.name.length<=1000)&&d.params.all (fun a=>decide (a.text.length<=1000))&&decide (d.params.length<=1000)&&uQ d.body&&decide (d.body.length<=1000))&&decide (l.length<=1000)
theorem Ek{l:List Pd}(h:BK l=true):sf l:=by
 simp only[BK,Bool.and_eq_true,decide_eq_true_eq,List.all_eq_true]at h
 obtain⟨h,L⟩:=h
 refine⟨fun d B=>?_,fun d B=>?_,fun d B=>?_,by omega,fun J f c F t m A=>?_⟩
 ·have:=h d B;exact⟨by omega,by omega⟩
 ·have:=h d B;exact⟨fun a G=>by have:=this.1.1.1.2 a G;omega,by omega⟩
 ·have:=h d B;exact⟨pK _ this.1.2,by omega⟩
 ·obtain⟨K,D⟩:=Af F (fun t m E=>by cases E)
  unfold dK at A
  cases C:f t with
  |none=>rw[C]at A;cases A
  |some x=>
   obtain⟨k,H⟩:=x
   rw[C]at A
   simp only at A
   split at A
   ·rename_i e
    cases A
    subst e
    have:=D t m C
    omega
   ·cases A
end Go.Proofs.YtajfbbldaiaolaaGreatDoor
