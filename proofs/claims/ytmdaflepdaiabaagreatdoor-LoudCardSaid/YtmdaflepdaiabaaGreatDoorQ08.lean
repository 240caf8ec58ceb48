import Derived.Test.YtmdaflepdaiabaaGreatDoorQ07
set_option linter.unusedSimpArgs false
set_option linter.unusedVariables false
namespace Go.Proofs.YtmdaflepdaiabaaGreatDoor
section
set_option maxRecDepth 100000
set_option maxHeartbeats 4000000
open Go.RowKit Go.Maps
theorem jN(l:List Pn):(jm l).length=l.length*3:=by
 induction l with
 |nil=>rfl
 |cons a l ih=>simp only[jm,List.flatMap_cons,List.length_append,List.length_cons]at ih⊢;rw[ih];simp[Aw];omega
theorem iM(l m:List Pn):jm (l++m)=jm l++jm m:=by simp[jm]
theorem xI(r1 r2:List Pn)(a:Pn)(j:Nat)(hj:j< 3):(jm (r1++a::r2))[r1.length*3+j]?=(Aw a)[j]?:=by
 rw[iM,List.getElem?_append_right (by rw[jN];omega),jN]
 have:r1.length*3+j-r1.length*3=j:=by omega
 rw[this]
 show(Aw a++jm r2)[j]?=_
 rw[List.getElem?_append_left (by simp[Aw];omega)]
theorem vE(r1 r2:List Pn)(a:Pn)(m:Nat):(jm (r1++a::r2)).set (r1.length*3+2) (.int .i64 m)=jm (r1++{a with num:=m}::r2):=by
 rw[iM,iM,List.set_append_right _ _ (by rw[jN];omega),jN]
 have:r1.length*3+2-r1.length*3=2:=by omega
 rw[this]
 rfl
structure PI(w wr:World)(bn bm n bf bl g cg:Nat)(f:aj→Option (Nat×Nat))(R:Except (Nat×Nat) (List Pn×Lc))(ps r1 r2:List Pn)(l:Lc):Prop where
 nm:NM wr bn bm n f
 hc:wr.cell? ⟨bf,1,none⟩=some (.map (some bl))
 lc:dF wr bl l.c l.g
 row:wr.ownsRow 0 96 3 (.slice (some ⟨g,0,none⟩) ps.length cg) ps.length (jm (r1++r2))
 kp:ae (fun i=>i=bl∨i=g) w wr
 eq:R=match fe f l r1.length r2 with|.ok (r',l')=>.ok (r1++r',l')|.error e=>.error e
 len:r1.length+r2.length=ps.length
 cl:l.c=r1.length
 l3:r1.length≤3
theorem PI.name{w wr:World}{bn bm n bf bl g cg:Nat}{f:aj→Option (Nat×Nat)}{R:Except (Nat×Nat) (List Pn×Lc)}{ps r1 r2:List Pn}{l:Lc}{a:Pn}(h:PI w wr bn bm n bf bl g cg f R ps r1 (a::r2) l)(hz:a.text.length≤1000000):iH wr g (r1.length*3) ⟨a.text.toArray⟩ a.at_:=by
 have hlen:=h.len
 simp at hlen
 have hc:∀j,j< 3→wr.cell? ⟨g,r1.length*3+j,none⟩=(Aw a)[j]?:=fun j hj=>by rw[h.row.cellAt _ (by omega)];exact xI r1 r2 a j hj
 refine⟨hc 0 (by decide),hc 1 (by decide),⟨a.num,hc 2 (by decide)⟩,?_,hz⟩
 rcases h.row.2 with⟨_,h0⟩|⟨g',cap,cur,hv,hB,hh,_⟩
 ·omega
 ·cases hv
  rw[World.frozen?]
  simp[hh]
theorem PI.step{w wr w':World}{bn bm n bf bl g cg:Nat}{f:aj→Option (Nat×Nat)}{R:Except (Nat×Nat) (List Pn×Lc)}{ps r1 r2:List Pn}{l:Lc}{a:Pn}(h:PI w wr bn bm n bf bl g cg f R ps r1 (a::r2) l)(hgl:g≠bl)(hng:bn≠g)(hnl:bn≠bl)(hmg:bm≠g)(hml:bm≠bl)(hfg:bf≠g)(hfl:bf≠bl)(hf:f a.text=none)(hg:l.g a.text=none)(h3:r1.length≠3)
  (ht:((jr (wr.setCell ⟨g,r1.length*3+2,none⟩ (.int .i64 r1.length))).drew).mapTurned w' bl) (hL:dF w' bl (l.c+1) (fun s=>if s=a.text then some r1.length else l.g s)):
  PI w w' bn bm n bf bl g cg f R ps (r1++[{a with num:=r1.length}]) r2 ⟨fun s=>if s=a.text then some r1.length else l.g s,l.c+1⟩:=by
 have hlen:=h.len
 simp at hlen
 have hgw:g< wr.heap.size:=(h.row.lt g rfl).2
 have k0:ae (ao g) wr (jr (wr.setCell ⟨g,r1.length*3+2,none⟩ (.int .i64 r1.length))):=(((((ae.refl (ao g) wr).set1 (r1.length*3+2) _).alloc _).drew).drew)
 have k1:ae (fun i=>i=bl∨i=g) wr w':=ae.grown ((k0.mono (T:=fun i=>i=bl∨i=g) (fun _ e=>Or.inr e)).drew) ht.grown (fun k hk=>by cases hk;exact Or.inl (Or.inl rfl))
 refine⟨⟨?_,h.nm.th.kept k1 (fun e=>e.elim hml hmg)⟩,?_,hL,?_,h.kp.trans k1,?_,by simp;omega,by simp[h.cl],by simp;have:=h.l3;omega⟩
 ·rw[k1.cell (p:=⟨bn,1,none⟩) (ah (a:=⟨bn,1,none⟩) h.nm.c1) (fun e=>e.elim hnl hng)];exact h.nm.c1
 ·rw[k1.cell (p:=⟨bf,1,none⟩) (ah (a:=⟨bf,1,none⟩) h.hc) (fun e=>e.elim hfl hfg)];exact h.hc
 ·have kg:ae (fun i=>i=bl) (wr.setCell ⟨g,r1.length*3+2,none⟩ (.int .i64 r1.length)) w':=ae.grown (((((ae.refl (fun i=>i=bl) _).alloc _).drew).drew).drew) ht.grown (fun k hk=>by cases hk;exact Or.inl rfl)
  have:=oV (w':=w') h.row rfl (j:=r1.length*3+2) (u:=.int .i64 r1.length) (by omega) (fun cur hh=>by
   rw[kg.block g (by simpa[World.setCell]using hgw) hgl];exact heap_setCell hh _ _)
  rw[vE]at this
  simpa using this
 ·rw[h.eq,fe]
  have e:¬((f a.text).isSome=true∨(l.g a.text).isSome=true):=by rw[hf,hg];simp
  rw[if_neg e,if_neg h3]
  simp only[List.length_append,List.length_singleton]
  cases fe f ⟨fun s=>if s=a.text then some r1.length else l.g s,l.c+1⟩ (r1.length+1) r2 with
  |error e=>rfl
  |ok x=>simp
theorem xY{w:World}{bn bm n bf bl bd g cg:Nat}{f:aj→Option (Nat×Nat)}{ps:List Pn}(hI:PI w w bn bm n bf bl g cg f (fe f ⟨fun _=>none,0⟩ 0 ps) ps [] ps ⟨fun _=>none,0⟩)(hgl:g≠bl)(hng:bn≠g)(hnl:bn≠bl)(hmg:bm≠g)(hml:bm≠bl)(hfg:bf≠g)(hfl:bf≠bl)(c0:w.cell? ⟨bf,0,none⟩=some (ak bd))(c4:w.cell? ⟨bd,4,none⟩=some (.slice (some ⟨g,0,none⟩) ps.length cg))(hz:∀a,a∈ps→a.text.length≤1000000)(hpl:ps.length≤1000000):
  Calls Tryz.prog 29 #[.pointer (some ⟨bn,0,none⟩),.pointer (some ⟨bf,0,none⟩)] w fun r w'=>ae (fun i=>i=bl∨i=g) w w'∧((∃ps' l',fe f ⟨fun _=>none,0⟩ 0 ps=.ok (ps',l')∧r=.returned (.tuple #[])∧PI w w' bn bm n bf bl g cg f (fe f ⟨fun _=>none,0⟩ 0 ps) ps ps' [] l')∨(∃e a,fe f ⟨fun _=>none,0⟩ 0 ps=.error (e,a)∧cc w' r e a)):=by
 have HI:=aa hI
 have HZ:=aa hz
 clear hI hz
 go_enter Tryz.func29,Tryz.ntmps29
 go_wp2_with fail
 clear c0 c4
 go_loopw [20] (fun i wr=>∃(l:Lc) (r1 r2:List Pn),i=.int .i64 r1.length∧Hid (PI w wr bn bm n bf bl g cg f (fe f ⟨fun _=>none,0⟩ 0 ps) ps r1 r2 l)∧Hid (∀a,a∈r2→a.text.length≤1000000)) (fun i _=>ps.length-(intOf i).toNat)
 case atStart=>exact⟨_,[],ps,rfl,HI,HZ⟩
 case round=>
  obtain⟨l,r1,r2,rfl,HR,HZ2⟩:=hrel
  have hlen:=HR.out.len
  rcases r2 with _|⟨a,r2⟩
  ·have hkl:¬((r1.length:Int)< (ps.length:Int)):=by simp at hlen;omega
   have HEQ:Hid (fe f ⟨fun _=>none,0⟩ 0 ps=.ok (r1,l)):=by show _=_;rw[HR.out.eq,fe];simp
   clear hlen
   go_wp2_with fail
   first|go_end0|refine bodyPost_ret (results_none rfl _ _ _) rfl ?_
   exact⟨HR.out.kp,Or.inl ⟨r1,l,HEQ.out,rfl,HR.out⟩⟩
  ·have hkn:r1.length< ps.length:=by simp at hlen;omega
   have hkl:(r1.length:Int)< (ps.length:Int):=by omega
   clear hlen
   have hsz:a.text.length≤1000000:=HZ2.out a (by simp)
   have HZ3:Hid (∀x,x∈r2→x.text.length≤1000000):=fun x hx=>HZ2.out x (by simp[hx])
   have HNM:=aa (HR.out.name hsz)
   have t0:=HNM.out.t0
   have t1:=HNM.out.t1
   obtain⟨m2,t2⟩:=HNM.out.t2
   have tf:=HNM.out.fz
   have c1:=HR.out.nm.c1
   have hc:=HR.out.hc
   have hbn:bn< wr.heap.size:=ah (a:=⟨bn,1,none⟩) c1
   have hbf:bf< wr.heap.size:=ah (a:=⟨bf,1,none⟩) hc
   have hbg:g< wr.heap.size:=ah t0
   have e0:=(HR.out.nm.th.move (w':=wr.drew) rfl).look ⟨a.text.toArray⟩ hsz
   have HPE:Hid (fe f l r1.length (a::r2)=if(f a.text).isSome=true∨(l.g a.text).isSome=true then .error (7,a.at_)else if r1.length=3 then .error (8,a.at_)else match fe f ⟨fun s=>if s=a.text then some r1.length else l.g s,l.c+1⟩ (r1.length+1) r2 with|.error e=>.error e|.ok (r',l')=>.ok ({a with num:=r1.length}::r',l')):=by show _=_;rw[fe];rfl
   cases hf:f a.text with
   |some x=>
    have k1:=ae.of_below (S:=fun _=>False) ((Below.refl wr.heap.size wr).alloc (Nat.le_refl _) (.cells #[.int .i64 x.1,.int .i64 x.2] 129))
    have k2:=ae.of_below (S:=fun _=>False) ((Below.refl wr.heap.size wr).alloc (Nat.le_refl _) (.cells #[.int .i64 0,.int .i64 0] 129))
    have e2:=((HR.out.nm.th.kept k2 (fun e=>e)).move (w':=(wr.alloc (.cells #[.int .i64 0,.int .i64 0] 129)).drew) rfl).look ⟨a.text.toArray⟩ hsz
    have e3:=((HR.out.lc.kept k1 (fun e=>e)).move (w':=(wr.alloc (.cells #[.int .i64 x.1,.int .i64 x.2] 129)).drew.drew) rfl).look ⟨a.text.toArray⟩ hsz
    have hff:f (ByteArray.mk a.text.toArray).data.toList=some x:=hf
    rw[hff]at e0 e2
    simp only[Option.getD_some,Option.isSome_some]at e0 e2
    unfold dJ at e0 e2
    have HEQ:Hid (fe f ⟨fun _=>none,0⟩ 0 ps=.error (7,a.at_)):=by show _=_;rw[HR.out.eq,HPE.out,if_pos (Or.inl (by rw[hf];rfl))]
    clear hf hff k1 k2
    generalize(l.g (ByteArray.mk a.text.toArray).data.toList)=lg at *
    go_wp2_with fail
    go_region
    all_goals
     go_wp2_with fail
     go_region
     all_goals
      go_wp2_with fail
      refine(bo 7 a.at_ _).mono ?_
      rintro e w2 ⟨⟨b2,rfl,h3⟩,h4⟩
      replace h3:=aa h3
      replace h4:=aa h4
      go_wp2_with fail
      refine⟨rfl,HR.out.kp.below ?_,Or.inr ⟨7,a.at_,HEQ.out,b2,rfl,h3.out⟩⟩
      have h5:=((Below.refl wr.heap.size wr).alloc (Nat.le_refl _) (.cells #[.int .i64 x.1,.int .i64 x.2] 129)).drew.drew
      exact h5.trans (h4.out.mono (by simp))
   |none=>
    have k1:=ae.of_below (S:=fun _=>False) ((Below.refl wr.heap.size wr).alloc (Nat.le_refl _) (.cells #[.int .i64 0,.int .i64 0] 129))
    have e2:=((HR.out.nm.th.kept k1 (fun e=>e)).move (w':=(wr.alloc (.cells #[.int .i64 0,.int .i64 0] 129)).drew) rfl).look ⟨a.text.toArray⟩ hsz
    have e3:=((HR.out.lc.kept k1 (fun e=>e)).move (w':=(wr.alloc (.cells #[.int .i64 0,.int .i64 0] 129)).drew.drew) rfl).look ⟨a.text.toArray⟩ hsz
    have hff:f (ByteArray.mk a.text.toArray).data.toList=none:=hf
    rw[hff]at e0 e2
    simp only[Option.getD_none,Option.isSome_none]at e0 e2
    unfold dJ at e0 e2
    cases hg:l.g a.text with
    |some m=>
     have hgg:l.g (ByteArray.mk a.text.toArray).data.toList=some m:=hg
     rw[hgg]at e3
     simp only[Option.getD_some,Option.isSome_some]at e3
     have HEQ:Hid (fe f ⟨fun _=>none,0⟩ 0 ps=.error (7,a.at_)):=by show _=_;rw[HR.out.eq,HPE.out,if_pos (Or.inr (by rw[hg];rfl))]
     clear hf hff hg hgg k1
     go_wp2_with fail
     go_region
     all_goals
      go_wp2_with fail
      go_region
      all_goals
       go_wp2_with fail
       refine(bo 7 a.at_ _).mono ?_
       rintro e w2 ⟨⟨b2,rfl,h3⟩,h4⟩
       replace h3:=aa h3
       replace h4:=aa h4
       go_wp2_with fail
       refine⟨rfl,HR.out.kp.below ?_,Or.inr ⟨7,a.at_,HEQ.out,b2,rfl,h3.out⟩⟩
       have h5:=((Below.refl wr.heap.size wr).alloc (Nat.le_refl _) (.cells #[.int .i64 0,.int .i64 0] 129)).drew.drew
       exact h5.trans (h4.out.mono (by simp))
    |none=>
     have hgg:l.g (ByteArray.mk a.text.toArray).data.toList=none:=hg
     rw[hgg]at e3
     simp only[Option.getD_none,Option.isSome_none]at e3
     have hno:¬((f a.text).isSome=true∨(l.g a.text).isSome=true):=by rw[hf,hg];simp
     by_cases h3:r1.length=3
     ·have hb3:((r1.length:Int)==3)=true:=by rw[beq_iff_eq];omega
      have HEQ:Hid (fe f ⟨fun _=>none,0⟩ 0 ps=.error (8,a.at_)):=by show _=_;rw[HR.out.eq,HPE.out,if_neg hno,if_pos h3]
      clear hf hff hg hgg k1 hno h3
      go_wp2_with fail
      go_region
      all_goals
       go_wp2_with fail
       go_region
       all_goals
        go_wp2_with fail
        refine(bo 8 a.at_ _).mono ?_
        rintro e w2 ⟨⟨b2,rfl,h3⟩,h4⟩
        replace h3:=aa h3
        replace h4:=aa h4
        go_wp2_with fail
        refine⟨rfl,HR.out.kp.below ?_,Or.inr ⟨8,a.at_,HEQ.out,b2,rfl,h3.out⟩⟩
        have h5:=((Below.refl wr.heap.size wr).alloc (Nat.le_refl _) (.cells #[.int .i64 0,.int .i64 0] 129)).drew.drew
        exact h5.trans (h4.out.mono (by simp))
     ·have hb3:((r1.length:Int)==3)=false:=by rw[beq_eq_false_iff_ne];omega
      have hl3:=HR.out.l3
      have hcl:=HR.out.cl
      have kk:ae (fun i=>i=g) wr ((jr (wr.setCell ⟨g,r1.length*3+2,none⟩ (.int .i64 r1.length))).drew):=((((((ae.refl (fun i=>i=g) wr).setCell (p:=⟨g,r1.length*3+2,none⟩) (Or.inl rfl) _).alloc _).drew).drew).drew)
      obtain⟨w9,e5,h9,ht9⟩:=(HR.out.lc.kept kk (fun e=>hgl e.symm)).add ⟨a.text.toArray⟩ hsz (by omega) hgg r1.length (by omega)
      have HST:=aa (HR.out.step hgl hng hnl hmg hml hfg hfl hf hg h3 ht9 h9)
      clear hf hff hg hgg k1 hno h3 hl3 hcl kk h9 ht9
      go_wp2_with fail
      go_region
      all_goals
       go_wp2_with fail
       go_region
       all_goals
        go_wp2_with fail
        go_region
        all_goals
         go_wp2_with fail
         go_roundw
         case rel=>exact⟨_,r1++[{a with num:=r1.length}],r2,by simp,HST,HZ3⟩
         case measure=>simp[intOf];omega
end
section
set_option maxRecDepth 100000
set_option maxHeartbeats 1000000
open Go.RowKit Go.Maps
theorem qx{w:World}{bn bf bd cg:Nat}{pp:Option Addr}(c0:w.cell? ⟨bf,0,none⟩=some (ak bd))(c4:w.cell? ⟨bd,4,none⟩=some (.slice pp 0 cg)):
  Calls Tryz.prog 29 #[.pointer (some ⟨bn,0,none⟩),.pointer (some ⟨bf,0,none⟩)] w fun r w'=>r=.returned (.tuple #[])∧w'=w:=by
 go_enter Tryz.func29,Tryz.ntmps29
 go_wp2_with fail
 clear c0 c4
 go_loopw [20] (fun i wr=>i=.int .i64 0∧wr=w) (fun _ _=>0)
 case atStart=>exact⟨rfl,rfl⟩
 case round=>
  obtain⟨rfl,rfl⟩:=hrel
  go_wp2_with fail
  first|go_end0|refine bodyPost_ret (results_none rfl _ _ _) rfl ?_
  exact⟨rfl,rfl⟩
theorem Be{w:World}{bn bm bp n:Nat}{f:aj→Option (Nat×Nat)}{Q:Nat→Prop}{np:List Nat}{fv:Value}{news gos:Nat}(h:NB w bn bm bp n f Q np fv news gos)(hfm:∀t m,cy f t 2=some m→m< np.length)(hpl:np.length≤1000000):
  Calls Tryz.prog 31 #[.pointer (some ⟨bn,0,none⟩)] w fun r w'=>Below w.heap.size w w'∧((iB f np=true∧r=.returned (.tuple #[]))∨(iB f np=false∧cc w' r 11 0)):=by
 have HB:=aa h
 cases hff:cy f [109,97,105,110] 2 with
 |none=>
  have HM:Hid (iB f np=false):=by show _=_;unfold iB;rw[hff]
  have HFF:Hid (cy f (ByteArray.mk #[109,97,105,110]).data.toList 2=none):=hff
  clear hff h hfm
  go_enter Tryz.func31,Tryz.ntmps31
  go_wp2_with fail
  refine(mj (kind:=2) ⟨#[109,97,105,110]⟩ (by decide) HB.out.nm.c1 HB.out.th HFF.out).mono ?_
  rintro e w1 ⟨rfl,hb⟩
  replace hb:=aa hb
  go_wp2_with fail
  refine(bo 11 0 w1).mono ?_
  rintro e w2 ⟨⟨b2,rfl,h3⟩,h4⟩
  replace h3:=aa h3
  replace h4:=aa h4
  go_wp2_with fail
  exact⟨rfl,hb.out.trans (h4.out.mono hb.out.size),Or.inr ⟨HM.out,b2,rfl,h3.out⟩⟩
 |some m=>
  have hm:=hfm _ _ hff
  obtain⟨k,hk⟩:∃k,np[m]?=some k:=⟨_,List.getElem?_eq_getElem hm⟩
  have HM:Hid (iB f np=(k==0)):=by show _=_;unfold iB;rw[hff];simp only;rw[hk];rw[Bool.eq_iff_iff];simp
  have HFF:Hid (cy f (ByteArray.mk #[109,97,105,110]).data.toList 2=some m):=hff
  obtain⟨pf,cf,g0,gx⟩:=h.fns.ex
  obtain⟨gf,bf,bd,pp,cp,q1,q2,q3,rfl,g1,g2,g3⟩:=gx m k hk
  have HG:=aa (And.intro g0 (And.intro g1 (And.intro g2 g3)))
  clear hff h hfm gx g0 g1 g2 g3 q1 q2 q3 hk
  go_enter Tryz.func31,Tryz.ntmps31
  go_wp2_with fail
  refine(kz (kind:=2) ⟨#[109,97,105,110]⟩ (by decide) HB.out.nm.c1 HB.out.th HFF.out).mono ?_
  rintro e w1 ⟨rfl,hb⟩
  have y0:w1.cell? ⟨bn,2,none⟩=some (.slice (some ⟨gf,0,none⟩) np.length cf):=by rw[hb.cell (ah HG.out.1)];exact HG.out.1
  have y1:w1.cell? ⟨gf,m,none⟩=some (ak bf):=by rw[hb.cell (ah HG.out.2.1)];exact HG.out.2.1
  have y1':w1.cell? ⟨gf,m*1,none⟩=some (ak bf):=by rw[Nat.mul_one];exact y1
  have y2:w1.cell? ⟨bf,0,none⟩=some (ak bd):=by rw[hb.cell (ah HG.out.2.2.1)];exact HG.out.2.2.1
  have y3:w1.cell? ⟨bd,4,none⟩=some (.slice pp k cp):=by rw[hb.cell (ah HG.out.2.2.2)];exact HG.out.2.2.2
  replace hb:=aa hb
  by_cases hk0:k=0
  ·have hkb:¬((k:Int)>0):=by omega
   have hkd:decide ((k:Int)>0)=false:=decide_eq_false hkb
   have HM2:Hid (iB f np=true):=by show _=_;rw[HM.out,hk0];rfl
   clear hk0
   go_wp2_with fail
   go_end0
   exact⟨hb.out,Or.inl ⟨HM2.out,rfl⟩⟩
  ·have hkb:((k:Int)>0):=by omega
   have hkd:decide ((k:Int)>0)=true:=decide_eq_true hkb
   have HM2:Hid (iB f np=false):=by show _=_;rw[HM.out,beq_eq_false_iff_ne];exact hk0
   clear hk0
   go_wp2_with fail
   refine(bo 11 0 w1).mono ?_
   rintro e w2 ⟨⟨b2,rfl,h3⟩,h4⟩
   replace h3:=aa h3
   replace h4:=aa h4
   go_wp2_with fail
   exact⟨rfl,hb.out.trans (h4.out.mono hb.out.size),Or.inr ⟨HM2.out,b2,rfl,h3.out⟩⟩
end
section
open Go.RowKit Go.Maps
structure DL(w:World)(F:Nat→Nat→Prop)(bds:List Nat)(l:List Pd):Prop where
 len:bds.length=l.length
 rep:∀(k b:Nat) (d:Pd),bds[k]?=some b→l[k]?=some d→iG w (F k) b d
def Dj(F:Nat→Nat→Prop):Prop:=∀j k i,F j i→F k i→j=k
theorem DL.of{w:World}{P:Nat→Prop}{bds:List Nat}{l:List Pd}(h:eS w P bds l):∃F,DL w F bds l∧Dj F∧∀k i,F k i→P i:=by
 induction h with
 |nil=>exact⟨fun _ _=>False,⟨rfl,fun k b d h=>by simp at h⟩,fun _ _ _ h=>h.elim,fun _ _ h=>h.elim⟩
 |@cons P Q R bs l b p h1 _ hq hr ih=>
  obtain⟨F,f1,f2,f3⟩:=ih
  refine⟨fun k=>match k with|0=>Q|k+1=>F k,⟨by simp[f1.len],fun k x d hx hd=>?_⟩,fun j k i hj hk=>?_,fun k i hi=>?_⟩
  ·cases k with
   |zero=>simp at hx hd;subst hx hd;exact h1
   |succ k=>exact f1.rep k x d (by simpa using hx) (by simpa using hd)
  ·cases j with
   |zero=>cases k with
    |zero=>rfl
    |succ k=>exact absurd (f3 k i hk) (hq i hj).2
   |succ j=>cases k with
    |zero=>exact absurd (f3 j i hj) (hq i hk).2
    |succ k=>exact congrArg (·+1) (f2 j k i hj hk)
  ·cases k with
   |zero=>exact(hq i hi).1
   |succ k=>exact hr i (f3 k i hi)
theorem DL.keep{w w':World}{S:Nat→Prop}{F:Nat→Nat→Prop}{bds:List Nat}{l:List Pd}(h:DL w F bds l)(k:ae S w w')(h0:∀j i,F j i→i< w.heap.size∧¬S i):DL w' F bds l:=
 ⟨h.len,fun j b d hb hd=>(h.rep j b d hb hd).keep k (fun i hi=>⟨(h0 j i hi).1,(h0 j i hi).2,hi⟩)⟩
theorem DL.set{w w':World}{S:Nat→Prop}{F:Nat→Nat→Prop}{bds:List Nat}{l:List Pd}(h:DL w F bds l)(k:ae S w w'){m b:Nat}{d:Pd}(hm:bds[m]?=some b)(hd:iG w' (F m) b d)(h0:∀j i,j≠m→F j i→i< w.heap.size∧¬S i):DL w' F bds (l.set m d):=by
 refine⟨by simp[h.len],fun j x y hx hy=>?_⟩
 by_cases e:j=m
 ·subst e
  have hlt:j< l.length:=by have:=(List.getElem?_eq_some_iff.1 hm).1;rw[h.len]at this;exact this
  rw[List.getElem?_set_self hlt]at hy
  rw[hm]at hx
  cases hx;cases hy
  exact hd
 ·rw[List.getElem?_set_ne (fun x=>e x.symm)]at hy
  exact(h.rep j x y hx hy).keep k (fun i hi=>⟨(h0 j i e hi).1,(h0 j i e hi).2,hi⟩)
theorem om(l:List Pd)(d:Pd):∀n,dk n (l++[d])=dk n l++(if d.kind=2 then[n+l.length]else[]):=by
 induction l with
 |nil=>intro n;simp[dk]
 |cons a l ih=>
  intro n
  simp only[List.cons_append,dk]
  rw[ih]
  have e:n+1+l.length=n+(a::l).length:=by simp;omega
  split
  ·rw[List.cons_append,e]
  ·rw[e]
theorem yg(l:List Pd):∀(n m k:Nat),(dk n l)[m]?=some k→n≤k∧∃d,l[k-n]?=some d∧d.kind=2∧(gY l)[m]?=some d.params.length:=by
 induction l with
 |nil=>intro n m k h;simp[dk]at h
 |cons a l ih=>
  intro n m k h
  unfold dk at h
  by_cases e:a.kind=2
  ·rw[if_pos e]at h
   have hn:gY (a::l)=a.params.length::gY l:=by unfold gY;rw[List.filter_cons,if_pos (by rw[e];rfl)];rfl
   cases m with
   |zero=>simp at h;subst h;exact⟨Nat.le_refl _,a,by simp,e,by rw[hn];rfl⟩
   |succ m=>
    obtain⟨h1,d,h2,h3,h4⟩:=ih _ _ _ (by simpa using h)
    exact⟨by omega,d,by rw[show k-n=(k-(n+1))+1 by omega];simpa using h2,h3,by rw[hn];simpa using h4⟩
  ·rw[if_neg e]at h
   have hn:gY (a::l)=gY l:=by unfold gY;rw[List.filter_cons,if_neg (by simpa using e)]
   obtain⟨h1,d,h2,h3,h4⟩:=ih _ _ _ h
   exact⟨by omega,d,by rw[show k-n=(k-(n+1))+1 by omega];simpa using h2,h3,by rw[hn];exact h4⟩
theorem jX(l:List Pd):∀n,(dk n l).length=(gY l).length:=by
 induction l with
 |nil=>intro n;rfl
 |cons a l ih=>
  intro n
  unfold dk
  by_cases e:a.kind=2
  ·have hn:gY (a::l)=a.params.length::gY l:=by unfold gY;rw[List.filter_cons,if_pos (by rw[e];rfl)];rfl
   rw[if_pos e,hn,List.length_cons,List.length_cons,ih]
  ·have hn:gY (a::l)=gY l:=by unfold gY;rw[List.filter_cons,if_neg (by simpa using e)]
   rw[if_neg e,hn,ih]
structure Fn where
 bf:Nat
 bl:Nat
 bd:Nat
def mD(fs:List Fn):List Nat:=fs.flatMap (fun x=>[x.bf,x.bl])
theorem qP(fs:List Fn)(x:Fn):mD (fs++[x])=mD fs++[x.bf,x.bl]:=by simp[mD]
structure FL(w:World)(B:Nat)(bds:List Nat)(ks:List Nat)(fs:List Fn)(fv:Value):Prop where
 own:w.ownsRow B 91 1 fv fs.length (dW (fs.map (·.bf)))
 blk:∀x∈fs,an w x.bf #[ak x.bd,.map (some x.bl)]
 nd:(mD fs).Nodup
 ge:∀i∈mD fs,B≤i∧i< w.heap.size∧fv.ownBlock≠some i
 len:ks.length=fs.length
 at_:∀(j k:Nat) (x:Fn),ks[j]?=some k→fs[j]?=some x→bds[k]?=some x.bd
theorem FL.keep{w w':World}{S:Nat→Prop}{B:Nat}{bds ks:List Nat}{fs:List Fn}{fv:Value}(h:FL w B bds ks fs fv)(k:ae S w w')(h1:∀x∈fs,¬S x.bf)(h2:∀i,fv.ownBlock=some i→¬S i):FL w' B bds ks fs fv:=
 ⟨aL h.own k h2,fun x hx=>(h.blk x hx).kept k (h1 x hx),h.nd,fun i hi=>⟨(h.ge i hi).1,Nat.lt_of_lt_of_le (h.ge i hi).2.1 k.size,(h.ge i hi).2.2⟩,h.len,h.at_⟩
theorem dp{fs:List Fn}{x:Fn}(h:x∈fs):x.bf∈mD fs∧x.bl∈mD fs:=by
 unfold mD
 constructor<;>exact List.mem_flatMap.2 ⟨x,h,by simp⟩
end
section
open Go.RowKit Go.Maps
def wI(c:Nat→Nat):Array Value:=#[.int .i64 (c 0),.int .i64 (c 1),.int .i64 (c 2)]
abbrev Bg:Array Value:=#[.int .i64 5,.int .i64 3,.int .i64 5]
abbrev Av(bn bm:Nat)(F:Nat→Nat→Prop):Nat→Prop:=fun i=>i=bn∨i=bm∨∃k,F k i
structure DF(w:World)(bn bm bc bk:Nat)(F:Nat→Nat→Prop):Prop where
 nm:bn≠bm
 dj:Dj F
 fo:∀k i,F k i→i< w.heap.size∧i≠bn∧i≠bm
 nl:bn< w.heap.size
 ml:bm< w.heap.size
 cl:w.heap.size≤bc
 ck:bc< bk
structure DI(w wr:World)(bn bm bp bc bk:Nat)(F:Nat→Nat→Prop)(bds:List Nat)(R:Except (Nat×Nat) (List Pd×(aj→Option (Nat×Nat))×(Nat→Nat)))(done rest:List Pd)(f:aj→Option (Nat×Nat))(c:Nat→Nat)(ks:List Nat)(fs:List Fn)(fv:Value):Prop where
 nb:an wr bn (tu bp bm fv 0 0)
 th:dc wr bm done.length f
 cb:an wr bc (wI c)
 mb:an wr bk Bg
 dl:DL wr F bds (done++rest)
 fl:FL wr (bk+1) bds ks fs fv
 lc:∀x∈fs,dF wr x.bl 0 (fun _=>none)
 eq:R=match cq f c rest with|.error e=>.error e|.ok (l',f',c')=>.ok (done++l',f',c')
 kp:ae (Av bn bm F) w wr
 cl:∀j,j< 3→c j≤iS j
 kd:∀d∈rest,d.kind< 3∧d.name.length≤1000000
theorem wH(c:Nat→Nat)(k:Nat)(hk:k< 3)(z:Int)(e:z=(c k:Int)+1):(wI c).setIfInBounds k (.int .i64 z)=wI (my c k):=by
 subst e
 have:k=0∨k=1∨k=2:=by omega
 rcases this with rfl|rfl|rfl<;>simp[wI,my]
theorem iG.num{w w':World}{P S:Nat→Prop}{b m:Nat}{d:Pd}(h:iG w P b d)(k:ae S w w')(hS:∀i,P i→i< w.heap.size∧(S i→i=b))(hb:∀A:Array Value,an w b A→3< A.size→an w' b (A.setIfInBounds 3 (.int .i64 m))):iG w' P b {d with num:=m}:=by
 obtain⟨sp,sb,bb,Q,h1,h2,h3,h4,h5,h6⟩:=h
 exact⟨sp,sb,bb,Q,h1,hb _ h2 (show 3< 7 by decide),⟨aL h3.1 k (fun i e x=>h6.rb (by rw[e,(hS i (h3.2 i e)).2 x])),h3.2⟩,⟨aL h4.1 k (fun i e x=>h6.bb (by rw[e,(hS i (h4.2 i e)).2 x])),h4.2⟩,h5.keep k (fun i hi=>⟨(hS i (h6.q i hi).1).1,fun x=>(h6.q i hi).2.1 ((hS i (h6.q i hi).1).2 x),hi⟩),h6⟩
section
variable {w wr:World} {bn bm bp bc bk:Nat} {F:Nat→Nat→Prop} {bds:List Nat} {R:Except (Nat×Nat) (List Pd×(aj→Option (Nat×Nat))×(Nat→Nat))} {done rest:List Pd} {f:aj→Option (Nat×Nat)} {c:Nat→Nat} {ks:List Nat} {fs:List Fn} {fv:Value}
theorem DI.mid{w9:World}{d:Pd}{bd:Nat}(h:DI w wr bn bm bp bc bk F bds R done (d::rest) f c ks fs fv)(g:DF w bn bm bc bk F)(hbd:bds[done.length]?=some bd)(hf:f d.name=none)(hc:c d.kind≠iS d.kind)
  (ht:((jr (wr.setCell ⟨bd,3,none⟩ (.int .i64 (c d.kind)))).drew).mapTurned w9 bm) (hT:dc w9 bm (done.length+1) (putF f d.name (d.kind,c d.kind))) (z:Int) (hz:z=(c d.kind:Int)+1):
  DI w (w9.setCell ⟨bc,d.kind,none⟩ (.int .i64 z)) bn bm bp bc bk F bds R (done++[{d with num:=c d.kind}]) rest (putF f d.name (d.kind,c d.kind)) (my c d.kind) ks fs fv:=by
 have hk3:=(h.kd d (by simp)).1
 have hrep:=h.dl.rep done.length bd d hbd (by simp)
 have hFbd:F done.length bd:=by obtain⟨_,_,_,_,h1,_⟩:=hrep;exact h1
 have hbo:=g.fo _ _ hFbd
 have k0:ae (fun i=>i=bd) wr (jr (wr.setCell ⟨bd,3,none⟩ (.int .i64 (c d.kind)))):=(((((ae.refl (fun i=>i=bd) wr).setCell (p:=⟨bd,3,none⟩) (Or.inl rfl) _).alloc _).drew).drew)
 have k9:ae (fun i=>i=bd∨i=bm) wr w9:=ae.grown ((k0.mono (T:=fun i=>i=bd∨i=bm) (fun _ e=>Or.inl e)).drew) ht.grown (fun k hk=>by cases hk;exact Or.inl (Or.inr rfl))
 have kb:ae (fun i=>i=bm) (wr.setCell ⟨bd,3,none⟩ (.int .i64 (c d.kind))) w9:=ae.grown (((((ae.refl (fun i=>i=bm) _).alloc _).drew).drew).drew) ht.grown (fun k hk=>by cases hk;exact Or.inl rfl)
 have k10:ae (fun i=>i=bd∨i=bm∨i=bc) wr (w9.setCell ⟨bc,d.kind,none⟩ (.int .i64 z)):=(k9.mono (T:=fun i=>i=bd∨i=bm∨i=bc) (fun i e=>e.elim Or.inl (fun e=>Or.inr (Or.inl e)))).setCell (p:=⟨bc,d.kind,none⟩) (Or.inl (Or.inr (Or.inr rfl))) _
 have hgnl:=g.nl
 have hgml:=g.ml
 have hgcl:=g.cl
 have hgck:=g.ck
 have hsz:=h.kp.size
 have hS:∀i,(i=bd∨i=bm∨i=bc)→i< bk+1:=fun i e=>by omega
 have hlt:=h.dl.len
 simp at hlt
 refine⟨h.nb.kept k10 (fun e=>by rcases e with e|e|e;exact hbo.2.1 e.symm;exact g.nm e;omega),?_,?_,h.mb.kept k10 (fun e=>by rcases e with e|e|e<;>omega),?_,h.fl.keep k10 (fun x hx e=>?_) (fun i e x=>?_),fun x hx=>(h.lc x hx).kept k10 (fun e=>?_),?_,?_,fun j hj=>?_,fun x hx=>h.kd x (by simp[hx])⟩
 ·simp only[List.length_append,List.length_singleton]
  exact hT.kept ((ae.refl (ao bc) w9).set1 d.kind _) (fun e=>by have:bm=bc:=e;omega)
 ·have h1:an w9 bc (wI c):=h.cb.kept k9 (fun e=>by rcases e with e|e<;>omega)
  have h2:=h1.set d.kind (.int .i64 z) (show d.kind< 3 by omega)
  rw[wH c d.kind hk3 z hz]at h2
  exact h2
 ·have hd2:iG (w9.setCell ⟨bc,d.kind,none⟩ (.int .i64 z)) (F done.length) bd {d with num:=c d.kind}:=by
   refine hrep.num k10 (fun i hi=>⟨by have:=(g.fo _ i hi).1;omega,fun e=>?_⟩) (fun A hA hs=>?_)
   ·have:=g.fo _ i hi
    rcases e with e|e|e
    ·exact e
    ·exact absurd e this.2.2
    ·omega
   ·exact((hA.set 3 _ hs).kept kb hbo.2.2).setO bc d.kind _ (by omega)
  have:=h.dl.set k10 hbd hd2 (fun j i hj hi=>by
   have hi2:=g.fo j i hi
   refine⟨by omega,fun e=>?_⟩
   rcases e with e|e|e
   ·subst e;exact hj (g.dj j _ _ hi hFbd)
   ·exact hi2.2.2 e
   ·omega)
  rw[List.set_append_right _ _ (by omega)]at this
  simpa using this
 ·have:=(h.fl.ge x.bf (dp hx).1).1
  have:=hS _ e
  omega
 ·have:=(h.fl.own.lt i e).1
  have:=hS _ x
  omega
 ·have:=(h.fl.ge x.bl (dp hx).2).1
  have:=hS _ e
  omega
 ·rw[h.eq,cq,if_neg (by rw[hf];simp),if_neg hc]
  cases cq (putF f d.name (d.kind,c d.kind)) (my c d.kind) rest with
  |error e=>rfl
  |ok x=>simp
 ·refine h.kp.trans' k10 (fun i e=>?_)
  rcases e with e|e|e
  ·exact Or.inl (Or.inr (Or.inr ⟨_,e▸hFbd⟩))
  ·exact Or.inl (Or.inr (Or.inl e))
  ·exact Or.inr (by omega)
 ·unfold my
  have:=h.cl j hj
  split
  ·rename_i e;subst e;have:=h.cl _ hj;omega
  ·exact this
theorem DI.fun{w3:World}{bd m:Nat}{p3:Option Addr}{c3:Nat}{d:Pd}(h:DI w wr bn bm bp bc bk F bds R (done++[d]) rest f c ks fs fv)(g:DF w bn bm bc bk F)(hbd:bds[m]?=some bd)(k:ae (fun i=>fv.ownBlock=some i) (((wr.alloc (.map #[] 0)).alloc (.cells #[ak bd,.map (some wr.heap.size)] 102)).alloc (.cells #[ak (wr.heap.size+1)] 91)) w3)
  (own:w3.ownsRow (bk+1) 91 1 (.slice p3 (fs.length+1) c3) (fs.length+1) (dW (fs.map (·.bf))++[ak (wr.heap.size+1)])) (hwh:Value.ownBlock (.slice p3 (fs.length+1) c3)=fv.ownBlock∨∃q,Value.ownBlock (.slice p3 (fs.length+1) c3)=some q∧wr.heap.size+2≤q):
  DI w (w3.setCell ⟨bn,2,none⟩ (.slice p3 (fs.length+1) c3)) bn bm bp bc bk F bds R (done++[d]) rest f c (ks++[m]) (fs++[⟨wr.heap.size+1,wr.heap.size,bd⟩]) (.slice p3 (fs.length+1) c3):=by
 have hgnl:=g.nl
 have hgml:=g.ml
 have hgcl:=g.cl
 have hgck:=g.ck
 have hsz:=h.kp.size
 have hkl:=h.mb.lt
 have ka:ae (fun i=>fv.ownBlock=some i) wr w3:=((((ae.refl (fun i=>fv.ownBlock=some i) wr).alloc _).alloc _).alloc _).trans k
 have kb:ae (fun i=>i=bn∨fv.ownBlock=some i) wr (w3.setCell ⟨bn,2,none⟩ (.slice p3 (fs.length+1) c3)):=(ka.mono (T:=fun i=>i=bn∨fv.ownBlock=some i) (fun i e=>Or.inr e)).setCell (p:=⟨bn,2,none⟩) (Or.inl (Or.inl rfl)) _
 have hge:∀i,fv.ownBlock=some i→bk+1≤i∧i< wr.heap.size:=fun i e=>h.fl.own.lt i e
 have hno:∀i,i< bk+1→i≠bn→¬(i=bn∨fv.ownBlock=some i):=fun i hi hn e=>by
  rcases e with e|e
  ·exact hn e
  ·have:=(hge i e).1;omega
 have hs3:wr.heap.size+3≤w3.heap.size:=by have:=k.size;simpa using this
 have hss:(w3.setCell ⟨bn,2,none⟩ (.slice p3 (fs.length+1) c3)).heap.size=w3.heap.size:=by simp[World.setCell]
 have hb1:an (w3.setCell ⟨bn,2,none⟩ (.slice p3 (fs.length+1) c3)) (wr.heap.size+1) #[ak bd,.map (some wr.heap.size)]:=by
  have h1:an ((wr.alloc (.map #[] 0)).alloc (.cells #[ak bd,.map (some wr.heap.size)] 102)) (wr.heap.size+1) #[ak bd,.map (some wr.heap.size)]:=an.newAt _ _ _ _ (by simp)
  exact((h1.alloc _).kept k (fun e=>by have:=(hge _ e).2;omega)).setO bn 2 _ (by omega)
 have hl1:dF (w3.setCell ⟨bn,2,none⟩ (.slice p3 (fs.length+1) c3)) wr.heap.size 0 (fun _=>none):=by
  have h1:=dF.made wr
  have h2:=h1.kept (S:=fun i=>fv.ownBlock=some i) ((((ae.refl _ _).alloc (.cells #[ak bd,.map (some wr.heap.size)] 102)).alloc (.cells #[ak (wr.heap.size+1)] 91)).trans k) (fun e=>by have:=(hge _ e).2;omega)
  exact h2.kept ((ae.refl (ao bn) w3).set1 2 _) (fun e=>by have:wr.heap.size=bn:=e;omega)
 refine⟨?_,h.th.kept kb (hno _ (by omega) (fun e=>g.nm e.symm)),h.cb.kept kb (hno _ (by omega) (by omega)),h.mb.kept kb (hno _ (by omega) (by omega)),h.dl.keep kb (fun j i hi=>?_),⟨?_,?_,?_,?_,by simp[h.fl.len],?_⟩,?_,h.eq,?_,h.cl,h.kd⟩
 ·exact(h.nb.kept ka (fun e=>by have:=(hge _ e).1;omega)).set 2 _ (show 2< 5 by decide)
 ·have:=g.fo j i hi
  exact⟨by omega,hno i (by omega) this.2.1⟩
 ·have:=aJ (b:=bn) own 2 (.slice p3 (fs.length+1) c3) (by omega)
  simpa[dW]using this
 ·intro x hx
  rcases List.mem_append.1 hx with hx|hx
  ·refine(h.fl.blk x hx).kept kb (fun e=>?_)
   have:=h.fl.ge _ (dp hx).1
   rcases e with e|e
   ·omega
   ·exact this.2.2 e
  ·simp at hx;subst hx;exact hb1
 ·rw[qP]
  rw[List.nodup_append]
  refine⟨h.fl.nd,by simp,fun a ha b hb e=>?_⟩
  have:=(h.fl.ge a ha).2.1
  simp at hb
  omega
 ·intro i hi
  rw[qP]at hi
  rw[hss]
  rcases List.mem_append.1 hi with hi|hi
  ·have:=h.fl.ge i hi
   refine⟨this.1,by omega,fun e=>?_⟩
   rcases hwh with x|⟨q,x,y⟩
   ·rw[x]at e;exact this.2.2 e
   ·rw[x]at e;simp at e;omega
  ·simp at hi
   refine⟨by omega,by omega,fun e=>?_⟩
   rcases hwh with x|⟨q,x,y⟩
   ·rw[x]at e;have:=(hge i e).2;omega
   ·rw[x]at e;simp at e;omega
 ·intro j k x hj hx
  by_cases e:j< ks.length
  ·rw[List.getElem?_append_left e]at hj
   rw[List.getElem?_append_left (by rw[←h.fl.len];exact e)]at hx
   exact h.fl.at_ j k x hj hx
  ·rw[List.getElem?_append_right (by omega)]at hj
   rw[List.getElem?_append_right (by have:=h.fl.len;omega)]at hx
   have h1:=(List.getElem?_eq_some_iff.1 hj).1
   simp at h1
   have e1:j-ks.length=0:=by omega
   have e2:j-fs.length=0:=by have:=h.fl.len;omega
   rw[e1]at hj
   rw[e2]at hx
   simp at hj hx
   subst hj hx
   exact hbd
 ·intro x hx
  rcases List.mem_append.1 hx with hx|hx
  ·refine(h.lc x hx).kept kb (fun e=>?_)
   have:=h.fl.ge _ (dp hx).2
   rcases e with e|e
   ·omega
   ·exact this.2.2 e
  ·simp at hx;subst hx;exact hl1
 ·exact h.kp.trans' kb (fun i e=>by
   rcases e with e|e
   ·exact Or.inl (Or.inl e)
   ·exact Or.inr (by have:=(hge i e).1;omega))
end
end
end Go.Proofs.YtmdaflepdaiabaaGreatDoor
